import PyProof.Rows.All
import Wide.All
import OpenK.AllK
import Wide.FinOn
import Lean
import PyProof.EqAt
import PyProof.EqKinds
import PyProof.TupleCall
import PyProof.NeKinds
import PyProof.ZipIter
import PyProof.ReprRoads
import Wide.Words
import PyProof.Rows.MinMaxN
import KE.KIntText
import PyProof.StrWalks
import PyProof.StrLawsJoin
import KE.KSortKey
import KE.KDictOf
import KE.KItemsList
import PyProof.AttrMissHeap
import KE.KRevIter
import PyProof.EnumMake
import PyProof.EnumFor
import PyProof.WalksEnum
import PyProof.Rows.EnumRows
import PyProof.FactsAll.range_2
import PyProof.AutoRange
import PySem.Challenge.RW_healhalves_k36_whole_better_by_every_los
set_option bootstrap.genMatcherCode false
set_option compiler.extract_closed false
set_option linter.all false
def wA:=@Option.map_eq_some_iff
def wB:=@Bool.and_eq_true
def wC:=@List.getElem?_eq_some_iff
def wD:=@List.getElem?_append_left
def wE:=@List.getElem?_eq_getElem
def wF:=@Nat.le_refl
def wG:=@Nat.lt_of_lt_of_le
def wH:=@Option.bind_eq_some_iff
def wI:=@List.mem_cons_of_mem
def wJ:=@List.size_toArray
def wK:=@List.mem_cons_self
def wL:=@Nat.le_trans
def wM:=@List.mem_range
def wN:=@List.mem_append
def wO:=@List.getElem?_append_right
def wP:=@List.mem_cons
def wQ:=@List.mem_append_left
def wR:=@List.getD_eq_getElem?_getD
def wS:=@List.all_eq_true
def wT:=@List.mem_append_right
def wU:=@List.mem_of_getElem?
def wV:=@List.append_nil
def wW:=@List.length_map
def wX:=@List.length_append
def wY:=@List.mem_singleton
def wZ:=@Nat.ne_of_lt
def wa:=@List.getElem?_set_ne
def wb:=@List.forall_mem_cons
def wd:=@List.getElem?_concat_length
def we:=@Nat.lt_irrefl
def wg:=@List.getElem?_map
def wj:=@List.append_assoc
def wk:=@List.getElem?_set_self
def wl:=@List.not_mem_nil
def wm:=@List.length_eq_zero_iff
def wn:=@Bool.false_ne_true
def wo:=@Nat.lt_of_le_of_lt
def wp:=@List.getElem?_take_of_lt
def wq:=@Bool.eq_iff_iff
def wt:=@List.getElem?_eq_none
def wu:=@List.length_filter_le
def wv:=@List.pairwise_cons
def wx:=@Nat.lt_trans
def wy:=@Nat.pow_le_pow_right
def wz:=@List.getLast?_eq_some_getLast
def vA:=@List.length_range
def vB:=@List.nodup_append
def vC:=@Nat.add_sub_cancel_left
def vD:=@List.dropLast_concat_getLast
def vE:=@Array.length_toList
def vF:=@List.drop_eq_nil_of_le
def vG:=@Bool.false_eq_true
def vH:=@List.lookup_append
def vI:=@List.mapM_cons
def vJ:=@List.drop_eq_getElem_cons
def vK:=@Bool.or_eq_true
def vL:=@List.map_append
def vM:=@Nat.min_eq_left
def vN:=@Nat.le_of_lt
def vO:=@List.reverse_cons
def vP:=@Int.mul_comm
def vQ:=@Nat.pow_succ
def vR:=@Option.isSome_iff_exists
def vS:=@List.filter_cons_of_pos
def vT:=@Nat.pow_pos
def vU:=@List.take_of_length_le
def vV:=@List.mem_filter
def vW:=@List.nodup_cons
def vX:=@Int.toNat_natCast
def vY:=@Int.fdiv_eq_ediv_of_nonneg
def vZ:=@List.mem_iff_getElem
def va:=@List.length_take
def vb:=@Nat.lt_succ_self
def vc:=@List.getElem_mem
def vd:=@Nat.le_add_right
def ve:=@List.mem_map
def vf:=@List.getElem?_range
def vg:=@Bool.and_true
def vh:=@List.filter_cons_of_neg
def vi:=@Option.isSome_map
def vj:=@Bool.not_eq_true'
def vm:=@List.nodup_nil
def vn:=@List.pairwise_map
def vo:=@Option.getD_some
def vp:=@Nat.min_eq_right
def vq:=@List.range_eq_range'
def vt:=@List.take_left'
def vv:=@Nat.mod_lt
def vw:=@Nat.zero_le
open PySem PySem.Spec in def vy:=@wpAny_bind
open PySem PySem.Spec in def vz:=@wpAny_pure
def uA:=@decide_eq_false
def uB:=@decide_eq_true
def uC:=@decide_eq_true_eq
def uD:=@of_decide_eq_true
open PySem PySem.Spec in def uE:=@wpAny_truthy_bool
def uF:=@beq_self_eq_true
set_option genSizeOf false
set_option genSizeOfSpec false
set_option Elab.async false
set_option maxRecDepth 100000
namespace _L
open PySem PySem.Spec PyProof.Rows
noncomputable abbrev Key:=Sum Int Str
noncomputable def S4:Key->Value->Bool
 | .inl k,v=>Value.isInt k v
 | .inr x,v=>Value.isStrOf x v
noncomputable def qHg(w:World):Key->Int
 | .inl k=>hashInt k
 | .inr x=>hashStr w x
theorem zV:∀{k:Key}{v:Value},S4 k v=true->(∃i t,k=Sum.inl i/\v=Value.int i t)\/(∃x t,k=Sum.inr x/\v=Value.str x t)
 | .inl i,v,h=>by
  obtain⟨t,e⟩:=Value.isInt_shape (k:=i) (v:=v) h;exact .inl ⟨i,t,rfl,e⟩
 | .inr x,v,h=>by
  obtain⟨t,e⟩:=Value.isStrOf_shape (x:=x) (v:=v) h;exact .inr ⟨x,t,rfl,e⟩
theorem X9(i:Int)(t:Tok):S4 (.inl i) (.int i t)=true:=by simp[S4,Value.isInt]
theorem Z2(x:Str)(t:Tok):S4 (.inr x) (.str x t)=true:=by simp[S4,Value.isStrOf]
theorem qDx(a b:Int):decide ((Sum.inl a:Key)=Sum.inl b)=(a==b):=by
 by_cases e:a=b
 ·subst e;simp
 ·have h:¬ (Sum.inl a:Key)=Sum.inl b:=λq=>e (Sum.inl.inj q);rw[uA h];exact(beq_eq_false_iff_ne.mpr e).symm
theorem qDy(a b:Str):decide ((Sum.inr a:Key)=Sum.inr b)=decide (a=b):=by
 by_cases e:a=b
 ·subst e;simp
 ·have h:¬ (Sum.inr a:Key)=Sum.inr b:=λq=>e (Sum.inr.inj q);rw[uA h,uA e]
theorem qDR(a:Int)(b:Str):decide ((Sum.inl a:Key)=Sum.inr b)=false:=uA (λq=>nomatch q)
theorem qEr(a:Str)(b:Int):decide ((Sum.inr a:Key)=Sum.inl b)=false:=uA (λq=>nomatch q)
noncomputable def zo(prog:Program)(w:World):PySem.KeyKind prog w Key where
 is:=S4
 hash:=qHg w
 inj:=λv a b ha hb=>by
  rcases zV ha with⟨i,t,rfl,rfl⟩|⟨x,t,rfl,rfl⟩
  ·rcases zV hb with⟨j,u,rfl,e⟩|⟨y,u,rfl,e⟩
   ·injection e with e1 _;rw[e1]
   ·exact nomatch e
  ·rcases zV hb with⟨j,u,rfl,e⟩|⟨y,u,rfl,e⟩
   ·exact nomatch e
   ·injection e with e1 _;rw[e1]
 byValue:=λk v h=>by
  rcases zV h with⟨i,t,rfl,rfl⟩|⟨x,t,rfl,rfl⟩<;>rfl
 pyHash:=λhv h=>by
  rcases zV hv with⟨i,t,rfl,rfl⟩|⟨x,t,rfl,rfl⟩
  ·exact wpAny_pyHash_int h
  ·exact wpAny_pyHash_str h
 eqBool:=λhu hv h=>by
  rcases zV hu with⟨i,t,rfl,rfl⟩|⟨x,t,rfl,rfl⟩
  ·rcases zV hv with⟨j,u,rfl,rfl⟩|⟨y,u,rfl,rfl⟩
   ·rw[qDx]at h;exact wpAny_eqBool_int h
   ·rw[qDR]at h;exact SeqAt.EqAt.int_str i t y u _ _ _ _ h
  ·rcases zV hv with⟨j,u,rfl,rfl⟩|⟨y,u,rfl,rfl⟩
   ·rw[qEr]at h;exact SeqAt.EqAt.str_int x t j u _ _ _ _ h
   ·rw[qDy]at h;exact wpAny_eqBool_str h
 «strs»:=λk x t v h=>by
  rcases zV h with⟨i,u,rfl,e⟩|⟨y,u,rfl,e⟩
  ·exact nomatch e
  ·injection e with e1 _;subst e1;cases v<;>rfl
theorem K1(prog:Program)(w:World)(i:Int)(t:Tok):(zo prog w).is (.inl i) (.int i t)=true:=X9 i t
theorem K7(prog:Program)(w:World)(x:Str)(t:Tok):(zo prog w).is (.inr x) (.str x t)=true:=Z2 x t
inductive V where
 |non|bl (b:Bool)|int (i:Int)|str (x:Str)|byt (b:Array UInt8)|flt (b:UInt64)|ref (a:Addr)|ty (n:String)
 deriving DecidableEq
def RelV:V->Value->Prop
 | .non,u=>u=Value.none
 | .bl b,u=>u=Value.bool b
 | .int i,u=>∃t,u=Value.int i t
 | .str x,u=>∃t,u=Value.str x t
 | .byt b,u=>∃t,u=Value.bytes b t
 | .flt b,u=>∃t,u=Value.float b t
 | .ref a,u=>u=Value.ref a
 | .ty n,u=>u=Value.type n
abbrev Vals:List V->List Value->Prop:=Paired RelV
theorem Vals.length{xs:List V}{us:List Value}(r:Vals xs us):xs.length=us.length:=Paired.length r
theorem Vals.get:∀{xs:List V}{us:List Value}{i:Nat}{x:V},Vals xs us->xs[i]?=some x->∃u,us[i]?=some u/\RelV x u
 |_,_,_,_,.nil,e=>by simp at e
 |_,_,0,_,.cons r _,e=>by simp at e;subst e;exact⟨_,rfl,r⟩
 |_,_,i+1,x,.cons _ t,e=>by
  obtain⟨u,h1,h2⟩:=Vals.get (i:=i) (x:=x) t (by simpa using e);exact⟨u,by simpa using h1,h2⟩
theorem Vals.set{x:V}{u:Value}(r:RelV x u):∀{xs:List V}{us:List Value}(i:Nat),Vals xs us->Vals (xs.set i x) (us.set i u)
 |_,_,_,.nil=>.nil
 |_,_,0,.cons _ t=>.cons r t
 |_,_,i+1,.cons q t=>.cons q (Vals.set r i t)
theorem Vals.append:∀{xs ys:List V}{us ws:List Value},Vals xs us->Vals ys ws->Vals (xs++ys) (us++ws)
 |_,_,_,_,.nil,s=>s
 |_,_,_,_,.cons r t,s=>.cons r (Vals.append t s)
theorem Vals.take:∀{xs:List V}{us:List Value}(n:Nat),Vals xs us->Vals (xs.take n) (us.take n)
 |_,_,0,_=>.nil
 |_,_,_+1,.nil=>.nil
 |_,_,n+1,.cons r t=>.cons r (Vals.take n t)
theorem Vals.drop:∀{xs:List V}{us:List Value}(n:Nat),Vals xs us->Vals (xs.drop n) (us.drop n)
 |_,_,0,r=>r
 |_,_,_+1,.nil=>.nil
 |_,_,n+1,.cons _ t=>Vals.drop n t
def RelO:Option V->Option Value->Prop
 |some v,some u=>RelV v u
 |none,none=>True
 |_,_=>False
def KV{κ:Type}:List (κ×V)->List (κ×Value)->Prop:=Paired λ(p:κ×V) (q:κ×Value)=>p.1=q.1/\RelV p.2 q.2
noncomputable def kV:Key->V
 | .inl i=>.int i
 | .inr x=>.str x
inductive HO where
 |lst (xs:List V)
 |tup (xs:List V)
 |dK (kvs:List (Key×V))|dT (kvs:List (List Key×V))
 |set (S:Int->Bool) (n:Nat)
 |ins (C dx:Addr) (fs:List (Str×V))
 |own (x:Addr)
 |xd (fs:List (Str×V))
 |met (f x:Addr)
 |rng (lo hi:Int)
 |frz (o:Obj) (u:HO)
 |tbl (ps:Array Value)
 |ext (φ:Heap->Prop)
noncomputable abbrev Hp:=Addr->Option HO
noncomputable def upd(H:Hp)(a:Addr)(o:HO):Hp:=λb=>if b=a then some o else H b
theorem qI{H:Hp}{a:Addr}{o:HO}:upd H a o a=some o:=by unfold upd;rw[if_pos rfl]
theorem qG{H:Hp}{a b:Addr}{o:HO}(h:b≠a):upd H a o b=H b:=by unfold upd;rw[if_neg h]
theorem qGE{H:Hp}{a b:Addr}{o u:HO}(h:H a=some o)(h':H b=some u)(d:o≠u):a≠b:=by
 intro e;subst e;rw[h]at h';exact d (Option.some.inj h')
theorem ne_of_none{H:Hp}{a b:Addr}{o:HO}(h:H a=some o)(h':H b=none):a≠b:=by
 intro e;subst e;rw[h]at h';cases h'
section
variable (P:Program)(w:World)
def ObjOk(H:Hp)(h:Heap)(a:Addr):HO->Prop
 | .lst xs=>xs.length<=sizeLine/\∃(its:List Value) (n:Nat),Vals xs its/\h.get? a=some { cls:=.type "list",data:=.seq its.toArray n }
 | .tup xs=>xs.length<=sizeLine/\∃its:List Value,Vals xs its/\IsTup h a its.toArray
 | .dK kvs=>kvs.length<=sizeLine/\(a==sysModules)=false/\∃vs,KV kvs vs/\h.DictOf (zo P w) a vs
 | .dT kvs=>kvs.length<=sizeLine/\(a==sysModules)=false/\∃xs:List (List Key×Addr×Value),
   Paired (λ(p:List Key×V) (q:List Key×Addr×Value)=>p.1=q.1/\H q.2.1=some (.tup (p.1.map kV))/\RelV p.2 q.2.2) kvs xs/\
   ∃o es ep,h.get? a=some o/\o.ExactDict/\o.data=.dict es ep/\es.toList=xs.map (entryOfKey (tupleKind (zo P w)))/\(xs.map (·.1)).Nodup
 | .set S n=>h.SetOf (intKind P w) a S n
 | .ins C dx fs=>H dx=some (.own a)/\fs.length<=1000/\dx≠a/\h.get? a=some (PySem.W.instObj C dx)/\
   ∃mA,h.Ns1 dx mA/\(∀f,RelO (fs.lookup f) (mA f))/\PySem.Within mA (fs.map (·.1))
 | .own _=>∃o,h.get? a=some o
 | .xd fs=>∃mA,h.Ns1 a mA/\∀f,RelO (fs.lookup f) (mA f)
 | .rng lo hi=>∃t u v,h.get? a=some { cls:=.type "range",data:=.fields #[.int lo t,.int hi u,.int 1 v] }
 | .frz o u=>h.get? a=some o/\ObjOk H h a u
 | .tbl ps=>h.get? a=some { cls:=.none,data:=.fields ps }
 | .met f x=>h.get? a=some (PySem.W.methodObj (.ref f) (.ref x))
 | .ext φ=>φ h/\(∃o,h.get? a=some o)/\∀h1 h2:Heap,φ h1->(∀o,h1.get? a=some o->h2.get? a=some o)->φ h2
def HOk(H:Hp)(h:Heap):Prop:=∀a o,H a=some o->ObjOk P w H h a o
end
section
variable{P:Program}{w:World}{H H':Hp}{h h':Heap}{a:Addr}{o:HO}
theorem ObjOk.lt(x:ObjOk P w H h a o):a<h.objs.size:=by
 cases o with
 |lst xs=>obtain⟨_,_,_,_,e⟩:=x;exact Heap.lt_size e
 |tup xs=>obtain⟨_,_,_,p⟩:=x;exact p.lt
 |dK kvs=>obtain⟨_,_,_,_,o,_,_,e,_⟩:=x;exact Heap.lt_size e
 |dT kvs=>obtain⟨_,_,_,_,o,_,_,e,_⟩:=x;exact Heap.lt_size e
 |set S n=>obtain⟨o,_,_,_,e,_⟩:=x;exact Heap.lt_size e
 |ins C dx fs=>obtain⟨_,_,_,e,_⟩:=x;exact Heap.lt_size e
 |own y=>obtain⟨_,e⟩:=x;exact Heap.lt_size e
 |xd fs=>obtain⟨_,⟨_,_,_,e,_⟩,_⟩:=x;exact Heap.lt_size e
 |rng lo hi=>obtain⟨_,_,_,e⟩:=x;exact Heap.lt_size e
 |frz ob u=>obtain⟨e,_⟩:=x;exact Heap.lt_size e
 |tbl ps=>exact Heap.lt_size (show h.get? a=some _ from x)
 |met f y=>exact Heap.lt_size (show h.get? a=some _ from x)
 |ext φ=>obtain⟨_,⟨_,e⟩,_⟩:=x;exact Heap.lt_size e
theorem Paired.mapP{α β:Type}{F G:α->β->Prop}:∀{l₁:List α}{l₂:List β},Paired F l₁ l₂->(∀a b,F a b->G a b)->Paired G l₁ l₂
 |_,_,.nil,_=>.nil
 |_,_,.cons r t,f=>.cons (f _ _ r) (Paired.mapP t f)
theorem ObjOk.stay(x:ObjOk P w H h a o)(k:∀b u,(b=a\/H b=some (.own a))->h.get? b=some u->h'.get? b=some u)
  (ho:∀b,H b=some (.own a)->H' b=some (.own a)) (ht:∀b xs,H b=some (.tup xs)->H' b=some (.tup xs)):ObjOk P w H' h' a o:=by
 induction o with
 |lst xs=>obtain⟨z,its,n,r,e⟩:=x;exact⟨z,its,n,r,k _ _ (.inl rfl) e⟩
 |tup xs=>obtain⟨z,its,r,ob,e,c⟩:=x;exact⟨z,its,r,ob,k _ _ (.inl rfl) e,c⟩
 |dK kvs=>obtain⟨z,y,vs,r,ob,es,ep,e,c⟩:=x;exact⟨z,y,vs,r,ob,es,ep,k _ _ (.inl rfl) e,c⟩
 |dT kvs=>
  obtain⟨z,y,xs,r,ob,es,ep,e,c⟩:=x;exact⟨z,y,xs,Paired.mapP r λp q z=>⟨z.1,ht _ _ z.2.1,z.2.2⟩,ob,es,ep,k _ _ (.inl rfl) e,c⟩
 |set S n=>obtain⟨ob,es,ep,t,e,c⟩:=x;exact⟨ob,es,ep,t,k _ _ (.inl rfl) e,c⟩
 |ins C dx fs=>
  obtain⟨d,z,ne,e,mA,⟨od,es,ep,e2,c⟩,r⟩:=x;exact⟨ho _ d,z,ne,k _ _ (.inl rfl) e,mA,⟨od,es,ep,k _ _ (.inr d) e2,c⟩,r⟩
 |own y=>obtain⟨ob,e⟩:=x;exact⟨ob,k _ _ (.inl rfl) e⟩
 |xd fs=>obtain⟨mA,⟨od,es,ep,e,c⟩,r⟩:=x;exact⟨mA,⟨od,es,ep,k _ _ (.inl rfl) e,c⟩,r⟩
 |rng lo hi=>obtain⟨t,u,v,e⟩:=x;exact⟨t,u,v,k _ _ (.inl rfl) e⟩
 |frz ob u ih=>obtain⟨e,q⟩:=x;exact⟨k _ _ (.inl rfl) e,ih q⟩
 |tbl ps=>
  have e:h.get? a=some { cls:=.none,data:=.fields ps }:=x;show h'.get? a=some { cls:=.none,data:=.fields ps };exact k a _ (.inl rfl) e
 |met f y=>
  have e:h.get? a=some (PySem.W.methodObj (.ref f) (.ref y)):=x;show h'.get? a=some (PySem.W.methodObj (.ref f) (.ref y));exact k a _ (.inl rfl) e
 |ext φ=>obtain⟨p,⟨o,e⟩,st⟩:=x;exact⟨st _ _ p λo q=>k _ _ (.inl rfl) q,⟨o,k _ _ (.inl rfl) e⟩,st⟩
theorem HOk.lt(x:HOk P w H h)(e:H a=some o):a<h.objs.size:=(x a o e).lt
theorem HOk.fresh(x:HOk P w H h)(e:h.objs.size<=a):H a=none:=by
 cases q:H a with
 |none=>rfl
 |some u=>exact absurd (wG (x.lt q) e) (we _)
theorem HOk.kept(x:HOk P w H h)(k:∀b u,h.get? b=some u->h'.get? b=some u):HOk P w H h':=λa o e=>
 (x a o e).stay (λb u _ q=>k b u q) (λ_ q=>q) λ_ _ q=>q
theorem HOk.laid(x:HOk P w H h)(k:∀b u,h.get? b=some u->h'.get? b=some u)(hp:h.objs.size<=a)(new:ObjOk P w (upd H a o) h' a o):HOk P w (upd H a o) h':=λb u e=>by
 have hn:=x.fresh hp;by_cases hb:b=a
 ·subst hb;rw[qI]at e;cases e;exact new
 ·rw[qG hb]at e;exact(x b u e).stay (λc v _ q=>k c v q) (λc q=>by rw[qG (ne_of_none q hn)];exact q) λc xs q=>by rw[qG (ne_of_none q hn)];exact q
end
def Rd(H:Hp)(a:Addr)(u:HO):Prop:=H a=some u\/∃o,H a=some (.frz o u)
theorem Rd.ok{P:Program}{w:World}{H:Hp}{h:Heap}{a:Addr}{u:HO}(r:Rd H a u)(x:HOk P w H h):ObjOk P w H h a u:=by
 rcases r with r|⟨o,r⟩
 ·exact x a u r
 ·obtain⟨_,q⟩:=x a _ r;exact q
def Mut:Option HO->Prop
 |some (.lst _)=>True
 |some (.dK _)=>True
 |some (.dT _)=>True
 |some (.set _ _)=>True
 |some (.ins _ _ _)=>True
 |some (.ext _)=>True
 |_=>False
section
variable{P:Program}{w:World}{H:Hp}{h h':Heap}{x e:Addr}{o':HO}
theorem HOk.write(ok:HOk P w H h)(mu:Mut (H x))(he:e=x\/H e=some (.own x))(k:∀b u,b≠e->h.get? b=some u->h'.get? b=some u)(heo:∃u,h'.get? e=some u)
  (new:ObjOk P w (upd H x o') h' x o'):HOk P w (upd H x o') h':=λb u q=>by
 have nown:∀c y,H c=some (.own y)->c≠x:=λc y r z=>by subst z;rw[r]at mu;exact mu
 have ntup:∀c xs,H c=some (.tup xs)->c≠x:=λc xs r z=>by subst z;rw[r]at mu;exact mu
 by_cases hb:b=x
 ·subst hb;rw[qI]at q;cases q;exact new
 ·rw[qG hb]at q;by_cases hbe:b=e
  ·have q':H b=some (.own x):=by
    rcases he with z|z
    ·exact absurd (hbe.trans z) hb
    ·rw[hbe];exact z
   rw[q]at q';cases q';obtain⟨v,hv⟩:=heo;exact⟨v,by rw[hbe];exact hv⟩
  ·refine(ok b u q).stay (λc v hc r=>k c v ?_ r) (λc r=>by rw[qG (nown c b r)];exact r) λc xs r=>by rw[qG (ntup c xs r)];exact r
   rcases hc with rfl|hc
   ·exact hbe
   ·rintro rfl;rcases he with z|z
    ·exact nown c b hc z
    ·rw[hc]at z;cases z;exact hb rfl
end
structure Un(fs ex:List Addr)(H H':Hp)(h h':Heap):Prop where
 keep:∀b o,h.get? b=some o->H b=none->b∉fs->b∉ex->h'.get? b=some o
 slot:∀b o,h.get? b=some o->H b=none->b∈fs->b∉ex->∃sl,h'.get? b=some { o with slots:=sl }
 free:∀b o,h.get? b=some o->H b=none->b∉ex->H' b=none
 there:∀b o,h.get? b=some o->b∉ex->∃o',h'.get? b=some o'
 tups:∀b xs,H b=some (.tup xs)->H' b=some (.tup xs)
 frzs:∀b o u,H b=some (.frz o u)->H' b=some (.frz o u)
 tbls:∀b ps,H b=some (.tbl ps)->∃more,H' b=some (.tbl (ps++more))
section
variable{fs fs' ex ex':List Addr}{H H1 H2:Hp}{h h1 h2 h':Heap}{a x e:Addr}{o:HO}
theorem Un.any(u:Un fs ex H H1 h h1){b:Addr}{ob:Obj}(q:h.get? b=some ob)(n:H b=none)(hx:b∉ex):∃sl,h1.get? b=some { ob with slots:=sl }:=by
 by_cases hb:b∈fs
 ·exact u.slot b ob q n hb hx
 ·exact⟨ob.slots,u.keep b ob q n hb hx⟩
theorem Un.kept(k:∀b u,h.get? b=some u->h'.get? b=some u):Un fs ex H H h h':=
 ⟨λb ob q _ _ _=>k b ob q,λb ob q _ _ _=>⟨ob.slots,k b ob q⟩,λ_ _ _ n _=>n,λb ob q _=>⟨ob,k b ob q⟩,λ_ _ q=>q,λ_ _ _ q=>q,λ_ ps q=>⟨#[],by rw[q];simp⟩⟩
theorem Un.refl:Un fs ex H H h h:=Un.kept λ_ _ q=>q
theorem Un.laid(k:∀b u,h.get? b=some u->h'.get? b=some u)(hp:h.objs.size<=a)(hn:H a=none):Un fs ex H (upd H a o) h h' where
 keep:=λb u q _ _ _=>k b u q
 slot:=λb u q _ _ _=>⟨u.slots,k b u q⟩
 free:=λb u q n _=>by rw[qG (wZ (wG (Heap.lt_size q) hp))];exact n
 there:=λb u q _=>⟨u,k b u q⟩
 tups:=λb xs q=>by rw[qG (ne_of_none q hn)];exact q
 frzs:=λb u xs q=>by rw[qG (ne_of_none q hn)];exact q
 tbls:=λb ps q=>⟨#[],by rw[qG (ne_of_none q hn),q];simp⟩
theorem Un.write(mu:Mut (H x))(he:e=x\/H e=some (.own x))(k:∀b u,b≠e->h.get? b=some u->h'.get? b=some u)(heo:∃u,h'.get? e=some u):Un fs ex H (upd H x o) h h':=by
 have hx:∀b,H b=none->b≠x:=λb n z=>by subst z;rw[n]at mu;exact mu
 have hb:∀b,H b=none->b≠e:=λb n z=>by
  subst z;rcases he with r|r
  ·exact hx b n r
  ·rw[n]at r;cases r
 have hm:∀b u,H b=some u->¬ Mut (some u)->b≠x:=λb u q nm z=>by subst z;rw[q]at mu;exact nm mu
 refine⟨λb u q n _ _=>k b u (hb b n) q,λb u q n _ _=>⟨u.slots,k b u (hb b n) q⟩,λb u q n _=>by rw[qG (hx b n)];exact n,λb u q _=>?_,
  λb xs q=>by rw[qG (hm b _ q λz=>z)];exact q,λb u xs q=>by rw[qG (hm b _ q λz=>z)];exact q,λb ps q=>⟨#[],by rw[qG (hm b _ q λz=>z),q];simp⟩⟩
 by_cases hbe:b=e
 ·subst hbe;exact heo
 ·exact⟨u,k b u hbe q⟩
end
noncomputable def trk(h:Heap)(H:Hp):List Addr:=(List.range h.objs.size).filter λa=>(H a).isSome
noncomputable def y3(h:Heap)(H:Hp):Heap:=PySem.W.hideAll h (trk h H)
theorem V2(h:Heap)(H:Hp):(y3 h H).objs.size=h.objs.size:=PySem.W.hideAll_size _ _
theorem z9{h:Heap}{H:Hp}{b:Addr}{o:Obj}(e:h.get? b=some o)(n:H b=none):(y3 h H).get? b=some o:=
 PySem.W.hideAll_get _ e λhm=>by
  have q:(H b).isSome=true:=(vV.mp hm).2;rw[n]at q;simp at q
theorem qBq{h:Heap}{H:Hp}{b:Addr}{o:Obj}(e:(y3 h H).get? b=some o):h.get? b=some o/\H b=none:=by
 have e':h.get? b=some o:=PySem.W.of_hideAll (trk h H) e;refine⟨e',?_⟩;cases q:H b with
 |none=>rfl
 |some x=>
  have hm:b∈trk h H:=vV.mpr ⟨wM.mpr (Heap.lt_size e'),by simp[q]⟩;have z:(y3 h H).get? b=none:=PySem.W.hideAll_none (trk h H) hm;rw[z]at e;cases e
noncomputable def qB5(g h:Heap)(L:Addr):List (Addr×Obj):=(List.range h.objs.size).filterMap λa=>if a=L\/(g.get? a).isSome=true then none else (h.get? a).map λo=>(a,o)
noncomputable def ZI(g h:Heap)(L d:Addr):List (Addr×Obj):=(qB5 g h L).filter λp=>decide (p.1≠d)
structure Mod(K:PySem.W.Frag)(mg:Str->Option Value)(base:Heap):Prop where
 kin:K.In base
 glob:base.Ns mainGlobals mg
 blt:∃mb,base.Ns builtinsNs mb/\∀x:Str,x≠"__name__" -> mb x=bootBuiltins x
 nolimit:base.NoLimit
set_option genInjectivity false in structure Cx where
 prog:Program
 w:World
 K:PySem.W.Frag
 mg:Str->Option Value
 base:Heap
 A:Around
 N:List Str
 s₀:Shared
 H₀:Hp
 env:Env
 outer:List Env
 stack:List Env
 ex:List Addr
 fn:Str->Bool
 calm:Bool
 pn:List (Addr×Obj)
 xe:Value->Shared->Prop
noncomputable def frs(l:List Env):List Addr:=l.filterMap (·.frame)
noncomputable abbrev Cx.fs(X:Cx):List Addr:=frs X.outer
def Vis(sc:Scope)(x:Str):Prop:=sc.names.lookup x=some .local\/sc.names.lookup x=some .cell\/sc.names.lookup x=some .free
def Loc(sc:Scope)(x:Str):Prop:=sc.names.lookup x=some .local\/sc.names.lookup x=some .cell
def qHP(env:Env)(h:Heap)(m:Str->Option Value)(x:Str)(u:Value):Prop:=
 (env.kindOf x=some .local/\m x=some u)\/((env.kindOf x=some .cell\/env.kindOf x=some .free)/\∃c,env.cells.lookup x=some c/\h.IsCell c (some u))
structure Cx.Ok(X:Cx):Prop where
 mod:Mod X.K X.mg X.base
 kind:X.env.scope.kind=.function
 glob:X.env.globals=mainGlobals
 blt:X.env.builtins=builtinsNs
 above:X.s₀.heap.objs.size<=X.env.locals
 inj:∀x y c,X.env.cells.lookup x=some c->X.env.cells.lookup y=some c->x=y
 has:∀x,(X.env.kindOf x=some .cell\/X.env.kindOf x=some .free)->∃c,X.env.cells.lookup x=some c
 cab:∀x c,X.fn x=true->X.env.cells.lookup x=some c->X.s₀.heap.objs.size<=c
 hd:X.calm=true->X.A.handled=none
 frames:X.A.frames=some X.stack
 stk:X.stack=X.outer\/(X.stack=X.env::X.outer/\X.env.frame=some X.env.locals)
 exf:∀b∈X.ex,b≠X.env.locals/\∀x c,X.env.cells.lookup x=some c->c≠b
 bs:∀b o,X.base.get? b=some o->X.s₀.heap.get? b=some o/\X.H₀ b=none
 bsz:X.base.objs.size<=X.s₀.heap.objs.size
 noex:∀b o,X.base.get? b=some o->b∉X.ex
 exfs:∀b∈X.ex,b∉X.fs
 funs:X.s₀.heap.FunFrames X.base X.outer
 frf:∀b∈X.fs,X.H₀ b=none
structure Inv(X:Cx)(pins:List (Addr×Obj))(σ:List (Option V))(H:Hp)(s:Shared):Prop where
 ok:X.Ok
 os:s.os=X.s₀.os
 bare:AllBare s.gens
 base:Un X.fs X.ex X.H₀ H X.s₀.heap s.heap
 loc:∃m,s.heap.Ns X.env.locals m/\∀(i:Nat) (x:Str) (v:V),X.N[i]?=some x->σ[i]?=some (some v)->Vis X.env.scope x->∃u,RelV v u/\qHP X.env s.heap m x u
 cell:∀x c,X.env.cells.lookup x=some c->∃v,s.heap.IsCell c v
 free:H X.env.locals=none
 freeC:∀x c,X.env.cells.lookup x=some c->H c=none
 pin:∀p∈X.pn++pins,s.heap.get? p.1=some p.2/\H p.1=none/\p.1≠X.env.locals/\p.1∉X.fs/\∀v,p.2.data≠.cell v
 hok:HOk X.prog X.w H s.heap
 len:σ.length=X.N.length
section
variable{X:Cx}{pins:List (Addr×Obj)}{σ:List (Option V)}{H H':Hp}{s:Shared}{h':Heap}
theorem Cx.Ok.nofr(ok:X.Ok){b:Addr}{o:Obj}(e:X.base.get? b=some o):b∉X.fs:=λhb=>by
 have:=(ok.funs.mem hb).1;rw[e]at this;cases this
theorem Inv.bs(I:Inv X pins σ H s):∀b o,X.base.get? b=some o->s.heap.get? b=some o/\H b=none:=λb o e=>
 ⟨I.base.keep b o (I.ok.bs b o e).1 (I.ok.bs b o e).2 (I.ok.nofr e) (I.ok.noex b o e),I.base.free b o (I.ok.bs b o e).1 (I.ok.bs b o e).2 (I.ok.noex b o e)⟩
theorem Inv.bk(I:Inv X pins σ H s):∀b o,X.base.get? b=some o->s.heap.get? b=some o:=λb o e=>(I.bs b o e).1
theorem Inv.mod(I:Inv X pins σ H s):Mod X.K X.mg X.base:=I.ok.mod
theorem Inv.kIn(I:Inv X pins σ H s):X.K.In s.heap:=I.ok.mod.kin.keeps I.bk
theorem Inv.lt(I:Inv X pins σ H s):X.env.locals<s.heap.objs.size:=let ⟨_,hn,_⟩:=I.loc;hn.lt
theorem Inv.sz(I:Inv X pins σ H s):X.s₀.heap.objs.size<=s.heap.objs.size:=wL I.ok.above (vN I.lt)
theorem Inv.nofs(I:Inv X pins σ H s){a:Addr}(h:s.heap.objs.size<=a):a∉X.fs:=λhb=>by
 obtain⟨_,o,ho,_⟩:=I.ok.funs.mem hb;exact absurd (wG (Heap.lt_size ho) (wL I.sz h)) (we _)
theorem Inv.cne(I:Inv X pins σ H s):∀x c,X.env.cells.lookup x=some c->c≠X.env.locals:=λx c e z=>by
 obtain⟨v,o,ho,hd⟩:=I.cell x c e;obtain⟨m,⟨o',es,ep,ho',hd',_⟩,_⟩:=I.loc;rw[z,ho']at ho;cases ho;rw[hd']at hd;cases hd
theorem Inv.funs(I:Inv X pins σ H s):s.heap.FunFrames X.base X.outer:=by
 have all:∀(l:List Env),(∀b∈frs l,b∈X.fs)->X.s₀.heap.FunFrames X.base l->s.heap.FunFrames X.base l:=by
  intro l
  induction l with
  |nil=>intro _ _;trivial
  |cons env r ih=>
   intro hs hl;obtain⟨hk,⟨L,o,hf,hn,ho,hd⟩,hr⟩:=hl;have hL:L∈X.fs:=hs L (by unfold frs;rw[List.filterMap_cons,hf];exact wK);obtain⟨sl,e⟩:=I.base.slot L o ho (I.ok.frf L hL) hL λz=>I.ok.exfs L z hL;exact⟨hk,⟨L,_,hf,hn,e,hd⟩,ih (λb hb=>hs b (by unfold frs;rw[List.filterMap_cons,hf];exact wI _ hb)) hr⟩
 exact all X.outer (λ_ hb=>hb) I.ok.funs
theorem Inv.stack(I:Inv X pins σ H s):s.heap.FunFrames X.base X.stack:=by
 rcases I.ok.stk with e|⟨e,hf⟩
 ·rw[e];exact I.funs
 ·rw[e];obtain⟨m,hn,_⟩:=I.loc;refine .cons (by rw[I.ok.kind];decide) hf hn ?_ I.funs;exact Heap.get?_none_of_le (wL I.ok.bsz I.ok.above)
theorem Inv.stkSub(I:Inv X pins σ H s):∀b∈frs X.stack,b∈X.env.locals::X.fs:=λb hb=>by
 rcases I.ok.stk with e|⟨e,hf⟩
 ·rw[e]at hb;exact wI _ hb
 ·rw[e]at hb;unfold frs at hb;rw[List.filterMap_cons,hf]at hb;exact hb
theorem Inv.stkFree(I:Inv X pins σ H s):∀b∈frs X.stack,H b=none:=λb hb=>by
 rcases wP.mp (I.stkSub b hb) with e|hb
 ·rw[e];exact I.free
 ·obtain⟨_,o,ho,_⟩:=I.ok.funs.mem hb;exact I.base.free b o ho (I.ok.frf b hb) λz=>I.ok.exfs b z hb
theorem Inv.step{g':Array GenState}{t':Nat}{d':Drawn}{ch:List Addr}(I:Inv X pins σ H s)
  (hch:∀b∈ch,(b∈X.ex\/X.s₀.heap.objs.size<=b)/\b≠X.env.locals/\(∀x c,X.env.cells.lookup x=some c->c≠b)/\∀p∈X.pn++pins,p.1≠b)
  (keep:∀b o,b≠X.env.locals->b∉X.fs->b∉ch->s.heap.get? b=some o->H b=none->h'.get? b=some o)
  (slot:∀b o,b≠X.env.locals->b∈X.fs->b∉ch->s.heap.get? b=some o->H b=none->∃sl,h'.get? b=some { o with slots:=sl }) (free:∀b o,b∉ch->s.heap.get? b=some o->H b=none->H' b=none)
  (there:∀b o,b∉ch->s.heap.get? b=some o->∃o',h'.get? b=some o')
  (tups:∀b xs,H b=some (.tup xs)->H' b=some (.tup xs)) (frzs:∀b o u,H b=some (.frz o u)->H' b=some (.frz o u)) (tbls:∀b ps,H b=some (.tbl ps)->∃more,H' b=some (.tbl (ps++more)))
  (ns:∀m,s.heap.Ns X.env.locals m->h'.Ns X.env.locals m) (hok:HOk X.prog X.w H' h') (hg:AllBare g'):
  Inv X pins σ H' { s with heap:=h',gens:=g',drawn:=d',toks:=t' }:=by
 have neL:∀b o,X.s₀.heap.get? b=some o->b≠X.env.locals:=λb o e=>wZ (wG (Heap.lt_size e) I.ok.above);have neC:∀b o,X.s₀.heap.get? b=some o->b∉X.ex->b∉ch:=λb o e hx hb=>by
  rcases(hch b hb).1 with z|z
  ·exact hx z
  ·exact absurd (wG (Heap.lt_size e) z) (we _)
 have cellK:∀x c,X.env.cells.lookup x=some c->∀v,s.heap.IsCell c v->h'.IsCell c v:=λx c e v ⟨o,ho,hd⟩=>by
  have nch:c∉ch:=λz=>(hch c z).2.2.1 x c e rfl;by_cases hc:c∈X.fs
  ·obtain⟨sl,q⟩:=slot c o (I.cne x c e) hc nch ho (I.freeC x c e);exact⟨_,q,hd⟩
  ·exact⟨o,keep c o (I.cne x c e) hc nch ho (I.freeC x c e),hd⟩
 refine⟨I.ok,I.os,hg,⟨λb o e n hb hx=>?_,λb o e n hb hx=>?_,λb o e n hx=>?_,λb o e hx=>?_,λb xs e=>tups b xs (I.base.tups b xs e),λb o xs e=>frzs b o xs (I.base.frzs b o xs e),λb ps e=>?_⟩,?_,λx c e=>?_,?_,λx c e=>?_,λp hp=>?_,hok,I.len⟩
 ·exact keep b o (neL b o e) hb (neC b o e hx) (I.base.keep b o e n hb hx) (I.base.free b o e n hx)
 ·obtain⟨sl,e1⟩:=I.base.slot b o e n hb hx;obtain⟨sl',e2⟩:=slot b _ (neL b o e) hb (neC b o e hx) e1 (I.base.free b o e n hx);exact⟨sl',e2⟩
 ·obtain⟨o',e1⟩:=I.base.there b o e hx;exact free b o' (neC b o e hx) e1 (I.base.free b o e n hx)
 ·obtain⟨o',e1⟩:=I.base.there b o e hx;exact there b o' (neC b o e hx) e1
 ·obtain⟨m1,e1⟩:=I.base.tbls b ps e;obtain⟨m2,e2⟩:=tbls b _ e1;exact⟨m1++m2,by rw[e2,Array.append_assoc]⟩
 ·obtain⟨m,hn,hl⟩:=I.loc;refine⟨m,ns m hn,λi x v e1 e2 e3=>?_⟩;obtain⟨u,r,l⟩:=hl i x v e1 e2 e3;refine⟨u,r,?_⟩;rcases l with l|⟨k,c,e,z⟩
  ·exact .inl l
  ·exact .inr ⟨k,c,e,cellK x c e _ z⟩
 ·obtain⟨v,z⟩:=I.cell x c e;exact⟨v,cellK x c e v z⟩
 ·obtain⟨m,⟨o,_,_,ho,_⟩,_⟩:=I.loc;exact free _ o (λz=>(hch _ z).2.1 rfl) ho I.free
 ·obtain⟨v,o,ho,hd⟩:=I.cell x c e;exact free c o (λz=>(hch c z).2.2.1 x c e rfl) ho (I.freeC x c e)
 ·obtain⟨e,n,ne,nf,d⟩:=I.pin p hp;have nch:p.1∉ch:=λz=>(hch p.1 z).2.2.2 p hp rfl;exact⟨keep p.1 p.2 ne nf nch e n,free p.1 p.2 nch e n,ne,nf,d⟩
theorem Inv.un{t':Nat}(I:Inv X pins σ H s)(u:Un X.fs [] H H' s.heap h')(hok:HOk X.prog X.w H' h'):Inv X pins σ H' { s with heap:=h',toks:=t' }:=by
 obtain⟨m,⟨o,es,ep,ho,r⟩,_⟩:=id I.loc;obtain⟨sl,hL⟩:=u.any ho I.free (by simp);exact I.step (g':=s.gens) (d':=s.drawn) (ch:=[]) (λ_ z=>nomatch z) (λb o _ hb _ e n=>u.keep b o e n hb (by simp)) (λb o _ hb _ e n=>u.slot b o e n hb (by simp)) (λb o _ e n=>u.free b o e n (by simp)) (λb o _ e=>u.there b o e (by simp)) u.tups u.frzs u.tbls (λm' hm=>by
  obtain⟨o',es',ep',ho',r'⟩:=hm;rw[ho]at ho';cases ho';exact⟨_,es',ep',hL,r'⟩) hok I.bare
theorem Inv.call{g':Array GenState}{t':Nat}{d':Drawn}{ch:List Addr}(I:Inv X pins σ H s)(u:Un (frs X.stack) ch H H' s.heap h')(hok:HOk X.prog X.w H' h')(hg:AllBare g')
  (hch:∀b∈ch,(b∈X.ex\/X.s₀.heap.objs.size<=b)/\b≠X.env.locals/\(∀x c,X.env.cells.lookup x=some c->c≠b)/\∀p∈X.pn++pins,p.1≠b):
  Inv X pins σ H' { s with heap:=h',gens:=g',drawn:=d',toks:=t' }:=by
 obtain⟨m,⟨o,es,ep,ho,r⟩,_⟩:=id I.loc;obtain⟨sl,hL⟩:=u.any ho I.free λz=>(hch _ z).2.1 rfl;exact I.step (ch:=ch) hch (λb o hL hb hc e n=>u.keep b o e n (λz=>(wP.mp (I.stkSub b z)).elim hL hb) hc) (λb o _ _ hc e n=>u.any e n hc) (λb o hc e n=>u.free b o e n hc) (λb o hc e=>u.there b o e hc) u.tups u.frzs u.tbls (λm' hm=>by
  obtain⟨o',es',ep',ho',r'⟩:=hm;rw[ho]at ho';cases ho';exact⟨_,es',ep',hL,r'⟩) hok hg
theorem Inv.turned{t':Nat}{it:Addr}(I:Inv X pins σ H s)(k:∀b o,b≠it->s.heap.get? b=some o->h'.get? b=some o)(hn:H it=none)(hL:it≠X.env.locals)
  (h1:it∈X.ex\/X.s₀.heap.objs.size<=it) (h2:∀x c,X.env.cells.lookup x=some c->c≠it) (h3:∀p∈X.pn++pins,p.1≠it):Inv X pins σ H { s with heap:=h',toks:=t' }:=by
 have nit:∀b u,H b=some u->b≠it:=λb u e z=>by rw[z,hn]at e;cases e
 refine I.step (g':=s.gens) (d':=s.drawn) (ch:=[it]) (λb hb=>?_) (λb o _ _ hc e _=>k b o (λz=>hc (by simp[z])) e) (λb o _ _ hc e _=>⟨o.slots,k b o (λz=>hc (by simp[z])) e⟩) (λ_ _ _ _ n=>n)
  (λb o hc e=>⟨o,k b o (λz=>hc (by simp[z])) e⟩) (λ_ _ e=>e) (λ_ _ _ e=>e) (λb ps e=>⟨#[],by rw[e];simp⟩) (λm hm=>?_) (λb u e=>?_) I.bare
 ·have e:b=it:=by simpa using hb
  subst e;exact⟨h1,hL,h2,h3⟩
 ·obtain⟨o,es,ep,ho,r⟩:=hm;exact⟨o,es,ep,k _ o (Ne.symm hL) ho,r⟩
 ·refine(I.hok b u e).stay (λc v hc q=>k c v ?_ q) (λ_ q=>q) λ_ _ q=>q;rcases hc with z|z
  ·rw[z];exact nit b u e
  ·exact nit c _ z
theorem Inv.tok(I:Inv X pins σ H s)(t:Nat):Inv X pins σ H { s with toks:=t }:=I.un (h':=s.heap) (t':=t) Un.refl I.hok
theorem Inv.kept{t':Nat}(I:Inv X pins σ H s)(k:∀b u,s.heap.get? b=some u->h'.get? b=some u):Inv X pins σ H { s with heap:=h',toks:=t' }:=I.un (Un.kept k) (I.hok.kept k)
theorem Inv.laid{a:Addr}{o:HO}{t':Nat}(I:Inv X pins σ H s)(k:∀b u,s.heap.get? b=some u->h'.get? b=some u)(hp:s.heap.objs.size<=a)(new:ObjOk X.prog X.w (upd H a o) h' a o):
  Inv X pins σ (upd H a o) { s with heap:=h',toks:=t' }:=I.un (Un.laid k hp (I.hok.fresh hp)) (I.hok.laid k hp new)
theorem Inv.write{x e:Addr}{o:HO}{t':Nat}(I:Inv X pins σ H s)(mu:Mut (H x))(he:e=x\/H e=some (.own x))(k:∀b u,b≠e->s.heap.get? b=some u->h'.get? b=some u)(heo:∃u,h'.get? e=some u)
  (new:ObjOk X.prog X.w (upd H x o) h' x o):Inv X pins σ (upd H x o) { s with heap:=h',toks:=t' }:=I.un (Un.write mu he k heo) (I.hok.write mu he k heo new)
theorem Inv.pins_of{pins':List (Addr×Obj)}(I:Inv X pins σ H s)(h:∀p∈pins',s.heap.get? p.1=some p.2/\H p.1=none/\p.1≠X.env.locals/\p.1∉X.fs/\∀v,p.2.data≠.cell v):Inv X pins' σ H s:=
 ⟨I.ok,I.os,I.bare,I.base,I.loc,I.cell,I.free,I.freeC,λp hp=>(wN.mp hp).elim (λz=>I.pin p (wQ _ z)) (h p),I.hok,I.len⟩
theorem N0{N:List Str}(hN:N.Nodup){i j:Nat}{x:Str}(a:N[i]?=some x)(b:N[j]?=some x):i=j:=by
 obtain⟨h1,e1⟩:=wC.mp a;obtain⟨h2,e2⟩:=wC.mp b;exact(List.getElem_inj hN).mp (e1.trans e2.symm)
theorem B6{M:Model}{A:Around}{E:Value->Shared->Prop}{i:Nat}{x:Str}{v:V}{u:Value}{Q:Unit->Shared->Prop}(I:Inv X pins σ H s)(hN:X.N.Nodup)(hi:X.N[i]?=some x)(hx:Loc X.env.scope x)(r:RelV v u)
  (h:∀s',Inv X pins (σ.set i (some v)) H s'->(∃a,Heap.SameBut a s.heap s'.heap/\(a=X.env.locals\/X.env.cells.lookup x=some a))->Q () s') (hf:X.fn x=true\/X.env.scope.names.lookup x=some .local:=by first|exact .inl rfl|exact .inr rfl|assumption):wpAny M A (storeName X.env x u) Q E s:=by
 obtain⟨m,hn,hl⟩:=id I.loc;have hcls:(X.env.scope.kind==.class||(X.env.scope.kind==.module&&X.env.locals != X.env.globals))=false:=by rw[I.ok.kind];rfl
 have hiσ:i<σ.length:=by rw[I.len];exact(wC.mp hi).1
 have cne:=I.cne;have tracked:∀{a:Addr}{h':Heap},(∃o,s.heap.get? a=some o/\H a=none)->Heap.SameBut a s.heap h'->HOk X.prog X.w H h':=λ{a h'} ha hs b ob e=>by
  obtain⟨_,_,hfree⟩:=ha;refine(I.hok b ob e).stay (λc w' hc q=>(hs.2 c ?_).trans q) (λ_ q=>q) λ_ _ q=>q;rintro rfl;rcases hc with rfl|hc
  ·rw[hfree]at e;cases e
  ·rw[hfree]at hc;cases hc
 rcases hx with hk|hk
 ·refine wpAny_storeName_local hk hn (λh' hn' hs=>?_) hcls;obtain⟨oL,_,_,hoL,_⟩:=id hn;refine h _ ⟨I.ok,I.os,I.bare,⟨λb o e n hb hx=>?_,λb o e n hb hx=>?_,I.base.free,λb o e hx=>?_,I.base.tups,I.base.frzs,I.base.tbls⟩,⟨_,hn',λj y v' e1 e2 e3=>?_⟩,λy c e=>?_,I.free,I.freeC,λp hp=>?_,tracked ⟨oL,hoL,I.free⟩ hs,by simpa using I.len⟩ ⟨_,hs,.inl rfl⟩
  ·exact(hs.2 b (wZ (wG (Heap.lt_size e) I.ok.above))).trans (I.base.keep b o e n hb hx)
  ·obtain⟨sl,e1⟩:=I.base.slot b o e n hb hx;exact⟨sl,(hs.2 b (wZ (wG (Heap.lt_size e) I.ok.above))).trans e1⟩
  ·obtain⟨o',e1⟩:=I.base.there b o e hx;exact⟨o',(hs.2 b (wZ (wG (Heap.lt_size e) I.ok.above))).trans e1⟩
  ·by_cases hj:j=i
   ·subst hj;rw[hi]at e1;cases e1;rw[wk hiσ]at e2;cases e2;exact⟨u,r,.inl ⟨hk,by simp⟩⟩
   ·rw[wa (Ne.symm hj)]at e2;obtain⟨u',r',q⟩:=hl j y v' e1 e2 e3;refine⟨u',r',?_⟩;rcases q with⟨k,e⟩|⟨k,c,e,z⟩
    ·refine .inl ⟨k,?_⟩;have:y≠x:=λe=>hj (N0 hN e1 (e ▸ hi));simp[this,e]
    ·exact .inr ⟨k,c,e,z.sameBut hs (cne y c e)⟩
  ·obtain⟨w',z⟩:=I.cell y c e;exact⟨w',z.sameBut hs (cne y c e)⟩
  ·obtain⟨e,n,ne,nf,d⟩:=I.pin p hp;exact⟨(hs.2 p.1 ne).trans e,n,ne,nf,d⟩
 ·have hfn:X.fn x=true:=by
   rcases hf with z|z
   ·exact z
   ·rw[z]at hk;cases hk
  obtain⟨c,hc⟩:=I.ok.has x (.inl hk);obtain⟨w',z⟩:=I.cell x c hc;refine wpAny_storeName_cell I.ok.kind hk hc z (λh' hc' hs=>?_);obtain⟨oc,hoc,hocd⟩:=id z;refine h { s with heap:=h' } ⟨I.ok,I.os,I.bare,⟨λb o e n hb hx=>?_,λb o e n hb hx=>?_,I.base.free,λb o e hx=>?_,I.base.tups,I.base.frzs,I.base.tbls⟩,⟨m,hn.sameBut hs (Ne.symm (cne x c hc)),λj y v' e1 e2 e3=>?_⟩,λy c' e=>?_,I.free,I.freeC,λp hp=>?_,tracked ⟨oc,hoc,I.freeC x c hc⟩ hs,by simpa using I.len⟩ ⟨c,hs,.inr hc⟩
  ·exact(hs.2 b (wZ (wG (Heap.lt_size e) (I.ok.cab x c hfn hc)))).trans (I.base.keep b o e n hb hx)
  ·obtain⟨sl,e1⟩:=I.base.slot b o e n hb hx;exact⟨sl,(hs.2 b (wZ (wG (Heap.lt_size e) (I.ok.cab x c hfn hc)))).trans e1⟩
  ·obtain⟨o',e1⟩:=I.base.there b o e hx;exact⟨o',(hs.2 b (wZ (wG (Heap.lt_size e) (I.ok.cab x c hfn hc)))).trans e1⟩
  ·by_cases hj:j=i
   ·subst hj;rw[hi]at e1;cases e1;rw[wk hiσ]at e2;cases e2;exact⟨u,r,.inr ⟨.inl hk,c,hc,hc'⟩⟩
   ·rw[wa (Ne.symm hj)]at e2;obtain⟨u',r',q⟩:=hl j y v' e1 e2 e3;refine⟨u',r',?_⟩;rcases q with q|⟨k,c',e,z'⟩
    ·exact .inl q
    ·refine .inr ⟨k,c',e,z'.sameBut hs ?_⟩;rintro rfl;exact hj (N0 hN e1 (I.ok.inj _ _ _ e hc ▸ hi))
  ·by_cases hcc:c'=c
   ·subst hcc;exact⟨_,hc'⟩
   ·obtain⟨w2,z2⟩:=I.cell y c' e;exact⟨w2,z2.sameBut hs hcc⟩
  ·obtain⟨e,n,ne,nf,d⟩:=I.pin p hp;refine⟨(hs.2 p.1 ?_).trans e,n,ne,nf,d⟩;intro q;rw[q,hoc]at e;have q':oc=p.2:=Option.some.inj e;exact d w' (by rw[<-q'];exact hocd)
theorem Qf{M:Model}{A:Around}{E:Value->Shared->Prop}{i:Nat}{x:Str}{v:V}{u:Value}{Q:Unit->Shared->Prop}(I:Inv X pins σ H s)(hN:X.N.Nodup)(hi:X.N[i]?=some x)(hx:Loc X.env.scope x)(r:RelV v u)
  (h:∀s',Inv X pins (σ.set i (some v)) H s'->Q () s') (hf:X.fn x=true\/X.env.scope.names.lookup x=some .local:=by first|exact .inl rfl|exact .inr rfl|assumption):wpAny M A (storeName X.env x u) Q E s:=
 B6 I hN hi hx r (λs' I' _=>h s' I') hf
theorem Inv.call'{s':Shared}{ch:List Addr}(I:Inv X pins σ H s)(ho:s'.os=s.os)(u:Un (frs X.stack) ch H H' s.heap s'.heap)(hok:HOk X.prog X.w H' s'.heap)(hg:AllBare s'.gens)
  (hch:∀b∈ch,(b∈X.ex\/X.s₀.heap.objs.size<=b)/\b≠X.env.locals/\(∀x c,X.env.cells.lookup x=some c->c≠b)/\∀p∈X.pn++pins,p.1≠b):Inv X pins σ H' s':=by
 obtain⟨h',g',d',t',o'⟩:=s';have e:o'=s.os:=ho;subst e;exact I.call (g':=g') (t':=t') (d':=d') u hok hg hch
end
noncomputable abbrev XK:=Value->Option Addr->Hp->Prop
noncomputable abbrev St:=List (Option V)
noncomputable abbrev VK:=V->Hp->Prop
noncomputable abbrev TE:=St->Hp->VK->Prop
noncomputable abbrev TT:=St->Hp->(Bool->Hp->Prop)->Prop
noncomputable abbrev TA:=St->Hp->(List V->Hp->Prop)->Prop
structure U5 where
 nx:St->Hp->Prop
 rt:VK
 bk:St->Hp->Prop:=λ_ _=>False
 ct:St->Hp->Prop:=λ_ _=>False
noncomputable abbrev TS:=U5->St->Hp->Prop
def EP(X:Cx)(pins:List (Addr×Obj))(σ:St)(Q:VK)(u:Value)(s':Shared):Prop:=∃v H',Inv X pins σ H' s'/\RelV v u/\Q v H'
def TP(X:Cx)(pins:List (Addr×Obj))(σ:St)(Q:Bool->Hp->Prop)(b:Bool)(s':Shared):Prop:=∃H',Inv X pins σ H' s'/\Q b H'
def AP(X:Cx)(pins:List (Addr×Obj))(σ:St)(Q:List V->Hp->Prop)(us:List Value)(s':Shared):Prop:=∃vs H',Inv X pins σ H' s'/\Vals vs us/\Q vs H'
def SP(X:Cx)(pins:List (Addr×Obj))(D:U5)(f:Flow)(s':Shared):Prop:=
 match f with
 | .next=>∃σ' H',Inv X pins σ' H' s'/\D.nx σ' H'
 | .brk=>∃σ' H',Inv X pins σ' H' s'/\D.bk σ' H'
 | .cont=>∃σ' H',Inv X pins σ' H' s'/\D.ct σ' H'
 | .ret u=>∃v σ' H',Inv X pins σ' H' s'/\RelV v u/\D.rt v H'
def PE(X:Cx)(e:Expr)(t:TE):Prop:=
 ∀(pins:List (Addr×Obj)) (s:Shared) (σ:St) (H:Hp) (Q:VK),Inv X pins σ H s->t σ H Q->wpAny (model X.prog X.w) X.A (eval e X.env) (EP X pins σ Q) X.xe s
def PT(X:Cx)(e:Expr)(t:TT):Prop:=
 ∀(pins:List (Addr×Obj)) (s:Shared) (σ:St) (H:Hp) (Q:Bool->Hp->Prop),Inv X pins σ H s->t σ H Q->wpAny (model X.prog X.w) X.A (isTrue e X.env (eval e X.env)) (TP X pins σ Q) X.xe s
def PW(X:Cx)(e:Expr)(t:TT):Prop:=
 ∀(whole:Sem Value) (pins:List (Addr×Obj)) (s:Shared) (σ:St) (H:Hp) (Q:Bool->Hp->Prop),Inv X pins σ H s->t σ H Q->wpAny (model X.prog X.w) X.A (isTrue e X.env whole) (TP X pins σ Q) X.xe s
theorem PW.pt{X:Cx}{e:Expr}{t:TT}(h:PW X e t):PT X e t:=h _
def PA(X:Cx)(es:List Expr)(t:TA):Prop:=
 ∀(pos:Pos) (pins:List (Addr×Obj)) (s:Shared) (σ:St) (H:Hp) (Q:List V->Hp->Prop),Inv X pins σ H s->t σ H Q->wpAny (model X.prog X.w) X.A (spliced (backTo pos (starEach es X.env))) (AP X pins σ Q) X.xe s
def PS(X:Cx)(st:Stmt)(t:TS):Prop:=
 ∀(pins:List (Addr×Obj)) (s:Shared) (σ:St) (H:Hp) (D:U5),Inv X pins σ H s->t D σ H->wpAny (model X.prog X.w) X.A (exec st X.env) (SP X pins D) X.xe s
def PSs(X:Cx)(st:List Stmt)(t:TS):Prop:=
 ∀(pins:List (Addr×Obj)) (s:Shared) (σ:St) (H:Hp) (D:U5),Inv X pins σ H s->t D σ H->wpAny (model X.prog X.w) X.A (execs st X.env) (SP X pins D) X.xe s
theorem thn{α:Type}{t:Sem α}{Q Q':α->Shared->Prop}{M:Model}{A:Around}{E:Value->Shared->Prop}{s:Shared}(h:wpAny M A t Q E s)(hQ:∀a s,Q a s->Q' a s):wpAny M A t Q' E s:=wpAny_mono h hQ λ_ _ x=>x
section
variable{X:Cx}
theorem bin{a b:Expr}{ta tb:TE}(ha:PE X a ta)(hb:PE X b tb){pins:List (Addr×Obj)}{s:Shared}{σ:St}{H:Hp}{R:V->V->Hp->Prop}(I:Inv X pins σ H s)(h:ta σ H λx H1=>tb σ H1 λy H2=>R x y H2)
  {α:Type}{Q:α->Shared->Prop}{f:Value->Value->Sem α}
  (hf:∀v u s2 x y H2,Inv X pins σ H2 s2->RelV x v->RelV y u->R x y H2->wpAny (model X.prog X.w) X.A (f v u) Q X.xe s2):
  wpAny (model X.prog X.w) X.A (eval a X.env) (λv s₁=>wpAny (model X.prog X.w) X.A (eval b X.env) (λu s₂=>wpAny (model X.prog X.w) X.A (f v u) Q X.xe s₂) X.xe s₁) X.xe s:=by
 refine thn (ha pins s σ H _ I h) λv s1 ⟨x,H1,I1,r1,q1⟩=>?_;refine thn (hb pins s1 σ H1 _ I1 q1) λu s2 ⟨y,H2,I2,r2,q2⟩=>?_;exact hf v u s2 x y H2 I2 r1 r2 q2
noncomputable def qHJ(i:Nat):TE:=λσ H Q=>∃v,σ[i]?=some (some v)/\Q v H
noncomputable def tC(v:V):TE:=λ_ H Q=>Q v H
theorem pe_var{i:Nat}{x:Str}{pos:Pos}(hN:X.N[i]?=some x)(hv:Vis X.env.scope x)(hd:(x==("__debug__":Str))=false:=by decide)(hcd:(x==("__classdict__":Str))=false:=by decide):PE X (.Name x pos) (qHJ i):=by
 intro pins s σ H Q I h;obtain⟨v,e,h⟩:=h;obtain⟨m,hn,hl⟩:=I.loc;obtain⟨u,r,l⟩:=hl i x v hN e hv;have fin:EP X pins σ Q u s:=⟨v,H,I,r,h⟩
 rcases l with⟨hk,hm⟩|⟨hk,c,hc,hcell⟩
 ·exact wpAny_Name (wpAny_loadName_local I.ok.kind hk hn hm fin) hd
 ·rcases hk with hk|hk
  ·exact wpAny_Name (wpAny_loadName_cell I.ok.kind hk hc hcell fin) hd
  ·exact wpAny_Name (wpAny_loadName_free I.ok.kind hk hc hcell fin hcd) hd
theorem pe_int {i j pos}:PE X (.Constant (.int i) j pos) (tC (.int i)):=λ_ _ _ H _ I h=>wpAny_Constant_int ⟨.int i,H,I.tok _,⟨_,rfl⟩,h⟩
theorem pe_bl {b j pos}:PE X (.Constant (.bool b) j pos) (tC (.bl b)):=λ_ _ _ H _ I h=>Constant_bool ⟨.bl b,H,I,rfl,h⟩
theorem pe_non {j pos}:PE X (.Constant .none j pos) (tC .non):=λ_ _ _ H _ I h=>Constant_none ⟨.non,H,I,rfl,h⟩
theorem pe_str {x j pos}:PE X (.Constant (.str x) j pos) (tC (.str x)):=λ_ _ _ H _ I h=>Calls.Constant_str ⟨.str x,H,I.tok _,⟨_,rfl⟩,h⟩
def Gl(X:Cx)(x:Str):Prop:=X.env.kindOf x=some .globalImplicit
theorem K0{E:Value->Shared->Prop}{pins:List (Addr×Obj)}{s:Shared}{σ:St}{H:Hp}{x:Str}{u:Value}{pos:Pos}{Q:Value->Shared->Prop}(I:Inv X pins σ H s)(hg:Gl X x)(hm:X.mg x=some u)(h:Q u s)
  (hd:(x==("__debug__":Str))=false:=by decide):wpAny (model X.prog X.w) X.A (eval (.Name x pos) X.env) Q E s:=
 Calls.Name_function_global I.ok.kind hg (Calls.loadGlobal_global (by rw[I.ok.glob];exact I.mod.glob.keeps I.bk) hm h) hd
theorem ld_blt{E:Value->Shared->Prop}{pins:List (Addr×Obj)}{s:Shared}{σ:St}{H:Hp}{x:Str}{u:Value}{pos:Pos}{Q:Value->Shared->Prop}(I:Inv X pins σ H s)(hg:Gl X x)(hm:X.mg x=none)(hv:bootBuiltins x=some u)(h:Q u s)
  (hn:x≠"__name__":=by decide) (hd:(x==("__debug__":Str))=false:=by decide):wpAny (model X.prog X.w) X.A (eval (.Name x pos) X.env) Q E s:=by
 obtain⟨mb,h1,h2⟩:=I.mod.blt;exact Calls.Name_function_global I.ok.kind hg (Calls.loadGlobal_builtin (by rw[I.ok.glob];exact I.mod.glob.keeps I.bk) hm (by rw[I.ok.blt];exact h1.keeps I.bk) ((h2 x hn).trans hv) h) hd
theorem pe_glob{x:Str}{v:V}{u:Value}{pos:Pos}(hg:Gl X x)(hm:X.mg x=some u)(r:RelV v u)(hd:(x==("__debug__":Str))=false:=by decide):PE X (.Name x pos) (tC v):=
 λ_ _ _ H _ I h=>K0 I hg hm ⟨v,H,I,r,h⟩ hd
theorem pe_bltn{x:Str}{v:V}{u:Value}{pos:Pos}(hg:Gl X x)(hm:X.mg x=none)(hv:bootBuiltins x=some u)(r:RelV v u)(hn:x≠"__name__":=by decide)(hd:(x==("__debug__":Str))=false:=by decide):PE X (.Name x pos) (tC v):=
 λ_ _ _ H _ I h=>ld_blt I hg hm hv ⟨v,H,I,r,h⟩ hn hd
variable{a b:Expr}{ta tb:TE}{pos:Pos}
def PC(X:Cx)(op:CmpOp)(a b:Expr)(t:TE):Prop:=
 ∀(pins:List (Addr×Obj)) (s:Shared) (σ:St) (H:Hp) (Q:VK),Inv X pins σ H s->t σ H Q ->
  wpAny (model X.prog X.w) X.A (eval a X.env) (λv s₁=>wpAny (model X.prog X.w) X.A (eval b X.env) (λu s₂=>wpAny (model X.prog X.w) X.A (compareOp op v u) (EP X pins σ Q) X.xe s₂) X.xe s₁) X.xe s
noncomputable def tB(t:TE):TT:=λσ H Q=>t σ H λx H1=>∃c,x=.bl c/\Q c H1
theorem V8{op:CmpOp}{t:TE}(h:PC X op a b t)(h1:behindInMarks op b=false:=by first|exact nobehind _ (by decide) (by decide)|rfl):PE X (.Compare a [op] [b] pos) t:=λpins s σ H Q I hw=>wpAny_Compare1 (h pins s σ H Q I hw) h1
theorem pt_val{e:Expr}{t:TE}(h:PE X e t)(he:∀whole,isTrue e X.env whole=(do let v <- whole;standAt e.pos;holding [v] (truthy v)):=by intro _;rfl):PT X e (tB t):=by
 intro pins s σ H Q I hw;refine isTrue_plain (thn (h pins s σ H _ I hw) λv s1 ⟨x,H1,I1,r1,q1⟩=>?_) (he _);obtain⟨d,rfl,q⟩:=q1;cases r1;exact uE ⟨H1,I1,q⟩
variable{tA tB':TT}{ZI:List Expr}
noncomputable def tAnd(t u:TT):TT:=λσ H Q=>t σ H λc H1=>if c=true then u σ H1 Q else Q false H1
noncomputable def tOr(t u:TT):TT:=λσ H Q=>t σ H λc H1=>if c=true then Q true H1 else u σ H1 Q
noncomputable def qHG(t:TT):TT:=λσ H Q=>t σ H λc H1=>Q (!c) H1
theorem pw_and1(ha:PT X a tA):PW X (.BoolOp .And [a] pos) tA:=by
 intro wh pins s σ H Q I h;refine isTrue_and (thn (ha pins s σ H Q I h) λc s1 e=>?_);cases c with
 |true=>exact isTrue_and_nil e
 |false=>exact e
theorem pw_or1(ha:PT X a tA):PW X (.BoolOp .Or [a] pos) tA:=by
 intro wh pins s σ H Q I h;refine isTrue_or (thn (ha pins s σ H Q I h) λc s1 e=>?_);cases c with
 |false=>exact isTrue_or_nil e
 |true=>exact e
theorem pw_and(ha:PT X a tA)(hb:PW X (.BoolOp .And (b::ZI) pos) tB'):PW X (.BoolOp .And (a::b::ZI) pos) (tAnd tA tB'):=by
 intro wh pins s σ H Q I h;refine isTrue_and (thn (ha pins s σ H _ I h) λc s1 ⟨H1,I1,q1⟩=>?_);cases c with
 |true=>exact hb wh pins s1 σ H1 Q I1 q1
 |false=>exact⟨H1,I1,q1⟩
theorem pw_or(ha:PT X a tA)(hb:PW X (.BoolOp .Or (b::ZI) pos) tB'):PW X (.BoolOp .Or (a::b::ZI) pos) (tOr tA tB'):=by
 intro wh pins s σ H Q I h;refine isTrue_or (thn (ha pins s σ H _ I h) λc s1 ⟨H1,I1,q1⟩=>?_);cases c with
 |true=>exact⟨H1,I1,q1⟩
 |false=>exact hb wh pins s1 σ H1 Q I1 q1
theorem pt_not(ha:PT X a tA):PT X (.UnaryOp .Not a pos) (qHG tA):=by
 intro pins s σ H Q I h;exact isTrue_not (ha pins s σ H (λc H1=>Q (!c) H1) I h)
noncomputable def tAndV(ta tb:TE):TE:=λσ H Q=>ta σ H λx H1=>∃c,x=.bl c/\if c=true then tb σ H1 Q else Q (.bl false) H1
noncomputable def tOrV(ta tb:TE):TE:=λσ H Q=>ta σ H λx H1=>∃c,x=.bl c/\if c=true then Q (.bl true) H1 else tb σ H1 Q
noncomputable def qFM(ta:TE):TE:=λσ H Q=>ta σ H λx H1=>∃c,x=.bl c/\Q (.bl (!c)) H1
theorem pe_one {op}{t:TE}(h:PE X a t):PE X (.BoolOp op [a] pos) t:=λpins s σ H Q I hw=>BoolOp_one (h pins s σ H Q I hw)
theorem pe_and(ha:PE X a ta)(hb:PE X (.BoolOp .And (b::ZI) pos) tb):PE X (.BoolOp .And (a::b::ZI) pos) (tAndV ta tb):=by
 intro pins s σ H Q I h;refine BoolOp_and (thn (ha pins s σ H _ I h) λv s1 ⟨x,H1,I1,r1,q1⟩=>?_);obtain⟨c,rfl,q1⟩:=q1;cases r1;refine uE ?_;cases c with
 |true=>exact hb pins s1 σ H1 Q I1 q1
 |false=>exact⟨.bl false,H1,I1,rfl,q1⟩
theorem pe_or(ha:PE X a ta)(hb:PE X (.BoolOp .Or (b::ZI) pos) tb):PE X (.BoolOp .Or (a::b::ZI) pos) (tOrV ta tb):=by
 intro pins s σ H Q I h;refine BoolOp_or (thn (ha pins s σ H _ I h) λv s1 ⟨x,H1,I1,r1,q1⟩=>?_);obtain⟨c,rfl,q1⟩:=q1;cases r1;refine uE ?_;cases c with
 |false=>exact hb pins s1 σ H1 Q I1 q1
 |true=>exact⟨.bl true,H1,I1,rfl,q1⟩
theorem pe_not(ha:PE X a ta):PE X (.UnaryOp .Not a pos) (qFM ta):=by
 intro pins s σ H Q I h;refine UnaryOp_ (thn (ha pins s σ H _ I h) λv s1 ⟨x,H1,I1,r1,q1⟩=>?_);obtain⟨c,rfl,q1⟩:=q1;cases r1;exact not_of (uE ⟨.bl (!c),H1,I1,rfl,q1⟩)
end
def SqL(K:PySem.W.Frag)(H:Hp)(a:Addr)(xs:List V):Prop:=
 Rd H a (.lst xs)\/
  ∃(o:Obj) (its:Array Value) (n:Nat),K.lookup a=some o/\o.cls=.type "list"/\o.dict=none/\o.data=.seq its n/\its.size<=sizeLine/\Vals xs its.toList
def SqT(K:PySem.W.Frag)(H:Hp)(a:Addr)(xs:List V):Prop:=
 Rd H a (.tup xs)\/
  ∃(o:Obj) (its:Array Value) (n:Nat),K.lookup a=some o/\o.cls=.type "tuple"/\o.data=.seq its n/\its.size<=sizeLine/\Vals xs its.toList
noncomputable def qHt:Value->Option V
 | .none=>some .non
 | .bool b=>some (.bl b)
 | .int i _=>some (.int i)
 | .str x _=>some (.str x)
 | .bytes b _=>some (.byt b)
 | .float b _=>some (.flt b)
 | .ref a=>some (.ref a)
 | .type n=>some (.ty n)
 |_=>none
theorem RelV.abs{x:V}{u:Value}(r:RelV x u):qHt u=some x:=by
 cases x with
 |non=>cases r;rfl
 |bl _=>cases r;rfl
 |int _=>obtain⟨t,rfl⟩:=r;rfl
 |str _=>obtain⟨t,rfl⟩:=r;rfl
 |byt _=>obtain⟨t,rfl⟩:=r;rfl
 |flt _=>obtain⟨t,rfl⟩:=r;rfl
 |ref _=>cases r;rfl
 |ty _=>cases r;rfl
theorem RelV.inj{x y:V}{u:Value}(r:RelV x u)(q:RelV y u):x=y:=Option.some.inj (r.abs.symm.trans q.abs)
theorem Vals.inj:∀{xs ys:List V}{us:List Value},Vals xs us->Vals ys us->xs=ys
 |_,_,_,.nil,.nil=>rfl
 |_,_,_,.cons r t,.cons r' t'=>by rw[r.inj r',Vals.inj t t']
section
variable{X:Cx}{pins:List (Addr×Obj)}{σ:St}{H:Hp}{s:Shared}{a:Addr}{xs ys:List V}
theorem Inv.list(I:Inv X pins σ H s)(h:SqL X.K H a xs):∃its:List Value,Vals xs its/\PlainL s.heap a its.toArray/\xs.length<=sizeLine:=by
 rcases h with h|⟨o,its,n,hk,hc,hd,hs,hz,r⟩
 ·obtain⟨z,its,n,r,e⟩:=h.ok I.hok;exact⟨its,r,⟨_,n,e,rfl,rfl,rfl⟩,z⟩
 ·refine⟨its.toList,r,⟨o,n,I.kIn a o hk,hc,hd,by simpa using hs⟩,?_⟩;have e:=r.length;simp only[vE]at e;omega
theorem Inv.tuple(I:Inv X pins σ H s)(h:SqT X.K H a xs):∃its:List Value,Vals xs its/\IsTup s.heap a its.toArray/\xs.length<=sizeLine:=by
 rcases h with h|⟨o,its,n,hk,hc,hs,hz,r⟩
 ·obtain⟨z,its,r,p⟩:=h.ok I.hok;exact⟨its,r,p,z⟩
 ·refine⟨its.toList,r,⟨o,I.kIn a o hk,hc,n,by simpa using hs⟩,?_⟩;have e:=r.length;simp only[vE]at e;omega
theorem Inv.list_inj(I:Inv X pins σ H s)(h:SqL X.K H a xs)(h':SqL X.K H a ys):xs=ys:=by
 obtain⟨its,r,⟨o,n,e,_,_,d⟩,_⟩:=I.list h;obtain⟨its',r',⟨o',n',e',_,_,d'⟩,_⟩:=I.list h';rw[e]at e';cases e';rw[d]at d';injection d' with d1 _;have:its=its':=by simpa using congrArg Array.toList d1
 subst this;exact r.inj r'
theorem Inv.tuple_inj(I:Inv X pins σ H s)(h:SqT X.K H a xs)(h':SqT X.K H a ys):xs=ys:=by
 obtain⟨its,r,⟨o,e,_,n,d⟩,_⟩:=I.tuple h;obtain⟨its',r',⟨o',e',_,n',d'⟩,_⟩:=I.tuple h';rw[e]at e';cases e';rw[d]at d';injection d' with d1 _;have:its=its':=by simpa using congrArg Array.toList d1
 subst this;exact r.inj r'
end
noncomputable abbrev Cx.wish(X:Cx)(E:Value->Shared->Prop):Cx:={ X with xe:=E }
noncomputable abbrev Cx.nox(X:Cx):Cx:=X.wish λ_ _=>False
theorem Cx.Ok.wish{X:Cx}(ok:X.Ok)(E:Value->Shared->Prop):(X.wish E).Ok:=
 ⟨ok.mod,ok.kind,ok.glob,ok.blt,ok.above,ok.inj,ok.has,ok.cab,ok.hd,ok.frames,ok.stk,ok.exf,ok.bs,ok.bsz,ok.noex,ok.exfs,ok.funs,ok.frf⟩
theorem Cx.Ok.unwish{X:Cx}{E:Value->Shared->Prop}(ok:(X.wish E).Ok):X.Ok:=
 ⟨ok.mod,ok.kind,ok.glob,ok.blt,ok.above,ok.inj,ok.has,ok.cab,ok.hd,ok.frames,ok.stk,ok.exf,ok.bs,ok.bsz,ok.noex,ok.exfs,ok.funs,ok.frf⟩
section
variable{X:Cx}{pins:List (Addr×Obj)}{σ:St}{H:Hp}{s:Shared}{E:Value->Shared->Prop}
theorem Inv.wish(I:Inv X pins σ H s)(E:Value->Shared->Prop):Inv (X.wish E) pins σ H s:=⟨I.ok.wish E,I.os,I.bare,I.base,I.loc,I.cell,I.free,I.freeC,I.pin,I.hok,I.len⟩
theorem Inv.unwish(I:Inv (X.wish E) pins σ H s):Inv X pins σ H s:=⟨I.ok.unwish,I.os,I.bare,I.base,I.loc,I.cell,I.free,I.freeC,I.pin,I.hok,I.len⟩
theorem SP.unwish{D:U5}{f:Flow}{s':Shared}(h:SP (X.wish E) pins D f s'):SP X pins D f s':=by
 cases f with
 |next=>obtain⟨σ',H',I,q⟩:=h;exact⟨σ',H',I.unwish,q⟩
 |brk=>obtain⟨σ',H',I,q⟩:=h;exact⟨σ',H',I.unwish,q⟩
 |cont=>obtain⟨σ',H',I,q⟩:=h;exact⟨σ',H',I.unwish,q⟩
 |ret u=>obtain⟨v,σ',H',I,r,q⟩:=h;exact⟨v,σ',H',I.unwish,r,q⟩
theorem PSs.nox{st:List Stmt}{t:TS}(h:PSs X.nox st t):PSs X st t:=λpins s σ H D I hw=>
 wpAny_mono (h pins s σ H D (I.wish _) hw) (λ_ _ q=>q.unwish) λ_ _ z=>False.elim z
end
section
variable{X:Cx}{st:Stmt}{ZI:List Stmt}{t u:TS}{e:Expr}{te:TE}{pos:Pos}
noncomputable def qGR:TS:=λD σ H=>D.nx σ H
noncomputable def qG8(t u:TS):TS:=λD σ H=>t { D with nx:=u D } σ H
theorem pss_nil:PSs X [] qGR:=λ_ _ σ H _ I h=>wpAny_execs_nil ⟨σ,H,I,h⟩
theorem pss_cons(h1:PS X st t)(h2:PSs X ZI u):PSs X (st::ZI) (qG8 t u):=by
 intro pins s σ H D I h;refine wpAny_execs_cons (thn (h1 pins s σ H { D with nx:=u D } I h) λf s1 q=>?_);cases f with
 |next=>
  obtain⟨σ',H',I',q⟩:=q;exact h2 pins s1 σ' H' D I' q
 |ret v=>exact q
 |brk=>exact q
 |cont=>exact q
theorem Inv.quiet{pins:List (Addr×Obj)}{σ:St}{H:Hp}{s:Shared}(I:Inv X pins σ H s):interactive X.env=false:=by simp[interactive,I.ok.kind]
noncomputable def qFc(te:TE):TS:=λD σ H=>te σ H λ_ H1=>D.nx σ H1
theorem ps_expr(he:PE X e te)(hs:swapsWith e none pos.line X.env=pure false:=by rfl):PS X (.Expr e pos) (qFc te):=by
 intro pins s σ H D I h;exact wpAny_Expr_any (thn (he pins s σ H _ I h) λv s1 ⟨x,H1,I1,r1,q1⟩=>⟨σ,H1,I1,q1⟩) I.quiet hs
noncomputable def qHB(te:TE):TS:=λD σ H=>te σ H D.rt
theorem ps_ret(he:PE X e te):PS X (.Return (some e) pos) (qHB te):=by
 intro pins s σ H D I h;exact wpAny_Return_some (thn (he pins s σ H _ I h) λv s1 ⟨x,H1,I1,r1,q1⟩=>⟨x,σ,H1,I1,r1,q1⟩)
noncomputable def qHr(c:TT)(t u:TS):TS:=λD σ H=>c σ H λb H1=>if b=true then t D σ H1 else u D σ H1
theorem ps_if{c:Expr}{a b:List Stmt}{tc:TT}(hc:PT X c tc)(ha:PSs X a t)(hb:PSs X b u):PS X (.If c a b pos) (qHr tc t u):=by
 intro pins s σ H D I h;refine wpAny_If (thn (hc pins s σ H _ I h) λd s1 ⟨H1,I1,q1⟩=>?_);cases d with
 |true=>exact ha pins s1 σ H1 D I1 q1
 |false=>exact hb pins s1 σ H1 D I1 q1
end
noncomputable abbrev TG:=V->St->Hp->(St->Hp->Prop)->Prop
noncomputable abbrev TGs:=List V->St->Hp->(St->Hp->Prop)->Prop
def PG(X:Cx)(target:Expr)(t:TG):Prop:=
 ∀(pins:List (Addr×Obj)) (s:Shared) (σ:St) (H:Hp) (v:V) (u:Value) (Q:St->Hp->Prop),Inv X pins σ H s->RelV v u->t v σ H Q ->
  wpAny (model X.prog X.w) X.A (assign target X.env u) (λ_ s'=>∃σ' H',Inv X pins σ' H' s'/\Q σ' H') X.xe s
def PGs(X:Cx)(ts:List Expr)(t:TGs):Prop:=
 ∀(pins:List (Addr×Obj)) (s:Shared) (σ:St) (H:Hp) (vs:List V) (us:List Value) (Q:St->Hp->Prop),Inv X pins σ H s->Vals vs us->t vs σ H Q ->
  wpAny (model X.prog X.w) X.A (assignInOrder ((assignEach ts X.env).map (·.2)) us) (λ_ s'=>∃σ' H',Inv X pins σ' H' s'/\Q σ' H') X.xe s
noncomputable abbrev TSet:=V->V->V->Hp->(Hp->Prop)->Prop
def PSet(X:Cx)(t:TSet):Prop:=
 ∀(pins:List (Addr×Obj)) (s:Shared) (σ:St) (H:Hp) (o i v:V) (ov iv u:Value) (Q:Hp->Prop),Inv X pins σ H s->RelV o ov->RelV i iv->RelV v u->t o i v H Q ->
  wpAny (model X.prog X.w) X.A (setItem ov iv u) (λ_ s'=>∃H',Inv X pins σ H' s'/\Q H') X.xe s
noncomputable abbrev TIp:=V->V->Hp->VK->Prop
def PIp(X:Cx)(op:Operator)(t:TIp):Prop:=
 ∀(pins:List (Addr×Obj)) (s:Shared) (σ:St) (H:Hp) (x y:V) (v u:Value) (Q:VK),Inv X pins σ H s->RelV x v->RelV y u->t x y H Q ->
  wpAny (model X.prog X.w) X.A (inplaceOp op v u) (EP X pins σ Q) X.xe s
section
variable{X:Cx}{pos:Pos}
noncomputable def qEJ(i:Nat):TG:=λv σ H Q=>Q (σ.set i (some v)) H
theorem pg_name{i:Nat}{x:Str}(hN:X.N.Nodup)(hi:X.N[i]?=some x)(hx:Loc X.env.scope x)(hf:X.fn x=true\/X.env.scope.names.lookup x=some .local:=by first|exact .inl rfl|exact .inr rfl|assumption):PG X (.Name x pos) (qEJ i):=by
 intro pins s σ H v u Q I r h;exact wpAny_assign_Name (Qf I hN hi hx r (λs' I'=>⟨_,H,I',h⟩) hf)
noncomputable def qHO:TGs:=λvs σ H Q=>vs=[]/\Q σ H
noncomputable def qGG(t:TG)(u:TGs):TGs:=λvs σ H Q=>∃v r,vs=v::r/\t v σ H λσ' H'=>u r σ' H' Q
theorem pgs_nil:PGs X [] qHO:=by
 intro pins s σ H vs us Q I r h;obtain⟨e,h⟩:=h;subst e;cases r;exact assignInOrder_nil ⟨σ,H,I,h⟩
theorem pgs_cons{e:Expr}{es:List Expr}{t:TG}{u:TGs}(h1:PG X e t)(h2:PGs X es u)
  (hs:(assignEach (e::es) X.env).map (·.2)=assign e X.env::(assignEach es X.env).map (·.2):=by rfl):PGs X (e::es) (qGG t u):=by
 intro pins s σ H vs us Q I r h;obtain⟨v,vr,e1,h⟩:=h;subst e1;cases r with
 |cons r rr=>
  rw[hs];refine assignInOrder_cons (thn (h1 pins s σ H _ _ _ I r h) λ_ s1 ⟨σ1,H1,I1,q1⟩=>?_);exact h2 pins s1 σ1 H1 _ _ Q I1 rr q1
noncomputable def qHW(K:PySem.W.Frag)(n:Nat)(t:TGs):TG:=λv σ H Q=>∃a xs,v=.ref a/\SqT K H a xs/\xs.length=n/\t xs σ H Q
theorem pg_tup{es:List Expr}{k:Nat}{t:TGs}{n:Nat}(hc:X.calm=true)(h:PGs X es t)
  (hn:(assignEach es X.env).length=n:=by rfl) (hst:(assignEach es X.env).findIdx? (·.1)=none:=by rfl):PG X (.Tuple es k pos) (qHW X.K n t):=by
 intro pins s σ H v u Q I r hw;obtain⟨a,xs,e1,hq,hl,hw⟩:=hw;subst e1;cases r;obtain⟨its,rv,ht,hz⟩:=I.tuple hq;refine assign_Tuple_tuple (I.ok.hd hc) ht (by simp[hn,<-hl,rv.length]) hst λh' hx=>?_;have I1:Inv X pins σ H { s with heap:=h' }:=I.kept (t':=s.toks) λb o e=>hx b o (wZ (Heap.lt_size e)) e;exact h pins _ σ H xs _ Q I1 (by simpa using rv) hw
noncomputable def qHs(to ti:TE)(t:TSet):TG:=λv σ H Q=>to σ H λo H1=>ti σ H1 λi H2=>t o i v H2 λH3=>Q σ H3
theorem pg_sub{o i:Expr}{to ti:TE}{t:TSet}(ho:PE X o to)(hi:PE X i ti)(hs:PSet X t)
  (ha:∀v,assign (.Subscript o i pos) X.env v=(do
   let ov <- holding [v] (eval o X.env)
   let iv <- holding [v,ov] (eval i X.env)
   standAt pos
   holding [v,ov,iv] (setItem ov iv v)
   release [v,ov,iv] []):=by intro _;rfl):PG X (.Subscript o i pos) (qHs to ti t):=by
 intro pins s σ H v u Q I r h;rw[ha];refine vy (wpAny_holding (thn (ho pins s σ H _ I h) λov s1 ⟨x,H1,I1,r1,q1⟩=>?_));refine vy (wpAny_holding (thn (hi pins s1 σ H1 _ I1 q1) λiv s2 ⟨y,H2,I2,r2,q2⟩=>?_));refine vy (wpAny_standAt (vy (wpAny_holding (thn (hs pins s2 σ H2 x y v ov iv u _ I2 r1 r2 r q2) λ_ s3 ⟨H3,I3,q3⟩=>?_))));exact wpAny_release ⟨σ,H3,I3,q3⟩
noncomputable def tAsg(te:TE)(g:TG):TS:=λD σ H=>te σ H λx H1=>g x σ H1 D.nx
theorem ps_asg{tg e:Expr}{te:TE}{g:TG}(he:PE X e te)(hg:PG X tg g)(hs:swapsWithSole [tg] e pos.line X.env=pure false:=by rfl)(hw:swappedStores [tg] e X.env=pure none:=by rfl)
  (h1:(assignEach [tg] X.env).map (·.2)=[assign tg X.env]:=by rfl):PS X (.Assign [tg] e pos) (tAsg te g):=by
 intro pins s σ H D I h;refine wpAny_Assign_stores (thn (he pins s σ H _ I h) λv s1 ⟨x,H1,I1,r1,q1⟩=>?_) hs hw;rw[h1];exact thn (hg pins s1 σ H1 x v _ I1 r1 q1) λ_ s2 q=>q
noncomputable def qFi(to ti te:TE)(tget:V->V->Hp->VK->Prop)(tip:TIp)(tset:TSet):TS:=λD σ H=>to σ H λo H1=>ti σ H1 λi H2=>tget o i H2 λx H3=>te σ H3 λy H4=>tip x y H4 λz H5=>tset o i z H5 λH6=>D.nx σ H6
def PGet(X:Cx)(t:V->V->Hp->VK->Prop):Prop:=
 ∀(pins:List (Addr×Obj)) (s:Shared) (σ:St) (H:Hp) (o i:V) (ov iv:Value) (Q:VK),Inv X pins σ H s->RelV o ov->RelV i iv->t o i H Q ->
  wpAny (model X.prog X.w) X.A (getItem ov iv) (EP X pins σ Q) X.xe s
theorem ps_augS{o i e:Expr}{to ti te:TE}{tget:V->V->Hp->VK->Prop}{tip:TIp}{tset:TSet}{op:Operator}{tpos:Pos}(ho:PE X o to)(hi:PE X i ti)(hg:PGet X tget)(he:PE X e te)(hp:PIp X op tip)(hs:PSet X tset)
  (ha:∀ov iv new,augStore i ov iv new=(do holding [new,ov,iv] (setItem ov iv new);release [new,ov,iv] [];pure .next):=by intros;rfl):PS X (.AugAssign (.Subscript o i tpos) op e pos) (qFi to ti te tget tip tset):=by
 intro pins s σ H D I h;refine wpAny_AugAssign_SubscriptAny (thn (ho pins s σ H _ I h) λov s1 ⟨x1,H1,I1,r1,q1⟩=>?_) ha;refine thn (hi pins s1 σ H1 _ I1 q1) λiv s2 ⟨x2,H2,I2,r2,q2⟩=>?_;refine thn (hg pins s2 σ H2 x1 x2 ov iv _ I2 r1 r2 q2) λold s3 ⟨x3,H3,I3,r3,q3⟩=>?_;refine thn (he pins s3 σ H3 _ I3 q3) λv s4 ⟨x4,H4,I4,r4,q4⟩=>?_;refine thn (hp pins s4 σ H4 x3 x4 old v _ I4 r3 r4 q4) λnew s5 ⟨x5,H5,I5,r5,q5⟩=>?_;exact thn (hs pins s5 σ H5 x1 x2 x5 ov iv new _ I5 r1 r2 r5 q5) λ_ s6 ⟨H6,I6,q6⟩=>⟨σ,H6,I6,q6⟩
noncomputable def ipI(f:Int->Int->Int):TIp:=λx y H Q=>∃i j,x=.int i/\y=.int j/\Q (.int (f i j)) H
theorem ip_add:PIp X .Add (ipI λi j=>i+j):=by
 intro pins s σ H x y v u Q I r1 r2 h;obtain⟨i,j,e1,e2,q⟩:=h;subst e1;subst e2;obtain⟨t,rfl⟩:=r1;obtain⟨t',rfl⟩:=r2;exact iadd_int ⟨.int _,H,I.tok _,⟨_,rfl⟩,q⟩
end
section
variable{X:Cx}{pos:Pos}
noncomputable def qC9(c:TT)(tb:TS):TS:=λD σ H=>∃W:Nat->St->Hp->Prop,(∃m,W m σ H)/\∀m σ H,W m σ H ->
 c σ H λb H1=>if b=true then ∃N:St->Hp->Prop,(∀σ' H',N σ' H'->∃m',m'<m/\W m' σ' H')/\tb { D with nx:=N,ct:=N,bk:=D.nx } σ H1 else D.nx σ H1
theorem ps_while{c:Expr}{body:List Stmt}{tc:TT}{tb:TS}(hp:PassesOwn (model X.prog X.w) X.A X.env X.xe)(hc:PT X c tc)(hb:PSs X body tb):PS X (.While c body [] pos) (qC9 tc tb):=by
 intro pins s σ H D I h;obtain⟨W,⟨m0,w0⟩,qBf⟩:=h;refine wpAny_While (codeAny_whileLoop (λn s'=>∃σ' H',Inv X pins σ' H' s'/\W n σ' H') ?_ m0 ⟨σ,H,I,w0⟩);rintro n s1 ⟨σ1,H1,I1,w1⟩;refine wpAny_passesOwn hp (thn (hc pins s1 σ1 H1 _ I1 (qBf n σ1 H1 w1)) λb s2 ⟨H2,I2,q2⟩=>?_);cases b with
 |true=>
  obtain⟨N,hN,q2⟩:=q2;rw[if_pos rfl];refine wpAny_passesOwn hp (thn (hb pins s2 σ1 H2 _ I2 q2) λf s3 q3=>?_);cases f with
  |next=>
   obtain⟨σ3,H3,I3,n3⟩:=q3;obtain⟨m',hm,w3⟩:=hN σ3 H3 n3;exact⟨m',hm,σ3,H3,I3,w3⟩
  |cont=>
   obtain⟨σ3,H3,I3,n3⟩:=q3;obtain⟨m',hm,w3⟩:=hN σ3 H3 n3;exact⟨m',hm,σ3,H3,I3,w3⟩
  |brk=>exact q3
  |ret v=>exact q3
 |false=>
  rw[if_neg wn];exact wpAny_execs_nil ⟨σ1,H2,I2,q2⟩
end
set_option genInjectivity false in structure It where
 go:Nat->Hp->Prop
 yld:Nat->Hp->V->Hp->Prop
 stop:Nat->Hp->Prop
def Zx(X:Cx)(pins:List (Addr×Obj))(H:Hp)(b:Addr):Prop:=
 H b=none/\b≠X.env.locals/\b∉X.fs/\(b∈X.ex\/X.s₀.heap.objs.size<=b)/\(∀x c,X.env.cells.lookup x=some c->c≠b)/\∀p∈X.pn++pins,p.1≠b
theorem Inv.fpOk{X:Cx}{pins:List (Addr×Obj)}{σ:St}{H H':Hp}{s:Shared}{b:Addr}(I:Inv X pins σ H s)(hb:s.heap.objs.size<=b)(hn:H' b=none):Zx X pins H' b:=by
 refine⟨hn,Nat.ne_of_gt (wG I.lt hb),I.nofs hb,.inr (wL I.sz hb),λx c e z=>?_,λp hp z=>?_⟩
 ·obtain⟨v,q⟩:=I.cell x c e;exact absurd (wG q.lt (by rw[z];exact hb)) (we _)
 ·exact absurd (wG (Heap.lt_size (I.pin p hp).1) (by rw[z];exact hb)) (we _)
structure A7(P:Program)(w:World)(K:PySem.W.Frag)(tg:Expr)(J:It)(fp:List Addr)(it:Addr)(tn:Nat->Heap->Prop):Prop where
 mem:it∈fp
 obj:∀i h,tn i h->∀b∈fp,∃o,h.get? b=some o/\∀v,o.data≠.cell v
 keep:∀i h h',tn i h->(∀b∈fp,∀o,h.get? b=some o->h'.get? b=some o)->tn i h'
 item:∀(X:Cx),X.prog=P->X.w=w->X.K=K->X.calm=true->∀(i:Nat) (pins:List (Addr×Obj)) (s:Shared) (σ:St) (H:Hp) (E:Value->Shared->Prop),Inv X pins σ H s->(∀b∈fp,Zx X pins H b)->tn i s.heap->J.go i H ->
  wpAny (model P w) X.A (pyNext (.ref it)) (λr s1=>∃u,r=some u/\
   wpAny (model P w) X.A (letOwnedTupleGo tg (.ref it) u) (λ_ s2=>∃x H',Inv X pins σ H' s2/\RelV x u/\J.yld i H x H'/\tn (i+1) s2.heap/\∀b∈fp,H' b=none) E s1) E s
 done:∀(X:Cx),X.prog=P->X.w=w->X.K=K->X.calm=true->∀(i:Nat) (pins:List (Addr×Obj)) (s:Shared) (σ:St) (H:Hp) (E:Value->Shared->Prop),Inv X pins σ H s->(∀b∈fp,Zx X pins H b)->tn i s.heap->J.stop i H ->
  wpAny (model P w) X.A (pyNext (.ref it)) (λr s1=>r=none/\Inv X pins σ H s1) E s
 self:∀(A:Around) (i:Nat) (s:Shared) (Q:Value->Shared->Prop) (E:Value->Shared->Prop),tn i s.heap->Q (.ref it) s->wpAny (model P w) A (pyIter (.ref it)) Q E s
noncomputable abbrev TI:=St->Hp->(It->Hp->Prop)->Prop
def PIE(X:Cx)(pins:List (Addr×Obj))(σ:St)(tg:Expr)(R:It->Hp->Prop)(itv:Value)(s2:Shared):Prop:=
 ∃(it:Addr) (fp:List Addr) (tn:Nat->Heap->Prop) (J:It) (H':Hp),itv=.ref it/\Inv X pins σ H' s2/\A7 X.prog X.w X.K tg J fp it tn/\tn 0 s2.heap/\(∀b∈fp,Zx X pins H' b)/\R J H'
def _P(X:Cx)(tg iter:Expr)(wi:TI):Prop:=
 ∀(pins:List (Addr×Obj)) (s:Shared) (σ:St) (H:Hp) (R:It->Hp->Prop),Inv X pins σ H s->wi σ H R ->
  wpAny (model X.prog X.w) X.A (eval iter X.env) (λv s1=>wpAny (model X.prog X.w) X.A (pyIter v) (PIE X pins σ tg R) X.xe s1) X.xe s
theorem go_of{M:Model}{A:Around}{E:Value->Shared->Prop}{s:Shared}{tg:Expr}{it:Addr}{u:Value}{o:Obj}{n:String}{vs:Array Value}{Q:Unit->Shared->Prop}(ho:s.heap.get? it=some o)(hc:o.cls=.type n)(hd:o.data=.fields vs)
  (hn:["enumerate","zip","dict_itemiterator","dict_reverseitemiterator","odict_iterator","itertools.zip_longest","itertools.pairwise"].contains n=false) (hQ:Q () s):wpAny M A (letOwnedTupleGo tg (.ref it) u) Q E s:=by
 unfold letOwnedTupleGo;cases tg<;>first
  |exact vz hQ
  | (cases u<;>first
    |exact vz hQ
    | (refine vy (wpAny_load ho ?_)
       rw[hc,hd];show wpAny M A (if (["enumerate","zip","dict_itemiterator","dict_reverseitemiterator","odict_iterator","itertools.zip_longest","itertools.pairwise"].contains n&&vs[0]?==some (rawInt _))=true then _ else _) Q E s;rw[if_neg (by intro h;rw[hn,Bool.false_and]at h;cases h)];exact vz hQ))
noncomputable def Itl(K:PySem.W.Frag)(a:Addr):It:=
 ⟨λi H=>∃xs x,SqL K H a xs/\xs[i]?=some x,λi H x H'=>H'=H/\∀xs,SqL K H a xs->xs[i]?=some x,λi H=>∃xs,SqL K H a xs/\xs.length<=i⟩
noncomputable def Itt(K:PySem.W.Frag)(a:Addr):It:=
 ⟨λi H=>∃xs x,SqT K H a xs/\xs[i]?=some x,λi H x H'=>H'=H/\∀xs,SqT K H a xs->xs[i]?=some x,λi H=>∃xs,SqT K H a xs/\xs.length<=i⟩
noncomputable def Itr(lo:Int)(n:Nat):It:=⟨λi _=>i<n,λi H x H'=>H'=H/\x=.int (lo+i),λi _=>n<=i⟩
theorem turn_list{P:Program}{w:World}{K:PySem.W.Frag}{tg:Expr}(a it:Addr):A7 P w K tg (Itl K a) [it] it (λi h=>h.IsListIter it a i) where
 mem:=by simp
 obj:=λi h st b hb=>by
  have e:b=it:=by simpa using hb
  subst e;obtain⟨o,e,c,d⟩:=st;exact⟨o,e,λv z=>by rw[d]at z;cases z⟩
 keep:=λi h h' st k=>st.at λo e=>k it (by simp) o e
 item:=by
  intro X hP hw hK hc i pins s σ H E I hf st hg;subst hP hw hK;obtain⟨xs,x,hq,hx⟩:=hg;obtain⟨its,rv,p,hz⟩:=I.list hq;obtain⟨u,hu,ru⟩:=rv.get hx;obtain⟨f0,f1,f2,f3,f4,f5⟩:=hf it (by simp);refine wpAny_pyNext_list_item st p.isList (x:=u) (by simpa using hu) λh' st' sb=>?_;have I1:Inv X pins σ H { s with heap:=h' }:=I.turned (t':=s.toks) (λb o hb e=>(sb.2 b hb).trans e) f0 f1 f3 f4 f5;obtain⟨o,e,c,d⟩:=id st';exact⟨u,rfl,go_of (s:={ s with heap:=h' }) e c d (by decide) ⟨x,H,I1,ru,⟨rfl,λys hy=>by rw[I.list_inj hy hq];exact hx⟩,st',λb hb=>(hf b hb).1⟩⟩
 done:=by
  intro X hP hw hK hc i pins s σ H E I hf st hg;subst hP hw hK;obtain⟨xs,hq,hx⟩:=hg;obtain⟨its,rv,p,hz⟩:=I.list hq;obtain⟨f0,f1,f2,f3,f4,f5⟩:=hf it (by simp);have hl:=rv.length;exact wpAny_pyNext_list_end (I.ok.hd hc) st p.isList (by simp;omega) λh' eb=>⟨rfl,I.turned (t':=s.toks) (λb o hb e=>eb b o hb e) f0 f1 f3 f4 f5⟩
 self:=λ_ _ _ _ _ st h=>wpAny_pyIter_listiter st h
theorem turn_tuple{P:Program}{w:World}{K:PySem.W.Frag}{tg:Expr}(a it:Addr):A7 P w K tg (Itt K a) [it] it (λi h=>h.IsTupleIter it a i) where
 mem:=by simp
 obj:=λi h st b hb=>by
  have e:b=it:=by simpa using hb
  subst e;obtain⟨o,e,c,d⟩:=st;exact⟨o,e,λv z=>by rw[d]at z;cases z⟩
 keep:=λi h h' st k=>st.at λo e=>k it (by simp) o e
 item:=by
  intro X hP hw hK hc i pins s σ H E I hf st hg;subst hP hw hK;obtain⟨xs,x,hq,hx⟩:=hg;obtain⟨its,rv,p,hz⟩:=I.tuple hq;obtain⟨u,hu,ru⟩:=rv.get hx;obtain⟨f0,f1,f2,f3,f4,f5⟩:=hf it (by simp);refine wpAny_pyNext_tuple_item st (show s.heap.IsTuple a its.toArray from p) (x:=u) (by simpa using hu) λh' st' sb=>?_;have I1:Inv X pins σ H { s with heap:=h' }:=I.turned (t':=s.toks) (λb o hb e=>(sb.2 b hb).trans e) f0 f1 f3 f4 f5;obtain⟨o,e,c,d⟩:=id st';exact⟨u,rfl,go_of (s:={ s with heap:=h' }) e c d (by decide) ⟨x,H,I1,ru,⟨rfl,λys hy=>by rw[I.tuple_inj hy hq];exact hx⟩,st',λb hb=>(hf b hb).1⟩⟩
 done:=by
  intro X hP hw hK hc i pins s σ H E I hf st hg;subst hP hw hK;obtain⟨xs,hq,hx⟩:=hg;obtain⟨its,rv,p,hz⟩:=I.tuple hq;obtain⟨f0,f1,f2,f3,f4,f5⟩:=hf it (by simp);have hl:=rv.length;exact wpAny_pyNext_tuple_end (I.ok.hd hc) st (show s.heap.IsTuple a its.toArray from p) (by simp;omega) λh' eb=>⟨rfl,I.turned (t':=s.toks) (λb o hb e=>eb b o hb e) f0 f1 f3 f4 f5⟩
 self:=λ_ _ _ _ _ st h=>wpAny_pyIter_tupleiter st h
theorem T0{P:Program}{w:World}{K:PySem.W.Frag}{tg:Expr}(it:Addr)(lo:Int)(n:Nat):A7 P w K tg (Itr lo n) [it] it (λi h=>IsRangeIter h it (lo+(i:Nat)*1) ((n:Int)-(i:Nat)) 1) where
 mem:=by simp
 obj:=λi h st b hb=>by
  have e:b=it:=by simpa using hb
  subst e;exact⟨_,st,λv z=>by
   have z':Data.fields _=Data.cell v:=z;cases z'⟩
 keep:=λi h h' st k=>k it (by simp) _ st
 item:=by
  intro X hP hw hK hc i pins s σ H E I hf st hg;subst hP hw hK;obtain⟨f0,f1,f2,f3,f4,f5⟩:=hf it (by simp);have W:=Walks.range (prog:=X.prog) (w:=X.w) (I.ok.hd hc) it lo 1 n;refine W.item i s _ _ hg st λv h' tk hv st' kk=>?_;obtain⟨t,rfl⟩:=hv;have I1:Inv X pins σ H { s with heap:=h',toks:=tk }:=I.turned (λb o hb e=>kk b o (by simpa using hb) e) f0 f1 f3 f4 f5;refine⟨_,rfl,go_of (s:={ s with heap:=h',toks:=tk }) (n:="range_iterator") st' rfl rfl (by decide) ⟨.int (lo+i),H,I1,⟨t,?_⟩,⟨rfl,rfl⟩,st',λb hb=>(hf b hb).1⟩⟩;rw[Int.mul_one]
 done:=by
  intro X hP hw hK hc i pins s σ H E I hf st hg;subst hP hw hK;obtain⟨f0,f1,f2,f3,f4,f5⟩:=hf it (by simp);exact wpAny_pyNext_range_end (I.ok.hd hc) st (by have:n<=i:=hg;omega) λh' eb=>⟨rfl,I.turned (t':=s.toks) (λb o hb e=>eb b o hb e) f0 f1 f3 f4 f5⟩
 self:=λ_ _ _ _ _ st h=>wpAny_pyIter_rangeiter st h
section
variable{X:Cx}{tg:Expr}
theorem N6{pins:List (Addr×Obj)}{σ:St}{H:Hp}{s:Shared}{R:It->Hp->Prop}{E:Value->Shared->Prop}{lo hi:Int}{t u v:Tok}{tk:Nat}(I:Inv X pins σ H s)(h1:-(2 ^ 62)<=lo)(h2:lo<2 ^ 62)(h3:-(2 ^ 62)<=hi)(h4:hi<2 ^ 62)
  (q:R (Itr lo (hi-lo).toNat) H):wpAny (model X.prog X.w) X.A (pyIter (.ref s.heap.objs.size)) (PIE X pins σ tg R) E { s with heap:=s.heap.push { cls:=.type "range",data:=.fields #[.int lo t,.int hi u,.int 1 v] },toks:=tk }:=by
 refine wpAny_pyIter_range (IsRange.new ..) (small_one h1 h2 h3 h4) ?_;have I1:Inv X pins σ H { s with heap:=s.heap.push { cls:=.type "range",data:=.fields #[.int lo t,.int hi u,.int 1 v] },toks:=tk }:=I.kept λb o e=>Heap.get?_push_of_some _ e;refine⟨(s.heap.push { cls:=.type "range",data:=.fields #[.int lo t,.int hi u,.int 1 v] }).objs.size,[(s.heap.push { cls:=.type "range",data:=.fields #[.int lo t,.int hi u,.int 1 v] }).objs.size],_,_,H,rfl,
  I1.kept (t':=tk) λb o e=>Heap.get?_push_of_some _ e,T0 _ lo (hi-lo).toNat,?_,λb hb=>?_,q⟩
 ·have e1:lo+((0:Nat):Int)*1=lo:=by simp
  have e2:(((hi-lo).toNat:Nat):Int)-((0:Nat):Int)=Builtin.Range.rangeSize lo hi 1:=by rw[rangeSize_one];split<;>omega
  show IsRangeIter _ _ (lo+((0:Nat):Int)*1) ((((hi-lo).toNat:Nat):Int)-((0:Nat):Int)) 1;rw[e1,e2];exact Heap.get?_push_size _ rfl
 ·have e:b=(s.heap.push { cls:=.type "range",data:=.fields #[.int lo t,.int hi u,.int 1 v] }).objs.size:=by simpa using hb
  subst e;exact I1.fpOk (wF _) (I1.hok.fresh (wF _))
noncomputable def qFf(ta:TA):TI:=λσ H R=>ta σ H λvs H1=>∃j:Int,vs=[.int j]/\-(2 ^ 62)<=j/\j<2 ^ 62/\R (Itr 0 j.toNat) H1
noncomputable def qFL(ta:TA):TI:=λσ H R=>ta σ H λvs H1=>∃i j:Int,vs=[.int i,.int j]/\(-(2 ^ 62)<=i/\i<2 ^ 62/\-(2 ^ 62)<=j/\j<2 ^ 62)/\R (Itr i (j-i).toNat) H1
theorem pi_range1{a:Expr}{ta:TA}{p pos:Pos}(hg:Gl X "range")(hm:X.mg "range"=none)(ha:PA X [a] ta)(hs:starEach [a] X.env=[(false,eval a X.env)]:=by rfl):_P X tg (.Call (.Name "range" p) [a] [] pos) (qFf ta):=by
 intro pins s σ H R I h;refine Call_ (ld_blt I hg hm boot_range (PyProof.Rows.callWith_type1 (thn (ha pos pins s σ H _ I h) λus s1 ⟨vs,H1,I1,r1,q1⟩=>?_) hs rfl));obtain⟨j,e,q1,q2,q⟩:=q1;subst e;cases r1 with
 |cons r rr=>
  cases rr;obtain⟨t,rfl⟩:=r;exact call_range_1 (N6 I1 (by omega) (by omega) q1 q2 (by simpa using q))
theorem pi_range2{a b:Expr}{ta:TA}{p pos:Pos}(hg:Gl X "range")(hm:X.mg "range"=none)(ha:PA X [a,b] ta)(hs:starEach [a,b] X.env=[(false,eval a X.env),(false,eval b X.env)]:=by rfl)(hs2:starEach [b] X.env=[(false,eval b X.env)]:=by rfl):
  _P X tg (.Call (.Name "range" p) [a,b] [] pos) (qFL ta):=by
 intro pins s σ H R I h;refine Call_ (ld_blt I hg hm boot_range (PyProof.Rows.callWith_type1 (thn (ha pos pins s σ H _ I h) λus s1 ⟨vs,H1,I1,r1,q1⟩=>?_) (by rw[hs,hs2]) (by rw[hs2];rfl)));obtain⟨i,j,e,⟨q1,q2,q3,q4⟩,q⟩:=q1;subst e;cases r1 with
 |cons r rr=>
  cases rr with
  |cons r' rr=>
   cases rr;obtain⟨t,rfl⟩:=r;obtain⟨t',rfl⟩:=r';exact call_range_2 (N6 I1 q1 q2 q3 q4 q)
noncomputable def qHl(wi:TI)(g:TG)(tb:TS):TS:=λD σ H=>wi σ H λJ H1=>∃W:Nat->Nat->St->Hp->Prop,(∃m,W 0 m σ H1)/\∀i m σ H,W i m σ H ->
 (J.stop i H/\D.nx σ H)\/(J.go i H/\∃N:St->Hp->Prop,(∀σ' H',N σ' H'->∃m',m'<m/\W (i+1) m' σ' H')/\∀x H',J.yld i H x H'->g x σ H' λσ2 H2=>tb { D with nx:=N,ct:=N,bk:=D.nx } σ2 H2)
noncomputable def B4(fp:List Addr)(h:Heap):List (Addr×Obj):=fp.filterMap λb=>(h.get? b).map λo=>(b,o)
theorem QI{fp:List Addr}{h:Heap}{b:Addr}{o:Obj}(hb:b∈fp)(e:h.get? b=some o):(b,o)∈B4 fp h:=List.mem_filterMap.mpr ⟨b,hb,by rw[e];rfl⟩
theorem Y7{fp:List Addr}{h:Heap}{p:Addr×Obj}(hp:p∈B4 fp h):p.1∈fp/\h.get? p.1=some p.2:=by
 obtain⟨b,hb,e⟩:=List.mem_filterMap.mp hp;cases q:h.get? b with
 |none=>rw[q]at e;cases e
 |some o=>
  rw[q]at e;have e':(b,o)=p:=Option.some.inj e;subst e';exact⟨hb,q⟩
theorem Inv.pinned{pins:List (Addr×Obj)}{σ:St}{H:Hp}{s:Shared}{fp:List Addr}(I:Inv X pins σ H s)(hf:∀b∈fp,Zx X pins H b)(ho:∀b∈fp,∃o,s.heap.get? b=some o/\∀v,o.data≠.cell v):Inv X (pins++B4 fp s.heap) σ H s:=
 I.pins_of λp hp=>(wN.mp hp).elim (λz=>I.pin p (wT _ z)) λz=>by
  obtain⟨hb,e⟩:=Y7 z;obtain⟨f0,f1,f2,_⟩:=hf p.1 hb;obtain⟨o,e',d⟩:=ho p.1 hb;rw[e]at e';cases e';exact⟨e,f0,f1,f2,d⟩
theorem Inv.unpinned{pins pl:List (Addr×Obj)}{σ:St}{H:Hp}{s:Shared}(I:Inv X (pins++pl) σ H s):Inv X pins σ H s:=I.pins_of λp hp=>I.pin p (wT _ (wQ _ hp))
theorem ps_for{iter:Expr}{body:List Stmt}{wi:TI}{g:TG}{tb:TS}{pos:Pos}(hp:PassesOwn (model X.prog X.w) X.A X.env X.xe)(hc:X.calm=true)(hi:_P X tg iter wi)(hg:PG X tg g)(hb:PSs X body tb)
  (hs:∀x,foldedSetIterable iter X.env x=pure x:=by intro _;rfl):PS X (.For tg iter body [] pos) (qHl wi g tb):=by
 intro pins s σ H D I h;refine wpAny_For (thn (hi pins s σ H _ I h) λv s1 h1=>thn h1 λitv s2 h2=>?_) hs;obtain⟨it,fp,tn,J,H2,e,I2,T,st2,f2,W,⟨m0,w0⟩,qBf⟩:=h2;subst e;have stat:∀{H':Hp},(∀b∈fp,H' b=none)->∀b∈fp,Zx X pins H' b:=λhn b hb=>⟨hn b hb,(f2 b hb).2⟩
 refine codeAny_forLoop_any (λn s'=>∃i σ' H',Inv X pins σ' H' s'/\tn i s'.heap/\(∀b∈fp,H' b=none)/\W i n σ' H') ?_ m0 ⟨0,σ,H2,I2,st2,λb hb=>(f2 b hb).1,w0⟩;rintro n s3 ⟨i,σ3,H3,I3,st3,fr3,w3⟩;rcases qBf i n σ3 H3 w3 with⟨stop,qn⟩|⟨go,N,hN,step⟩
 ·refine wpAny_passesOwn hp (thn (T.done X rfl rfl rfl hc i pins s3 σ3 H3 X.xe I3 (stat fr3) st3 stop) λr s4 ⟨hr,I4⟩=>?_);subst hr;exact wpAny_execs_nil ⟨σ3,H3,I4,qn⟩
 ·refine wpAny_passesOwn hp (thn (T.item X rfl rfl rfl hc i pins s3 σ3 H3 X.xe I3 (stat fr3) st3 go) λr s4 ⟨u,hr,h4⟩=>?_);subst hr;refine wpAny_passesOwn hp (thn h4 λ_ s5 ⟨x,H5,I5,r5,y5,st5,fr5⟩=>?_);have I5':=I5.pinned (stat fr5) (T.obj _ _ st5);refine wpAny_passesOwn hp (thn (hg _ s5 σ3 H5 x u _ I5' r5 (step x H5 y5)) λ_ s6 ⟨σ6,H6,I6,q6⟩=>?_);refine wpAny_passesOwn hp (thn (hb _ s6 σ6 H6 _ I6 q6) λf s7 q7=>?_);have again:∀{σ7:St}{H7:Hp},Inv X (pins++B4 fp s5.heap) σ7 H7 s7->N σ7 H7->∃m,m<n/\∃i σ' H',Inv X pins σ' H' s7/\tn i s7.heap/\(∀b∈fp,H' b=none)/\W i m σ' H':=λ{σ7 H7} I7 n7=>by
   obtain⟨m',hm,w7⟩:=hN σ7 H7 n7;refine⟨m',hm,i+1,σ7,H7,I7.unpinned,T.keep _ _ _ st5 λb hb o e=>(I7.pin (b,o) (wT _ (wT _ (QI hb e)))).1,λb hb=>?_,w7⟩;obtain⟨o,e,d⟩:=T.obj _ _ st5 b hb;exact(I7.pin (b,o) (wT _ (wT _ (QI hb e)))).2.1
  cases f with
  |next=>obtain⟨σ7,H7,I7,n7⟩:=q7;exact again I7 n7
  |cont=>obtain⟨σ7,H7,I7,n7⟩:=q7;exact again I7 n7
  |brk=>obtain⟨σ7,H7,I7,q7⟩:=q7;exact⟨σ7,H7,I7.unpinned,q7⟩
  |ret v=>obtain⟨x7,σ7,H7,I7,r7,q7⟩:=q7;exact⟨x7,σ7,H7,I7.unpinned,r7,q7⟩
end
noncomputable abbrev R2:=V->V->Hp->VK->Prop
def OpR(X:Cx)(f:Value->Value->Sem Value)(r:R2):Prop:=
 ∀(pins:List (Addr×Obj)) (s:Shared) (σ:St) (H:Hp) (x y:V) (v u:Value) (Q:VK),Inv X pins σ H s->RelV x v->RelV y u->r x y H Q ->
  wpAny (model X.prog X.w) X.A (f v u) (EP X pins σ Q) X.xe s
def UnR(X:Cx)(f:Value->Sem Value)(r:V->Hp->VK->Prop):Prop:=
 ∀(pins:List (Addr×Obj)) (s:Shared) (σ:St) (H:Hp) (x:V) (v:Value) (Q:VK),Inv X pins σ H s->RelV x v->r x H Q ->
  wpAny (model X.prog X.w) X.A (f v) (EP X pins σ Q) X.xe s
def zr(X:Cx)(f:Value)(r:List V->Hp->VK->Prop):Prop:=
 ∀(pins:List (Addr×Obj)) (s:Shared) (σ:St) (H:Hp) (xs:List V) (us:List Value) (Q:VK),Inv X pins σ H s->Vals xs us->r xs H Q ->
  wpAny (model X.prog X.w) X.A (call f us) (EP X pins σ Q) X.xe s
noncomputable def tOp(r:R2)(ta tb:TE):TE:=λσ H Q=>ta σ H λx H1=>tb σ H1 λy H2=>r x y H2 Q
noncomputable def tUn(r:V->Hp->VK->Prop)(ta:TE):TE:=λσ H Q=>ta σ H λx H1=>r x H1 Q
noncomputable def rI(C:Int->Int->Prop)(g:Int->Int->V):R2:=λx y H Q=>∃i j,x=.int i/\y=.int j/\C i j/\Q (g i j) H
noncomputable def rI0(g:Int->Int->V):R2:=λx y H Q=>∃i j,x=.int i/\y=.int j/\Q (g i j) H
def rU(g:Int->V):V->Hp->VK->Prop:=λx H Q=>∃i,x=.int i/\Q (g i) H
section
variable{X:Cx}{a b c:Expr}{ta tb tc:TE}{pos:Pos}
theorem zW(ha:PE X a ta)(hb:PE X b tb){pins:List (Addr×Obj)}{s:Shared}{σ:St}{H:Hp}{R:V->V->Hp->Prop}(I:Inv X pins σ H s)
  (h:ta σ H λx H1=>tb σ H1 λy H2=>R x y H2){Q:Value->Shared->Prop}{f:Value->Value->Sem Value}
  (hf:∀v u s2 x y H2,Inv X pins σ H2 s2->RelV x v->RelV y u->R x y H2->wpAny (model X.prog X.w) X.A (f v u) Q X.xe s2):
  wpAny (model X.prog X.w) X.A (eval a X.env) (λv s₁=>wpAny (model X.prog X.w) X.A (eval b X.env) (λu s₂=>wpAny (model X.prog X.w) X.A (f v u) Q X.xe s₂) X.xe s₁) X.xe s:=by
 refine thn (ha pins s σ H _ I h) λv s1 ⟨x,H1,I1,r1,q1⟩=>?_;refine thn (hb pins s1 σ H1 _ I1 q1) λu s2 ⟨y,H2,I2,r2,q2⟩=>?_;exact hf v u s2 x y H2 I2 r1 r2 q2
theorem pe_op{op:Operator}{r:R2}(ho:OpR X (binaryOp op) r)(ha:PE X a ta)(hb:PE X b tb):PE X (.BinOp a op b pos) (tOp r ta tb):=by
 intro pins s σ H Q I h;exact wpAny_BinOp (zW ha hb I h λv u s2 x y H2 I2 rx ry q=>ho pins s2 σ H2 x y v u Q I2 rx ry q)
theorem pe_un{op:UnaryOp}{r:V->Hp->VK->Prop}(ho:UnR X (unaryOp op) r)(ha:PE X a ta):PE X (.UnaryOp op a pos) (tUn r ta):=by
 intro pins s σ H Q I h;exact UnaryOp_ (thn (ha pins s σ H _ I h) λv s1 ⟨x,H1,I1,r1,q1⟩=>ho pins s1 σ H1 x v Q I1 r1 q1)
theorem opI{f:Value->Value->Sem Value}{C:Int->Int->Prop}{g:Int->Int->Int}
  (rule:∀(i j:Int) (t u:Tok) (s:Shared) (Q:Value->Shared->Prop) (E:Value->Shared->Prop),C i j->Q (.int (g i j) s.toks) { s with toks:=s.toks+1 }->wpAny (model X.prog X.w) X.A (f (.int i t) (.int j u)) Q E s):
  OpR X f (rI C λi j=>.int (g i j)):=by
 intro pins s σ H x y v u Q I rx ry h;obtain⟨i,j,rfl,rfl,hc,q⟩:=h;obtain⟨t,rfl⟩:=rx;obtain⟨t',rfl⟩:=ry;exact rule i j t t' s _ _ hc ⟨.int (g i j),H,I.tok _,⟨_,rfl⟩,q⟩
theorem qFC{f:Value->Value->Sem Value}{g:Int->Int->Int}
  (rule:∀(i j:Int) (t u:Tok) (s:Shared) (Q:Value->Shared->Prop) (E:Value->Shared->Prop),Q (.int (g i j) s.toks) { s with toks:=s.toks+1 }->wpAny (model X.prog X.w) X.A (f (.int i t) (.int j u)) Q E s):
  OpR X f (rI0 λi j=>.int (g i j)):=by
 intro pins s σ H x y v u Q I rx ry h;obtain⟨i,j,rfl,rfl,q⟩:=h;obtain⟨t,rfl⟩:=rx;obtain⟨t',rfl⟩:=ry;exact rule i j t t' s _ _ ⟨.int (g i j),H,I.tok _,⟨_,rfl⟩,q⟩
theorem qFB{f:Value->Value->Sem Value}{g:Int->Int->Bool}
  (rule:∀(i j:Int) (t u:Tok) (s:Shared) (Q:Value->Shared->Prop) (E:Value->Shared->Prop),Q (.bool (g i j)) s->wpAny (model X.prog X.w) X.A (f (.int i t) (.int j u)) Q E s):
  OpR X f (rI0 λi j=>.bl (g i j)):=by
 intro pins s σ H x y v u Q I rx ry h;obtain⟨i,j,rfl,rfl,q⟩:=h;obtain⟨t,rfl⟩:=rx;obtain⟨t',rfl⟩:=ry;exact rule i j t t' s _ _ ⟨.bl (g i j),H,I,rfl,q⟩
def CDiv(i j:Int):Prop:=0<j/\j<1073741824
def CPow(i j:Int):Prop:=0<=j/\j<=1000000/\i.natAbs<2 ^ 64
def CMul(i j:Int):Prop:=(-(2 ^ 64)<i/\i<2 ^ 64)\/(-(2 ^ 64)<j/\j<2 ^ 64)
theorem CMul.ok{i j:Int}(h:CMul i j):IntMulOk i j:=by
 rcases h with⟨h1,h2⟩|⟨h1,h2⟩
 ·exact .of_left (intBits_le_64 h1 h2)
 ·exact .of_right (intBits_le_64 h1 h2)
theorem two_pow_nn(k:Nat):(0:Int)<=2 ^ k:=by
 rw[two_pow_cast];exact Int.natCast_nonneg _
theorem op_add:OpR X (binaryOp .Add) (rI0 λi j=>.int (i+j)):=qFC λ_ _ _ _ _ _ _ q=>add_int q
theorem op_sub:OpR X (binaryOp .Sub) (rI0 λi j=>.int (i-j)):=qFC λ_ _ _ _ _ _ _ q=>sub_int q
theorem op_mul:OpR X (binaryOp .Mult) (rI CMul λi j=>.int (i*j)):=opI λ_ _ _ _ _ _ _ hc q=>mul_int q hc.ok
theorem op_fdiv:OpR X (binaryOp .FloorDiv) (rI CDiv λi j=>.int (i / j)):=opI λi j _ _ _ _ _ hc q=>by
 have h1:(0:Int)<j:=hc.1;have h2:j<1073741824:=hc.2;exact floordiv_int (by omega) (by rw[vY i (by omega)];exact q) (.inl (PyProof.noPylong_small (by omega)))
theorem op_mod:OpR X (binaryOp .Mod) (rI (λ_ j=>0<j) λi j=>.int (i % j)):=opI λi j _ _ _ _ _ hc q=>by
 have h1:(0:Int)<j:=hc;exact mod_int' (by omega) (by rw[Int.fmod_eq_emod_of_nonneg i (by omega)];exact q)
theorem op_modN:OpR X (binaryOp .Mod) (rI (λ_ j=>j≠0) λi j=>.int (i.fmod j)):=opI λ_ _ _ _ _ _ _ hc q=>mod_int' hc q
theorem op_pow:OpR X (binaryOp .Pow) (rI CPow λi j=>.int (i ^ j.toNat)):=opI λ_ _ _ _ _ _ _ hc q=>pow_int_small hc.1 hc.2.1 hc.2.2 q
theorem op_shr:OpR X (binaryOp .RShift) (rI (λ_ j=>0<=j) λi j=>.int (i / 2 ^ j.toNat)):=opI λi j _ _ _ _ _ hc q=>
 rshift_int hc (by rw[vY i (two_pow_nn _)];exact q)
theorem op_and:OpR X (binaryOp .BitAnd) (rI0 λi j=>.int (Builtin.bitAnd i j)):=qFC λ_ _ _ _ _ _ _ q=>and_int q
theorem op_xor:OpR X (binaryOp .BitXor) (rI0 λi j=>.int (Builtin.bitXor i j)):=qFC λ_ _ _ _ _ _ _ q=>xor_int q
theorem unI{f:Value->Sem Value}{g:Int->Int}
  (rule:∀(i:Int) (t:Tok) (s:Shared) (Q:Value->Shared->Prop) (E:Value->Shared->Prop),Q (.int (g i) s.toks) { s with toks:=s.toks+1 }->wpAny (model X.prog X.w) X.A (f (.int i t)) Q E s):
  UnR X f (rU λi=>.int (g i)):=by
 intro pins s σ H x v Q I rx h;obtain⟨i,rfl,q⟩:=h;obtain⟨t,rfl⟩:=rx;exact rule i t s _ _ ⟨.int (g i),H,I.tok _,⟨_,rfl⟩,q⟩
theorem un_neg:UnR X (unaryOp .USub) (rU λi=>.int (-i)):=unI λ_ _ _ _ _ q=>neg_int q
end
section
variable{X:Cx}{a b c:Expr}{ta tb tc:TE}{pos:Pos}
theorem qAv{pins:List (Addr×Obj)}{σ:St}{H:Hp}{s:Shared}{Q:VK}{k k':Bool}(I:Inv X pins σ H s)(q:Q (.bl k) H)(e:k=k'):EP X pins σ Q (.bool k') s:=by
 subst e;exact⟨.bl k,H,I,rfl,q⟩
theorem op_lt:OpR X (compareOp .Lt) (rI0 λi j=>.bl (decide (i<j))):=qFB λ_ _ _ _ _ _ _ q=>lt_int q
theorem op_le:OpR X (compareOp .LtE) (rI0 λi j=>.bl (decide (i<=j))):=qFB λ_ _ _ _ _ _ _ q=>le_int q
theorem op_gt:OpR X (compareOp .Gt) (rI0 λi j=>.bl (decide (j<i))):=qFB λ_ _ _ _ _ _ _ q=>gt_int q
theorem op_ge:OpR X (compareOp .GtE) (rI0 λi j=>.bl (decide (j<=i))):=qFB λ_ _ _ _ _ _ _ q=>ge_int q
theorem op_isN:OpR X (compareOp .Is) (λx y H Q=>y=.non/\Q (.bl (decide (x=.non))) H):=by
 intro pins s σ H x y v u Q I rx ry h;obtain⟨rfl,q⟩:=h;cases ry;refine is_none_gen (qAv I q ?_);cases x<;>first
  | (cases rx;rfl)
  | (obtain⟨t,rfl⟩:=rx;rfl)
theorem op_notN:OpR X (compareOp .IsNot) (λx y H Q=>y=.non/\Q (.bl (!decide (x=.non))) H):=by
 intro pins s σ H x y v u Q I rx ry h;obtain⟨rfl,q⟩:=h;cases ry;refine isnot_none_gen (qAv I q ?_);cases x<;>first
  | (cases rx;rfl)
  | (obtain⟨t,rfl⟩:=rx;rfl)
theorem OpR.or{f:Value->Value->Sem Value}{r r':R2}(h:OpR X f r)(h':OpR X f r'):OpR X f (λx y H Q=>r x y H Q\/r' x y H Q):=by
 intro pins s σ H x y v u Q I rx ry q;rcases q with q|q
 ·exact h pins s σ H x y v u Q I rx ry q
 ·exact h' pins s σ H x y v u Q I rx ry q
theorem pe_cmpR{op:CmpOp}{r:R2}(ho:OpR X (compareOp op) r)(ha:PE X a ta)(hb:PE X b tb)(hm:behindInMarks op b=false):PE X (.Compare a [op] [b] pos) (tOp r ta tb):=by
 intro pins s σ H Q I h;exact wpAny_Compare1 (zW ha hb I h λv u s2 x y H2 I2 rx ry q=>ho pins s2 σ H2 x y v u Q I2 rx ry q) hm
noncomputable def qB2(t:TE):TT:=λσ H Q=>t σ H λx H'=>∃k,x=.bl k/\Q k H'
theorem pt_cmpR{op:CmpOp}{r:R2}(ho:OpR X (compareOp op) r)(ha:PE X a ta)(hb:PE X b tb)(hm:behindInMarks op b=false):PT X (.Compare a [op] [b] pos) (qB2 (tOp r ta tb)):=by
 intro pins s σ H Q I h;refine wpAny_isTrue_Compare1 (thn (ha pins s σ H _ I h) λv s1 ⟨x,H1,I1,r1,q1⟩=>thn (hb pins s1 σ H1 _ I1 q1) λu s2 ⟨y,H2,I2,r2,q2⟩=>
  thn (ho pins s2 σ H2 x y v u _ I2 r1 r2 q2) λc s3 ⟨z,H3,I3,r3,k,e,q3⟩=>?_) hm
 subst e;cases r3;exact uE ⟨H3,I3,q3⟩
noncomputable def tChain(r r':R2)(ta tb tc:TE):TE:=λσ H Q=>ta σ H λx H1=>tb σ H1 λy H2=>r x y H2 λz H3=>∃k,z=.bl k/\
 (if k=true then tc σ H3 λw' H4=>r' y w' H4 Q else Q (.bl false) H3)
theorem pe_chain{op op':CmpOp}{r r':R2}(ho:OpR X (compareOp op) r)(ho':OpR X (compareOp op') r')(ha:PE X a ta)(hb:PE X b tb)(hc:PE X c tc)
  (hm:lastMarks [op,op'] [b,c]=false:=by with_unfolding_all rfl):PE X (.Compare a [op,op'] [b,c] pos) (tChain r r' ta tb tc):=by
 intro pins s σ H Q I h;refine Compare_chain (thn (ha pins s σ H _ I h) λv s1 ⟨x,H1,I1,r1,q1⟩=>chain_link (thn (hb pins s1 σ H1 _ I1 q1) λu s2 ⟨y,H2,I2,r2,q2⟩=>
  thn (ho pins s2 σ H2 x y v u _ I2 r1 r2 q2) λd s3 ⟨z,H3,I3,r3,k,e,q3⟩=>?_)) hm
 subst e;cases r3;refine uE ?_;cases k with
 |false=>exact ite_ff ⟨.bl false,H3,I3,rfl,q3⟩
 |true=>exact ite_tt (chain_last (thn (hc pins s3 σ H3 _ I3 q3) λw' s4 ⟨z',H4,I4,r4,q4⟩=>ho' pins s4 σ H4 y z' u w' Q I4 r2 r4 q4))
theorem pt_chain{op op':CmpOp}{r r':R2}(ho:OpR X (compareOp op) r)(ho':OpR X (compareOp op') r')(ha:PE X a ta)(hb:PE X b tb)(hc:PE X c tc)
  (hm:lastMarks [op,op'] [b,c]=false:=by with_unfolding_all rfl):PT X (.Compare a [op,op'] [b,c] pos) (qB2 (tChain r r' ta tb tc)):=by
 intro pins s σ H Q I h;refine isTrue_chain (thn (ha pins s σ H _ I h) λv s1 ⟨x,H1,I1,r1,q1⟩=>test_link (thn (hb pins s1 σ H1 _ I1 q1) λu s2 ⟨y,H2,I2,r2,q2⟩=>
  thn (ho pins s2 σ H2 x y v u _ I2 r1 r2 q2) λd s3 ⟨z,H3,I3,r3,k,e,q3⟩=>?_)) hm
 subst e;cases r3;refine uE ?_;cases k with
 |false=>
  obtain⟨k',e',q'⟩:=q3;cases e';exact ite_ff ⟨H3,I3,q'⟩
 |true=>
  refine ite_tt (test_last (thn (hc pins s3 σ H3 _ I3 q3) λw' s4 ⟨z',H4,I4,r4,q4⟩=>thn (ho' pins s4 σ H4 y z' u w' _ I4 r2 r4 q4) λd' s5 ⟨z2,H5,I5,r5,k2,e2,q5⟩=>?_));subst e2;cases r5;exact uE ⟨H5,I5,q5⟩
theorem line63:(sizeLine:Nat)<2 ^ 63:=by rw[sizeLine_eq];decide
theorem vals1{x:V}{us:List Value}(r:Vals [x] us):∃u,us=[u]/\RelV x u:=by
 cases r with
 |cons r1 r2=>cases r2;exact⟨_,rfl,r1⟩
theorem vals2{x y:V}{us:List Value}(r:Vals [x,y] us):∃u w',us=[u,w']/\RelV x u/\RelV y w':=by
 cases r with
 |cons r1 r2=>
  cases r2 with
  |cons r3 r4=>cases r4;exact⟨_,_,rfl,r1,r3⟩
theorem call_abs:zr X (.builtin "abs") (λxs H Q=>∃i,xs=[.int i]/\Q (.int (if i<0 then -i else i)) H):=by
 intro pins s σ H xs us Q I r h;obtain⟨i,rfl,q⟩:=h;obtain⟨u,rfl,t,rfl⟩:=vals1 r;exact call_abs_int λu tk=>⟨.int (if i<0 then -i else i),H,I.tok _,⟨_,rfl⟩,q⟩
theorem call_max2(hc:X.calm=true):zr X (.builtin "max") (λxs H Q=>∃i j,xs=[.int i,.int j]/\Q (.int (if j>i then j else i)) H):=by
 intro pins s σ H xs us Q I r h;obtain⟨i,j,rfl,q⟩:=h;obtain⟨u,w',rfl,⟨t,rfl⟩,⟨t',rfl⟩⟩:=vals2 r;refine max_two_ints (I.ok.hd hc) λh' tk k=>⟨_,H,I.kept k,?_,q⟩
 by_cases hj:j>i
 ·rw[if_pos hj,if_pos hj];exact⟨_,rfl⟩
 ·rw[if_neg hj,if_neg hj];exact⟨_,rfl⟩
theorem call_min2(hc:X.calm=true):zr X (.builtin "min") (λxs H Q=>∃i j,xs=[.int i,.int j]/\Q (.int (if j<i then j else i)) H):=by
 intro pins s σ H xs us Q I r h;obtain⟨i,j,rfl,q⟩:=h;obtain⟨u,w',rfl,⟨t,rfl⟩,⟨t',rfl⟩⟩:=vals2 r;refine min_two_ints (I.ok.hd hc) λh' tk k=>⟨_,H,I.kept k,?_,q⟩
 by_cases hj:j<i
 ·rw[if_pos hj,if_pos hj];exact⟨_,rfl⟩
 ·rw[if_neg hj,if_neg hj];exact⟨_,rfl⟩
theorem call_int1:zr X (.type "int") (λxs H Q=>(∃i,xs=[.int i]/\Q (.int i) H)\/∃k,xs=[.bl k]/\Q (.int (if k then 1 else 0)) H):=by
 intro pins s σ H xs us Q I r h;rcases h with⟨i,rfl,q⟩|⟨k,rfl,q⟩
 ·obtain⟨u,rfl,t,rfl⟩:=vals1 r;exact call_int_int ⟨.int i,H,I,⟨_,rfl⟩,q⟩
 ·obtain⟨u,rfl,r1⟩:=vals1 r;cases r1;exact call_int_bool ⟨.int (if k then 1 else 0),H,I.tok _,⟨_,rfl⟩,q⟩
end
structure Room(k:Nat)(A:Around):Prop where
 hd:A.handled=none
 dp:A.depth+3*k+5<recursionLimit
 un:A.units+16*k+200<cLine
 gd:A.guards=some []
theorem Room.mono{j k:Nat}{A:Around}(r:Room k A)(h:j<=k):Room j A:=⟨r.hd,by have:=r.dp;omega,by have:=r.un;omega,r.gd⟩
theorem Room.deeper{k:Nat}{A:Around}(r:Room (k+1) A)(env:Env):Room k (A.deeper env):=
 ⟨r.hd,by have:=r.dp;show A.depth+1+3*k+5<_;omega,by have:=r.un;show A.units+3+16*k+200<_;omega,r.gd⟩
theorem Room.in1{k:Nat}{A:Around}(r:Room (k+1) A):Room k A.in1:=
 ⟨r.hd,by have:=r.dp;show A.depth+3*k+5<_;omega,by have:=r.un;show A.units+1+16*k+200<_;omega,r.gd⟩
theorem Room.depth{k:Nat}{A:Around}(r:Room k A):A.depth<recursionLimit:=by have:=r.dp;omega
theorem Room.units{k:Nat}{A:Around}(r:Room k A):A.units+64<cLine:=by have:=r.un;omega
noncomputable def qGw:TA:=λ_ H Q=>Q [] H
noncomputable def qGK(ta:TE)(tr:TA):TA:=λσ H Q=>ta σ H λx H1=>tr σ H1 λxs H2=>Q (x::xs) H2
section
variable{X:Cx}{e:Expr}{es:List Expr}{te:TE}{t:TA}{pos:Pos}
theorem pa_nil:PA X [] qGw:=λ_ _ _ _ H Q I h=>Calls.spliced_nil ⟨[],H,I,.nil,h⟩
theorem pa_cons(ha:PE X e te)(hr:PA X es t)(hs:starEach (e::es) X.env=(false,eval e X.env)::starEach es X.env:=by rfl):PA X (e::es) (qGK te t):=by
 intro pos pins s σ H Q I h;rw[hs];show wpAny _ _ (spliced ((false,eval e X.env)::backTo pos (starEach es X.env))) _ _ s;refine Calls.spliced_cons (thn (ha pins s σ H _ I h) λu s1 ⟨x,H1,I1,r1,q1⟩=>?_);exact thn (hr pos pins s1 σ H1 _ I1 q1) λus s2 ⟨xs,H2,I2,r2,q2⟩=>⟨x::xs,H2,I2,.cons r1 r2,q2⟩
noncomputable def qHH(t:TA):TE:=λσ H Q=>t σ H λxs H1=>xs.length<=sizeLine/\∀p,H1 p=none->Q (.ref p) (upd H1 p (.tup xs))
noncomputable def qHC(t:TA):TE:=λσ H Q=>t σ H λxs H1=>xs.length<=sizeLine/\∀p,H1 p=none->Q (.ref p) (upd H1 p (.lst xs))
theorem pe_tup {x1}(h:PA X es t):PE X (.Tuple es x1 pos) (qHH t):=by
 intro pins s σ H Q I hq;refine wpAny_Tuple_spliced (thn (h pos pins s σ H _ I hq) λus s1 ⟨xs,H1,I1,r,z,q⟩=>⟨by rw[<-r.length];exact z,?_⟩);have hf:H1 s1.heap.objs.size=none:=I1.hok.fresh (wF _);refine⟨.ref s1.heap.objs.size,upd H1 s1.heap.objs.size (.tup xs),I1.laid (t':=s1.toks) (λb u e=>Heap.get?_push_of_some _ e) (wF _) ?_,rfl,q _ hf⟩;exact⟨z,us,r,⟨_,Heap.get?_push_size _ rfl,rfl,_,rfl⟩⟩
theorem pe_lst(h:PA X es t):PE X (.List es pos) (qHC t):=by
 intro pins s σ H Q I hq;refine wpAny_List_spliced (thn (h pos pins s σ H _ I hq) λus s1 ⟨xs,H1,I1,r,z,q⟩=>⟨by rw[<-r.length];exact z,?_⟩);have hf:H1 s1.heap.objs.size=none:=I1.hok.fresh (wF _);refine⟨.ref s1.heap.objs.size,upd H1 s1.heap.objs.size (.lst xs),I1.laid (t':=s1.toks) (λb u e=>Heap.get?_push_of_some _ e) (wF _) ?_,rfl,q _ hf⟩;exact⟨z,us,0,r,Heap.get?_push_size _ rfl⟩
end
noncomputable abbrev Sp:=List V->Hp->VK->XK->Prop
noncomputable abbrev CXT:=List Env->Hp->Shared->XK->Value->Shared->Prop
structure Env0(P:Program)(w:World)(K:PySem.W.Frag)(mg:Str->Option Value)(base:Heap)(A:Around)(outer:List Env)(s:Shared)(H:Hp):Prop where
 frames:A.frames=some outer
 mod:Mod K mg base
 bs:∀b o,base.get? b=some o->s.heap.get? b=some o/\H b=none
 bsz:base.objs.size<=s.heap.objs.size
 funs:s.heap.FunFrames base outer
 frf:∀b∈frs outer,H b=none
 hok:HOk P w H s.heap
 bare:AllBare s.gens
def CE(outer:List Env)(P:Program)(w:World)(H:Hp)(s:Shared)(Q:VK)(u:Value)(s':Shared):Prop:=
 ∃v H',s'.os=s.os/\AllBare s'.gens/\Un (frs outer) [] H H' s.heap s'.heap/\HOk P w H' s'.heap/\RelV v u/\Q v H'
def CR(CX:CXT)(outer:List Env)(P:Program)(w:World)(H:Hp)(s:Shared)(Q:VK)(E:XK)(r:Result)(s':Shared):Prop:=
 match r with
 | .ok (.ret u)=>CE outer P w H s Q u s'
 | .ok _=>False
 | .error e=>CX outer H s E e s'
structure FnOk(P:Program)(w:World)(K:PySem.W.Frag)(mg:Str->Option Value)(base:Heap)(CX:CXT)(k:Nat)(f:Addr)(fd:FuncData)(ps:List Str)(sp:Sp):Prop where
 len:∀vs H Q E,sp vs H Q E->vs.length=ps.length
 run:∀(A:Around) (outer:List Env) (s:Shared) (H:Hp) (args:Args) (us:List Value) (vs:List V) (Q:VK) (E:XK),Room k A->Env0 P w K mg base A outer s H->BindsTo s fd args (ps.zip us)->Vals vs us->sp vs H Q E ->
  codeAny (model P w) A (.call (.ref f) args) (CR CX outer P w H s Q E) s
theorem Env0.in1{P:Program}{w:World}{K:PySem.W.Frag}{mg:Str->Option Value}{base:Heap}{A:Around}{outer:List Env}{s:Shared}{H:Hp}(e:Env0 P w K mg base A outer s H):
  Env0 P w K mg base A.in1 outer s H:=⟨e.frames,e.mod,e.bs,e.bsz,e.funs,e.frf,e.hok,e.bare⟩
section
variable{X:Cx}{pins:List (Addr×Obj)}{σ:St}{H:Hp}{s s':Shared}
theorem Inv.env0(I:Inv X pins σ H s):Env0 X.prog X.w X.K X.mg X.base X.A X.stack s H:=
 ⟨I.ok.frames,I.ok.mod,I.bs,wL I.ok.bsz I.sz,I.stack,I.stkFree,I.hok,I.bare⟩
theorem Inv.after{Q:VK}{u:Value}(I:Inv X pins σ H s)(h:CE X.stack X.prog X.w H s Q u s'):EP X pins σ Q u s':=by
 obtain⟨v,H',os,bare,un,hok,r,q⟩:=h;obtain⟨hh,g,d,t,os'⟩:=s';obtain rfl:os'=s.os:=os;exact⟨v,H',I.call (h':=hh) (g':=g) (d':=d) (t':=t) (ch:=[]) un hok bare (λb z=>absurd z (by simp)),r,q⟩
end
noncomputable def tCall(sp:Sp)(dvs:List V)(E:XK)(t:TA):TE:=λσ H Q=>t σ H λvs H1=>sp (vs++dvs) H1 Q E
def Binds(K:PySem.W.Frag)(fd:FuncData)(ps:List Str)(ds:List Value):Prop:=
 ∀(s:Shared) (us:List Value),K.In s.heap->(us++ds).length=ps.length->BindsTo s fd ⟨us,[]⟩ (ps.zip (us++ds))
theorem Binds.all{K:PySem.W.Frag}{fd:FuncData}{ps:List Str}(h:∀us:List Value,us.length=ps.length->bindArgs fd ⟨us,[]⟩=pure (ps.zip us)):Binds K fd ps []:=λs us _ hl=>by
 rw[wV]at hl ⊢;exact .of_eq (h us hl)
def R6(CX:CXT)(X:Cx)(E:XK):Prop:=∀(pins:List (Addr×Obj)) (σ:St) (H:Hp) (s:Shared) (e:Value) (s':Shared),Inv X pins σ H s->CX X.stack H s E e s'->X.xe e s'
section
variable{X:Cx}{CX:CXT}{k:Nat}{f C:Addr}{fd:FuncData}{ps:List Str}{sp:Sp}{dvs:List V}{ds:List Value}{E:XK}{x m:Str}{p pos apos:Pos}{e o:Expr}{es:List Expr}{ta:TE}{t:TA}
theorem qA3{pins:List (Addr×Obj)}{σ:St}{H:Hp}{s:Shared}{Q:VK}{us:List Value}{vs:List V}(F:FnOk X.prog X.w X.K X.mg X.base CX k f fd ps sp)(hr:Room k X.A)(hb:Binds X.K fd ps ds)(hd:Vals dvs ds)(hx:R6 CX X E)
  (I:Inv X pins σ H s) (r:Vals vs us) (h:sp (vs++dvs) H Q E):wpAny (model X.prog X.w) X.A (call (.ref f) us) (EP X pins σ Q) X.xe s:=by
 have r2:Vals (vs++dvs) (us++ds):=r.append hd;have hl:(us++ds).length=ps.length:=by rw[<-r2.length];exact F.len _ _ _ _ h
 refine wpAny_call (codeAny_mono (F.run X.A X.stack s H ⟨us,[]⟩ (us++ds) (vs++dvs) Q E hr I.env0 (hb s us I.kIn hl) r2 h) λr s' hq=>?_);cases r with
 |error e=>exact hx pins σ H s e s' I hq
 |ok fl=>
  cases fl with
  |ret u=>exact I.after hq
  |next=>exact False.elim hq
  |brk=>exact False.elim hq
  |cont=>exact False.elim hq
theorem pe_call(F:FnOk X.prog X.w X.K X.mg X.base CX k f fd ps sp)(hr:Room k X.A)(hg:Gl X x)(hm:X.mg x=some (.ref f))(hk:PySem.W.keepIn X.K (.ref f)=true)(hb:Binds X.K fd ps ds)(hd:Vals dvs ds)(hx:R6 CX X E)
  (ha:PA X (e::es) t) (hdb:(x==("__debug__":Str))=false:=by decide) (he:starEach (e::es) X.env=(false,eval e X.env)::starEach es X.env:=by rfl) (hpl:(backTo pos (starEach es X.env)).any (·.1)=false:=by rfl):
  PE X (.Call (.Name x p) (e::es) [] pos) (tCall sp dvs E t):=by
 intro pins s σ H Q I h;refine wpAny_Call_Name_kw (K0 I hg hm ?_ hdb);refine PySem.W.callWith_K (h₀:=X.base) I.ok.mod.kin hk (thn (ha pos pins s σ H _ I h) λus s1 ⟨vs,H1,I1,r,q⟩=>⟨I1.kIn,?_⟩) he hpl;exact qA3 F hr hb hd hx I1 r q
theorem pe_call0(F:FnOk X.prog X.w X.K X.mg X.base CX k f fd ps sp)(hr:Room k X.A)(hg:Gl X x)(hm:X.mg x=some (.ref f))(hk:PySem.W.keepIn X.K (.ref f)=true)(hb:Binds X.K fd ps ds)(hd:Vals dvs ds)(hx:R6 CX X E)
  (hdb:(x==("__debug__":Str))=false:=by decide):PE X (.Call (.Name x p) [] [] pos) (tCall sp dvs E qGw):=by
 intro pins s σ H Q I h;refine wpAny_Call_Name_kw (K0 I hg hm ?_ hdb);exact PySem.W.callWith_K0 I.kIn hk (qA3 (us:=[]) F hr hb hd hx I .nil h)
end
structure zt(N P:List Str)(sc:Scope):Prop where
 kind:sc.kind=.function
 co:sc.isCoroutine=false
 gen:sc.isGenerator=false
 nd:N.Nodup
 pre:N.take P.length=P
 par:∀x∈P,sc.names.lookup x=some .local\/sc.names.lookup x=some .cell
 nofree:∀y∈sc.names,y.2≠.free
theorem E9{kindOf:Str->Option NameKind}{x:Str}:∀{binds:List (Str×Value)}{m:Str->Option Value},(∀v,(x,v)∉binds)->bindL kindOf binds m x=m x
 | [],_,_=>rfl
 | (n,v)::r,m,h=>by
  unfold bindL;rw[E9 λw hw=>h w (wI _ hw)];split
  ·have:x≠n:=by rintro rfl;exact h v wK
   simp[this]
  ·rfl
theorem A9{kindOf:Str->Option NameKind}{x:Str}:∀{binds:List (Str×Value)}{m:Str->Option Value},(∀v,(x,v)∉binds)->bindC kindOf binds m x=m x
 | [],_,_=>rfl
 | (n,v)::r,m,h=>by
  unfold bindC;rw[A9 λw hw=>h w (wI _ hw)];split
  ·rfl
  ·have:x≠n:=by rintro rfl;exact h v wK
   simp[this]
theorem C0{kindOf:Str->Option NameKind}{x:Str}{v:Value}:∀{P:List Str}{vs:List Value}{i:Nat}{m:Str->Option Value},P.Nodup->P[i]?=some x->vs[i]?=some v->kindOf x=some .local ->
  bindL kindOf (P.zip vs) m x=some v
 | [],_,_,_,_,h,_,_=>by simp at h
 |_::_,[],_,_,_,_,h,_=>by simp at h
 |p::P,w::vs,0,m,nd,h1,h2,hk=>by
  simp at h1 h2;subst h1;subst h2;show bindL kindOf ((p,w)::P.zip vs) m p=_;unfold bindL;rw[E9 λv hv=>(vW.mp nd).1 (List.of_mem_zip hv).1,if_pos hk];simp
 |p::P,w::vs,i+1,m,nd,h1,h2,hk=>by
  show bindL kindOf ((p,w)::P.zip vs) m x=_;unfold bindL;exact C0 (i:=i) (vW.mp nd).2 (by simpa using h1) (by simpa using h2) hk
theorem B8{kindOf:Str->Option NameKind}{x:Str}{v:Value}:∀{P:List Str}{vs:List Value}{i:Nat}{m:Str->Option Value},P.Nodup->P[i]?=some x->vs[i]?=some v->kindOf x≠some .local ->
  bindC kindOf (P.zip vs) m x=some v
 | [],_,_,_,_,h,_,_=>by simp at h
 |_::_,[],_,_,_,_,h,_=>by simp at h
 |p::P,w::vs,0,m,nd,h1,h2,hk=>by
  simp at h1 h2;subst h1;subst h2;show bindC kindOf ((p,w)::P.zip vs) m p=_;unfold bindC;rw[A9 λv hv=>(vW.mp nd).1 (List.of_mem_zip hv).1,if_neg hk];simp
 |p::P,w::vs,i+1,m,nd,h1,h2,hk=>by
  show bindC kindOf ((p,w)::P.zip vs) m x=_;unfold bindC;exact B8 (i:=i) (vW.mp nd).2 (by simpa using h1) (by simpa using h2) hk
noncomputable def start(N:List Str)(vs:List V):St:=vs.map some++List.replicate (N.length-vs.length) none
noncomputable def cxOf(CX:CXT)(P:Program)(w:World)(K:PySem.W.Frag)(mg:Str->Option Value)(base:Heap)(N:List Str)(qual:Str)(scope:Scope)(f:Addr)(cd:Value)(A:Around)(outer:List Env)(s:Shared)(H:Hp)(E:XK):Cx where
 prog:=P
 w:=w
 K:=K
 mg:=mg
 base:=base
 A:=A.deeper (envOfC qual scope s.heap.objs.size f cd)
 N:=N
 s₀:=s
 H₀:=H
 env:=envOfC qual scope s.heap.objs.size f cd
 outer:=outer
 stack:=envOfC qual scope s.heap.objs.size f cd::outer
 ex:=[]
 calm:=true
 fn:=λ_=>true
 pn:=[]
 xe:=λe s'=>wpAny (model P w) (A.deeper (envOfC qual scope s.heap.objs.size f cd)) (leaving (envOfC qual scope s.heap.objs.size f cd) e) (λ_ s''=>CX outer H s E e s'') (λe' s''=>CX outer H s E e' s'') s'
theorem L6{sc:Scope}{n:Nat}{x:Str}(h:sc.names.lookup x=some .cell):∃c,(cellsFrom n sc.names []).lookup x=some c:=by
 have q:=PySem.W.cellsFrom_some sc.names n [] (.inl h);exact vR.mp q
theorem d3{CX:CXT}{P:Program}{w:World}{K:PySem.W.Frag}{mg:Str->Option Value}{base:Heap}{N ps:List Str}{qual:Str}{scope:Scope}{f:Addr}{cd:Value}{A:Around}{outer:List Env}{s s1:Shared}{H:Hp}{E:XK}{us:List Value}{vs:List V}
  (S:zt N ps scope) (hd:A.handled=none) (e0:Env0 P w K mg base A outer s H) (hl:vs.length=ps.length) (r:Vals vs us)
  (x:InCallC s s.heap.objs.size (bindL (envOfC qual scope s.heap.objs.size f cd).kindOf (ps.zip us) λ_=>none) (cellsFrom (s.heap.objs.size+1) scope.names []) (bindC (envOfC qual scope s.heap.objs.size f cd).kindOf (ps.zip us) λ_=>none) s1):
  Inv (cxOf CX P w K mg base N qual scope f cd A outer s H E) [] (start N vs) H s1:=by
 have hpl:ps.length<=N.length:=by have:=congrArg List.length S.pre;rw[va]at this;omega
 obtain⟨h1,tk,rfl,hk⟩:=x.done;have noA:∀b:Addr,b∉(cxOf CX P w K mg base N qual scope f cd A outer s H E).ex:=λb z=>absurd (show b∈([]:List Addr) from z) (by simp);refine⟨⟨e0.mod,S.kind,rfl,rfl,wF _,λy z c h1 h2=>?_,λy hy=>?_,λy c _ h=>?_,λ_=>hd,Around.frames_deeper e0.frames,.inr ⟨rfl,rfl⟩,λb z=>absurd z (noA b),e0.bs,e0.bsz,λb _ _=>noA b,λb z=>absurd z (noA b),e0.funs,e0.frf⟩,
  rfl,e0.bare,Un.kept hk,⟨_,x.toInCall.ns,λi y v h1 h2 h3=>?_⟩,λy c h=>⟨_,x.cell y c h⟩,e0.hok.fresh (wF _),λy c h=>?_,λp hp=>absurd (show p∈([]:List (Addr×Obj)) from hp) (by simp),e0.hok.kept hk,?_⟩
 ·exact name_of_addr x.apart (PySem.mem_of_lookup h1) (PySem.mem_of_lookup h2)
 ·have hy:scope.names.lookup y=some .cell\/scope.names.lookup y=some .free:=hy;rcases hy with hy|hy
  ·exact L6 hy
  ·exact absurd rfl (S.nofree _ (PySem.mem_of_lookup hy))
 ·exact vN (x.above y c (PySem.mem_of_lookup h))
 ·have hi:i<vs.length:=by
   unfold start at h2;by_cases hi:i<vs.length
   ·exact hi
   ·rw[wO (by simpa using hi)]at h2;rw[List.getElem?_replicate]at h2;split at h2<;>cases h2
  have ha:vs[i]?=some v:=by
   unfold start at h2;rw[wD (by simpa using hi),wg]at h2;cases e:vs[i]? with
   |none=>rw[e]at h2;cases h2
   |some a=>rw[e]at h2;cases h2;rfl
  obtain⟨u,hu,rv⟩:=r.get ha;have hp:ps[i]?=some y:=by
   rw[<-S.pre,wp (by omega)];exact h1
  have ndP:ps.Nodup:=by rw[<-S.pre];exact S.nd.sublist (List.take_sublist _ _)
  refine⟨u,rv,?_⟩;rcases S.par y (wU hp) with k|k
  ·exact .inl ⟨k,C0 ndP hp hu k⟩
  ·obtain⟨c,e⟩:=L6 (n:=s.heap.objs.size+1) k;refine .inr ⟨.inl k,c,e,?_⟩;have q:=x.cell y c e;rw[B8 ndP hp hu (by show scope.names.lookup y≠_;rw[k];decide)]at q;exact q
 ·exact e0.hok.fresh (vN (x.above y c (PySem.mem_of_lookup h)))
 ·unfold start;show _=N.length;rw[wX,wW,List.length_replicate];omega
theorem qF4{CX:CXT}{P:Program}{w:World}{K:PySem.W.Frag}{mg:Str->Option Value}{base:Heap}{k:Nat}{f:Addr}{name qual:Str}{params:Arguments}{body:List Stmt}{scope:Scope}{dV kV doc pm cdv ct oc:Value}{an od:Option Addr}
  {osl:Array (Option Value)}{N ps:List Str}{sp:Sp}(lk:K.lookup f=some ⟨oc,od,.func (PySem.W.fnOf name qual params body scope dV kV doc pm an cdv ct),osl⟩) (hcd:PySem.W.codeIn K cdv qual=true) (S:zt N ps scope)
  (len:∀vs H Q E,sp vs H Q E->vs.length=ps.length)
  (hbody:∀(A:Around) (outer:List Env) (s:Shared) (H:Hp) (vs:List V) (Q:VK) (E:XK),Room k (A.deeper (envOfC qual scope s.heap.objs.size f cdv))->sp vs H Q E ->
   ∃t,PSs (cxOf CX P w K mg base N qual scope f cdv A outer s H E) body t/\t { nx:=λ_ H'=>Q .non H',rt:=Q } (start N vs) H):
  FnOk P w K mg base CX (k+1) f (PySem.W.fnOf name qual params body scope dV kV doc pm an cdv ct) ps sp:=by
 refine⟨len,λA outer s H args us vs Q E hr e0 hb r hsp=>?_⟩;have hl:=len _ _ _ _ hsp;have KX:K.In s.heap:=e0.mod.kin.keeps λb o e=>(e0.bs b o e).1;have lim:s.heap.NoLimit:=e0.mod.nolimit.keeps λb o e=>(e0.bs b o e).1;have hkind:∀y∈ps.zip us,scope.names.lookup y.1=some .local\/(scope.names.lookup y.1=some .cell/\((cellsFrom (s.heap.objs.size+1) scope.names []).lookup y.1).isSome=true):=λ⟨n,v⟩ hy=>by
  rcases S.par n (List.of_mem_zip hy).1 with q|q
  ·exact .inl q
  ·exact .inr ⟨q,PySem.W.cellsFrom_some _ _ _ (.inl q)⟩
 refine codeAny_call_function hr.depth (KX _ _ lk) rfl S.co S.gen rfl (PySem.W.codeRec_of KX hcd) (hb _ _ _ _ ?_);refine wpAny_newFunctionEnv_cells S.kind hkind λenv he s1 x=>?_;subst he;refine⟨lim.keeps x.toInCall.keep,codeAny_func ?_⟩;obtain⟨t,ht,hq⟩:=hbody A outer s H vs Q E (hr.deeper _) hsp;have I:Inv (cxOf CX P w K mg base N qual scope f cdv A outer s H E) [] (start N vs) H s1:=d3 S hr.hd e0 hl r x;refine wpAny_mono (ht [] s1 (start N vs) H _ I hq) (λfl s' hs=>?_) λe s' hs=>hs;have fin:∀{σ':St}{H':Hp}{v:V}{u:Value},Inv (cxOf CX P w K mg base N qual scope f cdv A outer s H E) [] σ' H' s'->RelV v u->Q v H'->CE outer P w H s Q u s':=
  λ{σ' H' v u} J rv q=>⟨v,H',J.os,J.bare,J.base,J.hok,rv,q⟩
 cases fl with
 |ret u=>
  obtain⟨v,σ',H',J,rv,q⟩:=hs;exact fin J rv q
 |next=>
  obtain⟨σ',H',J,q⟩:=hs;exact fin (v:=V.non) (u:=Value.none) J rfl q
 |brk=>
  obtain⟨_,_,_,q⟩:=hs;exact False.elim q
 |cont=>
  obtain⟨_,_,_,q⟩:=hs;exact False.elim q
section
variable{X:Cx}{x:Str}{p pos:Pos}{e:Expr}{es:List Expr}{t:TA}{id T:String}{r:List V->Hp->VK->Prop}
noncomputable def tCB(r:List V->Hp->VK->Prop)(t:TA):TE:=λσ H Q=>t σ H λvs H1=>r vs H1 Q
theorem pe_callB(hc:zr X (.builtin id) r)(hg:Gl X x)(hm:X.mg x=none)(hv:bootBuiltins x=some (.builtin id))(ha:PA X (e::es) t)(hn:x≠"__name__":=by decide)(hdb:(x==("__debug__":Str))=false:=by decide)
  (he:starEach (e::es) X.env=(false,eval e X.env)::starEach es X.env:=by rfl) (hpl:(backTo pos (starEach es X.env)).any (·.1)=false:=by rfl):PE X (.Call (.Name x p) (e::es) [] pos) (tCB r t):=by
 intro pins s σ H Q I h;refine wpAny_Call_Name_kw (ld_blt I hg hm hv ?_ hn hdb);exact PyProof.Rows.callWith_builtin1 (thn (ha pos pins s σ H _ I h) λus s1 ⟨vs,H1,I1,r1,q1⟩=>hc pins s1 σ H1 vs us Q I1 r1 q1) he hpl
theorem pe_callTy(hc:zr X (.type T) r)(hg:Gl X x)(hm:X.mg x=none)(hv:bootBuiltins x=some (.type T))(ha:PA X (e::es) t)(hn:x≠"__name__":=by decide)(hdb:(x==("__debug__":Str))=false:=by decide)
  (he:starEach (e::es) X.env=(false,eval e X.env)::starEach es X.env:=by rfl) (hpl:(backTo pos (starEach es X.env)).any (·.1)=false:=by rfl):PE X (.Call (.Name x p) (e::es) [] pos) (tCB r t):=by
 intro pins s σ H Q I h;refine wpAny_Call_Name_kw (ld_blt I hg hm hv ?_ hn hdb);exact PyProof.Rows.callWith_type1 (thn (ha pos pins s σ H _ I h) λus s1 ⟨vs,H1,I1,r1,q1⟩=>hc pins s1 σ H1 vs us Q I1 r1 q1) he hpl
end
end _L
namespace _H
open PySem PyProof.Rows
section
variable{prog:Program}{w:World}{A:Around}{E:Value->Shared->Prop}{s:Shared}
theorem cat_tup{t b:Addr}{vs ws:List Value}{Q:Value->Shared->Prop}(ht:IsTup s.heap t vs.toArray)(hb:IsTup s.heap b ws.toArray)(hv:vs≠[])
  (h1:ws=[]->Q (.ref t) s) (h2:ws≠[]->Q (.ref s.heap.objs.size) { s with heap:=s.heap.push { cls:=.type "tuple",data:=.seq (vs++ws).toArray } })
  (hsz:vs.length+ws.length<=sizeLine):wpAny (model prog w) A (binaryOp .Add (.ref t) (.ref b)) Q E s:=by
 obtain⟨⟨cls,dd,data,sl⟩,ho,hc,n,hd⟩:=id ht;obtain⟨⟨cls2,dd2,data2,sl2⟩,ho2,hc2,n2,hd2⟩:=id hb;simp only at hc hd hc2 hd2;subst hc hd hc2 hd2;have e:vs.toArray++ws.toArray=(vs++ws).toArray:=by simp
 by_cases hw:ws=[]
 ·exact concat_meets ⟨_,ho,rfl⟩ ⟨_,ho2,rfl⟩ noFill_tuple_add seq_tuple_add PySem.F.slot_tuple_add PySem.F.entry_tuple_add (PySem.F.args_tuple_add_2 _ _)
   (tuple_addW1 t b vs.toArray ws.toArray n n2 dd dd2 sl sl2 (by simpa using hv) (by simp[hw])) ⟨ho,ho2,h1 hw⟩
 ·refine concat_meets ⟨_,ho,rfl⟩ ⟨_,ho2,rfl⟩ noFill_tuple_add seq_tuple_add PySem.F.slot_tuple_add PySem.F.entry_tuple_add (PySem.F.args_tuple_add_2 _ _)
   (tuple_addW2 t b vs.toArray ws.toArray n n2 dd dd2 sl sl2 (by simpa using hv) (by simpa using hw) (by rw[wJ,wJ];exact hsz)) ⟨ho,ho2,?_⟩
  rw[e];exact h2 hw
noncomputable def sIx(n d:Nat):Option Int->Nat
 |none=>d
 |some v=>if v<0 then (v+(n:Int)).toNat else min v.toNat n
theorem sIx_none(n d:Nat):sIx n d none=d:=rfl
theorem sIx_nat(n d k:Nat):sIx n d (some (k:Int))=min k n:=by
 show (if (k:Int)<0 then ((k:Int)+(n:Int)).toNat else min (k:Int).toNat n)=min k n;rw[if_neg (by omega),vX]
theorem qDq(n d:Nat)(hd:d<=n)(o:Option Int):sIx n d o<=n:=by
 cases o with
 |none=>exact hd
 |some v=>
  show (if v<0 then (v+(n:Int)).toNat else min v.toNat n)<=n;by_cases hv:v<0
  ·rw[if_pos hv];omega
  ·rw[if_neg hv];exact Nat.min_le_right _ _
theorem r9(v:Int)(n d:Nat):(if v<0 then max (v+(n:Int)) 0 else min v (n:Int))=((sIx n d (some v):Nat):Int):=by
 show (if v<0 then max (v+(n:Int)) 0 else min v (n:Int))=(((if v<0 then (v+(n:Int)).toNat else min v.toNat n):Nat):Int);by_cases hv:v<0
 ·simp only[if_pos hv];omega
 ·simp only[if_neg hv];omega
theorem S0(lo hi:Option Int)(n:Nat):Builtin.Slice.sliceAdjust lo hi 1 (n:Int)=(((sIx n 0 lo:Nat):Int),((sIx n n hi:Nat):Int)):=by
 have h1:¬ ((1:Int)<0):=by omega
 unfold Builtin.Slice.sliceAdjust;simp only[h1,if_false];refine Prod.ext ?_ ?_
 ·cases lo with
  |none=>rfl
  |some v=>exact r9 v n 0
 ·cases hi with
  |none=>rfl
  |some v=>exact r9 v n n
theorem U3(i j:Nat):Builtin.Slice.slicePlaces (i:Int) (j:Int) 1=j-i:=by
 unfold Builtin.Slice.slicePlaces;have h1:(1:Int)>0:=by omega
 simp only[h1,if_true,Int.ediv_one];split<;>omega
theorem JO{v:Value}{o:Option Int}{Q:Option Int->Shared->Prop}(p:IsPart v o)(h:Q o s):wpAny (model prog w) A (Builtin.Slice.slicePartIndex v) Q E s:=by
 cases p with
 |none=>exact slicePart_none h
 |int i t=>exact slicePart_int h
theorem ZL{sl:Addr}{vl vu:Value}{lo hi:Option Int}{n:Nat}{Q:Int×Int×Nat->Shared->Prop}(hs:s.heap.IsSliceOf sl vl vu .none)(pl:IsPart vl lo)(pu:IsPart vu hi)
  (h:Q (((sIx n 0 lo:Nat):Int),1,sIx n n hi-sIx n 0 lo) s):wpAny (model prog w) A (Builtin.Slice.sliceApplied (.ref sl) (pure (n:Int))) Q E s:=by
 obtain⟨os,hos,hcs,hds⟩:=id hs;unfold Builtin.Slice.sliceApplied Builtin.Slice.sliceFields;refine vy (vy (wpAny_field hos hds (x:=vl) rfl (vy (wpAny_field hos hds (x:=vu) rfl (vy (wpAny_field hos hds (x:=.none) rfl (vz ?_)))))));refine vy (slicePart_none ?_);show wpAny _ _ (if ((1:Int)==0)=true then _ else _) _ _ s;rw[if_neg (by decide)];refine vy (JO pl (vy (JO pu (vy (vz ?_)))));show wpAny _ _ (match Builtin.Slice.sliceAdjust lo hi 1 (n:Int) with|(lo,hi)=>pure (lo,(1:Int),Builtin.Slice.slicePlaces lo hi 1)) _ _ s;rw[S0 lo hi n];show wpAny _ _ (pure (((sIx n 0 lo:Nat):Int),(1:Int),Builtin.Slice.slicePlaces ((sIx n 0 lo:Nat):Int) ((sIx n n hi:Nat):Int) 1)) _ _ s;rw[U3];exact vz h
theorem qAC(xs:Array Value)(i k:Nat):((List.range k).filterMap λ(m:Nat)=>xs[((i:Int)+(m:Int)*1).toNat]?).toArray=((xs.toList.drop i).take k).toArray:=by
 have e:(λ(m:Nat)=>xs[((i:Int)+(m:Int)*1).toNat]?)=λm=>xs[i+m]?:=by
  funext m
  have:((i:Int)+(m:Int)*1).toNat=i+m:=by omega
  rw[this]
 rw[e];have:=pick_run xs i k;rw[List.filterMap_map]at this;have e2:((λx=>xs[x]?)∘λx=>i+x)=λm=>xs[i+m]?:=rfl;rw[e2]at this;rw[this]
theorem getItem_tuple_cut{t sl:Addr}{items:Array Value}{vl vu:Value}{lo hi:Option Int}{Q:Value->Shared->Prop}(ht:IsTup s.heap t items)(hs:s.heap.IsSliceOf sl vl vu .none)(pl:IsPart vl lo)(pu:IsPart vu hi)
  (hw:¬ (sIx items.size 0 lo=0/\sIx items.size items.size hi=items.size))
  (h:Q (.ref s.heap.objs.size) { s with heap:=s.heap.push { cls:=.type "tuple",data:=.seq ((items.toList.drop (sIx items.size 0 lo)).take (sIx items.size items.size hi-sIx items.size 0 lo)).toArray } })
  (hsz:items.size<=sizeLine):wpAny (model prog w) A (getItem (.ref t) (.ref sl)) Q E s:=by
 have htake:sizeOk (.seq ((items.toList.drop (sIx items.size 0 lo)).take (sIx items.size items.size hi-sIx items.size 0 lo)).toArray):=by
  show ((items.toList.drop (sIx items.size 0 lo)).take (sIx items.size items.size hi-sIx items.size 0 lo)).toArray.size<=sizeLine;rw[wJ,va,List.length_drop,vE];omega
 have hj:sIx items.size items.size hi<=items.size:=qDq _ _ (wF _) hi;obtain⟨os,hos,hcs,hds⟩:=id hs;have hTs:s.TypeIs (.ref sl) "slice":=⟨os,hos,hcs⟩
 unfold getItem
 try with_reducible refine wpAny_holding ?_
 first|refine vy (vz ?_)|skip
 refine vy (wpAny_sequenceKey ht.typeIs (by decide) ?_);refine vy (wpAny_callSpecial?_slot (name:=Str.ofString "__getitem__") ht.typeIs PyProof.Rows.slot_tuple_getitem
  (wpAny_call_entry PyProof.Rows.slot_tuple_getitem ht.typeIs entry_tuple_getitem ?_ (args_tuple_getitem _ _)))
 show wpAny _ _ (Builtin.Tuple.tupleItemsOf (.ref t) >>=_) _ _ s;refine vy (tupleItemsOf_ ht ?_);refine vy (wpAny_typeOf hTs ?_);rw[if_pos (by decide)];refine vy (ZL hs pl pu ?_);have hno:¬ ((((sIx items.size 0 lo:Nat):Int)==0&&(1:Int)==1&&(sIx items.size items.size hi-sIx items.size 0 lo)==items.size)=true):=by
  intro q;rw[wB,wB]at q;have q1:((sIx items.size 0 lo:Nat):Int)=0:=eq_of_beq q.1.1;have q2:sIx items.size items.size hi-sIx items.size 0 lo=items.size:=eq_of_beq q.2;exact hw ⟨by omega,by omega⟩
 show wpAny _ _ (if (((sIx items.size 0 lo:Nat):Int)==0&&(1:Int)==1&&(sIx items.size items.size hi-sIx items.size 0 lo)==items.size)=true then _ else _) _ _ s;rw[if_neg hno,qAC]
 first
  |exact vy (m:=Builtin.Tuple.tupleExact _) (wpAny_newObj_type (vz ⟨_,rfl,vz h⟩) htake)
  |exact vy (m:=Builtin.Tuple.tupleExact _) (wpAny_newObj_type (vy (vz (vz ⟨_,rfl,vz h⟩))) htake)
  |exact vy (vy (m:=Builtin.Tuple.tupleExact _) (wpAny_newObj_type (vz (vz ⟨_,rfl,vz h⟩)) htake))
  |exact vy (vy (m:=Builtin.Tuple.tupleExact _) (wpAny_newObj_type (vz ⟨_,rfl,vz h⟩) htake))
end
end _H
namespace _L
open PySem PySem.Spec PyProof.Rows
noncomputable abbrev TO:=St->Hp->(Option Int->Hp->Prop)->Prop
def PO(X:Cx)(e:Option Expr)(t:TO):Prop:=
 ∀(pins:List (Addr×Obj)) (s:Shared) (σ:St) (H:Hp) (Q:Option Int->Hp->Prop),Inv X pins σ H s->t σ H Q ->
  wpAny (model X.prog X.w) X.A (evalPart e X.env) (λu s'=>∃o H',Inv X pins σ H' s'/\IsPart u o/\Q o H') X.xe s
noncomputable def qCT:TO:=λ_ H Q=>Q none H
noncomputable def qGD(t:TE):TO:=λσ H Q=>t σ H λx H1=>∃i,x=.int i/\Q (some i) H1
theorem intsAre_of{ns:List Int}:∀{us:List Value},Vals (ns.map V.int) us->IntsAre us ns:=by
 induction ns with
 |nil=>intro us r;rw[List.map_nil]at r;cases r;exact .nil
 |cons n ns ih=>
  intro us r;rw[List.map_cons]at r;cases r with
  |cons r1 r2=>
   obtain⟨t,e⟩:=r1;subst e;exact .cons n t (ih r2)
section
variable{X:Cx}{e:Expr}{te:TE}{lo hi:Option Expr}{tl th:TO}{pos p2:Pos}
theorem po_none:PO X none qCT:=by
 intro pins s σ H Q I h;rw[evalPart_none];exact vz ⟨none,H,I,.none,h⟩
theorem po_some(h:PE X e te):PO X (some e) (qGD te):=by
 intro pins s σ H Q I hw;rw[evalPart_some];refine thn (h pins s σ H _ I hw) λu s1 ⟨x,H1,I1,r1,q1⟩=>?_;obtain⟨i,rfl,q⟩:=q1;obtain⟨t,rfl⟩:=r1;exact⟨some i,H1,I1,.int i t,q⟩
def SlR(X:Cx)(r:V->Option Int->Option Int->Hp->VK->Prop):Prop:=
 ∀(pins:List (Addr×Obj)) (s:Shared) (σ:St) (H:Hp) (x:V) (v vl vu:Value) (lo hi:Option Int) (sl:Addr) (Q:VK),Inv X pins σ H s->RelV x v->s.heap.IsSliceOf sl vl vu .none->IsPart vl lo->IsPart vu hi->r x lo hi H Q ->
  ∃T id,typeLookup (.type T) "__getitem__"=pure (some (.builtin id))/\s.TypeIs v T/\wpAny (model X.prog X.w) X.A (getItem v (.ref sl)) (EP X pins σ Q) X.xe s
theorem SlR.or{r r':V->Option Int->Option Int->Hp->VK->Prop}(h:SlR X r)(h':SlR X r'):SlR X (λx lo hi H Q=>r x lo hi H Q\/r' x lo hi H Q):=by
 intro pins s σ H x v vl vu lo hi sl Q I rx hs pl pu q;rcases q with q|q
 ·exact h pins s σ H x v vl vu lo hi sl Q I rx hs pl pu q
 ·exact h' pins s σ H x v vl vu lo hi sl Q I rx hs pl pu q
noncomputable def tSl(r:V->Option Int->Option Int->Hp->VK->Prop)(te:TE)(tl th:TO):TE:=λσ H Q=>te σ H λx H1=>tl σ H1 λl H2=>th σ H2 λu H3=>r x l u H3 Q
theorem pe_slice{r:V->Option Int->Option Int->Hp->VK->Prop}(hr:SlR X r)(he:PE X e te)(hl:PO X lo tl)(hu:PO X hi th):PE X (.Subscript e (.Slice lo hi none p2) pos) (tSl r te tl th):=by
 intro pins s σ H Q I h;refine Subscript_ (thn (he pins s σ H _ I h) λv s1 ⟨x,H1,I1,r1,q1⟩=>?_);refine wpAny_Slice (thn (hl pins s1 σ H1 _ I1 q1) λvl s2 ⟨l,H2,I2,pl,q2⟩=>thn (hu pins s2 σ H2 _ I2 q2) λvu s3 ⟨u,H3,I3,pu,q3⟩=>?_);rw[evalPart_none];refine vz ?_;have I4:Inv X pins σ H3 { s3 with heap:=s3.heap.push { cls:=.type "slice",data:=.fields #[vl,vu,.none] } }:=I3.kept (t':=s3.toks) λb ob q=>Heap.get?_push_of_some _ q;obtain⟨T,id,hT,ht,hg⟩:=hr pins { s3 with heap:=s3.heap.push { cls:=.type "slice",data:=.fields #[vl,vu,.none] } } σ H3 x v vl vu l u s3.heap.objs.size Q I4 r1 (Heap.IsSliceOf.new ..) pl pu q3;show wpAny (model X.prog X.w) X.A (subscriptTail e (.Slice lo hi none p2) v (.ref s3.heap.objs.size)) (EP X pins σ Q) X.xe { s3 with heap:=s3.heap.push { cls:=.type "slice",data:=.fields #[vl,vu,.none] } };exact tail_any (ops:=[.ref s3.heap.objs.size,v]) ht hT hg (by with_unfolding_all rfl)
noncomputable def cutV(xs:List V)(lo hi:Option Int):List V:=(xs.drop (_H.sIx xs.length 0 lo)).take (_H.sIx xs.length xs.length hi-_H.sIx xs.length 0 lo)
theorem Za(xs:List V)(lo hi:Option Int):(cutV xs lo hi).length<=xs.length:=by
 unfold cutV;rw[va,List.length_drop];omega
def qHd(K:PySem.W.Frag):V->Option Int->Option Int->Hp->VK->Prop:=λx lo hi H Q=>∃a xs,x=.ref a/\SqT K H a xs/\
 ¬ (_H.sIx xs.length 0 lo=0/\_H.sIx xs.length xs.length hi=xs.length)/\∀p,H p=none->Q (.ref p) (upd H p (.tup (cutV xs lo hi)))
theorem sl_tup:SlR X (qHd X.K):=by
 intro pins s σ H x v vl vu lo hi sl Q I rx hs pl pu h;obtain⟨a,xs,rfl,hx,hw,q⟩:=h;cases rx;obtain⟨its,r,ht,hz⟩:=I.tuple hx;have hlen:its.toArray.size=xs.length:=by rw[wJ];exact r.length.symm
 refine⟨"tuple",_,PyProof.Rows.slot_tuple_getitem.lookup,ht.typeIs,?_⟩;refine _H.getItem_tuple_cut ht hs pl pu (by rw[hlen];exact hw) ?_ (by rw[hlen];exact hz);rw[hlen];refine⟨.ref s.heap.objs.size,_,I.laid (t':=s.toks) (o:=.tup (cutV xs lo hi)) (λb ob q=>Heap.get?_push_of_some _ q) (wF _) ?_,rfl,q _ (I.hok.fresh (wF _))⟩;exact⟨wL (Za xs lo hi) hz,_,(r.drop (_H.sIx xs.length 0 lo)).take (_H.sIx xs.length xs.length hi-_H.sIx xs.length 0 lo),IsTup.new _ _⟩
noncomputable def rCatT(K:PySem.W.Frag):R2:=λx y H Q=>∃a b xs ys,x=.ref a/\y=.ref b/\SqT K H a xs/\SqT K H b ys/\xs≠[]/\xs.length+ys.length<=sizeLine/\
 (ys=[]->Q (.ref a) H)/\(ys≠[]->∀p,H p=none->Q (.ref p) (upd H p (.tup (xs++ys))))
theorem Vals.nil_iff{xs:List V}{us:List Value}(r:Vals xs us):us=[]↔xs=[]:=by
 cases r with
 |nil=>simp
 |cons _ _=>simp
theorem op_catT:OpR X (binaryOp .Add) (rCatT X.K):=by
 intro pins s σ H x y v u Q I rx ry h;obtain⟨a,b,xs,ys,rfl,rfl,ha,hb,hx,hz,q1,q2⟩:=h;cases rx;cases ry;obtain⟨its,r1,p1,_⟩:=I.tuple ha;obtain⟨its2,r2,p2,_⟩:=I.tuple hb;refine _H.cat_tup p1 p2 (λz=>hx (r1.nil_iff.mp z)) (λz=>⟨.ref a,H,I,rfl,q1 (r2.nil_iff.mp z)⟩) (λz=>?_) (by rw[<-r1.length,<-r2.length];exact hz);refine⟨.ref s.heap.objs.size,_,I.laid (t':=s.toks) (o:=.tup (xs++ys)) (λb ob q=>Heap.get?_push_of_some _ q) (wF _) ?_,rfl,q2 (λw=>z (r2.nil_iff.mpr w)) _ (I.hok.fresh (wF _))⟩;exact⟨by rw[wX];exact hz,_,r1.append r2,IsTup.new _ _⟩
end
noncomputable def ixN(n:Nat)(i:Int):Option Nat:=if 0<=i then (if i<n then some i.toNat else none) else if -(n:Int)<=i then some (i+n).toNat else none
noncomputable def atI{α:Type}(xs:List α)(i:Int):Option α:=(ixN xs.length i).bind λj=>xs[j]?
theorem g8{n:Nat}{i:Int}{j:Nat}(h:ixN n i=some j):seqIndex? i n=some j/\j<n/\-(n:Int)<=i/\i<n:=by
 unfold ixN at h;by_cases h0:0<=i
 ·rw[if_pos h0]at h;by_cases h1:i<n
  ·rw[if_pos h1]at h;have e:i.toNat=j:=Option.some.inj h;exact⟨by rw[seqIndex_of h0 h1,e],by omega,by omega,h1⟩
  ·rw[if_neg h1]at h;cases h
 ·rw[if_neg h0]at h;by_cases h1:-(n:Int)<=i
  ·rw[if_pos h1]at h;have e:(i+n).toNat=j:=Option.some.inj h;exact⟨by rw[seqIndex_neg (by omega) h1,e],by omega,h1,by omega⟩
  ·rw[if_neg h1]at h;cases h
theorem atI_get{α:Type}{xs:List α}{i:Int}{v:α}(h:atI xs i=some v):∃j,seqIndex? i xs.length=some j/\xs[j]?=some v/\j<xs.length/\-(xs.length:Int)<=i/\i<xs.length:=by
 unfold atI at h;cases e:ixN xs.length i with
 |none=>rw[e]at h;cases h
 |some j=>
  rw[e]at h;obtain⟨h1,h2,h3,h4⟩:=g8 e;exact⟨j,h1,h,h2,h3,h4⟩
def PlainIx(b:Expr):Prop:=∀o i,subscripted b false o i=operate [o,i] (getItem o i)
def IxR(X:Cx)(r:R2):Prop:=
 ∀(value slice:Expr) (pins:List (Addr×Obj)) (s:Shared) (σ:St) (H:Hp) (x y:V) (v u:Value) (Q:VK),Inv X pins σ H s->RelV x v->RelV y u->r x y H Q ->
  subscripted slice false v u=operate [v,u] (getItem v u)->wpAny (model X.prog X.w) X.A (subscriptTail value slice v u) (EP X pins σ Q) X.xe s
def MtR(X:Cx)(id:String)(r:V->List V->Hp->VK->Prop):Prop:=
 ∀(pins:List (Addr×Obj)) (s:Shared) (σ:St) (H:Hp) (x:V) (xs:List V) (v:Value) (us:List Value) (Q:VK),Inv X pins σ H s->RelV x v->Vals xs us->r x xs H Q ->
  wpAny (model X.prog X.w) X.A (call (.builtin id) (v::us)) (EP X pins σ Q) X.xe s
section
variable{X:Cx}{a b:Expr}{ta tb:TE}{pos:Pos}
theorem IxR.or{r r':R2}(h:IxR X r)(h':IxR X r'):IxR X (λx y H Q=>r x y H Q\/r' x y H Q):=by
 intro value slice pins s σ H x y v u Q I rx ry q hs;rcases q with q|q
 ·exact h value slice pins s σ H x y v u Q I rx ry q hs
 ·exact h' value slice pins s σ H x y v u Q I rx ry q hs
theorem pe_ix{r:R2}(hr:IxR X r)(ha:PE X a ta)(hb:PE X b tb)(hs:PlainIx b):PE X (.Subscript a b pos) (tOp r ta tb):=by
 intro pins s σ H Q I h;exact Subscript_ (zW ha hb I h λv u s2 x y H2 I2 rx ry q=>hr a b pins s2 σ H2 x y v u Q I2 rx ry q (hs _ _))
noncomputable def rIxL(K:PySem.W.Frag):R2:=λx y H Q=>∃p xs i v,x=.ref p/\y=.int i/\SqL K H p xs/\atI xs i=some v/\Q v H
noncomputable def qHS(K:PySem.W.Frag):R2:=λx y H Q=>∃p xs i v,x=.ref p/\y=.int i/\SqT K H p xs/\atI xs i=some v/\Q v H
theorem ix_list:IxR X (rIxL X.K):=by
 intro value slice pins s σ H x y v u Q I rx ry h hs;obtain⟨p,xs,i,z,rfl,rfl,hq,he,q⟩:=h;cases rx;obtain⟨t,rfl⟩:=ry;obtain⟨its,r,pl,hz⟩:=I.list hq;obtain⟨j,h1,h2,h3,h4,h5⟩:=atI_get he;obtain⟨w,ew,rw'⟩:=r.get h2;have hl:=r.length;have hn:=line63;have fin:EP X pins σ Q w s:=⟨z,H,I,rw',q⟩
 by_cases h0:0<=i
 ·have hj:i.toNat=j:=by
   rw[seqIndex_of h0 h5]at h1;exact Option.some.inj h1
  exact item_listR pl.isList h0 (by omega) (by rw[hj];simpa using ew) fin hs
 ·have hj:(i+(its.toArray.size:Int)).toNat=j:=by
   rw[seqIndex_neg (by omega) h4]at h1;rw[wJ,<-hl];exact Option.some.inj h1
  exact subscriptTail_builtinR (x:=w) pl.isList.typeIs slot_list_getitem.lookup
   (wpAny_getItem_list_neg (Q:=λr s'=>r=w/\EP X pins σ Q r s') pl.isList (by omega) (by rw[wJ]<;>omega) (by omega) (by rw[hj];simpa using ew) ⟨rfl,fin⟩) hs
theorem ix_tup:IxR X (qHS X.K):=by
 intro value slice pins s σ H x y v u Q I rx ry h hs;obtain⟨p,xs,i,z,rfl,rfl,hq,he,q⟩:=h;cases rx;obtain⟨t,rfl⟩:=ry;obtain⟨its,r,pl,hz⟩:=I.tuple hq;obtain⟨j,h1,h2,h3,h4,h5⟩:=atI_get he;obtain⟨w,ew,rw'⟩:=r.get h2;have hl:=r.length;have hn:=line63;have fin:EP X pins σ Q w s:=⟨z,H,I,rw',q⟩
 exact subscriptTail_builtinR (x:=w) pl.typeIs slot_tuple_getitem.lookup
  (getItem_tuple (j:=j) (Q:=λr s'=>r=w/\EP X pins σ Q r s') pl (by omega) (by omega) (by rw[wJ,<-hl];exact h1) (by simpa using ew) ⟨rfl,fin⟩) hs
theorem S5(its:List Value)(n j:Nat)(u:Value):Obj.mapSeq (·.setIfInBounds j u) { cls:=.type "list",data:=.seq its.toArray n }={ cls:=.type "list",data:=.seq (its.set j u).toArray n }:=by
 simp[Obj.mapSeq]
theorem Inv.lst{pins:List (Addr×Obj)}{σ:St}{H:Hp}{s:Shared}{p:Addr}{xs:List V}(I:Inv X pins σ H s)(h:H p=some (.lst xs)):
  ∃(its:List Value) (n:Nat),Vals xs its/\s.heap.get? p=some { cls:=.type "list",data:=.seq its.toArray n }/\xs.length<=sizeLine:=by
 obtain⟨z,its,n,r,e⟩:=I.hok p _ h;exact⟨its,n,r,e,z⟩
theorem Inv.lstUpd{pins:List (Addr×Obj)}{σ:St}{H:Hp}{s:Shared}{p:Addr}{xs ys:List V}{its its':List Value}{n n':Nat}{f:Obj->Obj}(I:Inv X pins σ H s)(h:H p=some (.lst xs))
  (ho:s.heap.get? p=some { cls:=.type "list",data:=.seq its.toArray n }) (hf:f { cls:=.type "list",data:=.seq its.toArray n }={ cls:=.type "list",data:=.seq its'.toArray n' }) (r:Vals ys its') (hz:ys.length<=sizeLine) (t:Nat):
  Inv X pins σ (upd H p (.lst ys)) { s with heap:=s.heap.update p f,toks:=t }:=by
 have e:(s.heap.update p f).get? p=some { cls:=.type "list",data:=.seq its'.toArray n' }:=by
  rw[Heap.get?_update_self f ho (by rw[hf]<;>rfl),hf]
 refine I.write (x:=p) (e:=p) (by rw[h];trivial) (.inl rfl) (λb u hb q=>(Heap.get?_update_other _ _ (Ne.symm hb)).trans q) ⟨_,e⟩ ?_;exact⟨hz,its',n',r,e⟩
def rSetL:V->V->V->Hp->(Hp->Prop)->Prop:=λo i v H Q=>∃p xs k j,o=.ref p/\i=.int k/\H p=some (.lst xs)/\ixN xs.length k=some j/\Q (upd H p (.lst (xs.set j v)))
theorem set_list:PSet X rSetL:=by
 intro pins s σ H o i v ov iv u Q I ro ri rv h;obtain⟨p,xs,k,j,rfl,rfl,hp,hj,q⟩:=h;cases ro;obtain⟨t,rfl⟩:=ri;obtain⟨its,n,r,ho,hz⟩:=I.lst hp;obtain⟨h1,h2,h3,h4⟩:=g8 hj;have hl:=r.length;have hn:=line63;have I':Inv X pins σ (upd H p (.lst (xs.set j v))) { s with heap:=s.heap.update p (Obj.mapSeq (·.setIfInBounds j u)) }:=
  I.lstUpd hp ho (S5 its n j u) (r.set rv j) (by rw[List.length_set];exact hz) s.toks
 by_cases h0:0<=k
 ·have hk:k.toNat=j:=by
   rw[seqIndex_of h0 h4]at h1;exact Option.some.inj h1
  exact PySem.W.ki_setAt ho h0 (by omega) (by rw[wJ,<-hl];exact h4) (by rw[hk];exact⟨_,I',q⟩)
 ·have hk:(k+(its.toArray.size:Int)).toNat=j:=by
   rw[seqIndex_neg (by omega) h3]at h1;rw[wJ,<-hl];exact Option.some.inj h1
  exact PySem.W.ki_setBack ho (by omega) (by rw[wJ,<-hl];exact h3) (by omega) (by rw[hk];exact⟨_,I',q⟩)
theorem C3(lo hi:Option Int)(n:Nat):(sliceBounds lo hi none n).1=((_H.sIx n 0 lo:Nat):Int)/\(sliceBounds lo hi none n).2.1=((_H.sIx n n hi:Nat):Int)/\(sliceBounds lo hi none n).2.2=1:=by
 refine⟨?_,?_,rfl⟩
 ·cases lo with
  |none=>simp[sliceBounds,_H.sIx]
  |some i=>
   simp only[sliceBounds,_H.sIx,Option.getD_none,show (1:Int)>0 by decide,if_true];by_cases h:i<0
   ·simp only[h,if_true]<;>omega
   ·simp only[h,if_false]<;>omega
 ·cases hi with
  |none=>simp[sliceBounds,_H.sIx]
  |some i=>
   simp only[sliceBounds,_H.sIx,Option.getD_none,show (1:Int)>0 by decide,if_true];by_cases h:i<0
   ·simp only[h,if_true]<;>omega
   ·simp only[h,if_false]<;>omega
theorem Jh(its:List Value)(lo hi:Option Int):slicePick its.toArray lo hi none=((its.drop (_H.sIx its.length 0 lo)).take (_H.sIx its.length its.length hi-_H.sIx its.length 0 lo)).toArray:=by
 obtain⟨h1,h2,h3⟩:=C3 lo hi its.toArray.size;unfold slicePick;rw[h1,h2,h3];simp only[sliceRange_one,pick_run,wJ]<;>rfl
def qHb(K:PySem.W.Frag):V->Option Int->Option Int->Hp->VK->Prop:=λx lo hi H Q=>∃a xs,x=.ref a/\SqL K H a xs/\∀p,H p=none->Q (.ref p) (upd H p (.lst (cutV xs lo hi)))
theorem sl_list:SlR X (qHb X.K):=by
 intro pins s σ H x v vl vu lo hi sl Q I rx hs pl pu h;obtain⟨a,xs,rfl,hx,q⟩:=h;cases rx;obtain⟨its,r,ht,hz⟩:=I.list hx;have hlen:=r.length;refine⟨"list",_,slot_list_getitem.lookup,ht.isList.typeIs,?_⟩;refine wpAny_getItem_list_slice ht.isList hs pl pu .none (by simp) ?_ (by rw[wJ]<;>omega);rw[Jh,<-hlen];refine⟨.ref s.heap.objs.size,_,I.laid (t':=s.toks) (o:=.lst (cutV xs lo hi)) (λb ob q=>Heap.get?_push_of_some _ q) (wF _) ?_,rfl,q _ (I.hok.fresh (wF _))⟩;exact⟨wL (Za xs lo hi) hz,_,0,(r.drop (_H.sIx xs.length 0 lo)).take (_H.sIx xs.length xs.length hi-_H.sIx xs.length 0 lo),Heap.get?_push_size _ rfl⟩
noncomputable def flatV:V->Bool
 | .non=>true
 | .bl _=>true
 | .int _=>true
 | .str _=>true
 |_=>false
noncomputable def eqV:V->V->Bool
 | .non,.non=>true
 | .bl a,.bl b=>a==b
 | .bl a,.int b=>(if a then 1 else 0)==b
 | .int a,.bl b=>a==(if b then 1 else 0)
 | .int a,.int b=>a==b
 | .str a,.str b=>a==b
 |_,_=>false
theorem qDU{A:Around}{s:Shared}{y x:V}{u v:Value}(ry:RelV y u)(rx:RelV x v)(fy:flatV y=true)(fx:flatV x=true):SeqAt.EqAt A s u v (eqV y x):=by
 cases y with
 |non=>
  cases ry;cases x with
  |non=>cases rx;exact SeqAt.EqAt.same _
  |bl b=>cases rx;exact SeqAt.EqAt.none_bool b
  |int b=>obtain⟨t,rfl⟩:=rx;exact SeqAt.EqAt.none_int b t
  |str b=>obtain⟨t,rfl⟩:=rx;exact SeqAt.EqAt.none_str b t
  |_=>exact absurd (show false=true from fx) wn
 |bl a=>
  cases ry;cases x with
  |non=>cases rx;exact SeqAt.EqAt.bool_none a
  |bl b=>cases rx;exact SeqAt.EqAt.bool_bool a b
  |int b=>obtain⟨t,rfl⟩:=rx;exact SeqAt.EqAt.bool_int a b t
  |str b=>obtain⟨t,rfl⟩:=rx;exact SeqAt.EqAt.bool_str a b t
  |_=>exact absurd (show false=true from fx) wn
 |int a=>
  obtain⟨t',rfl⟩:=ry;cases x with
  |non=>cases rx;exact SeqAt.EqAt.int_none a t'
  |bl b=>cases rx;exact SeqAt.EqAt.int_bool a t' b
  |int b=>obtain⟨t,rfl⟩:=rx;exact SeqAt.EqAt.int_int a t' b t
  |str b=>obtain⟨t,rfl⟩:=rx;exact SeqAt.EqAt.int_str a t' b t
  |_=>exact absurd (show false=true from fx) wn
 |str a=>
  obtain⟨t',rfl⟩:=ry;cases x with
  |non=>cases rx;exact SeqAt.EqAt.str_none a t'
  |bl b=>cases rx;exact SeqAt.EqAt.str_bool a t' b
  |int b=>obtain⟨t,rfl⟩:=rx;exact SeqAt.EqAt.str_int a t' b t
  |str b=>obtain⟨t,rfl⟩:=rx;exact SeqAt.EqAt.str_str a t' b t
  |_=>exact absurd (show false=true from fx) wn
 |_=>exact absurd (show false=true from fy) wn
noncomputable def eqU(x:V)(u:Value):Bool:=match u with
 | .none=>eqV .non x
 | .bool b=>eqV (.bl b) x
 | .int i _=>eqV (.int i) x
 | .str z _=>eqV (.str z) x
 |_=>false
theorem qA5{x y:V}{u:Value}(r:RelV y u)(f:flatV y=true):eqU x u=eqV y x:=by
 cases y with
 |non=>cases r;rfl
 |bl b=>cases r;rfl
 |int i=>obtain⟨t,rfl⟩:=r;rfl
 |str z=>obtain⟨t,rfl⟩:=r;rfl
 |_=>exact absurd (show false=true from f) wn
theorem Zb{x:V}:∀{xs:List V}{us:List Value},Vals xs us->xs.all flatV=true->us.any (eqU x)=xs.any λy=>eqV y x
 |_,_,.nil,_=>rfl
 |y::xs,u::us,.cons r t,f=>by
  rw[List.all_cons,wB]at f;rw[List.any_cons,List.any_cons,qA5 r f.1,Zb t f.2]
theorem Qd{A:Around}{s:Shared}{x:V}{v:Value}(rx:RelV x v)(fx:flatV x=true):∀{xs:List V}{us:List Value},Vals xs us->xs.all flatV=true->∀u∈us,SeqAt.EqAt A s u v (eqU x u)
 |_,_,.nil,_=>λu hu=>by cases hu
 |y::xs,u::us,.cons r t,f=>λu' hu=>by
  rw[List.all_cons,wB]at f;rcases wP.mp hu with rfl|hu
  ·rw[qA5 r f.1];exact qDU r rx f.1 fx
  ·exact Qd rx fx t f.2 u' hu
noncomputable def inV(x:V)(xs:List V):Bool:=xs.any λy=>eqV y x
noncomputable def rIn(K:PySem.W.Frag)(neg:Bool):R2:=λx y H Q=>∃p xs,y=.ref p/\(SqL K H p xs\/SqT K H p xs)/\flatV x=true/\xs.all flatV=true/\Q (.bl (if neg then !inV x xs else inV x xs)) H
theorem op_in_seq:OpR X (compareOp .In) (rIn X.K false):=by
 intro pins s σ H x y v u Q I rx ry h;obtain⟨p,xs,rfl,hq,fx,fs,q⟩:=h;cases ry;rcases hq with hq|hq
 ·obtain⟨its,r,pl,hz⟩:=I.list hq;refine SeqAt.in_listAt (eqU x) pl.isList (λw hw=>Qd rx fx r fs w (by simpa using hw)) ⟨.bl _,H,I,rfl,?_⟩;rw[show its.toArray.any (eqU x)=its.any (eqU x) by simp,Zb r fs];exact q
 ·obtain⟨its,r,pl,hz⟩:=I.tuple hq;refine SeqAt.in_tupleAt (eqU x) pl (λw hw=>Qd rx fx r fs w (by simpa using hw)) ⟨.bl _,H,I,rfl,?_⟩;rw[show its.toArray.any (eqU x)=its.any (eqU x) by simp,Zb r fs];exact q
theorem op_notIn_seq:OpR X (compareOp .NotIn) (rIn X.K true):=by
 intro pins s σ H x y v u Q I rx ry h;obtain⟨p,xs,rfl,hq,fx,fs,q⟩:=h;cases ry;rcases hq with hq|hq
 ·obtain⟨its,r,pl,hz⟩:=I.list hq;refine SeqAt.notIn_listAt (eqU x) pl.isList (λw hw=>Qd rx fx r fs w (by simpa using hw)) ⟨.bl _,H,I,rfl,?_⟩;rw[show its.toArray.any (eqU x)=its.any (eqU x) by simp,Zb r fs];exact q
 ·obtain⟨its,r,pl,hz⟩:=I.tuple hq;refine SeqAt.notIn_tupleAt (eqU x) pl (λw hw=>Qd rx fx r fs w (by simpa using hw)) ⟨.bl _,H,I,rfl,?_⟩;rw[show its.toArray.any (eqU x)=its.any (eqU x) by simp,Zb r fs];exact q
theorem call_len_seq:zr X (.builtin "len") (λxs H Q=>∃p ys,xs=[.ref p]/\(SqL X.K H p ys\/SqT X.K H p ys)/\Q (.int ys.length) H):=by
 intro pins s σ H xs us Q I r h;obtain⟨p,ys,rfl,hq,q⟩:=h;obtain⟨u,rfl,rx⟩:=vals1 r;cases rx;have hn:=line63;rcases hq with hq|hq
 ·obtain⟨its,r',pl,hz⟩:=I.list hq;have hlen:=r'.length;exact Calls.call_len_list pl.isList (by simp only[wJ]<;>omega) ⟨.int ys.length,H,I.tok _,⟨s.toks+1,by rw[wJ,hlen]⟩,q⟩
 ·obtain⟨its,r',pl,hz⟩:=I.tuple hq;have hlen:=r'.length;exact len_tuple pl (by simp only[wJ]<;>omega) ⟨.int ys.length,H,I.tok _,⟨s.toks+1,by rw[wJ,hlen]⟩,q⟩
theorem call_list_of:zr X (.type "list") (λxs H Q=>∃p ys,xs=[.ref p]/\(SqL X.K H p ys\/SqT X.K H p ys)/\∀l,H l=none->Q (.ref l) (upd H l (.lst ys))):=by
 intro pins s σ H xs us Q I r h;obtain⟨p,ys,rfl,hq,q⟩:=h;obtain⟨u,rfl,rx⟩:=vals1 r;cases rx;have fin:∀(its:List Value),Vals ys its->ys.length<=sizeLine->∀(h':Heap) (c':Nat),(∀b o',s.heap.get? b=some o'->h'.get? b=some o') ->
   h'.get? s.heap.objs.size=some { cls:=.type "list",dict:=none,data:=.seq its.toArray c',slots:=#[] }->EP X pins σ Q (.ref s.heap.objs.size) { s with heap:=h' }:=λits r' hz h' c' kp e=>
  ⟨.ref s.heap.objs.size,_,I.laid (t':=s.toks) kp (wF _) (show ObjOk X.prog X.w _ h' _ (.lst ys) from⟨hz,its,c',r',e⟩),rfl,q _ (I.hok.fresh (wF _))⟩
 rcases hq with hq|hq
 ·obtain⟨its,r',pl,hz⟩:=I.list hq;have hlen:=r'.length;obtain⟨o,ho,hc,n,hd⟩:=pl.isList;exact call_list_seq p (.inl rfl) ho hc hd (λh' c' kp e=>fin its r' hz h' c' kp e) (by simp only[wJ]<;>omega)
 ·obtain⟨its,r',pl,hz⟩:=I.tuple hq;have hlen:=r'.length;obtain⟨o,ho,hc,n,hd⟩:=pl;exact call_list_seq p (.inr rfl) ho hc hd (λh' c' kp e=>fin its r' hz h' c' kp e) (by simp only[wJ]<;>omega)
def tyV(K:PySem.W.Frag)(T:String)(x:V)(H:Hp):Prop:=match x with
 | .str _=>T="str"
 | .int _=>T="int"
 | .ref p=>(T="list"/\∃xs,SqL K H p xs)\/(T="tuple"/\∃o,K.lookup p=some o/\o.cls=.type "tuple"/\o.dict=none)\/
   (T="dict"/\((∃kvs,H p=some (.dK kvs))\/∃kvs,H p=some (.dT kvs)))\/(T="set"/\∃S n,H p=some (.set S n))
 |_=>False
theorem qBP{pins:List (Addr×Obj)}{σ:St}{H:Hp}{s:Shared}{T:String}{x:V}{v:Value}(I:Inv X pins σ H s)(r:RelV x v)(ty:tyV X.K T x H):
  s.TypeIs v T/\∀a,v=.ref a->∃ob,s.heap.get? a=some ob/\ob.dict=none:=by
 cases x with
 |str z=>
  obtain⟨t,rfl⟩:=r;cases (show T="str" from ty);exact⟨typeIs_str s z t,λ_ e=>nomatch e⟩
 |int i=>
  obtain⟨t,rfl⟩:=r;cases (show T="int" from ty);exact⟨typeIs_int s i t,λ_ e=>nomatch e⟩
 |ref p=>
  cases r;rcases ty with⟨rfl,xs,hq⟩|⟨rfl,o,hk,hc,hd⟩|⟨rfl,hk⟩|⟨rfl,S,n,hk⟩
  ·obtain⟨its,_,pl,_⟩:=I.list hq;refine⟨pl.isList.typeIs,λa e=>?_⟩;cases e;obtain⟨o,n,e,c,hd,_⟩:=pl;exact⟨o,e,hd⟩
  ·refine⟨⟨o,I.kIn p o hk,hc⟩,λa e=>?_⟩;cases e;exact⟨o,I.kIn _ o hk,hd⟩
  ·have z:∃o,s.heap.get? p=some o/\o.ExactDict:=by
    rcases hk with⟨kvs,hk⟩|⟨kvs,hk⟩
    ·obtain⟨_,_,_,_,o,_,_,e,ex,_⟩:=I.hok p _ hk;exact⟨o,e,ex⟩
    ·obtain⟨_,_,_,_,o,_,_,e,ex,_⟩:=I.hok p _ hk;exact⟨o,e,ex⟩
   obtain⟨o,e,ex⟩:=z;refine⟨⟨o,e,ex.1⟩,λa e2=>?_⟩;cases e2;exact⟨o,e,ex.2.1⟩
  ·obtain⟨o,_,_,_,e,ex,_⟩:=I.hok p _ hk;refine⟨⟨o,e,ex.1⟩,λa e2=>?_⟩;cases e2;exact⟨o,e,ex.2.1⟩
 |_=>exact False.elim ty
noncomputable def qHV(K:PySem.W.Frag)(T:String)(r:V->List V->Hp->VK->Prop)(to:TE):TE:=λσ H Q=>to σ H λx H1=>tyV K T x H1/\r x [] H1 Q
noncomputable def tBM(K:PySem.W.Frag)(T:String)(r:V->List V->Hp->VK->Prop)(to:TE)(t:TA):TE:=λσ H Q=>to σ H λx H1=>tyV K T x H1/\t σ H1 λxs H2=>r x xs H2 Q
variable{o e:Expr}{es:List Expr}{to:TE}{t:TA}{name:Str}{apos cpos:Pos}{T id:String}{r:V->List V->Hp->VK->Prop}
theorem pe_bm0(pa:PlainAttrs T)(slot:Slot T name id)(hty:typeOf (.builtin id)=pure (.type "method_descriptor"))(hm:MtR X id r)(ho:PE X o to)
  (hbase:attributeBase o name X.env (eval o X.env)=eval o X.env:=by rfl) (hline:(apos.endLine==cpos.line)=true:=by rfl):PE X (.Call (.Attribute o name apos) [] [] cpos) (qHV X.K T r to):=by
 intro pins s σ H Q I h;refine wpAny_Call_method0_late hbase hline (thn (ho pins s σ H _ I h) λv s1 ⟨x,H1,I1,r1,ty,q1⟩=>?_);obtain⟨h1,h2⟩:=qBP I1 r1 ty;exact⟨T,id,pa,slot,hty,h1,h2,Calls.callWith_builtin rfl (PySem.evalArgs_none (hm pins s1 σ H1 x [] v [] Q I1 r1 .nil q1))⟩
theorem pe_bm(pa:PlainAttrs T)(slot:Slot T name id)(hty:typeOf (.builtin id)=pure (.type "method_descriptor"))(hm:MtR X id r)(ho:PE X o to)(ha:PA X (e::es) t)
  (hbase:attributeBase o name X.env (eval o X.env)=eval o X.env:=by rfl)
  (hfew:((backTo cpos (starEach (e::es) X.env)).all (λx=>!x.1)&&(backToKw cpos (keywordEach [] X.env)).all (λx=>x.1.isSome)
   && decide ((e::es).length+([]:List Keyword).length+(if ([]:List Keyword).isEmpty then 0 else 1)<30))=true:=by rfl)
  (hline:(apos.endLine==cpos.line)=true:=by rfl) (hs:starEach (e::es) X.env=(false,eval e X.env)::starEach es X.env:=by rfl) (hplain:(backTo cpos (starEach es X.env)).any (·.1)=false:=by rfl):
  PE X (.Call (.Attribute o name apos) (e::es) [] cpos) (tBM X.K T r to t):=by
 intro pins s σ H Q I h;refine wpAny_Call_method_late hbase hfew hline rfl (thn (ho pins s σ H _ I h) λv s1 ⟨x,H1,I1,r1,ty,q1⟩=>?_);obtain⟨h1,h2⟩:=qBP I1 r1 ty;refine⟨T,id,pa,slot,hty,h1,h2,?_⟩;have hA:=ha cpos pins s1 σ H1 _ I1 q1;rw[hs]at hA ⊢;refine Calls.callWith_builtin (by show (false||(backTo cpos (starEach es X.env)).any (·.1))=false;rw[hplain]<;>rfl) (Calls.evalArgs_plain ?_);exact thn hA λus s2 ⟨vs,H2,I2,r2,q2⟩=>hm pins s2 σ H2 x vs v us Q I2 r1 r2 q2
end
def MtM(X:Cx)(id:String)(r:V->List V->Hp->VK->Prop):Prop:=
 ∀(pins:List (Addr×Obj)) (s:Shared) (σ:St) (H:Hp) (x:V) (xs:List V) (v:Value) (us:List Value) (Q:VK),Inv X pins σ H s->RelV x v->Vals xs us->r x xs H Q ->
  wpAny (model X.prog X.w) X.A (call (.builtin id) (v::us)) (EP X pins σ Q) X.xe s
theorem Vals.one:∀{x:V}{us:List Value},Vals [x] us->∃u,us=[u]/\RelV x u
 |_,_,.cons r .nil=>⟨_,rfl,r⟩
theorem Vals.zero:∀{us:List Value},Vals [] us->us=[]
 |_,.nil=>rfl
theorem Vals.dropLast{xs:List V}{us:List Value}(h:Vals xs us):Vals xs.dropLast us.dropLast:=by
 induction h with
 |nil=>exact .nil
 |cons r t ih=>
  cases t with
  |nil=>exact .nil
  |cons q t'=>exact .cons r ih
theorem Vals.reverse{xs:List V}{us:List Value}(h:Vals xs us):Vals xs.reverse us.reverse:=by
 induction h with
 |nil=>exact .nil
 |cons r t ih=>rw[vO,vO];exact Vals.append ih (.cons r .nil)
theorem Vals.rep{xs:List V}{us:List Value}(h:Vals xs us):∀k:Nat,Vals (List.replicate k xs).flatten (List.replicate k us).flatten
 | 0=>.nil
 |k+1=>by
  rw[List.replicate_succ,List.replicate_succ,List.flatten_cons,List.flatten_cons];exact Vals.append h (Vals.rep h k)
theorem D7(its:List Value):∀(k:Nat) (acc:List Value),
  List.foldl (λx1 x2=>x1++x2) acc.toArray (List.replicate k its.toArray)=(acc++(List.replicate k its).flatten).toArray
 | 0,acc=>by simp
 |k+1,acc=>by
  have e:acc.toArray++its.toArray=(acc++its).toArray:=by simp
  have e2:(acc++its)++(List.replicate k its).flatten=acc++(List.replicate (k+1) its).flatten:=by
   rw[List.replicate_succ,List.flatten_cons,wj]
  rw[<-e2,<-D7 its k (acc++its),<-e,List.replicate_succ,List.foldl_cons]
section
variable{X:Cx}{pins:List (Addr×Obj)}{σ:St}{H:Hp}{s:Shared}{l b:Addr}{xs ys zs:List V}
theorem Inv.lset{its its':List Value}{n:Nat}{f:Array Value->Array Value}{t':Nat}(I:Inv X pins σ H s)(hH:H l=some (.lst xs))
  (e:s.heap.get? l=some { cls:=.type "list",data:=.seq its.toArray n }) (hf:f its.toArray=its'.toArray) (hv:Vals ys its') (hz:ys.length<=sizeLine):
  Inv X pins σ (upd H l (.lst ys)) { s with heap:=s.heap.update l (Obj.mapSeq f),toks:=t' }:=by
 have q:=PySem.IsL.update e f;rw[hf]at q;refine I.write (x:=l) (e:=l) (by rw[hH];exact trivial) (.inl rfl) (λb' u hb hu=>(Heap.get?_update_other s.heap (Obj.mapSeq f) (Ne.symm hb)).trans hu) ⟨_,q⟩ ?_;exact⟨hz,its',_,hv,q⟩
theorem Inv.lnew{its:List Value}{t':Nat}(I:Inv X pins σ H s)(hv:Vals ys its)(hz:ys.length<=sizeLine):
  Inv X pins σ (upd H s.heap.objs.size (.lst ys)) { s with heap:=s.heap.push { cls:=.type "list",data:=.seq its.toArray },toks:=t' }:=
 I.laid (λ_ _ q=>Heap.get?_push_of_some _ q) (wF _) ⟨hz,its,0,hv,Heap.get?_push_size _ rfl⟩
theorem Inv.fresh(I:Inv X pins σ H s):H s.heap.objs.size=none:=I.hok.fresh (wF _)
theorem Inv.lstM(I:Inv X pins σ H s)(hH:H l=some (.lst xs)):xs.length<=sizeLine/\∃(its:List Value) (n:Nat),Vals xs its/\xs.length=its.length/\s.heap.get? l=some { cls:=.type "list",data:=.seq its.toArray n }:=by
 obtain⟨z,its,n,r,e⟩:=I.hok l _ hH;exact⟨z,its,n,r,r.length,e⟩
theorem w6{n:Nat}(h:n<=sizeLine):Builtin.List.listTooLong n=false:=by
 unfold Builtin.List.listTooLong;exact uA (by omega)
end
section
variable{X:Cx}
def qCw:V->List V->Hp->VK->Prop:=λx vs H Q=>∃l xs y,x=.ref l/\vs=[y]/\H l=some (.lst xs)/\xs.length<sizeLine/\Q .non (upd H l (.lst (xs++[y])))
theorem mt_append:MtM X "list.append" qCw:=by
 intro pins s σ H x vs v us Q I rx rv h;obtain⟨l,xs,y,rfl,rfl,hH,hz,q⟩:=h;cases rx;obtain⟨u,rfl,ru⟩:=rv.one;obtain⟨z,its,n,r,hl,e⟩:=I.lstM hH;refine call_meets F.slot_list_append ⟨_,e,rfl⟩ F.entry_list_append (F.args_list_append_2 _ _) (PySem.list_append l its.toArray n u (by rw[wJ];omega)) ⟨e,?_⟩;refine⟨.non,_,I.lset (its':=its++[u]) hH e (by simp) (r.append (.cons ru .nil)) ?_,rfl,q⟩;rw[wX,List.length_singleton];omega
noncomputable def rCat:R2:=λx y H Q=>∃l b xs zs,x=.ref l/\y=.ref b/\H l=some (.lst xs)/\H b=some (.lst zs)/\xs.length+zs.length<=sizeLine/\∀p,H p=none->Q (.ref p) (upd H p (.lst (xs++zs)))
theorem op_cat:OpR X (binaryOp .Add) rCat:=by
 intro pins s σ H x y v u Q I rx ry h;obtain⟨l,b,xs,zs,rfl,rfl,hH,hB,hz,q⟩:=h;cases rx;cases ry;obtain⟨z,its,n,r,hl,e⟩:=I.lstM hH;obtain⟨z2,its2,n2,r2,hl2,e2⟩:=I.lstM hB;refine PySem.P.add_list e e2 ?_ (by rw[wJ,wJ];omega);have ea:its.toArray++its2.toArray=(its++its2).toArray:=by simp
 rw[ea];exact⟨.ref _,_,I.lnew (t':=s.toks) (r.append r2) (by rw[wX];omega),rfl,q _ I.fresh⟩
noncomputable def rRep:R2:=λx y H Q=>∃l k xs,x=.ref l/\y=.int k/\H l=some (.lst xs)/\-(2 ^ 63)<=k/\k<2 ^ 63/\xs.length*k.toNat<=sizeLine/\
 ∀p,H p=none->Q (.ref p) (upd H p (.lst (List.replicate k.toNat xs).flatten))
theorem qCj{α:Type}(xs:List α)(k:Nat):(List.replicate k xs).flatten.length=k*xs.length:=by
 induction k with
 |zero=>simp
 |succ k ih=>rw[List.replicate_succ,List.flatten_cons,wX,ih,Nat.succ_mul,Nat.add_comm]
theorem op_rep:OpR X (binaryOp .Mult) rRep:=by
 intro pins s σ H x y v u Q I rx ry h;obtain⟨l,k,xs,rfl,rfl,hH,h1,h2,hz,q⟩:=h;cases rx;obtain⟨t,rfl⟩:=ry;obtain⟨z,its,n,r,hl,e⟩:=I.lstM hH;have hlen:its.toArray.size*k.toNat<=sizeLine:=by rw[wJ,<-hl];exact hz
 have hcap:¬ its.toArray.size*k.toNat>(2 ^ 63-1) / 8:=by
  have:(sizeLine:Nat)<=(2 ^ 63-1) / 8:=by decide
  omega
 have hfit:¬ (!Builtin.List.listFitsIndex k)=true:=by
  rw[fitsIndex_both h1 h2];exact wn
 have hlong:¬ Builtin.List.listTooLong (its.toArray.size*k.toNat)=true:=by
  rw[w6 hlen];exact wn
 have hnew:List.foldl (λx1 x2=>x1++x2) #[] (List.replicate (if its.toArray.isEmpty=true then 0 else k.toNat) its.toArray)=(List.replicate k.toNat its).flatten.toArray:=by
  have f0:∀m:Nat,List.foldl (λx1 x2=>x1++x2) #[] (List.replicate m its.toArray)=(List.replicate m its).flatten.toArray:=λm=>by
   have:=D7 its m [];rw[List.nil_append]at this;exact this
  rw[f0];cases its with
  |nil=>simp
  |cons a r'=>rw[if_neg (by simp)]
 refine wpAny_binaryOp_repeat_ref (T:="list") (U:="int") (by decide) ⟨_,e,rfl⟩ (λs'=>typeIs_int s' k t) noFill_list_mul F.fills_int_mul F.slot_int_rmul repeat_list F.slot_int_index.lookup
  (call_meets F.slot_int_rmul (typeIs_int s k t) F.entry_int_rmul (F.args_int_rmul_2 _ _) (int___rmul___int_list k t l its.toArray n)
   ⟨e,rfl,⟨_,e,rfl⟩,call_meets F.slot_list_mul ⟨_,e,rfl⟩ F.entry_list_mul (F.args_list_mul_2 _ _) (AutoListH.list___mul___list_int_3 l its.toArray n k t hfit hcap hlong) ⟨e,?_⟩⟩)
 rw[hnew];exact⟨.ref _,_,I.lnew (t':=s.toks) (r.rep k.toNat) (by rw[qCj,Nat.mul_comm];exact hz),rfl,q _ I.fresh⟩
end
end _L
namespace Att
open PySem PySem.W PySem.Calls PyProof.Rows
theorem Ze{P:Params}{h:Heap}:∀(ns:List Int) (vs:List Value),WellAll P h vs (ns.map WData.int)->IntsAre vs ns:=by
 intro ns
 induction ns with
 |nil=>
  intro vs w;rw[List.map_nil]at w;cases w;exact .nil
 |cons n ns ih=>
  intro vs w;rw[List.map_cons]at w;cases w with
  |cons a b=>
   cases a;exact .cons _ _ (ih _ b)
theorem v3{l:OpenLaw}{n:Nat}(hn:l.most=some n){P:Params}{h:Heap}{args:List WData}{vals:List Value}
  (hpre:l.row.toRowW.claim.pre args=true) (hwl:WellAll P h vals args):
  ∃a vs ns,vals=[Value.ref a]/\args=[WData.list (ns.map WData.int)]/\h.get? a=some { cls:=.type "list",data:=.seq vs.toArray }/\IntsAre vs ns/\ns.length<=n:=by
 have hsh:WShape.hasAll [] args [.list .int]=true:=(pre_splitW hpre).1;have hc:l.pre.holds [] { args:=args }=true:=(pre_splitW hpre).2;obtain⟨d,r,rfl,h1,h2⟩:=hasAllW_cons hsh;obtain rfl:=hasAllW_nil h2;obtain⟨xs,rfl,h3⟩:=hasW_list h1;obtain⟨ns,rfl⟩:=items_int h3;have hlen:ns.length<=n:=by
  unfold OpenLaw.pre at hc;have h4:(WTm.not (.lt (.lit (.int (n:Int))) (.len (.arg 0)))).holds [] { args:=[.list (ns.map .int)] }=true:=by
   have h4:=(holds_andW hc).1;rw[hn]at h4;exact h4
  have h5:=condW_of h4 (w_not (w_lt w_lit (w_len_list (w_arg rfl))));rw[wW]at h5;refine Nat.le_of_not_lt λq=>?_;have q':(n:Int)<((ns.length:Nat):Int):=by omega
  first
   | (rw[uB q']at h5;exact absurd h5 (by decide))
   | (simp at h5;omega)
 cases hwl with
 |cons w1 w2=>
  cases w2;cases w1 with
  |list ho hall=>exact⟨_,_,ns,rfl,rfl,ho,Ze ns _ hall,hlen⟩
theorem l7(l:OpenLaw)(args:List WData):l.row.toRowW.claim.post args (.bool true) args=true:=
 postW_of (r:=l.row.toRowW) (X:=(true==true))
  (show WShape.has [] (.bool true) .bool=true by first|rfl|decide|simp[WShape.has,WShape.arms,WShape.armsAll])
  (show (WTm.eq .res (.lit (.bool true))).value [] { args:=args,res:=some (.bool true),after:=args }=some (.bool (true==true)) from w_eq_bool (w_res rfl) w_lit) rfl
theorem attach_call{l:OpenLaw}{n:Nat}{q:Program}{loose:List Str}{XP:(Str->Option Value)->Heap->Prop}{YP:World->Heap->Prop}{d:DefRec}
  (hn:l.most=some n) (hdf:d.params.defaults=[])
  (call:∀(w:World) (s₀ s₁:Shared) (mg mb:Str->Option Value) (fa:Addr) (o:Obj) (pm cd doc:Value) (a:Addr) (vs:List Value) (ns:List Int),
   Ground q loose [] XP w s₀ mg mb s₁.heap->YP w s₁.heap ->
   s₁.heap.get? fa=some o->o.data=.func (docDef d.name d.params d.body d.scope pm cd doc)->s₁.heap.CodeRec cd d.name->mg d.name=some (.ref fa) ->
   s₁.heap.get? a=some { cls:=.type "list",data:=.seq vs.toArray }->IntsAre vs ns->ns.length<=n->s₁.gens=#[] ->
   codeAny (model l.prog w) callerA (.call (.ref fa) ⟨[.ref a],[]⟩) (λr s'=>r=.ok (.ret (.bool true))/\OldK s₁.heap s'.heap/\s'.os=s₁.os/\AllBare s'.gens) s₁):
  WalkO q loose XP YP l.row.toRowW d [] (λf vs=>PySem.call f vs):=by
 intro w s₀ s₁ mg mb G Y fa o pm cd doc dV kV ho hd hcd hD hmg hg args vals as hpre hlay hrd hwl hlo;obtain rfl:dV=.none:=Dflts.none hD hdf;obtain rfl:kV=.none:=Dflts.noKw hD;obtain⟨a,vs,ns,rfl,rfl,hobj,hints,hlen⟩:=v3 hn hpre hwl;refine enter_call (codeAny_mono (call w s₀ s₁ mg mb fa o pm cd doc a vs ns G Y ho (fd_plain hd) hcd hmg hobj hints hlen hg) λr s' hq=>?_);obtain⟨rfl,h2,h3,h4⟩:=hq;exact⟨.inl ⟨.bool true,.bool true,[],rfl,λ_=>rfl,.bool true,l7 l _,λ_=>⟨List.Pairwise.nil,λ_ hm=>(nomatch hm)⟩⟩,h2,h3,h4⟩
end Att
namespace _L
open PySem PySem.Spec PyProof.Rows
theorem jn:∀{vs:List Value}{ns:List Int},IntsAre vs ns->Vals (ns.map V.int) vs
 |_,_,.nil=>.nil
 |_,_,.cons n t h=>.cons ⟨t,rfl⟩ (jn h)
def Only(H:Hp):Prop:=∀b,H b=none\/∃o xs,H b=some (.frz o (.lst xs))
theorem y4{P:Program}{w:World}{K:PySem.W.Frag}{mg mb:Str->Option Value}{CX:CXT}{k:Nat}{fa a:Addr}{fd:FuncData}{x:Str}{sp:Sp}{s₁:Shared}{vs:List Value}{ns:List Int}
  (KX:K.In s₁.heap) (hns:s₁.heap.Ns mainGlobals mg) (hb:s₁.heap.Ns builtinsNs mb) (hbb:∀x:Str,x≠"__name__" -> mb x=bootBuiltins x) (hlim:s₁.heap.NoLimit) (hg:s₁.gens=#[])
  (ha:s₁.heap.get? a=some { cls:=.type "list",data:=.seq vs.toArray }) (hi:IntsAre vs ns) (hl:ns.length<=sizeLine) (hr:Room k callerA)
  (F:∀base:Heap,K.In base->base.Ns mainGlobals mg->FnOk P w K mg base CX k fa fd [x] sp) (hbind:∀(s:Shared) (u:Value),BindsTo s fd ⟨[u],[]⟩ [(x,u)])
  (hsp:∀H:Hp,Only H->SqL K H a (ns.map V.int)->sp [.ref a] H (λv _=>v=.bl true) λ_ _ _=>False)
  (hCX:∀H e s',CX [] H s₁ (λ_ _ _=>False) e s'->False):
  codeAny (model P w) callerA (.call (.ref fa) ⟨[.ref a],[]⟩) (λr s'=>r=.ok (.ret (.bool true))/\OldK s₁.heap s'.heap/\s'.os=s₁.os/\AllBare s'.gens) s₁:=by
 have rv:=jn hi;have lenV:=hi.length;have core:∀H:Hp,Only H->SqL K H a (ns.map V.int)->HOk P w H s₁.heap->(∀b,H b≠none->b=a)->(H a≠none->K.lookup a=none) ->
   codeAny (model P w) callerA (.call (.ref fa) ⟨[.ref a],[]⟩) (λr s'=>r=.ok (.ret (.bool true))/\OldK s₁.heap s'.heap/\s'.os=s₁.os/\AllBare s'.gens) s₁:=by
  intro H hO hS hok hA hK;have base_of:∀{b:Addr}{o:Obj},s₁.heap.get? b=some o->H b=none->(y3 s₁.heap H).get? b=some o:=λe n=>z9 e n;have noA:∀{b:Addr}{o:Obj}{es:Array DictEntry}{ep:Nat},s₁.heap.get? b=some o->o.data=.dict es ep->H b=none:=λ{b o es ep} e d=>by
   cases q:H b with
   |none=>rfl
   |some u=>
    have e':b=a:=hA b (by rw[q];simp);subst e';rw[ha]at e;cases e;have d':Data.seq vs.toArray _=Data.dict es ep:=d;cases d'
  have nsK:∀{b:Addr}{m:Str->Option Value},s₁.heap.Ns b m->(y3 s₁.heap H).Ns b m:=λ{b m} ⟨o,es,ep,e,d,r⟩=>⟨o,es,ep,base_of e (noA e d),d,r⟩
  have hKb:K.In (y3 s₁.heap H):=λb o e=>base_of (KX b o e) (by
   cases q:H b with
   |none=>rfl
   |some u=>
    have e':b=a:=hA b (by rw[q];simp);subst e';rw[hK (by rw[q];simp)]at e;cases e)
  have hM:Mod K mg (y3 s₁.heap H):=⟨hKb,nsK hns,⟨mb,nsK hb,hbb⟩,let ⟨mc,h1,h2⟩:=hlim;⟨mc,nsK h1,h2⟩⟩
  have e0:Env0 P w K mg (y3 s₁.heap H) callerA [] s₁ H:=⟨rfl,hM,λb o e=>qBq e,Nat.le_of_eq (V2 _ _),trivial,λb hb=>absurd (show b∈([]:List Addr) from hb) (by simp),hok,.of_eq hg⟩
  refine codeAny_mono ((F _ hKb (nsK hns)).run callerA [] s₁ H ⟨[.ref a],[]⟩ [.ref a] [.ref a] _ _ hr e0 (hbind s₁ (.ref a)) (.cons rfl .nil) (hsp H hO hS)) λr s' h=>?_;cases r with
  |error e=>exact(hCX H e s' h).elim
  |ok fl=>
   cases fl with
   |next=>exact False.elim h
   |brk=>exact False.elim h
   |cont=>exact False.elim h
   |ret u=>
    obtain⟨v,H',os,bare,un,hok',r',q⟩:=h;have q':v=.bl true:=q;subst q';obtain rfl:u=Value.bool true:=r';refine⟨rfl,OldK.of_keep λb o e=>?_,os,bare⟩;cases q:H b with
    |none=>exact un.keep b o e q (by intro z;exact absurd (show b∈([]:List Addr) from z) (by simp)) (by simp)
    |some u=>
     rcases hO b with z|⟨ob,xs,z⟩
     ·rw[q]at z;cases z
     ·have z2:=un.frzs b ob _ z;obtain⟨e1,_⟩:=hok b _ z;obtain⟨e2,_⟩:=hok' b _ z2;rw[e]at e1;cases e1;exact e2
 cases hk:K.lookup a with
 |some o=>
  have e:=KX a o hk;rw[ha]at e;cases e;refine core (λ_=>none) (λ_=>.inl rfl) (.inr ⟨_,vs.toArray,_,hk,rfl,rfl,rfl,by rw[wJ,lenV];exact hl,by simpa using rv⟩) (λb u z=>by have z':(none:Option HO)=some u:=z;cases z') (λb z=>absurd rfl z) λz=>absurd rfl z
 |none=>
  refine core (λb=>if b=a then some (.frz { cls:=.type "list",data:=.seq vs.toArray } (.lst (ns.map V.int))) else none) (λb=>?_) (.inl (.inr ⟨{ cls:=.type "list",data:=.seq vs.toArray },if_pos rfl⟩)) (λb u z=>?_) (λb z=>?_) λ_=>hk
  ·by_cases hb:b=a
   ·exact .inr ⟨_,_,if_pos hb⟩
   ·exact .inl (if_neg hb)
  ·by_cases hb:b=a
   ·have z':=(if_pos hb).symm.trans z;cases z';subst hb;exact⟨ha,by rw[wW];exact hl,vs,_,rv,ha⟩
   ·have z':=(if_neg hb).symm.trans z;cases z'
  ·by_cases hb:b=a
   ·exact hb
   ·exact absurd (if_neg hb) z
theorem walk_of{l:PySem.W.OpenLaw}{n k:Nat}{q:Program}{loose:List Str}{XP:(Str->Option Value)->Heap->Prop}{YP:World->Heap->Prop}{d:DefRec}{K:Params->PySem.W.Frag}{CX:World->CXT}{sp:World->Sp}{x:Str}
  (hn:l.most=some n) (hn2:n<=sizeLine) (hdf:d.params.defaults=[]) (hr:Room k callerA)
  (hY:∀(w:World) (h:Heap),YP w h->(K w.params).In h)
  (F:∀(w:World) (mg:Str->Option Value) (fa:Addr) (h:Heap),(K w.params).In h->h.Ns mainGlobals mg->mg d.name=some (.ref fa) ->
   ∃fd:FuncData,(∀(s:Shared) (u:Value),BindsTo s fd ⟨[u],[]⟩ [(x,u)])/\
    ∀base:Heap,(K w.params).In base->base.Ns mainGlobals mg->FnOk l.prog w (K w.params) mg base (CX w) k fa fd [x] (sp w))
  (hsp:∀(w:World) (H:Hp) (a:Addr) (ns:List Int),ns.length<=n->Only H->SqL (K w.params) H a (ns.map V.int)->sp w [.ref a] H (λv _=>v=.bl true) λ_ _ _=>False)
  (hCX:∀(w:World) (H:Hp) (s:Shared) (e:Value) (s':Shared),CX w [] H s (λ_ _ _=>False) e s'->False):
  PySem.W.WalkO q loose XP YP l.row.toRowW d [] (λf vs=>PySem.call f vs):=by
 refine Att.attach_call hn hdf λw s₀ s₁ mg mb fa o pm cd doc a vs ns G Y ho hd hcd hmg hobj hints hlen hg=>?_;have KX:=hY w _ Y;obtain⟨fd,hb,hF⟩:=F w mg fa _ KX G.T.g hmg;exact y4 KX G.T.g G.T.b G.T.builtins G.T.nolimit hg hobj hints (wL hlen hn2) hr hF hb (λH hO hS=>hsp w H a ns hlen hO hS) λH e s'=>hCX w H s₁ e s'
noncomputable def jA(s:Stmt):Arguments:=match s with
 | .FunctionDef _ a _ _ _ _ _ _ _ _=>a
 |_=>{ posonlyargs:=[],args:=[],vararg:=none,kwonlyargs:=[],kw_defaults:=[],kwarg:=none,defaults:=[] }
noncomputable def defBody(s:Stmt):List Stmt:=match s with
 | .FunctionDef _ _ b _ _ _ _ _ _ _=>b
 |_=>[]
noncomputable def defScope(s:Stmt):Scope:=match s with
 | .FunctionDef _ _ _ _ _ _ sc _ _ _=>sc
 |_=>{ kind:=.function,names:=[],isGenerator:=false,isCoroutine:=false }
noncomputable abbrev CX0:CXT:=λ_ _ _ _ _ _=>False
noncomputable abbrev E0:XK:=λ_ _ _=>False
theorem pass0{X:Cx}:R6 CX0 X E0:=λ_ _ _ _ _ _ _ h=>h.elim
structure Fun(K:PySem.W.Frag)(x qual:Str)(st:Stmt)(f:Addr)(fd:FuncData):Prop where
 ex:∃(oc:Value) (od:Option Addr) (kV doc pm:Value) (an:Option Addr) (cdv ct:Value) (osl:Array (Option Value)),
  fd=PySem.W.fnOf x qual (jA st) (defBody st) (defScope st) .none kV doc pm an cdv ct/\K.lookup f=some ⟨oc,od,.func fd,osl⟩/\PySem.W.codeIn K cdv qual=true
 kp:PySem.W.keepIn K (.ref f)=true
section
variable{P:Program}{w:World}{K:PySem.W.Frag}{mg:Str->Option Value}{base:Heap}
theorem Fun.ok{x qual:Str}{st:Stmt}{f:Addr}{fd:FuncData}{N ps:List Str}{k:Nat}{sp:Sp}(F:Fun K x qual st f fd)(S:zt N ps (defScope st))(len:∀vs H Q E,sp vs H Q E->vs.length=ps.length)
  (hbody:∀(cdv:Value) (A:Around) (outer:List Env) (s:Shared) (H:Hp) (vs:List V) (Q:VK) (E:XK),Room k (A.deeper (envOfC qual (defScope st) s.heap.objs.size f cdv))->sp vs H Q E ->
   ∃t,PSs (cxOf CX0 P w K mg base N qual (defScope st) f cdv A outer s H E).nox (defBody st) t/\t { nx:=λ_ H'=>Q .non H',rt:=Q } (start N vs) H):FnOk P w K mg base CX0 (k+1) f fd ps sp:=by
 obtain⟨oc,od,kV,doc,pm,an,cdv,ct,osl,rfl,lk,hcd⟩:=F.ex;refine qF4 lk hcd S len λA outer s H vs Q E hr hsp=>?_;obtain⟨t,h,q⟩:=hbody cdv A outer s H vs Q E hr hsp;exact⟨t,h.nox,q⟩
theorem Fun.binds{x qual:Str}{st:Stmt}{f:Addr}{fd:FuncData}{ps:List Str}(F:Fun K x qual st f fd)
  (h:∀(kV doc pm:Value) (an:Option Addr) (cdv ct:Value) (us:List Value),us.length=ps.length->bindArgs (PySem.W.fnOf x qual (jA st) (defBody st) (defScope st) .none kV doc pm an cdv ct) ⟨us,[]⟩=pure (ps.zip us)):Binds K fd ps []:=by
 obtain⟨oc,od,kV,doc,pm,an,cdv,ct,osl,rfl,lk,hcd⟩:=F.ex;exact .all (h kV doc pm an cdv ct)
theorem qBW{x qual:Str}{st:Stmt}{f:Addr}{oc:Value}{od an:Option Addr}{osl:Array (Option Value)}{kV doc pm cdv ct:Value}(l:K.lookup f=some ⟨oc,od,.func (PySem.W.fnOf x qual (jA st) (defBody st) (defScope st) .none kV doc pm an cdv ct),osl⟩)
  (c:PySem.W.codeIn K cdv qual=true) (k:PySem.W.keepIn K (.ref f)=true):Fun K x qual st f (PySem.W.fnOf x qual (jA st) (defBody st) (defScope st) .none kV doc pm an cdv ct):=⟨⟨oc,od,kV,doc,pm,an,cdv,ct,osl,rfl,l,c⟩,k⟩
end
def Zw(H H':Hp):Prop:=∀b o,H b=some o->H' b=some o
section
variable{κ:Type}[DecidableEq κ]
noncomputable def valV(kvs:List (κ×V))(k:κ):Option V:=(kvs.find? λkv=>decide (kv.1=k)).map (·.2)
noncomputable def putK(kvs:List (κ×V))(k:κ)(v:V):List (κ×V):=
 if (kvs.any λkv=>decide (kv.1=k))=true then kvs.map (λkv=>if kv.1=k then (kv.1,v) else kv) else kvs++[(k,v)]
noncomputable def qD9(kvs:List (κ×V))(k:κ):List (κ×V):=kvs.filter λkv=>decide (kv.1≠k)
theorem Jy{p:κ×V}{r:List (κ×V)}{k:κ}(e:p.1=k):valV (p::r) k=some p.2:=by simp[valV,List.find?_cons,e]
theorem Jf{p:κ×V}{r:List (κ×V)}{k:κ}(e:¬ p.1=k):valV (p::r) k=valV r k:=by simp[valV,List.find?_cons,e]
theorem valV_any(k:κ):∀kvs:List (κ×V),(kvs.any λkv=>decide (kv.1=k))=(valV kvs k).isSome
 | []=>rfl
 |p::r=>by
  rw[List.any_cons];by_cases e:p.1=k
  ·simp only[Jy e,uB e,Bool.true_or,Option.isSome_some]
  ·rw[Jf e,uA e,Bool.false_or];exact valV_any k r
theorem Zv(kvs:List (κ×V))(k:κ)(v:V):(putK kvs k v).length<=kvs.length+1:=by
 unfold putK;split
 ·rw[wW];omega
 ·rw[wX,List.length_cons,List.length_nil];omega
theorem RelO.isSome_eq{o:Option V}{u:Option Value}(r:RelO o u):o.isSome=u.isSome:=by
 cases o with
 |none=>cases u with
  |none=>rfl
  |some _=>exact(show False from r).elim
 |some _=>cases u with
  |none=>exact(show False from r).elim
  |some _=>rfl
theorem RelO.getD{o:Option V}{u:Option Value}{d:V}{d':Value}(r:RelO o u)(rd:RelV d d'):RelV (o.getD d) (u.getD d'):=by
 cases o with
 |none=>cases u with
  |none=>exact rd
  |some _=>exact(show False from r).elim
 |some _=>cases u with
  |none=>exact(show False from r).elim
  |some _=>exact r
theorem KV.val{kvs:List (κ×V)}{vs:List (κ×Value)}(r:KV kvs vs)(k:κ):RelO (valV kvs k) (valueAt vs k):=by
 unfold KV at r
 induction r with
 |nil=>exact True.intro
 | @cons p q ps qs h t ih=>
  obtain⟨h1,h2⟩:=h;by_cases e:p.1=k
  ·have e':q.1=k:=h1.symm.trans e;have b:valueAt (q::qs) k=some q.2:=by simp[valueAt,List.find?_cons,e']
   rw[Jy e,b];exact h2
  ·have e':¬ q.1=k:=λz=>e (h1.trans z);have b:valueAt (q::qs) k=valueAt qs k:=by simp[valueAt,List.find?_cons,e']
   rw[Jf e,b];exact ih
theorem KV.any{kvs:List (κ×V)}{vs:List (κ×Value)}(r:KV kvs vs)(k:κ):(kvs.any λkv=>decide (kv.1=k))=vs.any λkv=>decide (kv.1=k):=by
 unfold KV at r
 induction r with
 |nil=>rfl
 |cons h t ih=>rw[List.any_cons,List.any_cons,ih,h.1]
theorem KV.repl{kvs:List (κ×V)}{vs:List (κ×Value)}(r:KV kvs vs)(k:κ){y:V}{u:Value}(ry:RelV y u):
  KV (kvs.map λkv=>if kv.1=k then (kv.1,y) else kv) (vs.map λkv=>if kv.1=k then (kv.1,u) else kv):=by
 unfold KV at r ⊢
 induction r with
 |nil=>exact .nil
 | @cons p q ps qs h t ih=>
  rw[List.map_cons,List.map_cons];refine .cons ?_ ih;obtain⟨h1,h2⟩:=h;by_cases e:p.1=k
  ·rw[if_pos e,if_pos (h1.symm.trans e)];exact⟨h1,ry⟩
  ·rw[if_neg e,if_neg (λz=>e (h1.trans z))];exact⟨h1,h2⟩
theorem KV.put{kvs:List (κ×V)}{vs:List (κ×Value)}(r:KV kvs vs)(k:κ){y:V}{u:Value}(ry:RelV y u):KV (putK kvs k y) (stored vs k u):=by
 unfold putK stored;rw[r.any k];by_cases e:(vs.any λkv=>decide (kv.1=k))=true
 ·rw[if_pos e,if_pos e];exact r.repl k ry
 ·rw[if_neg e,if_neg e];exact Paired.snoc r ⟨rfl,ry⟩
theorem KV.drop{kvs:List (κ×V)}{vs:List (κ×Value)}(r:KV kvs vs)(k:κ):KV (qD9 kvs k) (without vs k):=by
 unfold KV at r ⊢;unfold qD9 without
 induction r with
 |nil=>exact .nil
 | @cons p q ps qs h t ih=>
  obtain⟨h1,h2⟩:=h;rw[List.filter_cons,List.filter_cons];by_cases e:p.1=k
  ·have a:¬ decide (p.1≠k)=true:=by simp[e]
   have b:¬ decide (q.1≠k)=true:=by simp[h1.symm.trans e]
   rw[if_neg a,if_neg b];exact ih
  ·have e':¬ q.1=k:=λz=>e (h1.trans z);have a:decide (p.1≠k)=true:=by simp[e]
   have b:decide (q.1≠k)=true:=by simp[e']
   rw[if_pos a,if_pos b];exact .cons ⟨h1,h2⟩ ih
theorem KV.length{kvs:List (κ×V)}{vs:List (κ×Value)}(r:KV kvs vs):kvs.length=vs.length:=Paired.length r
end
theorem qAB{P:Program}{w:World}{k:Key}{u:Value}(r:RelV (kV k) u):(zo P w).is k u=true:=by
 cases k with
 |inl i=>obtain⟨t,e⟩:=(show ∃t,u=Value.int i t from r);subst e;exact K1 P w i t
 |inr x=>obtain⟨t,e⟩:=(show ∃t,u=Value.str x t from r);subst e;exact K7 P w x t
theorem F4{P:Program}{w:World}:∀{ks:List Key}{us:List Value},Vals (ks.map kV) us->ItemsAre (zo P w) ks us
 | [],_,r=>by rw[List.map_nil]at r;cases r;exact .nil
 |k::ks,_,r=>by
  rw[List.map_cons]at r;cases r with
  |cons h t=>exact .cons (qAB h) (F4 t)
abbrev KT(H:Hp):List (List Key×V)->List (List Key×Addr×Value)->Prop:=Paired λp q=>p.1=q.1/\H q.2.1=some (.tup (p.1.map kV))/\RelV p.2 q.2.2
theorem KT.val{H:Hp}{kvs:List (List Key×V)}{xs:List (List Key×Addr×Value)}(r:KT H kvs xs)(k:List Key):RelO (valV kvs k) ((atKey xs k).map (·.2)):=by
 induction r with
 |nil=>exact True.intro
 | @cons p q ps qs h t ih=>
  obtain⟨h1,_,h2⟩:=h;by_cases e:p.1=k
  ·have e':q.1=k:=h1.symm.trans e;have b:atKey (q::qs) k=some q.2:=by simp[atKey,List.find?_cons,e']
   rw[Jy e,b];exact h2
  ·have e':¬ q.1=k:=λz=>e (h1.trans z);have b:atKey (q::qs) k=atKey qs k:=by simp[atKey,List.find?_cons,e']
   rw[Jf e,b];exact ih
theorem KT.repl{H:Hp}{kvs:List (List Key×V)}{xs:List (List Key×Addr×Value)}(r:KT H kvs xs)(k:List Key){y:V}{u:Value}(ry:RelV y u):
  KT H (kvs.map λkv=>if kv.1=k then (kv.1,y) else kv) (xs.map (putAt k u)):=by
 induction r with
 |nil=>exact .nil
 | @cons p q ps qs h t ih=>
  rw[List.map_cons,List.map_cons];refine .cons ?_ ih;obtain⟨h1,h2,h3⟩:=h;unfold putAt;by_cases e:p.1=k
  ·rw[if_pos e,if_pos (h1.symm.trans e)];exact⟨h1,h2,ry⟩
  ·rw[if_neg e,if_neg (λz=>e (h1.trans z))];exact⟨h1,h2,h3⟩
theorem KT.put{H:Hp}{kvs:List (List Key×V)}{xs:List (List Key×Addr×Value)}(r:KT H kvs xs)(k:List Key){b:Addr}{y:V}{u:Value}(hb:H b=some (.tup (k.map kV)))(ry:RelV y u):
  KT H (putK kvs k y) (storedH xs k b u):=by
 have e:(kvs.any λkv=>decide (kv.1=k))=(atKey xs k).isSome:=by
  rw[valV_any,(r.val k).isSome_eq,vi]
 unfold putK storedH;rw[e];by_cases q:(atKey xs k).isSome=true
 ·rw[if_pos q,if_pos q];exact r.repl k ry
 ·rw[if_neg q,if_neg q];exact Paired.snoc r ⟨rfl,hb,ry⟩
theorem KT.keeps{H H':Hp}{kvs:List (List Key×V)}{xs:List (List Key×Addr×Value)}(r:KT H kvs xs)(ht:∀b ys,H b=some (.tup ys)->H' b=some (.tup ys)):KT H' kvs xs:=
 Paired.mapP r λ_ _ z=>⟨z.1,ht _ _ z.2.1,z.2.2⟩
section
variable{P:Program}{w:World}{H:Hp}{h:Heap}{a:Addr}
theorem qDY{u:HO}(ok:HOk P w H h)(e:Rd H a u):ObjOk P w H h a u:=e.ok ok
theorem qCe{kvs:List (Key×V)}(ok:HOk P w H h)(e:Rd H a (.dK kvs)):kvs.length<=sizeLine/\(a==sysModules)=false/\∃vs,KV kvs vs/\h.DictOf (zo P w) a vs:=
 show ObjOk P w H h a (.dK kvs) from qDY ok e
theorem qFu{kvs:List (Key×V)}(ok:HOk P w H h)(e:H a=some (.dK kvs)):kvs.length<=sizeLine/\(a==sysModules)=false/\∃vs,KV kvs vs/\h.DictOf (zo P w) a vs:=qCe ok (.inl e)
theorem O2{ks:List Key}(ok:HOk P w H h)(e:H a=some (.tup (ks.map kV))):(tupleKind (zo P w)).is h ks a:=by
 obtain⟨_,its,r,o,h1,h2,n,h3⟩:=(show ObjOk P w H h a (.tup (ks.map kV)) from ok a _ e)
 exact⟨o,its.toArray,n,h1,h2,h3,by simpa using F4 r⟩
theorem qBv{kvs:List (List Key×V)}(ok:HOk P w H h)(e:Rd H a (.dT kvs)):kvs.length<=sizeLine/\(a==sysModules)=false/\
  ∃xs,KT H kvs xs/\h.DictOfH (tupleKind (zo P w)) a xs:=by
 obtain⟨z,y,xs,r,o,es,ep,h1,h2,h3,h4,h5⟩:=(show ObjOk P w H h a (.dT kvs) from qDY ok e)
 refine⟨z,y,xs,r,o,es,ep,h1,h2,h3,h4,λx hx=>?_,h5⟩;have all:∀{l:List (List Key×V)}{m:List (List Key×Addr×Value)},KT H l m->∀x∈m,(tupleKind (zo P w)).is h x.1 x.2.1:=by
  intro l m q
  induction q with
  |nil=>intro x hx;exact nomatch hx
  | @cons p q ps qs hq t ih=>
   intro x hx;rcases wP.mp hx with e|hx
   ·subst e;exact O2 ok (by rw[<-hq.1];exact hq.2.1)
   ·exact ih x hx
 exact all r x hx
theorem qGP{kvs:List (List Key×V)}(ok:HOk P w H h)(e:H a=some (.dT kvs)):kvs.length<=sizeLine/\(a==sysModules)=false/\
  ∃xs,KT H kvs xs/\h.DictOfH (tupleKind (zo P w)) a xs:=qBv ok (.inl e)
end
def DGet(H:Hp)(a:Addr)(y:V)(r:Option V):Prop:=
 (∃kvs k,Rd H a (.dK kvs)/\y=kV k/\r=valV kvs k)\/∃kvs k b,Rd H a (.dT kvs)/\y=.ref b/\H b=some (.tup (k.map kV))/\r=valV kvs k
def DPut(H:Hp)(a:Addr)(y v:V)(H':Hp):Prop:=
 (∃kvs k,H a=some (.dK kvs)/\y=kV k/\kvs.length<sizeLine/\H'=upd H a (.dK (putK kvs k v)))\/
 ∃kvs k b,H a=some (.dT kvs)/\y=.ref b/\H b=some (.tup (k.map kV))/\kvs.length<sizeLine/\H'=upd H a (.dT (putK kvs k v))
theorem DGet.k{H:Hp}{a:Addr}{kvs:List (Key×V)}{k:Key}(e:H a=some (.dK kvs)):DGet H a (kV k) (valV kvs k):=.inl ⟨kvs,k,.inl e,rfl,rfl⟩
theorem DGet.t{H:Hp}{a b:Addr}{kvs:List (List Key×V)}{k:List Key}(e:H a=some (.dT kvs))(eb:H b=some (.tup (k.map kV))):DGet H a (.ref b) (valV kvs k):=.inr ⟨kvs,k,b,.inl e,rfl,eb,rfl⟩
theorem DPut.k{H:Hp}{a:Addr}{kvs:List (Key×V)}{k:Key}{v:V}(e:H a=some (.dK kvs))(hl:kvs.length<sizeLine):DPut H a (kV k) v (upd H a (.dK (putK kvs k v))):=.inl ⟨kvs,k,e,rfl,hl,rfl⟩
theorem DPut.t{H:Hp}{a b:Addr}{kvs:List (List Key×V)}{k:List Key}{v:V}(e:H a=some (.dT kvs))(eb:H b=some (.tup (k.map kV)))(hl:kvs.length<sizeLine):
  DPut H a (.ref b) v (upd H a (.dT (putK kvs k v))):=.inr ⟨kvs,k,b,e,rfl,eb,hl,rfl⟩
section
variable{X:Cx}{pins:List (Addr×Obj)}{σ:St}{H:Hp}{s:Shared}{a:Addr}{y v:V}{u r:Value}{o:Option V}{A:Around}{E:Value->Shared->Prop}
theorem d_in{Q:Value->Shared->Prop}(hu:A.units+1<cLine)(I:Inv X pins σ H s)(g:DGet H a y o)(ry:RelV y u)(h:∀s',Inv X pins σ H s'->Q (.bool o.isSome) s'):
  wpAny (model X.prog X.w) A (compareOp .In u (.ref a)) Q E s:=by
 rcases g with⟨kvs,k,e,ey,l⟩|⟨kvs,k,b,e,ey,eb,l⟩
 ·subst ey;obtain⟨z,hd,vs,rel,dd⟩:=qCe I.hok e;refine wpAny_in_of (qAB ry) hd dd.mapOf ?_;rw[<-(rel.val k).isSome_eq,<-l];exact h _ (I.tok _)
 ·subst ey;cases (show u=Value.ref b from ry);obtain⟨z,hd,xs,rel,dd⟩:=qBv I.hok e;refine wpAny_in_heap (tupleKind_room_in1 hu) (O2 I.hok eb) hd dd ?_;have q:=(rel.val k).isSome_eq;rw[vi]at q;rw[<-q,<-l];exact h _ (I.tok _)
theorem d_notIn{Q:Value->Shared->Prop}(hu:A.units+1<cLine)(I:Inv X pins σ H s)(g:DGet H a y o)(ry:RelV y u)(h:∀s',Inv X pins σ H s'->Q (.bool (!o.isSome)) s'):
  wpAny (model X.prog X.w) A (compareOp .NotIn u (.ref a)) Q E s:=by
 rcases g with⟨kvs,k,e,ey,l⟩|⟨kvs,k,b,e,ey,eb,l⟩
 ·subst ey;obtain⟨z,hd,vs,rel,dd⟩:=qCe I.hok e;refine wpAny_notIn_of (qAB ry) hd dd.mapOf ?_;rw[<-(rel.val k).isSome_eq,<-l];exact h _ (I.tok _)
 ·subst ey;cases (show u=Value.ref b from ry);obtain⟨z,hd,xs,rel,dd⟩:=qBv I.hok e;refine wpAny_notIn_heap (tupleKind_room_in1 hu) (O2 I.hok eb) hd dd ?_;have q:=(rel.val k).isSome_eq;rw[vi]at q;rw[<-q,<-l];exact h _ (I.tok _)
theorem i7{h':Heap}{t':Nat}{ob:HO}(I:Inv X pins σ H s)(mu:Mut (H a))(hs:Heap.SameBut a s.heap h')(he:∃q,h'.get? a=some q)(new:ObjOk X.prog X.w (upd H a ob) h' a ob):
  Inv X pins σ (upd H a ob) { s with heap:=h',toks:=t' }:=
 I.write (x:=a) (e:=a) mu (.inl rfl) (λb q hb z=>(hs.2 b hb).trans z) he new
theorem qDw{P:Program}{w:World}{H':Hp}{h':Heap}{kvs:List (Key×V)}{vs:List (Key×Value)}(z:kvs.length<=sizeLine)(hd:(a==sysModules)=false)(rel:KV kvs vs)(dd:h'.DictOf (zo P w) a vs):
  ObjOk P w H' h' a (.dK kvs):=⟨z,hd,vs,rel,dd⟩
theorem d_setItem{H':Hp}{Q:Unit->Shared->Prop}(hu:A.units+1<cLine)(I:Inv X pins σ H s)(g:DPut H a y v H')(ry:RelV y u)(rv:RelV v r)(h:∀s',Inv X pins σ H' s'->Q () s'):
  wpAny (model X.prog X.w) A (setItem (.ref a) u r) Q E s:=by
 rcases g with⟨kvs,k,e,ey,l,eH⟩|⟨kvs,k,b,e,ey,eb,l,eH⟩
 ·subst ey eH;obtain⟨z,hd,vs,rel,dd⟩:=qFu I.hok e;have hz:vs.length<=sizeLine:=by rw[<-rel.length];exact z
  have hl:(putK kvs k v).length<=sizeLine:=by have:=Zv kvs k v;omega
  refine wpAny_setItem_pairs (hsz:=hz) (qAB ry) dd λh' dd' hs=>h _ ?_;have he:∃q,h'.get? a=some q:=let ⟨q,_,_,hq,_⟩:=dd';⟨q,hq⟩
  exact i7 I (by rw[e];exact True.intro) hs he (qDw hl hd (rel.put k rv) dd')
 ·subst ey eH;cases (show u=Value.ref b from ry);obtain⟨z,hd,xs,rel,dd⟩:=qGP I.hok e;have hz:xs.length<=sizeLine:=by rw[<-Paired.length rel];exact z
  have hl:(putK kvs k v).length<=sizeLine:=by have:=Zv kvs k v;omega
  refine wpAny_setItem_heap (hsz:=hz) (tupleKind_room_in1 hu) (O2 I.hok eb) dd λh' dd' hs=>h _ ?_;obtain⟨q,es,ep,hq,h2,h3,h4,_,h5⟩:=dd';refine i7 I (by rw[e];exact True.intro) hs ⟨q,hq⟩ ⟨hl,hd,_,(rel.put k eb rv).keeps λc ys ec=>?_,q,es,ep,hq,h2,h3,h4,h5⟩;rw[qG (qGE ec e (λz=>nomatch z))];exact ec
end
noncomputable def qE1(kvs more:List (Key×V)):List (Key×V):=more.foldl (λacc kv=>putK acc kv.1 kv.2) kvs
structure M1(X:Cx)(o:Expr)(m:Str)(apos:Pos)(e:Expr)(cpos:Pos):Prop where
 base:attributeBase o m X.env (eval o X.env)=eval o X.env
 few:((backTo cpos (starEach [e] X.env)).all (λx=>!x.1)&&(backToKw cpos (keywordEach [] X.env)).all (λx=>x.1.isSome)
  && decide (([e]:List Expr).length+([]:List Keyword).length+(if ([]:List Keyword).isEmpty then 0 else 1)<30))=true
 line:(apos.endLine==cpos.line)=true
 trees:backTo cpos (starEach [e] X.env)=[(false,eval e X.env)]
structure M2(X:Cx)(o:Expr)(m:Str)(apos:Pos)(e f:Expr)(cpos:Pos):Prop where
 base:attributeBase o m X.env (eval o X.env)=eval o X.env
 few:((backTo cpos (starEach [e,f] X.env)).all (λx=>!x.1)&&(backToKw cpos (keywordEach [] X.env)).all (λx=>x.1.isSome)
  && decide (([e,f]:List Expr).length+([]:List Keyword).length+(if ([]:List Keyword).isEmpty then 0 else 1)<30))=true
 line:(apos.endLine==cpos.line)=true
 trees:backTo cpos (starEach [e,f] X.env)=[(false,eval e X.env),(false,eval f X.env)]
end _L
set_option maxHeartbeats 4000000
namespace _L
open PySem PySem.Spec PyProof.Rows
theorem KV.len{kvs:List (Key×V)}{vs:List (Key×Value)}(r:KV kvs vs):vs.length=kvs.length:=(Paired.length r).symm
theorem KV.key{kvs:List (Key×V)}{vs:List (Key×Value)}(r:KV kvs vs){i:Nat}{k:Key×V}(e:kvs[i]?=some k):∃v,vs[i]?=some (k.1,v):=by
 induction r generalizing i with
 |nil=>simp at e
 |cons h t ih=>
  cases i with
  |zero=>cases e;exact⟨_,by rw[List.getElem?_cons_zero];congr 1;exact Prod.ext h.1.symm rfl⟩
  |succ i=>exact ih (by simpa using e)
noncomputable def U8(cells:List (Str×Addr)):List (Str×NameKind)->List (Str×Addr)->List (Str×Addr)
 | [],cs=>cs
 | (n,k)::r,cs=>U8 cells r (if k=.free then (match cells.lookup n with|some c=>(n,c)::cs|none=>cs) else cs)
theorem ji{scope:Scope}{env:Env}(h:∀y∈scope.names,y.2=.free->∃c,env.cells.lookup y.1=some c):closureFor scope env=pure (U8 env.cells scope.names []):=by
 simp only[closureFor];generalize scope.names=names at h;have key:∀(names:List (Str×NameKind)) (cs:List (Str×Addr)),(∀y∈names,y.2=.free->∃c,env.cells.lookup y.1=some c) ->
   (forIn names cs λx r=>if (x.2==NameKind.free)=true then do let c <- cellOf env x.1;pure (ForInStep.yield ((x.1,c)::r)) else pure (ForInStep.yield r))=(pure (U8 env.cells names cs):Sem _):=by
  intro names
  induction names with
  |nil=>intro cs _;rfl
  |cons y r ih=>
   intro cs hy;obtain⟨n,k⟩:=y;rw[List.forIn_cons];by_cases hk:k=.free
   ·subst hk;obtain⟨c,hc⟩:=hy (n,.free) wK rfl;have hc':List.lookup n env.cells=some c:=hc;have e:cellOf env n=pure c:=by unfold cellOf;rw[hc']
    simp only[uF,if_true,e,pure_bind,U8,hc'];exact ih _ λy hm=>hy y (wI _ hm)
   ·have hb:(k==NameKind.free)=false:=by simpa using hk
    simp only[hb,vG,if_false,pure_bind,U8,if_neg hk];exact ih _ λy hm=>hy y (wI _ hm)
 rw[key names [] h];rfl
theorem qBF{cells:List (Str×Addr)}{x:Str}{c:Addr}:∀{names:List (Str×NameKind)}{cs:List (Str×Addr)},(U8 cells names cs).lookup x=some c->cs.lookup x=some c\/cells.lookup x=some c
 | [],cs,h=>.inl h
 | (n,k)::r,cs,h=>by
  unfold U8 at h;rcases qBF h with h2|h2
  ·clear h;by_cases hk:k=.free
   ·rw[if_pos hk]at h2;cases e:cells.lookup n with
    |none=>rw[e]at h2;exact .inl h2
    |some c'=>
     rw[e]at h2;simp only[List.lookup_cons]at h2;cases hx:x==n with
     |true=>
      have hx':x=n:=by simpa using hx
      rw[hx]at h2;subst hx';cases h2;exact .inr e
     |false=>
      rw[hx]at h2;exact .inl h2
   ·rw[if_neg hk]at h2;exact .inl h2
  ·exact .inr h2
theorem qAx{cells:List (Str×Addr)}{x:Str}{c:Addr}(hc:cells.lookup x=some c):∀{names:List (Str×NameKind)}{cs:List (Str×Addr)},((x,NameKind.free)∈names\/cs.lookup x=some c)->(∀c',cs.lookup x=some c'->c'=c)->(U8 cells names cs).lookup x=some c
 | [],cs,h,_=>by
  rcases h with h|h
  ·exact nomatch h
  ·exact h
 | (n,k)::r,cs,h,hu=>by
  unfold U8;refine qAx hc ?_ ?_
  ·rcases h with h|h
   ·rcases wP.mp h with h|h
    ·cases h;right;rw[if_pos rfl,hc];simp
    ·exact .inl h
   ·right;by_cases hk:k=.free
    ·rw[if_pos hk];cases e:cells.lookup n with
     |none=>exact h
     |some c'=>
      simp only[List.lookup_cons];cases hx:x==n with
      |true=>
       have hx':x=n:=by simpa using hx
       subst hx';rw[hc]at e;cases e;rfl
      |false=>exact h
    ·rw[if_neg hk];exact h
  ·intro c' h';by_cases hk:k=.free
   ·rw[if_pos hk]at h';cases e:cells.lookup n with
    |none=>rw[e]at h';exact hu c' h'
    |some c2=>
     rw[e]at h';simp only[List.lookup_cons]at h';cases hx:x==n with
     |true=>
      have hx':x=n:=by simpa using hx
      subst hx';rw[hx]at h';rw[hc]at e;cases e;cases h';rfl
     |false=>
      rw[hx]at h';exact hu c' h'
   ·rw[if_neg hk]at h';exact hu c' h'
theorem ZG{env:Env}:∀{names:List (Str×NameKind)}{x:Str},names.lookup x=some .free ->
  (names.map λ(n,k)=>if (k==NameKind.free&&env.scope.kind==.function&&env.kindOf n==some .cell) then (n,NameKind.cell) else (n,k)).lookup x=some .cell\/
  (names.map λ(n,k)=>if (k==NameKind.free&&env.scope.kind==.function&&env.kindOf n==some .cell) then (n,NameKind.cell) else (n,k)).lookup x=some .free
 | [],_,h=>by simp at h
 | (n,k)::r,x,h=>by
  have ih:=@ZG env r x;simp only[List.map_cons];cases hx:x==n with
  |true=>
   simp only[List.lookup_cons,hx]at h;cases h;by_cases hc:(NameKind.free==NameKind.free&&env.scope.kind==.function&&env.kindOf n==some .cell)=true
   ·rw[if_pos hc];left;simp[List.lookup_cons,hx]
   ·rw[if_neg hc];right;simp[List.lookup_cons,hx]
  |false=>
   simp only[List.lookup_cons,hx]at h;by_cases hc:(k==NameKind.free&&env.scope.kind==.function&&env.kindOf n==some .cell)=true
   ·rw[if_pos hc];simp only[List.lookup_cons,hx];exact ih h
   ·rw[if_neg hc];simp only[List.lookup_cons,hx];exact ih h
theorem jr{env:Env}:∀{names:List (Str×NameKind)}{x:Str},
  ((names.map λ(n,k)=>if (k==NameKind.free&&env.scope.kind==.function&&env.kindOf n==some .cell) then (n,NameKind.cell) else (n,k)).lookup x=some .cell\/
  (names.map λ(n,k)=>if (k==NameKind.free&&env.scope.kind==.function&&env.kindOf n==some .cell) then (n,NameKind.cell) else (n,k)).lookup x=some .free)->names.lookup x=some .free\/names.lookup x=some .cell
 | [],_,h=>by simp at h
 | (n,k)::r,x,h=>by
  have ih:=@jr env r x;simp only[List.map_cons]at h;cases hx:x==n with
  |true=>
   simp only[List.lookup_cons,hx];by_cases hc:(k==NameKind.free&&env.scope.kind==.function&&env.kindOf n==some .cell)=true
   ·rw[if_pos hc]at h;have hk:k=.free:=by
     cases k<;>first|rfl|(simp at hc)
    rw[hk];exact .inl rfl
   ·rw[if_neg hc]at h;simp only[List.lookup_cons,hx]at h;exact h.symm
  |false=>
   simp only[List.lookup_cons,hx];by_cases hc:(k==NameKind.free&&env.scope.kind==.function&&env.kindOf n==some .cell)=true
   ·rw[if_pos hc]at h;simp only[List.lookup_cons,hx]at h;exact ih h
   ·rw[if_neg hc]at h;simp only[List.lookup_cons,hx]at h;exact ih h
theorem QO:∀(names:List (Str×NameKind)) (a:Nat) (acc:List (Str×Addr)),cellsFrom a names acc=cellsFrom a names []++acc
 | [],a,acc=>rfl
 | (n,k)::r,a,acc=>by
  unfold cellsFrom;split
  ·rw[QO r (a+1) ((n,a)::acc),QO r (a+1) [(n,a)],wj];rfl
  ·exact QO r a acc
theorem Jw{x:Str}{c:Addr}:∀{names:List (Str×NameKind)}{a:Nat},(x,c)∈cellsFrom a names []->(x,NameKind.cell)∈names
 | [],a,h=>nomatch h
 | (n,k)::r,a,h=>by
  unfold cellsFrom at h;split at h
  ·rename_i hk;rw[QO,wN]at h;rcases h with h|h
   ·exact wI _ (Jw h)
   ·have:(x,c)=(n,a):=wY.mp h;cases this;rw[beq_iff_eq.mp hk];exact wK
  ·exact wI _ (Jw h)
theorem Q8{x:Str}:∀{names:List (Str×NameKind)}{a:Nat},(x,NameKind.cell)∈names->∃c,(cellsFrom a names []).lookup x=some c
 | [],a,h=>nomatch h
 | (n,k)::r,a,h=>by
  unfold cellsFrom;rcases wP.mp h with h|h
  ·cases h;rw[if_pos (by decide),QO,vH];cases (cellsFrom (a+1) r []).lookup x with
   |none=>exact⟨a,by simp⟩
   |some c=>exact⟨c,rfl⟩
  ·split
   ·obtain⟨c,hc⟩:=Q8 (a:=a+1) h;exact⟨c,by rw[QO,vH,hc];rfl⟩
   ·exact Q8 h
noncomputable def ju(X:Cx)(scope:Scope)(C:Addr):List (Str×Addr):=cellsFrom (C+1) scope.names (U8 X.env.cells scope.names [])
noncomputable def cxComp(X:Cx)(scope:Scope)(C:Addr)(fp:List Addr)(s₂:Shared)(H₂:Hp)(N:List Str):Cx:=
 { X with N:=N,s₀:=s₂,H₀:=H₂,env:=compEnvC scope (ju X scope C) C X.env,outer:=X.stack,ex:=fp,fn:=λx=>decide (scope.names.lookup x=some .cell),pn:=[],xe:=λ_ _=>False }
noncomputable def inner(src:List (Option Nat))(σ:St):St:=src.map λo=>match o with|none=>none|some j=>(σ[j]?).join
structure CompScope(X:Cx)(scope:Scope)(N:List Str)(src:List (Option Nat)):Prop where
 kind:scope.kind=.function
 uniq:∀y∈scope.names,scope.names.lookup y.1=some y.2
 frees:∀y∈scope.names,y.2=NameKind.free->X.env.kindOf y.1=some .cell\/X.env.kindOf y.1=some .free
 nd:N.Nodup
 len:src.length=N.length
 from_:∀(i:Nat) x j,N[i]?=some x->src[i]?=some (some j)->X.N[j]?=some x/\scope.names.lookup x=some .free
theorem zX{x:Str}{k:NameKind}:∀{names:List (Str×NameKind)},names.lookup x=some k->(x,k)∈names
 | [],h=>by simp at h
 | (n,k')::r,h=>by
  cases hx:x==n with
  |true=>
   simp only[List.lookup_cons,hx]at h;have hx':x=n:=by simpa using hx
   cases h;subst hx';exact wK
  |false=>
   simp only[List.lookup_cons,hx]at h;exact wI _ (zX h)
section
variable{X:Cx}{pins:List (Addr×Obj)}{σ:St}{H₂:Hp}{s₂:Shared}{scope:Scope}{N:List Str}{src:List (Option Nat)}{fp:List Addr}
theorem CompScope.cells(S:CompScope X scope N src)(ok:X.Ok):∀y∈scope.names,y.2=.free->∃c,X.env.cells.lookup y.1=some c:=λy hy hk=>ok.has y.1 (S.frees y hy hk)
theorem CompScope.names(S:CompScope X scope N src):∀y∈scope.names,y.2=NameKind.local->scope.names.lookup y.1=some .local:=λy hy hk=>by rw[<-hk];exact S.uniq y hy
theorem zu{C:Addr}{h₁:Heap}(ow:CellsOk h₁ (C+1) (cellsFrom (C+1) scope.names [])){x:Str}{c:Addr}(h:(ju X scope C).lookup x=some c):
  ((x,c)∈cellsFrom (C+1) scope.names []/\(x,NameKind.cell)∈scope.names/\h₁.IsCell c none/\C<c)\/X.env.cells.lookup x=some c:=by
 unfold ju at h;rw[QO,vH]at h;cases e:(cellsFrom (C+1) scope.names []).lookup x with
 |some c'=>
  rw[e]at h;cases h;have m:=PySem.mem_of_lookup e;exact .inl ⟨m,Jw m,(ow.empty x c m).1,(ow.empty x c m).2⟩
 |none=>
  rw[e]at h;rcases qBF (show (U8 X.env.cells scope.names []).lookup x=some c by simpa using h) with h|h
  ·simp at h
  ·exact .inr h
theorem JD(S:CompScope X scope N src){C:Addr}{x:Str}{c:Addr}(hf:scope.names.lookup x=some .free)(h:X.env.cells.lookup x=some c):(ju X scope C).lookup x=some c:=by
 unfold ju;rw[QO,vH];have:(cellsFrom (C+1) scope.names []).lookup x=none:=by
  cases e:(cellsFrom (C+1) scope.names []).lookup x with
  |none=>rfl
  |some c'=>
   have:=S.uniq _ (Jw (PySem.mem_of_lookup e));rw[hf]at this;cases this
 rw[this,qAx h (.inl (zX hf)) (by intro c' h';simp at h')];rfl
theorem qCR(S:CompScope X scope N src)(I:Inv X pins σ H₂ s₂)(f2:∀b∈fp,Zx X pins H₂ b)(ob:∀b∈fp,∃o,s₂.heap.get? b=some o/\∀v,o.data≠.cell v){C:Addr}(hC:s₂.heap.objs.size<=C){h₁:Heap}(ow:CellsOk h₁ (C+1) (cellsFrom (C+1) scope.names [])):
  (cxComp X scope C fp s₂ H₂ N).Ok:=by
 have lt:∀x c,X.env.cells.lookup x=some c->c<s₂.heap.objs.size:=λx c h=>let ⟨v,q⟩:=I.cell x c h;q.lt
 refine⟨I.ok.mod,S.kind,I.ok.glob,I.ok.blt,hC,λx y c h1 h2=>?_,λx hx=>?_,λx c hf h=>?_,I.ok.hd,I.ok.frames,.inl rfl,λb hb=>⟨?_,λx c h=>?_⟩,λb o e=>I.bs b o e,?_,λb o e hb=>?_,λb hb=>?_,I.stack,I.stkFree⟩
 ·rcases zu ow h1 with⟨m1,_,_,g1⟩|g1<;>rcases zu ow h2 with⟨m2,_,_,g2⟩|g2
  ·exact PySem.name_of_addr ow.apart m1 m2
  ·exact absurd (wx (wG (lt y c g2) hC) g1) (we _)
  ·exact absurd (wx (wG (lt x c g1) hC) g2) (we _)
  ·exact I.ok.inj x y c g1 g2
 ·rcases jr hx with hf|hf
  ·obtain⟨c,hc⟩:=S.cells I.ok (x,.free) (zX hf) rfl;exact⟨c,JD S hf hc⟩
  ·obtain⟨c,hc⟩:=Q8 (a:=C+1) (zX hf);exact⟨c,by show (ju X scope C).lookup x=_;unfold ju;rw[QO,vH,hc];rfl⟩
 ·have hf':scope.names.lookup x=some .cell:=uD hf;rcases zu ow h with⟨_,_,_,g⟩|g
  ·exact vN (wo hC g)
  ·unfold cxComp at h;have h:(ju X scope C).lookup x=some c:=h;obtain⟨c',hc'⟩:=Q8 (a:=C+1) (zX hf');have e:(ju X scope C).lookup x=some c':=by unfold ju;rw[QO,vH,hc'];rfl
   rw[e]at h;cases h;have:=(ow.empty x c (PySem.mem_of_lookup hc')).2;exact wL hC (Nat.le_of_succ_le this)
 ·obtain⟨o,e,_⟩:=ob b hb;exact wZ (wG (Heap.lt_size e) hC)
 ·rcases zu ow h with⟨_,_,_,g⟩|g
  ·obtain⟨o,e,_⟩:=ob b hb;exact Nat.ne_of_gt (wx (wG (Heap.lt_size e) hC) g)
  ·exact(f2 b hb).2.2.2.2.1 x c g
 ·exact wL I.ok.bsz I.sz
 ·rcases(f2 b hb).2.2.2.1 with z|z
  ·exact I.ok.noex b o e z
  ·exact absurd (wG (Heap.lt_size e) (wL I.ok.bsz z)) (we _)
 ·intro hz;rcases wP.mp (I.stkSub b hz) with e|e
  ·exact(f2 b hb).2.1 e
  ·exact(f2 b hb).2.2.1 e
theorem Jz(S:CompScope X scope N src)(I:Inv X pins σ H₂ s₂)(f2:∀b∈fp,Zx X pins H₂ b)(ob:∀b∈fp,∃o,s₂.heap.get? b=some o/\∀v,o.data≠.cell v){C:Addr}{h₁:Heap}{m:Str->Option Value}{tk n:Nat}
  (hC:s₂.heap.objs.size<C) (keep:∀b o,s₂.heap.get? b=some o->h₁.get? b=some o) (hD:h₁.get? s₂.heap.objs.size=some { cls:=.type "list",data:=.seq #[] n }) (hn:h₁.Ns C m) (ow:CellsOk h₁ (C+1) (cellsFrom (C+1) scope.names [])):
  Inv (cxComp X scope C fp s₂ H₂ N) [] (inner src σ) (upd H₂ s₂.heap.objs.size (.lst [])) { s₂ with heap:=h₁,toks:=tk }:=by
 have lt:∀x c,X.env.cells.lookup x=some c->c<s₂.heap.objs.size:=λx c h=>let ⟨v,q⟩:=I.cell x c h;q.lt
 have hfr:H₂ s₂.heap.objs.size=none:=I.hok.fresh (wF _);refine⟨qCR S I f2 ob (vN hC) ow,rfl,I.bare,Un.laid keep (wF _) hfr,⟨m,hn,λi x v e1 e2 e3=>?_⟩,λx c h=>?_,?_,λx c h=>?_,λp hp=>absurd (show p∈([]:List (Addr×Obj)) from hp) (by simp),I.hok.laid keep (wF _) ⟨by simp,[],n,.nil,hD⟩,?_⟩
 ·have e2':(inner src σ)[i]?=some (some v):=e2;unfold inner at e2';rw[wg]at e2';cases q:src[i]? with
  |none=>rw[q]at e2';cases e2'
  |some o=>
   rw[q]at e2';cases o with
   |none=>cases e2'
   |some j=>
    have ej:(σ[j]?).join=some v:=Option.some.inj e2';have ej':σ[j]?=some (some v):=by
     cases z:σ[j]? with
     |none=>rw[z]at ej;cases ej
     |some w=>rw[z]at ej;exact congrArg some ej
    obtain⟨n1,n2⟩:=S.from_ i x j e1 q;obtain⟨m0,hn0,hl⟩:=I.loc;have hfr':=S.frees (x,.free) (zX n2) rfl;obtain⟨u,r,l⟩:=hl j x v n1 ej' (by rcases hfr' with z|z;exact .inr (.inl z);exact .inr (.inr z));refine⟨u,r,.inr ⟨ZG n2,?_⟩⟩;rcases l with⟨k,_⟩|⟨_,c,hc,o,ho,hd⟩
    ·have k':X.env.kindOf x=some .local:=k;rcases hfr' with z|z
     ·have z':X.env.kindOf x=some .cell:=z;rw[k']at z';cases z'
     ·have z':X.env.kindOf x=some .free:=z;rw[k']at z';cases z'
    ·exact⟨c,JD S n2 hc,o,keep c o ho,hd⟩
 ·rcases zu ow h with⟨_,_,g,_⟩|g
  ·exact⟨none,g⟩
  ·obtain⟨v,o,ho,hd⟩:=I.cell x c g;exact⟨v,o,keep c o ho,hd⟩
 ·show upd H₂ s₂.heap.objs.size (.lst []) C=none;rw[qG (Nat.ne_of_gt hC)];exact I.hok.fresh (vN hC)
 ·rcases zu ow h with⟨_,_,_,g⟩|g
  ·rw[qG (Nat.ne_of_gt (wx hC g))];exact I.hok.fresh (vN (wx hC g))
  ·rw[qG (wZ (lt x c g))];exact I.freeC x c g
 ·show (inner src σ).length=N.length;unfold inner;rw[wW,S.len]
theorem D6(I:Inv X pins σ H₂ s₂)(f2:∀b∈fp,Zx X pins H₂ b){C:Addr}{pins':List (Addr×Obj)}{σ':St}{H':Hp}{s':Shared}{h':Heap}(hC:s₂.heap.objs.size<=C)(J:Inv (cxComp X scope C fp s₂ H₂ N) pins' σ' H' s')
  (kp:∀b o,b≠C->s'.heap.get? b=some o->h'.get? b=some o):Inv X pins σ H' { s' with heap:=h' }:=by
 have neC:∀b o,s₂.heap.get? b=some o->b≠C:=λb o e=>wZ (wG (Heap.lt_size e) hC);have B:=J.base;refine I.call' (s':={ s' with heap:=h' }) (ch:=fp) J.os ⟨λb o e n hb hx=>kp b o (neC b o e) (B.keep b o e n hb hx),λb o e n hb hx=>?_,B.free,λb o e hx=>?_,B.tups,B.frzs,B.tbls⟩ (λa o e=>?_) J.bare λb hb=>⟨(f2 b hb).2.2.2.1,(f2 b hb).2.1,(f2 b hb).2.2.2.2⟩
 ·obtain⟨sl,q⟩:=B.slot b o e n hb hx;exact⟨sl,kp b _ (neC b o e) q⟩
 ·obtain⟨o',q⟩:=B.there b o e hx;exact⟨o',kp b o' (neC b o e) q⟩
 ·have nC:H' C=none:=J.free;have ne:∀b u,H' b=some u->b≠C:=λb u q z=>by rw[z,nC]at q;cases q
  refine(J.hok a o e).stay (λc v hc q=>kp c v ?_ q) (λ_ q=>q) λ_ _ q=>q;rcases hc with z|z
  ·rw[z];exact ne a o e
  ·exact ne c _ z
end
def PTs(X:Cx)(ifs:List Expr)(t:TT):Prop:=
 ∀(pins:List (Addr×Obj)) (s:Shared) (σ:St) (H:Hp) (Q:Bool->Hp->Prop),Inv X pins σ H s->t σ H Q ->
  wpAny (model X.prog X.w) X.A (forIn ifs true λc r=>if r=true then do let ok <- isTrue c X.env (eval c X.env);pure (ForInStep.yield ok) else pure (ForInStep.yield r)) (TP X pins σ Q) X.xe s
theorem pts_nil{X:Cx}:PTs X [] (λ_ H Q=>Q true H):=λpins s σ H Q I h=>vz ⟨H,I,h⟩
theorem pts_one{X:Cx}{c:Expr}{t:TT}(hc:PT X c t):PTs X [c] t:=by
 intro pins s σ H Q I h;rw[List.forIn_cons];simp only[if_true];refine vy (vy (thn (hc pins s σ H Q I h) λb s1 q=>?_));exact vz (vz q)
noncomputable def tComp(wi:TI)(src:List (Option Nat))(g:TG)(tc:TT)(te:TE):TE:=λσ H Q=>wi σ H λJ H1=>∀D,H1 D=none ->
 ∃W:Nat->Nat->List V->St->Hp->Prop,(∃m,W 0 m [] (inner src σ) (upd H1 D (.lst [])))/\∀i m ys σ' H',W i m ys σ' H'->H' D=some (.lst ys) ->
  (J.stop i H'/\Q (.ref D) H')\/
  (J.go i H'/\∀x H2,J.yld i H' x H2->g x σ' H2 λσ3 H3=>tc σ3 H3 λb H4=>
   if b=true then te σ3 H4 λy H5=>H5 D=some (.lst ys)/\ys.length<sizeLine/\∃m',m'<m/\W (i+1) m' (ys++[y]) σ3 (upd H5 D (.lst (ys++[y])))
   else H4 D=some (.lst ys)/\∃m',m'<m/\W (i+1) m' ys σ3 H4)
section
variable{X:Cx}{pins:List (Addr×Obj)}{σ:St}{H₂:Hp}{s₂:Shared}{scope:Scope}{N:List Str}{src:List (Option Nat)}
theorem J7{M:Model}{A:Around}{E:Value->Shared->Prop}{s:Shared}{scope:Scope}{globals:Addr}{cl:List (Str×Addr)}{qual:Str}{env:Env}{Q:Env->Shared->Prop}
  (h:Q (newEnv scope s.heap.objs.size globals (cellsFrom (s.heap.objs.size+1) scope.names cl) qual none .none (some env) builtinsNs) { s with heap:=pushCells (s.heap.push { cls:=.type "dict",data:=.dict #[] }) scope.names }):
  wpAny M A (newFunctionEnv scope globals cl [] qual none .none (some env)) Q E s:=by
 simp only[newFunctionEnv,Option.isSome_some,if_true];refine vy (wpAny_alloc ?_);refine vy (wpAny_layCells _ (λname kind cells=>by cases hkc:kind==NameKind.cell<;>simp[hkc]) _ _ _ _ ?_);rw[show ({ s with heap:=s.heap.push { cls:=.type "dict",data:=.dict #[] } }:Shared).heap.objs.size=s.heap.objs.size+1 from Heap.size_push ..];refine vy ?_;rw[List.forIn_nil];exact vz (vz h)
theorem N7{elt tg iter:Expr}{ifs:List Expr}{pos:Pos}{g:TG}{tc:TT}{te:TE}{it:Addr}{fp:List Addr}{tn:Nat->Heap->Prop}{J:It}{Q:VK}{E:Value->Shared->Prop}{RR:Value->Addr->Result->Shared->Prop}
  (hc:X.calm=true) (S:CompScope X scope N src) (I2:Inv X pins σ H₂ s₂) (T:A7 X.prog X.w X.K tg J fp it tn) (st2:tn 0 s₂.heap) (f2:∀b∈fp,Zx X pins H₂ b)
  (hg:∀C fp s H,PG (cxComp X scope C fp s H N) tg g) (ht:∀C fp s H,PTs (cxComp X scope C fp s H N) ifs tc) (he:∀C fp s H,PE (cxComp X scope C fp s H N) elt te)
  (h:∀D,H₂ D=none->∃W:Nat->Nat->List V->St->Hp->Prop,(∃m,W 0 m [] (inner src σ) (upd H₂ D (.lst [])))/\∀i m ys σ' H',W i m ys σ' H'->H' D=some (.lst ys) ->
   (J.stop i H'/\Q (.ref D) H')\/
   (J.go i H'/\∀x H2,J.yld i H' x H2->g x σ' H2 λσ3 H3=>tc σ3 H3 λb H4=>
    if b=true then te σ3 H4 λy H5=>H5 D=some (.lst ys)/\ys.length<sizeLine/\∃m',m'<m/\W (i+1) m' (ys++[y]) σ3 (upd H5 D (.lst (ys++[y])))
    else H4 D=some (.lst ys)/\∃m',m'<m/\W (i+1) m' ys σ3 H4))
  (hRR:∀(D C:Addr) (σ':St) (H':Hp) (s':Shared),s₂.heap.objs.size<=C->Inv (cxComp X scope C fp s₂ H₂ N) [] σ' H' s'->Q (.ref D) H'->RR (.ref D) C (.ok .next) s'):
  wpAny (model X.prog X.w) X.A (newList []) (λacc s₃=>wpAny (model X.prog X.w) X.A (newFunctionEnv scope X.env.globals (U8 X.env.cells scope.names []) [] X.env.qual none .none (some X.env)) (λcenv s₄=>
   codeAny (model X.prog X.w) X.A (.compStart (.ListComp elt [⟨tg,iter,ifs,0⟩] scope pos) 0 (.ref it) acc { cenv with scope:=relabel scope X.env }) (RR acc cenv.locals) s₄) E s₃) E s₂:=by
 refine wpAny_newObj_type (J7 ?_);dsimp only;generalize hH2:s₂.heap.push { cls:=.type "list",dict:=none,data:=.seq ([]:List Value).toArray }=P2;have hC:P2.objs.size=s₂.heap.objs.size+1:=by rw[<-hH2,Heap.size_push]
 have ow:=cellsFrom_ok scope.names (P2.push { cls:=.type "dict",data:=.dict #[] }) (P2.objs.size+1) [] ⟨λ_ _ hm=>(nomatch hm),List.Pairwise.nil⟩ (by rw[Heap.size_push];exact wF _);rw[Heap.size_push]at ow;generalize hh1:pushCells (P2.push { cls:=.type "dict",data:=.dict #[] }) scope.names=h₁ at ow ⊢;have kp:∀b o,P2.get? b=some o->h₁.get? b=some o:=λb o e=>hh1 ▸ pushCells_keeps _ _ b o (Heap.get?_push_of_some _ e);have hns₁:h₁.Ns P2.objs.size (λ_=>none):=hh1 ▸ (Heap.Ns.new P2 (.type "dict")).keeps (pushCells_keeps _ _);have old:∀b o,s₂.heap.get? b=some o->h₁.get? b=some o:=λb o e=>kp b o (hH2 ▸ Heap.get?_push_of_some _ e);have hacc:h₁.get? s₂.heap.objs.size=some { cls:=.type "list",data:=.seq #[] }:=kp _ _ (hH2 ▸ Heap.get?_push_size _ rfl);have st1:tn 0 h₁:=T.keep _ _ _ st2 λb _ o e=>old b o e;have ob:=T.obj _ _ st2;have lt:s₂.heap.objs.size<P2.objs.size:=by rw[hC];exact vb _
 have I3:=Jz (tk:=s₂.toks) S I2 f2 ob lt old hacc hns₁ ow;obtain⟨W,⟨m0,w0⟩,step⟩:=h s₂.heap.objs.size I2.fresh;have fpn:∀b∈fp,b≠s₂.heap.objs.size:=λb hb=>by
  obtain⟨o,e,_⟩:=ob b hb;exact wZ (Heap.lt_size e)
 have fok:∀{pins':List (Addr×Obj)}{H':Hp},(∀b∈fp,H' b=none)->(∀p∈pins',p.1∉fp)->∀b∈fp,Zx (cxComp X scope P2.objs.size fp s₂ H₂ N) pins' H' b:=λ{pins' H'} hn hp b hb=>by
  have okc:=I3.ok;exact⟨hn b hb,(okc.exf b hb).1,okc.exfs b hb,.inl hb,(okc.exf b hb).2,λp hp' z=>hp p (by simpa [cxComp] using hp') (z ▸ hb)⟩
 have loop:∀s₃:Shared,s₃={ s₂ with heap:=h₁,toks:=s₂.toks } ->
   codeAny (model X.prog X.w) X.A (.compLoop (.ListComp elt [⟨tg,iter,ifs,0⟩] scope pos) 0 (.ref it) (.ref s₂.heap.objs.size) (compEnvC scope (ju X scope P2.objs.size) P2.objs.size X.env))
    (RR (.ref s₂.heap.objs.size) P2.objs.size) s₃:=by
  rintro s₃ rfl;refine codeAny_loop rfl (λn s'=>∃i ys σ' H',Inv (cxComp X scope P2.objs.size fp s₂ H₂ N) [] σ' H' s'/\tn i s'.heap/\(∀b∈fp,H' b=none)/\H' s₂.heap.objs.size=some (.lst ys)/\W i n ys σ' H') (λn s' hI=>?_) m0
   ⟨0,[],inner src σ,_,I3,st1,λb hb=>by rw[qG (fpn b hb)];exact(f2 b hb).1,qI,w0⟩
  obtain⟨i,ys,σ3,H3,J3,st3,fr3,hD3,w3⟩:=hI;show wpAny _ X.A ((compTurn (.ListComp elt [⟨tg,iter,ifs,0⟩] scope pos) 0 (.ref it) (.ref s₂.heap.objs.size) _).onRaise (λx=>do noteFrame x _;theTreesLotGoes x)) _ _ s';refine wpAny_noted ?_;rw[compTurn_list];have never:∀{α:Type}{t:Sem α}{Q1:α->Shared->Prop}{E1:Value->Shared->Prop}{s1:Shared},wpAny (model X.prog X.w) X.A t Q1 (λ_ _=>False) s1->wpAny (model X.prog X.w) X.A t Q1 E1 s1:=λh=>wpAny_mono h (λ_ _ q=>q) λ_ _ f=>f.elim;refine vy (wpAny_standAt (vy ?_));rcases step i n ys σ3 H3 w3 hD3 with⟨stop,qn⟩|⟨go,qBf⟩
  ·refine never (thn (T.done (cxComp X scope P2.objs.size fp s₂ H₂ N) rfl rfl rfl hc i [] s' σ3 H3 _ J3 (fok fr3 (by simp)) st3 stop) λr s4 ⟨hr,I4⟩=>?_);subst hr;exact vz (hRR _ _ σ3 H3 s4 (vN lt) I4 qn)
  ·refine never (thn (T.item (cxComp X scope P2.objs.size fp s₂ H₂ N) rfl rfl rfl hc i [] s' σ3 H3 _ J3 (fok fr3 (by simp)) st3 go) λr s4 ⟨u,hr,h4⟩=>?_);subst hr;refine vy (never (thn h4 λ_ s5 ⟨x,H5,I5,r5,y5,st5,fr5⟩=>?_));have I5':=I5.pinned (fok fr5 (by simp)) (T.obj _ _ st5);have kept:∀{σ7:St}{H7:Hp}{s7:Shared},Inv (cxComp X scope P2.objs.size fp s₂ H₂ N) ([]++B4 fp s5.heap) σ7 H7 s7->Inv (cxComp X scope P2.objs.size fp s₂ H₂ N) [] σ7 H7 s7/\tn (i+1) s7.heap/\∀b∈fp,H7 b=none:=λ{σ7 H7 s7} I7=>by
    refine⟨I7.unpinned,T.keep _ _ _ st5 λb hb o e=>(I7.pin (b,o) (wT _ (wT _ (QI hb e)))).1,λb hb=>?_⟩;obtain⟨o,e,d⟩:=T.obj _ _ st5 b hb;exact(I7.pin (b,o) (wT _ (wT _ (QI hb e)))).2.1
   refine vy (never (thn (hg _ _ _ _ _ s5 σ3 H5 x u _ I5' r5 (qBf x H5 y5)) λ_ s6 ⟨σ6,H6,I6,q6⟩=>?_));refine vy (never (thn (ht _ _ _ _ _ s6 σ6 H6 _ I6 q6) λb s7 ⟨H7,I7,q7⟩=>?_));cases b with
   |false=>
    rw[if_neg (by decide)]at q7;obtain⟨hD7,m',hm,w7⟩:=q7;obtain⟨I7',st7,fr7⟩:=kept I7;exact vz ⟨rfl,m',hm,i+1,ys,σ6,H7,I7',st7,fr7,hD7,w7⟩
   |true=>
    rw[if_pos rfl]at q7;refine vy (vy (never (thn (he _ _ _ _ _ s7 σ6 H7 _ I7 q7) λyv s8 ⟨y,H8,I8,r8,hD8,hz,m',hm,w8⟩=>?_)));refine vy (never (thn (mt_append (X:=cxComp X scope P2.objs.size fp s₂ H₂ N) _ s8 σ6 H8 (.ref s₂.heap.objs.size) [y] _ [yv] (λv H'=>v=.non/\H'=upd H8 s₂.heap.objs.size (.lst (ys++[y]))) I8 rfl (.cons r8 .nil) ⟨_,ys,y,rfl,rfl,hD8,hz,rfl,rfl⟩) λ_ s9 ⟨v9,H9,I9,_,_,e9⟩=>?_));subst e9;obtain⟨I9',st9,fr9⟩:=kept I9;exact vz (vz ⟨rfl,m',hm,i+1,_,σ6,_,I9',st9,fr9,qI,w8⟩)
 exact codeAny_compStart_list (loop _ rfl) (T.self _ 0 _ _ _ st1 (loop _ rfl))
end
section
variable{X:Cx}{scope:Scope}{N:List Str}{src:List (Option Nat)}{elt tg iter:Expr}{ifs:List Expr}{pos:Pos}{wi:TI}{g:TG}{tc:TT}{te:TE}
theorem pe_comp(hc:X.calm=true)(hi:_P X tg iter wi)(S:CompScope X scope N src)
  (hg:∀C fp s H,PG (cxComp X scope C fp s H N) tg g) (ht:∀C fp s H,PTs (cxComp X scope C fp s H N) ifs tc) (he:∀C fp s H,PE (cxComp X scope C fp s H N) elt te)
  (hs:∀x,foldedSetIterable iter X.env x=pure x:=by intro _;rfl):PE X (.ListComp elt [⟨tg,iter,ifs,0⟩] scope pos) (tComp wi src g tc te):=by
 intro pins s σ H Q I h;rw[eval_ListComp];refine wpAny_comprehension_free (use:=none) rfl hs (ji (S.cells I.ok)) S.kind S.names (thn (hi pins s σ H _ I h) λv s1 h1=>thn h1 λitv s2 h2=>?_);obtain⟨it,fp,tn,J,H2,rfl,I2,T,st2,f2,hW⟩:=h2;refine N7 (Q:=Q) (RR:=λacc C=>compPost (model X.prog X.w) X.A X.xe none (EP X pins σ Q) acc C) hc S I2 T st2 f2 hg ht he hW ?_;intro D C σ' H' s' hC J q;obtain⟨m,hn,_⟩:=id J.loc;exact⟨m,hn,λh' hs'=>⟨.ref D,H',D6 I2 f2 hC J (λb o hb e=>hs'.extBut b o hb e),rfl,q⟩⟩
theorem ps_setcomp{i:Nat}{x:Str}{pos' spos:Pos}(hc:X.calm=true)(hi:_P X tg iter wi)(S:CompScope X scope N src)
  (hg:∀C fp s H,PG (cxComp X scope C fp s H N) tg g) (ht:∀C fp s H,PTs (cxComp X scope C fp s H N) ifs tc) (he:∀C fp s H,PE (cxComp X scope C fp s H N) elt te)
  (hsw:swapsWith (.ListComp elt [⟨tg,iter,ifs,0⟩] scope pos) (some (.Name x pos')) spos.line X.env=pure true)
  (hN:X.N.Nodup) (hx:X.N[i]?=some x) (hl:X.env.scope.names.lookup x=some .local)
  (hs:∀x,foldedSetIterable iter X.env x=pure x:=by intro _;rfl):PS X (.Assign [.Name x pos'] (.ListComp elt [⟨tg,iter,ifs,0⟩] scope pos) spos) (tAsg (tComp wi src g tc te) (qEJ i)):=by
 intro pins s σ H D I h;rw[exec_Assign_Name_used _ _ _ _ hsw];refine vy (wpAny_standAt (vy ?_));show wpAny _ X.A (do let _ <- comprehension (.ListComp elt [⟨tg,iter,ifs,0⟩] scope pos) scope X.env _ (newList []) false (eval iter X.env) (some (assign (.Name x pos') X.env))) _ _ s;refine vy (wpAny_mono (wpAny_comprehension_free (use:=some (assign (.Name x pos') X.env)) (Q:=λ_ s'=>SP X pins D .next s') rfl hs (ji (S.cells I.ok)) S.kind S.names
  (thn (hi pins s σ H _ I h) λv s1 h1=>thn h1 λitv s2 h2=>?_)) (λ_ s' hq=>vz (vz hq)) λ_ _ e=>e)
 obtain⟨it,fp,tn,J,H2,rfl,I2,T,st2,f2,hW⟩:=h2;refine N7 (Q:=λv H'=>D.nx (σ.set i (some v)) H') (RR:=λacc C=>compPost (model X.prog X.w) X.A X.xe (some (assign (.Name x pos') X.env)) (λ_ s'=>SP X pins D .next s') acc C) hc S I2 T st2 f2 hg ht he hW ?_;intro L C σ' H' s' hC J q;obtain⟨m,hn,_⟩:=id J.loc;have I3:Inv X pins σ H' s':=D6 (h':=s'.heap) I2 f2 hC J (λb o hb e=>e);show wpAny _ X.A (assign (.Name x pos') X.env (.ref L)) _ _ _;have nL:X.env.locals≠C:=wZ (wG I2.lt hC);refine wpAny_assign_Name (B6 I3 hN hx (.inl hl) (show RelV (.ref L) (.ref L) from rfl) (λs4 I4 hsb=>?_) (.inr hl));obtain⟨a,sb,ha⟩:=hsb;have ha':a≠C:=by
  rcases ha with z|z
  ·rw[z];exact nL
  ·obtain⟨v,hv⟩:=I2.cell x a z;exact wZ (wG hv.lt hC)
 refine⟨m,hn.sameBut sb (Ne.symm ha'),λh5 sb5=>?_⟩;have I5:Inv X pins (σ.set i (some (V.ref L))) H' { s4 with heap:=h5,toks:=s4.toks }:=I4.turned (it:=C) (λb o hb e=>sb5.extBut b o hb e) J.free (Ne.symm nL) (.inr (wL I2.sz hC)) (λy c e z=>by
   obtain⟨v,hv⟩:=I2.cell y c e;exact absurd (wG hv.lt (by rw[z];exact hC)) (we _)) λp hp z=>absurd (wG (Heap.lt_size (I2.pin p hp).1) (by rw[z];exact hC)) (we _)
 exact⟨_,H',I5,q⟩
end
end _L
namespace _P
open _L (V Key)
open PySem (Str)
inductive BOp|add|sub|mul|fdiv|mod|pow|band|shr|bxor
 deriving DecidableEq
inductive COp|lt|le|gt|ge|eq|ne|inn|notin|is|isnot
 deriving DecidableEq
inductive BF|len|sum|all|any|max|min|abs|list|int|sorted|bits|maxl
 deriving DecidableEq
inductive Mt|cnt
 deriving DecidableEq
inductive Tg|name(i:Nat)|tup(is:List Nat)
 deriving DecidableEq
set_option genInjectivity false
mutual
inductive E
 |var (i:Nat)|cst (v:V)|glob (g:Nat)
 |bin (op:BOp) (a b:E)|neg (a:E)
 |cmp (op:COp) (a b:E)|cmp2 (o1 o2:COp) (a b c:E)|cmp3 (o1 o2 o3:COp) (a b c d:E)
 |and (a b:E)|or (a b:E)|not (a:E)
 |call (f:Nat) (as:Es)|blt (f:BF) (as:Es)|isi (a:E) (ts:List String)
 |idx (a b:E)|sl (a:E) (lo hi:Es)|rev (a:E)  | lst (as:Es)|tup (as:Es)
 |comp (it:Itr) (src:List (Option Nat)) (g:Tg) (c:Es) (e:E)
 |app (a b:E)|lrng (a:E)|dnew|meth (m:Mt) (a:E) (as:Es)
inductive Es|nil|cons(a:E)(as:Es)
inductive Itr|list(a:E)|rng1(a:E)|rng2(a b:E)|zip(a b:E)|enum(a:E)  | rng3(a b:E)
end
mutual
inductive S
 |asg (g:Tg) (e:E)  | put (o i v:E)
 |expr (e:E)|ret (e:E)  | ifs (c:E) (t u:Ss)
 |for_ (g:Tg) (it:Itr) (b:Ss)|while_ (c:E) (b:Ss)    | stop
inductive Ss|nil|cons(s:S)(r:Ss)
end
set_option genInjectivity true
noncomputable def Es.snoc:Es->E->Es
 | .nil,e=>.cons e .nil
 | .cons a as,e=>.cons a (Es.snoc as e)
inductive Ob|dct(kvs:List (Int×V))|exn(c:Str)
 deriving DecidableEq
inductive O|lst(fz:Bool)(xs:List V)|tup(xs:List V)|ob(o:Ob)
 deriving DecidableEq
noncomputable abbrev AH:=List O
noncomputable abbrev St:=List (Option V)
inductive Res(α:Type)|ok(a:α)|exc(c:Nat)(h:AH)|stuck
noncomputable def Res.bind{α β:Type}:Res α->(α->Res β)->Res β
 | .ok a,f=>f a
 | .exc c h,_=>.exc c h
 | .stuck,_=>.stuck
noncomputable def Res.nx{α:Type}:Res α->Res α
 | .ok a=>.ok a
 | .exc _ _=>.stuck
 | .stuck=>.stuck
@[simp] theorem tF{α β:Type}(a:α)(f:α->Res β):(Res.ok a).bind f=f a:=rfl
noncomputable abbrev RV:=Res (V×AH)
noncomputable def items(h:AH)(a:Nat):Option (List V):=match h[a]? with
 |some (.lst _ xs)=>some xs
 |some (.tup xs)=>some xs
 |_=>none
noncomputable def qK(h:AH)(a:Nat):Option (List V):=match h[a]? with
 |some (.lst _ xs)=>some xs
 |_=>none
noncomputable def qt(h:AH)(a:Nat):Option (List V):=match h[a]? with
 |some (.tup xs)=>some xs
 |_=>none
noncomputable def B3(h:AH)(a:Nat):Option (List (Int×V)):=match h[a]? with
 |some (.ob (.dct kvs))=>some kvs
 |_=>none
noncomputable def qC0(kvs:List (Int×V))(k:Int):Bool:=kvs.any λp=>decide (p.1=k)
noncomputable def qFr(kvs:List (Int×V))(k:Int)(v:V):List (Int×V):=if qC0 kvs k=true then kvs.map (λp=>if p.1=k then (p.1,v) else p) else kvs++[(k,v)]
noncomputable def qDe(h:AH)(a:Nat):Option Str:=match h[a]? with
 |some (.ob (.exn c))=>some c
 |_=>none
noncomputable def zm(h:AH)(a:Nat):Option (List V):=match h[a]? with
 |some (.lst false xs)=>some xs
 |_=>none
noncomputable def lim:Nat:=100000
noncomputable def newL(xs:List V)(h:AH):RV:=.ok (.ref h.length,h++[.lst false xs])
noncomputable def newT(xs:List V)(h:AH):RV:=.ok (.ref h.length,h++[.tup xs])
noncomputable def flat:V->Bool
 | .non=>true | .bl _=>true | .int _=>true | .str _=>true|_=>false
noncomputable def eqF:V->V->Option Bool
 | .int i,.int j=>some (i==j)
 | .bl i,.bl j=>some (i==j)
 | .str i,.str j=>some (i==j)
 | .non,.non=>some true
 | .int i,.bl b=>some (i==(if b then 1 else 0))
 | .bl b,.int i=>some ((if b then 1 else 0)==i)
 | .non,.int _=>some false | .int _,.non=>some false
 | .non,.bl _=>some false | .bl _,.non=>some false
 | .non,.str _=>some false | .str _,.non=>some false
 | .int _,.str _=>some false | .str _,.int _=>some false
 | .bl _,.str _=>some false | .str _,.bl _=>some false
 |_,_=>none
noncomputable def Zy(f:V->V->Option Bool):List V->List V->Option (List Bool)
 | [],[]=>some []
 |x::xs,y::ys=>match f x y,Zy f xs ys with
  |some b,some bs=>some (b::bs)
  |_,_=>none
 |_,_=>none
noncomputable def eqD(h:AH):Nat->V->V->Option Bool
 | 0,x,y=>eqF x y
 |n+1,.ref a,.ref b=>match h[a]?,h[b]? with
  |some (.lst _ xs),some (.lst _ ys)=>if a=b then some true else if xs.length=ys.length then (Zy (eqD h n) xs ys).map λbs=>bs.all id else some false
  |some (.tup xs),some (.tup ys)=>if a=b then some true else if xs.length=ys.length then (Zy (eqD h n) xs ys).map λbs=>bs.all id else (Zy (eqD h n) (xs.take ys.length) (ys.take xs.length)).map λ_=>false
  |some (.lst _ _),some (.tup _)=>some false
  |some (.tup _),some (.lst _ _)=>some false
  |_,_=>none
 |_+1,.ref a,y=>if (items h a).isSome&&flat y then some false else none
 |_+1,x,.ref b=>if flat x&&(items h b).isSome then some false else none
 |_+1,x,y=>eqF x y
noncomputable abbrev ixN(n:Nat)(i:Int):Option Nat:=_L.ixN n i
noncomputable abbrev cut(xs:List V)(lo hi:Option Int):List V:=_L.cutV xs lo hi
noncomputable def two64:Int:=18446744073709551616
noncomputable def small(i:Int):Bool:=decide (-two64<i/\i<two64)
noncomputable def mid(i:Int):Bool:=decide (i.natAbs.log2<9000)
noncomputable def J5(x y:V)(f:Int->Int->RV):RV:=match x with
 | .int i=>(match y with | .int j=>f i j|_=>.stuck)
 |_=>.stuck
theorem za{x y:V}{f:Int->Int->RV}{r:V×AH}(e:J5 x y f=.ok r):∃i j,x=.int i/\y=.int j/\f i j=.ok r:=by
 unfold J5 at e;split at e
 ·split at e
  ·exact⟨_,_,rfl,rfl,e⟩
  ·cases e
 ·cases e
noncomputable def X0(x:V)(f:Nat->RV):RV:=match x with
 | .ref a=>f a
 |_=>.stuck
theorem zv{x:V}{f:Nat->RV}{r:V×AH}(e:X0 x f=.ok r):∃a,x=.ref a/\f a=.ok r:=by
 unfold X0 at e;split at e
 ·exact⟨_,rfl,e⟩
 ·cases e
noncomputable def v5:BOp->V->V->AH->RV
 | .add,x,y,h=>(match x with
  | .ref a=>X0 y λb=>(match zm h a,zm h b with
   |some xs,some ys=>if xs.length+ys.length<=lim then newL (xs++ys) h else .stuck
   |_,_=>(match qt h a,qt h b with
    |some xs,some ys=>if xs≠[]/\xs.length+ys.length<=lim then (if ys=[] then .ok (.ref a,h) else newT (xs++ys) h) else .stuck
    |_,_=>.stuck))
  |x=>J5 x y λi j=>.ok (.int (i+j),h))
 | .sub,x,y,h=>J5 x y λi j=>.ok (.int (i-j),h)
 | .mul,x,y,h=>(match x with
  | .ref a=>(match y with
   | .int k=>(match zm h a with
    |some xs=>if 0<=k/\xs.length*k.toNat<=lim/\k<1000000 then newL (List.replicate k.toNat xs).flatten h else .stuck
    |none=>.stuck)
   |_=>.stuck)
  |x=>J5 x y λi j=>if small i||small j||(mid i&&mid j) then .ok (.int (i*j),h) else .stuck)
 | .fdiv,x,y,h=>J5 x y λi j=>if 0<j/\(j<1073741824\/mid j=true) then .ok (.int (i / j),h) else if j<0/\mid j=true then .ok (.int (i.fdiv j),h) else .stuck
 | .mod,x,y,h=>J5 x y λi j=>if 0<j then .ok (.int (i % j),h) else if j<0 then .ok (.int (i.fmod j),h) else .stuck
 | .pow,x,y,h=>J5 x y λi j=>if 0<=j/\j<=1000/\i.natAbs<18446744073709551616 then .ok (.int (i ^ j.toNat),h) else .stuck
 | .band,x,y,h=>J5 x y λi j=>.ok (.int (PySem.Builtin.bitAnd i j),h)
 | .shr,x,y,h=>J5 x y λi j=>if 0<=j/\j<=1000 then .ok (.int (i / 2 ^ j.toNat),h) else .stuck
 | .bxor,x,y,h=>J5 x y λi j=>.ok (.int (PySem.Builtin.bitXor i j),h)
noncomputable def qC3(x y:V)(f:Int->Int->Bool):Option Bool:=match x with
 | .int i=>(match y with | .int j=>some (f i j)|_=>none)
 |_=>none
theorem ZT{x y:V}{f:Int->Int->Bool}{r:Bool}(e:qC3 x y f=some r):∃i j,x=.int i/\y=.int j/\f i j=r:=by
 unfold qC3 at e;split at e
 ·split at e
  ·exact⟨_,_,rfl,rfl,Option.some.inj e⟩
  ·cases e
 ·cases e
noncomputable def qA2(y:V)(f:Nat->Option Bool):Option Bool:=match y with
 | .ref a=>f a
 |_=>none
theorem P3{y:V}{f:Nat->Option Bool}{r:Bool}(e:qA2 y f=some r):∃a,y=.ref a/\f a=some r:=by
 unfold qA2 at e;split at e
 ·exact⟨_,rfl,e⟩
 ·cases e
noncomputable def isC(x y:V)(f:Bool->Bool):Option Bool:=match y with
 | .non=>some (f (decide (x=.non)))
 | .bl d=>(match x with | .bl c=>some (f (c==d))|_=>none)
 |_=>none
theorem Y4{x y:V}{f:Bool->Bool}{r:Bool}(e:isC x y f=some r):(y=.non/\f (decide (x=.non))=r)\/∃c d,x=.bl c/\y=.bl d/\f (c==d)=r:=by
 unfold isC at e;split at e
 ·exact .inl ⟨rfl,Option.some.inj e⟩
 ·split at e
  ·exact .inr ⟨_,_,rfl,rfl,Option.some.inj e⟩
  ·cases e
 ·cases e
noncomputable def U9:COp->V->V->AH->Option Bool
 | .lt,x,y,_=>qC3 x y λi j=>decide (i<j)
 | .le,x,y,_=>qC3 x y λi j=>decide (i<=j)
 | .gt,x,y,_=>qC3 x y λi j=>decide (j<i)
 | .ge,x,y,_=>qC3 x y λi j=>decide (j<=i)
 | .eq,x,y,h=>eqD h 4 x y
 | .ne,x,y,h=>(eqD h 4 x y).map (!·)
 | .inn,x,y,h=>qA2 y λa=>(match items h a with
  |some xs=>if flat x&&xs.all flat then some (xs.any λy=>_L.eqV y x) else none
  |none=>match B3 h a with
   |some kvs=>(match x with | .int i=>some (qC0 kvs i)|_=>none)
   |none=>none)
 | .notin,x,y,h=>qA2 y λa=>(match items h a with
  |some xs=>if flat x&&xs.all flat then some (!(xs.any λy=>_L.eqV y x)) else none
  |none=>match B3 h a with
   |some kvs=>(match x with | .int i=>some (!qC0 kvs i)|_=>none)
   |none=>none)
 | .is,x,y,_=>isC x y id
 | .isnot,x,y,_=>isC x y (!·)
noncomputable def qAT(op:COp)(x y:V)(h:AH):RV:=match U9 op x y h with
 |some b=>.ok (.bl b,h)
 |none=>.stuck
noncomputable def jk:List V->Option (List Int)
 | []=>some []
 | .int i::r=>(jk r).map (i::·)
 |_::_=>none
noncomputable def QQ:List V->Option (List Bool)
 | []=>some []
 | .bl b::r=>(QQ r).map (b::·)
 |_::_=>none
noncomputable def jq:List V->Option (List Int)
 | []=>some []
 | .int i::r=>(jq r).map (i::·)
 | .bl b::r=>(jq r).map ((if b=true then 1 else 0)::·)
 |_::_=>none
noncomputable def QM(lo:Int)(n:Nat):List V:=(List.range n).map λ(i:Nat)=>V.int (lo+(i:Int))
noncomputable def ins(x:Int):List Int->List Int
 | []=>[x]
 |y::r=>if x<=y then x::y::r else y::ins x r
noncomputable def Zt:List Int->List Int
 | []=>[]
 |x::r=>ins x (Zt r)
theorem A4(x:Int):∀l,(ins x l).Perm (x::l)
 | []=>.refl _
 |y::r=>by
  unfold ins;split
  ·exact .refl _
  ·exact((A4 x r).cons y).trans (.swap x y r)
theorem QH:∀l,(Zt l).Perm l
 | []=>.refl _
 |x::r=>(A4 x _).trans ((QH r).cons x)
theorem qAs(x:Int):∀l:List Int,l.Pairwise (·<=·)->(ins x l).Pairwise (·<=·)
 | [],_=>List.pairwise_singleton _ _
 |y::r,h=>by
  obtain⟨h1,h2⟩:=wv.mp h;unfold ins;split
  ·rename_i q;refine wv.mpr ⟨λz hz=>?_,h⟩;rcases wP.mp hz with rfl|hz
   ·exact q
   ·exact Int.le_trans q (h1 z hz)
  ·rename_i q;refine wv.mpr ⟨λz hz=>?_,qAs x r h2⟩;rcases wP.mp ((A4 x r).mem_iff.mp hz) with rfl|hz
   ·omega
   ·exact h1 z hz
theorem Jx:∀l:List Int,(Zt l).Pairwise (·<=·)
 | []=>.nil
 |x::r=>qAs x _ (Jx r)
theorem P7:∀{a b:List Int},a.Pairwise (·<=·)->b.Pairwise (·<=·)->a.Perm b->a=b
 | [],b,_,_,p=>(List.Perm.eq_nil p.symm).symm
 |x::a,[],_,_,p=>absurd p.length_eq (by simp)
 |x::a,y::b,ha,hb,p=>by
  obtain⟨a1,a2⟩:=wv.mp ha;obtain⟨b1,b2⟩:=wv.mp hb;have e:x=y:=by
   have m1:x∈y::b:=p.mem_iff.mp (wK ..);have m2:y∈x::a:=p.mem_iff.mpr (wK ..);rcases wP.mp m1 with h|h
   ·exact h
   ·rcases wP.mp m2 with h' | h'
    ·exact h'.symm
    ·have:=a1 y h';have:=b1 x h;omega
  subst e;rw[P7 a2 b2 (List.Perm.cons_inv p)]
noncomputable def qB1:List Int->Option Int
 | []=>none
 |x::r=>match qB1 r with|some y=>some (if x<=y then y else x)|none=>some x
theorem W0:∀{l:List Int}{k:Int},qB1 l=some k->k∈l/\∀a∈l,a<=k
 | [],k,e=>by cases e
 |x::r,k,e=>by
  unfold qB1 at e;split at e
  ·rename_i y ey;obtain⟨h1,h2⟩:=W0 ey;cases e;split
   ·rename_i q;exact⟨wI _ h1,λa ha=>by rcases wP.mp ha with rfl|ha;exact q;exact h2 a ha⟩
   ·rename_i q;exact⟨wK ..,λa ha=>by rcases wP.mp ha with rfl|ha;exact Int.le_refl _;have:=h2 a ha;omega⟩
  ·rename_i ey;cases e;cases r with
   |nil=>exact⟨wK ..,λa ha=>by rw[wY.mp ha];exact Int.le_refl _⟩
   |cons z r=>unfold qB1 at ey;split at ey<;>cases ey
noncomputable def one(as:List V)(f:V->RV):RV:=match as with
 | [a]=>f a
 |_=>.stuck
theorem jP{as:List V}{f:V->RV}{r:V×AH}(e:one as f=.ok r):∃a,as=[a]/\f a=.ok r:=by
 unfold one at e;split at e
 ·exact⟨_,rfl,e⟩
 ·cases e
noncomputable def two(as:List V)(f:V->V->RV):RV:=match as with
 | [a,b]=>f a b
 |_=>.stuck
theorem two_inv{as:List V}{f:V->V->RV}{r:V×AH}(e:two as f=.ok r):∃a b,as=[a,b]/\f a b=.ok r:=by
 unfold two at e;split at e
 ·exact⟨_,_,rfl,e⟩
 ·cases e
noncomputable def qEY:BF->List V->AH->RV
 | .len,as,h=>one as λx=>X0 x λa=>(match items h a with|some xs=>.ok (.int xs.length,h)|none=>.stuck)
 | .sum,as,h=>one as λx=>X0 x λa=>(match qK h a with
  |some xs=>match jq xs with|some is=>.ok (.int is.sum,h)|none=>.stuck
  |none=>.stuck)
 | .all,as,h=>one as λx=>X0 x λa=>(match qK h a with
  |some xs=>match QQ xs with|some bs=>.ok (.bl (bs.all id),h)|none=>.stuck
  |none=>.stuck)
 | .any,as,h=>one as λx=>X0 x λa=>(match qK h a with
  |some xs=>match QQ xs with|some bs=>.ok (.bl (bs.any id),h)|none=>.stuck
  |none=>.stuck)
 | .max,as,h=>two as λx y=>J5 x y λi j=>.ok (.int (if j>i then j else i),h)
 | .min,as,h=>two as λx y=>J5 x y λi j=>.ok (.int (if j<i then j else i),h)
 | .abs,as,h=>one as λx=>(match x with | .int i=>.ok (.int (if i<0 then -i else i),h)|_=>.stuck)
 | .list,as,h=>one as λx=>X0 x λa=>(match items h a with|some xs=>newL xs h|none=>.stuck)
 | .int,as,h=>one as λx=>(match x with | .int i=>.ok (.int i,h) | .bl b=>.ok (.int (if b then 1 else 0),h)|_=>.stuck)
 | .maxl,as,h=>one as λx=>X0 x λa=>(match qK h a with
  |some xs=>match (jk xs).bind qB1 with|some k=>.ok (.int k,h)|none=>.stuck
  |none=>.stuck)
 | .bits,as,h=>one as λx=>(match x with | .int i=>.ok (.int ((PySem.Builtin.Int.intBits i:Nat):Int),h)|_=>.stuck)
 | .sorted,as,h=>one as λx=>X0 x λa=>(match qK h a with
  |some xs=>match jk xs with|some is=>if is.length<64 then newL ((Zt is).map V.int) h else .stuck|none=>.stuck
  |none=>.stuck)
noncomputable def qCn:Mt->Nat->List V->AH->RV
 | .cnt,p,[y],h=>match zm h p with
  |some xs=>if (flat y&&xs.all flat)=true then .ok (.int (xs.countP λz=>_L.eqV z y),h) else .stuck
  |none=>.stuck
 |_,_,_,_=>.stuck
noncomputable def jm(h:AH):V->Option String
 | .non=>some "NoneType"
 | .bl _=>some "bool"
 | .int _=>some "int"
 | .str _=>some "str"
 | .ref a=>match h[a]? with|some (.lst _ _)=>some "list" | some (.tup _)=>some "tuple" | some (.ob (.dct _))=>some "dict" | _=>none
 |_=>none
noncomputable def QS(t c:String):Bool:=t==c||(t=="bool"&&c=="int")
inductive Src|list(a:Nat)|tupl(a:Nat)|rng(lo:Int)(n:Nat)|zip(a b:Nat)|enum(a:Nat)|rngd(lo:Int)(n:Nat)
noncomputable def m4(h:AH):Src->Option Nat
 | .list a=>(qK h a).map List.length
 | .tupl a=>(qt h a).map List.length
 | .rng _ n=>some n
 | .zip a b=>match qK h a,qK h b with|some xs,some ys=>some (min xs.length ys.length)|_,_=>none
 | .enum a=>(qK h a).map List.length
 | .rngd _ n=>some n
noncomputable def zd(h:AH)(i:Nat):Src->Option (V×AH)
 | .list a=>match qK h a with|some xs=>xs[i]?.map λx=>(x,h)|none=>none
 | .tupl a=>match qt h a with|some xs=>xs[i]?.map λx=>(x,h)|none=>none
 | .rng lo n=>if i<n then some (.int (lo+(i:Int)),h) else none
 | .zip a b=>match qK h a,qK h b with
  |some xs,some ys=>match xs[i]?,ys[i]? with|some x,some y=>some (.ref h.length,h++[.tup [x,y]])|_,_=>none
  |_,_=>none
 | .enum a=>match qK h a with|some xs=>xs[i]?.map λx=>(.ref h.length,h++[.tup [.int (i:Int),x]])|none=>none
 | .rngd lo n=>if i<n then some (.int (lo-(i:Int)),h) else none
noncomputable def QN(h:AH)(i:Nat):Src->Bool
 | .list a=>match qK h a with|some xs=>decide (xs.length<=i)|none=>false
 | .tupl a=>match qt h a with|some xs=>decide (xs.length<=i)|none=>false
 | .rng _ n=>decide (n<=i)
 | .zip a b=>match qK h a,qK h b with|some xs,some ys=>decide (xs.length<=i\/ys.length<=i)|_,_=>false
 | .enum a=>match qK h a with|some xs=>decide (xs.length<=i)|none=>false
 | .rngd _ n=>decide (n<=i)
noncomputable def JJ:List Nat->List V->St->Option St
 | [],[],σ=>some σ
 |i::is,x::xs,σ=>JJ is xs (σ.set i (some x))
 |_,_,_=>none
noncomputable def store:Tg->V->St->AH->Option St
 | .name i,v,σ,_=>some (σ.set i (some v))
 | .tup is,.ref a,σ,h=>match qt h a with|some xs=>JJ is xs σ | none=>none
 | .tup _,_,_,_=>none
noncomputable def D9(s:Src)(g:Tg)(c:St->AH->Res (Bool×AH))(e:St->AH->RV)(D:Nat):Nat->Nat->List V->St->AH->RV
 | 0,i,_,_,h=>if QN h i s then .ok (.ref D,h) else .stuck
 |n+1,i,ys,σ,h=>match zd h i s with
  |some (x,h1)=>match store g x σ h1 with
   |some σ1=>(c σ1 h1).bind λ(b,h2)=>
    if b then (e σ1 h2).bind λ(y,h3)=>if h3[D]?=some (.lst false ys)/\ys.length<lim then D9 s g c e D n (i+1) (ys++[y]) σ1 (h3.set D (.lst false (ys++[y]))) else .stuck
    else if h2[D]?=some (.lst false ys) then D9 s g c e D n (i+1) ys σ1 h2 else .stuck
   |none=>.stuck
  |none=>.stuck
noncomputable def asB(r:RV):Res (Bool×AH):=r.bind λ(v,h)=>match v with | .bl b=>.ok (b,h)|_=>.stuck
section
variable (F:Nat->List V->AH->RV)
mutual
noncomputable def ev:E->St->AH->RV
 | .var i=>λσ h=>match σ[i]? with|some (some v)=>.ok (v,h)|_=>.stuck
 | .cst v=>λ_ h=>.ok (v,h)
 | .glob g=>λ_ h=>.ok (.ref g,h)
 | .bin op a b=>λσ h=>(ev a σ h).bind λ(x,h1)=>(ev b σ h1).bind λ(y,h2)=>v5 op x y h2
 | .neg a=>λσ h=>(ev a σ h).bind λ(x,h1)=>match x with | .int i=>.ok (.int (-i),h1)|_=>.stuck
 | .cmp op a b=>λσ h=>(ev a σ h).bind λ(x,h1)=>(ev b σ h1).bind λ(y,h2)=>qAT op x y h2
 | .cmp2 o1 o2 a b c=>λσ h=>(ev a σ h).bind λ(x,h1)=>(ev b σ h1).bind λ(y,h2)=>match U9 o1 x y h2 with
  |some true=>(ev c σ h2).bind λ(z,h3)=>qAT o2 y z h3
  |some false=>.ok (.bl false,h2)
  |none=>.stuck
 | .cmp3 o1 o2 o3 a b c d=>λσ h=>(ev a σ h).bind λ(x,h1)=>(ev b σ h1).bind λ(y,h2)=>match U9 o1 x y h2 with
  |some true=>(ev c σ h2).bind λ(z,h3)=>match U9 o2 y z h3 with
   |some true=>(ev d σ h3).bind λ(w,h4)=>qAT o3 z w h4
   |some false=>.ok (.bl false,h3)
   |none=>.stuck
  |some false=>.ok (.bl false,h2)
  |none=>.stuck
 | .and a b=>λσ h=>(asB (ev a σ h)).bind λ(x,h1)=>if x then ev b σ h1 else .ok (.bl false,h1)
 | .or a b=>λσ h=>(asB (ev a σ h)).bind λ(x,h1)=>if x then .ok (.bl true,h1) else ev b σ h1
 | .not a=>λσ h=>(asB (ev a σ h)).bind λ(x,h1)=>.ok (.bl (!x),h1)
 | .call f as=>λσ h=>(evs as σ h).bind λ(xs,h1)=>(F f xs h1).nx
 | .blt f as=>λσ h=>(evs as σ h).bind λ(xs,h1)=>qEY f xs h1
 | .isi a ts=>λσ h=>(ev a σ h).bind λ(x,h1)=>match jm h1 x with|some t=>.ok (.bl (ts.any (QS t)),h1)|none=>.stuck
 | .idx a b=>λσ h=>(ev a σ h).bind λ(x,h1)=>(ev b σ h1).bind λ(y,h2)=>match x,y with
  | .ref p,.int i=>match items h2 p with
   |some xs=>match (ixN xs.length i).bind λj=>xs[j]? with|some v=>.ok (v,h2)|none=>.stuck
   |none=>.stuck
  |_,_=>.stuck
 | .rev a=>λσ h=>(ev a σ h).bind λ(x,h1)=>X0 x λp=>(match qK h1 p with|some xs=>newL xs.reverse h1|none=>.stuck)
 | .sl a lo hi=>λσ h=>(ev a σ h).bind λ(x,h1)=>(evs lo σ h1).bind λ(l,h2)=>(evs hi σ h2).bind λ(u,h3)=>
  match x,jk l,jk u with
  | .ref p,some l,some u=>match qK h3 p with
   |some xs=>newL (cut xs l.head? u.head?) h3
   |none=>match qt h3 p with
    |some xs=>if _H.sIx xs.length 0 l.head?=0/\_H.sIx xs.length xs.length u.head?=xs.length then .stuck else newT (cut xs l.head? u.head?) h3
    |none=>.stuck
  |_,_,_=>.stuck
 | .lst as=>λσ h=>(evs as σ h).bind λ(xs,h1)=>if xs.length<=lim then newL xs h1 else .stuck
 | .tup as=>λσ h=>(evs as σ h).bind λ(xs,h1)=>if xs.length<=lim then newT xs h1 else .stuck
 | .comp it src g c e=>λσ h=>(evi it σ h).bind λ(s,h1)=>match m4 (h1++[.lst false []]) s with
  |some n=>D9 s g (evc c) (ev e) h1.length n 0 [] (_L.inner src σ) (h1++[.lst false []])
  |none=>.stuck
 | .app a b=>λσ h=>(ev a σ h).bind λ(x,h1)=>match x with
  | .ref p=>(match qK h1 p with
   |some _=>(ev b σ h1).bind λ(y,h2)=>match zm h2 p with
    |some xs=>if xs.length<lim then .ok (.non,h2.set p (.lst false (xs++[y]))) else .stuck
    |none=>.stuck
   |none=>.stuck)
  |_=>.stuck
 | .lrng a=>λσ h=>(ev a σ h).bind λ(x,h1)=>match x with | .int j=>if -1000000<=j/\j<=100000 then newL (QM 0 j.toNat) h1 else .stuck|_=>.stuck
 | .dnew=>λ_ h=>.ok (.ref h.length,h++[.ob (.dct [])])
 | .meth m a as=>λσ h=>(ev a σ h).bind λ(x,h1)=>match x with
  | .ref p=>(match qK h1 p with
   |some _=>(evs as σ h1).bind λ(ys,h2)=>qCn m p ys h2
   |none=>.stuck)
  |_=>.stuck
noncomputable def evs:Es->St->AH->Res (List V×AH)
 | .nil=>λ_ h=>.ok ([],h)
 | .cons a as=>λσ h=>(ev a σ h).bind λ(x,h1)=>(evs as σ h1).bind λ(xs,h2)=>.ok (x::xs,h2)
noncomputable def evc:Es->St->AH->Res (Bool×AH)
 | .nil=>λ_ h=>.ok (true,h)
 | .cons a _=>λσ h=>asB (ev a σ h)
noncomputable def evi:Itr->St->AH->Res (Src×AH)
 | .list a=>λσ h=>(ev a σ h).bind λ(x,h1)=>match x with | .ref p=>(match h1[p]? with|some (.lst _ _)=>.ok (.list p,h1)|some (.tup _)=>.ok (.tupl p,h1)|_=>.stuck)|_=>.stuck
 | .rng1 a=>λσ h=>(ev a σ h).bind λ(x,h1)=>match x with | .int j=>if -1000000<=j/\j<=1000000 then .ok (.rng 0 j.toNat,h1) else .stuck|_=>.stuck
 | .rng2 a b=>λσ h=>(ev a σ h).bind λ(x,h1)=>(ev b σ h1).bind λ(y,h2)=>match x,y with
  | .int i,.int j=>if (-1000000<=i/\i<=1000000)/\-1000000<=j/\j<=1000000 then .ok (.rng i (j-i).toNat,h2) else .stuck
  |_,_=>.stuck
 | .zip a b=>λσ h=>(ev a σ h).bind λ(x,h1)=>(ev b σ h1).bind λ(y,h2)=>match x,y with
  | .ref p,.ref q=>match qK h2 p,qK h2 q with|some _,some _=>.ok (.zip p q,h2)|_,_=>.stuck
  |_,_=>.stuck
 | .enum a=>λσ h=>(ev a σ h).bind λ(x,h1)=>match x with | .ref p=>(match qK h1 p with|some _=>.ok (.enum p,h1)|none=>.stuck)|_=>.stuck
 | .rng3 a b=>λσ h=>(ev a σ h).bind λ(x,h1)=>(ev b σ h1).bind λ(y,h2)=>match x,y with
  | .int i,.int j=>if (-1000000<=i/\i<=1000000)/\-1000000<=j/\j<=1000000 then .ok (.rngd i (i-j).toNat,h2) else .stuck
  |_,_=>.stuck
end
inductive Out|nx(σ:St)|rt(v:V)|bk(σ:St)|ct(σ:St)
noncomputable abbrev RS:=Res (Out×AH)
noncomputable def v8(s:Src)(g:Tg)(b:St->AH->RS):Nat->Nat->St->AH->RS
 | 0,i,σ,h=>if QN h i s then .ok (.nx σ,h) else .stuck
 |n+1,i,σ,h=>match zd h i s with
  |some (x,h1)=>match store g x σ h1 with
   |some σ1=>(b σ1 h1).bind λ(o,h2)=>match o with
    | .nx σ2=>v8 s g b n (i+1) σ2 h2
    | .ct σ2=>v8 s g b n (i+1) σ2 h2
    | .bk σ2=>.ok (.nx σ2,h2)
    | .rt v=>.ok (.rt v,h2)
   |none=>.stuck
  |none=>.stuck
noncomputable def Qg(c:St->AH->Res (Bool×AH))(b:St->AH->RS):Nat->St->AH->RS
 | 0,_,_=>.stuck
 |n+1,σ,h=>(c σ h).bind λ(t,h1)=>if t then (b σ h1).bind λ(o,h2)=>match o with
   | .nx σ2=>Qg c b n σ2 h2
   | .ct σ2=>Qg c b n σ2 h2
   | .bk σ2=>.ok (.nx σ2,h2)
   | .rt v=>.ok (.rt v,h2)
  else .ok (.nx σ,h1)
noncomputable def qAd:Nat:=1000000
mutual
noncomputable def ex:S->St->AH->RS
 | .asg g e=>λσ h=>(ev F e σ h).bind λ(x,h1)=>match store g x σ h1 with|some σ1=>.ok (.nx σ1,h1)|none=>.stuck
 | .put o i v=>λσ h=>(ev F v σ h).bind λ(x,h1)=>(ev F o σ h1).bind λ(p,h2)=>(ev F i σ h2).bind λ(k,h3)=>match p,k with
  | .ref a,.int k=>match zm h3 a with
   |some xs=>match ixN xs.length k with|some j=>.ok (.nx σ,h3.set a (.lst false (xs.set j x)))|none=>.stuck
   |none=>match B3 h3 a with
    |some kvs=>if flat x=true/\kvs.length<lim then .ok (.nx σ,h3.set a (.ob (.dct (qFr kvs k x)))) else .stuck
    |none=>.stuck
  |_,_=>.stuck
 | .expr e=>λσ h=>(ev F e σ h).bind λ(_,h1)=>.ok (.nx σ,h1)
 | .ret e=>λσ h=>(ev F e σ h).bind λ(x,h1)=>.ok (.rt x,h1)
 | .ifs c t u=>λσ h=>(asB (ev F c σ h)).bind λ(x,h1)=>if x then exs t σ h1 else exs u σ h1
 | .for_ g it b=>λσ h=>(evi F it σ h).bind λ(s,h1)=>match m4 h1 s with
  |some n=>v8 s g (exs b) n 0 σ h1
  |none=>.stuck
 | .while_ c b=>λσ h=>Qg (λσ h=>asB (ev F c σ h)) (exs b) qAd σ h
 | .stop=>λ_ _=>.stuck
noncomputable def exs:Ss->St->AH->RS
 | .nil=>λσ h=>.ok (.nx σ,h)
 | .cons s r=>λσ h=>(ex s σ h).bind λ(o,h1)=>match o with
  | .nx σ1=>exs r σ1 h1
  |o=>.ok (o,h1)
end
end
structure Fn where
 npar:Nat
 nslot:Nat
 body:Ss
noncomputable def Fk(tb:List Fn):Nat->Nat->List V->AH->RV
 | 0,_,_,_=>.stuck
 |k+1,f,vs,h=>match tb[f]? with
  |some d=>if vs.length=d.npar/\d.npar<=d.nslot then (exs (Fk tb k) d.body (vs.map some++List.replicate (d.nslot-d.npar) none) h).bind λ(o,h1)=>match o with
    | .nx _=>.ok (.non,h1)
    | .rt v=>.ok (v,h1)
    |_=>.stuck
   else .stuck
  |none=>.stuck
open PySem PySem.Spec PyProof.Rows
open _L (Hp HO Cx PE PT PA PS PSs TE TT TA TS VK upd qI qG SqL SqT Zw)
def rv(φ:List Addr):V->V->Prop
 | .ref i,.ref a=>φ[i]?=some a
 | .non,.non=>True
 | .bl b,.bl c=>b=c
 | .int i,.int j=>i=j
 | .str x,.str y=>x=y
 |_,_=>False
abbrev rvs(φ:List Addr):List V->List V->Prop:=Paired (rv φ)
def ropt(φ:List Addr):Option V->Option V->Prop
 |some v,oc=>∃w,oc=some w/\rv φ v w
 |none,_=>True
abbrev rst(φ:List Addr):St->St->Prop:=Paired (ropt φ)
def Ext(φ φ':List Addr):Prop:=∃r,φ'=φ++r
theorem Ext.refl(φ:List Addr):Ext φ φ:=⟨[],by simp⟩
theorem Ext.trans{a b c:List Addr}(h:Ext a b)(g:Ext b c):Ext a c:=by
 obtain⟨r,rfl⟩:=h;obtain⟨q,rfl⟩:=g;exact⟨r++q,by simp⟩
theorem Ext.get{φ φ':List Addr}(x:Ext φ φ'){i:Nat}{a:Addr}(h:φ[i]?=some a):φ'[i]?=some a:=by
 obtain⟨r,rfl⟩:=x;rw[wD (wC.mp h).1];exact h
theorem rv.mono{φ φ':List Addr}(x:Ext φ φ'):∀{v w:V},rv φ v w->rv φ' v w
 | .ref i,.ref a,h=>x.get h
 | .non,.non,h=>h
 | .bl _,.bl _,h=>h
 | .int _,.int _,h=>h
 | .str _,.str _,h=>h
 | .byt _,_,h=>by cases h
 | .flt _,_,h=>by cases h
 | .ty _,_,h=>by cases h
theorem rvs.mono{φ φ':List Addr}(x:Ext φ φ'){vs ws:List V}(h:rvs φ vs ws):rvs φ' vs ws:=_L.Paired.mapP h λ_ _ r=>rv.mono x r
theorem ropt.mono{φ φ':List Addr}(x:Ext φ φ'):∀{v w:Option V},ropt φ v w->ropt φ' v w
 |some v,oc,h=>by obtain⟨w,e,r⟩:=h;exact⟨w,e,rv.mono x r⟩
 |none,_,_=>trivial
theorem rst.mono{φ φ':List Addr}(x:Ext φ φ'){σ τ:St}(h:rst φ σ τ):rst φ' σ τ:=_L.Paired.mapP h λ_ _ r=>ropt.mono x r
theorem qJ{α β:Type}{R:α->β->Prop}:∀{xs:List α}{ys:List β}{i:Nat}{x:α},Paired R xs ys->xs[i]?=some x->∃y,ys[i]?=some y/\R x y
 |_,_,_,_,.nil,e=>by simp at e
 |_,_,0,_,.cons r _,e=>by simp at e;subst e;exact⟨_,rfl,r⟩
 |_,_,i+1,x,.cons _ t,e=>by
  obtain⟨u,h1,h2⟩:=qJ (i:=i) (x:=x) t (by simpa using e);exact⟨u,by simpa using h1,h2⟩
theorem jF{α β:Type}{R:α->β->Prop}{x:α}{u:β}(r:R x u):∀{xs:List α}{us:List β}(i:Nat),Paired R xs us->Paired R (xs.set i x) (us.set i u)
 |_,_,_,.nil=>.nil
 |_,_,0,.cons _ t=>.cons r t
 |_,_,i+1,.cons q t=>.cons q (jF r i t)
theorem qd{α β:Type}{R:α->β->Prop}:∀{xs ys:List α}{us ws:List β},Paired R xs us->Paired R ys ws->Paired R (xs++ys) (us++ws)
 |_,_,_,_,.nil,s=>s
 |_,_,_,_,.cons r t,s=>.cons r (qd t s)
theorem jg{α β:Type}{R:α->β->Prop}:∀{xs:List α}{us:List β}(n:Nat),Paired R xs us->Paired R (xs.take n) (us.take n)
 |_,_,0,_=>.nil
 |_,_,_+1,.nil=>.nil
 |_,_,n+1,.cons r t=>.cons r (jg n t)
theorem Zr{α β:Type}{R:α->β->Prop}:∀{xs:List α}{us:List β}(n:Nat),Paired R xs us->Paired R (xs.drop n) (us.drop n)
 |_,_,0,r=>r
 |_,_,_+1,.nil=>.nil
 |_,_,n+1,.cons _ t=>Zr n t
theorem JP{α β:Type}{R:α->β->Prop}{xs:List α}{us:List β}(h:Paired R xs us):∀k:Nat,Paired R (List.replicate k xs).flatten (List.replicate k us).flatten
 | 0=>.nil
 |k+1=>by
  rw[List.replicate_succ,List.replicate_succ,List.flatten_cons,List.flatten_cons];exact qd h (JP h k)
noncomputable def kk(p:Int×V):_L.Key×V:=(.inl p.1,p.2)
noncomputable def O.mu:O->Bool
 | .lst false _=>true | .ob (.dct _)=>true|_=>false
def exP(a C:Addr):Heap->Prop:=λh=>∃o,h.get? a=some o/\o.cls=.ref C
def ro(K:PySem.W.Frag)(φ:List Addr)(H:Hp)(a:Addr):O->Prop
 | .lst false xs=>∃ys,H a=some (.lst ys)/\rvs φ xs ys
 | .lst true xs=>∃ys,((∃o,H a=some (.frz o (.lst ys)))\/SqL K (λ_=>none) a ys)/\rvs φ xs ys
 | .tup xs=>∃ys,SqT K H a ys/\rvs φ xs ys
 | .ob (.dct kvs)=>H a=some (.dK (kvs.map kk))
 | .ob (.exn x)=>∃C,PySem.W.nsIn K mainGlobals x=some (some (.ref C))/\H a=some (.ext (exP a C))
structure Rl(K:PySem.W.Frag)(G:List Addr)(φ:List Addr)(h:AH)(H:Hp):Prop where
 len:φ.length=h.length
 glob:Ext G φ
 obj:∀(i:Nat) o a,h[i]?=some o->φ[i]?=some a->ro K φ H a o
 inj:∀(i j:Nat) x y a,x.mu=true->y.mu=true->h[i]?=some x->h[j]?=some y->φ[i]?=some a->φ[j]?=some a->i=j
section
variable{K:PySem.W.Frag}{G φ φ':List Addr}{h:AH}{H H':Hp}{a b p:Addr}
theorem qAY{xs:List V}(s:Zw H H')(q:SqT K H a xs):SqT K H' a xs:=by
 rcases q with(h|⟨o,h⟩)|h
 ·exact .inl (.inl (s _ _ h))
 ·exact .inl (.inr ⟨o,s _ _ h⟩)
 ·exact .inr h
theorem z8{xs:List V}(q:SqL K (λ_=>none) a xs):SqL K H a xs:=by
 rcases q with(h|⟨o,h⟩)|h
 ·cases h
 ·cases h
 ·exact .inr h
theorem Je{o:HO}(hp:H p=none):Zw H (upd H p o):=λb u e=>by rw[qG (_L.ne_of_none e hp)];exact e
theorem ro.keep{o:O}(x:Ext φ φ')(s:Zw H H')(r:ro K φ H a o):ro K φ' H' a o:=by
 match o,r with
 | .lst false xs,⟨ys,e,r⟩=>exact⟨ys,s _ _ e,rvs.mono x r⟩
 | .lst true xs,⟨ys,.inl ⟨o,e⟩,r⟩=>exact⟨ys,.inl ⟨o,s _ _ e⟩,rvs.mono x r⟩
 | .lst true xs,⟨ys,.inr e,r⟩=>exact⟨ys,.inr e,rvs.mono x r⟩
 | .tup xs,⟨ys,e,r⟩=>exact⟨ys,qAY s e,rvs.mono x r⟩
 | .ob (.dct _),e=>exact s _ _ e
 | .ob (.exn _),⟨C,e1,e2⟩=>exact⟨C,e1,s _ _ e2⟩
def Wr(w:HO):Prop:=(∃zs,w=.lst zs)\/∃ks,w=.dK ks
theorem ro.wr{o:O}(m:o.mu=true)(r:ro K φ H a o):∃w,H a=some w/\Wr w:=by
 match o,m,r with
 | .lst false xs,_,⟨ys,e,r⟩=>exact⟨_,e,.inl ⟨_,rfl⟩⟩
 | .ob (.dct _),_,e=>exact⟨_,e,.inr ⟨_,rfl⟩⟩
theorem Wr.ne{w v:HO}(h:Wr w)(e:H a=some v)(hb:H b=some w)(h1:∀zs,v≠.lst zs)(h2:∀ks,v≠.dK ks):a≠b:=λz=>by
 subst z;rw[e]at hb;cases hb;rcases h with⟨zs,rfl⟩|⟨ks,rfl⟩
 ·exact h1 _ rfl
 ·exact h2 _ rfl
theorem ro.other{o:O}{w w':HO}(hw:Wr w)(hb:H b=some w)(hne:o.mu=true->a≠b)(r:ro K φ H a o):ro K φ (upd H b w') a o:=by
 match o,r with
 | .lst false xs,⟨ys,e,r⟩=>exact⟨ys,by rw[qG (hne rfl)];exact e,r⟩
 | .lst true xs,⟨ys,.inl ⟨o,e⟩,r⟩=>exact⟨ys,.inl ⟨o,by rw[qG (hw.ne e hb (λ_ z=>by cases z) (λ_ z=>by cases z))];exact e⟩,r⟩
 | .lst true xs,⟨ys,.inr e,r⟩=>exact⟨ys,.inr e,r⟩
 | .tup xs,⟨ys,e,r⟩=>
  refine⟨ys,?_,r⟩;rcases e with(h|⟨o,h⟩)|h
  ·exact .inl (.inl (by rw[qG (hw.ne h hb (λ_ z=>by cases z) (λ_ z=>by cases z))];exact h))
  ·exact .inl (.inr ⟨o,by rw[qG (hw.ne h hb (λ_ z=>by cases z) (λ_ z=>by cases z))];exact h⟩)
  ·exact .inr h
 | .ob (.dct _),e=>exact(by show upd H b _ a=_;rw[qG (hne rfl)];exact e)
 | .ob (.exn _),⟨C,e1,e2⟩=>exact⟨C,e1,by rw[qG (hw.ne e2 hb (λ_ z=>by cases z) (λ_ z=>by cases z))];exact e2⟩
theorem Rl.at(R:Rl K G φ h H){i:Nat}{o:O}(e:h[i]?=some o):∃a,φ[i]?=some a/\ro K φ H a o:=by
 have hi:i<φ.length:=by rw[R.len];exact(wC.mp e).1
 exact⟨φ[i],wE hi,R.obj i o _ e (wE hi)⟩
theorem Rl.new(R:Rl K G φ h H)(hp:H p=none){o:O}{ob:HO}(n:ro K (φ++[p]) (upd H p ob) p o):Rl K G (φ++[p]) (h++[o]) (upd H p ob):=by
 have x:Ext φ (φ++[p]):=⟨[p],rfl⟩
 refine⟨by simp[R.len],R.glob.trans x,λi u a e1 e2=>?_,λi j xs ys a m1 m2 e1 e2 e3 e4=>?_⟩
 ·by_cases hi:i<h.length
  ·rw[wD hi]at e1;rw[wD (by rw[R.len];exact hi)]at e2;exact(R.obj i u a e1 e2).keep x (Je hp)
  ·have hi':i=h.length:=by
    have:=(wC.mp e1).1;simp at this;omega
   subst hi';simp at e1;rw[<-R.len]at e2;simp at e2;subst e1 e2;exact n
 ·have lt:∀{k:Nat}{z:O},(h++[o])[k]?=some z->(h[k]?=some z/\k<h.length)\/k=h.length:=λ{k zs} e=>by
   by_cases hk:k<h.length
   ·rw[wD hk]at e;exact .inl ⟨e,hk⟩
   ·have:=(wC.mp e).1;simp at this;exact .inr (by omega)
  have old:∀{k:Nat}{b:Addr},k<h.length->(φ++[p])[k]?=some b->φ[k]?=some b:=λ{k b} hk e=>by
   rwa [wD (by rw[R.len];exact hk)]at e
  have newA:∀{b:Addr},(φ++[p])[h.length]?=some b->b=p:=λ{b} e=>by
   rw[<-R.len]at e;simp at e;exact e.symm
  rcases lt e1 with⟨e1,h1⟩|rfl<;>rcases lt e2 with⟨e2,h2⟩|rfl
  ·exact R.inj i j xs ys a m1 m2 e1 e2 (old h1 e3) (old h2 e4)
  ·have ea:=newA e4;subst ea;obtain⟨w,hz,_⟩:=(R.obj i _ a e1 (old h1 e3)).wr m1;rw[hp]at hz;cases hz
  ·have ea:=newA e3;subst ea;obtain⟨w,hz,_⟩:=(R.obj j _ a e2 (old h2 e4)).wr m2;rw[hp]at hz;cases hz
  ·rfl
theorem Rl.more(R:Rl K G φ h H)(hp:H p=none){ob:HO}:Rl K G φ h (upd H p ob):=
 ⟨R.len,R.glob,λi u a e1 e2=>(R.obj i u a e1 e2).keep (Ext.refl _) (Je hp),R.inj⟩
theorem Rl.exn(R:Rl K G φ h H){i:Nat}{x:Str}(e:qDe h i=some x):∃a C,φ[i]?=some a/\PySem.W.nsIn K mainGlobals x=some (some (.ref C))/\H a=some (.ext (exP a C)):=by
 unfold qDe at e;split at e
 ·rename_i c q;cases e;obtain⟨a,ea,C,r1,r2⟩:=R.at q;exact⟨a,C,ea,r1,r2⟩
 ·cases e
theorem Rl.newL(R:Rl K G φ h H)(hp:H p=none){xs ys:List V}(r:rvs φ xs ys):Rl K G (φ++[p]) (h++[.lst false xs]) (upd H p (.lst ys)):=
 R.new hp ⟨ys,qI,rvs.mono ⟨[p],rfl⟩ r⟩
theorem Rl.newT(R:Rl K G φ h H)(hp:H p=none){xs ys:List V}(r:rvs φ xs ys):Rl K G (φ++[p]) (h++[.tup xs]) (upd H p (.tup ys)):=
 R.new hp ⟨ys,.inl (.inl qI),rvs.mono ⟨[p],rfl⟩ r⟩
theorem Rl.lastRef(R:Rl K G φ h H):(φ++[p])[h.length]?=some p:=by rw[<-R.len];simp
theorem Rl.write(R:Rl K G φ h H){i:Nat}{x y:O}{w':HO}(mx:x.mu=true)(my:y.mu=true)(e:h[i]?=some x)(ea:φ[i]?=some a)(n:ro K φ (upd H a w') a y):Rl K G φ (h.set i y) (upd H a w'):=by
 have hi:=(wC.mp e).1;obtain⟨w,hw,ww⟩:=(R.obj i _ a e ea).wr mx;have lk:∀{k:Nat}{z:O},z.mu=true->(h.set i y)[k]?=some z->∃z',z'.mu=true/\h[k]?=some z':=λ{k zs} m q=>by
  by_cases hk:k=i
  ·subst hk;exact⟨x,mx,e⟩
  ·rw[wa (Ne.symm hk)]at q;exact⟨zs,m,q⟩
 refine⟨by simp[R.len],R.glob,λk u b e1 e2=>?_,λk l us vs b m1 m2 e1 e2 e3 e4=>?_⟩
 ·by_cases hk:k=i
  ·subst hk;rw[wk hi]at e1;rw[ea]at e2;cases e1;cases e2;exact n
  ·rw[wa (Ne.symm hk)]at e1;refine(R.obj k u b e1 e2).other ww hw λmu hb=>?_;subst hb;exact hk (R.inj k i u x b mu mx e1 e e2 ea)
 ·obtain⟨z1,n1,q1⟩:=lk m1 e1;obtain⟨z2,n2,q2⟩:=lk m2 e2;exact R.inj k l z1 z2 b n1 n2 q1 q2 e3 e4
theorem Rl.set(R:Rl K G φ h H){i:Nat}{xs ys zs:List V}(e:h[i]?=some (.lst false xs))(ea:φ[i]?=some a)(r:rvs φ ys zs):Rl K G φ (h.set i (.lst false ys)) (upd H a (.lst zs)):=
 R.write rfl rfl e ea ⟨zs,qI,r⟩
theorem Rl.dct(R:Rl K G φ h H){i:Nat}{kvs:List (Int×V)}(e:B3 h i=some kvs):∃a,φ[i]?=some a/\h[i]?=some (.ob (.dct kvs))/\H a=some (.dK (kvs.map kk)):=by
 unfold B3 at e;split at e
 ·rename_i zs q;cases e;obtain⟨a,ea,r⟩:=R.at q;exact⟨a,ea,q,r⟩
 ·cases e
theorem Rl.lst(R:Rl K G φ h H){i:Nat}{xs:List V}(e:qK h i=some xs):∃a ys,φ[i]?=some a/\SqL K H a ys/\rvs φ xs ys:=by
 unfold qK at e;split at e
 ·rename_i fz zs q;cases e;obtain⟨a,ea,r⟩:=R.at q;cases fz with
  |false=>obtain⟨ys,e,r⟩:=r;exact⟨a,ys,ea,.inl (.inl e),r⟩
  |true=>
   obtain⟨ys,e,r⟩:=r;rcases e with⟨o,e⟩|e
   ·exact⟨a,ys,ea,.inl (.inr ⟨o,e⟩),r⟩
   ·exact⟨a,ys,ea,z8 e,r⟩
 ·cases e
theorem Rl.tup(R:Rl K G φ h H){i:Nat}{xs:List V}(e:qt h i=some xs):∃a ys,φ[i]?=some a/\SqT K H a ys/\rvs φ xs ys:=by
 unfold qt at e;split at e
 ·rename_i zs q;cases e;obtain⟨a,ea,ys,e,r⟩:=R.at q;exact⟨a,ys,ea,e,r⟩
 ·cases e
theorem Rl.mut(R:Rl K G φ h H){i:Nat}{xs:List V}(e:zm h i=some xs):h[i]?=some (.lst false xs)/\∃a ys,φ[i]?=some a/\H a=some (.lst ys)/\rvs φ xs ys:=by
 unfold zm at e;split at e
 ·rename_i zs q;cases e;obtain⟨a,ea,ys,e,r⟩:=R.at q;exact⟨q,a,ys,ea,e,r⟩
 ·cases e
theorem Rl.its(R:Rl K G φ h H){i:Nat}{xs:List V}(e:items h i=some xs):∃a ys,φ[i]?=some a/\(SqL K H a ys\/SqT K H a ys)/\rvs φ xs ys:=by
 unfold items at e;split at e
 ·rename_i fz zs q;cases e;obtain⟨a,ys,h1,h2,h3⟩:=R.lst (i:=i) (xs:=xs) (by unfold qK;rw[q]);exact⟨a,ys,h1,.inl h2,h3⟩
 ·rename_i zs q;cases e;obtain⟨a,ys,h1,h2,h3⟩:=R.tup (i:=i) (xs:=xs) (by unfold qt;rw[q]);exact⟨a,ys,h1,.inr h2,h3⟩
 ·cases e
end
open _L (PG Inv RelV Vals EP TP AP SP OpR zr R2)
theorem tM{α β:Type}{r:Res α}{f:α->Res β}{x:β}(h:r.bind f=.ok x):∃a,r=.ok a/\f a=.ok x:=by
 cases r with
 |ok a=>exact⟨a,rfl,h⟩
 |exc c h'=>cases h
 |stuck=>cases h
theorem qB{φ:List Addr}{i:Int}{w:V}(h:rv φ (.int i) w):w=.int i:=by
 cases w with
 |int j=>exact congrArg V.int (show i=j from h).symm
 |_=>exact False.elim h
theorem jE{φ:List Addr}{i:Bool}{w:V}(h:rv φ (.bl i) w):w=.bl i:=by
 cases w with
 |bl j=>exact congrArg V.bl (show i=j from h).symm
 |_=>exact False.elim h
theorem jL{φ:List Addr}{i:Str}{w:V}(h:rv φ (.str i) w):w=.str i:=by
 cases w with
 |str j=>exact congrArg V.str (show i=j from h).symm
 |_=>exact False.elim h
theorem zy{φ:List Addr}{w:V}(h:rv φ .non w):w=.non:=by
 cases w with
 |non=>rfl
 |_=>exact False.elim h
theorem qO{φ:List Addr}{i:Nat}{w:V}(h:rv φ (.ref i) w):∃a,w=.ref a/\φ[i]?=some a:=by
 cases w with
 |ref j=>exact⟨j,rfl,h⟩
 |_=>exact False.elim h
section
variable (K:PySem.W.Frag)(G:List Addr)(F:Nat->List V->AH->RV)
noncomputable def tE(e:E):TE:=λσc H Q=>∃φ h σ v h',Rl K G φ h H/\rst φ σ σc/\ev F e σ h=.ok (v,h')/\∀φ' H' w,Ext φ φ'->Rl K G φ' h' H'->rv φ' v w->Q w H'
noncomputable def tB(r:St->AH->Res (Bool×AH)):TT:=λσc H Q=>∃φ h σ b h',Rl K G φ h H/\rst φ σ σc/\r σ h=.ok (b,h')/\∀φ' H',Ext φ φ'->Rl K G φ' h' H'->Q b H'
noncomputable abbrev tT(e:E):TT:=tB K G (λσ h=>asB (ev F e σ h))
noncomputable def tL(as:Es):TA:=λσc H Q=>∃φ h σ vs h',Rl K G φ h H/\rst φ σ σc/\evs F as σ h=.ok (vs,h')/\∀φ' H' ws,Ext φ φ'->Rl K G φ' h' H'->rvs φ' vs ws->Q ws H'
end
section
variable{X:Cx}{G:List Addr}{F:Nat->List V->AH->RV}
theorem zk{e:Expr}{t t':TE}(h:PE X e t)(w:∀σ H Q,t' σ H Q->t σ H Q):PE X e t':=λpins s σ H Q I q=>h pins s σ H Q I (w σ H Q q)
theorem o0{e:Expr}{t t':TT}(h:PT X e t)(w:∀σ H Q,t' σ H Q->t σ H Q):PT X e t':=λpins s σ H Q I q=>h pins s σ H Q I (w σ H Q q)
theorem qDC{e:List Expr}{t t':TA}(h:PA X e t)(w:∀σ H Q,t' σ H Q->t σ H Q):PA X e t':=λpos pins s σ H Q I q=>h pos pins s σ H Q I (w σ H Q q)
variable (X G F) in
abbrev SE(e:Expr)(a:E):Prop:=PE X e (tE X.K G F a)
variable (X G F) in
abbrev ST(e:Expr)(a:E):Prop:=PT X e (tT X.K G F a)
variable (X G F) in
abbrev SA(es:List Expr)(as:Es):Prop:=PA X es (tL X.K G F as)
variable{K:PySem.W.Frag}{φ φ':List Addr}{h h1 h2:AH}{H:Hp}{σ σc:St}{a b:E}{x y:V}
theorem QA(R:Rl K G φ h H)(rs:rst φ σ σc)(ea:ev F a σ h=.ok (x,h1))(eb:ev F b σ h1=.ok (y,h2)){Rr:V->V->Hp->Prop}
  (k:∀φ2 H2 xc yc,Ext φ φ2->Rl K G φ2 h2 H2->rv φ2 x xc->rv φ2 y yc->Rr xc yc H2):tE K G F a σc H (λxc H1=>tE K G F b σc H1 (λyc H2=>Rr xc yc H2)):=
 ⟨φ,h,σ,x,h1,R,rs,ea,λφ1 H1 xc e1 R1 r1=>⟨φ1,h1,σ,y,h2,R1,rst.mono e1 rs,eb,λφ2 H2 yc e2 R2 r2=>k φ2 H2 xc yc (e1.trans e2) R2 (rv.mono e2 r1) r2⟩⟩
theorem qET{i:Nat}{n:Str}{pos:Pos}(hN:X.N[i]?=some n)(hv:_L.Vis X.env.scope n)(hd:(n==("__debug__":Str))=false)(hcd:(n==("__classdict__":Str))=false):SE X G F (.Name n pos) (.var i):=by
 refine zk (_L.pe_var hN hv hd hcd) λσc H Q q=>?_;obtain⟨φ,h,σ,v,h',R,rs,e,k⟩:=q;unfold ev at e;split at e
 ·rename_i w q;cases e;obtain⟨oc,ec,r⟩:=qJ rs q;obtain⟨u,rfl,r⟩:=r;exact⟨u,ec,k φ H u (.refl _) R r⟩
 ·cases e
theorem c7{v:V}{w:V}{σc:St}{H:Hp}{Q:VK}(hr:∀φ,rv φ v w)(q:tE K G F (.cst v) σc H Q):_L.tC w σc H Q:=by
 obtain⟨φ,h,σ,v',h',R,rs,e,k⟩:=q;unfold ev at e;cases e;exact k φ H w (.refl _) R (hr φ)
theorem h9 {i j pos}:SE X G F (.Constant (.int i) j pos) (.cst (.int i)):=zk _L.pe_int λ_ _ _=>c7 λ_=>rfl
theorem qEu {i j pos}:SE X G F (.Constant (.bool i) j pos) (.cst (.bl i)):=zk _L.pe_bl λ_ _ _=>c7 λ_=>rfl
theorem qBG {j pos}:SE X G F (.Constant .none j pos) (.cst .non):=zk _L.pe_non λ_ _ _=>c7 λ_=>trivial
theorem qA8 {i j pos}:SE X G F (.Constant (.str i) j pos) (.cst (.str i)):=zk _L.pe_str λ_ _ _=>c7 λ_=>rfl
theorem qCc{n:Str}{v:V}{u:Value}{pos:Pos}(hg:_L.Gl X n)(hm:X.mg n=some u)(r:RelV v u)(hv:∀φ,rv φ v v)(hd:(n==("__debug__":Str))=false):SE X G F (.Name n pos) (.cst v):=
 zk (_L.pe_glob hg hm r hd) λ_ _ _=>c7 hv
theorem qBn{n:Str}{g:Nat}{a:Addr}{pos:Pos}(hg:_L.Gl X n)(hm:X.mg n=some (.ref a))(hG:G[g]?=some a)(hd:(n==("__debug__":Str))=false):SE X G F (.Name n pos) (.glob g):=by
 refine zk (_L.pe_glob (v:=.ref a) hg hm rfl hd) λσc H Q q=>?_;obtain⟨φ,h,σ,v',h',R,rs,e,k⟩:=q;unfold ev at e;cases e;exact k φ H (.ref a) (.refl _) R (R.glob.get hG)
noncomputable def opB:BOp->Operator
 | .add=>.Add | .sub=>.Sub | .mul=>.Mult | .fdiv=>.FloorDiv | .mod=>.Mod | .pow=>.Pow | .band=>.BitAnd | .shr=>.RShift | .bxor=>.BitXor
def qG3(i j:Int):Prop:=j≠0/\j.natAbs.log2<9000
theorem qAb:OpR X (binaryOp .FloorDiv) (_L.rI qG3 λi j=>.int (i.fdiv j)):=_L.opI λ_ _ _ _ _ _ _ hc q=>floordiv_int hc.1 q (.inl (PyProof.noPylong_of_log2 hc.2))
def qGy(i j:Int):Prop:=i.natAbs.log2<9000/\j.natAbs.log2<9000
theorem L1{i:Int}(h:i.natAbs.log2<9000):Builtin.Int.intBits i<=2 ^ 20:=by
 unfold Builtin.Int.intBits;have e:(2:Nat) ^ 20=1048576:=by decide
 rw[e];split<;>omega
theorem qCE:OpR X (binaryOp .Mult) (_L.rI qGy λi j=>.int (i*j)):=_L.opI λ_ _ _ _ _ _ _ hc q=>mul_int q (IntMulOk.of_bits (L1 hc.1) (L1 hc.2))
theorem N4{i:Int}(h:mid i=true):i.natAbs.log2<9000:=uD h
noncomputable def qGq(K:PySem.W.Frag):BOp->R2
 | .add=>λx y H Q=>(_L.rI0 (λi j=>.int (i+j)) x y H Q\/_L.rCat x y H Q)\/_L.rCatT K x y H Q
 | .sub=>_L.rI0 λi j=>.int (i-j)
 | .mul=>λx y H Q=>(_L.rI _L.CMul (λi j=>.int (i*j)) x y H Q\/_L.rRep x y H Q)\/_L.rI qGy (λi j=>.int (i*j)) x y H Q
 | .fdiv=>λx y H Q=>_L.rI _L.CDiv (λi j=>.int (i / j)) x y H Q\/_L.rI qG3 (λi j=>.int (i.fdiv j)) x y H Q
 | .mod=>λx y H Q=>_L.rI (λ_ j=>0<j) (λi j=>.int (i % j)) x y H Q\/_L.rI (λ_ j=>j≠0) (λi j=>.int (i.fmod j)) x y H Q
 | .pow=>_L.rI _L.CPow λi j=>.int (i ^ j.toNat)
 | .band=>_L.rI0 λi j=>.int (Builtin.bitAnd i j)
 | .shr=>_L.rI (λ_ j=>0<=j) λi j=>.int (i / 2 ^ j.toNat)
 | .bxor=>_L.rI0 λi j=>.int (Builtin.bitXor i j)
theorem qBi:∀op,OpR X (binaryOp (opB op)) (qGq X.K op)
 | .add=>(_L.op_add.or _L.op_cat).or _L.op_catT
 | .sub=>_L.op_sub
 | .mul=>(_L.op_mul.or _L.op_rep).or qCE
 | .fdiv=>_L.op_fdiv.or qAb
 | .mod=>_L.op_mod.or _L.op_modN
 | .pow=>_L.op_pow
 | .band=>_L.op_and
 | .shr=>_L.op_shr
 | .bxor=>_L.op_xor
theorem Zs:lim<=sizeLine:=by decide
theorem qA1:lim<sizeLine:=by decide
theorem Q0{i:Int}(h:small i=true):-(2 ^ 64)<i/\i<2 ^ 64:=by
 unfold small two64 at h;have:=uD h;omega
theorem qBw{op:BOp}{v xc yc:V}{h':AH}{Q:VK}(e:v5 op x y h=.ok (v,h'))(R:Rl K G φ h H)(rx:rv φ x xc)(ry:rv φ y yc)
  (k:∀φ' H' w,Ext φ φ'->Rl K G φ' h' H'->rv φ' v w->Q w H'):qGq K op xc yc H Q:=by
 cases op with
 |add=>
  dsimp only[v5]at e;split at e
  ·replace e:=zv e;obtain⟨b,rfl,e⟩:=e;split at e
   ·rename_i xs ys e1 e2;split at e
    ·rename_i hl;cases e;obtain⟨q1,a1,ys1,ha1,hH1,r1⟩:=R.mut e1;obtain⟨q2,a2,ys2,ha2,hH2,r2⟩:=R.mut e2;obtain⟨b1,rfl,hb1⟩:=qO rx;obtain⟨b2,rfl,hb2⟩:=qO ry;rw[ha1]at hb1;cases hb1;rw[ha2]at hb2;cases hb2;refine .inl (.inr ⟨a1,a2,ys1,ys2,rfl,rfl,hH1,hH2,?_,λp hp=>k (φ++[p]) _ _ ⟨[p],rfl⟩ (R.newL hp (qd r1 r2)) R.lastRef⟩);have l1:=Paired.length r1;have l2:=Paired.length r2;have:=Zs;omega
    ·cases e
   ·split at e
    ·rename_i xs ys e1 e2;split at e
     ·rename_i hl;obtain⟨a1,ys1,ha1,hH1,r1⟩:=R.tup e1;obtain⟨a2,ys2,ha2,hH2,r2⟩:=R.tup e2;obtain⟨b1,rfl,hb1⟩:=qO rx;obtain⟨b2,rfl,hb2⟩:=qO ry;rw[ha1]at hb1;cases hb1;rw[ha2]at hb2;cases hb2;have l1:=Paired.length r1;have l2:=Paired.length r2;refine .inr ⟨a1,a2,ys1,ys2,rfl,rfl,hH1,hH2,?_,?_,λz=>?_,λz p hp=>?_⟩
      ·rintro rfl;exact hl.1 (wm.mp l1)
      ·have:=Zs;omega
      ·subst z;rw[if_pos (wm.mp l2)]at e;cases e;exact k φ H _ (.refl _) R ha1
      ·rw[if_neg (λq=>z (by subst q;exact wm.mp l2.symm))]at e;cases e;exact k (φ++[p]) _ _ ⟨[p],rfl⟩ (R.newT hp (qd r1 r2)) R.lastRef
     ·cases e
    ·cases e
  ·replace e:=za e;obtain⟨i,j,rfl,rfl,e⟩:=e;cases e;cases qB rx;cases qB ry;exact .inl (.inl ⟨_,_,rfl,rfl,k φ H _ (.refl _) R rfl⟩)
 |sub=>
  replace e:=za e;obtain⟨i,j,rfl,rfl,e⟩:=e;cases e;cases qB rx;cases qB ry;exact⟨_,_,rfl,rfl,k φ H _ (.refl _) R rfl⟩
 |mul=>
  dsimp only[v5]at e;split at e
  ·split at e
   ·split at e
    ·rename_i xs e1;split at e
     ·rename_i hl;obtain⟨h0,hl,h3⟩:=hl;cases e;obtain⟨q1,a1,ys1,ha1,hH1,r1⟩:=R.mut e1;obtain⟨b1,rfl,hb1⟩:=qO rx;rw[ha1]at hb1;cases hb1;cases qB ry;refine .inl (.inr ⟨a1,_,ys1,rfl,rfl,hH1,by omega,by omega,?_,λp hp=>k (φ++[p]) _ _ ⟨[p],rfl⟩ (R.newL hp (JP r1 _)) R.lastRef⟩);have l1:=Paired.length r1;have:=Zs;rw[<-l1];omega
     ·cases e
    ·cases e
   ·cases e
  ·replace e:=za e;obtain⟨i,j,rfl,rfl,e⟩:=e;split at e
   ·rename_i hs;cases e;cases qB rx;cases qB ry;rw[vK,vK,wB]at hs;rcases hs with(z|z)|z
    ·exact .inl (.inl ⟨_,_,rfl,rfl,.inl (Q0 z),k φ H _ (.refl _) R rfl⟩)
    ·exact .inl (.inl ⟨_,_,rfl,rfl,.inr (Q0 z),k φ H _ (.refl _) R rfl⟩)
    ·exact .inr ⟨_,_,rfl,rfl,⟨N4 z.1,N4 z.2⟩,k φ H _ (.refl _) R rfl⟩
   ·cases e
 |fdiv=>
  replace e:=za e;obtain⟨i,j,rfl,rfl,e⟩:=e;split at e
  ·rename_i hc;cases e;cases qB rx;cases qB ry;rcases hc.2 with z|z
   ·exact .inl ⟨_,_,rfl,rfl,⟨hc.1,z⟩,k φ H _ (.refl _) R rfl⟩
   ·refine .inr ⟨_,_,rfl,rfl,⟨by omega,N4 z⟩,?_⟩;dsimp only;rw[vY _ (by omega)];exact k φ H _ (.refl _) R rfl
  ·split at e
   ·rename_i hc;cases e;cases qB rx;cases qB ry;exact .inr ⟨_,_,rfl,rfl,⟨by omega,N4 hc.2⟩,k φ H _ (.refl _) R rfl⟩
   ·cases e
 |mod=>
  replace e:=za e;obtain⟨i,j,rfl,rfl,e⟩:=e;split at e
  ·rename_i hc;cases e;cases qB rx;cases qB ry;exact .inl ⟨_,_,rfl,rfl,hc,k φ H _ (.refl _) R rfl⟩
  ·split at e
   ·rename_i hc;cases e;cases qB rx;cases qB ry;exact .inr ⟨_,_,rfl,rfl,(by omega),k φ H _ (.refl _) R rfl⟩
   ·cases e
 |pow=>
  replace e:=za e;obtain⟨i,j,rfl,rfl,e⟩:=e;split at e
  ·rename_i hc;cases e;cases qB rx;cases qB ry;refine⟨_,_,rfl,rfl,⟨hc.1,by omega,by omega⟩,k φ H _ (.refl _) R rfl⟩
  ·cases e
 |band=>
  replace e:=za e;obtain⟨i,j,rfl,rfl,e⟩:=e;cases e;cases qB rx;cases qB ry;exact⟨_,_,rfl,rfl,k φ H _ (.refl _) R rfl⟩
 |shr=>
  replace e:=za e;obtain⟨i,j,rfl,rfl,e⟩:=e;split at e
  ·rename_i hc;cases e;cases qB rx;cases qB ry;refine⟨_,_,rfl,rfl,hc.1,k φ H _ (.refl _) R rfl⟩
  ·cases e
 |bxor=>
  replace e:=za e;obtain⟨i,j,rfl,rfl,e⟩:=e;cases e;cases qB rx;cases qB ry;exact⟨_,_,rfl,rfl,k φ H _ (.refl _) R rfl⟩
theorem qA7{op:BOp}{ea eb:Expr}{pos:Pos}(ha:SE X G F ea a)(hb:SE X G F eb b):SE X G F (.BinOp ea (opB op) eb pos) (.bin op a b):=by
 refine zk (_L.pe_op (qBi op) ha hb) λσc H Q q=>?_;obtain⟨φ,h,σ,v,h',R,rs,e,k⟩:=q;unfold ev at e;obtain⟨⟨x,h1⟩,e1,e⟩:=tM e;obtain⟨⟨y,h2⟩,e2,e⟩:=tM e;exact QA R rs e1 e2 λφ2 H2 xc yc x2 R2 r1 r2=>qBw e R2 r1 r2 λφ' H' w x' R' r'=>k φ' H' w (x2.trans x') R' r'
theorem qAw{ea:Expr}{pos:Pos}(ha:SE X G F ea a):SE X G F (.UnaryOp .USub ea pos) (.neg a):=by
 refine zk (_L.pe_un _L.un_neg ha) λσc H Q q=>?_;obtain⟨φ,h,σ,v,h',R,rs,e,k⟩:=q;unfold ev at e;obtain⟨⟨x,h1⟩,e1,e⟩:=tM e;refine⟨φ,h,σ,x,h1,R,rs,e1,λφ1 H1 xc x1 R1 r1=>?_⟩;dsimp only at e;split at e
 ·cases e;cases qB r1;exact⟨_,rfl,k φ1 H1 _ x1 R1 rfl⟩
 ·cases e
end
open PySem.SeqAt
structure Eq3(A:Around)(s:Shared)(u w:Value)(b:Bool):Prop where
 eq:EqAt A s u w b
 rc:RcAt A s u w b
 ne:RcNeAt A s u w (!b)
theorem C2{A:Around}{s:Shared}{φ:List Addr}:∀{x y xc yc:V}{u w:Value}{b:Bool},eqF x y=some b->rv φ x xc->rv φ y yc->RelV xc u->RelV yc w->Eq3 A s u w b:=by
 intro x y xc yc u w b e rx ry ru rw';cases x with
 |non=>
  cases zy rx;cases ru;cases y with
  |non=>cases zy ry;cases rw';cases e;exact⟨.same _,.none_none,.none_none⟩
  |bl j=>cases jE ry;cases rw';cases e;exact⟨.none_bool _,.none_bool _,.none_bool _⟩
  |int j=>cases qB ry;obtain⟨t,rfl⟩:=rw';cases e;exact⟨.none_int _ _,.none_int _ _,.none_int _ _⟩
  |str j=>cases jL ry;obtain⟨t,rfl⟩:=rw';cases e;exact⟨.none_str _ _,.none_str _ _,.none_str _ _⟩
  |_=>cases e
 |bl i=>
  cases jE rx;cases ru;cases y with
  |non=>cases zy ry;cases rw';cases e;exact⟨.bool_none _,.bool_none _,.bool_none _⟩
  |bl j=>cases jE ry;cases rw';cases e;exact⟨.bool_bool _ _,.bool_bool _ _,.bool_bool _ _⟩
  |int j=>cases qB ry;obtain⟨t,rfl⟩:=rw';cases e;exact⟨.bool_int _ _ _,.bool_int _ _ _,.bool_int _ _ _⟩
  |str j=>cases jL ry;obtain⟨t,rfl⟩:=rw';cases e;exact⟨.bool_str _ _ _,.bool_str _ _ _,.bool_str _ _ _⟩
  |_=>cases e
 |int i=>
  cases qB rx;obtain⟨t,rfl⟩:=ru;cases y with
  |non=>cases zy ry;cases rw';cases e;exact⟨.int_none _ _,.int_none _ _,.int_none _ _⟩
  |bl j=>cases jE ry;cases rw';cases e;exact⟨.int_bool _ _ _,.int_bool _ _ _,.int_bool _ _ _⟩
  |int j=>cases qB ry;obtain⟨t,rfl⟩:=rw';cases e;exact⟨.int_int _ _ _ _,.int_int _ _ _ _,.int_int _ _ _ _⟩
  |str j=>cases jL ry;obtain⟨t,rfl⟩:=rw';cases e;exact⟨.int_str _ _ _ _,.int_str _ _ _ _,.int_str _ _ _ _⟩
  |_=>cases e
 |str i=>
  cases jL rx;obtain⟨t,rfl⟩:=ru;cases y with
  |non=>cases zy ry;cases rw';cases e;exact⟨.str_none _ _,.str_none _ _,.str_none _ _⟩
  |bl j=>cases jE ry;cases rw';cases e;exact⟨.str_bool _ _ _,.str_bool _ _ _,.str_bool _ _ _⟩
  |int j=>cases qB ry;obtain⟨t,rfl⟩:=rw';cases e;exact⟨.str_int _ _ _ _,.str_int _ _ _ _,.str_int _ _ _ _⟩
  |str j=>cases jL ry;obtain⟨t,rfl⟩:=rw';cases e;exact⟨.str_str _ _ _ _,.str_str _ _ _ _,.str_str _ _ _ _⟩
  |_=>cases e
 |_=>cases y<;>cases e
theorem P8{φ:List Addr}{x y w:V}{b:Bool}(e:eqF x y=some b)(rx:rv φ x w)(ry:rv φ y w):b=true:=by
 cases x with
 |non=>cases zy rx;cases y<;>first|exact False.elim ry|(cases e;rfl)|cases e
 |bl i=>cases jE rx;cases y<;>first|exact False.elim ry|(rename_i j;cases (show j=i from ry);cases e;simp)|cases e
 |int i=>cases qB rx;cases y<;>first|exact False.elim ry|(rename_i j;cases (show j=i from ry);cases e;simp)|cases e
 |str i=>cases jL rx;cases y<;>first|exact False.elim ry|(rename_i j;cases (show j=i from ry);cases e;simp)|cases e
 |_=>cases y<;>cases e
theorem Zp{f:V->V->Option Bool}:∀{xs ys:List V}{bs:List Bool},Zy f xs ys=some bs->bs.length=xs.length/\ys.length=xs.length/\∀(j:Nat) x y,xs[j]?=some x->ys[j]?=some y->∃b,bs[j]?=some b/\f x y=some b
 | [],[],bs,e=>by
  cases e;exact⟨rfl,rfl,λj x y h=>by simp at h⟩
 | [],_::_,_,e=>by cases e
 |_::_,[],_,e=>by cases e
 |x::xs,y::ys,bs,e=>by
  unfold Zy at e;split at e
  ·rename_i b bs' e1 e2;cases e;obtain⟨l1,l2,k⟩:=Zp e2;refine⟨by simp[l1],by simp[l2],λj u v h1 h2=>?_⟩;cases j with
   |zero=>simp at h1 h2;subst h1 h2;exact⟨b,rfl,e1⟩
   |succ j=>obtain⟨b',h3,h4⟩:=k j u v (by simpa using h1) (by simpa using h2);exact⟨b',by simpa using h3,h4⟩
  ·cases e
theorem C5(bs:List Bool):(List.range bs.length).all (λj=>bs.getD j true)=bs.all id:=by
 rw[wq];simp only[wS,wM,id];constructor
 ·intro h b hb;obtain⟨j,hj,rfl⟩:=vZ.mp hb;have:=h j hj;rw[wR,wE hj]at this;exact this
 ·intro h j hj;rw[wR,wE hj];exact h _ (vc hj)
section
variable{X:Cx}{G φ:List Addr}{h:AH}{H:Hp}{pins:List (Addr×Obj)}{σ:_L.St}{s:Shared}
theorem O6(I:Inv X pins σ H s)(R:Rl X.K G φ h H):∀(n:Nat){x y w:V}{b:Bool},eqD h n x y=some b->rv φ x w->rv φ y w->b=true
 | 0,x,y,w,b,e,rx,ry=>P8 e rx ry
 |n+1,x,y,w,b,e,rx,ry=>by
  have all:∀{xs ys zs:List V}{bs:List Bool},rvs φ xs zs->rvs φ ys zs->Zy (eqD h n) xs ys=some bs->bs.all id=true:=λ{xs ys zs bs} r1 r2 e=>by
   obtain⟨l1,l2,k⟩:=Zp e;rw[wS];intro b hb;obtain⟨j,hj,rfl⟩:=vZ.mp hb;have hx:j<xs.length:=by omega
   have hy:j<ys.length:=by omega
   obtain⟨b',hb',e'⟩:=k j _ _ (wE hx) (wE hy);rw[wE hj]at hb';cases hb';obtain⟨z,hz,q1⟩:=qJ r1 (wE hx);obtain⟨z',hz',q2⟩:=qJ r2 (wE hy);rw[hz]at hz';cases hz';exact O6 I R n e' q1 q2
  cases x with
  |ref a=>
   obtain⟨p,rfl,hp⟩:=qO rx;cases y with
   |ref c=>
    have hc:φ[c]?=some p:=ry;simp only[eqD]at e;split at e
    ·rename_i f1 xs f2 ys e1 e2;split at e
     ·cases e;rfl
     ·obtain⟨p1,z1,q1,s1,r1⟩:=R.lst (i:=a) (xs:=xs) (by unfold qK;rw[e1]);obtain⟨p2,z2,q2,s2,r2⟩:=R.lst (i:=c) (xs:=ys) (by unfold qK;rw[e2]);rw[hp]at q1;cases q1;rw[hc]at q2;cases q2;have:=I.list_inj s1 s2;subst this;split at e
      ·obtain⟨bs,e3,rfl⟩:=wA.mp e;exact all r1 r2 e3
      ·rename_i hne;exact absurd ((Paired.length r1).trans (Paired.length r2).symm) hne
    ·rename_i xs ys e1 e2;split at e
     ·cases e;rfl
     ·obtain⟨p1,z1,q1,s1,r1⟩:=R.tup (i:=a) (xs:=xs) (by unfold qt;rw[e1]);obtain⟨p2,z2,q2,s2,r2⟩:=R.tup (i:=c) (xs:=ys) (by unfold qt;rw[e2]);rw[hp]at q1;cases q1;rw[hc]at q2;cases q2;have:=I.tuple_inj s1 s2;subst this;split at e
      ·obtain⟨bs,e3,rfl⟩:=wA.mp e;exact all r1 r2 e3
      ·rename_i hne;exact absurd ((Paired.length r1).trans (Paired.length r2).symm) hne
    ·rename_i f1 xs ys e1 e2;obtain⟨p1,z1,q1,s1,r1⟩:=R.lst (i:=a) (xs:=xs) (by unfold qK;rw[e1]);obtain⟨p2,z2,q2,s2,r2⟩:=R.tup (i:=c) (xs:=ys) (by unfold qt;rw[e2]);rw[hp]at q1;cases q1;rw[hc]at q2;cases q2;obtain⟨i1,_,t1,_⟩:=I.list s1;obtain⟨i2,_,t2,_⟩:=I.tuple s2;exact absurd rfl (ne_of_list_tuple t1.isList t2)
    ·rename_i xs f1 ys e1 e2;obtain⟨p1,z1,q1,s1,r1⟩:=R.tup (i:=a) (xs:=xs) (by unfold qt;rw[e1]);obtain⟨p2,z2,q2,s2,r2⟩:=R.lst (i:=c) (xs:=ys) (by unfold qK;rw[e2]);rw[hp]at q1;cases q1;rw[hc]at q2;cases q2;obtain⟨i1,_,t1,_⟩:=I.tuple s1;obtain⟨i2,_,t2,_⟩:=I.list s2;exact absurd rfl (ne_of_list_tuple t2.isList t1)
    ·cases e
   |_=>exact False.elim ry
  |_=>
   cases y with
   |ref c=>
    obtain⟨p,rfl,hp⟩:=qO ry;exact False.elim rx
   |_=>exact P8 e rx ry
theorem Z8(I:Inv X pins σ H s)(R:Rl X.K G φ h H):∀(n:Nat){A:Around}{x y xc yc:V}{u w:Value}{b:Bool},A.units+n<cLine->eqD h n x y=some b->rv φ x xc->rv φ y yc->RelV xc u->RelV yc w->Eq3 A s u w b
 | 0,A,x,y,xc,yc,u,w,b,hu,e,rx,ry,ru,rw'=>C2 e rx ry ru rw'
 |n+1,A,x,y,xc,yc,u,w,b,hu,e,rx,ry,ru,rw'=>by
  have hu0:A.units<cLine:=by omega
  have hu1:A.in1.units+n<cLine:=by show A.units+1+n<cLine;omega
  have item:∀{xs ys zs ts:List V}{us ws:List Value}{bs:List Bool},rvs φ xs zs->rvs φ ys ts->Vals zs us->Vals ts ws->Zy (eqD h n) xs ys=some bs->us.length=bs.length/\ws.length=bs.length/\
    ∀(j:Nat) (h1:j<us.toArray.size) (h2:j<ws.toArray.size),EqAt A.in1 s us.toArray[j] ws.toArray[j] (bs.getD j true):=λ{xs ys zs ts us ws bs} r1 r2 v1 v2 e=>by
   obtain⟨l1,l2,k⟩:=Zp e;have n1:=Paired.length r1;have n2:=Paired.length r2;have n3:=v1.length;have n4:=v2.length;refine⟨by omega,by omega,λj h1 h2=>?_⟩;have g1:j<us.length:=by simpa using h1
   have g2:j<ws.length:=by simpa using h2
   have hx:j<xs.length:=by omega
   have hy:j<ys.length:=by omega
   obtain⟨b',hb',e'⟩:=k j _ _ (wE hx) (wE hy);obtain⟨z,hz,q1⟩:=qJ r1 (wE hx);obtain⟨t,ht,q2⟩:=qJ r2 (wE hy);obtain⟨u',hu',q3⟩:=v1.get hz;obtain⟨w',hw',q4⟩:=v2.get ht;rw[wE g1]at hu';rw[wE g2]at hw';cases hu';cases hw';rw[wR,hb'];have:=(Z8 I R n (A:=A.in1) hu1 e' q1 q2 q3 q4).eq;simpa using this
  have refs:∀{a:Nat}{p:Addr}{v:V}{b:Bool},φ[a]?=some p->(if (items h a).isSome&&flat v then some false else none)=some b->b=false/\∃its,s.heap.IsList p its\/s.heap.IsTuple p its:=λ{a p v b} hp e=>by
   cases ea:h[a]? with
   |none=>rw[show items h a=none from(by unfold items;rw[ea])]at e;cases e
   |some o=>
    have hb:b=false:=by
     split at e
     ·cases e;rfl
     ·cases e
    refine⟨hb,?_⟩;cases o with
    |lst f xs=>
     obtain⟨p1,z1,q1,s1,r1⟩:=R.lst (i:=a) (xs:=xs) (by unfold qK;rw[ea]);rw[hp]at q1;cases q1;obtain⟨i1,_,t1,_⟩:=I.list s1;exact⟨_,.inl t1.isList⟩
    |tup xs=>
     obtain⟨p1,z1,q1,s1,r1⟩:=R.tup (i:=a) (xs:=xs) (by unfold qt;rw[ea]);rw[hp]at q1;cases q1;obtain⟨i1,_,t1,_⟩:=I.tuple s1;exact⟨_,.inr t1⟩
    |ob ks=>rw[show items h a=none from(by unfold items;rw[ea])]at e;cases e
  cases x with
  |ref a=>
   obtain⟨p,rfl,hp⟩:=qO rx;cases ru;cases y with
   |ref c=>
    obtain⟨q,rfl,hq⟩:=qO ry;cases rw';have same:p=q->b=true:=λz=>by
     subst z;exact O6 I R (n+1) e rx (show rv φ (.ref c) (.ref p) from hq)
    simp only[eqD]at e;split at e
    ·rename_i f1 xs f2 ys e1 e2;obtain⟨p1,z1,q1,s1,r1⟩:=R.lst (i:=a) (xs:=xs) (by unfold qK;rw[e1]);obtain⟨p2,z2,q2,s2,r2⟩:=R.lst (i:=c) (xs:=ys) (by unfold qK;rw[e2]);rw[hp]at q1;cases q1;rw[hq]at q2;cases q2;obtain⟨i1,v1,t1,_⟩:=I.list s1;obtain⟨i2,v2,t2,_⟩:=I.list s2;split at e
     ·rename_i hac;subst hac;rw[hp]at hq;cases hq;cases e;have rc:=RcAt.lists (A:=A) (e:=λ_=>true) t1.isList t1.isList rfl hu0 λj _ _=>EqAt.same _;have ne:=RcNeAt.lists (A:=A) (e:=λ_=>true) t1.isList t1.isList rfl hu0 λj _ _=>EqAt.same _;have al:∀l:List Nat,(l.all λ_=>true)=true:=λl=>by simp
      rw[al]at rc ne;exact⟨.same _,rc,ne⟩
     ·split at e
      ·obtain⟨bs,e3,rfl⟩:=wA.mp e;obtain⟨m1,m2,he⟩:=item r1 r2 v1 v2 e3;have hsz:i1.toArray.size=i2.toArray.size:=by simp;omega
       have rc:=RcAt.lists (A:=A) (e:=λj=>bs.getD j true) t1.isList t2.isList hsz hu0 he;have ne:=RcNeAt.lists (A:=A) (e:=λj=>bs.getD j true) t1.isList t2.isList hsz hu0 he;have sz:i1.toArray.size=bs.length:=by simpa using m1
       rw[sz,C5]at rc ne;refine⟨?_,rc,ne⟩;by_cases hpq:p=q
       ·rw[same hpq];subst hpq;exact .same _
       ·exact .of_refs hpq rc
      ·rename_i hl;cases e;have n1:=Paired.length r1;have n2:=Paired.length r2;have n3:=v1.length;have n4:=v2.length;have hsz:(i1.toArray.size != i2.toArray.size)=true:=by simp;omega
       have rc:=RcAt.lists_lengths (A:=A) t1.isList t2.isList hsz hu0;have ne:=RcNeAt.lists_lengths (A:=A) t1.isList t2.isList hsz hu0;refine⟨?_,rc,ne⟩;by_cases hpq:p=q
       ·exact absurd (same hpq) (by decide)
       ·exact .of_refs hpq rc
    ·rename_i xs ys e1 e2;obtain⟨p1,z1,q1,s1,r1⟩:=R.tup (i:=a) (xs:=xs) (by unfold qt;rw[e1]);obtain⟨p2,z2,q2,s2,r2⟩:=R.tup (i:=c) (xs:=ys) (by unfold qt;rw[e2]);rw[hp]at q1;cases q1;rw[hq]at q2;cases q2;obtain⟨i1,v1,t1,_⟩:=I.tuple s1;obtain⟨i2,v2,t2,_⟩:=I.tuple s2;have t1':s.heap.IsTuple p i1.toArray:=t1;have t2':s.heap.IsTuple q i2.toArray:=t2;split at e
     ·rename_i hac;subst hac;rw[hp]at hq;cases hq;cases e;have rc:=RcAt.tuples (A:=A) (e:=λ_=>true) t1' t1' hu0 λj _ _=>EqAt.same _;have ne:=RcNeAt.tuples (A:=A) (e:=λ_=>true) t1' t1' hu0 λj _ _=>EqAt.same _;have al:∀l:List Nat,(l.all λ_=>true)=true:=λl=>by simp
      rw[al]at rc ne;simp only[uF,Bool.and_self]at rc ne;exact⟨.same _,rc,ne⟩
     ·split at e
      ·obtain⟨bs,e3,rfl⟩:=wA.mp e;obtain⟨m1,m2,he⟩:=item r1 r2 v1 v2 e3;have hsz:i1.toArray.size=i2.toArray.size:=by simp;omega
       have rc:=RcAt.tuples (A:=A) (e:=λj=>bs.getD j true) t1' t2' hu0 he;have ne:=RcNeAt.tuples (A:=A) (e:=λj=>bs.getD j true) t1' t2' hu0 he;have sz:i1.toArray.size=bs.length:=by simpa using m1
       have sz2:i2.toArray.size=bs.length:=by simpa using m2
       rw[sz,sz2,Nat.min_self,C5,uF,vg]at rc ne;refine⟨?_,rc,ne⟩;by_cases hpq:p=q
       ·rw[same hpq];subst hpq;exact .same _
       ·exact .of_refs hpq rc
      ·rename_i hl;have n1:=Paired.length r1;have n2:=Paired.length r2;have n3:=v1.length;have n4:=v2.length;obtain⟨bs,e3,hb⟩:=wA.mp e;subst hb;have hsz:(i1.toArray.size==i2.toArray.size)=false:=by simp;omega
       obtain⟨m1,m2,he⟩:=item (jg ys.length r1) (jg xs.length r2) (v1.take ys.length) (v2.take xs.length) e3;have he':∀(j:Nat) (h1:j<i1.toArray.size) (h2:j<i2.toArray.size),EqAt A.in1 s i1.toArray[j] i2.toArray[j] (bs.getD j true):=λj h1 h2=>by
        have g1:j<i1.length:=by simpa using h1
        have g2:j<i2.length:=by simpa using h2
        have:=he j (by simp;omega) (by simp;omega);simpa using this
       have rc:=RcAt.tuples (A:=A) (e:=λj=>bs.getD j true) t1' t2' hu0 he';have ne:=RcNeAt.tuples (A:=A) (e:=λj=>bs.getD j true) t1' t2' hu0 he';rw[hsz,Bool.and_false]at rc ne;refine⟨?_,rc,ne⟩;by_cases hpq:p=q
       ·exact absurd (same hpq) (by decide)
       ·exact .of_refs hpq rc
    ·rename_i f1 xs ys e1 e2;cases e;obtain⟨p1,z1,q1,s1,r1⟩:=R.lst (i:=a) (xs:=xs) (by unfold qK;rw[e1]);obtain⟨p2,z2,q2,s2,r2⟩:=R.tup (i:=c) (xs:=ys) (by unfold qt;rw[e2]);rw[hp]at q1;cases q1;rw[hq]at q2;cases q2;obtain⟨i1,_,t1,_⟩:=I.list s1;obtain⟨i2,_,t2,_⟩:=I.tuple s2;exact⟨.list_tuple t1.isList t2 hu0,.list_tuple t1.isList t2 hu0,.list_tuple t1.isList t2 hu0⟩
    ·rename_i xs f1 ys e1 e2;cases e;obtain⟨p1,z1,q1,s1,r1⟩:=R.tup (i:=a) (xs:=xs) (by unfold qt;rw[e1]);obtain⟨p2,z2,q2,s2,r2⟩:=R.lst (i:=c) (xs:=ys) (by unfold qK;rw[e2]);rw[hp]at q1;cases q1;rw[hq]at q2;cases q2;obtain⟨i1,_,t1,_⟩:=I.tuple s1;obtain⟨i2,_,t2,_⟩:=I.list s2;exact⟨.tuple_list t1 t2.isList hu0,.tuple_list t1 t2.isList hu0,.tuple_list t1 t2.isList hu0⟩
    ·cases e
   |non=>
    cases zy ry;cases rw';rcases refs hp (show (if (items h a).isSome&&flat V.non then some false else none)=some b from e) with⟨rfl,its,t|t⟩
    ·exact⟨.list_none t hu0,.list_none t hu0,.list_none t hu0⟩
    ·exact⟨.tuple_none t hu0,.tuple_none t hu0,.tuple_none t hu0⟩
   |bl j=>
    cases jE ry;cases rw';rcases refs hp (show (if (items h a).isSome&&flat (V.bl j) then some false else none)=some b from e) with⟨rfl,its,t|t⟩
    ·exact⟨.list_bool _ t hu0,.list_bool _ t hu0,.list_bool _ t hu0⟩
    ·exact⟨.tuple_bool _ t hu0,.tuple_bool _ t hu0,.tuple_bool _ t hu0⟩
   |int j=>
    cases qB ry;obtain⟨t',rfl⟩:=rw';rcases refs hp (show (if (items h a).isSome&&flat (V.int j) then some false else none)=some b from e) with⟨rfl,its,t|t⟩
    ·exact⟨.list_int _ _ t hu0,.list_int _ _ t hu0,.list_int _ _ t hu0⟩
    ·exact⟨.tuple_int _ _ t hu0,.tuple_int _ _ t hu0,.tuple_int _ _ t hu0⟩
   |str j=>
    cases jL ry;obtain⟨t',rfl⟩:=rw';rcases refs hp (show (if (items h a).isSome&&flat (V.str j) then some false else none)=some b from e) with⟨rfl,its,t|t⟩
    ·exact⟨.list_str _ _ t hu0,.list_str _ _ t hu0,.list_str _ _ t hu0⟩
    ·exact⟨.tuple_str _ _ t hu0,.tuple_str _ _ t hu0,.tuple_str _ _ t hu0⟩
   |_=>exact False.elim ry
  |non=>
   cases y with
   |ref c=>
    obtain⟨p,rfl,hp⟩:=qO ry;cases rw';cases zy rx;cases ru;rcases refs hp (show (if (items h c).isSome&&flat V.non then some false else none)=some b from(Bool.and_comm _ _) ▸ e) with⟨rfl,its,t|t⟩
    ·exact⟨.none_list t hu0,.none_list t hu0,.none_list t hu0⟩
    ·exact⟨.none_tuple t hu0,.none_tuple t hu0,.none_tuple t hu0⟩
   |_=>exact C2 e rx ry ru rw'
  |bl i=>
   cases y with
   |ref c=>
    obtain⟨p,rfl,hp⟩:=qO ry;cases rw';cases jE rx;cases ru;rcases refs hp (show (if (items h c).isSome&&flat (V.bl i) then some false else none)=some b from(Bool.and_comm _ _) ▸ e) with⟨rfl,its,t|t⟩
    ·exact⟨.bool_list _ t hu0,.bool_list _ t hu0,.bool_list _ t hu0⟩
    ·exact⟨.bool_tuple _ t hu0,.bool_tuple _ t hu0,.bool_tuple _ t hu0⟩
   |_=>exact C2 e rx ry ru rw'
  |int i=>
   cases y with
   |ref c=>
    obtain⟨p,rfl,hp⟩:=qO ry;cases rw';cases qB rx;obtain⟨t',rfl⟩:=ru;rcases refs hp (show (if (items h c).isSome&&flat (V.int i) then some false else none)=some b from(Bool.and_comm _ _) ▸ e) with⟨rfl,its,t|t⟩
    ·exact⟨.int_list _ _ t hu0,.int_list _ _ t hu0,.int_list _ _ t hu0⟩
    ·exact⟨.int_tuple _ _ t hu0,.int_tuple _ _ t hu0,.int_tuple _ _ t hu0⟩
   |_=>exact C2 e rx ry ru rw'
  |str i=>
   cases y with
   |ref c=>
    obtain⟨p,rfl,hp⟩:=qO ry;cases rw';cases jL rx;obtain⟨t',rfl⟩:=ru;rcases refs hp (show (if (items h c).isSome&&flat (V.str i) then some false else none)=some b from(Bool.and_comm _ _) ▸ e) with⟨rfl,its,t|t⟩
    ·exact⟨.str_list _ _ t hu0,.str_list _ _ t hu0,.str_list _ _ t hu0⟩
    ·exact⟨.str_tuple _ _ t hu0,.str_tuple _ _ t hu0,.str_tuple _ _ t hu0⟩
   |_=>exact C2 e rx ry ru rw'
  |_=>cases xc<;>exact False.elim rx
end
theorem K3{φ:List Addr}:∀{x w:V},flat x=true->rv φ x w->w=x
 | .non,_,_,h=>zy h
 | .bl _,_,_,h=>jE h
 | .int _,_,_,h=>qB h
 | .str _,_,_,h=>jL h
 | .ref _,_,f,_=>by cases f
 | .byt _,_,f,_=>by cases f
 | .flt _,_,f,_=>by cases f
 | .ty _,_,f,_=>by cases f
theorem jf{φ:List Addr}:∀{xs ws:List V},xs.all flat=true->rvs φ xs ws->ws=xs
 |_,_,_,.nil=>rfl
 |x::xs,w::ws,f,.cons r t=>by
  simp only[List.all_cons,wB]at f;rw[K3 f.1 r,jf f.2 t]
theorem O4:∀x:V,_L.flatV x=flat x:=by intro x;cases x<;>rfl
theorem Y1(xs:List V):xs.all _L.flatV=xs.all flat:=by
 induction xs with
 |nil=>rfl
 |cons x xs ih=>rw[List.all_cons,List.all_cons,ih,O4]
section
variable{X:Cx}{G:List Addr}{F:Nat->List V->AH->RV}
noncomputable def opC:COp->CmpOp
 | .lt=>.Lt | .le=>.LtE | .gt=>.Gt | .ge=>.GtE | .eq=>.Eq | .ne=>.NotEq | .inn=>.In | .notin=>.NotIn | .is=>.Is | .isnot=>.IsNot
variable (X G) in
noncomputable def qCF(op:COp):R2:=λx y H Q=>∃φ h xa ya b,Rl X.K G φ h H/\rv φ xa x/\rv φ ya y/\U9 op xa ya h=some b/\Q (.bl b) H
theorem O5{φ:List Addr}{x y:V}(r:rv φ x y):decide (x=V.non)=decide (y=V.non):=by
 by_cases hx:x=V.non
 ·subst hx;cases zy r;rfl
 ·have hy:y≠V.non:=λhy=>by subst hy;cases x<;>first|exact hx rfl|exact False.elim r
  rw[uA hx,uA hy]
theorem J8(kvs:List (Int×V))(i:Int):((kvs.map kk).any λkv=>decide (kv.1=Sum.inl i))=qC0 kvs i:=by
 unfold qC0;rw[List.any_map];congr 1
 funext p
 show decide ((Sum.inl p.1:_L.Key)=Sum.inl i)=_;rw[wq];simp
theorem qCN(kvs:List (Int×V))(i:Int)(v:V):_L.putK (kvs.map kk) (Sum.inl i:_L.Key) v=(qFr kvs i v).map kk:=by
 unfold _L.putK qFr;rw[J8];split
 ·rw[List.map_map,List.map_map];congr 1
  funext p
  show (if (Sum.inl p.1:_L.Key)=Sum.inl i then ((Sum.inl p.1:_L.Key),v) else kk p)=kk (if p.1=i then (p.1,v) else p);by_cases h:p.1=i
  ·rw[if_pos (by rw[h]),if_pos h];rfl
  ·rw[if_neg (λz=>h (Sum.inl.inj z)),if_neg h]
 ·rw[vL];rfl
theorem jB(hu:X.A.units+8<cLine):∀op,OpR X (compareOp (opC op)) (qCF X G op):=by
 intro op pins s σ H x y v u Q I rx ry ⟨φ,h,xa,ya,b,R,r1,r2,e,q⟩;have hin:∀(neg:Bool){p:Nat}{ya':V}(e:(match items h p with|some xs=>if flat xa&&xs.all flat then some (if neg then !(xs.any λy=>_L.eqV y xa) else xs.any λy=>_L.eqV y xa) else none|none=>none)=some b),rv φ (.ref p) y->_L.rIn X.K neg x y H Q:=by
  intro neg p ya' e r2;split at e
  ·rename_i xs ex;split at e
   ·rename_i hf;simp only[wB]at hf;obtain⟨a,ys,ha,hs,rs⟩:=R.its ex;obtain⟨a',rfl,ha'⟩:=qO r2;rw[ha]at ha';cases ha';have e1:=K3 hf.1 r1;have e2:=jf hf.2 rs;subst e1 e2;refine⟨a,ys,rfl,hs,by rw[O4];exact hf.1,by rw[Y1];exact hf.2,?_⟩;cases e;exact q
   ·cases e
  ·cases e
 cases op with
 |lt=>
  replace e:=ZT e;obtain⟨i,j,rfl,rfl,rfl⟩:=e;cases qB r1;cases qB r2;exact _L.op_lt pins s σ H _ _ v u Q I rx ry ⟨_,_,rfl,rfl,q⟩
 |le=>
  replace e:=ZT e;obtain⟨i,j,rfl,rfl,rfl⟩:=e;cases qB r1;cases qB r2;exact _L.op_le pins s σ H _ _ v u Q I rx ry ⟨_,_,rfl,rfl,q⟩
 |gt=>
  replace e:=ZT e;obtain⟨i,j,rfl,rfl,rfl⟩:=e;cases qB r1;cases qB r2;exact _L.op_gt pins s σ H _ _ v u Q I rx ry ⟨_,_,rfl,rfl,q⟩
 |ge=>
  replace e:=ZT e;obtain⟨i,j,rfl,rfl,rfl⟩:=e;cases qB r1;cases qB r2;exact _L.op_ge pins s σ H _ _ v u Q I rx ry ⟨_,_,rfl,rfl,q⟩
 |eq=>exact(Z8 I R 4 (by omega) (show eqD h 4 xa ya=some b from e) r1 r2 rx ry).rc _ _ _ _ ⟨.bl b,H,I,rfl,q⟩
 |ne=>
  have e':(eqD h 4 xa ya).map (!·)=some b:=e;obtain⟨c,e1,rfl⟩:=wA.mp e';exact(Z8 I R 4 (by omega) e1 r1 r2 rx ry).ne _ _ _ _ ⟨.bl (!c),H,I,rfl,q⟩
 |inn=>
  replace e:=P3 e;obtain⟨p,rfl,e⟩:=e;cases ei:items h p with
  |some xs=>exact _L.op_in_seq pins s σ H x y v u Q I rx ry (hin false (ya':=.non) (by rw[ei]at e ⊢;exact e) r2)
  |none=>
   rw[ei]at e;dsimp only at e;split at e
   ·rename_i kvs ed;split at e
    ·rename_i i;cases e;obtain⟨a,ea,_,hH⟩:=R.dct ed;obtain⟨a',rfl,ha'⟩:=qO r2;rw[ea]at ha';cases ha';cases qB r1;cases ry;refine _L.d_in (by omega) I (_L.DGet.k (k:=.inl i) hH) rx λs' I'=>⟨.bl (_L.valV (kvs.map kk) (Sum.inl i)).isSome,H,I',rfl,?_⟩
     rw[<-_L.valV_any,J8];exact q
    ·cases e
   ·cases e
 |notin=>
  replace e:=P3 e;obtain⟨p,rfl,e⟩:=e;cases ei:items h p with
  |some xs=>exact _L.op_notIn_seq pins s σ H x y v u Q I rx ry (hin true (ya':=.non) (by rw[ei]at e ⊢;exact e) r2)
  |none=>
   rw[ei]at e;dsimp only at e;split at e
   ·rename_i kvs ed;split at e
    ·rename_i i;cases e;obtain⟨a,ea,_,hH⟩:=R.dct ed;obtain⟨a',rfl,ha'⟩:=qO r2;rw[ea]at ha';cases ha';cases qB r1;cases ry;refine _L.d_notIn (by omega) I (_L.DGet.k (k:=.inl i) hH) rx λs' I'=>⟨.bl (!(_L.valV (kvs.map kk) (Sum.inl i)).isSome),H,I',rfl,?_⟩
     rw[<-_L.valV_any,J8];exact q
    ·cases e
   ·cases e
 |is=>
  rcases Y4 (show isC xa ya id=some b from e) with⟨rfl,rfl⟩|⟨c,d,rfl,rfl,rfl⟩
  ·cases zy r2;rw[O5 r1]at q;exact _L.op_isN pins s σ H x _ v u Q I rx ry ⟨rfl,q⟩
  ·cases jE r1;cases jE r2;cases (show v=Value.bool c from rx);cases (show u=Value.bool d from ry);exact PySem.wpAny_is_plain rfl ⟨.bl (c==d),H,I,(by cases c<;>cases d<;>rfl),q⟩
 |isnot=>
  rcases Y4 (show isC xa ya (!·)=some b from e) with⟨rfl,rfl⟩|⟨c,d,rfl,rfl,rfl⟩
  ·cases zy r2;rw[O5 r1]at q;exact _L.op_notN pins s σ H x _ v u Q I rx ry ⟨rfl,q⟩
  ·cases jE r1;cases jE r2;cases (show v=Value.bool c from rx);cases (show u=Value.bool d from ry);exact PySem.wpAny_isNot_plain rfl ⟨.bl (!(c==d)),H,I,(by cases c<;>cases d<;>rfl),q⟩
theorem Js:∀{bs:List Bool}{us:List Value},Vals (bs.map V.bl) us->LSm.BoolsAre us bs
 | [],_,.nil=>.nil
 |b::bs,u::us,.cons r t=>by
  cases (show u=Value.bool b from r);exact .cons b (Js t)
theorem T6{A:Around}{E:Value->Shared->Prop}{prog:Program}{w:World}{s:Shared}{l:Addr}{vs:List Value}{bs:List Bool}{Q:Value->Shared->Prop}(hh:A.handled=none)(hl:s.heap.IsList l vs.toArray)(hb:LSm.BoolsAre vs bs)
  (h:∀h' tk,(∀b x,s.heap.get? b=some x->h'.get? b=some x)->Q (.bool (bs.all id)) { s with heap:=h',toks:=tk }):wpAny (model prog w) A (call (.builtin "all") [.ref l]) Q E s:=by
 have hlt:l<s.heap.objs.size:=by obtain⟨_,e,_⟩:=hl;exact Heap.lt_size e
 refine call_all_walk (wpAny_pyIter_list hl ?_);refine⟨s.heap.objs.size,[s.heap.objs.size,l],[s.heap.objs.size],vs.toArray.size,_,_,λi=>(bs[i]?).getD true,rfl,Walks.list (A:=A.in1) hh _ l (wZ hlt) vs.toArray,
  ⟨⟨_,Heap.get?_push_size _ rfl,rfl,rfl⟩,hl.push _⟩,λi v s' Q' E' hP hQ=>?_,λh' tk hk=>?_⟩
 ·obtain⟨b,e,rfl⟩:=hb.get i v (by simpa using hP);simp only[e,vo]at hQ;exact uE hQ
 ·have e:((List.range vs.toArray.size).all λi=>(bs[i]?).getD true)=bs.all id:=by
   rw[wJ,hb.length];exact LSm.range_all bs
  rw[e];exact h h' tk (LSm.kept_iter hk)
theorem J6{A:Around}{E:Value->Shared->Prop}{prog:Program}{w:World}{s:Shared}{l:Addr}{vs:List Value}{ns:List Int}{M:Int}{Q:Value->Shared->Prop}(hh:A.handled=none)(hl:s.heap.IsList l vs.toArray)(hi:IntsAre vs ns)(hM:qB1 ns=some M)
  (h:∀h' tk (t:Tok),(∀b x,s.heap.get? b=some x->h'.get? b=some x)->Q (.int M t) { s with heap:=h',toks:=tk }):wpAny (model prog w) A (call (.builtin "max") [.ref l]) Q E s:=by
 obtain⟨m1,m2⟩:=W0 hM;obtain⟨xs,e⟩:=hi.allInts.items;have hns:ns=xs.toList.map (·.1):=by rw[<-hi.numsOf,<-nums_intItems,<-e]
 have hsz:0<xs.size:=by
  have h3:=List.length_pos_of_mem m1;rw[hns,wW,vE]at h3;exact h3
 rw[e]at hl;refine max_intList hh hl hsz λv h' tk hv hk=>?_;obtain⟨t,rfl⟩:=intItems_at hv;obtain⟨h1,h2⟩:=argBest_gt (numAt xs) (xs.size-1);have e1:numAt xs (argBest (λi j=>decide (numAt xs i>numAt xs j)) (xs.size-1))=M:=by
  refine Int.le_antisymm (m2 _ ?_) ?_
  ·rw[hns,numAt_eq];exact getD_mem (by rw[wW,vE];omega)
  ·have ha:=m1;rw[hns]at ha;obtain⟨j,hj,e2⟩:=mem_getD ha;rw[wW,vE]at hj;rw[<-e2,<-numAt_eq];exact h2 j (by omega)
 rw[e1];exact h h' tk t hk
theorem T7{A:Around}{E:Value->Shared->Prop}{prog:Program}{w:World}{s:Shared}{l:Addr}{vs:List Value}{bs:List Bool}{Q:Value->Shared->Prop}(hh:A.handled=none)(hl:s.heap.IsList l vs.toArray)(hb:LSm.BoolsAre vs bs)
  (h:∀h' tk,(∀b x,s.heap.get? b=some x->h'.get? b=some x)->Q (.bool (bs.any id)) { s with heap:=h',toks:=tk }):wpAny (model prog w) A (call (.builtin "any") [.ref l]) Q E s:=by
 have hlt:l<s.heap.objs.size:=by obtain⟨_,e,_⟩:=hl;exact Heap.lt_size e
 refine call_any_walk (wpAny_pyIter_list hl ?_);refine⟨s.heap.objs.size,[s.heap.objs.size,l],[s.heap.objs.size],vs.toArray.size,_,_,λi=>(bs[i]?).getD false,rfl,Walks.list (A:=A.in1) hh _ l (wZ hlt) vs.toArray,
  ⟨⟨_,Heap.get?_push_size _ rfl,rfl,rfl⟩,hl.push _⟩,λi v s' Q' E' hP hQ=>?_,λh' tk hk=>?_⟩
 ·obtain⟨b,e,rfl⟩:=hb.get i v (by simpa using hP);simp only[e,vo]at hQ;exact uE hQ
 ·have e:((List.range vs.toArray.size).any λi=>(bs[i]?).getD false)=bs.any id:=by
   rw[wJ,hb.length];exact LSm.range_any bs
  rw[e];exact h h' tk (LSm.kept_iter hk)
theorem J1:∀{xs:List V}{is:List Int}{us:List Value},jq xs=some is->Vals xs us->us.length=is.length/\∀i v,us[i]?=some v->NumOf (is.getD i 0) v
 | [],is,_,e,.nil=>by cases e;exact⟨rfl,λi v e=>by simp at e⟩
 |x::r,is,u::us,e,.cons a t=>by
  unfold jq at e;split at e
  ·rename_i e';cases e'
  ·rename_i e';cases e';obtain⟨js,e1,rfl⟩:=wA.mp e;obtain⟨l,g⟩:=J1 e1 t;refine⟨by simp[l],λi v q=>?_⟩;cases i with
   |zero=>
    cases q;obtain⟨w,rfl⟩:=a;exact .inl ⟨w,rfl⟩
   |succ i=>exact g i v q
  ·rename_i e';cases e';obtain⟨js,e1,rfl⟩:=wA.mp e;obtain⟨l,g⟩:=J1 e1 t;refine⟨by simp[l],λi v q=>?_⟩;cases i with
   |zero=>
    cases q;exact .inr ⟨_,a,rfl⟩
   |succ i=>exact g i v q
  ·cases e
theorem Zk:∀{xs:List V}{is:List Int},jq xs=some is->xs.all flat=true
 | [],_,_=>rfl
 |x::r,is,e=>by
  unfold jq at e;split at e
  ·rename_i e';cases e'
  ·rename_i e';cases e';obtain⟨js,e1,rfl⟩:=wA.mp e;rw[List.all_cons,Zk e1];rfl
  ·rename_i e';cases e';obtain⟨js,e1,rfl⟩:=wA.mp e;rw[List.all_cons,Zk e1];rfl
  ·cases e
theorem T5{A:Around}{E:Value->Shared->Prop}{prog:Program}{w:World}{s:Shared}{l:Addr}{vs:List Value}{xs:List V}{is:List Int}{Q:Value->Shared->Prop}(hh:A.handled=none)(hl:s.heap.IsList l vs.toArray)(ei:jq xs=some is)(hb:Vals xs vs)
  (h:∀h' tk t',(∀b x,s.heap.get? b=some x->h'.get? b=some x)->Q (.int is.sum t') { s with heap:=h',toks:=tk }):wpAny (model prog w) A (call (.builtin "sum") [.ref l]) Q E s:=by
 have hlt:l<s.heap.objs.size:=by obtain⟨_,e,_⟩:=hl;exact Heap.lt_size e
 obtain⟨hlen,hn⟩:=J1 ei hb;refine call_sum_walkAnyB (wpAny_pyIter_list hl ?_);refine⟨s.heap.objs.size,_,_,_,_,_,_,λi=>is.getD i 0,rfl,(Walks.list (prog:=prog) (w:=w) (A:=A.in1) hh s.heap.objs.size l (wZ hlt) vs.toArray).toS,
  ⟨⟨_,Heap.get?_push_size _ rfl,rfl,rfl⟩,hl.push _⟩,λb hb=>?_,λi v hP=>hn i v (by simpa using hP),λs' t' hm=>?_⟩
 ·rcases wP.mp hb with rfl|hb
  ·exact Heap.lt_size (Heap.get?_push_size _ rfl)
  ·obtain rfl:=wY.mp hb;obtain⟨_,e,_⟩:=hl;exact Heap.lt_size (Heap.get?_push_of_some _ e)
 ·obtain⟨h',g',d',tk',os'⟩:=s';have e1:g'=s.gens:=hm.gens;have e2:d'=s.drawn:=hm.drawn;have e3:os'=s.os:=hm.os;subst e1 e2 e3;have e:=preSum_getD is vs.toArray.size;rw[wJ,hlen,vU (wF _),<-hlen,<-wJ]at e;rw[e];exact h h' tk' t' λb o e=>hm.heap b o (λhb=>absurd (Heap.lt_size e) ((wY.mp hb) ▸ we _)) (Heap.get?_push_of_some _ e)
theorem QK:∀{xs:List V}{is:List Int},jk xs=some is->xs=is.map V.int
 | [],is,e=>by cases e;rfl
 | .int i::r,is,e=>by
  simp only[jk]at e;obtain⟨js,e1,rfl⟩:=wA.mp e;rw[QK e1];rfl
 | .non::_,_,e=>by cases e
 | .bl _::_,_,e=>by cases e
 | .str _::_,_,e=>by cases e
 | .ref _::_,_,e=>by cases e
 | .byt _::_,_,e=>by cases e
 | .flt _::_,_,e=>by cases e
 | .ty _::_,_,e=>by cases e
theorem QT:∀{xs:List V}{is:List Bool},QQ xs=some is->xs=is.map V.bl
 | [],is,e=>by cases e;rfl
 | .bl i::r,is,e=>by
  simp only[QQ]at e;obtain⟨js,e1,rfl⟩:=wA.mp e;rw[QT e1];rfl
 | .non::_,_,e=>by cases e
 | .int _::_,_,e=>by cases e
 | .str _::_,_,e=>by cases e
 | .ref _::_,_,e=>by cases e
 | .byt _::_,_,e=>by cases e
 | .flt _::_,_,e=>by cases e
 | .ty _::_,_,e=>by cases e
theorem C4{φ:List Addr}:∀{xs:List V},xs.all flat=true->rvs φ xs xs
 | [],_=>.nil
 |x::xs,h=>by
  simp only[List.all_cons,wB]at h;refine .cons ?_ (C4 h.2);cases x<;>first|rfl|exact trivial|(cases h.1)
theorem jn:∀{us:List Value}{ns:List Int},IntsAre us ns->Vals (ns.map V.int) us
 |_,_,.nil=>.nil
 |_,_,.cons n t r=>.cons ⟨_,rfl⟩ (jn r)
theorem Ql(is:List Int):(is.map V.int).all flat=true:=by simp[flat]
theorem JU(is:List Bool):(is.map V.bl).all flat=true:=by simp[flat]
noncomputable def fnB:BF->Value
 | .len=>.builtin "len" | .sum=>.builtin "sum" | .all=>.builtin "all" | .any=>.builtin "any" | .max=>.builtin "max" | .min=>.builtin "min" | .abs=>.builtin "abs"
 | .list=>.type "list" | .int=>.type "int" | .sorted=>.builtin "sorted" | .bits=>.builtin "int.bit_length" | .maxl=>.builtin "max"
variable (X G) in
def qGQ(f:BF):List V->Hp->VK->Prop:=λxs H Q=>∃φ h ws v h',Rl X.K G φ h H/\rvs φ ws xs/\qEY f ws h=.ok (v,h')/\∀φ' H' w,Ext φ φ'->Rl X.K G φ' h' H'->rv φ' v w->Q w H'
def DR(P:Program)(W:World)(h:Heap)(n:Nat)(u:Value)(d:PyData):Prop:=(∃as,Reads h u d as)/\d.depth<=n/\(d.showable=true->d.shown.length<=sizeLine->∃bs,ReadAtMost h d.depth bs/\ReprK P W bs h d.depth u d.shown)
def DRs(P:Program)(W:World)(h:Heap)(n:Nat)(us:List Value)(ds:List PyData):Prop:=(∃as,ReadsAll h us ds as)/\PyData.depthAll ds<=n/\(PyData.showableAll ds=true->(∀t∈PyData.shownAll ds,t.length<=sizeLine)->∃bs,ReadAtMost h (PyData.depthAll ds) bs/\ReprAllK P W bs h (PyData.depthAll ds) us (PyData.shownAll ds))
theorem DR.flat{P:Program}{W:World}{hp:Heap}{n:Nat}{u:Value}{d:PyData}(q:(∃as,Reads hp u d as)/\d.hasDict=false/\d.depth<=0):DR P W hp n u d:=by
 obtain⟨⟨as,q1⟩,q2,q3⟩:=q;exact⟨⟨as,q1⟩,by omega,λhs hz=>ReprK.of_reads q1 hs (λz=>by rw[q2]at z;cases z) hz⟩
theorem DRs.list{P:Program}{W:World}{hp:Heap}{n m:Nat}{p:Addr}{o:Obj}{its:List Value}{ds:List PyData}(q:DRs P W hp n its ds)(ho:hp.get? p=some o)(hc:o.cls=.type "list")(hd:o.data=.seq its.toArray m)(hs:PyData.showableAll ds=true)(hz:(listText (PyData.shownAll ds)).length<=sizeLine):
  ∃bs,ReadAtMost hp (PyData.depthAll ds) bs/\ReprAllK P W bs hp (PyData.depthAll ds) its (PyData.shownAll ds)/\p∉bs:=by
 obtain⟨⟨as,q1⟩,q2,q3⟩:=q;obtain⟨bs,hb,hk⟩:=q3 hs (λt ht=>wL (listText_mem_le ht) hz);exact⟨bs,hb,hk,not_mem_of_deeper (Reads.list ho hc hd (by simpa using q1)) (by simp only[PyData.depth];omega) hb⟩
theorem DRs.tuple{P:Program}{W:World}{hp:Heap}{n m:Nat}{p:Addr}{o:Obj}{its:List Value}{ds:List PyData}(q:DRs P W hp n its ds)(ho:hp.get? p=some o)(hc:o.cls=.type "tuple")(hd:o.data=.seq its.toArray m)(hs:PyData.showableAll ds=true)(hz:(tupleText (PyData.shownAll ds)).length<=sizeLine):
  ∃bs,ReadAtMost hp (PyData.depthAll ds) bs/\ReprAllK P W bs hp (PyData.depthAll ds) its (PyData.shownAll ds)/\p∉bs:=by
 obtain⟨⟨as,q1⟩,q2,q3⟩:=q;obtain⟨bs,hb,hk⟩:=q3 hs (λt ht=>wL (tupleText_mem_le ht) hz);exact⟨bs,hb,hk,not_mem_of_deeper (Reads.tuple ho hc hd (by simpa using q1)) (by simp only[PyData.depth];omega) hb⟩
theorem C8(hc:X.calm=true)(hu:X.A.units+8<cLine)(hgd:X.A.guards=some []):∀f,zr X (fnB f) (qGQ X G f):=by
 intro f pins s σ H xs us Q I r ⟨φ,h,ws,v,h',R,rw',e,k⟩;cases f with
 |len=>
  replace e:=jP e;obtain⟨x0,rfl,e⟩:=e;replace e:=zv e;obtain⟨a,rfl,e⟩:=e;split at e
  ·rename_i ys ey;cases e;cases rw' with
   |cons r1 t=>
    cases t;obtain⟨p,rfl,hp⟩:=qO r1;obtain⟨p',zs,hp',hs,rs⟩:=R.its ey;rw[hp]at hp';cases hp';refine _L.call_len_seq pins s σ H _ us Q I r ⟨p,zs,rfl,hs,?_⟩;rw[<-Paired.length rs];exact k φ H _ (.refl _) R rfl
  ·cases e
 |sum=>
  replace e:=jP e;obtain⟨x0,rfl,e⟩:=e;replace e:=zv e;obtain⟨a,rfl,e⟩:=e;split at e
  ·rename_i ys ey;split at e
   ·rename_i is ei;cases e;cases rw' with
    |cons r1 t=>
     cases t;obtain⟨p,rfl,hp⟩:=qO r1;obtain⟨p',zs,hp',hs,rs⟩:=R.lst ey;rw[hp]at hp';cases hp';have hz:=jf (Zk ei) rs;subst hz;obtain⟨its,rv',pl,_⟩:=I.list hs;obtain⟨u,rfl,ru⟩:=_L.vals1 r;cases ru;exact T5 (I.ok.hd hc) pl.isList ei rv' λh1 tk t' hk=>⟨.int is.sum,H,I.kept hk,⟨_,rfl⟩,k φ H _ (.refl _) R rfl⟩
   ·cases e
  ·cases e
 |all=>
  replace e:=jP e;obtain⟨x0,rfl,e⟩:=e;replace e:=zv e;obtain⟨a,rfl,e⟩:=e;split at e
  ·rename_i ys ey;split at e
   ·rename_i is ei;cases e;cases rw' with
    |cons r1 t=>
     cases t;obtain⟨p,rfl,hp⟩:=qO r1;obtain⟨p',zs,hp',hs,rs⟩:=R.lst ey;rw[hp]at hp';cases hp';have hm:=QT ei;subst hm;have hz:=jf (JU is) rs;subst hz;obtain⟨its,rv',pl,_⟩:=I.list hs;obtain⟨u,rfl,ru⟩:=_L.vals1 r;cases ru;exact T6 (I.ok.hd hc) pl.isList (Js rv') λh1 tk hk=>⟨.bl (is.all id),H,I.kept hk,rfl,k φ H _ (.refl _) R rfl⟩
   ·cases e
  ·cases e
 |any=>
  replace e:=jP e;obtain⟨x0,rfl,e⟩:=e;replace e:=zv e;obtain⟨a,rfl,e⟩:=e;split at e
  ·rename_i ys ey;split at e
   ·rename_i is ei;cases e;cases rw' with
    |cons r1 t=>
     cases t;obtain⟨p,rfl,hp⟩:=qO r1;obtain⟨p',zs,hp',hs,rs⟩:=R.lst ey;rw[hp]at hp';cases hp';have hm:=QT ei;subst hm;have hz:=jf (JU is) rs;subst hz;obtain⟨its,rv',pl,_⟩:=I.list hs;obtain⟨u,rfl,ru⟩:=_L.vals1 r;cases ru;exact T7 (I.ok.hd hc) pl.isList (Js rv') λh1 tk hk=>⟨.bl (is.any id),H,I.kept hk,rfl,k φ H _ (.refl _) R rfl⟩
   ·cases e
  ·cases e
 |max=>
  replace e:=two_inv e;obtain⟨x0,y0,rfl,e⟩:=e;replace e:=za e;obtain⟨i,j,rfl,rfl,e⟩:=e;cases e;cases rw' with
  |cons r1 t=>
   cases t with
   |cons r2 t=>
    cases t;cases qB r1;cases qB r2;exact _L.call_max2 hc pins s σ H _ us Q I r ⟨_,_,rfl,k φ H _ (.refl _) R rfl⟩
 |min=>
  replace e:=two_inv e;obtain⟨x0,y0,rfl,e⟩:=e;replace e:=za e;obtain⟨i,j,rfl,rfl,e⟩:=e;cases e;cases rw' with
  |cons r1 t=>
   cases t with
   |cons r2 t=>
    cases t;cases qB r1;cases qB r2;exact _L.call_min2 hc pins s σ H _ us Q I r ⟨_,_,rfl,k φ H _ (.refl _) R rfl⟩
 |maxl=>
  replace e:=jP e;obtain⟨x0,rfl,e⟩:=e;replace e:=zv e;obtain⟨a,rfl,e⟩:=e;split at e
  ·rename_i ys ey;split at e
   ·rename_i M eM;cases e;obtain⟨is,ei,em⟩:=wH.mp eM;cases rw' with
    |cons r1 t=>
     cases t;obtain⟨p,rfl,hp⟩:=qO r1;obtain⟨p',zs,hp',hs,rs⟩:=R.lst ey;rw[hp]at hp';cases hp';have hm:=QK ei;subst hm;have hz:=jf (Ql is) rs;subst hz;obtain⟨its,rv',pl,_⟩:=I.list hs;obtain⟨u,rfl,ru⟩:=_L.vals1 r;cases ru;exact J6 (I.ok.hd hc) pl.isList (_L.intsAre_of rv') em λh1 tk t' hk=>⟨.int M,H,I.kept hk,⟨_,rfl⟩,k φ H _ (.refl _) R rfl⟩
   ·cases e
  ·cases e
 |abs=>
  replace e:=jP e;obtain⟨x0,rfl,e⟩:=e;split at e
  ·cases e;cases rw' with
   |cons r1 t=>
    cases t;cases qB r1;exact _L.call_abs pins s σ H _ us Q I r ⟨_,rfl,k φ H _ (.refl _) R rfl⟩
  ·cases e
 |bits=>
  replace e:=jP e;obtain⟨x0,rfl,e⟩:=e;split at e
  ·cases e;cases rw' with
   |cons r1 t=>
    cases t;cases qB r1;obtain⟨u,rfl,ru⟩:=_L.vals1 r;obtain⟨t,rfl⟩:=ru;rename_i j;exact call_int_bit_length ⟨.int ((Builtin.Int.intBits j:Nat):Int),H,I.tok _,⟨_,rfl⟩,k φ H _ (.refl _) R rfl⟩
  ·cases e
 |list=>
  replace e:=jP e;obtain⟨x0,rfl,e⟩:=e;replace e:=zv e;obtain⟨a,rfl,e⟩:=e;split at e
  ·rename_i ys ey;cases e;cases rw' with
   |cons r1 t=>
    cases t;obtain⟨p,rfl,hp⟩:=qO r1;obtain⟨p',zs,hp',hs,rs⟩:=R.its ey;rw[hp]at hp';cases hp';exact _L.call_list_of pins s σ H _ us Q I r ⟨p,zs,rfl,hs,λl hl=>k (φ++[l]) _ _ ⟨[l],rfl⟩ (R.newL hl rs) R.lastRef⟩
  ·cases e
 |int=>
  replace e:=jP e;obtain⟨x0,rfl,e⟩:=e;split at e
  ·cases e;cases rw' with
   |cons r1 t=>
    cases t;cases qB r1;exact _L.call_int1 pins s σ H _ us Q I r (.inl ⟨_,rfl,k φ H _ (.refl _) R rfl⟩)
  ·cases e;cases rw' with
   |cons r1 t=>
    cases t;cases jE r1;exact _L.call_int1 pins s σ H _ us Q I r (.inr ⟨_,rfl,k φ H _ (.refl _) R rfl⟩)
  ·cases e
 |sorted=>
  replace e:=jP e;obtain⟨x0,rfl,e⟩:=e;replace e:=zv e;obtain⟨a,rfl,e⟩:=e;split at e
  ·rename_i ys ey;split at e
   ·rename_i is ei;split at e
    ·rename_i h64;cases e;cases rw' with
     |cons r1 t=>
      cases t;obtain⟨p,rfl,hp⟩:=qO r1;obtain⟨p',zs,hp',hs,rs⟩:=R.lst ey;rw[hp]at hp';cases hp';have hm:=QK ei;subst hm;have hz:=jf (Ql is) rs;subst hz;obtain⟨its,rv',pl,_⟩:=I.list hs;obtain⟨u,rfl,ru⟩:=_L.vals1 r;cases ru;have hi:IntsAre its is:=_L.intsAre_of rv';refine sorted_ints pl.isList hi (by rw[IntsAre.length hi];exact h64) λout ns' a1 a2 a3=>?_;have e1:ns'=Zt is:=P7 a3 (Jx is) (a2.trans (QH is).symm);subst e1;obtain⟨c,hc'⟩:=sortedAll_at s.heap its out;have hl:=(QH is).length_eq;refine⟨.ref (s.heap.objs.size+1),_,I.laid (t':=s.toks) (o:=.lst ((Zt is).map V.int)) (λb o q=>sortedAll_old q) (Nat.le_succ _) ?_,rfl,k (φ++[s.heap.objs.size+1]) _ _ ⟨[_],rfl⟩ (R.newL (I.hok.fresh (Nat.le_succ _)) (C4 (Ql _))) R.lastRef⟩;refine⟨by rw[wW,hl,sizeLine_eq];omega,out.toList,c,jn a1,?_⟩;rw[Array.toArray_toList];exact hc'
    ·cases e
   ·cases e
  ·cases e
end
open _L (PW)
theorem QP{r:RV}{b:Bool}{h:AH}(e:asB r=.ok (b,h)):r=.ok (.bl b,h):=by
 unfold asB at e;obtain⟨⟨v,h1⟩,e1,e2⟩:=tM e;dsimp only at e2;split at e2
 ·cases e2;exact e1
 ·cases e2
theorem qBS{r:RV}{b:Bool}{h:AH}(e:r=.ok (.bl b,h)):asB r=.ok (b,h):=by
 subst e;rfl
section
variable{X:Cx}{G:List Addr}{F:Nat->List V->AH->RV}{a b c:E}{as:Es}{ea eb ec:Expr}{es:List Expr}{pos:Pos}
theorem ZM{K:PySem.W.Frag}{σ:St}{H:Hp}{Q:Bool->Hp->Prop}(q:tT K G F a σ H Q):tE K G F a σ H (λx H'=>∃k,x=.bl k/\Q k H'):=by
 obtain⟨φ,h,σa,b,h',R,rs,e,k⟩:=q;exact⟨φ,h,σa,.bl b,h',R,rs,QP e,λφ' H' w x' R' r'=>⟨b,jE r',k φ' H' x' R'⟩⟩
theorem qh(h:SE X G F ea a)(he:∀whole,isTrue ea X.env whole=(do let v <- whole;standAt ea.pos;holding [v] (truthy v))):ST X G F ea a:=
 o0 (_L.pt_val h he) λ_ _ _ q=>ZM q
theorem qAt{op:COp}{σc:St}{H:Hp}{Q:VK}(q:tE X.K G F (.cmp op a b) σc H Q):_L.tOp (qCF X G op) (tE X.K G F a) (tE X.K G F b) σc H Q:=by
 obtain⟨φ,h,σ,v,h',R,rs,e,k⟩:=q;unfold ev at e;obtain⟨⟨x,h1⟩,e1,e⟩:=tM e;obtain⟨⟨y,h2⟩,e2,e⟩:=tM e;refine QA R rs e1 e2 λφ2 H2 xc yc x2 R2 r1 r2=>?_;unfold qAT at e;dsimp only at e;split at e
 ·rename_i t et;cases e;exact⟨φ2,_,x,y,t,R2,r1,r2,et,k φ2 H2 _ x2 R2 rfl⟩
 ·cases e
theorem qDQ{op:COp}(hu:X.A.units+8<cLine)(ha:SE X G F ea a)(hb:SE X G F eb b)(hm:behindInMarks (opC op) eb=false):SE X G F (.Compare ea [opC op] [eb] pos) (.cmp op a b):=
 zk (_L.pe_cmpR (jB hu op) ha hb hm) λ_ _ _=>qAt
theorem qDV{op:COp}(hu:X.A.units+8<cLine)(ha:SE X G F ea a)(hb:SE X G F eb b)(hm:behindInMarks (opC op) eb=false):ST X G F (.Compare ea [opC op] [eb] pos) (.cmp op a b):=
 o0 (_L.pt_cmpR (jB hu op) ha hb hm) λ_ _ _ q=>qAt (ZM q)
theorem R8{o1 o2:COp}{σc:St}{H:Hp}{Q:VK}(q:tE X.K G F (.cmp2 o1 o2 a b c) σc H Q):_L.tChain (qCF X G o1) (qCF X G o2) (tE X.K G F a) (tE X.K G F b) (tE X.K G F c) σc H Q:=by
 obtain⟨φ,h,σ,v,h',R,rs,e,k⟩:=q;unfold ev at e;obtain⟨⟨x,h1⟩,e1,e⟩:=tM e;obtain⟨⟨y,h2⟩,e2,e⟩:=tM e;refine QA R rs e1 e2 λφ2 H2 xc yc x2 R2 r1 r2=>?_;dsimp only at e;split at e
 ·rename_i et;refine⟨φ2,_,x,y,true,R2,r1,r2,et,true,rfl,?_⟩;rw[if_pos rfl];obtain⟨⟨z,h3⟩,e3,e⟩:=tM e;refine⟨φ2,_,σ,z,h3,R2,rst.mono x2 rs,e3,λφ3 H3 zc x3 R3 r3=>?_⟩;unfold qAT at e;dsimp only at e;split at e
  ·rename_i t et;cases e;exact⟨φ3,_,y,z,t,R3,rv.mono x3 r2,r3,et,k φ3 H3 _ (x2.trans x3) R3 rfl⟩
  ·cases e
 ·rename_i et;cases e;refine⟨φ2,_,x,y,false,R2,r1,r2,et,false,rfl,?_⟩;rw[if_neg (by decide)];exact k φ2 H2 _ x2 R2 rfl
 ·cases e
theorem qAE{o1 o2:COp}(hu:X.A.units+8<cLine)(ha:SE X G F ea a)(hb:SE X G F eb b)(hc:SE X G F ec c)(hm:lastMarks [opC o1,opC o2] [eb,ec]=false):SE X G F (.Compare ea [opC o1,opC o2] [eb,ec] pos) (.cmp2 o1 o2 a b c):=
 zk (_L.pe_chain (jB hu o1) (jB hu o2) ha hb hc hm) λ_ _ _=>R8
theorem y9{o1 o2:COp}(hu:X.A.units+8<cLine)(ha:SE X G F ea a)(hb:SE X G F eb b)(hc:SE X G F ec c)(hm:lastMarks [opC o1,opC o2] [eb,ec]=false):ST X G F (.Compare ea [opC o1,opC o2] [eb,ec] pos) (.cmp2 o1 o2 a b c):=
 o0 (_L.pt_chain (jB hu o1) (jB hu o2) ha hb hc hm) λ_ _ _ q=>R8 (ZM q)
noncomputable def K5(r r' r2:_L.R2)(ta tb tc td:_L.TE):_L.TE:=λσ H Q=>ta σ H λx H1=>tb σ H1 λy H2=>r x y H2 λz H3=>∃k,z=.bl k/\
 (if k=true then tc σ H3 λw' H4=>r' y w' H4 λz' H5=>∃k',z'=.bl k'/\(if k'=true then td σ H5 λu' H6=>r2 w' u' H6 Q else Q (.bl false) H5) else Q (.bl false) H3)
section
open _L
theorem m8{X:_L.Cx}{a b c d:Expr}{ta tb tc td:_L.TE}{op op' op2:CmpOp}{r r' r2:R2}(ho:OpR X (compareOp op) r)(ho':OpR X (compareOp op') r')(ho2:OpR X (compareOp op2) r2)(ha:PE X a ta)(hb:PE X b tb)(hc:PE X c tc)(hd:PE X d td)
  (hm:lastMarks [op,op',op2] [b,c,d]=false):PE X (.Compare a [op,op',op2] [b,c,d] pos) (K5 r r' r2 ta tb tc td):=by
 intro pins s σ H Q I h;refine Compare_chain (thn (ha pins s σ H _ I h) λv s1 ⟨x,H1,I1,r1,q1⟩=>chain_link (thn (hb pins s1 σ H1 _ I1 q1) λu s2 ⟨y,H2,I2,r2,q2⟩=>
  thn (ho pins s2 σ H2 x y v u _ I2 r1 r2 q2) λd s3 ⟨z,H3,I3,r3,k,e,q3⟩=>?_)) hm
 subst e;cases r3;refine uE ?_;cases k with
 |false=>exact ite_ff ⟨.bl false,H3,I3,rfl,q3⟩
 |true=>
  refine ite_tt (chain_link (thn (hc pins s3 σ H3 _ I3 q3) λw' s4 ⟨z',H4,I4,r4,q4⟩=>thn (ho' pins s4 σ H4 y z' u w' _ I4 r2 r4 q4) λd' s5 ⟨z2,H5,I5,r5,k2,e2,q5⟩=>?_));subst e2;cases r5;refine uE ?_;cases k2 with
  |false=>exact ite_ff ⟨.bl false,H5,I5,rfl,q5⟩
  |true=>exact ite_tt (chain_last (thn (hd pins s5 σ H5 _ I5 q5) λw2 s6 ⟨z3,H6,I6,r6,q6⟩=>ho2 pins s6 σ H6 z' z3 w' w2 Q I6 r4 r6 q6))
theorem u8{X:_L.Cx}{a b c d:Expr}{ta tb tc td:_L.TE}{op op' op2:CmpOp}{r r' r2:R2}(ho:OpR X (compareOp op) r)(ho':OpR X (compareOp op') r')(ho2:OpR X (compareOp op2) r2)(ha:PE X a ta)(hb:PE X b tb)(hc:PE X c tc)(hd:PE X d td)
  (hm:lastMarks [op,op',op2] [b,c,d]=false):PT X (.Compare a [op,op',op2] [b,c,d] pos) (qB2 (K5 r r' r2 ta tb tc td)):=by
 intro pins s σ H Q I h;refine isTrue_chain (thn (ha pins s σ H _ I h) λv s1 ⟨x,H1,I1,r1,q1⟩=>test_link (thn (hb pins s1 σ H1 _ I1 q1) λu s2 ⟨y,H2,I2,r2,q2⟩=>
  thn (ho pins s2 σ H2 x y v u _ I2 r1 r2 q2) λd s3 ⟨z,H3,I3,r3,k,e,q3⟩=>?_)) hm
 subst e;cases r3;refine uE ?_;cases k with
 |false=>
  obtain⟨k',e',q'⟩:=q3;cases e';exact ite_ff ⟨H3,I3,q'⟩
 |true=>
  refine ite_tt (test_link (thn (hc pins s3 σ H3 _ I3 q3) λw' s4 ⟨z',H4,I4,r4,q4⟩=>thn (ho' pins s4 σ H4 y z' u w' _ I4 r2 r4 q4) λd' s5 ⟨z2,H5,I5,r5,k2,e2,q5⟩=>?_));subst e2;cases r5;refine uE ?_;cases k2 with
  |false=>
   obtain⟨k',e',q'⟩:=q5;cases e';exact ite_ff ⟨H5,I5,q'⟩
  |true=>
   refine ite_tt (test_last (thn (hd pins s5 σ H5 _ I5 q5) λw2 s6 ⟨z3,H6,I6,r6,q6⟩=>thn (ho2 pins s6 σ H6 z' z3 w' w2 _ I6 r4 r6 q6) λd2 s7 ⟨z4,H7,I7,r7,k4,e4,q7⟩=>?_));subst e4;cases r7;exact uE ⟨H7,I7,q7⟩
end
theorem E7{o1 o2 o3:COp}{σc:St}{H:Hp}{Q:VK}(q:tE X.K G F (.cmp3 o1 o2 o3 a b c d) σc H Q):K5 (qCF X G o1) (qCF X G o2) (qCF X G o3) (tE X.K G F a) (tE X.K G F b) (tE X.K G F c) (tE X.K G F d) σc H Q:=by
 obtain⟨φ,h,σ,v,h',R,rs,e,k⟩:=q;unfold ev at e;obtain⟨⟨x,h1⟩,e1,e⟩:=tM e;obtain⟨⟨y,h2⟩,e2,e⟩:=tM e;refine QA R rs e1 e2 λφ2 H2 xc yc x2 R2 r1 r2=>?_;dsimp only at e;split at e
 ·rename_i et;refine⟨φ2,_,x,y,true,R2,r1,r2,et,true,rfl,?_⟩;rw[if_pos rfl];obtain⟨⟨z,h3⟩,e3,e⟩:=tM e;refine⟨φ2,_,σ,z,h3,R2,rst.mono x2 rs,e3,λφ3 H3 zc x3 R3 r3=>?_⟩;dsimp only at e;split at e
  ·rename_i et3;refine⟨φ3,_,y,z,true,R3,rv.mono x3 r2,r3,et3,true,rfl,?_⟩;rw[if_pos rfl];obtain⟨⟨w,h4⟩,e4,e⟩:=tM e;refine⟨φ3,_,σ,w,h4,R3,rst.mono x3 (rst.mono x2 rs),e4,λφ4 H4 wc x4 R4 r4=>?_⟩;unfold qAT at e;dsimp only at e;split at e
   ·rename_i t et;cases e;exact⟨φ4,_,z,w,t,R4,rv.mono x4 r3,r4,et,k φ4 H4 _ ((x2.trans x3).trans x4) R4 rfl⟩
   ·cases e
  ·rename_i et3;cases e;refine⟨φ3,_,y,z,false,R3,rv.mono x3 r2,r3,et3,false,rfl,?_⟩;rw[if_neg (by decide)];exact k φ3 H3 _ (x2.trans x3) R3 rfl
  ·cases e
 ·rename_i et;cases e;refine⟨φ2,_,x,y,false,R2,r1,r2,et,false,rfl,?_⟩;rw[if_neg (by decide)];exact k φ2 H2 _ x2 R2 rfl
 ·cases e
theorem g6{o1 o2 o3:COp}(hu:X.A.units+8<cLine)(ha:SE X G F ea a)(hb:SE X G F eb b)(hc:SE X G F ec c)(hd:SE X G F ed d)(hm:lastMarks [opC o1,opC o2,opC o3] [eb,ec,ed]=false):SE X G F (.Compare ea [opC o1,opC o2,opC o3] [eb,ec,ed] pos) (.cmp3 o1 o2 o3 a b c d):=
 zk (m8 (jB hu o1) (jB hu o2) (jB hu o3) ha hb hc hd hm) λ_ _ _=>E7
theorem m6{o1 o2 o3:COp}(hu:X.A.units+8<cLine)(ha:SE X G F ea a)(hb:SE X G F eb b)(hc:SE X G F ec c)(hd:SE X G F ed d)(hm:lastMarks [opC o1,opC o2,opC o3] [eb,ec,ed]=false):ST X G F (.Compare ea [opC o1,opC o2,opC o3] [eb,ec,ed] pos) (.cmp3 o1 o2 o3 a b c d):=
 o0 (u8 (jB hu o1) (jB hu o2) (jB hu o3) ha hb hc hd hm) λ_ _ _ q=>E7 (ZM q)
theorem qBl{σc:St}{H:Hp}{Q:VK}(q:tE X.K G F (.and a b) σc H Q):_L.tAndV (tE X.K G F a) (tE X.K G F b) σc H Q:=by
 obtain⟨φ,h,σ,v,h',R,rs,e,k⟩:=q;unfold ev at e;obtain⟨⟨x,h1⟩,e1,e⟩:=tM e;refine⟨φ,h,σ,.bl x,h1,R,rs,QP e1,λφ1 H1 w x1 R1 r1=>⟨x,jE r1,?_⟩⟩;dsimp only at e;cases x with
 |true=>
  rw[if_pos rfl]at e ⊢;exact⟨φ1,h1,σ,v,h',R1,rst.mono x1 rs,e,λφ2 H2 w2 x2 R2 r2=>k φ2 H2 w2 (x1.trans x2) R2 r2⟩
 |false=>
  rw[if_neg (by decide)]at e ⊢;cases e;exact k φ1 H1 _ x1 R1 rfl
theorem qEw{σc:St}{H:Hp}{Q:VK}(q:tE X.K G F (.or a b) σc H Q):_L.tOrV (tE X.K G F a) (tE X.K G F b) σc H Q:=by
 obtain⟨φ,h,σ,v,h',R,rs,e,k⟩:=q;unfold ev at e;obtain⟨⟨x,h1⟩,e1,e⟩:=tM e;refine⟨φ,h,σ,.bl x,h1,R,rs,QP e1,λφ1 H1 w x1 R1 r1=>⟨x,jE r1,?_⟩⟩;dsimp only at e;cases x with
 |false=>
  rw[if_neg (by decide)]at e ⊢;exact⟨φ1,h1,σ,v,h',R1,rst.mono x1 rs,e,λφ2 H2 w2 x2 R2 r2=>k φ2 H2 w2 (x1.trans x2) R2 r2⟩
 |true=>
  rw[if_pos rfl]at e ⊢;cases e;exact k φ1 H1 _ x1 R1 rfl
theorem qES{σc:St}{H:Hp}{Q:Bool->Hp->Prop}(q:tT X.K G F (.and a b) σc H Q):_L.tAnd (tT X.K G F a) (tT X.K G F b) σc H Q:=by
 obtain⟨φ,h,σ,t,h',R,rs,e,k⟩:=q;have e:=QP e;unfold ev at e;obtain⟨⟨x,h1⟩,e1,e⟩:=tM e;refine⟨φ,h,σ,x,h1,R,rs,e1,λφ1 H1 x1 R1=>?_⟩;dsimp only at e;cases x with
 |true=>
  rw[if_pos rfl]at e ⊢;exact⟨φ1,h1,σ,t,h',R1,rst.mono x1 rs,qBS e,λφ2 H2 x2 R2=>k φ2 H2 (x1.trans x2) R2⟩
 |false=>
  rw[if_neg (by decide)]at e ⊢;cases e;exact k φ1 H1 x1 R1
theorem qFy{σc:St}{H:Hp}{Q:Bool->Hp->Prop}(q:tT X.K G F (.or a b) σc H Q):_L.tOr (tT X.K G F a) (tT X.K G F b) σc H Q:=by
 obtain⟨φ,h,σ,t,h',R,rs,e,k⟩:=q;have e:=QP e;unfold ev at e;obtain⟨⟨x,h1⟩,e1,e⟩:=tM e;refine⟨φ,h,σ,x,h1,R,rs,e1,λφ1 H1 x1 R1=>?_⟩;dsimp only at e;cases x with
 |false=>
  rw[if_neg (by decide)]at e ⊢;exact⟨φ1,h1,σ,t,h',R1,rst.mono x1 rs,qBS e,λφ2 H2 x2 R2=>k φ2 H2 (x1.trans x2) R2⟩
 |true=>
  rw[if_pos rfl]at e ⊢;cases e;exact k φ1 H1 x1 R1
variable (X G F) in
abbrev SW(e:Expr)(a:E):Prop:=PW X e (tT X.K G F a)
theorem qEB{e:Expr}{t t':TT}(h:PW X e t)(w:∀σ H Q,t' σ H Q->t σ H Q):PW X e t':=λwh pins s σ H Q I q=>h wh pins s σ H Q I (w σ H Q q)
theorem qDc{ZI:List Expr}(ha:SE X G F ea a)(hb:SE X G F (.BoolOp .And (eb::ZI) pos) b):SE X G F (.BoolOp .And (ea::eb::ZI) pos) (.and a b):=zk (_L.pe_and ha hb) λ_ _ _=>qBl
theorem qF5{ZI:List Expr}(ha:SE X G F ea a)(hb:SE X G F (.BoolOp .Or (eb::ZI) pos) b):SE X G F (.BoolOp .Or (ea::eb::ZI) pos) (.or a b):=zk (_L.pe_or ha hb) λ_ _ _=>qEw
theorem qEv{ZI:List Expr}(ha:ST X G F ea a)(hb:SW X G F (.BoolOp .And (eb::ZI) pos) b):SW X G F (.BoolOp .And (ea::eb::ZI) pos) (.and a b):=qEB (_L.pw_and ha hb) λ_ _ _=>qES
theorem qFY{ZI:List Expr}(ha:ST X G F ea a)(hb:SW X G F (.BoolOp .Or (eb::ZI) pos) b):SW X G F (.BoolOp .Or (ea::eb::ZI) pos) (.or a b):=qEB (_L.pw_or ha hb) λ_ _ _=>qFy
theorem qEE(ha:SE X G F ea a):SE X G F (.UnaryOp .Not ea pos) (.not a):=by
 refine zk (_L.pe_not ha) λσc H Q q=>?_;obtain⟨φ,h,σ,v,h',R,rs,e,k⟩:=q;unfold ev at e;obtain⟨⟨x,h1⟩,e1,e⟩:=tM e;cases e;exact⟨φ,h,σ,.bl x,_,R,rs,QP e1,λφ1 H1 w x1 R1 r1=>⟨x,jE r1,k φ1 H1 _ x1 R1 rfl⟩⟩
theorem qEq(ha:ST X G F ea a):ST X G F (.UnaryOp .Not ea pos) (.not a):=by
 refine o0 (_L.pt_not ha) λσc H Q q=>?_;obtain⟨φ,h,σ,t,h',R,rs,e,k⟩:=q;have e:=QP e;unfold ev at e;obtain⟨⟨x,h1⟩,e1,e⟩:=tM e;cases e;exact⟨φ,h,σ,x,_,R,rs,e1,λφ1 H1 x1 R1=>k φ1 H1 x1 R1⟩
noncomputable def qe:Expr->Bool
 | .Starred ..=>false
 |_=>true
theorem qE{e:Expr}{env:Env}(h:qe e=true):starEach (e::es) env=(false,eval e env)::starEach es env:=by
 cases e<;>first|rfl|cases h
theorem jd{env:Env}:∀{es:List Expr},es.all qe=true->(backTo pos (starEach es env)).any (·.1)=false
 | [],_=>rfl
 |e::es,h=>by
  simp only[List.all_cons,wB]at h;rw[qE h.1];show (false||(backTo pos (starEach es env)).any (·.1))=false;rw[jd h.2];rfl
theorem qEK:SA X G F [] .nil:=by
 refine qDC _L.pa_nil λσc H Q q=>?_;obtain⟨φ,h,σ,v,h',R,rs,e,k⟩:=q;unfold evs at e;cases e;exact k φ H [] (.refl _) R .nil
theorem qB0(hn:qe ea=true)(ha:SE X G F ea a)(hr:SA X G F es as):SA X G F (ea::es) (.cons a as):=by
 refine qDC (_L.pa_cons ha hr (qE hn)) λσc H Q q=>?_;obtain⟨φ,h,σ,v,h',R,rs,e,k⟩:=q;unfold evs at e;obtain⟨⟨x,h1⟩,e1,e⟩:=tM e;obtain⟨⟨xs,h2⟩,e2,e⟩:=tM e;cases e;exact⟨φ,h,σ,x,h1,R,rs,e1,λφ1 H1 w x1 R1 r1=>⟨φ1,h1,σ,xs,_,R1,rst.mono x1 rs,e2,λφ2 H2 ws x2 R2 r2=>k φ2 H2 _ (x1.trans x2) R2 (.cons (rv.mono x2 r1) r2)⟩⟩
theorem qEh(h:SA X G F es as):SE X G F (.List es pos) (.lst as):=by
 refine zk (_L.pe_lst h) λσc H Q q=>?_;obtain⟨φ,h,σ,v,h',R,rs,e,k⟩:=q;unfold ev at e;obtain⟨⟨xs,h1⟩,e1,e⟩:=tM e;refine⟨φ,h,σ,xs,h1,R,rs,e1,λφ1 H1 ws x1 R1 r1=>?_⟩;dsimp only at e;split at e
 ·rename_i hl;cases e;refine⟨by rw[<-Paired.length r1];exact wL hl Zs,λp hp=>k (φ1++[p]) _ _ (x1.trans ⟨[p],rfl⟩) (R1.newL hp r1) R1.lastRef⟩
 ·cases e
theorem V9:SE X G F (.Dict [] [] pos) .dnew:=by
 intro pins s σc H Q I q;obtain⟨φ,h,σ,v,h',R,rs,e,k⟩:=q;unfold ev at e;cases e;have hbig:sysModules<s.heap.objs.size:=wx (by decide) (I.mod.glob.keeps I.bk).lt;have hn:=I.hok.fresh (wF s.heap.objs.size);exact wpAny_Dict_empty ⟨.ref s.heap.objs.size,_,I.laid (a:=s.heap.objs.size) (o:=.dK []) (t':=s.toks) (λ_ _ q=>Heap.get?_push_of_some _ q) (wF _)
  ⟨vw _,beq_eq_false_iff_ne.mpr (Ne.symm (wZ hbig)),[],.nil,Heap.DictOf.new s.heap⟩,rfl,
  k (φ++[s.heap.objs.size]) _ _ ⟨[s.heap.objs.size],rfl⟩ (R.new hn (o:=.ob (.dct [])) qI) R.lastRef⟩
theorem qBK {x1}(h:SA X G F es as):SE X G F (.Tuple es x1 pos) (.tup as):=by
 refine zk (_L.pe_tup h) λσc H Q q=>?_;obtain⟨φ,h,σ,v,h',R,rs,e,k⟩:=q;unfold ev at e;obtain⟨⟨xs,h1⟩,e1,e⟩:=tM e;refine⟨φ,h,σ,xs,h1,R,rs,e1,λφ1 H1 ws x1 R1 r1=>?_⟩;dsimp only at e;split at e
 ·rename_i hl;cases e;refine⟨by rw[<-Paired.length r1];exact wL hl Zs,λp hp=>k (φ1++[p]) _ _ (x1.trans ⟨[p],rfl⟩) (R1.newT hp r1) R1.lastRef⟩
 ·cases e
variable (G F) in
noncomputable def spF(K:PySem.W.Frag)(f:Nat):_L.Sp:=λvs H Q _=>∃φ h ws v h',Rl K G φ h H/\rvs φ ws vs/\F f ws h=.ok (v,h')/\∀φ' H' w,Ext φ φ'->Rl K G φ' h' H'->rv φ' v w->Q w H'
variable (X G F) in
structure FnS(f:Nat)(x:Str):Prop where
 ex:∃k fa fd ps,_L.FnOk X.prog X.w X.K X.mg X.base _L.CX0 k fa fd ps (spF G F X.K f)/\_L.Room k X.A/\X.mg x=some (.ref fa)/\PySem.W.keepIn X.K (.ref fa)=true/\_L.Binds X.K fd ps []/\_L.Room k X.A.in1
theorem i5{f:Nat}{σc:St}{H:Hp}{Q:VK}(q:tE X.K G F (.call f as) σc H Q):_L.tCall (spF G F X.K f) [] _L.E0 (tL X.K G F as) σc H Q:=by
 obtain⟨φ,h,σ,v,h',R,rs,e,k⟩:=q;unfold ev at e;obtain⟨⟨xs,h1⟩,e1,e⟩:=tM e;refine⟨φ,h,σ,xs,h1,R,rs,e1,λφ1 H1 ws x1 R1 r1=>?_⟩;have e:F f xs h1=.ok (v,h'):=by
  have e:(F f xs h1).nx=.ok (v,h'):=e;revert e;generalize F f xs h1=r;cases r<;>intro e<;>first|exact e|cases e
 refine⟨φ1,h1,xs,v,h',R1,by rw[wV];exact r1,e,λφ2 H2 w x2 R2 r2=>k φ2 H2 w (x1.trans x2) R2 r2⟩
theorem qCQ{f:Nat}{x:Str}{p:Pos}(hf:FnS X G F f x)(hg:_L.Gl X x)(hd:(x==("__debug__":Str))=false)(hn:qe ea=true)(hs:es.all qe=true)(ha:SA X G F (ea::es) as):SE X G F (.Call (.Name x p) (ea::es) [] pos) (.call f as):=by
 obtain⟨k,fa,fd,ps,h1,h2,h3,h4,h5,_⟩:=hf.ex;exact zk (_L.pe_call h1 h2 hg h3 h4 h5 .nil _L.pass0 ha hd (qE hn) (jd hs)) λ_ _ _=>i5
theorem qAL{f:Nat}{x:Str}{p:Pos}(hf:FnS X G F f x)(hg:_L.Gl X x)(hd:(x==("__debug__":Str))=false):SE X G F (.Call (.Name x p) [] [] pos) (.call f .nil):=by
 obtain⟨k,fa,fd,ps,h1,h2,h3,h4,h5,_⟩:=hf.ex;refine zk (_L.pe_call0 h1 h2 hg h3 h4 h5 .nil _L.pass0 hd) λσc H Q q=>?_;obtain⟨φ,h,σ,vs,h',R,rs,e,k⟩:=i5 q;unfold evs at e;cases e;exact k φ H [] (.refl _) R .nil
theorem qBQ{f:BF}{σc:St}{H:Hp}{Q:VK}(q:tE X.K G F (.blt f as) σc H Q):_L.tCB (qGQ X G f) (tL X.K G F as) σc H Q:=by
 obtain⟨φ,h,σ,v,h',R,rs,e,k⟩:=q;unfold ev at e;obtain⟨⟨xs,h1⟩,e1,e⟩:=tM e;exact⟨φ,h,σ,xs,h1,R,rs,e1,λφ1 H1 ws x1 R1 r1=>⟨φ1,h1,xs,v,h',R1,r1,e,λφ2 H2 w x2 R2 r2=>k φ2 H2 w (x1.trans x2) R2 r2⟩⟩
theorem qEy{f:BF}{x:Str}{p:Pos}(hc:X.calm=true)(hu:X.A.units+8<cLine)(hgd:X.A.guards=some [])(hg:_L.Gl X x)(hm:X.mg x=none)(hv:bootBuiltins x=some (fnB f))(hn:qe ea=true)(hs:es.all qe=true)(ha:SA X G F (ea::es) as)
  (h1:x≠"__name__") (h2:(x==("__debug__":Str))=false):SE X G F (.Call (.Name x p) (ea::es) [] pos) (.blt f as):=by
 have rule:=C8 (G:=G) hc hu hgd f;cases f
 all_goals first
  |exact zk (_L.pe_callB rule hg hm hv ha h1 h2 (qE hn) (jd hs)) λ_ _ _=>qBQ
  |exact zk (_L.pe_callTy rule hg hm hv ha h1 h2 (qE hn) (jd hs)) λ_ _ _=>qBQ
theorem qBe{apos cpos:Pos}(hc:X.calm=true)(hu:X.A.units+8<cLine)(hgd:X.A.guards=some [])(hbase:attributeBase ea "bit_length" X.env (eval ea X.env)=eval ea X.env)(hline:(apos.endLine==cpos.line)=true)(ha:SE X G F ea a):
  SE X G F (.Call (.Attribute ea "bit_length" apos) [] [] cpos) (.blt .bits (.cons a .nil)):=by
 have rule:_L.MtR X "int.bit_length" (λx xs H Q=>∃i,x=.int i/\xs=[]/\qGQ X G .bits [.int i] H Q):=λpins s σ H x xs v us Q I rx rs q=>by
  obtain⟨i,rfl,rfl,q⟩:=q;cases rs;exact C8 (G:=G) hc hu hgd .bits pins s σ H [.int i] [v] Q I (.cons rx .nil) q
 refine zk (_L.pe_bm0 PySem.F.plainAttrs_int PyProof.Rows.slot_int_bit_length PyProof.Rows.type_int_bit_length rule ha hbase hline) λσc H Q q=>?_;obtain⟨φ,h,σ,v,h',R,rs,e,k⟩:=q;unfold ev at e;obtain⟨⟨xs,h1⟩,e1,e2⟩:=tM e;unfold evs evs at e1;obtain⟨⟨x,h2⟩,e3,e4⟩:=tM e1;cases e4;replace e2:qEY .bits [x] h1=.ok (v,h'):=e2;cases x with
 |int i=>exact⟨φ,h,σ,_,_,R,rs,e3,λφ1 H1 w x1 R1 r1=>by
   cases qB r1;exact⟨rfl,i,rfl,rfl,φ1,_,[.int i],v,h',R1,.cons rfl .nil,e2,λφ2 H2 w x2 R2 r2=>k φ2 H2 w (x1.trans x2) R2 r2⟩⟩
 |_=>cases e2
noncomputable def D4(t:String):Bool:=t=="int"||t=="bool"||t=="list"||t=="tuple"||t=="str"||t=="dict"
theorem Zl(K:PySem.W.Frag):∀{t c:String},(t="NoneType"\/t="bool"\/t="int"\/t="str"\/t="list"\/t="tuple"\/t="dict")->D4 c=true->PySem.W.kitOne K (.type t) (.type c)=some (QS t c):=by
 intro t c ht hc;have hc':c="int"\/c="bool"\/c="list"\/c="tuple"\/c="str"\/c="dict":=by
  simp only[D4,vK,beq_iff_eq]at hc;rcases hc with((((h|h)|h)|h)|h)|h<;>simp[h]
 rcases ht with rfl|rfl|rfl|rfl|rfl|rfl|rfl<;>rcases hc' with rfl|rfl|rfl|rfl|rfl|rfl<;>kernel_rfl
variable (X G) in
def qHZ(c:String):List V->Hp->VK->Prop:=λxs H Q=>∃φ h xa x t,xs=[x,.ty c]/\Rl X.K G φ h H/\rv φ xa x/\jm h xa=some t/\Q (.bl (QS t c)) H
theorem q9{c:String}(hc:D4 c=true):zr X (.builtin "isinstance") (qHZ X G c):=by
 intro pins s σ H xs us Q I r ⟨φ,h,xa,x,t,e,R,rx,ht,q⟩;subst e;obtain⟨u,u2,rfl,r1,r2⟩:=_L.vals2 r;cases (show u2=Value.type c from r2);have fin:∀tk,EP X pins σ Q (.bool (QS t c)) { s with toks:=tk }:=λtk=>⟨.bl (QS t c),H,I.tok tk,rfl,q⟩
 cases xa with
 |non=>cases zy rx;cases r1;cases ht;exact PySem.W.kia_one PySem.W.kitx_none I.kIn True.intro (Zl _ (by simp) hc) (λz=>nomatch z) fin
 |bl i=>cases jE rx;cases r1;cases ht;exact PySem.W.kia_one PySem.W.kitx_bool I.kIn True.intro (Zl _ (by simp) hc) (λz=>nomatch z) fin
 |int i=>cases qB rx;obtain⟨t',rfl⟩:=r1;cases ht;exact PySem.W.kia_one PySem.W.kitx_int I.kIn True.intro (Zl _ (by simp) hc) (λz=>nomatch z) fin
 |str i=>cases jL rx;obtain⟨t',rfl⟩:=r1;cases ht;exact PySem.W.kia_one PySem.W.kitx_str I.kIn True.intro (Zl _ (by simp) hc) (λz=>nomatch z) fin
 |ref i=>
  obtain⟨p,rfl,hp⟩:=qO rx;cases r1;cases ey:h[i]? with
  |none=>rw[show jm h (.ref i)=none by simp only[jm,ey]]at ht;cases ht
  |some o=>
   cases o with
   |lst fz ys=>
    rw[show jm h (.ref i)=some "list" by simp only[jm,ey]]at ht;cases ht;obtain⟨p',zs,hp',hs,rs⟩:=R.lst (i:=i) (xs:=ys) (by unfold qK;rw[ey]);rw[hp]at hp';cases hp';obtain⟨its,_,pl,_⟩:=I.list hs;obtain⟨o,ho,hcl,_⟩:=pl.isList;exact PySem.W.kia_one PySem.W.kitx_list I.kIn ⟨o,ho,hcl⟩ (Zl _ (by simp) hc) (λz=>nomatch z) fin
   |tup ys=>
    rw[show jm h (.ref i)=some "tuple" by simp only[jm,ey]]at ht;cases ht;obtain⟨p',zs,hp',hs,rs⟩:=R.tup (i:=i) (xs:=ys) (by unfold qt;rw[ey]);rw[hp]at hp';cases hp';obtain⟨its,_,pl,_⟩:=I.tuple hs;obtain⟨o,ho,hcl,_⟩:=pl;exact PySem.W.kia_one PySem.W.kitx_tuple I.kIn ⟨o,ho,hcl⟩ (Zl _ (by simp) hc) (λz=>nomatch z) fin
   |ob ks=>
    cases ks with
    |exn c=>rw[show jm h (.ref i)=none by simp only[jm,ey]]at ht;cases ht
    |dct kvs=>
     rw[show jm h (.ref i)=some "dict" by simp only[jm,ey]]at ht;cases ht;obtain⟨p',hp',hs⟩:=R.at ey;rw[hp]at hp';cases hp';obtain⟨_,_,vs,_,o,es,ep,h1,h2,_⟩:=(show _L.ObjOk X.prog X.w H s.heap p (.dK (kvs.map kk)) from I.hok p _ hs)
     exact PySem.W.kia_one PySem.W.kitx_dict I.kIn ⟨o,h1,h2.1⟩ (Zl _ (by simp) hc) (λz=>nomatch z) fin
 |_=>cases ht
theorem qDB{c:String}{xc:Str}{p pc:Pos}(hc:D4 c=true)(hg:_L.Gl X "isinstance")(hm:X.mg "isinstance"=none)(hgc:_L.Gl X xc)(hmc:X.mg xc=none)(hvc:bootBuiltins xc=some (.type c))(hn1:xc≠"__name__")(hn2:(xc==("__debug__":Str))=false)
  (hn:qe ea=true) (ha:SE X G F ea a):SE X G F (.Call (.Name "isinstance" p) [ea,.Name xc pc] [] pos) (.isi a [c]):=by
 refine zk (_L.pe_callB (q9 (G:=G) hc) hg hm PyProof.Rows.boot_isinstance (_L.pa_cons ha (_L.pa_cons (_L.pe_bltn (v:=.ty c) hgc hmc hvc rfl hn1 hn2) _L.pa_nil rfl) (qE hn)) (by decide) (by decide) (qE hn) rfl) λσc H Q q=>?_;obtain⟨φ,h,σ,v,h',R,rs,e,k⟩:=q;unfold ev at e;obtain⟨⟨x,h1⟩,e1,e⟩:=tM e;refine⟨φ,h,σ,x,h1,R,rs,e1,λφ1 H1 w x1 R1 r1=>?_⟩;dsimp only at e;split at e
 ·rename_i t et;cases e;refine⟨φ1,_,x,w,t,rfl,R1,r1,et,?_⟩;have:=k φ1 H1 (.bl ([c].any (QS t))) x1 R1 rfl;simpa using this
 ·cases e
noncomputable def QU:Expr->Bool
 | .Slice ..=>false
 |_=>true
theorem T3{e:Expr}(h:QU e=true):_L.PlainIx e:=by
 intro o i;cases e<;>first|rfl|cases h
theorem qDn(hb':QU eb=true)(ha:SE X G F ea a)(hb:SE X G F eb b):SE X G F (.Subscript ea eb pos) (.idx a b):=by
 refine zk (_L.pe_ix (_L.ix_list.or _L.ix_tup) ha hb (T3 hb')) λσc H Q q=>?_;obtain⟨φ,h,σ,v,h',R,rs,e,k⟩:=q;unfold ev at e;obtain⟨⟨x,h1⟩,e1,e⟩:=tM e;obtain⟨⟨y,h2⟩,e2,e⟩:=tM e;refine QA R rs e1 e2 λφ2 H2 xc yc x2 R2 r1 r2=>?_;cases x with
 |ref p=>
  cases y with
  |int i=>
   dsimp only at e;split at e
   ·rename_i xs ex;split at e
    ·rename_i w ew;cases e;obtain⟨p',zs,hp',hs,rs'⟩:=R2.its ex;obtain⟨q,rfl,hq⟩:=qO r1;rw[hp']at hq;cases hq;cases qB r2;obtain⟨j,ej,ew⟩:=wH.mp ew;obtain⟨w',hw',rw'⟩:=qJ rs' ew;have hat:_L.atI zs i=some w':=by
      unfold _L.atI;rw[<-Paired.length rs'];exact wH.mpr ⟨j,ej,hw'⟩
     rcases hs with hs|hs
     ·exact .inl ⟨_,zs,i,w',rfl,rfl,hs,hat,k φ2 H2 w' x2 R2 rw'⟩
     ·exact .inr ⟨_,zs,i,w',rfl,rfl,hs,hat,k φ2 H2 w' x2 R2 rw'⟩
    ·cases e
   ·cases e
  |_=>cases e
 |_=>cases e
theorem JN{φ:List Addr}{xs ys:List V}(r:rvs φ xs ys)(lo hi:Option Int):rvs φ (_L.cutV xs lo hi) (_L.cutV ys lo hi):=by
 unfold _L.cutV;rw[Paired.length r];exact jg _ (Zr _ r)
variable (X G F) in
def SO(o:Option Expr)(as:Es):Prop:=_L.PO X o λσc H Q=>∃φ h σ is h',Rl X.K G φ h H/\rst φ σ σc/\(∃vs,evs F as σ h=.ok (vs,h')/\jk vs=some is)/\∀φ' H',Ext φ φ'->Rl X.K G φ' h' H'->Q is.head? H'
theorem qCs:SO X G F none .nil:=by
 intro pins s σc H Q I q;obtain⟨φ,h,σ,is,h',R,rs,⟨vs,e,ei⟩,k⟩:=q;unfold evs at e;cases e;cases ei;exact _L.po_none pins s σc H Q I (k φ H (.refl _) R)
theorem G9(ha:SE X G F ea a):SO X G F (some ea) (.cons a .nil):=by
 intro pins s σc H Q I q;obtain⟨φ,h,σ,is,h',R,rs,⟨vs,e,ei⟩,k⟩:=q;unfold evs at e;obtain⟨⟨x,h1⟩,e1,e⟩:=tM e;unfold evs at e;cases e;refine _L.po_some ha pins s σc H Q I ⟨φ,h,σ,x,_,R,rs,e1,λφ1 H1 w x1 R1 r1=>?_⟩;have hm:=QK ei;cases is with
 |nil=>cases hm
 |cons i r=>
  simp only[List.map_cons,List.cons.injEq]at hm;obtain⟨rfl,_⟩:=hm;cases qB r1;exact⟨i,rfl,k φ1 H1 x1 R1⟩
theorem qDK{lo hi:Option Expr}{al ah:Es}{p2:Pos}(ha:SE X G F ea a)(hl:SO X G F lo al)(hh:SO X G F hi ah):SE X G F (.Subscript ea (.Slice lo hi none p2) pos) (.sl a al ah):=by
 refine zk (_L.pe_slice (_L.SlR.or _L.sl_list _L.sl_tup) ha hl hh) λσc H Q q=>?_;obtain⟨φ,h,σ,v,h',R,rs,e,k⟩:=q;unfold ev at e;obtain⟨⟨x,h1⟩,e1,e⟩:=tM e;obtain⟨⟨l,h2⟩,e2,e⟩:=tM e;obtain⟨⟨u,h3⟩,e3,e⟩:=tM e;cases x with
 |ref p=>
  cases eil:jk l with
  |none=>dsimp only at e;rw[eil]at e;cases e
  |some il=>
   cases eiu:jk u with
   |none=>dsimp only at e;rw[eil,eiu]at e;cases e
   |some iu=>
    dsimp only at e;rw[eil,eiu]at e;dsimp only at e;split at e
    ·rename_i xs ex;cases e;refine⟨φ,h,σ,_,h1,R,rs,e1,λφ1 H1 w x1 R1 r1=>?_⟩;refine⟨φ1,h1,σ,il,h2,R1,rst.mono x1 rs,⟨l,e2,eil⟩,λφ2 H2 x2 R2=>?_⟩;refine⟨φ2,h2,σ,iu,h3,R2,rst.mono (x1.trans x2) rs,⟨u,e3,eiu⟩,λφ3 H3 x3 R3=>?_⟩;obtain⟨p',zs,hp',hs,rs'⟩:=R3.lst ex;obtain⟨q,rfl,hq⟩:=qO (rv.mono (x2.trans x3) r1);rw[hp']at hq;cases hq;exact .inl ⟨_,zs,rfl,hs,λm hm=>k (φ3++[m]) _ _ ((x1.trans (x2.trans x3)).trans ⟨[m],rfl⟩) (R3.newL hm (JN rs' _ _)) R3.lastRef⟩
    ·split at e
     ·rename_i xs ex;split at e
      ·cases e
      ·rename_i hw;cases e;refine⟨φ,h,σ,_,h1,R,rs,e1,λφ1 H1 w x1 R1 r1=>?_⟩;refine⟨φ1,h1,σ,il,h2,R1,rst.mono x1 rs,⟨l,e2,eil⟩,λφ2 H2 x2 R2=>?_⟩;refine⟨φ2,h2,σ,iu,h3,R2,rst.mono (x1.trans x2) rs,⟨u,e3,eiu⟩,λφ3 H3 x3 R3=>?_⟩;obtain⟨p',zs,hp',hs,rs'⟩:=R3.tup ex;obtain⟨q,rfl,hq⟩:=qO (rv.mono (x2.trans x3) r1);rw[hp']at hq;cases hq;exact .inr ⟨_,zs,rfl,hs,by rw[<-Paired.length rs'];exact hw,λm hm=>k (φ3++[m]) _ _ ((x1.trans (x2.trans x3)).trans ⟨[m],rfl⟩) (R3.newT hm (JN rs' _ _)) R3.lastRef⟩
     ·cases e
 |_=>cases e
section
open _L
theorem qBx{X:_L.Cx}{e ek:Expr}{te:_L.TE}{tk:_L.TO}{p2 pos:Pos}(he:PE X e te)(hk:PO X (some ek) tk):PE X (.Subscript e (.Slice none none (some ek) p2) pos) (λσ H Q=>te σ H λx H1=>tk σ H1 λo H2=>o=some (-1)/\∃a xs,x=.ref a/\SqL X.K H2 a xs/\∀p,H2 p=none->Q (.ref p) (upd H2 p (.lst xs.reverse))):=by
 intro pins s σ H Q I h;refine Subscript_ (thn (he pins s σ H _ I h) λv s1 ⟨x,H1,I1,r1,q1⟩=>?_);refine wpAny_Slice ?_;rw[evalPart_none];refine vz (vz (thn (hk pins s1 σ H1 _ I1 q1) λvk s3 ⟨o,H3,I3,pk,ho,a,xs,hxa,hx,q⟩=>?_));subst ho;subst hxa;cases r1;have I4:Inv X pins σ H3 { s3 with heap:=s3.heap.push { cls:=.type "slice",data:=.fields #[.none,.none,vk] } }:=I3.kept (t':=s3.toks) λb ob q=>Heap.get?_push_of_some _ q;obtain⟨its,r,ht,hz⟩:=I4.list hx;have hlen:=r.length;show wpAny (model X.prog X.w) X.A (subscriptTail e (.Slice none none (some ek) p2) (.ref a) (.ref s3.heap.objs.size)) (EP X pins σ Q) X.xe { s3 with heap:=s3.heap.push { cls:=.type "slice",data:=.fields #[.none,.none,vk] } };refine tail_any (ops:=[.ref a,.ref s3.heap.objs.size]) (T:="list") ht.isList.typeIs slot_list_getitem.lookup (wpAny_getItem_list_slice ht.isList (Heap.IsSliceOf.new ..) .none .none pk (by decide) ?_ (by rw[wJ]<;>omega)) (by with_unfolding_all rfl);rw[PySem.W.krv_pick];refine⟨.ref _,_,I4.laid (t':=s3.toks) (o:=.lst xs.reverse) (λb ob q=>Heap.get?_push_of_some _ q) (wF _) ?_,rfl,q _ (I4.hok.fresh (wF _))⟩;exact⟨by rw[List.length_reverse];exact hz,_,0,r.reverse,Heap.get?_push_size _ rfl⟩
end
theorem JH{φ:List Addr}:∀{xs ys:List V},rvs φ xs ys->rvs φ xs.reverse ys.reverse
 |_,_,.nil=>.nil
 |_,_,.cons r t=>by rw[vO,vO];exact qd (JH t) (.cons r .nil)
theorem qBO{ek:Expr}{p2:Pos}(ha:SE X G F ea a)(hk:SO X G F (some ek) (.cons (.cst (.int (-1))) .nil)):SE X G F (.Subscript ea (.Slice none none (some ek) p2) pos) (.rev a):=by
 refine zk (qBx ha hk) λσc H Q q=>?_;obtain⟨φ,h,σ,v,h',R,rs,e,k⟩:=q;unfold ev at e;obtain⟨⟨x,h1⟩,e1,e⟩:=tM e;replace e:=zv e;obtain⟨p,rfl,e⟩:=e;split at e
 ·rename_i xs ex;cases e;refine⟨φ,h,σ,_,h1,R,rs,e1,λφ1 H1 w x1 R1 r1=>?_⟩;refine⟨φ1,h1,σ,[-1],h1,R1,rst.mono x1 rs,⟨[.int (-1)],by unfold evs ev;rfl,rfl⟩,λφ2 H2 x2 R2=>⟨rfl,?_⟩⟩;obtain⟨p',zs,hp',hs,rs'⟩:=R2.lst ex;obtain⟨q,rfl,hq⟩:=qO (rv.mono x2 r1);rw[hp']at hq;cases hq;exact⟨_,zs,rfl,hs,λm hm=>k (φ2++[m]) _ _ ((x1.trans x2).trans ⟨[m],rfl⟩) (R2.newL hm (JH rs')) R2.lastRef⟩
 ·cases e
theorem qEp{p p3:Pos}{n:Nat}:SE X G F (.UnaryOp .USub (.Constant (.int 1) n p) p3) (.cst (.int (-1))):=by
 refine zk (qAw (G:=G) (F:=F) (a:=.cst (.int 1)) h9) λσc H Q q=>?_;obtain⟨φ,h,σ,v,h',R,rs,e,k⟩:=q;refine⟨φ,h,σ,v,h',R,rs,?_,k⟩;unfold ev at e ⊢;unfold ev;exact e
theorem qDT{apos cpos:Pos}(hbase:attributeBase ea "append" X.env (eval ea X.env)=eval ea X.env)(hline:(apos.endLine==cpos.line)=true)(hn:qe eb=true)(ha:SE X G F ea a)(hb:SE X G F eb b):
  SE X G F (.Call (.Attribute ea "append" apos) [eb] [] cpos) (.app a b):=by
 refine zk (_L.pe_bm PySem.F.plainAttrs_list PySem.F.slot_list_append PySem.F.type_list_append _L.mt_append ha (_L.pa_cons hb _L.pa_nil (qE hn)) hbase (by rw[qE hn];rfl) hline (qE hn) rfl) λσc H Q q=>?_;obtain⟨φ,h,σ,v,h',R,rs,e,k⟩:=q;unfold ev at e;obtain⟨⟨x,h1⟩,e1,e⟩:=tM e;dsimp only at e;split at e
 ·rename_i p;split at e
  ·rename_i ys ey;obtain⟨⟨y,h2⟩,e2,e⟩:=tM e;dsimp only at e;split at e
   ·rename_i xs ex;split at e
    ·rename_i hl;cases e;refine⟨φ,h,σ,_,h1,R,rs,e1,λφ1 H1 w x1 R1 r1=>?_⟩;obtain⟨p1,zs1,hp1,hs1,_⟩:=R1.lst ey;obtain⟨q,rfl,hq⟩:=qO r1;rw[hp1]at hq;cases hq;refine⟨.inl ⟨rfl,_,hs1⟩,φ1,h1,σ,y,h2,R1,rst.mono x1 rs,e2,λφ2 H2 yc x2 R2 r2=>?_⟩;obtain⟨q1,p2,zs2,hp2,hH2,rs2⟩:=R2.mut ex;have:=x2.get hp1;rw[hp2]at this;cases this;refine⟨_,zs2,yc,rfl,rfl,hH2,?_,k φ2 _ _ (x1.trans x2) (R2.set q1 hp2 (qd rs2 (.cons r2 .nil))) trivial⟩;rw[<-Paired.length rs2];exact wx hl qA1
    ·cases e
   ·cases e
  ·cases e
 ·cases e
theorem Rl.same{K:PySem.W.Frag}{G φ:List Addr}{h:AH}{H H':Hp}(R:Rl K G φ h H)(s:Zw H H'):Rl K G φ h H':=⟨R.len,R.glob,λi o a e1 e2=>(R.obj i o a e1 e2).keep (.refl _) s,R.inj⟩
theorem B1{φ:List Addr}:∀{xs:List V},xs.all flat=true->rvs φ xs xs
 | [],_=>.nil
 |x::xs,h=>by
  simp only[List.all_cons,wB]at h;refine .cons ?_ (B1 h.2);cases x<;>first|rfl|exact trivial|(cases h.1)
theorem V5:zr X (.type "range") (λxs H Q=>∃j:Int,xs=[.int j]/\∀p,H p=none->Q (.ref p) (upd H p (.rng 0 j))):=by
 intro pins s σ H xs us Q I r ⟨j,e,q⟩;subst e;obtain⟨u,rfl,ru⟩:=_L.vals1 r;obtain⟨t,rfl⟩:=ru;refine call_range_1 ⟨.ref s.heap.objs.size,_,I.laid (λ_ _ q=>Heap.get?_push_of_some _ q) (wF _) ?_,rfl,q _ (I.hok.fresh (wF _))⟩;exact⟨_,_,_,Heap.get?_push_size _ rfl⟩
theorem Ja{P:Nat->V}:∀{n:Nat}{acc:List Value},acc.length=n->(∀(j:Nat) v,acc[j]?=some v->RelV (P j) v)->Vals ((List.range n).map P) acc:=by
 intro n
 induction n with
 |zero=>intro acc hl _;cases acc with|nil=>exact .nil|cons _ _=>simp at hl
 |succ n ih=>
  intro acc hl ha;have hne:acc≠[]:=by intro z;subst z;simp at hl
  rw[List.range_succ,vL,<-vD hne];have hd:acc.dropLast.length=n:=by rw[List.length_dropLast,hl];rfl
  refine qd (ih hd λj v e=>ha j v ?_) (.cons (ha n _ ?_) .nil)
  ·rw[<-vD hne,wD (wC.mp e).1];exact e
  ·rw[wE (by omega),List.getLast_eq_getElem];congr 1;simp[hl]
theorem A5(hc:X.calm=true):zr X (.type "list") (λxs H Q=>∃p,∃j:Int,xs=[.ref p]/\H p=some (.rng 0 j)/\(-1000000<=j/\j<=100000)/\∀l,H l=none->Q (.ref l) (upd H l (.lst (QM 0 j.toNat)))):=by
 intro pins s σ H xs us Q I r ⟨p,j,e,hp,hj,q⟩;subst e;obtain⟨u,rfl,ru⟩:=_L.vals1 r;cases ru;obtain⟨t,u,v,hr⟩:=I.hok p _ hp;have hn:Builtin.Range.rangeSize 0 j 1=((j.toNat:Nat):Int):=by rw[rangeSize_one];split<;>omega
 refine call_list_range (I.ok.hd hc) hr (small_one (by omega) (by omega) (by omega) (by omega)) hn (by omega) λh' tk acc' c' hk hS hI=>?_;refine⟨.ref s.heap.objs.size,_,I.laid (t':=tk) hk (wF _) ?_,rfl,q _ (I.hok.fresh (wF _))⟩;obtain⟨i1,i2⟩:=hI;refine⟨?_,acc'.toList,c',Ja (by simpa using i1) λk v e=>?_,by simpa using hS⟩
 ·have:=Zs;unfold lim at this;rw[QM,wW,vA];omega
 ·obtain⟨t',rfl⟩:=i2 k v (by simpa using e);exact⟨t',by rw[Int.mul_one]⟩
theorem qCX{p p2 pos2:Pos}(hc:X.calm=true)(hg:_L.Gl X "list")(hm:X.mg "list"=none)(hg2:_L.Gl X "range")(hm2:X.mg "range"=none)(hn:qe ea=true)(ha:SE X G F ea a):
  SE X G F (.Call (.Name "list" p) [.Call (.Name "range" p2) [ea] [] pos2] [] pos) (.lrng a):=by
 refine zk (_L.pe_callTy (A5 hc) hg hm PyProof.Rows.boot_list (_L.pa_cons (_L.pe_callTy V5 hg2 hm2 PyProof.Rows.boot_range (_L.pa_cons ha _L.pa_nil (qE hn)) (by decide) (by decide) (qE hn) rfl) _L.pa_nil rfl) (by decide) (by decide) rfl rfl) λσc H Q q=>?_;obtain⟨φ,h,σ,v,h',R,rs,e,k⟩:=q;unfold ev at e;obtain⟨⟨x,h1⟩,e1,e⟩:=tM e;refine⟨φ,h,σ,x,h1,R,rs,e1,λφ1 H1 w x1 R1 r1=>?_⟩;cases x with
 |int j=>
  dsimp only at e;split at e
  ·rename_i hj;cases e;cases qB r1;refine⟨j,rfl,λp hp=>⟨p,j,rfl,qI,hj,λl hl=>?_⟩⟩;have hlp:l≠p:=by rintro rfl;rw[qI]at hl;cases hl
   have R2:Rl X.K G φ1 h1 (upd H1 p (.rng 0 j)):=R1.same (Je hp);exact k (φ1++[l]) _ _ (x1.trans ⟨[l],rfl⟩) (R2.newL hl (B1 (by simp[QM,flat]))) R2.lastRef
  ·cases e
 |_=>cases e
theorem JK{h:AH}{p:Nat}{xs:List V}(ex:zm h p=some xs):qK h p=some xs:=by
 unfold zm at ex;unfold qK;split at ex
 ·rename_i e0;cases ex;rw[e0]
 ·cases ex
end
theorem qBy{φ:List Addr}{v w w':V}(a:rv φ v w)(b:rv φ v w'):w=w':=by
 cases v with
 |ref i=>
  obtain⟨x,rfl,e1⟩:=qO a;obtain⟨y,rfl,e2⟩:=qO b;rw[e1]at e2;cases e2;rfl
 |int i=>rw[qB a,qB b]
 |bl i=>rw[jE a,jE b]
 |str i=>rw[jL a,jL b]
 |non=>rw[zy a,zy b]
 |_=>cases w<;>cases a
theorem ZP{φ:List Addr}:∀{vs ws ws':List V},rvs φ vs ws->rvs φ vs ws'->ws=ws'
 |_,_,_,.nil,.nil=>rfl
 |_,_,_,.cons a r,.cons b s=>by rw[qBy a b,ZP r s]
theorem Rl.pre{K:PySem.W.Frag}{G φ φ':List Addr}{h h2:AH}{H0 H1:Hp}(R0:Rl K G φ h H0)(R1:Rl K G φ' h2 H1)(x:Ext φ φ')(ht:h2.take h.length=h):Rl K G φ h H1:=by
 have up:∀{i:Nat}{o:O},h[i]?=some o->h2[i]?=some o:=λ{i o} e=>by
  have hi:=(wC.mp e).1;rw[<-ht,wp hi]at e;exact e
 refine⟨R0.len,R0.glob,λi o a e ea=>?_,λi j u y a m1 m2 e1 e2 e3 e4=>R1.inj i j u y a m1 m2 (up e1) (up e2) (x.get e3) (x.get e4)⟩;have r1:=R1.obj i o a (up e) (x.get ea);have r0:=R0.obj i o a e ea
 match o,r0,r1 with
 | .lst false xs,⟨ys,_,p⟩,⟨ys',e',p'⟩=>rw[ZP p' (rvs.mono x p)]at e';exact⟨ys,e',p⟩
 | .lst true xs,⟨ys,_,p⟩,⟨ys',e',p'⟩=>rw[ZP p' (rvs.mono x p)]at e';exact⟨ys,e',p⟩
 | .tup xs,⟨ys,_,p⟩,⟨ys',e',p'⟩=>rw[ZP p' (rvs.mono x p)]at e';exact⟨ys,e',p⟩
 | .ob (.dct _),_,e'=>exact e'
 | .ob (.exn _),_,e'=>exact e'
open _L (It A7 Zx)
abbrev Zf(h:Heap)(z ti to:Addr)(f0 f1:Value):Prop:=
 h.get? z=some { cls:=.type "zip",dict:=none,data:=.fields #[f0,f1,.bool false,.ref ti,.ref to],slots:=#[] }
section
variable{P:Program}{w:World}{K:Type}[DecidableEq K]{knd:KeyKind P w K}{A:Around}{E:Value->Shared->Prop}{z ti to i1 i2 a b d:Addr}{xs ys:Array Value}
def Left(knd:KeyKind P w K)(xs ys:Array Value)(k:Nat)(L:List (K×Value)):Prop:=
 (∀j p,L[j]?=some p->∃x,xs[k+j]?=some x/\knd.is p.1 x=true/\ys[k+j]?=some p.2)/\(xs[k+L.length]?=none\/ys[k+L.length]?=none)
theorem Left.next{k:Nat}{p:K×Value}{L:List (K×Value)}(h:Left knd xs ys k (p::L)):(∃x,xs[k]?=some x/\knd.is p.1 x=true/\ys[k]?=some p.2)/\Left knd xs ys (k+1) L:=by
 refine⟨by simpa using h.1 0 p rfl,λj q e=>?_,?_⟩
 ·have:=h.1 (j+1) q (by simpa using e);rw[show k+(j+1)=k+1+j by omega]at this;exact this
 ·have:=h.2;rw[List.length_cons,show k+(L.length+1)=k+1+L.length by omega]at this;exact this
end
noncomputable def Itz(K:PySem.W.Frag)(a b:Addr):It:=
 ⟨λi H=>∃xs ys x y,SqL K H a xs/\SqL K H b ys/\xs[i]?=some x/\ys[i]?=some y,
  λi H v H'=>∃p x y,H p=none/\v=.ref p/\H'=upd H p (.tup [x,y])/\(∀xs,SqL K H a xs->xs[i]?=some x)/\∀ys,SqL K H b ys->ys[i]?=some y,
  λi H=>∃xs ys,SqL K H a xs/\SqL K H b ys/\(xs.length<=i\/ys.length<=i)⟩
theorem l4{X:Cx}{pins:List (Addr×Obj)}{σ:_L.St}{H:Hp}{s:Shared}{h':Heap}{T:Addr}{xs:List V}{its:List Value}{ch:List Addr}{t':Nat}(I:Inv X pins σ H s)(hf:∀b∈ch,Zx X pins H b)
  (hT:s.heap.objs.size<=T) (k:∀b o,b∉ch->s.heap.get? b=some o->h'.get? b=some o) (hp:IsTup h' T its.toArray) (hv:Vals xs its) (hz:xs.length<=sizeLine) (hTc:T∉ch):
  Inv X pins σ (upd H T (.tup xs)) { s with heap:=h',toks:=t' }:=by
 have hn:H T=none:=I.hok.fresh hT;have neT:∀b o,s.heap.get? b=some o->b≠T:=λb o e=>wZ (wG (Heap.lt_size e) hT);refine I.step (g':=s.gens) (d':=s.drawn) (ch:=ch) (λb hb=>⟨(hf b hb).2.2.2.1,(hf b hb).2.1,(hf b hb).2.2.2.2.1,(hf b hb).2.2.2.2.2⟩) (λb o _ _ hc e _=>k b o hc e) (λb o _ _ hc e _=>⟨o.slots,k b o hc e⟩)
  (λb o _ e n=>by rw[qG (neT b o e)];exact n) (λb o hc e=>⟨o,k b o hc e⟩) (λb ys e=>by rw[qG (_L.ne_of_none e hn)];exact e) (λb o u e=>by rw[qG (_L.ne_of_none e hn)];exact e)
  (λb ps e=>⟨#[],by rw[qG (_L.ne_of_none e hn),e];simp⟩) (λm hm=>?_) (λb u e=>?_) I.bare
 ·obtain⟨o,es,ep,ho,r⟩:=hm;exact⟨o,es,ep,k _ o (λz=>(hf _ z).2.1 rfl) ho,r⟩
 ·by_cases hb:b=T
  ·subst hb;rw[qI]at e;cases e;exact⟨hz,its,hv,hp⟩
  ·rw[qG hb]at e;have nc:∀c u,H c=some u->c∉ch:=λc u q z=>by rw[(hf c z).1]at q;cases q
   refine(I.hok b u e).stay (λc v hc q=>k c v ?_ q) (λc q=>by rw[qG (_L.ne_of_none q hn)];exact q) λc ys q=>by rw[qG (_L.ne_of_none q hn)];exact q
   rcases hc with z|z
   ·rw[z];exact nc b u e
   ·exact nc c _ z
theorem qAa{P:Program}{w:World}{K:PySem.W.Frag}{elts:List Expr}{kk:Nat}{tpos:Pos}(z TI TO i1 i2 a b:Addr)(D:ZipApart z TI TO i1 i2 a b):
  A7 P w K (.Tuple elts kk tpos) (Itz K a b) [z,TI,TO,i1,i2] z (λi h=>IsZip h z TI TO .none/\IsPair h TI (.ref i1) (.ref i2)/\(∃x y,IsPair h TO x y)/\h.IsListIter i1 a i/\h.IsListIter i2 b i) where
 mem:=by simp
 obj:=λi h st c hc=>by
  obtain⟨h1,h2,⟨x,y,h3⟩,⟨o4,e4,c4,d4⟩,⟨o5,e5,c5,d5⟩⟩:=st;simp only[wP,wl,or_false]at hc;rcases hc with rfl|rfl|rfl|rfl|rfl
  ·exact⟨_,h1,λv q=>by have q':Data.fields _=Data.cell v:=q;cases q'⟩
  ·exact⟨_,h2,λv q=>by have q':Data.seq _ _=Data.cell v:=q;cases q'⟩
  ·exact⟨_,h3,λv q=>by have q':Data.seq _ _=Data.cell v:=q;cases q'⟩
  ·exact⟨o4,e4,λv q=>by rw[d4]at q;cases q⟩
  ·exact⟨o5,e5,λv q=>by rw[d5]at q;cases q⟩
 keep:=λi h h' st k=>by
  obtain⟨h1,h2,⟨x,y,h3⟩,h4,h5⟩:=st;exact⟨k z (by simp) _ h1,k TI (by simp) _ h2,⟨x,y,k TO (by simp) _ h3⟩,h4.at λo e=>k i1 (by simp) o e,h5.at λo e=>k i2 (by simp) o e⟩
 item:=by
  intro X hP hw hK hc i pins s σ H E I hf st hg;subst hP hw hK;obtain⟨xs,ys,x,y,hq1,hq2,hx,hy⟩:=hg;obtain⟨its1,rv1,p1,_⟩:=I.list hq1;obtain⟨its2,rv2,p2,_⟩:=I.list hq2;obtain⟨u,hu,ru⟩:=rv1.get hx;obtain⟨w',hw',rw'⟩:=rv2.get hy;obtain⟨h1,h2,⟨ta,tb,h3⟩,h4,h5⟩:=st;refine wpAny_pyNext_zip_item D h1 h2 h3 h4 h5 p1.isList p2.isList (x:=u) (y:=w') (by simpa using hu) (by simpa using hw') λh' z1 z2 z3 z4 z5 z6 z7=>?_;refine⟨_,rfl,wpAny_letOwnedTupleGo_zip z1 λh'' g1 gs=>?_⟩;have lt:∀c∈[z,TI,TO,i1,i2],c≠s.heap.objs.size:=λc hc=>by
   have ex:∃o,s.heap.get? c=some o:=by
    simp only[wP,wl,or_false]at hc;rcases hc with rfl|rfl|rfl|rfl|rfl
    ·exact⟨_,h1⟩
    ·exact⟨_,h2⟩
    ·exact⟨_,h3⟩
    ·obtain⟨o,e,_⟩:=h4;exact⟨o,e⟩
    ·obtain⟨o,e,_⟩:=h5;exact⟨o,e⟩
   obtain⟨o,e⟩:=ex;exact wZ (Heap.lt_size e)
  have up:∀c o,c≠z->h'.get? c=some o->h''.get? c=some o:=λc o hz e=>gs.extBut c o hz e;have kp:∀c o,c∉[z,TI,TO,i1,i2]->s.heap.get? c=some o->h''.get? c=some o:=λc o hn e=>by
   simp only[wP,wl,or_false,not_or]at hn;exact up c o hn.1 (z7 c o hn.1 hn.2.2.1 hn.2.2.2.1 hn.2.2.2.2 e)
  have ht:IsTup h'' s.heap.objs.size #[u,w']:=⟨_,up _ _ (Ne.symm (lt z (by simp))) z5,rfl,_,rfl⟩
  have I1:=l4 (t':=s.toks) (xs:=[x,y]) (its:=[u,w']) I hf (wF _) kp ht (.cons ru (.cons rw' .nil)) (by show 2<=sizeLine;decide) (λq=>lt _ q rfl);refine⟨.ref s.heap.objs.size,_,I1,rfl,⟨s.heap.objs.size,x,y,I.hok.fresh (wF _),rfl,rfl,λzs hz=>by rw[I.list_inj hz hq1];exact hx,λzs hz=>by rw[I.list_inj hz hq2];exact hy⟩,
   ⟨g1,up _ _ D.TIz (z7 TI _ D.TIz D.TITO D.TIi1 D.TIi2 h2),⟨_,_,up _ _ D.TOz z2⟩,z3.at λo e=>up _ o D.i1z e,z4.at λo e=>up _ o D.i2z e⟩,λc hc=>?_⟩
  rw[qG (lt c hc)];exact(hf c hc).1
 done:=by
  intro X hP hw hK hc i pins s σ H E I hf st hg;subst hP hw hK;obtain⟨xs,ys,hq1,hq2,hl⟩:=hg;obtain⟨its1,rv1,p1,_⟩:=I.list hq1;obtain⟨its2,rv2,p2,_⟩:=I.list hq2;obtain⟨h1,h2,⟨ta,tb,h3⟩,h4,h5⟩:=st;have n1:=rv1.length;have n2:=rv2.length;refine wpAny_pyNext_zip_end (I.ok.hd hc) D h1 h2 h3 h4 h5 p1.isList p2.isList ?_ λh' z7=>⟨rfl,?_⟩
  ·rcases hl with hl|hl
   ·left;simp;omega
   ·right;simp;omega
  ·have kp:∀c o,c∉[z,TI,TO,i1,i2]->s.heap.get? c=some o->h'.get? c=some o:=λc o hn e=>by
    simp only[wP,wl,or_false,not_or]at hn;exact z7 c o hn.1 hn.2.2.1 hn.2.2.2.1 hn.2.2.2.2 e
   refine I.step (g':=s.gens) (d':=s.drawn) (t':=s.toks) (ch:=[z,TI,TO,i1,i2]) (λb hb=>⟨(hf b hb).2.2.2.1,(hf b hb).2.1,(hf b hb).2.2.2.2.1,(hf b hb).2.2.2.2.2⟩) (λb o _ _ hc e _=>kp b o hc e) (λb o _ _ hc e _=>⟨o.slots,kp b o hc e⟩)
    (λb o _ e n=>n) (λb o hc e=>⟨o,kp b o hc e⟩) (λb ys e=>e) (λb o u e=>e) (λb ps e=>⟨#[],by rw[e];simp⟩) (λm hm=>?_) (λb u e=>?_) I.bare
   ·obtain⟨o,es,ep,ho,r⟩:=hm;exact⟨o,es,ep,kp _ o (λz=>(hf _ z).2.1 rfl) ho,r⟩
   ·have nc:∀c u,H c=some u->c∉[z,TI,TO,i1,i2]:=λc u q z=>by rw[(hf c z).1]at q;cases q
    refine(I.hok b u e).stay (λc v hc q=>kp c v ?_ q) (λc q=>q) λc ys q=>q;rcases hc with z|z
    ·rw[z];exact nc b u e
    ·exact nc c _ z
 self:=λ_ _ _ _ _ st h=>wpAny_pyIter_zip st.1 h
noncomputable def qHi(K:PySem.W.Frag)(ta:TA):_L.TI:=λσ H R=>ta σ H λvs H1=>∃a b,vs=[.ref a,.ref b]/\(∃xs,SqL K H1 a xs)/\(∃ys,SqL K H1 b ys)/\R (Itz K a b) H1
theorem qEV{X:Cx}{ea eb:Expr}{ta:TA}{p pos tpos:Pos}{elts:List Expr}{kk:Nat}(hg:_L.Gl X "zip")(hm:X.mg "zip"=none)(ha:PA X [ea,eb] ta)(h1:qe ea=true)(h2:qe eb=true):
  _L._P X (.Tuple elts kk tpos) (.Call (.Name "zip" p) [ea,eb] [] pos) (qHi X.K ta):=by
 intro pins s σ H R I h;refine Call_ (_L.ld_blt I hg hm PyProof.Rows.boot_zip (PyProof.Rows.callWith_type1 (_L.thn (ha pos pins s σ H _ I h) λus s1 ⟨vs,H1,I1,r1,q1⟩=>?_) (qE h1) (jd (by simp[h2]))));obtain⟨a,b,e,⟨xs,hq1⟩,⟨ys,hq2⟩,q⟩:=q1;subst e;cases r1 with
 |cons r rr=>
  cases rr with
  |cons r' rr=>
   cases rr;cases r;cases r';obtain⟨its1,rv1,p1,_⟩:=I1.list hq1;obtain⟨its2,rv2,p2,_⟩:=I1.list hq2;have a1:a<s1.heap.objs.size:=by obtain⟨_,e,_⟩:=p1.isList;exact Heap.lt_size e
   have a2:b<s1.heap.objs.size:=by obtain⟨_,e,_⟩:=p2.isList;exact Heap.lt_size e
   refine call_zip_2 p1.isList p2.isList λh' hz hTI hTO hi1 hi2 _ hk=>?_;refine wpAny_pyIter_zip hz ?_;have I2:Inv X pins σ H1 { s1 with heap:=h' }:=I1.kept (t':=s1.toks) hk;refine⟨_,_,_,_,H1,rfl,I2,qAa _ _ _ _ _ a b (zipApart_new a1 a2),⟨hz,hTI,⟨_,_,hTO⟩,hi1,hi2⟩,λc hc=>?_,q⟩;have hge:s1.heap.objs.size<=c:=by
    simp only[wP,wl,or_false]at hc;rcases hc with rfl|rfl|rfl|rfl|rfl
    ·exact vd _ 4
    ·exact vd _ 2
    ·exact vd _ 3
    ·exact wF _
    ·exact vd _ 1
   exact I1.fpOk hge (I1.hok.fresh hge)
abbrev Tu(h:Heap)(T:Addr)(vs:Array Value):Prop:=h.get? T=some { cls:=.type "tuple",data:=.seq vs }
section
variable{P:Program}{w:World}{A:Around}{E:Value->Shared->Prop}{s:Shared}{z ti to i1 i2 i3 a b c:Addr}{f0:Value}{k1 k2 k3:Nat}{xs ys us:Array Value}{p q r:Value}
def Kp(z to i1 i2 i3:Addr)(h g:Heap):Prop:=g.objs.size=h.objs.size/\∀c o,c∉[z,to,i1,i2,i3]->h.get? c=some o->g.get? c=some o
theorem Kp.step{h g g':Heap}{d:Addr}(k:Kp z to i1 i2 i3 h g)(hd:d∈[z,to,i1,i2,i3])(e:Heap.SameBut d g g'):Kp z to i1 i2 i3 h g':=
 ⟨by rw[e.1,k.1],λc o hc ho=>e.extBut c o (λx=>hc (x ▸ hd)) (k.2 c o hc ho)⟩
end
noncomputable def Ite(K:PySem.W.Frag)(a:Addr):It:=
 ⟨λi H=>∃xs x,SqL K H a xs/\xs[i]?=some x,
  λi H v H'=>∃p x,H p=none/\v=.ref p/\H'=upd H p (.tup [.int (i:Int),x])/\∀xs,SqL K H a xs->xs[i]?=some x,
  λi H=>∃xs,SqL K H a xs/\xs.length<=i⟩
theorem j7{P:Program}{w:World}{K:PySem.W.Frag}{elts:List Expr}{kk:Nat}{tpos:Pos}(e it a:Addr)(hei:e≠it):
  A7 P w K (.Tuple elts kk tpos) (Ite K a) [e,it] e (λi h=>(∃old,IsEnum h e it i old)/\h.IsListIter it a i) where
 mem:=by simp
 obj:=λi h st c hc=>by
  obtain⟨⟨old,h1⟩,⟨o4,e4,c4,d4⟩⟩:=st;simp only[wP,wl,or_false]at hc;rcases hc with rfl|rfl
  ·exact⟨_,h1,λv q=>by have q':Data.fields _=Data.cell v:=q;cases q'⟩
  ·exact⟨o4,e4,λv q=>by rw[d4]at q;cases q⟩
 keep:=λi h h' st k=>by
  obtain⟨⟨old,h1⟩,h4⟩:=st;exact⟨⟨old,k e (by simp) _ h1⟩,h4.at λo x=>k it (by simp) o x⟩
 item:=by
  intro X hP hw hK hc i pins s σ H E I hf st hg;subst hP hw hK;obtain⟨xs,x,hq1,hx⟩:=hg;obtain⟨its1,rv1,p1,_⟩:=I.list hq1;obtain⟨u,hu,ru⟩:=rv1.get hx;obtain⟨⟨old,h1⟩,h4⟩:=st;refine wpAny_pyNext_enum_item h1 h4 p1.isList (x:=u) (by simpa using hu) hei λh' z1 z3 z5 z6 z7=>?_;refine⟨_,rfl,wpAny_letOwnedTupleGo_enum z1 λh'' g1 gs=>?_⟩;have lt:∀c∈[e,it],c≠s.heap.objs.size:=λc hc=>by
   have ex:∃o,s.heap.get? c=some o:=by
    simp only[wP,wl,or_false]at hc;rcases hc with rfl|rfl
    ·exact⟨_,h1⟩
    ·obtain⟨o,e,_⟩:=h4;exact⟨o,e⟩
   obtain⟨o,e⟩:=ex;exact wZ (Heap.lt_size e)
  have up:∀c o,c≠e->h'.get? c=some o->h''.get? c=some o:=λc o hz q=>gs.extBut c o hz q;have kp:∀c o,c∉[e,it]->s.heap.get? c=some o->h''.get? c=some o:=λc o hn q=>by
   simp only[wP,wl,or_false,not_or]at hn;exact up c o hn.1 (z7 c o hn.1 hn.2 q)
  have ht:IsTup h'' s.heap.objs.size #[.int i s.toks,u]:=⟨_,up _ _ (Ne.symm (lt e (by simp))) z5,rfl,_,rfl⟩
  have I1:=l4 (t':=s.toks+1) (xs:=[.int (i:Int),x]) (its:=[.int i s.toks,u]) I hf (wF _) kp ht (.cons ⟨_,rfl⟩ (.cons ru .nil)) (by show 2<=sizeLine;decide) (λq=>lt _ q rfl);refine⟨.ref s.heap.objs.size,_,I1,rfl,⟨s.heap.objs.size,x,I.hok.fresh (wF _),rfl,rfl,λzs hz=>by rw[I.list_inj hz hq1];exact hx⟩,
   ⟨⟨_,by simpa using g1⟩,z3.at λo q=>up _ o (Ne.symm hei) q⟩,λc hc=>?_⟩
  rw[qG (lt c hc)];exact(hf c hc).1
 done:=by
  intro X hP hw hK hc i pins s σ H E I hf st hg;subst hP hw hK;obtain⟨xs,hq1,hl⟩:=hg;obtain⟨its1,rv1,p1,_⟩:=I.list hq1;obtain⟨⟨old,h1⟩,h4⟩:=st;have n1:=rv1.length;obtain⟨f0,f1,f2,f3,f4,f5⟩:=hf it (by simp);exact wpAny_pyNext_enum_end (I.ok.hd hc) h1 h4 p1.isList (by simp;omega) λh' eb=>⟨rfl,I.turned (t':=s.toks) (λb o hb q=>eb b o hb q) f0 f1 f3 f4 f5⟩
 self:=λ_ i s Q E st hQ=>by
  obtain⟨⟨old,h1⟩,h4⟩:=st;exact wpAny_pyIter_enum h1 hQ
noncomputable def qFR(K:PySem.W.Frag)(ta:TA):_L.TI:=λσ H R=>ta σ H λvs H1=>∃a,vs=[.ref a]/\(∃xs,SqL K H1 a xs)/\R (Ite K a) H1
theorem qCu{X:Cx}{ea:Expr}{ta:TA}{p pos tpos:Pos}{elts:List Expr}{kk:Nat}(hg:_L.Gl X "enumerate")(hm:X.mg "enumerate"=none)(ha:PA X [ea] ta)(h1:qe ea=true):
  _L._P X (.Tuple elts kk tpos) (.Call (.Name "enumerate" p) [ea] [] pos) (qFR X.K ta):=by
 intro pins s σ H R I h;refine Call_ (_L.ld_blt I hg hm PyProof.Rows.boot_enumerate (PyProof.Rows.callWith_type1 (_L.thn (ha pos pins s σ H _ I h) λus s1 ⟨vs,H1,I1,r1,q1⟩=>?_) (qE h1) (jd (by simp))));obtain⟨a,e,⟨xs,hq1⟩,q⟩:=q1;subst e;cases r1 with
 |cons r rr=>
  cases rr;cases r;obtain⟨its1,rv1,p1,_⟩:=I1.list hq1;refine call_enumerate_list p1.isList λh' he hi hsz hk=>?_;refine wpAny_pyIter_enum he ?_;have I2:Inv X pins σ H1 { s1 with heap:=h' }:=I1.kept (t':=s1.toks) hk;refine⟨_,_,_,_,H1,rfl,I2,j7 _ _ a (Nat.succ_ne_self _),⟨⟨_,he⟩,hi⟩,λc hc=>?_,q⟩;have hge:s1.heap.objs.size<=c:=by
   simp only[wP,wl,or_false]at hc;rcases hc with rfl|rfl
   ·exact vd _ 1
   ·exact wF _
  exact I1.fpOk hge (I1.hok.fresh hge)
noncomputable def Itd(lo:Int)(n:Nat):It:=⟨λi _=>i<n,λi H x H'=>H'=H/\x=.int (lo-(i:Int)),λi _=>n<=i⟩
theorem k6{P:Program}{w:World}{K:PySem.W.Frag}{tg:Expr}(it:Addr)(lo:Int)(n:Nat):A7 P w K tg (Itd lo n) [it] it (λi h=>IsRangeIter h it (lo+(i:Nat)*(-1)) ((n:Int)-(i:Nat)) (-1)) where
 mem:=by simp
 obj:=λi h st b hb=>by
  have e:b=it:=by simpa using hb
  subst e;exact⟨_,st,λv z=>by
   have z':Data.fields _=Data.cell v:=z;cases z'⟩
 keep:=λi h h' st k=>k it (by simp) _ st
 item:=by
  intro X hP hw hK hc i pins s σ H E I hf st hg;subst hP hw hK;obtain⟨f0,f1,f2,f3,f4,f5⟩:=hf it (by simp);have W:=Walks.range (prog:=X.prog) (w:=X.w) (I.ok.hd hc) it lo (-1) n;refine W.item i s _ _ hg st λv h' tk hv st' kk=>?_;obtain⟨t,rfl⟩:=hv;have I1:Inv X pins σ H { s with heap:=h',toks:=tk }:=I.turned (λb o hb e=>kk b o (by simpa using hb) e) f0 f1 f3 f4 f5;refine⟨_,rfl,_L.go_of (s:={ s with heap:=h',toks:=tk }) (n:="range_iterator") st' rfl rfl (by decide) ⟨.int (lo-i),H,I1,⟨t,?_⟩,⟨rfl,rfl⟩,st',λb hb=>(hf b hb).1⟩⟩;congr 1;omega
 done:=by
  intro X hP hw hK hc i pins s σ H E I hf st hg;subst hP hw hK;obtain⟨f0,f1,f2,f3,f4,f5⟩:=hf it (by simp);exact wpAny_pyNext_range_end (I.ok.hd hc) st (by have:n<=i:=hg;omega) λh' eb=>⟨rfl,I.turned (t':=s.toks) (λb o hb e=>eb b o hb e) f0 f1 f3 f4 f5⟩
 self:=λ_ _ _ _ _ st h=>wpAny_pyIter_rangeiter st h
theorem D1(lo hi:Int):Builtin.Range.rangeSize lo hi (-1)=(((lo-hi).toNat:Nat):Int):=by
 unfold Builtin.Range.rangeSize;simp;split<;>omega
theorem S8{i j:Int}(h1:-1000000<=i)(h2:i<=1000000)(h3:-1000000<=j)(h4:j<=1000000):Builtin.Range.small i j (-1)=true:=by
 unfold Builtin.Range.small;rw[D1];simp only[Builtin.Range.rangeFitsLong,wB,vK,uC,beq_iff_eq,show ¬ ((-1:Int)>0) by decide,if_false]
 (repeat' split)<;>omega
noncomputable def qGB(ta:TA):_L.TI:=λσ H R=>ta σ H λvs H1=>∃i j:Int,vs=[.int i,.int j,.int (-1)]/\(-1000000<=i/\i<=1000000/\-1000000<=j/\j<=1000000)/\R (Itd i (i-j).toNat) H1
theorem j8{X:Cx}{tg a b c:Expr}{ta:TA}{p pos:Pos}(hg:_L.Gl X "range")(hm:X.mg "range"=none)(ha:PA X [a,b,c] ta)(h1:qe a=true)(h2:qe b=true)(h3:qe c=true):
  _L._P X tg (.Call (.Name "range" p) [a,b,c] [] pos) (qGB ta):=by
 intro pins s σ H R I h;refine Call_ (_L.ld_blt I hg hm PyProof.Rows.boot_range (PyProof.Rows.callWith_type1 (_L.thn (ha pos pins s σ H _ I h) λus s1 ⟨vs,H1,I1,r1,q1⟩=>?_) (qE h1) (jd (by simp[h2,h3]))));obtain⟨i,j,e,⟨q1,q2,q3,q4⟩,q⟩:=q1;subst e;cases r1 with
 |cons r rr=>
  cases rr with
  |cons r' rr=>
   cases rr with
   |cons r'' rr=>
    cases rr;obtain⟨t,rfl⟩:=r;obtain⟨t',rfl⟩:=r';obtain⟨t'',rfl⟩:=r'';refine call_range_3 (by decide) ?_ (Or.inl (PyProof.noPylong_small (by omega)));refine wpAny_pyIter_range (IsRange.new ..) (S8 q1 q2 q3 q4) ?_;have I2:Inv X pins σ H1 { s1 with heap:=s1.heap.push { cls:=.type "range",data:=.fields #[.int i t,.int j t',.int (-1) t''] },toks:=s1.toks }:=I1.kept λb o e=>Heap.get?_push_of_some _ e;refine⟨(s1.heap.push { cls:=.type "range",data:=.fields #[.int i t,.int j t',.int (-1) t''] }).objs.size,[(s1.heap.push { cls:=.type "range",data:=.fields #[.int i t,.int j t',.int (-1) t''] }).objs.size],_,_,H1,rfl,
     I2.kept (t':=s1.toks) λb o e=>Heap.get?_push_of_some _ e,k6 _ i (i-j).toNat,?_,λb hb=>?_,q⟩
    ·show IsRangeIter _ _ (i+((0:Nat):Int)*(-1)) ((((i-j).toNat:Nat):Int)-((0:Nat):Int)) (-1);have e1:i+((0:Nat):Int)*(-1)=i:=by simp
     have e2:(((i-j).toNat:Nat):Int)-((0:Nat):Int)=Builtin.Range.rangeSize i j (-1):=by rw[D1];simp
     rw[e1,e2];exact Heap.get?_push_size _ rfl
    ·have e:b=(s1.heap.push { cls:=.type "range",data:=.fields #[.int i t,.int j t',.int (-1) t''] }).objs.size:=by simpa using hb
     subst e;exact I2.fpOk (wF _) (I2.hok.fresh (wF _))
open _L (PGs TG TGs Itl Itt U5)
section
variable (K:PySem.W.Frag)(G:List Addr)
noncomputable def tG(g:Tg):TG:=λv σc H Q=>∃φ h σ w σ',Rl K G φ h H/\rst φ σ σc/\rv φ w v/\store g w σ h=some σ'/\∀σc',rst φ σ' σc'->Q σc' H
noncomputable def tGs(is:List Nat):TGs:=λvs σc H Q=>∃φ σ ws σ',rst φ σ σc/\rvs φ ws vs/\JJ is ws σ=some σ'/\∀σc',rst φ σ' σc'->Q σc' H
end
section
variable{X:Cx}{G:List Addr}{F:Nat->List V->AH->RV}
theorem qER{e:Expr}{t t':TG}(h:PG X e t)(w:∀v σ H Q,t' v σ H Q->t v σ H Q):PG X e t':=λpins s σ H v u Q I r q=>h pins s σ H v u Q I r (w v σ H Q q)
theorem qBM{e:List Expr}{t t':TGs}(h:PGs X e t)(w:∀v σ H Q,t' v σ H Q->t v σ H Q):PGs X e t':=λpins s σ H v u Q I r q=>h pins s σ H v u Q I r (w v σ H Q q)
variable (X G) in
abbrev SG(e:Expr)(g:Tg):Prop:=PG X e (tG X.K G g)
theorem j4{i:Nat}{x:Str}{pos:Pos}(hN:X.N.Nodup)(hi:X.N[i]?=some x)(hx:_L.Loc X.env.scope x)(hf:X.fn x=true\/X.env.scope.names.lookup x=some .local):SG X G (.Name x pos) (.name i):=by
 refine qER (_L.pg_name hN hi hx hf) λv σc H Q q=>?_;obtain⟨φ,h,σ,w,σ',R,rs,r,e,k⟩:=q;unfold store at e;cases e;exact k _ (jF (R:=ropt φ) (show ropt φ (some w) (some v) from⟨v,rfl,r⟩) i rs)
theorem qCd:PGs X [] (tGs []):=by
 refine qBM _L.pgs_nil λvs σc H Q q=>?_;obtain⟨φ,σ,ws,σ',rs,r,e,k⟩:=q;cases ws with
 |nil=>
  cases r;cases e;exact⟨rfl,k _ rs⟩
 |cons _ _=>cases e
theorem qAj{i:Nat}{is:List Nat}{x:Str}{pos:Pos}{es:List Expr}(hN:X.N.Nodup)(hi:X.N[i]?=some x)(hx:_L.Loc X.env.scope x)(hf:X.fn x=true\/X.env.scope.names.lookup x=some .local)(hs:PGs X es (tGs is)):
  PGs X (.Name x pos::es) (tGs (i::is)):=by
 refine qBM (_L.pgs_cons (_L.pg_name hN hi hx hf) hs rfl) λvs σc H Q q=>?_;obtain⟨φ,σ,ws,σ',rs,r,e,k⟩:=q;cases ws with
 |nil=>cases e
 |cons w ws=>
  cases r with
  |cons r1 rr=>exact⟨_,_,rfl,φ,_,ws,σ',jF (R:=ropt φ) (show ropt φ (some w) (some _) from⟨_,rfl,r1⟩) i rs,rr,e,k⟩
theorem JS:∀{is:List Nat}{xs:List V}{σ σ':St},JJ is xs σ=some σ'->xs.length=is.length
 | [],[],_,_,_=>rfl
 | [],_::_,_,_,e=>by cases e
 |_::_,[],_,_,e=>by cases e
 |i::is,x::xs,σ,σ',e=>by
  have:=JS (show JJ is xs _=some σ' from e);simp[this]
theorem qEA{is:List Nat}{es:List Expr}{k:Nat}{pos:Pos}(hc:X.calm=true)(h:PGs X es (tGs is))(hn:(assignEach es X.env).length=is.length)(hst:(assignEach es X.env).findIdx? (·.1)=none):SG X G (.Tuple es k pos) (.tup is):=by
 refine qER (_L.pg_tup hc h hn hst) λv σc H Q q=>?_;obtain⟨φ,h,σ,w,σ',R,rs,r,e,k⟩:=q;cases w with
 |ref a=>
  unfold store at e;dsimp only at e;split at e
  ·rename_i xs ex;obtain⟨p,zs,hp,hs,rz⟩:=R.tup ex;obtain⟨q,rfl,hq⟩:=qO r;rw[hp]at hq;cases hq;exact⟨_,zs,rfl,hs,by rw[<-Paired.length rz];exact JS e,φ,σ,xs,σ',rs,rz,e,k⟩
  ·cases e
 |_=>cases e
def IsJ(K:PySem.W.Frag)(φ:List Addr):Src->It->Prop
 | .list p,J=>∃a,φ[p]?=some a/\J=Itl K a
 | .tupl p,J=>∃a,φ[p]?=some a/\J=Itt K a
 | .rng lo n,J=>J=_L.Itr lo n
 | .zip p q,J=>∃a b,φ[p]?=some a/\φ[q]?=some b/\J=Itz K a b
 | .enum p,J=>∃a,φ[p]?=some a/\J=Ite K a
 | .rngd lo n,J=>J=Itd lo n
theorem IsJ.mono{K:PySem.W.Frag}{φ φ':List Addr}(x:Ext φ φ'):∀{s:Src}{J:It},IsJ K φ s J->IsJ K φ' s J
 | .list _,_,⟨a,h,e⟩=>⟨a,x.get h,e⟩
 | .tupl _,_,⟨a,h,e⟩=>⟨a,x.get h,e⟩
 | .rng _ _,_,e=>e
 | .zip _ _,_,⟨a,b,h,g,e⟩=>⟨a,b,x.get h,x.get g,e⟩
 | .enum _,_,⟨a,h,e⟩=>⟨a,x.get h,e⟩
 | .rngd _ _,_,e=>e
section
variable{K:PySem.W.Frag}{φ:List Addr}{h h1:AH}{H H':Hp}{s:Src}{J:It}{i:Nat}{x v:V}
theorem IsJ.stop(j:IsJ K φ s J)(R:Rl K G φ h H)(e:QN h i s=true):J.stop i H:=by
 cases s with
 |list p=>
  obtain⟨a,ha,rfl⟩:=j;unfold QN at e;dsimp only at e;split at e
  ·rename_i xs ex;obtain⟨q,zs,hq,hs,rz⟩:=R.lst ex;rw[ha]at hq;cases hq;exact⟨zs,hs,by rw[<-Paired.length rz];exact uD e⟩
  ·cases e
 |tupl p=>
  obtain⟨a,ha,rfl⟩:=j;unfold QN at e;dsimp only at e;split at e
  ·rename_i xs ex;obtain⟨q,zs,hq,hs,rz⟩:=R.tup ex;rw[ha]at hq;cases hq;exact⟨zs,hs,by rw[<-Paired.length rz];exact uD e⟩
  ·cases e
 |rng lo n=>
  cases j;show n<=i;exact uD e
 |zip p q=>
  obtain⟨a,b,ha,hb,rfl⟩:=j;unfold QN at e;dsimp only at e;split at e
  ·rename_i xs ys ex ey;obtain⟨a',zs,hq,hs,rz⟩:=R.lst ex;obtain⟨b',ws,hq',hs',rz'⟩:=R.lst ey;rw[ha]at hq;cases hq;rw[hb]at hq';cases hq';exact⟨zs,ws,hs,hs',by rw[<-Paired.length rz,<-Paired.length rz'];exact uD e⟩
  ·cases e
 |enum p=>
  obtain⟨a,ha,rfl⟩:=j;unfold QN at e;dsimp only at e;split at e
  ·rename_i xs ex;obtain⟨q,zs,hq,hs,rz⟩:=R.lst ex;rw[ha]at hq;cases hq;exact⟨zs,hs,by rw[<-Paired.length rz];exact uD e⟩
  ·cases e
 |rngd lo n=>
  cases j;show n<=i;exact uD e
theorem IsJ.go(j:IsJ K φ s J)(R:Rl K G φ h H)(e:zd h i s=some (x,h1)):J.go i H:=by
 cases s with
 |list p=>
  obtain⟨a,ha,rfl⟩:=j;unfold zd at e;dsimp only at e;split at e
  ·rename_i xs ex;obtain⟨y,ey,e2⟩:=wA.mp e;obtain⟨q,zs,hq,hs,rz⟩:=R.lst ex;rw[ha]at hq;cases hq;obtain⟨z,hz,_⟩:=qJ rz ey;exact⟨zs,z,hs,hz⟩
  ·cases e
 |tupl p=>
  obtain⟨a,ha,rfl⟩:=j;unfold zd at e;dsimp only at e;split at e
  ·rename_i xs ex;obtain⟨y,ey,e2⟩:=wA.mp e;obtain⟨q,zs,hq,hs,rz⟩:=R.tup ex;rw[ha]at hq;cases hq;obtain⟨z,hz,_⟩:=qJ rz ey;exact⟨zs,z,hs,hz⟩
  ·cases e
 |rng lo n=>
  cases j;unfold zd at e;dsimp only at e;split at e
  ·rename_i hl;exact hl
  ·cases e
 |zip p q=>
  obtain⟨a,b,ha,hb,rfl⟩:=j;unfold zd at e;dsimp only at e;split at e
  ·rename_i xs ys ex ey;split at e
   ·rename_i u w eu ew;obtain⟨a',zs,hq,hs,rz⟩:=R.lst ex;obtain⟨b',ws,hq',hs',rz'⟩:=R.lst ey;rw[ha]at hq;cases hq;rw[hb]at hq';cases hq';obtain⟨z,hz,_⟩:=qJ rz eu;obtain⟨z',hz',_⟩:=qJ rz' ew;exact⟨zs,ws,z,z',hs,hs',hz,hz'⟩
   ·cases e
  ·cases e
 |enum p=>
  obtain⟨a,ha,rfl⟩:=j;unfold zd at e;dsimp only at e;split at e
  ·rename_i xs ex;obtain⟨y,ey,e2⟩:=wA.mp e;obtain⟨q,zs,hq,hs,rz⟩:=R.lst ex;rw[ha]at hq;cases hq;obtain⟨z,hz,_⟩:=qJ rz ey;exact⟨zs,z,hs,hz⟩
  ·cases e
 |rngd lo n=>
  cases j;unfold zd at e;dsimp only at e;split at e
  ·rename_i hl;exact hl
  ·cases e
theorem IsJ.yld(j:IsJ K φ s J)(R:Rl K G φ h H)(e:zd h i s=some (x,h1))(y:J.yld i H v H'):∃φ',Ext φ φ'/\Rl K G φ' h1 H'/\rv φ' x v:=by
 cases s with
 |list p=>
  obtain⟨a,ha,rfl⟩:=j;unfold zd at e;dsimp only at e;split at e
  ·rename_i xs ex;obtain⟨y',ey,e2⟩:=wA.mp e;cases e2;obtain⟨q,zs,hq,hs,rz⟩:=R.lst ex;rw[ha]at hq;cases hq;obtain⟨z,hz,rz'⟩:=qJ rz ey;obtain⟨rfl,k⟩:=y;have:=k zs hs;rw[hz]at this;cases this;exact⟨φ,.refl _,R,rz'⟩
  ·cases e
 |tupl p=>
  obtain⟨a,ha,rfl⟩:=j;unfold zd at e;dsimp only at e;split at e
  ·rename_i xs ex;obtain⟨y',ey,e2⟩:=wA.mp e;cases e2;obtain⟨q,zs,hq,hs,rz⟩:=R.tup ex;rw[ha]at hq;cases hq;obtain⟨z,hz,rz'⟩:=qJ rz ey;obtain⟨rfl,k⟩:=y;have:=k zs hs;rw[hz]at this;cases this;exact⟨φ,.refl _,R,rz'⟩
  ·cases e
 |rng lo n=>
  cases j;unfold zd at e;dsimp only at e;split at e
  ·cases e;obtain⟨rfl,rfl⟩:=y;exact⟨φ,.refl _,R,rfl⟩
  ·cases e
 |zip p q=>
  obtain⟨a,b,ha,hb,rfl⟩:=j;unfold zd at e;dsimp only at e;split at e
  ·rename_i xs ys ex ey;split at e
   ·rename_i u w eu ew;cases e;obtain⟨a',zs,hq,hs,rz⟩:=R.lst ex;obtain⟨b',ws,hq',hs',rz'⟩:=R.lst ey;rw[ha]at hq;cases hq;rw[hb]at hq';cases hq';obtain⟨z,hz,r1⟩:=qJ rz eu;obtain⟨z',hz',r2⟩:=qJ rz' ew;obtain⟨p',x',y',hn,rfl,rfl,k1,k2⟩:=y;have t1:=k1 zs hs;have t2:=k2 ws hs';rw[hz]at t1;cases t1;rw[hz']at t2;cases t2;exact⟨φ++[p'],⟨[p'],rfl⟩,R.newT hn (.cons r1 (.cons r2 .nil)),R.lastRef⟩
   ·cases e
  ·cases e
 |enum p=>
  obtain⟨a,ha,rfl⟩:=j;unfold zd at e;dsimp only at e;split at e
  ·rename_i xs ex;obtain⟨y',ey,e2⟩:=wA.mp e;cases e2;obtain⟨q,zs,hq,hs,rz⟩:=R.lst ex;rw[ha]at hq;cases hq;obtain⟨z,hz,r1⟩:=qJ rz ey;obtain⟨p',x',hn,rfl,rfl,k⟩:=y;have:=k zs hs;rw[hz]at this;cases this;exact⟨φ++[p'],⟨[p'],rfl⟩,R.newT hn (.cons rfl (.cons r1 .nil)),R.lastRef⟩
  ·cases e
 |rngd lo n=>
  cases j;unfold zd at e;dsimp only at e;split at e
  ·cases e;obtain⟨rfl,rfl⟩:=y;exact⟨φ,.refl _,R,rfl⟩
  ·cases e
end
variable (G F) in
noncomputable def tI(K:PySem.W.Frag)(it:Itr):_L.TI:=λσc H R=>∃φ h σ s h',Rl K G φ h H/\rst φ σ σc/\evi F it σ h=.ok (s,h')/\∀φ' H' J,Ext φ φ'->Rl K G φ' h' H'->IsJ K φ' s J->R J H'
variable (X G F) in
abbrev SI(tg iter:Expr)(it:Itr):Prop:=_L._P X tg iter (tI G F X.K it)
theorem T9{tg e:Expr}{t t':_L.TI}(h:_L._P X tg e t)(w:∀σ H Q,t' σ H Q->t σ H Q):_L._P X tg e t':=λpins s σ H Q I q=>h pins s σ H Q I (w σ H Q q)
variable{a b:E}{ea eb tg:Expr}{pos p:Pos}
noncomputable def qHf(K:PySem.W.Frag)(tl:TE):_L.TI:=λσ H R=>tl σ H λx H1=>∃a,x=.ref a/\(((∃xs,SqL K H1 a xs)/\R (Itl K a) H1)\/((∃xs,SqT K H1 a xs)/\R (Itt K a) H1))
theorem qEL{l:Expr}{tl:TE}(hl:PE X l tl):_L._P X tg l (qHf X.K tl):=by
 intro pins s σ H R I h;refine _L.thn (hl pins s σ H _ I h) λv s1 ⟨x,H1,I1,r1,q1⟩=>?_;obtain⟨a,e,q⟩:=q1;subst e;cases r1;rcases q with⟨⟨xs,hq⟩,q⟩|⟨⟨xs,hq⟩,q⟩
 ·obtain⟨its,rv,p,hz⟩:=I1.list hq;refine wpAny_pyIter_list p.isList ?_;refine⟨s1.heap.objs.size,[s1.heap.objs.size],_,_,H1,rfl,I1.kept (t':=s1.toks) λb o e=>Heap.get?_push_of_some _ e,_L.turn_list a _,⟨_,Heap.get?_push_size _ rfl,rfl,rfl⟩,λb hb=>?_,q⟩;have e:b=s1.heap.objs.size:=by simpa using hb
  subst e;exact I1.fpOk (wF _) (I1.hok.fresh (wF _))
 ·obtain⟨its,rv,p,hz⟩:=I1.tuple hq;refine wpAny_pyIter_tuple (show s1.heap.IsTuple a its.toArray from p) ?_;refine⟨s1.heap.objs.size,[s1.heap.objs.size],_,_,H1,rfl,I1.kept (t':=s1.toks) λb o e=>Heap.get?_push_of_some _ e,_L.turn_tuple a _,⟨_,Heap.get?_push_size _ rfl,rfl,rfl⟩,λb hb=>?_,q⟩;have e:b=s1.heap.objs.size:=by simpa using hb
  subst e;exact I1.fpOk (wF _) (I1.hok.fresh (wF _))
theorem V1(ha:SE X G F ea a):SI X G F tg ea (.list a):=by
 refine T9 (qEL ha) λσc H Q q=>?_;obtain⟨φ,h,σ,s,h',R,rs,e,k⟩:=q;unfold evi at e;obtain⟨⟨x,h1⟩,e1,e⟩:=tM e;refine⟨φ,h,σ,x,h1,R,rs,e1,λφ1 H1 w x1 R1 r1=>?_⟩;cases x with
 |ref p=>
  dsimp only at e;cases ey:h1[p]? with
  |none=>rw[ey]at e;cases e
  |some o=>
   cases o with
   |lst fz ys=>
    rw[ey]at e;cases e;obtain⟨q,zs,hq,hs,rz⟩:=R1.lst (i:=p) (xs:=ys) (by unfold qK;rw[ey]);obtain⟨q',rfl,hq'⟩:=qO r1;rw[hq]at hq';cases hq';exact⟨_,rfl,.inl ⟨⟨zs,hs⟩,k φ1 H1 _ x1 R1 ⟨_,hq,rfl⟩⟩⟩
   |tup ys=>
    rw[ey]at e;cases e;obtain⟨q,zs,hq,hs,rz⟩:=R1.tup (i:=p) (xs:=ys) (by unfold qt;rw[ey]);obtain⟨q',rfl,hq'⟩:=qO r1;rw[hq]at hq';cases hq';exact⟨_,rfl,.inr ⟨⟨zs,hs⟩,k φ1 H1 _ x1 R1 ⟨_,hq,rfl⟩⟩⟩
   |ob ks=>rw[ey]at e;cases e
 |_=>cases e
theorem qCL(hg:_L.Gl X "range")(hm:X.mg "range"=none)(hn:qe ea=true)(ha:SE X G F ea a):SI X G F tg (.Call (.Name "range" p) [ea] [] pos) (.rng1 a):=by
 refine T9 (_L.pi_range1 hg hm (_L.pa_cons ha _L.pa_nil (qE hn)) (qE hn)) λσc H Q q=>?_;obtain⟨φ,h,σ,s,h',R,rs,e,k⟩:=q;unfold evi at e;obtain⟨⟨x,h1⟩,e1,e⟩:=tM e;refine⟨φ,h,σ,x,h1,R,rs,e1,λφ1 H1 w x1 R1 r1=>?_⟩;cases x with
 |int j=>
  dsimp only at e;split at e
  ·rename_i hj;cases e;cases qB r1;exact⟨j,rfl,by omega,by omega,k φ1 H1 _ x1 R1 rfl⟩
  ·cases e
 |_=>cases e
theorem qCq(hg:_L.Gl X "range")(hm:X.mg "range"=none)(hn:qe ea=true)(hn2:qe eb=true)(ha:SE X G F ea a)(hb:SE X G F eb b):SI X G F tg (.Call (.Name "range" p) [ea,eb] [] pos) (.rng2 a b):=by
 refine T9 (_L.pi_range2 hg hm (_L.pa_cons ha (_L.pa_cons hb _L.pa_nil (qE hn2)) (qE hn)) (by rw[qE hn,qE hn2];rfl) (qE hn2)) λσc H Q q=>?_;obtain⟨φ,h,σ,s,h',R,rs,e,k⟩:=q;unfold evi at e;obtain⟨⟨x,h1⟩,e1,e⟩:=tM e;obtain⟨⟨y,h2⟩,e2,e⟩:=tM e;refine QA R rs e1 e2 λφ2 H2 xc yc x2 R2 r1 r2=>?_;cases x with
 |int i=>
  cases y with
  |int j=>
   dsimp only at e;split at e
   ·rename_i hj;cases e;cases qB r1;cases qB r2;exact⟨i,j,rfl,⟨by omega,by omega,by omega,by omega⟩,k φ2 H2 _ x2 R2 rfl⟩
   ·cases e
  |_=>cases e
 |_=>cases e
noncomputable def E.isM1:E->Bool
 | .neg (.cst (.int i))=>i==1
 |_=>false
theorem qFS{F:Nat->List V->AH->RV}{c:E}{σ:St}{h:AH}(e:c.isM1=true):ev F c σ h=.ok (.int (-1),h):=by
 unfold E.isM1 at e;split at e
 ·have:=eq_of_beq e;subst this;rfl
 ·cases e
theorem qCG{ec:Expr}{c:E}(hg:_L.Gl X "range")(hm:X.mg "range"=none)(hn:qe ea=true)(hn2:qe eb=true)(hn3:qe ec=true)(ha:SE X G F ea a)(hb:SE X G F eb b)(hc:SE X G F ec c)(h1:c.isM1=true):SI X G F tg (.Call (.Name "range" p) [ea,eb,ec] [] pos) (.rng3 a b):=by
 refine T9 (j8 hg hm (_L.pa_cons ha (_L.pa_cons hb (_L.pa_cons hc _L.pa_nil (qE hn3)) (qE hn2)) (qE hn)) hn hn2 hn3) λσc H Q q=>?_;obtain⟨φ,h,σ,s,h',R,rs,e,k⟩:=q;unfold evi at e;obtain⟨⟨x,h1'⟩,e1,e⟩:=tM e;obtain⟨⟨y,h2⟩,e2,e⟩:=tM e;refine QA R rs e1 e2 λφ2 H2 xc yc x2 R2 r1 r2=>?_;refine⟨φ2,h2,σ,.int (-1),h2,R2,rst.mono x2 rs,qFS h1,λφ3 H3 zc x3 R3 r3=>?_⟩;cases x with
 |int i=>
  cases y with
  |int j=>
   dsimp only at e;split at e
   ·rename_i hj;cases e;cases qB r1;cases qB r2;cases qB r3;exact⟨i,j,rfl,⟨by omega,by omega,by omega,by omega⟩,k φ3 H3 _ (x2.trans x3) R3 rfl⟩
   ·cases e
  |_=>cases e
 |_=>cases e
theorem qCW{elts:List Expr}{kk:Nat}{tpos:Pos}(hg:_L.Gl X "enumerate")(hm:X.mg "enumerate"=none)(hn:qe ea=true)(ha:SE X G F ea a):
  SI X G F (.Tuple elts kk tpos) (.Call (.Name "enumerate" p) [ea] [] pos) (.enum a):=by
 refine T9 (qCu hg hm (_L.pa_cons ha _L.pa_nil (qE hn)) hn) λσc H Q q=>?_;obtain⟨φ,h,σ,s,h',R,rs,e,k⟩:=q;unfold evi at e;obtain⟨⟨x,h1⟩,e1,e⟩:=tM e;refine⟨φ,h,σ,x,h1,R,rs,e1,λφ1 H1 w x1 R1 r1=>?_⟩;cases x with
 |ref p=>
  dsimp only at e;split at e
  ·rename_i xs ex;cases e;obtain⟨q,zs,hq,hs,rz⟩:=R1.lst ex;obtain⟨q',rfl,hq'⟩:=qO r1;rw[hq]at hq';cases hq';exact⟨_,rfl,⟨zs,hs⟩,k φ1 H1 _ x1 R1 ⟨_,hq,rfl⟩⟩
  ·cases e
 |_=>cases e
theorem qEc{elts:List Expr}{kk:Nat}{tpos:Pos}(hg:_L.Gl X "zip")(hm:X.mg "zip"=none)(hn:qe ea=true)(hn2:qe eb=true)(ha:SE X G F ea a)(hb:SE X G F eb b):
  SI X G F (.Tuple elts kk tpos) (.Call (.Name "zip" p) [ea,eb] [] pos) (.zip a b):=by
 refine T9 (qEV hg hm (_L.pa_cons ha (_L.pa_cons hb _L.pa_nil (qE hn2)) (qE hn)) hn hn2) λσc H Q q=>?_;obtain⟨φ,h,σ,s,h',R,rs,e,k⟩:=q;unfold evi at e;obtain⟨⟨x,h1⟩,e1,e⟩:=tM e;obtain⟨⟨y,h2⟩,e2,e⟩:=tM e;refine QA R rs e1 e2 λφ2 H2 xc yc x2 R2 r1 r2=>?_;cases x with
 |ref i=>
  cases y with
  |ref j=>
   dsimp only at e;split at e
   ·rename_i xs ys ex ey;cases e;obtain⟨a',zs,hq,hs,rz⟩:=R2.lst ex;obtain⟨b',ws,hq',hs',rz'⟩:=R2.lst ey;obtain⟨a2,rfl,ha2⟩:=qO r1;obtain⟨b2,rfl,hb2⟩:=qO r2;rw[hq]at ha2;cases ha2;rw[hq']at hb2;cases hb2;exact⟨_,_,rfl,⟨zs,hs⟩,⟨ws,hs'⟩,k φ2 H2 _ x2 R2 ⟨_,_,hq,hq',rfl⟩⟩
   ·cases e
  |_=>cases e
 |_=>cases e
end
section
variable{X:Cx}{G:List Addr}{F:Nat->List V->AH->RV}
theorem qDW{φ:List Addr}:∀{v w w':V},rv φ v w->rv φ v w'->w=w'
 | .ref _,w,w',h,g=>by
  obtain⟨a,e1,h1⟩:=qO h;obtain⟨b,e2,g1⟩:=qO g;rw[h1]at g1;cases g1;rw[e1,e2]
 | .non,_,_,h,g=>by rw[zy h,zy g]
 | .bl _,_,_,h,g=>by rw[jE h,jE g]
 | .int _,_,_,h,g=>by rw[qB h,qB g]
 | .str _,_,_,h,g=>by rw[jL h,jL g]
 | .byt _,w,_,h,_=>by cases w<;>exact False.elim h
 | .flt _,w,_,h,_=>by cases w<;>exact False.elim h
 | .ty _,w,_,h,_=>by cases w<;>exact False.elim h
theorem G1{φ:List Addr}:∀{vs ws us:List V},rvs φ vs ws->rvs φ vs us->ws=us
 |_,_,_,.nil,.nil=>rfl
 |_,_,_,.cons r t,.cons r' t'=>by rw[qDW r r',G1 t t']
theorem ZU{φ:List Addr}{σ σc:St}(r:rst φ σ σc):∀src,rst φ (_L.inner src σ) (_L.inner src σc)
 | []=>.nil
 |none::src=>.cons trivial (ZU r src)
 |some j::src=>by
  refine .cons ?_ (ZU r src);show ropt φ (σ[j]?).join (σc[j]?).join;cases e:σ[j]? with
  |none=>exact trivial
  |some o=>
   cases o with
   |none=>exact trivial
   |some v=>
    obtain⟨oc,ec,r'⟩:=qJ r e;obtain⟨w,rfl,r'⟩:=r';rw[ec];exact⟨w,rfl,r'⟩
variable (X G F) in
abbrev SC(ifs:List Expr)(c:Es):Prop:=_L.PTs X ifs (tB X.K G (evc F c))
theorem qDs:SC X G F [] .nil:=by
 intro pins s σ H Q I q;obtain⟨φ,h,σa,b,h',R,rs,e,k⟩:=q;unfold evc at e;cases e;exact _L.pts_nil pins s σ H Q I (k φ H (.refl _) R)
theorem qEs{c:Expr}{a:E}(hc:ST X G F c a):SC X G F [c] (.cons a .nil):=by
 intro pins s σ H Q I q;obtain⟨φ,h,σa,b,h',R,rs,e,k⟩:=q;unfold evc at e;exact _L.pts_one hc pins s σ H Q I ⟨φ,h,σa,b,h',R,rs,e,k⟩
theorem u7{it:Itr}{src:List (Option Nat)}{g:Tg}{c:Es}{e:E}{σc:St}{H:Hp}{Q:VK}(q:tE X.K G F (.comp it src g c e) σc H Q):
  _L.tComp (tI G F X.K it) src (tG X.K G g) (tB X.K G (evc F c)) (tE X.K G F e) σc H Q:=by
 obtain⟨φ,h,σ,v,h',R,rs,ee,k⟩:=q;unfold ev at ee;obtain⟨⟨s,h1⟩,e1,ee⟩:=tM ee;refine⟨φ,h,σ,s,h1,R,rs,e1,λφ1 H1 J x1 R1 j1=>?_⟩;dsimp only at ee;split at ee
 ·rename_i n hn;intro D hD;have R2:Rl X.K G (φ1++[D]) (h1++[.lst false []]) (upd H1 D (.lst [])):=R1.newL hD .nil;have hDφ:(φ1++[D])[h1.length]?=some D:=R1.lastRef;refine⟨λi m ys σ' H'=>∃φ' h2 σa ya,Ext (φ1++[D]) φ'/\Rl X.K G φ' h2 H'/\rst φ' σa σ'/\rvs φ' ya ys/\h2[h1.length]?=some (.lst false ya)/\D9 s g (evc F c) (ev F e) h1.length m i ya σa h2=.ok (v,h'),
   ⟨n,φ1++[D],_,_,[],.refl _,R2,ZU (rst.mono (x1.trans ⟨[D],rfl⟩) rs) src,.nil,by simp,ee⟩,?_⟩
  rintro i m ys σ' H' ⟨φ',h2,σa,ya,x2,Ra,rsa,rya,hya,ec⟩ hys;have jj:IsJ X.K φ' s J:=j1.mono (Ext.trans ⟨[D],rfl⟩ x2);have hDφ':=x2.get hDφ;cases m with
  |zero=>
   unfold D9 at ec;split at ec
   ·rename_i hst;cases ec;exact .inl ⟨jj.stop Ra hst,k φ' H' _ ((x1.trans ⟨[D],rfl⟩).trans x2) Ra hDφ'⟩
   ·cases ec
  |succ m=>
   unfold D9 at ec;split at ec
   ·rename_i x h3 hy;split at ec
    ·rename_i σ3 hst;refine .inr ⟨jj.go Ra hy,λxv H2 hyl=>?_⟩;obtain⟨φ3,x3,R3,rx⟩:=jj.yld Ra hy hyl;refine⟨φ3,h3,σa,x,σ3,R3,rst.mono x3 rsa,rx,hst,λσc3 rs3=>?_⟩;obtain⟨⟨t,h4⟩,e4,ec⟩:=tM ec;refine⟨φ3,h3,σ3,t,h4,R3,rs3,e4,λφ4 H4 x4 R4=>?_⟩;dsimp only at ec;cases t with
     |true=>
      rw[if_pos rfl]at ec ⊢;obtain⟨⟨y,h5⟩,e5,ec⟩:=tM ec;refine⟨φ4,h4,σ3,y,h5,R4,rst.mono x4 rs3,e5,λφ5 H5 yc x5 R5 r5=>?_⟩;dsimp only at ec;split at ec
      ·rename_i hc5;have xx:Ext φ' φ5:=x3.trans (x4.trans x5);have hD5:=xx.get hDφ';obtain⟨zs,hz,rz⟩:=R5.obj _ _ D hc5.1 hD5;have ez:zs=ys:=G1 rz (rvs.mono xx rya);subst ez;refine⟨hz,by rw[<-Paired.length rz];exact wx hc5.2 qA1,m,vb _,φ5,_,σ3,_,x2.trans xx,R5.set hc5.1 hD5 (qd rz (.cons r5 .nil)),rst.mono (x4.trans x5) rs3,qd rz (.cons r5 .nil),?_,ec⟩;rw[wk (wC.mp hc5.1).1]
      ·cases ec
     |false=>
      rw[if_neg (by decide)]at ec ⊢;split at ec
      ·rename_i hc4;have xx:Ext φ' φ4:=x3.trans x4;have hD4:=xx.get hDφ';obtain⟨zs,hz,rz⟩:=R4.obj _ _ D hc4 hD4;have ez:zs=ys:=G1 rz (rvs.mono xx rya);subst ez;exact⟨hz,m,vb _,φ4,_,σ3,_,x2.trans xx,R4,rst.mono x4 rs3,rz,hc4,ec⟩
      ·cases ec
    ·cases ec
   ·cases ec
 ·cases ee
end
section
variable{X:Cx}{G:List Addr}{F:Nat->List V->AH->RV}{a b c:E}{ea eb ec tg:Expr}{pos:Pos}
theorem f7{iter elt:Expr}{ifs:List Expr}{scope:Scope}{N:List Str}{it:Itr}{src:List (Option Nat)}{g:Tg}{cs:Es}{e:E}(hc:X.calm=true)(hi:SI X G F tg iter it)(S:_L.CompScope X scope N src)
  (hg:∀C fp s H,SG (_L.cxComp X scope C fp s H N) G tg g) (ht:∀C fp s H,SC (_L.cxComp X scope C fp s H N) G F ifs cs) (he:∀C fp s H,SE (_L.cxComp X scope C fp s H N) G F elt e)
  (hs:∀x,foldedSetIterable iter X.env x=pure x):SE X G F (.ListComp elt [⟨tg,iter,ifs,0⟩] scope pos) (.comp it src g cs e):=
 zk (_L.pe_comp hc hi S hg ht he hs) λ_ _ _=>u7
def Post(K:PySem.W.Frag)(G:List Addr)(D:U5)(φ:List Addr)(o:Out)(h':AH):Prop:=∀φ' H',Ext φ φ'->Rl K G φ' h' H'->match o with
 | .nx σ=>∀σc,rst φ' σ σc->D.nx σc H'
 | .rt v=>∀w,rv φ' v w->D.rt w H'
 | .bk σ=>∀σc,rst φ' σ σc->D.bk σc H'
 | .ct σ=>∀σc,rst φ' σ σc->D.ct σc H'
theorem Post.mono{K:PySem.W.Frag}{D:U5}{φ φ1:List Addr}{o:Out}{h':AH}(x:Ext φ φ1)(p:Post K G D φ o h'):Post K G D φ1 o h':=λφ' H' x' R=>p φ' H' (x.trans x') R
noncomputable def tS(K:PySem.W.Frag)(G:List Addr)(r:St->AH->RS):TS:=λD σc H=>∃φ h σ o h',Rl K G φ h H/\rst φ σ σc/\r σ h=.ok (o,h')/\Post K G D φ o h'
variable (X G F) in
abbrev SS(st:Stmt)(s:S):Prop:=PS X st (tS X.K G (ex F s))
variable (X G F) in
abbrev SSs(st:List Stmt)(s:Ss):Prop:=PSs X st (tS X.K G (exs F s))
theorem Zc{e:Stmt}{t t':TS}(h:PS X e t)(w:∀D σ H,t' D σ H->t D σ H):PS X e t':=λpins s σ H D I q=>h pins s σ H D I (w D σ H q)
theorem qBN{e:List Stmt}{t t':TS}(h:PSs X e t)(w:∀D σ H,t' D σ H->t D σ H):PSs X e t':=λpins s σ H D I q=>h pins s σ H D I (w D σ H q)
theorem qg{st:Stmt}:SS X G F st .stop:=by
 intro pins s σ H D I q;obtain⟨φ,h,σa,o,h',R,rs,e,k⟩:=q;unfold ex at e;cases e
noncomputable def Qn:Expr->Bool
 | .ListComp ..=>false
 | .SetComp ..=>false
 | .DictComp ..=>false
 |_=>true
noncomputable def qD6:Expr->Bool
 | .Tuple ..=>false
 |_=>true
theorem Zh{e:Expr}{t:Option Expr}{l:Nat}{env:Env}(h:Qn e=true):swapsWith e t l env=pure false:=by
 cases e<;>first|rfl|cases h
theorem Qq{e t:Expr}{l:Nat}{env:Env}(h:Qn e=true):swapsWithSole [t] e l env=pure false:=Zh h
theorem qCC{K:PySem.W.Frag}{σ:St}{H:Hp}{Q Q':VK}(q:tE K G F a σ H Q)(w:∀v H,Q v H->Q' v H):tE K G F a σ H Q':=by
 obtain⟨φ,h,σa,v,h',R,rs,e,k⟩:=q;exact⟨φ,h,σa,v,h',R,rs,e,λφ' H' u x' R' r'=>w u H' (k φ' H' u x' R' r')⟩
theorem L5{g:Tg}{D:U5}{σc:St}{H:Hp}(q:tS X.K G (ex F (.asg g a)) D σc H):_L.tAsg (tE X.K G F a) (tG X.K G g) D σc H:=by
 obtain⟨φ,h,σ,o,h',R,rs,e,k⟩:=q;unfold ex at e;obtain⟨⟨x,h1⟩,e1,e⟩:=tM e;dsimp only at e;split at e
 ·rename_i σ1 es;cases e;exact⟨φ,h,σ,x,_,R,rs,e1,λφ1 H1 w x1 R1 r1=>⟨φ1,_,σ,x,σ1,R1,rst.mono x1 rs,r1,es,λσc' rs'=>k φ1 H1 x1 R1 σc' rs'⟩⟩
 ·cases e
theorem qDO{is:List Nat}{es:List Expr}{kk:Nat}{p:Pos}(hg:SG X G (.Tuple es kk p) (.tup is))(ha:SE X G F ea a)(hc:Qn ea=true)(ht:qD6 ea=true):
  SS X G F (.Assign [.Tuple es kk p] ea pos) (.asg (.tup is) a):=
 Zc (_L.ps_asg ha hg (Qq hc) (by cases ea<;>first|rfl|cases ht) rfl) λ_ _ _=>L5
theorem qBm{iter elt:Expr}{ifs:List Expr}{scope:Scope}{N:List Str}{it:Itr}{src:List (Option Nat)}{g:Tg}{cs:Es}{e:E}{i:Nat}{n:Str}{p cpos:Pos}(hc:X.calm=true)(hi:SI X G F tg iter it)(S:_L.CompScope X scope N src)
  (hg:∀C fp s H,SG (_L.cxComp X scope C fp s H N) G tg g) (ht:∀C fp s H,SC (_L.cxComp X scope C fp s H N) G F ifs cs) (he:∀C fp s H,SE (_L.cxComp X scope C fp s H N) G F elt e)
  (hs:∀x,foldedSetIterable iter X.env x=pure x) (hN:X.N.Nodup) (hn:X.N[i]?=some n) (hx:_L.Loc X.env.scope n) (hf:X.fn n=true\/X.env.scope.names.lookup n=some .local):
  SS X G F (.Assign [.Name n p] (.ListComp elt [⟨tg,iter,ifs,0⟩] scope cpos) pos) (.asg (.name i) (.comp it src g cs e)):=by
 have hsw:swapsWith (.ListComp elt [⟨tg,iter,ifs,0⟩] scope cpos) (some (.Name n p)) pos.line X.env=pure (X.env.blockKind==.function&&X.env.kindOf n==some .local&&p.line==(Expr.ListComp elt [⟨tg,iter,ifs,0⟩] scope cpos).pos.line
   && !(scope.names.any λ(m,k)=>m==n&&(k==.local||k==.cell))):=rfl
 generalize hb:(X.env.blockKind==.function&&X.env.kindOf n==some .local&&p.line==(Expr.ListComp elt [⟨tg,iter,ifs,0⟩] scope cpos).pos.line
   && !(scope.names.any λ(m,k)=>m==n&&(k==.local||k==.cell)))=bb at hsw
 cases bb with
 |true=>
  have hl:X.env.scope.names.lookup n=some .local:=by
   simp only[wB]at hb;have z:X.env.kindOf n=some .local:=by simpa using hb.1.1.2
   exact z
  refine Zc (_L.ps_setcomp (i:=i) (g:=tG X.K G g) (tc:=tB X.K G (evc F cs)) (te:=tE X.K G F e) hc hi S hg ht he hsw hN hn hl hs) λD σc H q=>?_;refine u7 (qCC (L5 q) λv H1 z=>?_);obtain⟨φ,h,σ,w,σ',R,rs,r,es,k⟩:=z;unfold store at es;cases es;exact k _ (jF (R:=ropt φ) (show ropt φ (some w) (some v) from⟨v,rfl,r⟩) i rs)
 |false=>exact Zc (_L.ps_asg (f7 hc hi S hg ht he hs) (j4 hN hn hx hf) hsw rfl rfl) λ_ _ _=>L5
noncomputable def qFz:_L.TSet:=λo i v H Q=>_L.rSetL o i v H Q\/∃p H',o=.ref p/\_L.DPut H p i v H'/\Q H'
theorem qBo(hu:X.A.units+8<cLine):_L.PSet X qFz:=by
 intro pins s σ H o i v ov iv u Q I ro ri rv h;rcases h with h|⟨p,H',rfl,g,q⟩
 ·exact _L.set_list pins s σ H o i v ov iv u Q I ro ri rv h
 ·cases ro;exact _L.d_setItem (by omega) I g ri rv λs' I'=>⟨H',I',q⟩
theorem qEH(hu:X.A.units+8<cLine){eo ei:Expr}{o i:E}{p:Pos}(ho:SE X G F eo o)(hi:SE X G F ei i)(ha:SE X G F ea a)(hc:Qn ea=true)(hsl:QU ei=true):SS X G F (.Assign [.Subscript eo ei p] ea pos) (.put o i a):=by
 refine Zc (_L.ps_asg ha (_L.pg_sub ho hi (qBo hu) (λv=>by cases ei<;>first|rfl|cases hsl)) (Qq hc) (by cases ea<;>rfl) rfl) λD σc H q=>?_;obtain⟨φ,h,σ,out,h',R,rs,e,k⟩:=q;unfold ex at e;obtain⟨⟨x,h1⟩,e1,e⟩:=tM e;obtain⟨⟨p1,h2⟩,e2,e⟩:=tM e;obtain⟨⟨k1,h3⟩,e3,e⟩:=tM e;refine⟨φ,h,σ,x,h1,R,rs,e1,λφ1 H1 w x1 R1 r1=>?_⟩;refine⟨φ1,h1,σ,p1,h2,R1,rst.mono x1 rs,e2,λφ2 H2 w2 x2 R2 r2=>?_⟩;refine⟨φ2,h2,σ,k1,h3,R2,rst.mono (x1.trans x2) rs,e3,λφ3 H3 w3 x3 R3 r3=>?_⟩;cases p1 with
 |ref q=>
  cases k1 with
  |int j=>
   dsimp only at e;split at e
   ·rename_i xs ex1;split at e
    ·rename_i jj ej;cases e;obtain⟨q1,a',zs,ha',hH,rz⟩:=R3.mut ex1;obtain⟨a2,rfl,ha2⟩:=qO (rv.mono x3 r2);rw[ha']at ha2;cases ha2;cases qB r3;refine .inl ⟨_,zs,j,jj,rfl,rfl,hH,by rw[<-Paired.length rz];exact ej,?_⟩;have xx:Ext φ φ3:=x1.trans (x2.trans x3);exact k φ3 _ xx (R3.set q1 ha' (jF (rv.mono (x2.trans x3) r1) jj rz)) σc (rst.mono xx rs)
    ·cases e
   ·split at e
    ·rename_i kvs ed;split at e
     ·rename_i hf;cases e;obtain⟨a',ea,eh,hH⟩:=R3.dct ed;obtain⟨a2,rfl,ha2⟩:=qO (rv.mono x3 r2);rw[ea]at ha2;cases ha2;cases qB r3;have hl:(kvs.map kk).length<sizeLine:=by rw[wW];exact wG hf.2 Zs
      have xx:Ext φ φ3:=x1.trans (x2.trans x3);have fw:=K3 hf.1 r1;subst fw;refine .inr ⟨_,_,rfl,_L.DPut.k (k:=.inl j) hH hl,?_⟩;rw[qCN];exact k φ3 _ xx (R3.write rfl rfl eh ea qI) σc (rst.mono xx rs)
     ·cases e
    ·cases e
  |_=>cases e
 |_=>cases e
noncomputable def pur:Nat->E->Bool
 | 0,_=>false
 |n+1,e=>match e with
  | .var _=>true
  | .cst _=>true
  | .idx a b=>pur n a&&pur n b
  | .blt .int (.cons a .nil)=>pur n a
  | .meth .cnt a (.cons b .nil)=>pur n a&&pur n b
  |_=>false
noncomputable def v6:Nat->E->Bool
 | 0,_=>false
 |n+1,e=>match e with
  | .bin _ a b=>v6 n a&&v6 n b
  |e=>pur n e
theorem G4:∀(n:Nat){e:E}{σ:St}{h h':AH}{v:V},pur n e=true->ev F e σ h=.ok (v,h')->h'=h
 | 0,_,_,_,_,_,q,_=>by cases q
 |n+1,e,σ,h,h',v,q,k=>by
  unfold pur at q;split at q
  ·unfold ev at k;split at k
   ·cases k;rfl
   ·cases k
  ·unfold ev at k;cases k;rfl
  ·rw[wB]at q;unfold ev at k;obtain⟨⟨x,h1⟩,e1,k1⟩:=tM k;obtain⟨⟨y,h2⟩,e2,k2⟩:=tM k1;rw[<-G4 n q.1 e1,<-G4 n q.2 e2];clear k k1;dsimp only at k2
   (repeat' split at k2)<;>first|(cases k2;done)|(cases k2;rfl)
  ·unfold ev evs evs at k;obtain⟨⟨x,h1⟩,e1,k1⟩:=tM k;obtain⟨⟨y,h2⟩,e2,k2⟩:=tM e1;cases k2;rw[<-G4 n q e2];clear k e1;unfold qEY one at k1;dsimp only at k1
   (repeat' split at k1)<;>first|(cases k1;done)|(cases k1;rfl)
  ·rw[wB]at q;unfold ev at k;obtain⟨⟨x,h1⟩,e1,k1⟩:=tM k;rw[<-G4 n q.1 e1];clear k;dsimp only at k1;split at k1
   ·split at k1
    ·unfold evs evs at k1;obtain⟨⟨y,h2⟩,e2,k2⟩:=tM k1;obtain⟨⟨z,h3⟩,e3,k3⟩:=tM e2;cases k3;rw[<-G4 n q.2 e3];clear k1 e2;dsimp only at k2;unfold qCn at k2;dsimp only at k2
     (repeat' split at k2)<;>first|(cases k2;done)|(cases k2;rfl)
    ·cases k1
   ·cases k1
  ·cases q
theorem qCU{op:BOp}{x y:V}{h h':AH}{i:Int}(e:v5 op x y h=.ok (.int i,h')):h'=h/\(∃a,x=.int a)/\∃b,y=.int b:=by
 have fin:∀{f:Int->Int->RV},J5 x y f=.ok (.int i,h')->(∀a b,f a b=.ok (.int i,h')->h'=h)->h'=h/\(∃a,x=.int a)/\∃b,y=.int b:=λw k=>by
  obtain⟨a,b,e1,e2,e3⟩:=za w;exact⟨k a b e3,⟨a,e1⟩,b,e2⟩
 cases op
 case add=>
  unfold v5 at e;dsimp only at e;split at e
  ·obtain⟨b,rfl,e2⟩:=zv e;clear e
   (repeat' split at e2)<;>cases e2
  ·refine fin e λa b z=>?_;cases z;rfl
 case mul=>
  unfold v5 at e;dsimp only at e;split at e
  ·(repeat' split at e)<;>cases e
  ·refine fin e λa b z=>?_;split at z
   ·cases z;rfl
   ·cases z
 all_goals
  unfold v5 at e;refine fin e λa b z=>?_
  first|(cases z;rfl)|((repeat' split at z)<;>first|(cases z;done)|(cases z;rfl))
theorem L3:∀(n:Nat){e:E}{σ:St}{h h':AH}{i:Int},v6 n e=true->ev F e σ h=.ok (.int i,h')->h'=h
 | 0,_,_,_,_,_,q,_=>by cases q
 |n+1,e,σ,h,h',i,q,k=>by
  unfold v6 at q;split at q
  ·rw[wB]at q;unfold ev at k;obtain⟨⟨x,h1⟩,e1,k1⟩:=tM k;obtain⟨⟨y,h2⟩,e2,k2⟩:=tM k1;obtain⟨z,⟨a,rfl⟩,b,rfl⟩:=qCU k2;rw[z,L3 n q.2 e2,L3 n q.1 e1]
  ·exact G4 n q k
theorem qAl:_L.PGet X (_L.rIxL X.K):=by
 intro pins s σ H x y v u Q I rx ry h;obtain⟨p,xs,i,z,rfl,rfl,hq,he,q⟩:=h;cases rx;obtain⟨t,rfl⟩:=ry;obtain⟨its,r,pl,hz⟩:=I.list hq;obtain⟨j,h1,h2,h3,h4,h5⟩:=_L.atI_get he;obtain⟨w,ew,rw'⟩:=r.get h2;have hl:=r.length;have hn:=_L.line63;have fin:EP X pins σ Q w s:=⟨z,H,I,rw',q⟩
 by_cases h0:0<=i
 ·have hj:i.toNat=j:=by
   rw[seqIndex_of h0 h5]at h1;exact Option.some.inj h1
  exact wpAny_getItem_list pl.isList h0 (by omega) (by rw[hj];simpa using ew) fin
 ·have hj:(i+(its.toArray.size:Int)).toNat=j:=by
   rw[seqIndex_neg (by omega) h4]at h1;rw[wJ,<-hl];exact Option.some.inj h1
  exact wpAny_getItem_list_neg pl.isList (by omega) (by rw[wJ]<;>omega) (by omega) (by rw[hj];simpa using ew) fin
noncomputable def qFJ(o i a:E):E:=.bin .add (.idx o i) (.bin .sub a (.cst (.int 0)))
theorem qCI{n:Nat}{o i:E}{σ:St}{h h4:AH}{x:V}(po:pur n o=true)(pi:v6 n i=true)(pa:v6 n a=true)(e:ev F (qFJ o i a) σ h=.ok (x,h4)):
  ∃q kk xs iv jz,ev F o σ h=.ok (.ref q,h)/\ev F i σ h=.ok (.int kk,h)/\items h q=some xs/\((ixN xs.length kk).bind λj=>xs[j]?)=some (.int iv)/\ev F a σ h=.ok (.int jz,h)/\x=.int (iv+jz)/\h4=h:=by
 unfold qFJ ev at e;obtain⟨⟨v0,h2⟩,a1,a2⟩:=tM e;obtain⟨⟨z,h3⟩,a3,a4⟩:=tM a2;clear e a2;unfold ev at a3;obtain⟨⟨z0,h3'⟩,a5,a6⟩:=tM a3;obtain⟨jz,j0,b1,b2,b3⟩:=za (show J5 z0 (.int 0) (λi j=>.ok (.int (i-j),h3'))=.ok (z,h3) from a6);subst b1;cases b2;cases b3;clear a3 a6;unfold ev at a1;obtain⟨⟨x0,h1⟩,a7,a8⟩:=tM a1;obtain⟨⟨y0,h1'⟩,a9,a10⟩:=tM a8;clear a1 a8;have t1:=G4 n po a7;subst t1;cases x0 with
 |ref q=>
  cases y0 with
  |int kk=>
   have t2:=L3 n pi a9;subst t2;dsimp only at a10;split at a10
   ·rename_i xs exs;split at a10
    ·rename_i v1 ev1;cases a10;have t3:=L3 n pa a5;subst t3;dsimp only at a4;unfold v5 at a4;dsimp only at a4;split at a4
     ·cases a4
     ·obtain⟨iv,jv,c1,c2,c3⟩:=za a4;subst c1;cases c2;cases c3;exact⟨q,kk,xs,iv,jz,a7,a9,exs,ev1,a5,by rw[Int.sub_zero],rfl⟩
    ·cases a10
   ·cases a10
  |_=>cases a10
 |_=>cases a10
theorem qDH{eo ei:Expr}{o i:E}{p:Pos}(ho:SE X G F eo o)(hi:SE X G F ei i)(ha:SE X G F ea a)(hsl:QU ei=true){n:Nat}(po:pur n o=true)(pi:v6 n i=true)(pa:v6 n a=true):
  SS X G F (.AugAssign (.Subscript eo ei p) .Add ea pos) (.put o i (qFJ o i a)):=by
 refine Zc (_L.ps_augS ho hi qAl ha _L.ip_add _L.set_list (λov iv new=>by cases ei<;>first|rfl|cases hsl)) λD σc H q=>?_;obtain⟨φ,h,σ,out,h',R,rs,e,k⟩:=q;unfold ex at e;obtain⟨⟨x,h4⟩,a1,a2⟩:=tM e;clear e;obtain⟨q,kk,xs,iv,jz,eo1,ek1,exs,ev1,ez0,b1,b2⟩:=qCI po pi pa a1;subst b1 b2;dsimp only at a2;rw[eo1,tF]at a2;dsimp only at a2;rw[ek1,tF]at a2;dsimp only at a2;split at a2
 ·rename_i ys eys;split at a2
  ·rename_i jj ej;cases a2;have hxs:xs=ys:=by
    have:=JK eys;unfold qK at this;unfold items at exs;split at this
    ·rename_i e0;rw[e0]at exs;cases this;cases exs;rfl
    ·cases this
   subst hxs;refine⟨φ,_,σ,_,_,R,rs,eo1,λφ1 H1 w1 x1 R1 r1=>?_⟩;refine⟨φ1,_,σ,_,_,R1,rst.mono x1 rs,ek1,λφ2 H2 w2 x2 R2 r2=>?_⟩;obtain⟨a2,rfl,ha2⟩:=qO (rv.mono x2 r1);cases qB r2;obtain⟨p2,zs2,hp2,hs2,rz2⟩:=R2.lst (JK eys);rw[ha2]at hp2;cases hp2;obtain⟨jx,ejx,ew⟩:=wH.mp ev1;obtain⟨w',hw',rw'⟩:=qJ rz2 ew;cases qB rw';have hat:_L.atI zs2 kk=some (.int iv):=by
    unfold _L.atI;rw[<-Paired.length rz2];exact wH.mpr ⟨jx,ejx,hw'⟩
   refine⟨_,zs2,kk,.int iv,rfl,rfl,hs2,hat,?_⟩;refine⟨φ2,_,σ,_,_,R2,rst.mono (x1.trans x2) rs,ez0,λφ3 H3 w3 x3 R3 r3=>?_⟩;cases qB r3;refine⟨iv,jz,rfl,rfl,?_⟩;obtain⟨q1,a',zs,ha',hH,rz⟩:=R3.mut eys;have ha3:=x3.get ha2;rw[ha']at ha3;cases ha3;refine⟨_,zs,kk,jj,rfl,rfl,hH,by rw[<-Paired.length rz];exact ej,?_⟩;have xx:Ext φ φ3:=x1.trans (x2.trans x3);exact k φ3 _ xx (R3.set q1 ha' (jF (show rv φ3 (.int (iv+jz)) (.int (iv+jz)) from rfl) jj rz)) σc (rst.mono xx rs)
  ·cases a2
 ·split at a2
  ·rename_i kvs ed;exfalso;unfold items at exs;unfold B3 at ed;split at ed
   ·rename_i e0;rw[e0]at exs;cases exs
   ·cases ed
  ·cases a2
theorem qBg(ha:SE X G F ea a)(hc:Qn ea=true):SS X G F (.Expr ea pos) (.expr a):=by
 refine Zc (_L.ps_expr ha (Zh hc)) λD σc H q=>?_;obtain⟨φ,h,σ,out,h',R,rs,e,k⟩:=q;unfold ex at e;obtain⟨⟨x,h1⟩,e1,e⟩:=tM e;cases e;exact⟨φ,h,σ,x,_,R,rs,e1,λφ1 H1 w x1 R1 r1=>k φ1 H1 x1 R1 σc (rst.mono x1 rs)⟩
theorem qDJ(ha:SE X G F ea a):SS X G F (.Return (some ea) pos) (.ret a):=by
 refine Zc (_L.ps_ret ha) λD σc H q=>?_;obtain⟨φ,h,σ,out,h',R,rs,e,k⟩:=q;unfold ex at e;obtain⟨⟨x,h1⟩,e1,e⟩:=tM e;cases e;exact⟨φ,h,σ,x,_,R,rs,e1,λφ1 H1 w x1 R1 r1=>k φ1 H1 x1 R1 w r1⟩
theorem qBt:SSs X G F [] .nil:=by
 refine qBN _L.pss_nil λD σc H q=>?_;obtain⟨φ,h,σ,out,h',R,rs,e,k⟩:=q;unfold exs at e;cases e;exact k φ H (.refl _) R σc rs
theorem qAo{st:Stmt}{sts:List Stmt}{s:S}{ss:Ss}(h1:SS X G F st s)(h2:SSs X G F sts ss):SSs X G F (st::sts) (.cons s ss):=by
 refine qBN (_L.pss_cons h1 h2) λD σc H q=>?_;obtain⟨φ,h,σ,out,h',R,rs,e,k⟩:=q;unfold exs at e;obtain⟨⟨o,h1⟩,e1,e⟩:=tM e;refine⟨φ,h,σ,o,h1,R,rs,e1,λφ1 H1 x1 R1=>?_⟩;cases o with
 |nx σ1=>exact λσc1 rs1=>⟨φ1,h1,σ1,out,h',R1,rs1,e,k.mono x1⟩
 |rt v=>cases e;exact k φ1 H1 x1 R1
 |bk σ1=>cases e;exact k φ1 H1 x1 R1
 |ct σ1=>cases e;exact k φ1 H1 x1 R1
theorem qEU{t u:List Stmt}{st su:Ss}(hc:ST X G F ec c)(ht:SSs X G F t st)(hu:SSs X G F u su):SS X G F (.If ec t u pos) (.ifs c st su):=by
 refine Zc (_L.ps_if hc ht hu) λD σc H q=>?_;obtain⟨φ,h,σ,out,h',R,rs,e,k⟩:=q;unfold ex at e;obtain⟨⟨x,h1⟩,e1,e⟩:=tM e;refine⟨φ,h,σ,x,h1,R,rs,e1,λφ1 H1 x1 R1=>?_⟩;dsimp only at e;cases x with
 |true=>
  rw[if_pos rfl]at e ⊢;exact⟨φ1,h1,σ,out,h',R1,rst.mono x1 rs,e,k.mono x1⟩
 |false=>
  rw[if_neg (by decide)]at e ⊢;exact⟨φ1,h1,σ,out,h',R1,rst.mono x1 rs,e,k.mono x1⟩
theorem qEz{iter:Expr}{body:List Stmt}{it:Itr}{g:Tg}{sb:Ss}(hx:X.xe=λ_ _=>False)(hc:X.calm=true)(hi:SI X G F tg iter it)(hg:SG X G tg g)(hb:SSs X G F body sb)
  (hs:∀x,foldedSetIterable iter X.env x=pure x):SS X G F (.For tg iter body [] pos) (.for_ g it sb):=by
 refine Zc (_L.ps_for (by rw[hx];exact PassesOwn.never) hc hi hg hb hs) λD σc H q=>?_;obtain⟨φ,h,σ,out,h',R,rs,e,k⟩:=q;unfold ex at e;obtain⟨⟨s,h1⟩,e1,e⟩:=tM e;refine⟨φ,h,σ,s,h1,R,rs,e1,λφ1 H1 J x1 R1 j1=>?_⟩;dsimp only at e;split at e
 ·rename_i n hn;refine⟨λi m σ' H'=>∃φ' h2 σa,Ext φ1 φ'/\Rl X.K G φ' h2 H'/\rst φ' σa σ'/\v8 s g (exs F sb) m i σa h2=.ok (out,h'),⟨n,φ1,h1,σ,.refl _,R1,rst.mono x1 rs,e⟩,?_⟩;rintro i m σ' H' ⟨φ',h2,σa,x2,Ra,rsa,ef⟩;have jj:IsJ X.K φ' s J:=j1.mono x2;cases m with
  |zero=>
   unfold v8 at ef;split at ef
   ·rename_i hst;cases ef;exact .inl ⟨jj.stop Ra hst,k φ' H' (x1.trans x2) Ra σ' rsa⟩
   ·cases ef
  |succ m=>
   unfold v8 at ef;split at ef
   ·rename_i x h3 hy;split at ef
    ·rename_i σ3 hst;refine .inr ⟨jj.go Ra hy,λσ' H'=>∃φ' h2 σa,Ext φ1 φ'/\Rl X.K G φ' h2 H'/\rst φ' σa σ'/\v8 s g (exs F sb) m (i+1) σa h2=.ok (out,h'),λσ2 H2 w=>⟨m,vb _,w⟩,λxv H2 hyl=>?_⟩;obtain⟨φ3,x3,R3,rx⟩:=jj.yld Ra hy hyl;refine⟨φ3,h3,σa,x,σ3,R3,rst.mono x3 rsa,rx,hst,λσc3 rs3=>?_⟩;obtain⟨⟨o,h4⟩,e4,ef⟩:=tM ef;refine⟨φ3,h3,σ3,o,h4,R3,rs3,e4,λφ4 H4 x4 R4=>?_⟩;dsimp only at ef;cases o with
     |nx σ4=>exact λσc4 rs4=>⟨φ4,h4,σ4,x2.trans (x3.trans x4),R4,rs4,ef⟩
     |ct σ4=>exact λσc4 rs4=>⟨φ4,h4,σ4,x2.trans (x3.trans x4),R4,rs4,ef⟩
     |bk σ4=>cases ef;exact k φ4 H4 (x1.trans (x2.trans (x3.trans x4))) R4
     |rt v=>cases ef;exact k φ4 H4 (x1.trans (x2.trans (x3.trans x4))) R4
    ·cases ef
   ·cases ef
 ·cases e
theorem y8{body:List Stmt}{sb:Ss}(hx:X.xe=λ_ _=>False)(hc:ST X G F ec c)(hb:SSs X G F body sb):SS X G F (.While ec body [] pos) (.while_ c sb):=by
 refine Zc (_L.ps_while (by rw[hx];exact PassesOwn.never) hc hb) λD σc H q=>?_;obtain⟨φ,h,σ,out,h',R,rs,e,k⟩:=q;unfold ex at e;refine⟨λm σ' H'=>∃φ' h2 σa,Ext φ φ'/\Rl X.K G φ' h2 H'/\rst φ' σa σ'/\Qg (λσ h=>asB (ev F c σ h)) (exs F sb) m σa h2=.ok (out,h'),⟨qAd,φ,h,σ,.refl _,R,rs,e⟩,?_⟩;rintro m σ' H' ⟨φ',h2,σa,x2,Ra,rsa,ew⟩;cases m with
 |zero=>unfold Qg at ew;cases ew
 |succ m=>
  unfold Qg at ew;obtain⟨⟨t,h3⟩,e3,ew⟩:=tM ew;refine⟨φ',h2,σa,t,h3,Ra,rsa,e3,λφ3 H3 x3 R3=>?_⟩;dsimp only at ew;cases t with
  |true=>
   rw[if_pos rfl]at ew ⊢;obtain⟨⟨o,h4⟩,e4,ew⟩:=tM ew;refine⟨λσ' H'=>∃φ' h2 σa,Ext φ φ'/\Rl X.K G φ' h2 H'/\rst φ' σa σ'/\Qg (λσ h=>asB (ev F c σ h)) (exs F sb) m σa h2=.ok (out,h'),λσ2 H2 w=>⟨m,vb _,w⟩,φ3,h3,σa,o,h4,R3,rst.mono x3 rsa,e4,λφ4 H4 x4 R4=>?_⟩;dsimp only at ew;cases o with
   |nx σ4=>exact λσc4 rs4=>⟨φ4,h4,σ4,x2.trans (x3.trans x4),R4,rs4,ew⟩
   |ct σ4=>exact λσc4 rs4=>⟨φ4,h4,σ4,x2.trans (x3.trans x4),R4,rs4,ew⟩
   |bk σ4=>cases ew;exact k φ4 H4 (x2.trans (x3.trans x4)) R4
   |rt v=>cases ew;exact k φ4 H4 (x2.trans (x3.trans x4)) R4
  |false=>
   rw[if_neg (by decide)]at ew ⊢;cases ew;exact k φ3 H3 (x2.trans x3) R3 σ' (rst.mono x3 rsa)
end
set_option genInjectivity false in structure Gam where
 N:List Str
 sc:Scope
 fns:List Str
 gl:List (Str×E)
 bl:List Str
 own:Str->Bool
 cls:List Str:=[]
 xr:Bool:=false
noncomputable def slot(N:List Str)(x:Str):Option Nat:=(List.range N.length).find? λi=>N[i]?==some x
theorem Qu{N:List Str}{x:Str}{i:Nat}(h:slot N x=some i):N[i]?=some x:=by
 unfold slot at h;simpa using List.find?_some h
noncomputable def qFj(sc:Scope)(x:Str):Bool:=match sc.names.lookup x with|some .local=>true|some .cell=>true|some .free=>true|_=>false
theorem qCh{sc:Scope}{x:Str}(h:qFj sc x=true):_L.Vis sc x:=by
 unfold qFj at h;unfold _L.Vis;split at h<;>first|(rename_i e;simp[e])|cases h
noncomputable def glB(sc:Scope)(x:Str):Bool:=sc.names.lookup x==some .globalImplicit
noncomputable def okN(x:Str):Bool:=!(x==("__debug__":Str))&&!(x==("__classdict__":Str))&&!decide (x="__name__")
noncomputable def qGV:Operator->Option BOp
 | .Add=>some .add | .Sub=>some .sub | .Mult=>some .mul | .FloorDiv=>some .fdiv | .Mod=>some .mod | .Pow=>some .pow | .BitAnd=>some .band | .RShift=>some .shr | .BitXor=>some .bxor|_=>none
theorem qCY{o:Operator}{b:BOp}(h:qGV o=some b):o=opB b:=by
 cases o<;>cases h<;>rfl
noncomputable def ZK:CmpOp->COp
 | .Lt=>.lt | .LtE=>.le | .Gt=>.gt | .GtE=>.ge | .Eq=>.eq | .NotEq=>.ne | .In=>.inn | .NotIn=>.notin | .Is=>.is | .IsNot=>.isnot
theorem Qr(o:CmpOp):o=opC (ZK o):=by cases o<;>rfl
noncomputable def A0:Expr->Bool
 | .Set ..=>false
 |_=>true
noncomputable def d7:Expr->Bool
 | .Call ..=>false
 |_=>true
noncomputable def bfL:List (Str×BF):=[("len",.len),("sum",.sum),("all",.all),("any",.any),("max",.max),("min",.min),("abs",.abs),("list",.list),("int",.int),("sorted",.sorted)]
noncomputable def qFp(x:Str):Option BF:=bfL.lookup x
theorem JL{x:Str}{f:BF}:∀{l:List (Str×BF)},l.lookup x=some f->(x,f)∈l
 | [],h=>by cases h
 | (a,b)::l,h=>by
  rw[List.lookup_cons]at h;split at h
  ·rename_i e;cases h;rw[eq_of_beq e];exact wK ..
  ·exact wI _ (JL h)
theorem qDP:∀p∈bfL,bootBuiltins p.1=some (fnB p.2):=
 wb.mpr ⟨PySem.boot_len,wb.mpr ⟨PyProof.Rows.boot_sum,wb.mpr ⟨PyProof.Rows.boot_all,wb.mpr ⟨PyProof.Rows.boot_any,wb.mpr ⟨PyProof.Rows.boot_max,wb.mpr ⟨PyProof.Rows.boot_min,wb.mpr ⟨PyProof.Rows.boot_abs,wb.mpr ⟨PyProof.Rows.boot_list,wb.mpr ⟨PyProof.Rows.boot_int,wb.mpr ⟨PyProof.Rows.boot_sorted,(λ_ h=>absurd h wl)⟩⟩⟩⟩⟩⟩⟩⟩⟩⟩
theorem u9{x:Str}{f:BF}(h:qFp x=some f):bootBuiltins x=some (fnB f):=qDP _ (JL h)
noncomputable def mxA(b:BF)(as:List Expr):BF:=if decide (b=.max)&&decide (as.length=1) then .maxl else b
theorem qEm{x:Str}{f:BF}{as:List Expr}(h:qFp x=some f):bootBuiltins x=some (fnB (mxA f as)):=by
 unfold mxA;split
 ·rename_i c;rw[wB,uC]at c;rw[u9 h,c.1];rfl
 ·exact u9 h
noncomputable def qFP(x:Str):Option String:=
 if x="int" then some "int" else if x="bool" then some "bool" else if x="list" then some "list" else if x="tuple" then some "tuple" else if x="str" then some "str" else if x="dict" then some "dict" else none
theorem qB9{x:Str}{t:String}(h:qFP x=some t):bootBuiltins x=some (.type t)/\D4 t=true:=by
 unfold qFP at h
 repeat' split at h
 all_goals first|cases h|skip
 all_goals (rename_i hx;subst hx)
 ·exact⟨PyProof.Rows.boot_int,by decide⟩
 ·exact⟨PyProof.Rows.boot_bool,by decide⟩
 ·exact⟨PyProof.Rows.boot_list,by decide⟩
 ·exact⟨PyProof.Rows.boot_tuple,by decide⟩
 ·exact⟨PyProof.Rows.boot_str,by decide⟩
 ·exact⟨PyProof.Rows.boot_dict,by decide⟩
noncomputable def qFA(scope sc:Scope):Scope:=
 { scope with names:=scope.names.map λ(n,k)=>if (k==.free&&sc.kind==.function&&sc.names.lookup n==some .cell) then (n,.cell) else (n,k) }
noncomputable def h8:Expr->List Str
 | .Name x _=>[x]
 | .Tuple es _ _=>es.filterMap λe:Expr=>match e with | .Name x _=>some x|_=>none
 |_=>[]
noncomputable def qEb(scope:Scope):List Str:=scope.names.filterMap λy=>if y.2=.free then some y.1 else none
noncomputable def Jk(Γ:Gam)(scope:Scope)(N:List Str)(src:List (Option Nat)):Bool:=
 decide (scope.kind=.function)&&scope.names.all (λy=>decide (scope.names.lookup y.1=some y.2))
 && scope.names.all (λy=>decide (y.2=.free->(Γ.sc.names.lookup y.1=some .cell\/Γ.sc.names.lookup y.1=some .free)))&&decide N.Nodup&&decide (src.length=N.length)
 && (List.range N.length).all (λi=>match N[i]?,src[i]? with|some x,some (some j)=>decide (Γ.N[j]?=some x/\scope.names.lookup x=some .free)|_,_=>true)
noncomputable def P0(Γ:Gam)(x:Str):Bool:=match Γ.sc.names.lookup x with|some .local=>true|some .cell=>Γ.own x|_=>false
noncomputable def qE9(Γ:Gam):List Expr->Option (List Nat)
 | []=>some []
 | .Name x _::r=>if P0 Γ x then (match slot Γ.N x,qE9 Γ r with|some i,some is=>some (i::is)|_,_=>none) else none
 |_=>none
noncomputable def trT(Γ:Gam):Expr->Option Tg
 | .Name x _=>if P0 Γ x then (slot Γ.N x).map .name else none
 | .Tuple es _ _=>(qE9 Γ es).map .tup
 |_=>none
noncomputable def qFq:List Expr->Bool
 | [.Call (.Name r _) [_] [] _]=>decide (r="range")
 | [.Call (.Name r _) [_,_] [] _]=>decide (r="range")
 |_=>false
noncomputable def qGZ:E->Bool
 |_=>true
mutual
noncomputable def trE:Nat->Gam->Expr->Option E
 | 0,_,_=>none
 |n+1,Γ,e=>match e with
  | .Constant c _ _=>(match c with
   | .int i=>some (.cst (.int i))
   | .bool i=>some (.cst (.bl i))
   | .none=>some (.cst .non)
   | .str i=>some (.cst (.str i))
   |_=>none)
  | .Name x _=>if okN x then (if qFj Γ.sc x then (slot Γ.N x).map .var else if glB Γ.sc x then Γ.gl.lookup x else none) else none
  | .BinOp a op b _=>match qGV op,trE n Γ a,trE n Γ b with|some o,some a',some b'=>some (.bin o a' b')|_,_,_=>none
  | .UnaryOp op a _=>(match op with
   | .USub=>(trE n Γ a).map .neg
   | .Not=>(trE n Γ a).map .not
   |_=>none)
  | .BoolOp op vs p=>trB n Γ op p vs
  | .Compare a ops bs _=>(match ops,bs with
   | [op],[b]=>if A0 b then (match trE n Γ a,trE n Γ b with|some a',some b'=>some (.cmp (ZK op) a' b')|_,_=>none) else none
   | [o1,o2],[b,c]=>if A0 c then (match trE n Γ a,trE n Γ b,trE n Γ c with|some a',some b',some c'=>some (.cmp2 (ZK o1) (ZK o2) a' b' c')|_,_,_=>none) else none
   | [o1,o2,o3],[b,c,d]=>if A0 d then (match trE n Γ a,trE n Γ b,trE n Γ c,trE n Γ d with|some a',some b',some c',some d'=>some (.cmp3 (ZK o1) (ZK o2) (ZK o3) a' b' c' d')|_,_,_,_=>none) else none
   |_,_=>none)
  | .Call fn args kws cpos=>(match kws with
   | []=>(match fn with
    | .Name f _=>if okN f&&glB Γ.sc f&&args.all qe then trC n Γ f args else none
    | .Attribute o m apos=>(match args with
     | [x]=>if m="append"/\d7 o=true/\qe x=true/\(apos.endLine==cpos.line)=true then (match trE n Γ o,trE n Γ x with|some o',some x'=>some (.app o' x')|_,_=>none) else none
     | []=>if m="bit_length" then (if d7 o=true/\(apos.endLine==cpos.line)=true then (trE n Γ o).map (λo'=>.blt .bits (.cons o' .nil)) else none) else none
     |_=>none)
    |_=>none)
   |_=>none)
  | .Subscript a b _=>(match b with
   | .Slice lo hi st _=>(match st with
    |none=>(match trE n Γ a,trO n Γ lo,trO n Γ hi with|some a',some l,some h=>some (.sl a' l h)|_,_,_=>none)
    |some k=>(match lo,hi,k with
     |none,none,.UnaryOp .USub (.Constant (.int 1) _ _) _=>(trE n Γ a).map .rev
     |_,_,_=>none))
   |b=>if QU b then (match trE n Γ a,trE n Γ b with|some a',some b'=>some (.idx a' b')|_,_=>none) else none)
  | .List es _=>if es.all qe then (trA n Γ es).map .lst else none
  | .Tuple es _ _=>if es.all qe then (trA n Γ es).map .tup else none
  | .Dict ks vs _=>(match ks,vs with|[],[]=>some .dnew|_,_=>none)
  | .ListComp elt gens scope _=>(match gens with
   | [gen]=>(match gen with
    | ⟨tg,iter,ifs,asy⟩=>(match asy with
     | 0=>
      let N:=h8 tg++qEb scope
      let src:=(h8 tg).map (λ_=>none)++(qEb scope).map (slot Γ.N)
      let Γ':Gam:={ Γ with N:=N,sc:=qFA scope Γ.sc,own:=λx=>decide (scope.names.lookup x=some .cell) }
      if Jk Γ scope N src&&A0 iter then (match trI n Γ tg iter,trT Γ' tg,qC7 n Γ' ifs,trE n Γ' elt with|some it,some g,some c,some e'=>some (.comp it src g c e')|_,_,_,_=>none) else none
     |_=>none))
   |_=>none)
  |_=>none
noncomputable def trA:Nat->Gam->List Expr->Option Es
 | 0,_,_=>none
 |_+1,_,[]=>some .nil
 |n+1,Γ,e::es=>match trE n Γ e,trA n Γ es with|some a,some as=>some (.cons a as)|_,_=>none
noncomputable def trB:Nat->Gam->BoolOp->Pos->List Expr->Option E
 | 0,_,_,_,_=>none
 |_+1,_,_,_,[]=>none
 |n+1,Γ,_,_,[a]=>trE n Γ a
 |n+1,Γ,op,p,a::b::r=>match trE n Γ a,trB n Γ op p (b::r) with|some a',some b'=>some (match op with | .And=>.and a' b' | .Or=>.or a' b')|_,_=>none
noncomputable def trC:Nat->Gam->Str->List Expr->Option E
 | 0,_,_,_=>none
 |n+1,Γ,f,args=>match slot Γ.fns f with
  |some i=>(trA n Γ args).map (.call i)
  |none=>if Γ.bl.contains f then
    (if f="isinstance" then (match args with
     | [a,.Name t _]=>if okN t&&glB Γ.sc t&&Γ.bl.contains t then (match trE n Γ a,qFP t with|some a',some t'=>some (.isi a' [t'])|_,_=>none) else none
     |_=>none)
    else if f="list"/\qFq args=true then (match args with
     | [.Call (.Name r _) [a] [] _]=>if okN r&&glB Γ.sc r&&Γ.bl.contains r&&qe a&&decide (r="range") then (trE n Γ a).map .lrng else none
     |_=>none)
    else match qFp f,args with
     |some b,_::_=>(trA n Γ args).map (.blt (mxA b args))
     |_,_=>none)
   else none
noncomputable def trO:Nat->Gam->Option Expr->Option Es
 | 0,_,_=>none
 |_+1,_,none=>some .nil
 |n+1,Γ,some e=>(trE n Γ e).map λa=>.cons a .nil
noncomputable def qC7:Nat->Gam->List Expr->Option Es
 | 0,_,_=>none
 |_+1,_,[]=>some .nil
 |n+1,Γ,[c]=>(trE n Γ c).map λa=>.cons a .nil
 |_,_,_=>none
noncomputable def trI:Nat->Gam->Expr->Expr->Option Itr
 | 0,_,_,_=>none
 |n+1,Γ,tg,iter=>match iter with
  | .Call (.Name f _) args [] _=>
   if f="range" then (if glB Γ.sc f&&Γ.bl.contains f&&args.all qe then (match args with
    | [a]=>(trE n Γ a).map .rng1
    | [a,b]=>match trE n Γ a,trE n Γ b with|some a',some b'=>some (.rng2 a' b')|_,_=>none
    | [a,b,c]=>match trE n Γ a,trE n Γ b,trE n Γ c with|some a',some b',some c'=>if c'.isM1 then some (.rng3 a' b') else none|_,_,_=>none
    |_=>none) else none)
   else if f="zip" then (if glB Γ.sc f&&Γ.bl.contains f&&args.all qe then (match tg,args with
    | .Tuple ..,[a,b]=>match trE n Γ a,trE n Γ b with|some a',some b'=>some (.zip a' b')|_,_=>none
    |_,_=>none) else none)
   else if f="enumerate" then (if glB Γ.sc f&&Γ.bl.contains f&&args.all qe then (match tg,args with
    | .Tuple ..,[a]=>(trE n Γ a).map .enum
    |_,_=>none) else none)
   else (trE n Γ iter).map .list
  |_=>(trE n Γ iter).map .list
end
mutual
noncomputable def trS:Nat->Gam->Stmt->S
 | 0,_,_=>.stop
 |n+1,Γ,st=>match st with
  | .Assign ts v _=>(match ts with
   | [tgt]=>(match tgt with
    | .Name x _=>(match trT Γ (.Name x ⟨0,0,0,0⟩),trE 60 Γ v with|some g,some a=>if qGZ a then .asg g a else .stop|_,_=>.stop)
    | .Tuple es k p=>(match es,v with
     | [.Name _ _,.Name _ _],.Tuple [_,_] _ _=>.stop
     |es,v=>if Qn v&&qD6 v then (match trT Γ (.Tuple es k p),trE 60 Γ v with|some g,some a=>.asg g a|_,_=>.stop) else .stop)
    | .Subscript o i _=>if Qn v&&QU i then (match trE 60 Γ o,trE 60 Γ i,trE 60 Γ v with|some o',some i',some v'=>.put o' i' v' | _,_,_=>.stop) else .stop
    |_=>.stop)
   |_=>.stop)
  | .Expr e _=>if Qn e then (match trE 60 Γ e with|some a=>.expr a|none=>.stop) else .stop
  | .Return r _=>(match r with
   |some e=>(match trE 60 Γ e with|some a=>.ret a|none=>.stop)
   |none=>.stop)
  | .If c t u _=>match trE 60 Γ c with|some c'=>.ifs c' (U7 n Γ t) (U7 n Γ u)|none=>.stop
  | .For tg iter b els _=>(match els with
   | []=>if A0 iter then (match trI 60 Γ tg iter,trT Γ tg with|some it,some g=>.for_ g it (U7 n Γ b)|_,_=>.stop) else .stop
   |_=>.stop)
  | .While c b els _=>(match els with
   | []=>(match trE 60 Γ c with|some c'=>.while_ c' (U7 n Γ b)|none=>.stop)
   |_=>.stop)
  | .AugAssign tgt op v _=>(match tgt,op with
   | .Subscript o i _,.Add=>if QU i then (match trE 60 Γ o,trE 60 Γ i,trE 60 Γ v with|some o',some i',some v'=>if pur 20 o'&&v6 20 i'&&v6 20 v' then .put o' i' (qFJ o' i' v') else .stop|_,_,_=>.stop) else .stop
   |_,_=>.stop)
  |_=>.stop
noncomputable def U7:Nat->Gam->List Stmt->Ss
 | 0,_,_=>.cons .stop .nil
 |_+1,_,[]=>.nil
 |n+1,Γ,s::r=>.cons (trS n Γ s) (U7 n Γ r)
end
structure Fit(Γ:Gam)(X:Cx)(G:List Addr)(F:Nat->List V->AH->RV):Prop where
 hN:X.N=Γ.N
 nd:Γ.N.Nodup
 sc:X.env.scope=Γ.sc
 calm:X.calm=true
 fn:∀x,Γ.own x=true->X.fn x=true
 fns:∀(f:Nat) x,Γ.fns[f]?=some x->FnS X G F f x
 gls:∀x e,Γ.gl.lookup x=some e->(∃v u,e=.cst v/\X.mg x=some u/\RelV v u/\∀φ,rv φ v v)\/(∃g a,e=.glob g/\X.mg x=some (.ref a)/\G[g]?=some a)
 blt:∀x,Γ.bl.contains x=true->X.mg x=none
 hu:X.A.units+8<cLine
 gd:X.A.guards=some []
 gtu:∀a∈G,∃o,X.K.lookup a=some o/\o.cls=.type "tuple"/\o.dict=none
section
variable{Γ:Gam}{X:Cx}{G:List Addr}{F:Nat->List V->AH->RV}
theorem Y2{x:Str}(h:okN x=true):(x==("__debug__":Str))=false/\(x==("__classdict__":Str))=false/\x≠"__name__":=by
 unfold okN at h;simp only[wB,vj,decide_eq_false_iff_not]at h;exact⟨h.1.1,h.1.2,h.2⟩
theorem Fit.gl'(f:Fit Γ X G F){x:Str}(h:glB Γ.sc x=true):_L.Gl X x:=by
 unfold _L.Gl Env.kindOf;rw[f.sc];simpa [glB] using h
theorem Fit.store(f:Fit Γ X G F){x:Str}(h:P0 Γ x=true):_L.Loc X.env.scope x/\(X.fn x=true\/X.env.scope.names.lookup x=some .local):=by
 rw[f.sc];unfold P0 at h;unfold _L.Loc;split at h
 ·rename_i e;exact⟨.inl e,.inr e⟩
 ·rename_i e;exact⟨.inr e,.inl (f.fn x h)⟩
 ·cases h
theorem qBL(f:Fit Γ X G F):∀{es:List Expr}{is:List Nat},qE9 Γ es=some is->PGs X es (tGs is)/\(assignEach es X.env).length=is.length/\(assignEach es X.env).findIdx? (·.1)=none
 | [],is,h=>by
  cases h;exact⟨qCd,rfl,rfl⟩
 |e::es,is,h=>by
  unfold qE9 at h;split at h
  ·rename_i e1;cases e1
  ·rename_i x p r e1;cases e1;split at h
   ·rename_i hs;split at h
    ·rename_i i is' ei eis;cases h;obtain⟨h1,h2⟩:=f.store hs;obtain⟨g1,g2,g3⟩:=qBL f eis;refine⟨qAj (by rw[f.hN];exact f.nd) (by rw[f.hN];exact Qu ei) h1 h2 g1,?_,?_⟩
     ·show (assignEach es X.env).length+1=_;rw[g2];rfl
     ·show (((false,assign (.Name x p) X.env)::assignEach es X.env).findIdx? (·.1))=none;rw[List.findIdx?_cons,g3];rfl
    ·cases h
   ·cases h
  ·cases h
theorem X5(f:Fit Γ X G F){tg:Expr}{g:Tg}(h:trT Γ tg=some g):SG X G tg g:=by
 unfold trT at h;split at h
 ·rename_i x p;split at h
  ·rename_i hs;obtain⟨i,ei,rfl⟩:=wA.mp h;obtain⟨h1,h2⟩:=f.store hs;exact j4 (by rw[f.hN];exact f.nd) (by rw[f.hN];exact Qu ei) h1 h2
  ·cases h
 ·obtain⟨is,ei,rfl⟩:=wA.mp h;obtain⟨g1,g2,g3⟩:=qBL f ei;exact qEA f.calm g1 g2 g3
 ·cases h
theorem Q6{op:CmpOp}{e:Expr}(h:A0 e=true):behindInMarks op e=false:=by
 cases e<;>first|rfl|cases h
theorem W7{o1 o2:CmpOp}{b c:Expr}(h:A0 c=true):lastMarks [o1,o2] [b,c]=false:=by
 show behindInMarks o2 c=false;exact Q6 h
theorem Z9{o1 o2 o3:CmpOp}{b c d:Expr}(h:A0 d=true):lastMarks [o1,o2,o3] [b,c,d]=false:=by
 show behindInMarks o3 d=false;exact Q6 h
theorem v4{iter:Expr}{env:Env}(h:A0 iter=true):∀x,foldedSetIterable iter env x=pure x:=by
 intro x;cases iter<;>first|rfl|cases h
theorem qA4{o:Expr}{n:Str}{env:Env}{w:Sem Value}(h:d7 o=true):attributeBase o n env w=w:=by
 cases o<;>first|rfl|cases h
theorem ZA(f:Fit Γ X G F){scope:Scope}{N:List Str}{src:List (Option Nat)}(h:Jk Γ scope N src=true):_L.CompScope X scope N src:=by
 unfold Jk at h;simp only[wB,wS,uC]at h;obtain⟨⟨⟨⟨⟨h1,h2⟩,h4⟩,h5⟩,h6⟩,h7⟩:=h;refine⟨h1,h2,λy hy hk=>?_,h5,h6,λi x j e1 e2=>?_⟩
 ·unfold Env.kindOf;rw[f.sc];exact h4 y hy hk
 ·have hi:i<N.length:=(wC.mp e1).1;have:=h7 i (wM.mpr hi);rw[e1,e2]at this;rw[f.hN];simpa using this
theorem QF(f:Fit Γ X G F){scope:Scope}{N:List Str}{src:List (Option Nat)}(h:Jk Γ scope N src=true)(C:Addr)(fp:List Addr)(s:Shared)(H:Hp):
  Fit { Γ with N:=N,sc:=qFA scope Γ.sc,own:=λx=>decide (scope.names.lookup x=some .cell) } (_L.cxComp X scope C fp s H N) G F:=by
 have S:=ZA f h;refine⟨rfl,S.nd,?_,f.calm,λx z=>z,λg x e=>?_,f.gls,f.blt,f.hu,f.gd,f.gtu⟩
 ·show relabel scope X.env=qFA scope Γ.sc;unfold relabel qFA Env.kindOf;rw[f.sc]
 ·exact⟨(f.fns g x e).ex⟩
theorem L9(n:Nat):
  (∀ Γ e a,trE n Γ e=some a->∀X:Cx,Fit Γ X G F->SE X G F e a/\ST X G F e a)/\
  (∀ Γ es as,trA n Γ es=some as->es.all qe=true->∀X:Cx,Fit Γ X G F->SA X G F es as)/\
  (∀ Γ op p vs a,trB n Γ op p vs=some a->∀X:Cx,Fit Γ X G F->SE X G F (.BoolOp op vs p) a/\SW X G F (.BoolOp op vs p) a)/\
  (∀ Γ f args a,trC n Γ f args=some a->okN f=true->glB Γ.sc f=true->args.all qe=true->∀X:Cx,Fit Γ X G F->∀p pos,SE X G F (.Call (.Name f p) args [] pos) a)/\
  (∀ Γ o as,trO n Γ o=some as->∀X:Cx,Fit Γ X G F->SO X G F o as)/\
  (∀ Γ ifs as,qC7 n Γ ifs=some as->∀X:Cx,Fit Γ X G F->SC X G F ifs as)/\
  (∀ Γ tg iter it,trI n Γ tg iter=some it->∀X:Cx,Fit Γ X G F->SI X G F tg iter it):=by
 induction n with
 |zero=>exact⟨(λ_ _ _ h=>by unfold trE at h;cases h),(λ_ _ _ h=>by unfold trA at h;cases h),(λ_ _ _ _ _ h=>by unfold trB at h;cases h),(λ_ _ _ _ h=>by unfold trC at h;cases h),(λ_ _ _ h=>by unfold trO at h;cases h),(λ_ _ _ h=>by unfold qC7 at h;cases h),(λ_ _ _ _ h=>by unfold trI at h;cases h)⟩
 |succ n ih=>
  obtain⟨iE,iA,iB,iC,iO,iIf,iI⟩:=ih;refine⟨?_,?_,?_,?_,?_,?_,?_⟩
  ·intro Γ e a h X f;unfold trE at h;split at h
   ·split at h
    ·cases h;exact⟨h9,qh h9 λ_=>rfl⟩
    ·cases h;exact⟨qEu,qh qEu λ_=>rfl⟩
    ·cases h;exact⟨qBG,qh qBG λ_=>rfl⟩
    ·cases h;exact⟨qA8,qh qA8 λ_=>rfl⟩
    ·cases h
   ·rename_i x p;split at h
    ·rename_i ho;obtain⟨o1,o2,o3⟩:=Y2 ho;split at h
     ·rename_i hv;obtain⟨i,ei,rfl⟩:=wA.mp h;have s1:SE X G F (.Name x p) (.var i):=qET (by rw[f.hN];exact Qu ei) (by rw[f.sc];exact qCh hv) o1 o2;exact⟨s1,qh s1 λ_=>rfl⟩
     ·split at h
      ·rename_i hg;rcases f.gls x a h with⟨v,u,rfl,e1,e2,e3⟩|⟨g,ad,rfl,e1,e2⟩
       ·have s1:SE X G F (.Name x p) (.cst v):=qCc (f.gl' hg) e1 e2 e3 o1;exact⟨s1,qh s1 λ_=>rfl⟩
       ·have s1:SE X G F (.Name x p) (.glob g):=qBn (f.gl' hg) e1 e2 o1;exact⟨s1,qh s1 λ_=>rfl⟩
      ·cases h
    ·cases h
   ·split at h
    ·rename_i o a' b' eo ea eb;cases h;rw[qCY eo];exact⟨qA7 (iE _ _ _ ea X f).1 (iE _ _ _ eb X f).1,qh (qA7 (iE _ _ _ ea X f).1 (iE _ _ _ eb X f).1) λ_=>rfl⟩
    ·cases h
   ·split at h
    ·obtain⟨a',ea,rfl⟩:=wA.mp h;have s1:=qAw (pos:=‹Pos›) (iE _ _ _ ea X f).1;exact⟨s1,qh s1 λ_=>rfl⟩
    ·obtain⟨a',ea,rfl⟩:=wA.mp h;exact⟨qEE (iE _ _ _ ea X f).1,qEq (iE _ _ _ ea X f).2⟩
    ·cases h
   ·obtain⟨s1,s2⟩:=iB _ _ _ _ _ h X f;exact⟨s1,s2.pt⟩
   ·split at h
    ·rename_i op b0;split at h
     ·rename_i hs;split at h
      ·rename_i a' b' ea eb;cases h;rw[Qr op];have e1:ZK (opC (ZK op))=ZK op:=by cases op<;>rfl
       rw[e1];exact⟨qDQ f.hu (iE _ _ _ ea X f).1 (iE _ _ _ eb X f).1 (Q6 hs),qDV f.hu (iE _ _ _ ea X f).1 (iE _ _ _ eb X f).1 (Q6 hs)⟩
      ·cases h
     ·cases h
    ·rename_i o1 o2 b0 c0;split at h
     ·rename_i hs;split at h
      ·rename_i a' b' c' ea eb ec;cases h;rw[Qr o1,Qr o2];have e1:ZK (opC (ZK o1))=ZK o1:=by cases o1<;>rfl
       have e2:ZK (opC (ZK o2))=ZK o2:=by cases o2<;>rfl
       rw[e1,e2];exact⟨qAE f.hu (iE _ _ _ ea X f).1 (iE _ _ _ eb X f).1 (iE _ _ _ ec X f).1 (W7 hs),y9 f.hu (iE _ _ _ ea X f).1 (iE _ _ _ eb X f).1 (iE _ _ _ ec X f).1 (W7 hs)⟩
      ·cases h
     ·cases h
    ·rename_i o1 o2 o3 b0 c0 d0;split at h
     ·rename_i hs;split at h
      ·rename_i a' b' c' d' ea eb ec ed;cases h;rw[Qr o1,Qr o2,Qr o3];have e1:ZK (opC (ZK o1))=ZK o1:=by cases o1<;>rfl
       have e2:ZK (opC (ZK o2))=ZK o2:=by cases o2<;>rfl
       have e3:ZK (opC (ZK o3))=ZK o3:=by cases o3<;>rfl
       rw[e1,e2,e3];exact⟨g6 f.hu (iE _ _ _ ea X f).1 (iE _ _ _ eb X f).1 (iE _ _ _ ec X f).1 (iE _ _ _ ed X f).1 (Z9 hs),m6 f.hu (iE _ _ _ ea X f).1 (iE _ _ _ eb X f).1 (iE _ _ _ ec X f).1 (iE _ _ _ ed X f).1 (Z9 hs)⟩
      ·cases h
     ·cases h
    ·cases h
   ·split at h
    ·split at h
     ·split at h
      ·rename_i hc;simp only[wB]at hc;have s1:=iC _ _ _ _ h hc.1.1 hc.1.2 hc.2 X f;exact⟨s1 _ _,qh (s1 _ _) λ_=>rfl⟩
      ·cases h
     ·split at h
      ·split at h
       ·rename_i hc;obtain⟨rfl,hc1,hc2,hc3⟩:=hc;split at h
        ·rename_i o' x' eo ex;cases h;have s1:=qDT (qA4 hc1) hc3 hc2 (iE _ _ _ eo X f).1 (iE _ _ _ ex X f).1;exact⟨s1,qh s1 λ_=>rfl⟩
        ·cases h
       ·cases h
      ·split at h
       ·rename_i hm;subst hm;split at h
        ·rename_i hc;obtain⟨o',eo,rfl⟩:=wA.mp h;have s1:=qBe f.calm f.hu f.gd (qA4 hc.1) hc.2 (iE _ _ _ eo X f).1;exact⟨s1,qh s1 λ_=>rfl⟩
        ·cases h
       cases h
      ·cases h
     ·cases h
    ·cases h
   ·split at h
    ·split at h
     ·split at h
      ·rename_i a' l h' ea el eh;cases h;exact⟨qDK (iE _ _ _ ea X f).1 (iO _ _ _ el X f) (iO _ _ _ eh X f),qh (qDK (iE _ _ _ ea X f).1 (iO _ _ _ el X f) (iO _ _ _ eh X f)) λ_=>rfl⟩
      ·cases h
     ·split at h
      ·obtain⟨a',ea,rfl⟩:=wA.mp h;exact⟨qBO (iE _ _ _ ea X f).1 (G9 qEp),qh (qBO (iE _ _ _ ea X f).1 (G9 qEp)) λ_=>rfl⟩
      ·cases h
    ·split at h
     ·rename_i hs;split at h
      ·rename_i a' b' ea eb;cases h;have s1:=qDn (pos:=‹Pos›) hs (iE _ _ _ ea X f).1 (iE _ _ _ eb X f).1;exact⟨s1,qh s1 λ_=>rfl⟩
      ·cases h
     ·cases h
   ·split at h
    ·rename_i hs;obtain⟨a',ea,rfl⟩:=wA.mp h;have s1:=qEh (pos:=‹Pos›) (iA _ _ _ ea hs X f);exact⟨s1,qh s1 λ_=>rfl⟩
    ·cases h
   ·split at h
    ·rename_i hs;obtain⟨a',ea,rfl⟩:=wA.mp h;exact⟨qBK (iA _ _ _ ea hs X f),qh (qBK (iA _ _ _ ea hs X f)) λ_=>rfl⟩
    ·cases h
   ·split at h
    ·cases h;exact⟨V9,qh V9 λ_=>rfl⟩
    ·cases h
   ·split at h
    ·split at h;split at h
     ·dsimp only at h;split at h
      ·rename_i hc;simp only[wB]at hc;split at h
       ·rename_i it g c e' ei eg ec ee;cases h;have s1:=f7 (pos:=‹Pos›) f.calm (iI _ _ _ _ ei X f) (ZA f hc.1) (λC fp s H=>X5 (QF f hc.1 C fp s H) eg) (λC fp s H=>iIf _ _ _ ec _ (QF f hc.1 C fp s H)) (λC fp s H=>(iE _ _ _ ee _ (QF f hc.1 C fp s H)).1) (v4 hc.2);exact⟨s1,qh s1 λ_=>rfl⟩
       ·cases h
      ·cases h
     ·cases h
    ·cases h
   ·cases h
  ·intro Γ es as h hs X f;cases es with
   |nil=>simp only[trA]at h;cases h;exact qEK
   |cons e es=>
    simp only[trA]at h;simp only[List.all_cons,wB]at hs;split at h
    ·rename_i a as ea eas;cases h;exact qB0 hs.1 (iE _ _ _ ea X f).1 (iA _ _ _ eas hs.2 X f)
    ·cases h
  ·intro Γ op p vs a h X f;cases vs with
   |nil=>simp only[trB]at h;cases h
   |cons e r=>
    cases r with
    |nil=>
     simp only[trB]at h;obtain⟨s1,s2⟩:=iE _ _ _ h X f;refine⟨_L.pe_one s1,?_⟩;cases op with
     |And=>exact _L.pw_and1 s2
     |Or=>exact _L.pw_or1 s2
    |cons b r=>
     simp only[trB]at h;split at h
     ·rename_i a' b' ea eb;cases h;obtain⟨s1,s2⟩:=iE _ _ _ ea X f;obtain⟨s3,s4⟩:=iB _ _ _ _ _ eb X f;cases op with
      |And=>exact⟨qDc s1 s3,qEv s2 s4⟩
      |Or=>exact⟨qF5 s1 s3,qFY s2 s4⟩
     ·cases h
  ·intro Γ g args a h ho hg hs X f p pos;obtain⟨o1,o2,o3⟩:=Y2 ho;unfold trC at h;split at h
   ·rename_i i ei;obtain⟨as,ea,rfl⟩:=wA.mp h;have sA:=iA _ _ _ ea hs X f;cases args with
    |nil=>
     have:as=.nil:=by
      cases n with
      |zero=>simp only[trA]at ea;cases ea
      |succ m=>simp only[trA]at ea;cases ea;rfl
     subst this;exact qAL (f.fns i g (Qu ei)) (f.gl' hg) o1
    |cons e es=>
     simp only[List.all_cons,wB]at hs;exact qCQ (f.fns i g (Qu ei)) (f.gl' hg) o1 hs.1 hs.2 sA
   ·split at h
    ·rename_i hb;split at h
     ·rename_i hi;subst hi;split at h
      ·rename_i e0 t pt;split at h
       ·rename_i hc;simp only[wB]at hc;obtain⟨t1,t2,t3⟩:=Y2 hc.1.1;split at h
        ·rename_i a' t' ea et;cases h;obtain⟨b1,b2⟩:=qB9 et;simp only[List.all_cons,wB]at hs;exact qDB b2 (f.gl' hg) (f.blt _ hb) (f.gl' hc.1.2) (f.blt _ hc.2) b1 t3 t1 hs.1 (iE _ _ _ ea X f).1
        ·cases h
       ·cases h
      ·cases h
     ·split at h
      ·rename_i hl;obtain⟨rfl,_⟩:=hl;split at h
       ·rename_i r pr e0 pc;split at h
        ·rename_i hc;simp only[wB,uC]at hc;obtain⟨⟨⟨⟨c1,c2⟩,c3⟩,c4⟩,rfl⟩:=hc;obtain⟨a',ea,rfl⟩:=wA.mp h;exact qCX f.calm (f.gl' hg) (f.blt _ hb) (f.gl' c2) (f.blt _ c3) c4 (iE _ _ _ ea X f).1
        ·cases h
       ·cases h
      rename_i hneg;clear hneg;split at h
      ·rename_i b e es eb;obtain⟨as,ea,rfl⟩:=wA.mp h;have sA:=iA _ _ _ ea hs X f;simp only[List.all_cons,wB]at hs;exact qEy f.calm f.hu f.gd (f.gl' hg) (f.blt _ hb) (qEm eb) hs.1 hs.2 sA o3 o1
      ·cases h
    ·cases h
  ·intro Γ o as h X f;cases o with
   |none=>simp only[trO]at h;cases h;exact qCs
   |some e=>
    simp only[trO]at h;obtain⟨a,ea,rfl⟩:=wA.mp h;exact G9 (iE _ _ _ ea X f).1
  ·intro Γ ifs as h X f;cases ifs with
   |nil=>simp only[qC7]at h;cases h;exact qDs
   |cons e r=>
    cases r with
    |nil=>
     simp only[qC7]at h;obtain⟨a,ea,rfl⟩:=wA.mp h;exact qEs (iE _ _ _ ea X f).2
    |cons b r=>simp only[qC7]at h;cases h
  ·intro Γ tg iter it h X f;unfold trI at h;split at h
   ·rename_i fn p args pos;split at h
    ·rename_i hf;subst hf;split at h
     ·rename_i hc;simp only[wB]at hc;split at h
      ·rename_i e;obtain⟨a,ea,rfl⟩:=wA.mp h;have hs:=hc.2;simp only[List.all_cons,wB]at hs;exact qCL (f.gl' hc.1.1) (f.blt _ hc.1.2) hs.1 (iE _ _ _ ea X f).1
      ·rename_i e e2;split at h
       ·rename_i a' b' ea eb;cases h;have hs:=hc.2;simp only[List.all_cons,wB]at hs;exact qCq (f.gl' hc.1.1) (f.blt _ hc.1.2) hs.1 hs.2.1 (iE _ _ _ ea X f).1 (iE _ _ _ eb X f).1
       ·cases h
      ·split at h
       ·rename_i a' b' c' ea eb ec;split at h
        ·rename_i hm1;cases h;have hs:=hc.2;simp only[List.all_cons,wB]at hs;exact qCG (f.gl' hc.1.1) (f.blt _ hc.1.2) hs.1 hs.2.1 hs.2.2.1 (iE _ _ _ ea X f).1 (iE _ _ _ eb X f).1 (iE _ _ _ ec X f).1 hm1
        ·cases h
       ·cases h
      ·cases h
     ·cases h
    ·split at h
     ·rename_i hf;subst hf;split at h
      ·rename_i hc;simp only[wB]at hc;split at h
       ·split at h
        ·rename_i a' b' ea eb;cases h;have hs:=hc.2;simp only[List.all_cons,wB]at hs;exact qEc (f.gl' hc.1.1) (f.blt _ hc.1.2) hs.1 hs.2.1 (iE _ _ _ ea X f).1 (iE _ _ _ eb X f).1
        ·cases h
       ·cases h
      ·cases h
     ·split at h
      ·rename_i hf;subst hf;split at h
       ·rename_i hc;simp only[wB]at hc;split at h
        ·obtain⟨a,ea,rfl⟩:=wA.mp h;have hs:=hc.2;simp only[List.all_cons,wB]at hs;exact qCW (f.gl' hc.1.1) (f.blt _ hc.1.2) hs.1 (iE _ _ _ ea X f).1
        ·cases h
       ·cases h
      ·obtain⟨a,ea,rfl⟩:=wA.mp h;exact V1 (iE _ _ _ ea X f).1
   ·obtain⟨a,ea,rfl⟩:=wA.mp h;exact V1 (iE _ _ _ ea X f).1
end
open _L (FnOk Fun zt Binds Room)
section
variable{G:List Addr}{F:Nat->List V->AH->RV}
theorem Jz{Γ:Gam}{X:Cx}(f:Fit Γ X G F)(hx:∀x,Γ.own x=true){n:Nat}{elt:Expr}{gens:List Comprehension}{scope:Scope}{cpos p pos:Pos}{a:E}{x:Str}{g:Tg}(hd:qGZ a=true)(h:trE n Γ (.ListComp elt gens scope cpos)=some a)
  (hg:trT Γ (.Name x ⟨0,0,0,0⟩)=some g):SS X G F (.Assign [.Name x p] (.ListComp elt gens scope cpos) pos) (.asg g a):=by
 cases n with
 |zero=>unfold trE at h;cases h
 |succ n=>
  unfold trT at hg;dsimp only at hg;split at hg
  ·rename_i hs;obtain⟨i,ei,rfl⟩:=wA.mp hg;obtain⟨h1,h2⟩:=f.store hs;obtain⟨iE,iA,iB,iC,iO,iIf,iI⟩:=L9 (G:=G) (F:=F) n;unfold trE at h;dsimp only at h;split at h
   ·split at h;split at h
    ·split at h
     ·rename_i hc;simp only[wB]at hc;split at h
      ·rename_i it g c e' ei' eg ec ee;cases h;exact qBm f.calm (iI _ _ _ _ ei' X f) (ZA f hc.1) (λC fp s H=>X5 (QF f hc.1 C fp s H) eg) (λC fp s H=>iIf _ _ _ ec _ (QF f hc.1 C fp s H)) (λC fp s H=>(iE _ _ _ ee _ (QF f hc.1 C fp s H)).1) (v4 hc.2) (by rw[f.hN];exact f.nd) (by rw[f.hN];exact Qu ei) h1 h2
      ·cases h
     ·cases h
    ·cases h
   ·cases h
  ·cases hg
theorem m5(n:Nat):(∀ Γ st (X:Cx),Fit Γ X G F->(∀x,Γ.own x=true)->X.xe=(λ_ _=>False)->SS X G F st (trS n Γ st))/\(∀ Γ sts (X:Cx),Fit Γ X G F->(∀x,Γ.own x=true)->X.xe=(λ_ _=>False)->SSs X G F sts (U7 n Γ sts)):=by
 induction n with
 |zero=>
  refine⟨fun Γ st X f ho hx=>?_,fun Γ sts X f ho hx=>?_⟩
  ·unfold trS;exact qg
  ·unfold U7;intro pins s σ H D I q;obtain⟨φ,h,σa,o,h',R,rs,e,k⟩:=q;unfold exs ex at e;cases e
 |succ n ih=>
  obtain⟨i1,i2⟩:=ih;obtain⟨iE,iA,iB,iC,iO,iIf,iI⟩:=L9 (G:=G) (F:=F) 60;refine⟨fun Γ st X f ho hx=>?_,fun Γ sts X f ho hx=>?_⟩
  ·unfold trS;split
   ·split
    ·split
     ·rename_i v pos _ _ x p;split
      ·rename_i g a eg ea;split
       ·rename_i hd;by_cases hc:Qn v=true
        ·refine Zc (_L.ps_asg (iE _ _ _ ea X f).1 (X5 f (tg:=.Name x p) eg) (Qq hc) (by cases v<;>rfl) rfl) λ_ _ _=>L5
        ·cases v with
         |ListComp elt gens scope cpos=>exact Jz f ho hd ea eg
         |SetComp elt gens scope cpos=>unfold trE at ea;cases ea
         |DictComp k elt gens scope cpos=>unfold trE at ea;cases ea
         |_=>exact absurd rfl hc
       ·exact qg
      ·exact qg
     ·split
      ·exact qg
      ·split
       ·rename_i hc;simp only[wB]at hc;split
        ·rename_i g a eg ea;have hg:=eg;unfold trT at hg;obtain⟨is,ei,rfl⟩:=wA.mp hg;exact qDO (X5 f eg) (iE _ _ _ ea X f).1 hc.1 hc.2
        ·exact qg
       ·exact qg
     ·split
      ·rename_i hc;simp only[wB]at hc;split
       ·rename_i o' i' v' eo ei ev;exact qEH f.hu (iE _ _ _ eo X f).1 (iE _ _ _ ei X f).1 (iE _ _ _ ev X f).1 hc.1 hc.2
       ·exact qg
      ·exact qg
     ·exact qg
    ·exact qg
   ·split
    ·rename_i hc;split
     ·rename_i a ea;exact qBg (iE _ _ _ ea X f).1 hc
     ·exact qg
    ·exact qg
   ·split
    ·split
     ·rename_i a ea;exact qDJ (iE _ _ _ ea X f).1
     ·exact qg
    ·exact qg
   ·split
    ·rename_i a ea;exact qEU (iE _ _ _ ea X f).2 (i2 _ _ X f ho hx) (i2 _ _ X f ho hx)
    ·exact qg
   ·split
    ·split
     ·rename_i hs;split
      ·rename_i it g ei eg;exact qEz hx f.calm (iI _ _ _ _ ei X f) (X5 f eg) (i2 _ _ X f ho hx) (v4 hs)
      ·exact qg
     ·exact qg
    ·exact qg
   ·split
    ·split
     ·rename_i a ea;exact y8 hx (iE _ _ _ ea X f).2 (i2 _ _ X f ho hx)
     ·exact qg
    ·exact qg
   ·split
    ·split
     ·rename_i hc;split
      ·rename_i o' i' v' eo ei ev;split
       ·rename_i hp;simp only[wB]at hp;exact qDH (iE _ _ _ eo X f).1 (iE _ _ _ ei X f).1 (iE _ _ _ ev X f).1 hc hp.1.1 hp.1.2 hp.2
       ·exact qg
      ·exact qg
     ·exact qg
    ·exact qg
   ·exact qg
  ·cases sts with
   |nil=>unfold U7;exact qBt
   |cons s r=>unfold U7;exact qAo (i1 _ _ X f ho hx) (i2 _ _ X f ho hx)
end
theorem len1{α:Type}{us:List α}(h:us.length=1):∃a,us=[a]:=List.length_eq_one_iff.mp h
theorem len2{α:Type}{us:List α}(h:us.length=2):∃a b,us=[a,b]:=by
 cases us with
 |nil=>cases h
 |cons a r=>obtain⟨b,rfl⟩:=len1 (us:=r) (by simpa using h);exact⟨a,b,rfl⟩
theorem len3{α:Type}{us:List α}(h:us.length=3):∃a b c,us=[a,b,c]:=by
 cases us with
 |nil=>cases h
 |cons a r=>obtain⟨b,c,rfl⟩:=len2 (us:=r) (by simpa using h);exact⟨a,b,c,rfl⟩
theorem len4{α:Type}{us:List α}(h:us.length=4):∃a b c d,us=[a,b,c,d]:=by
 cases us with
 |nil=>cases h
 |cons a r=>obtain⟨b,c,d,rfl⟩:=len3 (us:=r) (by simpa using h);exact⟨a,b,c,d,rfl⟩
theorem len5{α:Type}{us:List α}(h:us.length=5):∃a b c d e,us=[a,b,c,d,e]:=by
 cases us with
 |nil=>cases h
 |cons a r=>obtain⟨b,c,d,e,rfl⟩:=len4 (us:=r) (by simpa using h);exact⟨a,b,c,d,e,rfl⟩
structure J4 where
 x:Str
 st:Stmt
 ps:List Str
 N:List Str
set_option genInjectivity false in structure Tbl where
 ds:List J4
 gl:List (Str×E)
 bl:List Str
 cls:List Str:=[]
 xr:List Str:=[]
noncomputable def Tbl.gam(T:Tbl)(d:J4):Gam:=⟨d.N,_L.defScope d.st,T.ds.map (·.x),T.gl,T.bl,λ_=>true,T.cls,T.xr.contains d.x⟩
noncomputable def Tbl.fn(T:Tbl)(d:J4):Fn:=⟨d.ps.length,d.N.length,U7 60 (T.gam d) (_L.defBody d.st)⟩
noncomputable def Tbl.fns(T:Tbl):List Fn:=T.ds.map T.fn
structure w9(K:PySem.W.Frag)(mg:Str->Option Value)(G:List Addr)(T:Tbl)(fa:List Addr)(fd:List FuncData):Prop where
 def_:∀(i:Nat) d,T.ds[i]?=some d->∃a f,fa[i]?=some a/\fd[i]?=some f/\Fun K d.x d.x d.st a f/\zt d.N d.ps (_L.defScope d.st)/\mg d.x=some (.ref a)/\Binds K f d.ps []
 gls:∀x e,T.gl.lookup x=some e->(∃v u,e=.cst v/\mg x=some u/\RelV v u/\∀φ,rv φ v v)\/(∃g a,e=.glob g/\mg x=some (.ref a)/\G[g]?=some a)
 blt:∀x,T.bl.contains x=true->mg x=none
 gtu:∀a∈G,∃o,K.lookup a=some o/\o.cls=.type "tuple"/\o.dict=none
theorem l9{φ:List Addr}{ws vs:List V}(r:rvs φ ws vs)(n:Nat):rst φ (ws.map some++List.replicate n none) (vs.map some++List.replicate n none):=by
 refine qd ?_ ?_
 ·induction r with
  |nil=>exact .nil
  |cons h t ih=>exact .cons ⟨_,rfl,h⟩ ih
 ·induction n with
  |zero=>exact .nil
  |succ n ih=>exact .cons trivial ih
section
variable{P:Program}{w:World}{K:PySem.W.Frag}{mg:Str->Option Value}{base:Heap}{G:List Addr}{T:Tbl}{fa:List Addr}{fd:List FuncData}
theorem qE0{k i:Nat}{d:J4}(h1:T.ds[i]?=some d){ws:List V}{h h':AH}{v:V}(e:Fk T.fns (k+1) i ws h=.ok (v,h')):ws.length=d.ps.length/\d.ps.length<=d.N.length/\∃o,exs (Fk T.fns k) (U7 60 (T.gam d) (_L.defBody d.st)) (ws.map some++List.replicate (d.N.length-d.ps.length) none) h=.ok (o,h')/\
  ((∃σ,o=.nx σ/\v=.non)\/o=.rt v):=by
 unfold Fk at e;have ht:T.fns[i]?=some (T.fn d):=by unfold Tbl.fns;rw[wg,h1];rfl
 rw[ht]at e;dsimp only at e;split at e
 ·rename_i hc;obtain⟨⟨o,h2⟩,e2,e⟩:=tM e;have e4:exs (Fk T.fns k) (U7 60 (T.gam d) (_L.defBody d.st)) (ws.map some++List.replicate (d.N.length-d.ps.length) none) h=.ok (o,h2):=e2;refine⟨hc.1,hc.2,o,?_,?_⟩
  ·cases o<;>cases e<;>exact e4
  ·cases o with
   |nx σ=>cases e;exact .inl ⟨σ,rfl,rfl⟩
   |rt u=>cases e;exact .inr rfl
   |bk σ=>cases e
   |ct σ=>cases e
 ·cases e
theorem qEP(O:w9 K mg G T fa fd){k:Nat}{d:J4}(f0:∀(i:Nat) d a f,T.ds[i]?=some d->fa[i]?=some a->fd[i]?=some f->FnOk P w K mg base _L.CX0 (2*k) a f d.ps (spF G (Fk T.fns k) K i))
  (hS:zt d.N d.ps (_L.defScope d.st)) (CX:_L.CXT) (a:Addr) (cdv:Value) (A:Around) (outer:List Env) (s:Shared) (H:Hp) (E:_L.XK) (E2:Value->Shared->Prop) (hr:Room (2*k+1) (A.deeper (envOfC d.x (_L.defScope d.st) s.heap.objs.size a cdv))):
  Fit (T.gam d) ((_L.cxOf CX P w K mg base d.N d.x (_L.defScope d.st) a cdv A outer s H E).wish E2) G (Fk T.fns k):=by
 have get:∀(g:Nat) x,(T.gam d).fns[g]?=some x->∃d2 a2 f2,T.ds[g]?=some d2/\d2.x=x/\fa[g]?=some a2/\fd[g]?=some f2/\mg x=some (.ref a2)/\PySem.W.keepIn K (.ref a2)=true/\Binds K f2 d2.ps []:=λg x eg=>by
  have eg':(T.ds.map (·.x))[g]?=some x:=eg;rw[wg]at eg';cases hd:T.ds[g]? with
  |none=>rw[hd]at eg';cases eg'
  |some d2=>
   rw[hd]at eg';cases eg';obtain⟨a2,f2,q1,q2,q3,q4,q5,q6⟩:=O.def_ g d2 hd;exact⟨d2,a2,f2,rfl,rfl,q1,q2,q5,q3.kp,q6⟩
 refine⟨rfl,hS.nd,rfl,rfl,λ_ _=>rfl,λg x eg=>?_,O.gls,O.blt,?_,hr.gd,O.gtu⟩
 ·obtain⟨d2,a2,f2,q1,rfl,q2,q3,q4,q5,q6⟩:=get g x eg;exact⟨2*k,a2,f2,d2.ps,f0 g d2 a2 f2 q1 q2 q3,hr.mono (Nat.le_succ _),q4,q5,q6,hr.in1⟩
 ·have:=hr.units;show (A.deeper (envOfC d.x (_L.defScope d.st) s.heap.objs.size a cdv)).units+8<cLine;omega
theorem P4(O:w9 K mg G T fa fd):∀(k:Nat) (i:Nat) d a f,T.ds[i]?=some d->fa[i]?=some a->fd[i]?=some f->FnOk P w K mg base _L.CX0 (2*k) a f d.ps (spF G (Fk T.fns k) K i)
 | 0=>λi d a f h1 h2 h3=>⟨(λvs H Q E h=>by obtain⟨_,_,_,_,_,_,_,e,_⟩:=h;unfold Fk at e;cases e),(λA outer s H args us vs Q E hr e0 hb r h=>by obtain⟨_,_,_,_,_,_,_,e,_⟩:=h;unfold Fk at e;cases e)⟩
 |k+1=>by
  have f0:=P4 O k;refine λi d a f h1 h2 h3=>?_;obtain⟨a',f',e1,e2,hF,hS,hm,hB⟩:=O.def_ i d h1;rw[h2]at e1;cases e1;rw[h3]at e2;cases e2;refine hF.ok hS (λvs H Q E h=>?_) (λcdv A outer s H vs Q E hr h=>?_)
  ·obtain⟨φ,h0,ws,v,h',R,r,e,_⟩:=h;rw[<-Paired.length r];exact(qE0 h1 e).1
  ·obtain⟨φ,h0,ws,v,h',R,r,e,kk⟩:=h;obtain⟨l1,l2,o,eo,ho⟩:=qE0 h1 e;have fit:=qEP O f0 hS _L.CX0 a cdv A outer s H E (λ_ _=>False) hr;refine⟨_,(m5 (G:=G) (F:=Fk T.fns k) 60).2 (T.gam d) (_L.defBody d.st) _ fit (λ_=>rfl) rfl,φ,h0,_,o,h',R,?_,eo,λφ' H' x' R'=>?_⟩
   ·unfold _L.start;rw[<-Paired.length r,l1];exact l9 r _
   ·rcases ho with⟨σ,rfl,rfl⟩|rfl
    ·exact λσc _=>kk φ' H' .non x' R' trivial
    ·exact λu ru=>kk φ' H' u x' R' ru
end
noncomputable def qAZ(K:PySem.W.Frag):_L.Sp:=λvs H Q _=>∃(a:Addr) (ns:List Int),vs=[.ref a]/\_L.Only H/\SqL K H a (ns.map V.int)/\ns.length<=63/\∀H',Q (.bl true) H'
noncomputable def C7(gs:List O)(ns:List Int):AH:=gs++[.lst true (ns.map V.int)]
def O9(K:PySem.W.Frag):List Addr->List O->Prop
 | [],[]=>True
 |a::as,.tup xs::os=>(SqT K (λ_=>none) a xs/\xs.all flat=true)/\O9 K as os
 |_,_=>False
theorem JX{φ:List Addr}:∀{xs:List V},xs.all flat=true->rvs φ xs xs
 | [],_=>.nil
 |x::xs,h=>by
  simp only[List.all_cons,wB]at h;refine .cons ?_ (JX h.2);cases x<;>first|rfl|exact trivial|(cases h.1)
theorem qAI{K:PySem.W.Frag}{H:Hp}{a:Addr}{xs:List V}(q:SqT K (λ_=>none) a xs):SqT K H a xs:=by
 rcases q with(h|⟨o,h⟩)|h
 ·cases h
 ·cases h
 ·exact .inr h
theorem JT{K:PySem.W.Frag}:∀{as:List Addr}{os:List O},O9 K as os->as.length=os.length/\∀(i:Nat) o a,os[i]?=some o->as[i]?=some a->∃xs,o=.tup xs/\SqT K (λ_=>none) a xs/\xs.all flat=true
 | [],[],_=>⟨rfl,λi o a h=>by simp at h⟩
 | [],_::_,h=>False.elim h
 |_::_,[],h=>False.elim h
 |a::as,.lst _ _::os,h=>False.elim h
 |a::as,.tup xs::os,h=>by
  obtain⟨h1,h2⟩:=h;obtain⟨l,k⟩:=JT h2;refine⟨by simp[l],λi o b e1 e2=>?_⟩;cases i with
  |zero=>simp at e1 e2;subst e1 e2;exact⟨xs,rfl,h1⟩
  |succ i=>exact k i o b (by simpa using e1) (by simpa using e2)
theorem V0{P:Program}{w:World}{K:PySem.W.Frag}{mg:Str->Option Value}{base:Heap}{G:List Addr}{gs:List O}{T:Tbl}{fa:List Addr}{fd:List FuncData}(O:w9 K mg G T fa fd)(hG:O9 K G gs){k i:Nat}{d:J4}{a:Addr}{f:FuncData}
  (h1:T.ds[i]?=some d) (h2:fa[i]?=some a) (h3:fd[i]?=some f) (hp:d.ps=(["_law_script"]:List Str)) (main:∀ns:List Int,ns.length<=63->∃h',Fk T.fns k i [.ref gs.length] (C7 gs ns)=.ok (.bl true,h')):
  FnOk P w K mg base _L.CX0 (2*k) a f (["_law_script"]:List Str) (qAZ K):=by
 have F:=P4 (P:=P) (w:=w) (base:=base) O k i d a f h1 h2 h3;rw[hp]at F;refine⟨λvs H Q E h=>by obtain⟨b,ns,rfl,_⟩:=h;rfl,λA outer s H args us vs Q E hr e0 hb r h=>?_⟩;obtain⟨b,ns,rfl,hO,hS,hl,q⟩:=h;obtain⟨h',e⟩:=main ns hl;obtain⟨lg,kg⟩:=JT hG;refine F.run A outer s H args us _ Q E hr e0 hb r ⟨G++[b],C7 gs ns,[.ref gs.length],.bl true,h',⟨by unfold C7;simp[lg],⟨[b],rfl⟩,λj o c e1 e2=>?_,λj l xs ys c e1 e2 e3 e4=>?_⟩,.cons (by show (G++[b])[gs.length]?=some b;rw[<-lg];simp) .nil,e,λφ' H' u x' R' ru=>by rw[jE ru];exact q H'⟩
 ·unfold C7 at e1;by_cases hj:j<gs.length
  ·rw[wD hj]at e1;rw[wD (by omega)]at e2;obtain⟨xs,rfl,h5,h6⟩:=kg j o c e1 e2;exact⟨xs,qAI h5,JX h6⟩
  ·have hj':j=gs.length:=by
    have:=(wC.mp e1).1;simp at this;omega
   subst hj';simp at e1;rw[<-lg]at e2;simp at e2;subst e1 e2;refine⟨ns.map V.int,?_,JX (Ql ns)⟩;rcases hS with(z|⟨ob,z⟩)|z
   ·rcases hO b with y|⟨ob,xs,y⟩<;>(rw[y]at z;cases z)
   ·exact .inl ⟨ob,z⟩
   ·exact .inr (.inr z)
 ·have no:∀{m:Nat}{z:_P.O},z.mu=true->(C7 gs ns)[m]?=some z->False:=λ{m zs} mz em=>by
   unfold C7 at em;by_cases hj:m<gs.length
   ·rw[wD hj]at em;obtain⟨xs,ex,_⟩:=kg m _ (G[m]'(by omega)) em (wE (by omega));subst ex;cases mz
   ·have hj':m=gs.length:=by
     have:=(wC.mp em).1;simp at this;omega
    subst hj';simp at em;subst em;cases mz
  exact(no ‹_› ‹_›).elim
open _L
abbrev qDE(K:PySem.W.Frag)(d:J4):Prop:=∃(f:Addr) (oc:Value) (od an:Option Addr) (sl:Array (Option Value)) (kV dc pm cd ct:Value),PySem.W.nsIn K mainGlobals d.x=some (some (.ref f))/\K.lookup f=some ⟨oc,od,.func (PySem.W.fnOf d.x d.x (jA d.st) (defBody d.st) (defScope d.st) .none kV dc pm an cd ct),sl⟩/\PySem.W.codeIn K cd d.x=true/\PySem.W.keepIn K (.ref f)=true
structure qAq(d:J4):Prop where
 sc:zt d.N d.ps (defScope d.st)
 bd:∀(kV doc pm:Value) (an:Option Addr) (cdv ct:Value) (us:List Value),us.length=d.ps.length->bindArgs (PySem.W.fnOf d.x d.x (jA d.st) (defBody d.st) (defScope d.st) .none kV doc pm an cdv ct) ⟨us,[]⟩=pure (d.ps.zip us)
theorem qBI{K:PySem.W.Frag}{h:Heap}{mg:Str->Option Value}(X:K.In h)(G:h.Ns mainGlobals mg):∀(ds:List J4),(∀d∈ds,qDE K d)->(∀d∈ds,qAq d)->∃(fa:List Addr) (fd:List FuncData),∀(i:Nat) d,ds[i]?=some d->∃a f,fa[i]?=some a/\fd[i]?=some f/\Fun K d.x d.x d.st a f/\zt d.N d.ps (_L.defScope d.st)/\mg d.x=some (.ref a)/\Binds K f d.ps []
 | [],_,_=>⟨[],[],λi d h=>by simp at h⟩
 |d::ds,h,hk=>by
  obtain⟨fa,fd,k⟩:=qBI X G ds (λx hx=>h x (by simp[hx])) λx hx=>hk x (by simp[hx]);obtain⟨f,oc,od,an,sl,kV,dc,pm,cd,ct,h1,h2,h3,h4⟩:=h d (by simp);have hd:=hk d (by simp);refine⟨f::fa,PySem.W.fnOf d.x d.x (jA d.st) (defBody d.st) (defScope d.st) .none kV dc pm an cd ct::fd,λi e he=>?_⟩;cases i with
  |zero=>cases he;exact⟨_,_,rfl,rfl,qBW h2 h3 h4,hd.sc,PySem.W.mg_of X G h1,(qBW h2 h3 h4).binds hd.bd⟩
  |succ i=>exact k i e he
theorem qFm{K:PySem.W.Frag}{d:J4}{a:Addr}{f:FuncData}{x:Str}(F:Fun K d.x d.x d.st a f)(h:qAq d)(hp:d.ps=[x])(s:Shared)(v:Value):BindsTo s f ⟨[v],[]⟩ [(x,v)]:=by
 obtain⟨oc,od,kV,doc,pm,an,cdv,ct,osl,rfl,lk,hcd⟩:=F.ex;refine .of_eq ?_;rw[h.bd kV doc pm an cdv ct [v] (by rw[hp];rfl),hp];rfl
inductive T where
 |v (x:V)|cell (n:Nat)|fz (xs:List T)|lst (xs:List T)|tup (xs:List T)|ob (o:Ob)
noncomputable abbrev Mem:=List (List T)
noncomputable abbrev TS:=List (Option T)
inductive PR(α:Type)|ok(a:α)|exc(c:Nat)(M:Mem)|stuck
noncomputable def PR.bind{α β:Type}:PR α->(α->PR β)->PR β
 | .ok a,f=>f a
 | .exc c M,_=>.exc c M
 | .stuck,_=>.stuck
@[simp] theorem tD{α β:Type}(a:α)(f:α->PR β):(PR.ok a).bind f=f a:=Eq.trans rfl rfl
@[simp] theorem PR.bind_stuck{α β:Type}(f:α->PR β):(PR.stuck:PR α).bind f=.stuck:=Eq.trans rfl rfl
noncomputable def PR.nx{α:Type}:PR α->PR α
 | .ok a=>.ok a
 | .exc _ _=>.stuck
 | .stuck=>.stuck
@[simp] theorem PR.nx_ok{α:Type}(a:α):(PR.ok a).nx=.ok a:=Eq.trans rfl rfl
@[simp] theorem PR.nx_stuck{α:Type}:(PR.stuck:PR α).nx=.stuck:=Eq.trans rfl rfl
noncomputable def tH{α:Type}:Option α->PR α
 |some a=>.ok a
 |none=>.stuck
@[simp] theorem PR.ofO_some{α:Type}(a:α):tH (some a)=.ok a:=Eq.trans rfl rfl
mutual
noncomputable def T.lf:T->Bool
 | .v _=>true
 | .ob (.exn _)=>true
 | .tup ts=>T.lfs ts
 |_=>false
noncomputable def T.lfs:List T->Bool
 | []=>true
 |t::ts=>T.lf t&&T.lfs ts
end
mutual
noncomputable def T.und(n:Nat):T->Bool
 | .v _=>true
 | .ob _=>true
 | .cell k=>decide (k<n)
 | .fz ts=>T.unds n ts
 | .lst ts=>T.unds n ts
 | .tup ts=>T.unds n ts
noncomputable def T.unds(n:Nat):List T->Bool
 | []=>true
 |t::ts=>T.und n t&&T.unds n ts
end
mutual
noncomputable def T.beq:T->T->Bool
 | .v x,.v y=>decide (x=y)
 | .cell x,.cell y=>decide (x=y)
 | .fz x,.fz y=>T.beqs x y
 | .lst x,.lst y=>T.beqs x y
 | .tup x,.tup y=>T.beqs x y
 | .ob x,.ob y=>decide (x=y)
 |_,_=>false
noncomputable def T.beqs:List T->List T->Bool
 | [],[]=>true
 |x::xs,y::ys=>T.beq x y&&T.beqs xs ys
 |_,_=>false
end
noncomputable abbrev Qy:=List (Nat×List T)
noncomputable def ql(d:Qy)(M:Mem):Bool:=d.all λp=>match M[p.1]? with|some ts=>T.beqs ts p.2|none=>false
noncomputable def T.its(M:Mem):T->Option (List T)
 | .lst xs=>some xs | .tup xs=>some xs | .fz xs=>some xs | .cell n=>M[n]? | _=>none
noncomputable def T.lis(M:Mem):T->Option (List T)
 | .lst xs=>some xs | .fz xs=>some xs | .cell n=>M[n]? | _=>none
noncomputable def T.mu(M:Mem):T->Option (List T)
 | .lst xs=>some xs | .cell n=>M[n]? | _=>none
noncomputable def zY:List T->Option (List Int)
 | []=>some []
 | .v (.int i)::r=>(zY r).map (i::·)
 |_::_=>none
noncomputable def QV:List T->Option (List Int)
 | []=>some []
 | .v (.int i)::r=>(QV r).map (i::·)
 | .v (.bl b)::r=>(QV r).map ((if b=true then 1 else 0)::·)
 |_=>none
noncomputable def jD:List T->Option (List Bool)
 | []=>some []
 | .v (.bl i)::r=>(jD r).map (i::·)
 |_::_=>none
noncomputable def jy:List T->Option (List V)
 | []=>some []
 | .v x::r=>(jy r).map (x::·)
 |_::_=>none
noncomputable def jh(f:T->T->Option Bool):List T->List T->Option (List Bool)
 | [],[]=>some []
 |x::xs,y::ys=>match f x y,jh f xs ys with
  |some b,some bs=>some (b::bs)
  |_,_=>none
 |_,_=>none
noncomputable def T.isV:T->Option V | .v x=>some x|_=>none
noncomputable def eqT(M:Mem):Nat->T->T->Option Bool
 | 0,s,t=>match s.isV,t.isV with|some x,some y=>eqF x y|_,_=>none
 |n+1,s,t=>match s.isV,t.isV with
  |some x,some y=>eqF x y
  |some _,none=>if (t.its M).isSome then some false else none
  |none,some _=>if (s.its M).isSome then some false else none
  |none,none=>match s.lis M,t.lis M with
   |some xs,some ys=>if xs.length=ys.length then (jh (eqT M n) xs ys).map λbs=>bs.all id else some false
   |some _,none=>if (t.its M).isSome then some false else none
   |none,some _=>if (s.its M).isSome then some false else none
   |none,none=>match s.its M,t.its M with
    |some xs,some ys=>if xs.length=ys.length then (jh (eqT M n) xs ys).map λbs=>bs.all id else (jh (eqT M n) (xs.take ys.length) (ys.take xs.length)).map λ_=>false
    |_,_=>none
noncomputable def Zz(xs:List T)(lo hi:Option Int):List T:=(xs.drop (_H.sIx xs.length 0 lo)).take (_H.sIx xs.length xs.length hi-_H.sIx xs.length 0 lo)
noncomputable abbrev TB:=T×Bool
noncomputable def iT(i:Int):TB:=(.v (.int i),true)
noncomputable def bT(b:Bool):TB:=(.v (.bl b),true)
noncomputable def lT(xs:List T):TB:=(.lst xs,T.lfs xs)
noncomputable def Z0(x:T)(xs:List T)(lo hi:Option Int):Option TB:=match x with
 | .tup _=>if _H.sIx xs.length 0 lo=0/\_H.sIx xs.length xs.length hi=xs.length then none else some (.tup (Zz xs lo hi),T.lfs (Zz xs lo hi))
 |_=>some (lT (Zz xs lo hi))
noncomputable def zW(M:Mem)(op:BOp)(x y:T):Option TB:=match x.isV,y.isV with
 |some (.int i),some (.int j)=>match op with
  | .add=>some (iT (i+j))
  | .sub=>some (iT (i-j))
  | .mul=>if small i||small j||(mid i&&mid j) then some (iT (i*j)) else none
  | .fdiv=>if 0<j/\(j<1073741824\/mid j=true) then some (iT (i / j)) else if j<0/\mid j=true then some (iT (i.fdiv j)) else none
  | .mod=>if 0<j then some (iT (i % j)) else if j<0 then some (iT (i.fmod j)) else none
  | .pow=>if 0<=j/\j<=1000/\i.natAbs<18446744073709551616 then some (iT (i ^ j.toNat)) else none
  | .band=>some (iT (PySem.Builtin.bitAnd i j))
  | .shr=>if 0<=j/\j<=1000 then some (iT (i / 2 ^ j.toNat)) else none
  | .bxor=>some (iT (PySem.Builtin.bitXor i j))
 |none,some (.int k)=>match op with
  | .mul=>(x.mu M).bind λxs=>if 0<=k/\xs.length*k.toNat<=lim/\k<1000000 then some (lT (List.replicate k.toNat xs).flatten) else none
  |_=>none
 |none,none=>match op with
  | .add=>(match x,y with
   | .tup xs,.tup ys=>if xs≠[]/\xs.length+ys.length<=lim then some (.tup (xs++ys),T.lfs (xs++ys)) else none
   |x,y=>(x.mu M).bind λxs=>(y.mu M).bind λys=>if xs.length+ys.length<=lim then some (lT (xs++ys)) else none)
  |_=>none
 |_,_=>none
noncomputable def T.dct:T->Option (List (Int×V))
 | .ob (.dct kvs)=>some kvs
 |_=>none
noncomputable def inT(M:Mem)(x y:T):Option Bool:=match y.dct with
 |some kvs=>(match x with | .v (.int i)=>some (qC0 kvs i)|_=>none)
 |none=>x.isV.bind λa=>(y.its M).bind λts=>(jy ts).map λxs=>xs.any λz=>_L.eqV z a
noncomputable def qk(M:Mem)(op:COp)(x y:T):Option Bool:=match op with
 | .eq=>eqT M 4 x y
 | .ne=>(eqT M 4 x y).map (!·)
 | .inn=>inT M x y
 | .notin=>(inT M x y).map (!·)
 | .is=>match y.isV with|some .non=>some (match x.isV with|some .non=>true|_=>false)|some (.bl d)=>(match x.isV with|some (.bl c)=>some (c==d)|_=>none)|_=>none
 | .isnot=>match y.isV with|some .non=>some (match x.isV with|some .non=>false|_=>true)|some (.bl d)=>(match x.isV with|some (.bl c)=>some (!(c==d))|_=>none)|_=>none
 | .lt=>match x.isV,y.isV with|some (.int i),some (.int j)=>some (decide (i<j))|_,_=>none
 | .le=>match x.isV,y.isV with|some (.int i),some (.int j)=>some (decide (i<=j))|_,_=>none
 | .gt=>match x.isV,y.isV with|some (.int i),some (.int j)=>some (decide (j<i))|_,_=>none
 | .ge=>match x.isV,y.isV with|some (.int i),some (.int j)=>some (decide (j<=i))|_,_=>none
noncomputable def U6(as:List T)(f:T->Option TB):Option TB:=match as with
 | [a]=>f a
 |_=>none
theorem zw{as:List T}{f:T->Option TB}{r:TB}(e:U6 as f=some r):∃a,as=[a]/\f a=some r:=by
 unfold U6 at e;split at e
 ·exact⟨_,rfl,e⟩
 ·cases e
noncomputable def twoT(as:List T)(f:Int->Int->Option TB):Option TB:=match as with
 | [a,b]=>(match a with
  | .v (.int i)=>(match b with | .v (.int j)=>f i j|_=>none)
  |_=>none)
 |_=>none
theorem twoT_inv{as:List T}{f:Int->Int->Option TB}{r:TB}(e:twoT as f=some r):∃i j,as=[.v (.int i),.v (.int j)]/\f i j=some r:=by
 unfold twoT at e;split at e
 ·split at e
  ·split at e
   ·exact⟨_,_,rfl,e⟩
   ·cases e
  ·cases e
 ·cases e
noncomputable def jS(M:Mem):BF->List T->Option TB
 | .len,as=>U6 as λa=>(a.its M).map λxs=>iT xs.length
 | .sum,as=>U6 as λa=>(a.lis M).bind λxs=>(QV xs).map λis=>iT is.sum
 | .all,as=>U6 as λa=>(a.lis M).bind λxs=>(jD xs).map λbs=>bT (bs.all id)
 | .any,as=>U6 as λa=>(a.lis M).bind λxs=>(jD xs).map λbs=>bT (bs.any id)
 | .max,as=>twoT as λi j=>some (iT (if j>i then j else i))
 | .min,as=>twoT as λi j=>some (iT (if j<i then j else i))
 | .abs,as=>U6 as λa=>(match a with | .v (.int i)=>some (iT (if i<0 then -i else i))|_=>none)
 | .list,as=>U6 as λa=>(a.its M).map lT
 | .int,as=>U6 as λa=>(match a with | .v (.int i)=>some (iT i) | .v (.bl b)=>some (iT (if b then 1 else 0))|_=>none)
 | .maxl,as=>U6 as λa=>(a.lis M).bind λxs=>(zY xs).bind λis=>(qB1 is).map iT
 | .bits,as=>U6 as λa=>(match a with | .v (.int i)=>some (iT ((PySem.Builtin.Int.intBits i:Nat):Int))|_=>none)
 | .sorted,as=>U6 as λa=>(a.lis M).bind λxs=>(zY xs).bind λis=>if is.length<64 then some (.lst ((Zt is).map λi=>.v (.int i)),true) else none
noncomputable def T.isC(n:Nat):T->Bool | .cell k=>decide (k=n)|_=>false
noncomputable def F7:Mt->Nat->List T->Mem->Option (TB×Mem)
 | .cnt,n,[.v y],M=>(M[n]?).bind λxs=>(jy xs).map λvs=>(iT (vs.countP λz=>_L.eqV z y:Nat),M)
 |_,_,_,_=>none
noncomputable def jQ(M:Mem):T->Option String
 | .v .non=>some "NoneType"
 | .v (.bl _)=>some "bool"
 | .v (.int _)=>some "int"
 | .v (.str _)=>some "str"
 | .v _=>none
 | .tup _=>some "tuple"
 | .cell n=>(M[n]?).map λ_=>"list"
 | .ob (.dct _)=>some "dict"
 | .ob _=>none
 |_=>some "list"
noncomputable def T.tx:T->Option PySem.Str
 | .v (.str y)=>some y
 |_=>none
noncomputable def QX(M:Mem)(x y:T):Option TB:=match y with
 | .v (.int i)=>(x.its M).bind λxs=>(ixN xs.length i).bind λj=>(xs[j]?).map λt=>(t,t.lf)
 |_=>none
noncomputable def qD8:List Nat->List T->TS->Option TS
 | [],[],σ=>some σ
 |i::is,x::xs,σ=>qD8 is xs (σ.set i (some x))
 |_,_,_=>none
noncomputable def jR:Tg->T->TS->Option TS
 | .name i,t,σ=>some (σ.set i (some t))
 | .tup is,.tup ts,σ=>qD8 is ts σ
 | .tup _,_,_=>none
noncomputable def jl(src:List (Option Nat))(σ:TS):TS:=src.map λo=>match o with|none=>none|some j=>(σ[j]?).join
noncomputable def zf(lo:Int)(n:Nat):List T:=(List.range n).map λ(i:Nat)=>.v (.int (lo+(i:Int)))
noncomputable def jp(lo:Int)(n:Nat):List T:=(List.range n).map λ(i:Nat)=>.v (.int (lo-(i:Int)))
noncomputable def A8(M:Mem):T->Option (List T×Qy)
 | .lst ts=>some (ts,[])
 | .fz ts=>some (ts,[])
 | .tup ts=>some (ts,[])
 | .cell n=>(M[n]?).map λts=>(ts,[(n,ts)])
 |_=>none
noncomputable def Jp(M:Mem):T->Option (List T×Qy)
 | .lst ts=>some (ts,[])
 | .fz ts=>some (ts,[])
 | .cell n=>(M[n]?).map λts=>(ts,[(n,ts)])
 |_=>none
noncomputable def QY:Nat->List T->List T
 |_,[]=>[]
 |i,t::ts=>.tup [.v (.int (i:Int)),t]::QY (i+1) ts
noncomputable def qm(d:Qy)(g:Tg)(c:TS->Mem->PR (Bool×Mem))(e:TS->Mem->PR (TB×Mem)):List T->List T->Bool->TS->Mem->PR (TB×Mem)
 | [],ys,f,_,M=>.ok ((.lst ys,f),M)
 |x::r,ys,f,σ,M=>match jR g x σ with
  |some σ1=>(c σ1 M).bind λ(b,M2)=>
   if b then (e σ1 M2).bind λ(y,M3)=>if ys.length<lim/\ql d M3=true then qm d g c e r (ys++[y.1]) (f&&y.2) σ1 M3 else .stuck
   else if ql d M2=true then qm d g c e r ys f σ1 M2 else .stuck
  |none=>.stuck
noncomputable def pB(r:PR (TB×Mem)):PR (Bool×Mem):=r.bind λ(x,M)=>match x.1 with | .v (.bl b)=>.ok (b,M)|_=>.stuck
section
variable (gl:List T)(P:Nat->List T->Mem->PR (TB×Mem))
mutual
noncomputable def pe:E->TS->Mem->PR (TB×Mem)
 | .var i=>λσ M=>match σ[i]? with|some (some t)=>.ok ((t,t.lf),M)|_=>.stuck
 | .cst v=>λ_ M=>if flat v then .ok ((.v v,true),M) else .stuck
 | .glob g=>λ_ M=>match gl[g]? with|some t=>.ok ((t,t.lf),M)|none=>.stuck
 | .bin op a b=>λσ M=>(pe a σ M).bind λ(x,M1)=>(pe b σ M1).bind λ(y,M2)=>(tH (zW M2 op x.1 y.1)).bind λr=>.ok (r,M2)
 | .neg a=>λσ M=>(pe a σ M).bind λ(x,M1)=>match x.1 with | .v (.int i)=>.ok (iT (-i),M1)|_=>.stuck
 | .cmp op a b=>λσ M=>(pe a σ M).bind λ(x,M1)=>(pe b σ M1).bind λ(y,M2)=>(tH (qk M2 op x.1 y.1)).bind λr=>.ok (bT r,M2)
 | .cmp2 o1 o2 a b c=>λσ M=>(pe a σ M).bind λ(x,M1)=>(pe b σ M1).bind λ(y,M2)=>(tH (qk M2 o1 x.1 y.1)).bind λr=>
  if r then (pe c σ M2).bind λ(z,M3)=>(tH (qk M3 o2 y.1 z.1)).bind λr=>.ok (bT r,M3) else .ok (bT false,M2)
 | .cmp3 o1 o2 o3 a b c d=>λσ M=>(pe a σ M).bind λ(x,M1)=>(pe b σ M1).bind λ(y,M2)=>(tH (qk M2 o1 x.1 y.1)).bind λr=>
  if r then (pe c σ M2).bind λ(z,M3)=>(tH (qk M3 o2 y.1 z.1)).bind λr=>(if r then (pe d σ M3).bind λ(w,M4)=>(tH (qk M4 o3 z.1 w.1)).bind λr=>.ok (bT r,M4) else .ok (bT false,M3)) else .ok (bT false,M2)
 | .and a b=>λσ M=>(pB (pe a σ M)).bind λ(x,M1)=>if x then pe b σ M1 else .ok (bT false,M1)
 | .or a b=>λσ M=>(pB (pe a σ M)).bind λ(x,M1)=>if x then .ok (bT true,M1) else pe b σ M1
 | .not a=>λσ M=>(pB (pe a σ M)).bind λ(x,M1)=>.ok (bT (!x),M1)
 | .call f as=>λσ M=>(pes as σ M).bind λ(xs,M1)=>(P f (xs.map (·.1)) M1).nx
 | .blt f as=>λσ M=>(pes as σ M).bind λ(xs,M1)=>(tH (jS M1 f (xs.map (·.1)))).bind λr=>.ok (r,M1)
 | .isi a ts=>λσ M=>(pe a σ M).bind λ(x,M1)=>(tH (jQ M1 x.1)).bind λt=>.ok (bT (ts.any (QS t)),M1)
 | .idx a b=>λσ M=>(pe a σ M).bind λ(x,M1)=>(pe b σ M1).bind λ(y,M2)=>(tH (QX M2 x.1 y.1)).bind λr=>.ok (r,M2)
 | .rev a=>λσ M=>(pe a σ M).bind λ(x,M1)=>(tH (x.1.lis M1)).bind λxs=>.ok (lT xs.reverse,M1)
 | .sl a lo hi=>λσ M=>(pe a σ M).bind λ(x,M1)=>(pes lo σ M1).bind λ(l,M2)=>(pes hi σ M2).bind λ(u,M3)=>
  (tH (x.1.its M3)).bind λxs=>(tH (zY (l.map (·.1)))).bind λl=>(tH (zY (u.map (·.1)))).bind λu=>(tH (Z0 x.1 xs l.head? u.head?)).bind λr=>.ok (r,M3)
 | .lst as=>λσ M=>(pes as σ M).bind λ(xs,M1)=>if xs.length<=lim then .ok ((.lst (xs.map (·.1)),xs.all (·.2)),M1) else .stuck
 | .tup as=>λσ M=>(pes as σ M).bind λ(xs,M1)=>if xs.length<=lim then .ok ((.tup (xs.map (·.1)),xs.all (·.2)),M1) else .stuck
 | .comp it src g c e=>λσ M=>(pei it σ M).bind λ(s,M1)=>qm s.2 g (pec c) (pe e) s.1 [] true (jl src σ) M1
 | .app a b=>λσ M=>(pe a σ M).bind λ(x,M1)=>match x.1 with
  | .cell n=>(pe b σ M1).bind λ(y,M2)=>match M2[n]? with
   |some xs=>if xs.length<lim then .ok ((.v .non,true),M2.set n (xs++[y.1])) else .stuck
   |none=>.stuck
  |_=>.stuck
 | .lrng a=>λσ M=>(pe a σ M).bind λ(x,M1)=>match x.1 with | .v (.int j)=>if -1000000<=j/\j<=100000 then .ok ((.lst (zf 0 j.toNat),true),M1) else .stuck|_=>.stuck
 | .dnew=>λ_ M=>.ok ((.ob (.dct []),true),M)
 | .meth m a as=>λσ M=>(pe a σ M).bind λ(x,M1)=>match x.1 with
  | .cell n=>(pes as σ M1).bind λ(ys,M2)=>tH (F7 m n (ys.map (·.1)) M2)
  |_=>.stuck
noncomputable def pes:Es->TS->Mem->PR (List TB×Mem)
 | .nil=>λ_ M=>.ok ([],M)
 | .cons a as=>λσ M=>(pe a σ M).bind λ(x,M1)=>(pes as σ M1).bind λ(xs,M2)=>.ok (x::xs,M2)
noncomputable def pec:Es->TS->Mem->PR (Bool×Mem)
 | .nil=>λ_ M=>.ok (true,M)
 | .cons a _=>λσ M=>pB (pe a σ M)
noncomputable def pei:Itr->TS->Mem->PR ((List T×Qy)×Mem)
 | .list a=>λσ M=>(pe a σ M).bind λ(x,M1)=>(tH (A8 M1 x.1)).bind λs=>.ok (s,M1)
 | .rng1 a=>λσ M=>(pe a σ M).bind λ(x,M1)=>match x.1 with | .v (.int j)=>if -1000000<=j/\j<=1000000 then .ok ((zf 0 j.toNat,[]),M1) else .stuck|_=>.stuck
 | .rng2 a b=>λσ M=>(pe a σ M).bind λ(x,M1)=>(pe b σ M1).bind λ(y,M2)=>match x.1,y.1 with
  | .v (.int i),.v (.int j)=>if (-1000000<=i/\i<=1000000)/\-1000000<=j/\j<=1000000 then .ok ((zf i (j-i).toNat,[]),M2) else .stuck
  |_,_=>.stuck
 | .zip a b=>λσ M=>(pe a σ M).bind λ(x,M1)=>(pe b σ M1).bind λ(y,M2)=>(tH (Jp M2 x.1)).bind λs=>(tH (Jp M2 y.1)).bind λt=>
  .ok ((List.zipWith (λa b=>T.tup [a,b]) s.1 t.1,s.2++t.2),M2)
 | .enum a=>λσ M=>(pe a σ M).bind λ(x,M1)=>(tH (Jp M1 x.1)).bind λs=>.ok ((QY 0 s.1,s.2),M1)
 | .rng3 a b=>λσ M=>(pe a σ M).bind λ(x,M1)=>(pe b σ M1).bind λ(y,M2)=>match x.1,y.1 with
  | .v (.int i),.v (.int j)=>if (-1000000<=i/\i<=1000000)/\-1000000<=j/\j<=1000000 then .ok ((jp i (i-j).toNat,[]),M2) else .stuck
  |_,_=>.stuck
end
inductive PO|nx(σ:TS)|rt(t:TB)|bk(σ:TS)|ct(σ:TS)
noncomputable abbrev RSt:=PR (PO×Mem)
noncomputable def zg(d:Qy)(g:Tg)(b:TS->Mem->RSt):List T->TS->Mem->RSt
 | [],σ,M=>.ok (.nx σ,M)
 |x::r,σ,M=>match jR g x σ with
  |some σ1=>(b σ1 M).bind λ(o,M2)=>match o with
   | .nx σ2=>if ql d M2=true then zg d g b r σ2 M2 else .stuck
   | .ct σ2=>if ql d M2=true then zg d g b r σ2 M2 else .stuck
   | .bk σ2=>.ok (.nx σ2,M2)
   | .rt t=>.ok (.rt t,M2)
  |none=>.stuck
noncomputable def ze(c:TS->Mem->PR (Bool×Mem))(b:TS->Mem->RSt):Nat->TS->Mem->RSt
 | 0,_,_=>.stuck
 |n+1,σ,M=>(c σ M).bind λ(t,M1)=>if t then (b σ M1).bind λ(o,M2)=>match o with
   | .nx σ2=>ze c b n σ2 M2
   | .ct σ2=>ze c b n σ2 M2
   | .bk σ2=>.ok (.nx σ2,M2)
   | .rt t=>.ok (.rt t,M2)
  else .ok (.nx σ,M1)
mutual
noncomputable def thaw(n:Nat):T->T×Mem
 | .lst ts=>let r:=Qx n ts;(.cell (n+r.2.length),r.2++[r.1])
 | .tup ts=>let r:=Qx n ts;(.tup r.1,r.2)
 |t=>(t,[])
noncomputable def Qx(n:Nat):List T->List T×Mem
 | []=>([],[])
 |t::ts=>let r:=thaw n t;let q:=Qx (n+r.2.length) ts;(r.1::q.1,r.2++q.2)
end
noncomputable def qC6:E->Bool
 | .bin .add _ _=>true
 | .lst _=>true
 |_=>false
variable (C:List Nat)
mutual
noncomputable def px:S->TS->Mem->RSt
 | .asg g e=>λσ M=>(pe gl P e σ M).bind λ(x,M1)=>match g with
  | .name i=>if C.contains i&&x.2 then .ok (.nx (σ.set i (some (thaw M1.length x.1).1)),M1++(thaw M1.length x.1).2) else if C.contains (i+1000)&&qC6 e then (match x.1 with | .lst ts=>.ok (.nx (σ.set i (some (.cell M1.length))),M1++[ts])|_=>.stuck) else .ok (.nx (σ.set i (some x.1)),M1)
  |g=>match jR g x.1 σ with|some σ1=>.ok (.nx σ1,M1)|none=>.stuck
 | .put o i v=>λσ M=>(pe gl P v σ M).bind λ(x,M1)=>(pe gl P o σ M1).bind λ(p,M2)=>(pe gl P i σ M2).bind λ(k,M3)=>match p.1,k.1 with
  | .cell n,.v (.int k)=>match M3[n]? with
   |some xs=>match ixN xs.length k with|some j=>.ok (.nx σ,M3.set n (xs.set j x.1))|none=>.stuck
   |none=>.stuck
  |_,_=>.stuck
 | .expr e=>λσ M=>(pe gl P e σ M).bind λ(_,M1)=>.ok (.nx σ,M1)
 | .ret e=>λσ M=>(pe gl P e σ M).bind λ(x,M1)=>.ok (.rt x,M1)
 | .ifs c t u=>λσ M=>(pB (pe gl P c σ M)).bind λ(x,M1)=>if x then pxs t σ M1 else pxs u σ M1
 | .for_ g it b=>λσ M=>(pei gl P it σ M).bind λ(s,M1)=>zg s.2 g (pxs b) s.1 σ M1
 | .while_ c b=>λσ M=>ze (λσ M=>pB (pe gl P c σ M)) (pxs b) qAd σ M
 | .stop=>λ_ _=>.stuck
noncomputable def pxs:Ss->TS->Mem->RSt
 | .nil=>λσ M=>.ok (.nx σ,M)
 | .cons s r=>λσ M=>(px s σ M).bind λ(o,M1)=>match o with
  | .nx σ1=>pxs r σ1 M1
  |o=>.ok (o,M1)
end
end
noncomputable def qH(M:Mem)(n0:Nat):Nat->T->Option T
 | 0,t=>if t.und n0 then some t else none
 |d+1,t=>if t.und n0 then some t else match t with
  | .lst ts=>(ts.mapM (qH M n0 d)).map .lst
  | .tup ts=>(ts.mapM (qH M n0 d)).map .tup
  | .cell n=>(M[n]?).bind λts=>(ts.mapM (qH M n0 d)).map .lst
  |_=>none
noncomputable def jO(M:Mem)(n0:Nat):Nat->T->Option (List Nat)
 | 0,t=>if t.lf then some [] else none
 |d+1,t=>if t.lf then some [] else match t with
  | .tup ts=>(ts.mapM (jO M n0 d)).map List.flatten
  | .cell n=>if n0<=n then (M[n]?).bind λts=>(ts.mapM (jO M n0 d)).map λl=>l.flatten++[n] else none
  |_=>none
noncomputable def frR(M:Mem)(n0:Nat)(t:T):Bool:=match jO M n0 6 t with|some l=>decide l.Nodup|none=>false
noncomputable def finish(n0:Nat)(x:TB)(M:Mem):PR (TB×Mem):=
 if M.length=n0 then .ok (x,M) else if (M.take n0).all (T.unds n0) then (tH (qH M n0 6 x.1)).bind λt=>.ok ((t,x.2||frR M n0 x.1),M.take n0) else .stuck
noncomputable def JA(n0:Nat):RSt->PR (TB×Mem)
 | .ok (.nx _,M1)=>finish n0 (.v .non,true) M1
 | .ok (.rt t,M1)=>finish n0 t M1
 | .ok (_,_)=>.stuck
 | .exc c M1=>if M1.length=n0 then .exc c M1 else if (M1.take n0).all (T.unds n0) then .exc c (M1.take n0) else .stuck
 | .stuck=>.stuck
noncomputable def Pk(gl:List T)(tb:List Fn)(Cs:List (List Nat)):Nat->Nat->List T->Mem->PR (TB×Mem)
 | 0,_,_,_=>.stuck
 |k+1,f,vs,M=>match tb[f]? with
  |some d=>if vs.length=d.npar/\d.npar<=d.nslot then JA M.length (pxs gl (Pk gl tb Cs k) (Cs.getD f []) d.body (vs.map some++List.replicate (d.nslot-d.npar) none) M)
   else .stuck
  |none=>.stuck
def Qo{α β:Type}(R:α->β->Prop):List α->List β->Prop
 | [],vs=>vs=[]
 |t::ts,vs=>∃v vs',vs=v::vs'/\R t v/\Qo R ts vs'
section
variable{α β:Type}{R:α->β->Prop}
theorem qD:∀{xs:List α}{ys:List β},Qo R xs ys->xs.length=ys.length
 | [],_,h=>by cases h;rfl
 |x::xs,_,⟨v,vs,rfl,_,h⟩=>by simp[qD h]
theorem jC:∀{xs:List α}{ys:List β}{i:Nat}{x:α},Qo R xs ys->xs[i]?=some x->∃y,ys[i]?=some y/\R x y
 | [],_,i,x,h,e=>by simp at e
 |x::xs,_,0,x',⟨v,vs,rfl,r,h⟩,e=>⟨v,rfl,by simp at e;subst e;exact r⟩
 |x::xs,_,i+1,x',⟨v,vs,rfl,r,h⟩,e=>by
  obtain⟨y,e1,r1⟩:=jC (i:=i) h (by simpa using e);exact⟨y,by simpa using e1,r1⟩
theorem jM:∀{xs:List α}{ys:List β}{xs':List α}{ys':List β},Qo R xs ys->Qo R xs' ys'->Qo R (xs++xs') (ys++ys')
 | [],_,_,_,h,k=>by cases h;exact k
 |x::xs,_,_,_,⟨v,vs,rfl,r,h⟩,k=>⟨v,vs++_,rfl,r,jM h k⟩
theorem Qm:∀(n:Nat){xs:List α}{ys:List β},Qo R xs ys->Qo R (xs.take n) (ys.take n)
 | 0,_,_,_=>by simp[Qo]
 |n+1,[],_,h=>by cases h;simp[Qo]
 |n+1,x::xs,_,⟨v,vs,rfl,r,h⟩=>⟨v,vs.take n,rfl,r,Qm n h⟩
theorem B0:∀(n:Nat){xs:List α}{ys:List β},Qo R xs ys->Qo R (xs.drop n) (ys.drop n)
 | 0,_,_,h=>h
 |n+1,[],_,h=>by cases h;simp[Qo]
 |n+1,x::xs,_,⟨v,vs,rfl,r,h⟩=>B0 n h
theorem QD:∀{xs:List α}{ys:List β}(j:Nat){x:α}{y:β},Qo R xs ys->R x y->Qo R (xs.set j x) (ys.set j y)
 | [],_,j,_,_,h,r=>by cases h;simp[Qo]
 |x::xs,_,0,_,_,⟨v,vs,rfl,r0,h⟩,r=>⟨_,vs,rfl,r,h⟩
 |x::xs,_,j+1,_,_,⟨v,vs,rfl,r0,h⟩,r=>⟨v,vs.set j _,rfl,r0,QD j h r⟩
theorem qAV(n:Nat){xs:List α}{ys:List β}(h:Qo R xs ys):Qo R (List.replicate n xs).flatten (List.replicate n ys).flatten:=by
 induction n with
 |zero=>simp[Qo]
 |succ n ih=>simp only[List.replicate_succ,List.flatten_cons];exact jM h ih
theorem D0{S:α->β->Prop}(f:∀x y,R x y->S x y):∀{xs:List α}{ys:List β},Qo R xs ys->Qo S xs ys
 | [],_,h=>h
 |x::xs,_,⟨v,vs,rfl,r,h⟩=>⟨v,vs,rfl,f _ _ r,D0 f h⟩
end
mutual
def Rep(A X:List Nat)(h:AH):T->V->Prop
 | .v x,w=>w=x/\flat x=true
 | .cell n,w=>∃a:Nat,A[n]?=some a/\w=.ref a
 | .fz ts,w=>∃a vs,w=.ref a/\a∉X/\h[a]?=some (.lst true vs)/\qa A X h ts vs
 | .lst ts,w=>∃a vs,w=.ref a/\a∉X/\h[a]?=some (.lst false vs)/\qa A X h ts vs
 | .tup ts,w=>∃a vs,w=.ref a/\a∉X/\h[a]?=some (.tup vs)/\qa A X h ts vs
 | .ob o,w=>∃a,w=.ref a/\a∉X/\h[a]?=some (.ob o)
def qa(A X:List Nat)(h:AH):List T->List V->Prop
 | [],vs=>vs=[]
 |t::ts,vs=>∃v vs',vs=v::vs'/\Rep A X h t v/\qa A X h ts vs'
end
theorem reps_iff{A X:List Nat}{h:AH}:∀{ts:List T}{vs:List V},qa A X h ts vs↔Qo (Rep A X h) ts vs
 | [],vs=>by unfold qa Qo;rfl
 |t::ts,vs=>by
  unfold qa Qo;constructor
  ·rintro⟨v,vs',e,r,k⟩;exact⟨v,vs',e,r,reps_iff.mp k⟩
  ·rintro⟨v,vs',e,r,k⟩;exact⟨v,vs',e,r,reps_iff.mpr k⟩
mutual
def FP(X:List Nat)(h:AH):T->V->List Nat->Prop
 | .v x,w,fp=>(w=x/\flat x=true)/\fp=[]
 | .lst ts,w,fp=>∃a vs f,w=.ref a/\a∉X/\h[a]?=some (.lst false vs)/\FPs X h ts vs f/\fp=f++[a]
 | .tup ts,w,fp=>∃a vs,w=.ref a/\a∉X/\h[a]?=some (.tup vs)/\FPs X h ts vs fp
 | .ob o,w,fp=>(∃a,w=.ref a/\a∉X/\h[a]?=some (.ob o))/\fp=[]
 | .fz _,_,_=>False
 | .cell _,_,_=>False
def FPs(X:List Nat)(h:AH):List T->List V->List Nat->Prop
 | [],vs,fp=>vs=[]/\fp=[]
 |t::ts,vs,fp=>∃v vs' f1 f2,vs=v::vs'/\FP X h t v f1/\FPs X h ts vs' f2/\fp=f1++f2
end
mutual
theorem jI{A X A' X':List Nat}{h h':AH}(hc:∀(n:Nat) a,A[n]?=some a->A'[n]?=some a)(hn:∀a o,a∉X->h[a]?=some o->a∉X'/\h'[a]?=some o):∀(t:T){w:V},Rep A X h t w->Rep A' X' h' t w
 | .v x,w,r=>by unfold Rep at r ⊢;exact r
 | .cell n,w,r=>by unfold Rep at r ⊢;obtain⟨a,e,q⟩:=r;exact⟨a,hc _ _ e,q⟩
 | .fz ts,w,r=>by unfold Rep at r ⊢;obtain⟨a,vs,e,q1,q2,q3⟩:=r;exact⟨a,vs,e,(hn _ _ q1 q2).1,(hn _ _ q1 q2).2,qc hc hn ts q3⟩
 | .lst ts,w,r=>by unfold Rep at r ⊢;obtain⟨a,vs,e,q1,q2,q3⟩:=r;exact⟨a,vs,e,(hn _ _ q1 q2).1,(hn _ _ q1 q2).2,qc hc hn ts q3⟩
 | .tup ts,w,r=>by unfold Rep at r ⊢;obtain⟨a,vs,e,q1,q2,q3⟩:=r;exact⟨a,vs,e,(hn _ _ q1 q2).1,(hn _ _ q1 q2).2,qc hc hn ts q3⟩
 | .ob o,w,r=>by unfold Rep at r ⊢;obtain⟨a,e,q1,q2⟩:=r;exact⟨a,e,(hn _ _ q1 q2).1,(hn _ _ q1 q2).2⟩
theorem qc{A X A' X':List Nat}{h h':AH}(hc:∀(n:Nat) a,A[n]?=some a->A'[n]?=some a)(hn:∀a o,a∉X->h[a]?=some o->a∉X'/\h'[a]?=some o):∀(ts:List T){ws:List V},qa A X h ts ws->qa A' X' h' ts ws
 | [],w,r=>by unfold qa at r ⊢;exact r
 |t::ts,w,r=>by unfold qa at r ⊢;obtain⟨v,vs,e,q1,q2⟩:=r;exact⟨v,vs,e,jI hc hn t q1,qc hc hn ts q2⟩
end
mutual
theorem JG{X X':List Nat}{h h':AH}(hn:∀a o,a∉X->h[a]?=some o->a∉X'/\h'[a]?=some o):∀(t:T){w:V}{fp:List Nat},FP X h t w fp->FP X' h' t w fp
 | .v x,w,_,r=>by unfold FP at r ⊢;exact r
 | .cell n,w,_,r=>by unfold FP at r;exact r.elim
 | .fz ts,w,_,r=>by unfold FP at r;exact r.elim
 | .lst ts,w,_,r=>by unfold FP at r ⊢;obtain⟨a,vs,f,e,q1,q2,q3,q4⟩:=r;exact⟨a,vs,f,e,(hn _ _ q1 q2).1,(hn _ _ q1 q2).2,je hn ts q3,q4⟩
 | .tup ts,w,_,r=>by unfold FP at r ⊢;obtain⟨a,vs,e,q1,q2,q3⟩:=r;exact⟨a,vs,e,(hn _ _ q1 q2).1,(hn _ _ q1 q2).2,je hn ts q3⟩
 | .ob o,w,_,r=>by unfold FP at r ⊢;obtain⟨⟨a,e,q1,q2⟩,q3⟩:=r;exact⟨⟨a,e,(hn _ _ q1 q2).1,(hn _ _ q1 q2).2⟩,q3⟩
theorem je{X X':List Nat}{h h':AH}(hn:∀a o,a∉X->h[a]?=some o->a∉X'/\h'[a]?=some o):∀(ts:List T){ws:List V}{fp:List Nat},FPs X h ts ws fp->FPs X' h' ts ws fp
 | [],w,_,r=>by unfold FPs at r ⊢;exact r
 |t::ts,w,_,r=>by unfold FPs at r ⊢;obtain⟨v,vs,f1,f2,e,q1,q2,q3⟩:=r;exact⟨v,vs,f1,f2,e,JG hn t q1,je hn ts q2,q3⟩
end
mutual
theorem qEC{A X:List Nat}{h:AH}:∀(t:T){w:V}{fp:List Nat},FP X h t w fp->Rep A X h t w
 | .v x,w,_,r=>by unfold FP at r;unfold Rep;exact r.1
 | .cell n,w,_,r=>by unfold FP at r;exact r.elim
 | .fz ts,w,_,r=>by unfold FP at r;exact r.elim
 | .lst ts,w,_,r=>by unfold FP at r;unfold Rep;obtain⟨a,vs,f,e,q1,q2,q3,q4⟩:=r;exact⟨a,vs,e,q1,q2,G3 ts q3⟩
 | .tup ts,w,_,r=>by unfold FP at r;unfold Rep;obtain⟨a,vs,e,q1,q2,q3⟩:=r;exact⟨a,vs,e,q1,q2,G3 ts q3⟩
 | .ob o,w,_,r=>by unfold FP at r;unfold Rep;exact r.1
theorem G3{A X:List Nat}{h:AH}:∀(ts:List T){ws:List V}{fp:List Nat},FPs X h ts ws fp->qa A X h ts ws
 | [],w,_,r=>by unfold FPs at r;unfold qa;exact r.1
 |t::ts,w,_,r=>by unfold FPs at r;unfold qa;obtain⟨v,vs,f1,f2,e,q1,q2,q3⟩:=r;exact⟨v,vs,e,qEC t q1,G3 ts q2⟩
end
mutual
theorem qBR{X:List Nat}{h:AH}(n:Nat):∀(t:T){w:V}{fp:List Nat},FP X h t w fp->t.und n=true
 | .v x,w,_,r=>rfl
 | .cell n,w,_,r=>by unfold FP at r;exact r.elim
 | .fz ts,w,_,r=>by unfold FP at r;exact r.elim
 | .lst ts,w,_,r=>by unfold FP at r;obtain⟨a,vs,f,e,q1,q2,q3,q4⟩:=r;exact F8 n ts q3
 | .tup ts,w,_,r=>by unfold FP at r;obtain⟨a,vs,e,q1,q2,q3⟩:=r;exact F8 n ts q3
 | .ob o,w,_,r=>rfl
theorem F8{X:List Nat}{h:AH}(n:Nat):∀(ts:List T){ws:List V}{fp:List Nat},FPs X h ts ws fp->T.unds n ts=true
 | [],w,_,r=>rfl
 |t::ts,w,_,r=>by unfold FPs at r;obtain⟨v,vs,f1,f2,e,q1,q2,q3⟩:=r;unfold T.unds;rw[qBR n t q1,F8 n ts q2];rfl
end
mutual
theorem L7{X:List Nat}{h:AH}:∀(t:T){w:V}{fp:List Nat},FP X h t w fp->∀a∈fp,a∉X/\∃vs,h[a]?=some (.lst false vs)
 | .v x,w,_,r=>by unfold FP at r;obtain⟨_,rfl⟩:=r;intro a ha;simp at ha
 | .cell n,w,_,r=>by unfold FP at r;exact r.elim
 | .fz ts,w,_,r=>by unfold FP at r;exact r.elim
 | .lst ts,w,_,r=>by
  unfold FP at r;obtain⟨a,vs,f,e,q1,q2,q3,rfl⟩:=r;intro b hb;rcases wN.mp hb with hb|hb
  ·exact ZD ts q3 b hb
  ·simp at hb;subst hb;exact⟨q1,vs,q2⟩
 | .tup ts,w,_,r=>by unfold FP at r;obtain⟨a,vs,e,q1,q2,q3⟩:=r;exact ZD ts q3
 | .ob o,w,_,r=>by unfold FP at r;obtain⟨_,rfl⟩:=r;intro a ha;simp at ha
theorem ZD{X:List Nat}{h:AH}:∀(ts:List T){ws:List V}{fp:List Nat},FPs X h ts ws fp->∀a∈fp,a∉X/\∃vs,h[a]?=some (.lst false vs)
 | [],w,_,r=>by unfold FPs at r;obtain⟨_,rfl⟩:=r;intro a ha;simp at ha
 |t::ts,w,_,r=>by
  unfold FPs at r;obtain⟨v,vs,f1,f2,e,q1,q2,rfl⟩:=r;intro b hb;rcases wN.mp hb with hb|hb
  ·exact L7 t q1 b hb
  ·exact ZD ts q2 b hb
end
mutual
theorem qB3{A X:List Nat}{h:AH}:∀(t:T){w:V},Rep A X h t w->t.lf=true->FP X h t w []
 | .v x,w,r,l=>by unfold Rep at r;unfold FP;exact⟨r,rfl⟩
 | .cell n,w,r,l=>by unfold T.lf at l;cases l
 | .fz ts,w,r,l=>by unfold T.lf at l;cases l
 | .lst ts,w,r,l=>by unfold T.lf at l;cases l
 | .tup ts,w,r,l=>by unfold Rep at r;unfold FP;obtain⟨a,vs,e,q1,q2,q3⟩:=r;exact⟨a,vs,e,q1,q2,c8 ts q3 (by unfold T.lf at l;exact l)⟩
 | .ob o,w,r,l=>by unfold Rep at r;unfold FP;exact⟨r,rfl⟩
theorem c8{A X:List Nat}{h:AH}:∀(ts:List T){ws:List V},qa A X h ts ws->T.lfs ts=true->FPs X h ts ws []
 | [],w,r,l=>by unfold qa at r;unfold FPs;exact⟨r,rfl⟩
 |t::ts,w,r,l=>by
  unfold qa at r;unfold FPs;obtain⟨v,vs,e,q1,q2⟩:=r;unfold T.lfs at l;simp only[wB]at l;exact⟨v,vs,[],[],e,qB3 t q1 l.1,c8 ts q2 l.2,rfl⟩
end
mutual
theorem j5{A X A1 X1:List Nat}{h:AH}{n0:Nat}(hc:∀n,n<n0->A1[n]?=A[n]?)(hX:∀a∈X,a∈X1):∀(t:T){w:V},Rep A1 X1 h t w->t.und n0=true->Rep A X h t w
 | .v x,w,r,u=>by unfold Rep at r ⊢;exact r
 | .cell n,w,r,u=>by
  unfold Rep at r ⊢;obtain⟨a,e,q⟩:=r;unfold T.und at u;exact⟨a,(hc n (by simpa using u)).symm.trans e,q⟩
 | .fz ts,w,r,u=>by unfold Rep at r ⊢;obtain⟨a,vs,e,q1,q2,q3⟩:=r;exact⟨a,vs,e,λz=>q1 (hX _ z),q2,Qj hc hX ts q3 (by unfold T.und at u;exact u)⟩
 | .lst ts,w,r,u=>by unfold Rep at r ⊢;obtain⟨a,vs,e,q1,q2,q3⟩:=r;exact⟨a,vs,e,λz=>q1 (hX _ z),q2,Qj hc hX ts q3 (by unfold T.und at u;exact u)⟩
 | .tup ts,w,r,u=>by unfold Rep at r ⊢;obtain⟨a,vs,e,q1,q2,q3⟩:=r;exact⟨a,vs,e,λz=>q1 (hX _ z),q2,Qj hc hX ts q3 (by unfold T.und at u;exact u)⟩
 | .ob o,w,r,u=>by unfold Rep at r ⊢;obtain⟨a,e,q1,q2⟩:=r;exact⟨a,e,λz=>q1 (hX _ z),q2⟩
theorem Qj{A X A1 X1:List Nat}{h:AH}{n0:Nat}(hc:∀n,n<n0->A1[n]?=A[n]?)(hX:∀a∈X,a∈X1):∀(ts:List T){ws:List V},qa A1 X1 h ts ws->T.unds n0 ts=true->qa A X h ts ws
 | [],w,r,u=>by unfold qa at r ⊢;exact r
 |t::ts,w,r,u=>by
  unfold qa at r ⊢;obtain⟨v,vs,e,q1,q2⟩:=r;unfold T.unds at u;simp only[wB]at u;exact⟨v,vs,e,j5 hc hX t q1 u.1,Qj hc hX ts q2 u.2⟩
end
theorem QG{x:V}{a:Nat}(h:flat x=true)(e:V.ref a=x):False:=by subst e;cases h
mutual
theorem W4{A X:List Nat}{h:AH}(nd:A.Nodup)(hs:∀a∈A,a∈X):∀(s t:T){w:V},Rep A X h s w->Rep A X h t w->s=t
 | .v x,t,w,r,q=>by
  unfold Rep at r;obtain⟨rfl,f⟩:=r;cases t with
  |v y=>unfold Rep at q;obtain⟨rfl,_⟩:=q;rfl
  |cell n=>unfold Rep at q;obtain⟨a,_,e⟩:=q;subst e;cases f
  |fz ts=>unfold Rep at q;obtain⟨a,vs,e,_⟩:=q;subst e;cases f
  |lst ts=>unfold Rep at q;obtain⟨a,vs,e,_⟩:=q;subst e;cases f
  |tup ts=>unfold Rep at q;obtain⟨a,vs,e,_⟩:=q;subst e;cases f
  |ob o=>unfold Rep at q;obtain⟨a,e,_⟩:=q;subst e;cases f
 | .cell n,t,w,r,q=>by
  unfold Rep at r;obtain⟨a,ea,rfl⟩:=r;have am:a∈X:=hs _ (wU ea);cases t with
  |v y=>unfold Rep at q;obtain⟨e,f⟩:=q;exact(QG f e).elim
  |cell m=>
   unfold Rep at q;obtain⟨b,eb,e⟩:=q;cases e;have:n=m:=(List.getElem?_inj (by exact(wC.mp ea).1) nd).mp (ea.trans eb.symm);rw[this]
  |fz ts=>unfold Rep at q;obtain⟨b,vs,e,k,_⟩:=q;cases e;exact(k am).elim
  |lst ts=>unfold Rep at q;obtain⟨b,vs,e,k,_⟩:=q;cases e;exact(k am).elim
  |tup ts=>unfold Rep at q;obtain⟨b,vs,e,k,_⟩:=q;cases e;exact(k am).elim
  |ob o=>unfold Rep at q;obtain⟨b,e,k,_⟩:=q;cases e;exact(k am).elim
 | .fz ss,t,w,r,q=>by
  unfold Rep at r;obtain⟨a,vs,rfl,k1,k2,k3⟩:=r;cases t with
  |v y=>unfold Rep at q;obtain⟨e,f⟩:=q;exact(QG f e).elim
  |cell m=>unfold Rep at q;obtain⟨b,eb,e⟩:=q;cases e;exact(k1 (hs _ (wU eb))).elim
  |fz ts=>unfold Rep at q;obtain⟨b,vs',e,z1,z2,z3⟩:=q;cases e;rw[k2]at z2;cases z2;rw[ZN nd hs ss ts k3 z3]
  |lst ts=>unfold Rep at q;obtain⟨b,vs',e,z1,z2,z3⟩:=q;cases e;rw[k2]at z2;cases z2
  |tup ts=>unfold Rep at q;obtain⟨b,vs',e,z1,z2,z3⟩:=q;cases e;rw[k2]at z2;cases z2
  |ob o=>unfold Rep at q;obtain⟨b,e,z1,z2⟩:=q;cases e;rw[k2]at z2;cases z2
 | .lst ss,t,w,r,q=>by
  unfold Rep at r;obtain⟨a,vs,rfl,k1,k2,k3⟩:=r;cases t with
  |v y=>unfold Rep at q;obtain⟨e,f⟩:=q;exact(QG f e).elim
  |cell m=>unfold Rep at q;obtain⟨b,eb,e⟩:=q;cases e;exact(k1 (hs _ (wU eb))).elim
  |lst ts=>unfold Rep at q;obtain⟨b,vs',e,z1,z2,z3⟩:=q;cases e;rw[k2]at z2;cases z2;rw[ZN nd hs ss ts k3 z3]
  |fz ts=>unfold Rep at q;obtain⟨b,vs',e,z1,z2,z3⟩:=q;cases e;rw[k2]at z2;cases z2
  |tup ts=>unfold Rep at q;obtain⟨b,vs',e,z1,z2,z3⟩:=q;cases e;rw[k2]at z2;cases z2
  |ob o=>unfold Rep at q;obtain⟨b,e,z1,z2⟩:=q;cases e;rw[k2]at z2;cases z2
 | .tup ss,t,w,r,q=>by
  unfold Rep at r;obtain⟨a,vs,rfl,k1,k2,k3⟩:=r;cases t with
  |v y=>unfold Rep at q;obtain⟨e,f⟩:=q;exact(QG f e).elim
  |cell m=>unfold Rep at q;obtain⟨b,eb,e⟩:=q;cases e;exact(k1 (hs _ (wU eb))).elim
  |tup ts=>unfold Rep at q;obtain⟨b,vs',e,z1,z2,z3⟩:=q;cases e;rw[k2]at z2;cases z2;rw[ZN nd hs ss ts k3 z3]
  |fz ts=>unfold Rep at q;obtain⟨b,vs',e,z1,z2,z3⟩:=q;cases e;rw[k2]at z2;cases z2
  |lst ts=>unfold Rep at q;obtain⟨b,vs',e,z1,z2,z3⟩:=q;cases e;rw[k2]at z2;cases z2
  |ob o=>unfold Rep at q;obtain⟨b,e,z1,z2⟩:=q;cases e;rw[k2]at z2;cases z2
 | .ob o,t,w,r,q=>by
  unfold Rep at r;obtain⟨a,rfl,k1,k2⟩:=r;cases t with
  |v y=>unfold Rep at q;obtain⟨e,f⟩:=q;exact(QG f e).elim
  |cell m=>unfold Rep at q;obtain⟨b,eb,e⟩:=q;cases e;exact(k1 (hs _ (wU eb))).elim
  |fz ts=>unfold Rep at q;obtain⟨b,vs',e,z1,z2,z3⟩:=q;cases e;rw[k2]at z2;cases z2
  |lst ts=>unfold Rep at q;obtain⟨b,vs',e,z1,z2,z3⟩:=q;cases e;rw[k2]at z2;cases z2
  |tup ts=>unfold Rep at q;obtain⟨b,vs',e,z1,z2,z3⟩:=q;cases e;rw[k2]at z2;cases z2
  |ob o'=>unfold Rep at q;obtain⟨b,e,z1,z2⟩:=q;cases e;rw[k2]at z2;cases z2;rfl
theorem ZN{A X:List Nat}{h:AH}(nd:A.Nodup)(hs:∀a∈A,a∈X):∀(ss ts:List T){ws:List V},qa A X h ss ws->qa A X h ts ws->ss=ts
 | [],[],w,r,q=>rfl
 | [],t::ts,w,r,q=>by unfold qa at r q;obtain⟨v,vs,e,_⟩:=q;subst r;cases e
 |s::ss,[],w,r,q=>by unfold qa at r q;obtain⟨v,vs,e,_⟩:=r;subst q;cases e
 |s::ss,t::ts,w,r,q=>by
  unfold qa at r q;obtain⟨v,vs,rfl,k1,k2⟩:=r;obtain⟨v',vs',e,z1,z2⟩:=q;cases e;rw[W4 nd hs s t k1 z1,ZN nd hs ss ts k2 z2]
end
mutual
theorem qEx:∀(s t:T),T.beq s t=true->s=t
 | .v x,.v y,h=>by unfold T.beq at h;simp at h;rw[h]
 | .cell x,.cell y,h=>by unfold T.beq at h;simp at h;rw[h]
 | .fz x,.fz y,h=>by unfold T.beq at h;rw[Qp x y h]
 | .lst x,.lst y,h=>by unfold T.beq at h;rw[Qp x y h]
 | .tup x,.tup y,h=>by unfold T.beq at h;rw[Qp x y h]
 | .ob x,.ob y,h=>by unfold T.beq at h;simp at h;rw[h]
 | .ob _,.v _,h | .ob _,.cell _,h | .ob _,.fz _,h | .ob _,.lst _,h | .ob _,.tup _,h=>by simp[T.beq]at h
 | .v _,.ob _,h | .cell _,.ob _,h | .fz _,.ob _,h | .lst _,.ob _,h | .tup _,.ob _,h=>by simp[T.beq]at h
 | .v _,.cell _,h | .v _,.fz _,h | .v _,.lst _,h | .v _,.tup _,h=>by simp[T.beq]at h
 | .cell _,.v _,h | .cell _,.fz _,h | .cell _,.lst _,h | .cell _,.tup _,h=>by simp[T.beq]at h
 | .fz _,.v _,h | .fz _,.cell _,h | .fz _,.lst _,h | .fz _,.tup _,h=>by simp[T.beq]at h
 | .lst _,.v _,h | .lst _,.cell _,h | .lst _,.fz _,h | .lst _,.tup _,h=>by simp[T.beq]at h
 | .tup _,.v _,h | .tup _,.cell _,h | .tup _,.fz _,h | .tup _,.lst _,h=>by simp[T.beq]at h
theorem Qp:∀(ss ts:List T),T.beqs ss ts=true->ss=ts
 | [],[],h=>rfl
 | [],_::_,h=>by simp[T.beqs]at h
 |_::_,[],h=>by simp[T.beqs]at h
 |s::ss,t::ts,h=>by unfold T.beqs at h;simp only[wB]at h;rw[qEx s t h.1,Qp ss ts h.2]
end
def Frm(A:List Nat)(h h':AH):Prop:=h.length<=h'.length/\∀j,j<h.length->j∉A->h'[j]?=h[j]?
theorem Frm.refl(A:List Nat)(h:AH):Frm A h h:=⟨wF _,λ_ _ _=>rfl⟩
theorem Frm.trans{A:List Nat}{a b c:AH}(x:Frm A a b)(y:Frm A b c):Frm A a c:=⟨wL x.1 y.1,λj hj hA=>(y.2 j (wG hj x.1) hA).trans (x.2 j hj hA)⟩
theorem Frm.trans2{A B:List Nat}{a b c:AH}(x:Frm A a b)(hB:∀k∈B,a.length<=k)(y:Frm (A++B) b c):Frm A a c:=
 ⟨wL x.1 y.1,λj hj hA=>(y.2 j (wG hj x.1) (by rw[wN];rintro(z|z);exact hA z;have:=hB _ z;omega)).trans (x.2 j hj hA)⟩
theorem Frm.app(A:List Nat)(h e:AH):Frm A h (h++e):=⟨by simp,λj hj _=>by rw[wD hj]⟩
theorem Frm.set{A:List Nat}{h h':AH}(f:Frm A h h'){a:Nat}(ha:a∈A\/h.length<=a)(o:O):Frm A h (h'.set a o):=⟨by simpa using f.1,λj hj hA=>by
 rw[wa (by rintro rfl;rcases ha with z|z;exact hA z;omega)];exact f.2 j hj hA⟩
theorem qY{h:AH}{a:Nat}{o:O}(e:h[a]?=some o):a<h.length:=(wC.mp e).1
structure RelM(gl:List T)(A X:List Nat)(h:AH)(M:Mem):Prop where
 len:A.length=M.length
 nd:A.Nodup
 sub:∀a∈A,a∈X
 lt:∀a∈X,a<h.length
 at_:∀(n:Nat) a,A[n]?=some a->∃ts vs,M[n]?=some ts/\h[a]?=some (.lst false vs)/\qa A X h ts vs
 glo:∀(g:Nat) t,gl[g]?=some t->Rep A X h t (.ref g)
section
variable{gl:List T}{A X:List Nat}{h h':AH}{M:Mem}
theorem RelM.keepN(R:RelM gl A X h M)(f:Frm A h h'):∀a o,a∉X->h[a]?=some o->a∉X/\h'[a]?=some o:=λa o hx e=>⟨hx,(f.2 a (qY e) λz=>hx (R.sub _ z)).trans e⟩
theorem RelM.keep(R:RelM gl A X h M)(f:Frm A h h'){t:T}{w:V}(r:Rep A X h t w):Rep A X h' t w:=jI (λ_ _ e=>e) (R.keepN f) t r
theorem RelM.keeps(R:RelM gl A X h M)(f:Frm A h h'){t:List T}{w:List V}(r:qa A X h t w):qa A X h' t w:=qc (λ_ _ e=>e) (R.keepN f) t r
theorem RelM.up(R:RelM gl A X h M)(e:AH):RelM gl A X (h++e) M:=by
 have f:Frm A h (h++e):=Frm.app A h e;refine⟨R.len,R.nd,R.sub,λa ha=>wG (R.lt a ha) f.1,λn a ea=>?_,λg t eg=>R.keep f (R.glo g t eg)⟩;obtain⟨ts,vs,e1,e2,e3⟩:=R.at_ n a ea;exact⟨ts,vs,e1,by rw[wD (qY e2)];exact e2,R.keeps f e3⟩
theorem RelM.put(R:RelM gl A X h M){n a:Nat}(ea:A[n]?=some a){ts:List T}{vs:List V}(r:qa A X h ts vs):RelM gl A X (h.set a (.lst false vs)) (M.set n ts)/\Frm A h (h.set a (.lst false vs)):=by
 have am:a∈A:=wU ea;have f:Frm A h (h.set a (.lst false vs)):=(Frm.refl A h).set (.inl am) _;have al:a<h.length:=R.lt a (R.sub a am);refine⟨⟨by simpa using R.len,R.nd,R.sub,λb hb=>by simpa using R.lt b hb,λm b eb=>?_,λg t eg=>R.keep f (R.glo g t eg)⟩,f⟩;by_cases hm:n=m
 ·subst hm;rw[ea]at eb;cases eb;have nl:n<M.length:=by rw[<-R.len];exact(wC.mp ea).1
  exact⟨ts,vs,by rw[wk nl],by rw[wk al],R.keeps f r⟩
 ·obtain⟨ts',vs',e1,e2,e3⟩:=R.at_ m b eb;have hab:a≠b:=by
   rintro rfl;exact hm ((List.getElem?_inj (wC.mp ea).1 R.nd).mp (ea.trans eb.symm))
  exact⟨ts',vs',by rw[wa hm];exact e1,by rw[wa hab];exact e2,R.keeps f e3⟩
end
def New(gl:List T)(A X:List Nat)(n:Nat)(h:AH)(M:Mem)(t:T)(w:V):Prop:=∀kvs,t=.ob (.dct kvs)->∃a,w=.ref a/\n<=a/\RelM gl A (X++[a]) h M
theorem New.of_lf{gl:List T}{A X:List Nat}{n:Nat}{h:AH}{M:Mem}{t:T}{w:V}(l:t.lf=true):New gl A X n h M t w:=λkvs e=>by subst e;cases l
theorem New.lst{gl:List T}{A X:List Nat}{n:Nat}{h:AH}{M:Mem}{ts:List T}{w:V}:New gl A X n h M (.lst ts) w:=λkvs e=>by cases e
theorem New.tup{gl:List T}{A X:List Nat}{n:Nat}{h:AH}{M:Mem}{ts:List T}{w:V}:New gl A X n h M (.tup ts) w:=λkvs e=>by cases e
def Frs(gl:List T)(A X:List Nat)(n:Nat)(h:AH)(M:Mem)(t:T)(w:V):Prop:=∃fp,FP X h t w fp/\fp.Nodup/\(∀a∈fp,n<=a)/\RelM gl A (X++fp) h M/\New gl A X n h M t w
def Frss(gl:List T)(A X:List Nat)(n:Nat)(h:AH)(M:Mem)(t:List T)(w:List V):Prop:=∃fp,FPs X h t w fp/\fp.Nodup/\(∀a∈fp,n<=a)/\RelM gl A (X++fp) h M
theorem Frs.of_lf{gl:List T}{A X:List Nat}{n:Nat}{h:AH}{M:Mem}{t:T}{w:V}(R:RelM gl A X h M)(r:Rep A X h t w)(l:t.lf=true):Frs gl A X n h M t w:=⟨[],qB3 t r l,vm,λa ha=>by simp at ha,by rw[wV];exact R,New.of_lf l⟩
theorem Frss.of_lf{gl:List T}{A X:List Nat}{n:Nat}{h:AH}{M:Mem}{t:List T}{w:List V}(R:RelM gl A X h M)(r:qa A X h t w)(l:T.lfs t=true):Frss gl A X n h M t w:=⟨[],c8 t r l,vm,λa ha=>by simp at ha,by rw[wV];exact R⟩
def Sim{α β:Type}(gl:List T)(A X:List Nat)(h:AH)(Q:α->β->AH->Mem->Prop):PR (α×Mem)->Res (β×AH)->Prop
 | .ok (x,M'),r=>∃y h',r=.ok (y,h')/\Frm A h h'/\RelM gl A X h' M'/\Q x y h' M'
 | .exc c M',r=>∃h',r=.exc c h'/\Frm A h h'/\RelM gl A X h' M'
 | .stuck,_=>True
theorem Sim.bind{α β α2 β2:Type}{gl:List T}{A X:List Nat}{h:AH}{Q:α->β->AH->Mem->Prop}{Q2:α2->β2->AH->Mem->Prop}{r:PR (α×Mem)}{rh:Res (β×AH)}{f:α×Mem->PR (α2×Mem)}{g:β×AH->Res (β2×AH)}
  (s:Sim gl A X h Q r rh) (k:∀x M' y h',Frm A h h'->RelM gl A X h' M'->Q x y h' M'->Sim gl A X h' Q2 (f (x,M')) (g (y,h'))):Sim gl A X h Q2 (r.bind f) (rh.bind g):=by
 cases r with
 |ok p=>
  obtain⟨x,M'⟩:=p;obtain⟨y,h',rfl,f1,R1,q⟩:=s;have:=k x M' y h' f1 R1 q;rw[tD,tF];revert this;generalize f (x,M')=r2;generalize g (y,h')=rh2;intro s2;cases r2 with
  |ok p2=>
   obtain⟨x2,M2⟩:=p2;obtain⟨y2,h2,e2,f2,R2,q2⟩:=s2;exact⟨y2,h2,e2,f1.trans f2,R2,q2⟩
  |exc c M2=>
   obtain⟨h2,e2,f2,R2⟩:=s2;exact⟨h2,e2,f1.trans f2,R2⟩
  |stuck=>trivial
 |exc c M'=>
  obtain⟨h',rfl,f1,R1⟩:=s;exact⟨h',rfl,f1,R1⟩
 |stuck=>trivial
theorem Sim.nx{α β:Type}{gl:List T}{A X:List Nat}{h:AH}{Q:α->β->AH->Mem->Prop}{r:PR (α×Mem)}{rh:Res (β×AH)}(s:Sim gl A X h Q r rh):Sim gl A X h Q r.nx rh.nx:=by
 cases r with
 |ok p=>obtain⟨x,M'⟩:=p;obtain⟨y,h',rfl,a,b,c⟩:=s;exact⟨y,h',rfl,a,b,c⟩
 |exc c M'=>trivial
 |stuck=>trivial
theorem Sim.stuck{α β:Type}{gl:List T}{A X:List Nat}{h:AH}{Q:α->β->AH->Mem->Prop}{r:Res (β×AH)}:Sim gl A X h Q (.stuck:PR (α×Mem)) r:=trivial
theorem tJ{α β α2:Type}{gl:List T}{A X:List Nat}{h:AH}{Q:α->β->AH->Mem->Prop}{o:Option α2}{f:α2->PR (α×Mem)}{r:Res (β×AH)}(k:∀x,o=some x->Sim gl A X h Q (f x) r):Sim gl A X h Q ((tH o).bind f) r:=by
 cases o with
 |none=>trivial
 |some x=>exact k x rfl
def QE(gl:List T)(A X:List Nat)(n:Nat):TB->V->AH->Mem->Prop:=λx w h M=>Rep A X h x.1 w/\(x.2=true->Frs gl A X n h M x.1 w)
def QEs(gl:List T)(A X:List Nat)(n:Nat):List TB->List V->AH->Mem->Prop:=λx w h M=>qa A X h (x.map (·.1)) w/\(x.all (·.2)=true->Frss gl A X n h M (x.map (·.1)) w)
theorem QE.le{gl:List T}{A X:List Nat}{n m:Nat}{x:TB}{w:V}{h:AH}{M:Mem}(q:QE gl A X n x w h M)(l:m<=n):QE gl A X m x w h M:=⟨q.1,λe=>by obtain⟨fp,a,b,c,d,nw⟩:=q.2 e;exact⟨fp,a,b,λz hz=>wL l (c z hz),d,λkvs e=>by obtain⟨z,q1,q2,q3⟩:=nw kvs e;exact⟨z,q1,wL l q2,q3⟩⟩⟩
theorem Sim.le{gl:List T}{A X:List Nat}{h:AH}{n m:Nat}{r:PR (TB×Mem)}{rh:RV}(s:Sim gl A X h (QE gl A X n) r rh)(l:m<=n):Sim gl A X h (QE gl A X m) r rh:=by
 cases r with
 |ok p=>obtain⟨y,h',e,f,R,q⟩:=s;exact⟨y,h',e,f,R,q.le l⟩
 |exc c M=>exact s
 |stuck=>trivial
theorem RelM.weak{gl:List T}{A X X':List Nat}{h:AH}{M:Mem}(R:RelM gl A X' h M)(hX:∀a∈X,a∈X')(hA:∀a∈A,a∈X):RelM gl A X h M:=by
 have hn:∀a o,a∉X'->h[a]?=some o->a∉X/\h[a]?=some o:=λa o x y=>⟨λz=>x (hX _ z),y⟩
 refine⟨R.len,R.nd,hA,λa ha=>R.lt a (hX a ha),λn a e=>?_,λg t e=>jI (λ_ _ e=>e) hn t (R.glo g t e)⟩;obtain⟨ts,vs,e1,e2,e3⟩:=R.at_ n a e;exact⟨ts,vs,e1,e2,qc (λ_ _ e=>e) hn ts e3⟩
theorem RelM.addX{gl:List T}{A X X':List Nat}{h:AH}{M:Mem}(R:RelM gl A X h M){o:O}(h1:∀a,a∈X'↔a=h.length\/a∈X):RelM gl A X' (h++[o]) M:=by
 have hn:∀a o',a∉X->h[a]?=some o'->a∉X'/\(h++[o])[a]?=some o':=λa o' x y=>⟨by
  rw[h1];rintro(z|z)
  ·have:=qY y;omega
  ·exact x z,by rw[wD (qY y)];exact y⟩
 refine⟨R.len,R.nd,λa ha=>(h1 a).mpr (.inr (R.sub a ha)),λa ha=>?_,λn a e=>?_,λg t e=>jI (λ_ _ e=>e) hn t (R.glo g t e)⟩
 ·rcases(h1 a).mp ha with z|z
  ·simp[z]
  ·have:=R.lt a z;simp;omega
 ·obtain⟨ts,vs,e1,e2,e3⟩:=R.at_ n a e;exact⟨ts,vs,e1,by rw[wD (qY e2)];exact e2,qc (λ_ _ e=>e) hn ts e3⟩
section
variable{gl:List T}{A X:List Nat}{h:AH}{M:Mem}
theorem M6(R:RelM gl A X h M){t:T}{w:V}{ts:List T}(r:Rep A X h t w)(e:t.its M=some ts):∃a vs,w=.ref a/\items h a=some vs/\qa A X h ts vs:=by
 cases t with
 |v x=>cases e
 |cell n=>
  unfold Rep at r;obtain⟨a,ea,rfl⟩:=r;obtain⟨ts',vs,e1,e2,e3⟩:=R.at_ n a ea;have:M[n]?=some ts:=e;rw[e1]at this;cases this;exact⟨a,vs,rfl,by unfold items;rw[e2],e3⟩
 |fz xs=>unfold Rep at r;obtain⟨a,vs,rfl,_,q,k⟩:=r;cases e;exact⟨a,vs,rfl,by unfold items;rw[q],k⟩
 |lst xs=>unfold Rep at r;obtain⟨a,vs,rfl,_,q,k⟩:=r;cases e;exact⟨a,vs,rfl,by unfold items;rw[q],k⟩
 |tup xs=>unfold Rep at r;obtain⟨a,vs,rfl,_,q,k⟩:=r;cases e;exact⟨a,vs,rfl,by unfold items;rw[q],k⟩
 |ob o=>cases e
theorem jV(R:RelM gl A X h M){t:T}{w:V}{ts:List T}(r:Rep A X h t w)(e:t.lis M=some ts):∃a vs f,w=.ref a/\h[a]?=some (.lst f vs)/\qa A X h ts vs:=by
 cases t with
 |v x=>cases e
 |cell n=>
  unfold Rep at r;obtain⟨a,ea,rfl⟩:=r;obtain⟨ts',vs,e1,e2,e3⟩:=R.at_ n a ea;have:M[n]?=some ts:=e;rw[e1]at this;cases this;exact⟨a,vs,false,rfl,e2,e3⟩
 |fz xs=>unfold Rep at r;obtain⟨a,vs,rfl,_,q,k⟩:=r;cases e;exact⟨a,vs,true,rfl,q,k⟩
 |lst xs=>unfold Rep at r;obtain⟨a,vs,rfl,_,q,k⟩:=r;cases e;exact⟨a,vs,false,rfl,q,k⟩
 |tup xs=>cases e
 |ob o=>cases e
theorem X2(R:RelM gl A X h M){t:T}{w:V}{ts:List T}(r:Rep A X h t w)(e:t.mu M=some ts):∃a vs,w=.ref a/\zm h a=some vs/\qa A X h ts vs:=by
 cases t with
 |v x=>cases e
 |cell n=>
  unfold Rep at r;obtain⟨a,ea,rfl⟩:=r;obtain⟨ts',vs,e1,e2,e3⟩:=R.at_ n a ea;have:M[n]?=some ts:=e;rw[e1]at this;cases this;exact⟨a,vs,rfl,by unfold zm;rw[e2],e3⟩
 |fz xs=>cases e
 |lst xs=>unfold Rep at r;obtain⟨a,vs,rfl,_,q,k⟩:=r;cases e;exact⟨a,vs,rfl,by unfold zm;rw[q],k⟩
 |tup xs=>cases e
 |ob o=>cases e
theorem zT{t:T}{x:V}(e:t.isV=some x):t=.v x:=by cases t<;>cases e;rfl
theorem Qi{t:T}{w:V}(e:t.isV=none)(r:Rep A X h t w):∃a:Nat,w=.ref a:=by
 cases t with
 |v x=>cases e
 |cell n=>unfold Rep at r;obtain⟨a,_,e⟩:=r;exact⟨a,e⟩
 |fz xs=>unfold Rep at r;obtain⟨a,vs,e,_⟩:=r;exact⟨a,e⟩
 |lst xs=>unfold Rep at r;obtain⟨a,vs,e,_⟩:=r;exact⟨a,e⟩
 |tup xs=>unfold Rep at r;obtain⟨a,vs,e,_⟩:=r;exact⟨a,e⟩
 |ob o=>unfold Rep at r;obtain⟨a,e,_⟩:=r;exact⟨a,e⟩
theorem Jn(R:RelM gl A X h M){ts:List T}{vs:List V}{n:Nat}{f:Bool}(r:qa A X h ts vs)(hn:n<=h.length)(hf:f=true->Frss gl A X n h M ts vs):Sim gl A X h (QE gl A X n) (.ok ((.lst ts,f),M)) (newL vs h):=by
 have fm:Frm A h (h++[O.lst false vs]):=Frm.app A h _;have hx:h.length∉X:=λz=>we _ (R.lt _ z);have ha:(h++[O.lst false vs])[h.length]?=some (.lst false vs):=by simp
 refine⟨.ref h.length,_,rfl,fm,R.up _,?_,λe=>?_⟩
 ·show Rep A X _ (.lst ts) _;unfold Rep;exact⟨_,vs,rfl,hx,ha,R.keeps fm r⟩
 ·obtain⟨fp,p,nd,l,R'⟩:=hf e;refine⟨fp++[h.length],?_,?_,?_,R'.addX λa=>by simp only[wN,wY];grind,New.lst⟩
  ·show FP X _ (.lst ts) _ _;unfold FP;exact⟨_,vs,fp,rfl,hx,ha,je (R.keepN fm) ts p,rfl⟩
  ·rw[vB];refine⟨nd,by simp,?_⟩;rintro a ha b hb rfl;obtain⟨_,vs',q⟩:=ZD ts p a ha;simp at hb;have:=qY q;omega
  ·intro a ha;rcases wN.mp ha with z|z
   ·exact l a z
   ·simp at z;omega
theorem K9(R:RelM gl A X h M){ts:List T}{vs:List V}{n:Nat}{f:Bool}(r:qa A X h ts vs)(hf:f=true->Frss gl A X n h M ts vs):Sim gl A X h (QE gl A X n) (.ok ((.tup ts,f),M)) (newT vs h):=by
 have fm:Frm A h (h++[O.tup vs]):=Frm.app A h _;have hx:h.length∉X:=λz=>we _ (R.lt _ z);have ha:(h++[O.tup vs])[h.length]?=some (.tup vs):=by simp
 refine⟨.ref h.length,_,rfl,fm,R.up _,?_,λe=>?_⟩
 ·show Rep A X _ (.tup ts) _;unfold Rep;exact⟨_,vs,rfl,hx,ha,R.keeps fm r⟩
 ·obtain⟨fp,p,nd,l,R'⟩:=hf e;refine⟨fp,?_,nd,l,R'.up _,New.tup⟩;show FP X _ (.tup ts) _ _;unfold FP;exact⟨_,vs,rfl,hx,ha,je (R.keepN fm) ts p⟩
theorem J2(R:RelM gl A X h M){ts:List T}{vs:List V}(r:qa A X h ts vs):Sim gl A X h (QE gl A X h.length) (.ok (lT ts,M)) (newL vs h):=
 Jn R r (wF _) λe=>Frss.of_lf R r e
theorem qC(R:RelM gl A X h M){x:V}(fx:flat x=true){n:Nat}:Sim gl A X h (QE gl A X n) (.ok ((.v x,true),M)) (.ok (x,h)):=
 have r:Rep A X h (.v x) x:=by unfold Rep;exact⟨rfl,fx⟩
 ⟨x,h,rfl,Frm.refl A h,R,r,λ_=>Frs.of_lf R r rfl⟩
theorem zz{x w:V}(r:Rep A X h (.v x) w):w=x:=by unfold Rep at r;exact r.1
theorem qCM(xs:List T):T.lf (.tup xs)=T.lfs xs:=by rw[T.lf]
theorem qB8(R:RelM gl A X h M){op:BOp}{s t:T}{x y:V}{r:TB}(e:zW M op s t=some r)(r1:Rep A X h s x)(r2:Rep A X h t y):Sim gl A X h (QE gl A X h.length) (.ok (r,M)) (v5 op x y h):=by
 unfold zW at e;split at e
 ·rename_i i j e1 e2;cases zT e1;cases zT e2;cases zz r1;cases zz r2;cases op with
  |add=>cases e;exact qC R rfl
  |sub=>cases e;exact qC R rfl
  |mul=>dsimp only at e;split at e<;>cases e;rename_i c;show Sim _ _ _ _ _ _ (if _ then _ else _);rw[if_pos c];exact qC R rfl
  |fdiv=>
   dsimp only at e;show Sim _ _ _ _ _ _ (if _ then _ else _);split at e
   ·rename_i c;cases e;rw[if_pos c];exact qC R rfl
   ·rename_i c;rw[if_neg c];split at e
    ·rename_i c;cases e;rw[if_pos c];exact qC R rfl
    ·cases e
  |mod=>
   dsimp only at e;show Sim _ _ _ _ _ _ (if _ then _ else _);split at e
   ·rename_i c;cases e;rw[if_pos c];exact qC R rfl
   ·rename_i c;rw[if_neg c];split at e
    ·rename_i c;cases e;rw[if_pos c];exact qC R rfl
    ·cases e
  |pow=>dsimp only at e;split at e<;>cases e;rename_i c;show Sim _ _ _ _ _ _ (if _ then _ else _);rw[if_pos c];exact qC R rfl
  |band=>cases e;exact qC R rfl
  |shr=>dsimp only at e;split at e<;>cases e;rename_i c;show Sim _ _ _ _ _ _ (if _ then _ else _);rw[if_pos c];exact qC R rfl
  |bxor=>cases e;exact qC R rfl
 ·rename_i k e1 e2;cases zT e2;cases zz r2;obtain⟨a,rfl⟩:=Qi e1 r1;cases op<;>first|cases e|skip
  dsimp only at e;cases em:s.mu M with
  |none=>rw[em]at e;cases e
  |some xs=>
   rw[em]at e;dsimp only[Option.bind_some]at e;split at e<;>cases e;rename_i c;obtain⟨a',vs,ea,m,rs⟩:=X2 R r1 em;cases ea;have lv:vs.length=xs.length:=(qD (reps_iff.mp rs)).symm;show Sim _ _ _ _ _ _ (match zm h a with|some xs=>_|none=>_);rw[m];dsimp only;rw[if_pos (by rw[lv];exact c)];exact J2 R (reps_iff.mpr (qAV _ (reps_iff.mp rs)))
 ·rename_i e1 e2;obtain⟨a,rfl⟩:=Qi e1 r1;obtain⟨b,rfl⟩:=Qi e2 r2;cases op<;>first|cases e|skip
  dsimp only at e;split at e
  ·rename_i xs ys;split at e<;>cases e;rename_i c;unfold Rep at r1 r2;obtain⟨a1,vs,ea,n1,k1,q1⟩:=r1;cases ea;obtain⟨b1,us,eb,n2,k2,q2⟩:=r2;cases eb;have lv:vs.length=xs.length:=(qD (reps_iff.mp q1)).symm;have lu:us.length=ys.length:=(qD (reps_iff.mp q2)).symm;have m1:zm h a=none:=by unfold zm;rw[k1]
   have t1:qt h a=some vs:=by unfold qt;rw[k1]
   have t2:qt h b=some us:=by unfold qt;rw[k2]
   have q3:=reps_iff.mpr (jM (reps_iff.mp q1) (reps_iff.mp q2));show Sim _ _ _ _ _ _ (match zm h a,zm h b with|some xs,some ys=>_|_,_=>_);rw[m1];show Sim _ _ _ _ _ _ (match qt h a,qt h b with|some xs,some ys=>_|_,_=>_);rw[t1,t2];dsimp only;rw[if_pos ⟨λz=>c.1 (by subst z;exact wm.mp lv.symm),by rw[lv,lu];exact c.2⟩];split
   ·rename_i z;subst z;have y0:ys=[]:=wm.mp lu.symm;subst y0;have r:Rep A X h (.tup (xs++[])) (.ref a):=by
     rw[wV];unfold Rep;exact⟨a,vs,rfl,n1,k1,q1⟩
    exact⟨_,h,rfl,Frm.refl A h,R,r,λe=>Frs.of_lf R r (by rw[qCM];exact e)⟩
   ·exact K9 R q3 λe=>Frss.of_lf R q3 e
  cases em:s.mu M with
  |none=>rw[em]at e;cases e
  |some xs=>
   rw[em]at e;dsimp only[Option.bind_some]at e;cases en:t.mu M with
   |none=>rw[en]at e;cases e
   |some ys=>
    rw[en]at e;dsimp only[Option.bind_some]at e;split at e<;>cases e;rename_i c;obtain⟨a',vs,ea,m,rs⟩:=X2 R r1 em;cases ea;obtain⟨b',us,eb,m2,rs2⟩:=X2 R r2 en;cases eb;have lv:vs.length=xs.length:=(qD (reps_iff.mp rs)).symm;have lu:us.length=ys.length:=(qD (reps_iff.mp rs2)).symm;show Sim _ _ _ _ _ _ (match zm h a,zm h b with|some xs,some ys=>_|_,_=>_);rw[m,m2];dsimp only;rw[if_pos (by rw[lv,lu];exact c)];exact J2 R (reps_iff.mpr (jM (reps_iff.mp rs) (reps_iff.mp rs2)))
 ·cases e
theorem M0{x:V}{b:Bool}(e:eqF x x=some b):b=true:=by
 cases x with
 |int i=>cases e;exact uF i
 |bl i=>cases e;exact uF i
 |str i=>cases e;exact uF i
 |non=>cases e;rfl
 |_=>cases e
theorem QW{f:T->T->Option Bool}(hf:∀t b,f t t=some b->b=true):∀(ts:List T) bs,jh f ts ts=some bs->bs.all id=true
 | [],bs,e=>by cases e;rfl
 |t::ts,bs,e=>by
  unfold jh at e;split at e
  ·rename_i b bs' e1 e2;cases e;rw[List.all_cons,hf t b e1,QW hf ts bs' e2];rfl
  ·cases e
theorem Jj:∀(n:Nat) (t:T) (b:Bool),eqT M n t t=some b->b=true
 | 0,t,b,e=>by
  unfold eqT at e;split at e
  ·rename_i x y e1 e2;rw[e1]at e2;cases e2;exact M0 e
  ·cases e
 |n+1,t,b,e=>by
  unfold eqT at e;split at e
  ·rename_i x y e1 e2;rw[e1]at e2;cases e2;exact M0 e
  ·rename_i e1 e2;rw[e1]at e2;cases e2
  ·rename_i e1 e2;rw[e1]at e2;cases e2
  ·split at e
   ·rename_i xs ys e1 e2;rw[e1]at e2;cases e2;rw[if_pos rfl]at e;obtain⟨bs,eb,rfl⟩:=wA.mp e;exact QW (Jj n) xs bs eb
   ·rename_i e1 e2;rw[e1]at e2;cases e2
   ·rename_i e1 e2;rw[e1]at e2;cases e2
   ·split at e
    ·rename_i xs ys e1 e2;rw[e1]at e2;cases e2;rw[if_pos rfl]at e;obtain⟨bs,eb,rfl⟩:=wA.mp e;exact QW (Jj n) xs bs eb
    ·cases e
theorem ZO{f:T->T->Option Bool}{g:V->V->Option Bool}(hf:∀s t x y b,Rep A X h s x->Rep A X h t y->f s t=some b->g x y=some b):∀{ss ts:List T}{xs ys:List V}{bs:List Bool},qa A X h ss xs->qa A X h ts ys->jh f ss ts=some bs->Zy g xs ys=some bs
 | [],[],xs,ys,bs,r1,r2,e=>by unfold qa at r1 r2;subst r1 r2;exact e
 | [],t::ts,xs,ys,bs,r1,r2,e=>by cases e
 |s::ss,[],xs,ys,bs,r1,r2,e=>by cases e
 |s::ss,t::ts,xs,ys,bs,r1,r2,e=>by
  unfold qa at r1 r2;obtain⟨x,xs',rfl,a1,a2⟩:=r1;obtain⟨y,ys',rfl,b1,b2⟩:=r2;unfold jh at e;split at e
  ·rename_i b bs' e1 e2;cases e;unfold Zy;rw[hf s t x y b a1 b1 e1,ZO hf a2 b2 e2]
  ·cases e
theorem QR{x w:V}(r:Rep A X h (.v x) w):flat x=true:=by unfold Rep at r;exact r.2
theorem L4(R:RelM gl A X h M){t:T}{a:Nat}(r:Rep A X h t (.ref a))(hs:(t.its M).isSome=true):(items h a).isSome=true:=by
 cases t with
 |v x=>unfold Rep at r;exact(QG r.2 r.1).elim
 |cell n=>unfold Rep at r;obtain⟨b,eb,e⟩:=r;cases e;obtain⟨_,_,_,q,_⟩:=R.at_ n _ eb;unfold items;rw[q];rfl
 |fz xs=>unfold Rep at r;obtain⟨b,vs,e,_,q,_⟩:=r;cases e;unfold items;rw[q];rfl
 |lst xs=>unfold Rep at r;obtain⟨b,vs,e,_,q,_⟩:=r;cases e;unfold items;rw[q];rfl
 |tup xs=>unfold Rep at r;obtain⟨b,vs,e,_,q,_⟩:=r;cases e;unfold items;rw[q];rfl
 |ob o=>cases hs
theorem L0{t:T}{w:V}{ts:List T}(r:Rep A X h t w)(e1:t.isV=none)(e2:t.lis M=none)(e:t.its M=some ts):∃a vs,w=.ref a/\h[a]?=some (.tup vs)/\qa A X h ts vs:=by
 cases t with
 |v x=>cases e1
 |cell n=>have z:M[n]?=some ts:=e;have z2:M[n]?=none:=e2;rw[z]at z2;cases z2
 |fz xs=>cases e2
 |lst xs=>cases e2
 |tup xs=>unfold Rep at r;obtain⟨b,vs,e',_,q,k⟩:=r;cases e;exact⟨b,vs,e',q,k⟩
 |ob o=>cases e
theorem qAN{n:Nat}{x y:V}(fx:flat x=true)(fy:flat y=true):eqD h (n+1) x y=eqF x y:=by
 cases x<;>cases y<;>first|rfl|(simp[flat]at fx;done)|(simp[flat]at fy;done)
theorem E5(R:RelM gl A X h M):∀(n:Nat) (s t:T) (x y:V) (b:Bool),Rep A X h s x->Rep A X h t y->eqT M n s t=some b->eqD h n x y=some b
 | 0,s,t,x,y,b,r1,r2,e=>by
  unfold eqT at e;split at e
  ·rename_i x' y' e1 e2;cases zT e1;cases zT e2;cases zz r1;cases zz r2;unfold eqD;exact e
  ·cases e
 |n+1,s,t,x,y,b,r1,r2,e=>by
  unfold eqT at e;split at e
  ·rename_i x' y' e1 e2;cases zT e1;cases zT e2;cases zz r1;cases zz r2;rw[qAN (QR r1) (QR r2)];exact e
  ·rename_i x' e1 e2;cases zT e1;cases zz r1;obtain⟨c,rfl⟩:=Qi e2 r2;have fx:=QR r1;split at e<;>cases e;rename_i hz;have:=L4 R r2 hz;cases x<;>first|(unfold eqD;simp[flat,this];done)|(simp[flat]at fx;done)
  ·rename_i y' e1 e2;cases zT e2;cases zz r2;obtain⟨c,rfl⟩:=Qi e1 r1;have fx:=QR r2;split at e<;>cases e;rename_i hz;have:=L4 R r1 hz;cases y<;>first|(unfold eqD;simp[flat,this];done)|(simp[flat]at fx;done)
  ·rename_i e1 e2;obtain⟨c,rfl⟩:=Qi e1 r1;obtain⟨d,rfl⟩:=Qi e2 r2;have same:c=d->b=true:=by
    rintro rfl;have:=W4 R.nd R.sub s t r1 r2;subst this;refine Jj (M:=M) (n+1) s b ?_;unfold eqT;rw[e1];exact e
   split at e
   ·rename_i xs ys l1 l2;obtain⟨_,vs,f1,q1,k1,m1⟩:=jV R r1 l1;cases q1;obtain⟨_,us,f2,q2,k2,m2⟩:=jV R r2 l2;cases q2;unfold eqD;rw[k1,k2];dsimp only;by_cases hcd:c=d
    ·rw[if_pos hcd,same hcd]
    ·rw[if_neg hcd,<-qD (reps_iff.mp m1),<-qD (reps_iff.mp m2)];split at e
     ·rename_i hl;rw[if_pos hl];obtain⟨bs,eb,rfl⟩:=wA.mp e;rw[ZO (λs t x y b a1 a2 a3=>E5 R n s t x y b a1 a2 a3) m1 m2 eb];rfl
     ·rename_i hl;rw[if_neg hl];exact e
   ·rename_i l1 l2;obtain⟨_,vs,f1,q1,k1,m1⟩:=jV R r1 l1;cases q1;split at e<;>cases e;rename_i z;cases ei:t.its M with
    |none=>rw[ei]at z;cases z
    |some ys=>
     obtain⟨_,us,q2,k2,m2⟩:=L0 r2 e2 l2 ei;cases q2;unfold eqD;rw[k1,k2]
   ·rename_i l1 l2;obtain⟨_,vs,f1,q1,k1,m1⟩:=jV R r2 l2;cases q1;split at e<;>cases e;rename_i z;cases ei:s.its M with
    |none=>rw[ei]at z;cases z
    |some ys=>
     obtain⟨_,us,q2,k2,m2⟩:=L0 r1 e1 l1 ei;cases q2;unfold eqD;rw[k1,k2]
   ·rename_i l1 l2;split at e
    ·rename_i xs ys i1 i2;obtain⟨_,vs,q1,k1,m1⟩:=L0 r1 e1 l1 i1;cases q1;obtain⟨_,us,q2,k2,m2⟩:=L0 r2 e2 l2 i2;cases q2;unfold eqD;rw[k1,k2];dsimp only;by_cases hcd:c=d
     ·rw[if_pos hcd,same hcd]
     ·rw[if_neg hcd,<-qD (reps_iff.mp m1),<-qD (reps_iff.mp m2)];split at e
      ·rename_i hl;rw[if_pos hl];obtain⟨bs,eb,rfl⟩:=wA.mp e;rw[ZO (λs t x y b a1 a2 a3=>E5 R n s t x y b a1 a2 a3) m1 m2 eb];rfl
      ·rename_i hl;rw[if_neg hl];obtain⟨bs,eb,rfl⟩:=wA.mp e;rw[ZO (λs t x y b a1 a2 a3=>E5 R n s t x y b a1 a2 a3) (reps_iff.mpr (Qm _ (reps_iff.mp m1))) (reps_iff.mpr (Qm _ (reps_iff.mp m2))) eb];rfl
    ·cases e
theorem A3:∀{ts:List T}{vs xs:List V},qa A X h ts vs->jy ts=some xs->vs=xs/\xs.all flat=true
 | [],vs,xs,r,e=>by unfold qa at r;subst r;cases e;exact⟨rfl,rfl⟩
 |t::ts,vs,xs,r,e=>by
  unfold qa at r;obtain⟨v,vs',rfl,a,b⟩:=r;cases t with
  |v x=>
   unfold jy at e;obtain⟨xs',e',rfl⟩:=wA.mp e;obtain⟨rfl,k⟩:=A3 b e';cases zz a;exact⟨rfl,by rw[List.all_cons,QR a,k];rfl⟩
  |_=>cases e
theorem qCO{t:T}{kvs:List (Int×V)}{w:V}(e:t.dct=some kvs)(r:Rep A X h t w):∃p:Nat,w=.ref p/\p∉X/\h[p]?=some (.ob (.dct kvs)):=by
 cases t with
 |ob o=>
  cases o with
  |dct k=>cases e;unfold Rep at r;exact r
  |exn c=>cases e
 |_=>cases e
theorem qBJ(R:RelM gl A X h M){s t:T}{x y:V}{b:Bool}(r1:Rep A X h s x)(r2:Rep A X h t y)(e:inT M s t=some b):U9 .inn x y h=some b/\U9 .notin x y h=some (!b):=by
 unfold inT at e;cases hd:t.dct with
 |some kvs=>
  rw[hd]at e;obtain⟨p,rfl,q1,q2⟩:=qCO hd r2;have i0:items h p=none:=by unfold items;rw[q2]
  have d0:B3 h p=some kvs:=by unfold B3;rw[q2]
  dsimp only at e;split at e
  ·cases e;cases zz r1;constructor
   ·dsimp only[U9,qA2];rw[i0];dsimp only;rw[d0]
   ·dsimp only[U9,qA2];rw[i0];dsimp only;rw[d0]
  ·cases e
 |none=>
 rw[hd]at e;dsimp only at e;obtain⟨a,ea,e⟩:=wH.mp e;obtain⟨ts,et,e⟩:=wH.mp e;obtain⟨xs,ex,rfl⟩:=wA.mp e;cases zT ea;cases zz r1;obtain⟨p,vs,rfl,q1,q2⟩:=M6 R r2 et;obtain⟨rfl,k⟩:=A3 q2 ex;have fx:=QR r1;constructor
 ·dsimp only[U9,qA2];rw[q1];dsimp only;rw[if_pos (by rw[fx,k];rfl)]
 ·dsimp only[U9,qA2];rw[q1];dsimp only;rw[if_pos (by rw[fx,k];rfl)]
theorem Qw(R:RelM gl A X h M){op:COp}{s t:T}{x y:V}{b:Bool}(r1:Rep A X h s x)(r2:Rep A X h t y)(e:qk M op s t=some b):U9 op x y h=some b:=by
 cases op with
 |eq=>exact E5 R 4 s t x y b r1 r2 e
 |ne=>
  obtain⟨c,ec,rfl⟩:=wA.mp (show (eqT M 4 s t).map (!·)=some b from e);show (eqD h 4 x y).map (!·)=_;rw[E5 R 4 s t x y c r1 r2 ec];rfl
 |inn=>exact(qBJ R r1 r2 e).1
 |notin=>
  obtain⟨c,ec,rfl⟩:=wA.mp (show (inT M s t).map (!·)=some b from e);exact(qBJ R r1 r2 ec).2
 |is=>
  unfold qk at e;dsimp only at e;split at e
  ·rename_i e2;cases zT e2;cases zz r2;cases e;show some (decide (x=V.non))=_;cases hs:s.isV with
   |none=>obtain⟨a,rfl⟩:=Qi hs r1;rfl
   |some z=>cases zT hs;cases zz r1;cases x<;>rfl
  ·rename_i e2;cases zT e2;cases zz r2;split at e
   ·rename_i e3;cases zT e3;cases zz r1;exact e
   ·cases e
  ·cases e
 |isnot=>
  unfold qk at e;dsimp only at e;split at e
  ·rename_i e2;cases zT e2;cases zz r2;cases e;show some (!decide (x=V.non))=_;cases hs:s.isV with
   |none=>obtain⟨a,rfl⟩:=Qi hs r1;rfl
   |some z=>cases zT hs;cases zz r1;cases x<;>rfl
  ·rename_i e2;cases zT e2;cases zz r2;split at e
   ·rename_i e3;cases zT e3;cases zz r1;exact e
   ·cases e
  ·cases e
 |lt=>unfold qk at e;dsimp only at e;split at e<;>first|(rename_i e1 e2;cases zT e1;cases zT e2;cases zz r1;cases zz r2;exact e)|cases e
 |le=>unfold qk at e;dsimp only at e;split at e<;>first|(rename_i e1 e2;cases zT e1;cases zT e2;cases zz r1;cases zz r2;exact e)|cases e
 |gt=>unfold qk at e;dsimp only at e;split at e<;>first|(rename_i e1 e2;cases zT e1;cases zT e2;cases zz r1;cases zz r2;exact e)|cases e
 |ge=>unfold qk at e;dsimp only at e;split at e<;>first|(rename_i e1 e2;cases zT e1;cases zT e2;cases zz r1;cases zz r2;exact e)|cases e
theorem Zm:∀{ts:List T}{vs:List V}{is:List Int},qa A X h ts vs->zY ts=some is->jk vs=some is
 | [],vs,xs,r,e=>by unfold qa at r;subst r;cases e;rfl
 |t::ts,vs,xs,r,e=>by
  unfold qa at r;obtain⟨v,vs',rfl,a,b⟩:=r;unfold zY at e;split at e
  ·rename_i e';cases e'
  ·rename_i e';cases e';obtain⟨xs',e',rfl⟩:=wA.mp e;cases zz a;show (jk vs').map _=_;rw[Zm b e'];rfl
  ·cases e
theorem I0:∀{ts:List T}{vs:List V}{is:List Int},qa A X h ts vs->QV ts=some is->jq vs=some is
 | [],vs,xs,r,e=>by unfold qa at r;subst r;cases e;rfl
 |t::ts,vs,xs,r,e=>by
  unfold qa at r;obtain⟨v,vs',rfl,a,b⟩:=r;unfold QV at e;split at e
  ·rename_i e';cases e'
  ·rename_i e';cases e';obtain⟨xs',e',rfl⟩:=wA.mp e;cases zz a;show (jq vs').map _=_;rw[I0 b e'];rfl
  ·rename_i e';cases e';obtain⟨xs',e',rfl⟩:=wA.mp e;cases zz a;show (jq vs').map _=_;rw[I0 b e'];rfl
  ·cases e
theorem Ji:∀{ts:List T}{vs:List V}{is:List Bool},qa A X h ts vs->jD ts=some is->QQ vs=some is
 | [],vs,xs,r,e=>by unfold qa at r;subst r;cases e;rfl
 |t::ts,vs,xs,r,e=>by
  unfold qa at r;obtain⟨v,vs',rfl,a,b⟩:=r;unfold jD at e;split at e
  ·rename_i e';cases e'
  ·rename_i e';cases e';obtain⟨xs',e',rfl⟩:=wA.mp e;cases zz a;show (QQ vs').map _=_;rw[Ji b e'];rfl
  ·cases e
theorem Qs{t:T}{ws:List V}(r:qa A X h [t] ws):∃w,ws=[w]/\Rep A X h t w:=by
 unfold qa at r;obtain⟨v,vs,rfl,a,b⟩:=r;unfold qa at b;subst b;exact⟨v,rfl,a⟩
theorem qD7{s t:T}{ws:List V}(r:qa A X h [s,t] ws):∃w u,ws=[w,u]/\Rep A X h s w/\Rep A X h t u:=by
 unfold qa at r;obtain⟨v,vs,rfl,a,b⟩:=r;obtain⟨u,rfl,c⟩:=Qs b;exact⟨v,u,rfl,a,c⟩
theorem qb{a:Nat}{f:Bool}{vs:List V}(e:h[a]?=some (.lst f vs)):qK h a=some vs:=by unfold qK;rw[e]
theorem F9(R:RelM gl A X h M){t:T}{w:V}{n:Nat}(r:Rep A X h t w):Sim gl A X h (QE gl A X n) (.ok ((t,t.lf),M)) (.ok (w,h)):=
 ⟨w,h,rfl,Frm.refl A h,R,r,λe=>Frs.of_lf R r e⟩
theorem Q4:∀l:List Int,T.lfs (l.map λi=>T.v (.int i))=true
 | []=>by rw[List.map_nil,T.lfs]
 |x::r=>by rw[List.map_cons,T.lfs,Q4 r];rfl
theorem B7{A X:List Nat}{h:AH}:∀l:List Int,qa A X h (l.map λi=>T.v (.int i)) (l.map V.int)
 | []=>by rw[List.map_nil,List.map_nil];unfold qa;rfl
 |x::r=>by
  rw[List.map_cons,List.map_cons];unfold qa;exact⟨_,_,rfl,by unfold Rep;exact⟨rfl,rfl⟩,B7 r⟩
theorem qCK(R:RelM gl A X h M){f:BF}{ts:List T}{ws:List V}{r:TB}(rs:qa A X h ts ws)(e:jS M f ts=some r):Sim gl A X h (QE gl A X h.length) (.ok (r,M)) (qEY f ws h):=by
 cases f with
 |len=>
  replace e:=zw e;obtain⟨t0,rfl,e⟩:=e;obtain⟨w,rfl,rw_⟩:=Qs rs;obtain⟨xs,ex,rfl⟩:=wA.mp e;obtain⟨a,vs,rfl,q1,q2⟩:=M6 R rw_ ex;show Sim _ _ _ _ _ _ (match items h a with|some xs=>_|none=>_);rw[q1,qD (reps_iff.mp q2)];exact qC R rfl
 |sum=>
  replace e:=zw e;obtain⟨t0,rfl,e⟩:=e;obtain⟨w,rfl,rw_⟩:=Qs rs;obtain⟨xs,ex,e⟩:=wH.mp e;obtain⟨is,ei,rfl⟩:=wA.mp e;obtain⟨a,vs,f,rfl,q1,q2⟩:=jV R rw_ ex;show Sim _ _ _ _ _ _ (match qK h a with|some xs=>_|none=>_);rw[qb q1];dsimp only;rw[I0 q2 ei];exact qC R rfl
 |all=>
  replace e:=zw e;obtain⟨t0,rfl,e⟩:=e;obtain⟨w,rfl,rw_⟩:=Qs rs;obtain⟨xs,ex,e⟩:=wH.mp e;obtain⟨is,ei,rfl⟩:=wA.mp e;obtain⟨a,vs,f,rfl,q1,q2⟩:=jV R rw_ ex;show Sim _ _ _ _ _ _ (match qK h a with|some xs=>_|none=>_);rw[qb q1];dsimp only;rw[Ji q2 ei];exact qC R rfl
 |any=>
  replace e:=zw e;obtain⟨t0,rfl,e⟩:=e;obtain⟨w,rfl,rw_⟩:=Qs rs;obtain⟨xs,ex,e⟩:=wH.mp e;obtain⟨is,ei,rfl⟩:=wA.mp e;obtain⟨a,vs,f,rfl,q1,q2⟩:=jV R rw_ ex;show Sim _ _ _ _ _ _ (match qK h a with|some xs=>_|none=>_);rw[qb q1];dsimp only;rw[Ji q2 ei];exact qC R rfl
 |max=>
  replace e:=twoT_inv e;obtain⟨i,j,rfl,e⟩:=e;obtain⟨w,u,rfl,a,b⟩:=qD7 rs;cases zz a;cases zz b;cases e;exact qC R rfl
 |min=>
  replace e:=twoT_inv e;obtain⟨i,j,rfl,e⟩:=e;obtain⟨w,u,rfl,a,b⟩:=qD7 rs;cases zz a;cases zz b;cases e;exact qC R rfl
 |maxl=>
  replace e:=zw e;obtain⟨t0,rfl,e⟩:=e;obtain⟨w,rfl,rw_⟩:=Qs rs;obtain⟨xs,ex,e⟩:=wH.mp e;obtain⟨is,ei,e⟩:=wH.mp e;obtain⟨M,eM,rfl⟩:=wA.mp e;obtain⟨a,vs,f,rfl,q1,q2⟩:=jV R rw_ ex;show Sim _ _ _ _ _ _ (match qK h a with|some xs=>_|none=>_);rw[qb q1];dsimp only;rw[Zm q2 ei,Option.bind_some,eM];exact qC R rfl
 |abs=>
  replace e:=zw e;obtain⟨t0,rfl,e⟩:=e;split at e
  ·obtain⟨w,rfl,a⟩:=Qs rs;cases zz a;cases e;exact qC R rfl
  ·cases e
 |bits=>
  replace e:=zw e;obtain⟨t0,rfl,e⟩:=e;split at e
  ·obtain⟨w,rfl,a⟩:=Qs rs;cases zz a;cases e;exact qC R rfl
  ·cases e
 |list=>
  replace e:=zw e;obtain⟨t0,rfl,e⟩:=e;obtain⟨w,rfl,rw_⟩:=Qs rs;obtain⟨xs,ex,rfl⟩:=wA.mp e;obtain⟨a,vs,rfl,q1,q2⟩:=M6 R rw_ ex;show Sim _ _ _ _ _ _ (match items h a with|some xs=>_|none=>_);rw[q1];exact J2 R q2
 |int=>
  replace e:=zw e;obtain⟨t0,rfl,e⟩:=e;split at e
  ·obtain⟨w,rfl,a⟩:=Qs rs;cases zz a;cases e;exact qC R rfl
  ·obtain⟨w,rfl,a⟩:=Qs rs;cases zz a;cases e;exact qC R rfl
  ·cases e
 |sorted=>
  replace e:=zw e;obtain⟨t0,rfl,e⟩:=e;obtain⟨w,rfl,rw_⟩:=Qs rs;obtain⟨xs,ex,e⟩:=wH.mp e;obtain⟨is,ei,e⟩:=wH.mp e;obtain⟨a,vs,f,rfl,q1,q2⟩:=jV R rw_ ex;show Sim _ _ _ _ _ _ (match qK h a with|some xs=>_|none=>_);rw[qb q1];dsimp only;rw[Zm q2 ei];dsimp only;split at e
  ·rename_i h64;cases e;rw[if_pos h64];have rr:=B7 (A:=A) (X:=X) (h:=h) (Zt is);exact Jn R rr (wF _) λe=>Frss.of_lf R rr (Q4 _)
  ·cases e
theorem y7(R:RelM gl A X h M){t:T}{w:V}{s:String}(r:Rep A X h t w)(e:jQ M t=some s):jm h w=some s:=by
 cases t with
 |v x=>cases zz r;cases w<;>first|exact e|(cases e;done)
 |cell n=>unfold Rep at r;obtain⟨a,ea,rfl⟩:=r;obtain⟨ts,vs,e1,e2,_⟩:=R.at_ n a ea;unfold jQ at e;dsimp only at e;rw[e1]at e;cases e;unfold jm;dsimp only;rw[e2]
 |fz xs=>unfold Rep at r;obtain⟨a,vs,rfl,_,q,_⟩:=r;cases e;unfold jm;dsimp only;rw[q]
 |lst xs=>unfold Rep at r;obtain⟨a,vs,rfl,_,q,_⟩:=r;cases e;unfold jm;dsimp only;rw[q]
 |tup xs=>unfold Rep at r;obtain⟨a,vs,rfl,_,q,_⟩:=r;cases e;unfold jm;dsimp only;rw[q]
 |ob o=>cases o with
  |dct=>unfold Rep at r;obtain⟨a,rfl,_,q⟩:=r;cases e;unfold jm;dsimp only;rw[q]
  |exn c=>cases e
theorem D5{ts:List T}{vs:List V}{lo hi:Option Int}(r:qa A X h ts vs):qa A X h (Zz ts lo hi) (_L.cutV vs lo hi):=by
 have l:=qD (reps_iff.mp r);unfold Zz _L.cutV;rw[l];exact reps_iff.mpr (Qm _ (B0 _ (reps_iff.mp r)))
end
def qCz(A X:List Nat)(h:AH):Option T->Option V->Prop
 |none,_=>True
 |some t,some w=>Rep A X h t w
 |some _,none=>False
abbrev QL(A X:List Nat)(h:AH):TS->List (Option V)->Prop:=Qo (qCz A X h)
section
variable{gl:List T}{A X:List Nat}{h h':AH}{M M':Mem}{σ:TS}{σh:List (Option V)}
theorem Q3{i:Nat}{t:T}(r:QL A X h σ σh)(e:σ[i]?=some (some t)):∃w,σh[i]?=some (some w)/\Rep A X h t w:=by
 obtain⟨o,e1,q⟩:=jC r e;cases o with
 |none=>exact q.elim
 |some w=>exact⟨w,e1,q⟩
theorem QC{A' X':List Nat}(hc:∀(n:Nat) a,A[n]?=some a->A'[n]?=some a)(hn:∀a o,a∉X->h[a]?=some o->a∉X'/\h'[a]?=some o)(r:QL A X h σ σh):QL A' X' h' σ σh:=
 D0 (λx y q=>by
  cases x with
  |none=>trivial
  |some t=>cases y with
   |none=>exact q.elim
   |some w=>exact jI hc hn t q) r
theorem RelM.keepS(R:RelM gl A X h M)(f:Frm A h h')(r:QL A X h σ σh):QL A X h' σ σh:=QC (λ_ _ e=>e) (R.keepN f) r
theorem Qt(r:QL A X h σ σh):∀src:List (Option Nat),QL A X h (jl src σ) (_L.inner src σh)
 | []=>rfl
 |none::src=>⟨none,_,rfl,trivial,Qt r src⟩
 |some j::src=>by
  refine⟨(σh[j]?).join,_,rfl,?_,Qt r src⟩;show qCz A X h (σ[j]?).join _;cases hj:σ[j]? with
  |none=>trivial
  |some o=>cases o with
   |none=>trivial
   |some t=>
    obtain⟨w,e1,q⟩:=Q3 r hj;rw[e1];exact q
theorem j6:∀{is:List Nat}{ts:List T}{ws:List V}{σ σ1:TS}{σh:List (Option V)},qD8 is ts σ=some σ1->qa A X h ts ws->QL A X h σ σh->∃σh1,JJ is ws σh=some σh1/\QL A X h σ1 σh1
 | [],[],ws,σ,σ1,σh,e,r,rs=>by unfold qa at r;subst r;cases e;exact⟨σh,rfl,rs⟩
 | [],t::ts,ws,σ,σ1,σh,e,r,rs=>by cases e
 |i::is,[],ws,σ,σ1,σh,e,r,rs=>by cases e
 |i::is,t::ts,ws,σ,σ1,σh,e,r,rs=>by
  unfold qa at r;obtain⟨w,ws',rfl,a,b⟩:=r;exact j6 (is:=is) (show qD8 is ts (σ.set i (some t))=some σ1 from e) b (QD i rs (show qCz A X h (some t) (some w) from a))
theorem Qf{g:Tg}{t:T}{w:V}{σ1:TS}(e:jR g t σ=some σ1)(r:Rep A X h t w)(rs:QL A X h σ σh):∃σh1,store g w σh h=some σh1/\QL A X h σ1 σh1:=by
 cases g with
 |name i=>cases e;exact⟨σh.set i (some w),rfl,QD i rs (show qCz A X h (some t) (some w) from r)⟩
 |tup is=>
  cases t with
  |tup ts=>
   unfold Rep at r;obtain⟨a,vs,rfl,_,q,k⟩:=r;obtain⟨σh1,e1,r1⟩:=j6 (show qD8 is ts σ=some σ1 from e) k rs;refine⟨σh1,?_,r1⟩;show (match qt h a with|some xs=>_|none=>_)=_;rw[show qt h a=some vs by unfold qt;rw[q]];exact e1
  |_=>cases e
theorem ZX:∀(i:Nat) (ts:List T),(QY i ts).length=ts.length
 |_,[]=>rfl
 |i,t::ts=>by rw[QY,List.length_cons,List.length_cons,ZX]
theorem D3:∀(i j:Nat) (ts:List T),(QY i ts)[j]?=(ts[j]?).map λt=>T.tup [.v (.int ((i+j:Nat):Int)),t]
 |_,_,[]=>by simp[QY]
 |i,0,t::ts=>by simp[QY]
 |i,j+1,t::ts=>by
  rw[QY,List.getElem?_cons_succ,List.getElem?_cons_succ,D3 (i+1) j ts];rw[show i+1+j=i+(j+1) by omega]
inductive ZH(A X:List Nat)(h:AH):Src->List T->Qy->Prop
 |list (a f vs ts):a∉X->h[a]?=some (.lst f vs)->qa A X h ts vs->ZH A X h (.list a) ts []
 |cell (n a vs ts):A[n]?=some a->h[a]?=some (.lst false vs)->qa A X h ts vs->ZH A X h (.list a) ts [(n,ts)]
 |tupl (a vs ts):a∉X->h[a]?=some (.tup vs)->qa A X h ts vs->ZH A X h (.tupl a) ts []
 |rng (lo n):ZH A X h (.rng lo n) (zf lo n) []
 |rngd (lo n):ZH A X h (.rngd lo n) (jp lo n) []
 |enum (a ts d):ZH A X h (.list a) ts d->ZH A X h (.enum a) (QY 0 ts) d
 |zip (a b ts us d1 d2):ZH A X h (.list a) ts d1->ZH A X h (.list b) us d2->ZH A X h (.zip a b) (List.zipWith (λx y=>T.tup [x,y]) ts us) (d1++d2)
theorem QB{d1 d2:Qy}(e:ql (d1++d2) M=true):ql d1 M=true/\ql d2 M=true:=by
 unfold ql at e ⊢;rw[List.all_append,wB]at e;exact e
theorem l5{s:Src}{ts:List T}{d:Qy}(r:ZH A X h s ts d)(hn:∀a o,a∉X->h[a]?=some o->h'[a]?=some o)(R:RelM gl A X h' M')(hd:ql d M'=true):ZH A X h' s ts d:=by
 induction r with
 |list a f vs ts q1 q2 q3=>exact .list a f vs ts q1 (hn _ _ q1 q2) (qc (λ_ _ e=>e) (λa o x y=>⟨x,hn a o x y⟩) ts q3)
 |cell n a vs ts q1 q2 q3=>
  obtain⟨ts',vs',e1,e2,e3⟩:=R.at_ n a q1;unfold ql at hd;simp only[List.all_cons,List.all_nil,vg]at hd;rw[e1]at hd;have:=Qp _ _ hd;subst this;exact .cell n a vs' ts' q1 e2 e3
 |tupl a vs ts q1 q2 q3=>exact .tupl a vs ts q1 (hn _ _ q1 q2) (qc (λ_ _ e=>e) (λa o x y=>⟨x,hn a o x y⟩) ts q3)
 |rng lo n=>exact .rng lo n
 |rngd lo n=>exact .rngd lo n
 |enum a ts d _ i1=>exact .enum a ts d (i1 hd)
 |zip a b ts us d1 d2 _ _ i1 i2=>exact .zip a b ts us d1 d2 (i1 (QB hd).1) (i2 (QB hd).2)
theorem JM{A' X':List Nat}{s:Src}{ts:List T}{d:Qy}(r:ZH A X h s ts d)(hn:∀a o,a∉X->h[a]?=some o->a∉X'/\h'[a]?=some o)(R:RelM gl A' X' h' M')(hd:ql d M'=true)(hA:∀(n:Nat) a,A[n]?=some a->A'[n]?=some a:=by exact λ_ _ e=>e):ZH A' X' h' s ts d:=by
 induction r with
 |list a f vs ts q1 q2 q3=>exact .list a f vs ts (hn _ _ q1 q2).1 (hn _ _ q1 q2).2 (qc hA hn ts q3)
 |cell n a vs ts q1 q2 q3=>
  obtain⟨ts',vs',e1,e2,e3⟩:=R.at_ n a (hA _ _ q1);unfold ql at hd;simp only[List.all_cons,List.all_nil,vg]at hd;rw[e1]at hd;have:=Qp _ _ hd;subst this;exact .cell n a vs' ts' (hA _ _ q1) e2 e3
 |tupl a vs ts q1 q2 q3=>exact .tupl a vs ts (hn _ _ q1 q2).1 (hn _ _ q1 q2).2 (qc hA hn ts q3)
 |rng lo n=>exact .rng lo n
 |rngd lo n=>exact .rngd lo n
 |enum a ts d _ i1=>exact .enum a ts d (i1 hd)
 |zip a b ts us d1 d2 _ _ i1 i2=>exact .zip a b ts us d1 d2 (i1 (QB hd).1) (i2 (QB hd).2)
theorem zp{a:Nat}{ts:List T}{d:Qy}(r:ZH A X h (.list a) ts d):∃vs,qK h a=some vs/\qa A X h ts vs:=by
 cases r with
 |list _ f vs _ q1 q2 q3=>exact⟨vs,qb q2,q3⟩
 |cell n _ vs _ q1 q2 q3=>exact⟨vs,qb q2,q3⟩
theorem O8{s:Src}{ts:List T}{d:Qy}(r:ZH A X h s ts d):m4 h s=some ts.length:=by
 cases r with
 |list a f vs ts q1 q2 q3=>show (qK h a).map _=_;rw[qb q2,Option.map_some,qD (reps_iff.mp q3)]
 |cell n a vs ts q1 q2 q3=>show (qK h a).map _=_;rw[qb q2,Option.map_some,qD (reps_iff.mp q3)]
 |tupl a vs ts q1 q2 q3=>show (qt h a).map _=_;rw[show qt h a=some vs by unfold qt;rw[q2],Option.map_some,qD (reps_iff.mp q3)]
 |rng lo n=>show some n=_;simp[zf]
 |rngd lo n=>show some n=_;simp[jp]
 |enum a ts d r1=>
  obtain⟨vs,e1,k1⟩:=zp r1;show (qK h a).map _=_;rw[e1,Option.map_some,ZX,qD (reps_iff.mp k1)]
 |zip a b ts us d1 d2 r1 r2=>
  obtain⟨vs,e1,k1⟩:=zp r1;obtain⟨ws,e2,k2⟩:=zp r2;show (match qK h a,qK h b with|some xs,some ys=>_|_,_=>_)=_;rw[e1,e2,List.length_zipWith,qD (reps_iff.mp k1),qD (reps_iff.mp k2)]
theorem D8{s:Src}{ts:List T}{d:Qy}(r:ZH A X h s ts d):QN h ts.length s=true:=by
 cases r with
 |list a f vs ts q1 q2 q3=>show (match qK h a with|some xs=>_|none=>_)=_;rw[qb q2,qD (reps_iff.mp q3)];simp
 |cell n a vs ts q1 q2 q3=>show (match qK h a with|some xs=>_|none=>_)=_;rw[qb q2,qD (reps_iff.mp q3)];simp
 |tupl a vs ts q1 q2 q3=>show (match qt h a with|some xs=>_|none=>_)=_;rw[show qt h a=some vs by unfold qt;rw[q2],qD (reps_iff.mp q3)];simp
 |rng lo n=>show decide _=_;simp[zf]
 |rngd lo n=>show decide _=_;simp[jp]
 |enum a ts d r1=>
  obtain⟨vs,e1,k1⟩:=zp r1;show (match qK h a with|some xs=>_|none=>_)=_;rw[e1,ZX,qD (reps_iff.mp k1)];simp
 |zip a b ts us d1 d2 r1 r2=>
  obtain⟨vs,e1,k1⟩:=zp r1;obtain⟨ws,e2,k2⟩:=zp r2;show (match qK h a,qK h b with|some xs,some ys=>_|_,_=>_)=_;rw[e1,e2,List.length_zipWith,qD (reps_iff.mp k1),qD (reps_iff.mp k2)];simp;omega
theorem JE(R:RelM gl A X h M){s:Src}{ts:List T}{d:Qy}(r:ZH A X h s ts d){i:Nat}{t:T}(ei:ts[i]?=some t):
  ∃w e,zd h i s=some (w,h++e)/\Rep A X (h++e) t w:=by
 cases r with
 |list a f vs ts q1 q2 q3=>
  obtain⟨w,ew,q⟩:=jC (reps_iff.mp q3) ei;refine⟨w,[],?_,by rw[wV];exact q⟩;show (match qK h a with|some xs=>_|none=>_)=_;rw[qb q2];dsimp only;rw[ew,wV];rfl
 |cell n a vs ts q1 q2 q3=>
  obtain⟨w,ew,q⟩:=jC (reps_iff.mp q3) ei;refine⟨w,[],?_,by rw[wV];exact q⟩;show (match qK h a with|some xs=>_|none=>_)=_;rw[qb q2];dsimp only;rw[ew,wV];rfl
 |tupl a vs ts q1 q2 q3=>
  obtain⟨w,ew,q⟩:=jC (reps_iff.mp q3) ei;refine⟨w,[],?_,by rw[wV];exact q⟩;show (match qt h a with|some xs=>_|none=>_)=_;rw[show qt h a=some vs by unfold qt;rw[q2]];dsimp only;rw[ew,wV];rfl
 |rng lo n=>
  have hi:i<n:=by have:=(wC.mp ei).1;simpa [zf] using this
  refine⟨.int (lo+(i:Int)),[],?_,?_⟩
  ·show (if i<n then _ else _)=_;rw[if_pos hi,wV]
  ·have:t=.v (.int (lo+(i:Int))):=by
    simp only[zf,wg,vf hi,Option.map_some,Option.some.injEq]at ei;exact ei.symm
   rw[this];unfold Rep;exact⟨rfl,rfl⟩
 |rngd lo n=>
  have hi:i<n:=by have:=(wC.mp ei).1;simpa [jp] using this
  refine⟨.int (lo-(i:Int)),[],?_,?_⟩
  ·show (if i<n then _ else _)=_;rw[if_pos hi,wV]
  ·have:t=.v (.int (lo-(i:Int))):=by
    simp only[jp,wg,vf hi,Option.map_some,Option.some.injEq]at ei;exact ei.symm
   rw[this];unfold Rep;exact⟨rfl,rfl⟩
 |enum a ts d r1=>
  obtain⟨vs,e1,k1⟩:=zp r1;rw[D3]at ei;obtain⟨x,ex,rfl⟩:=wA.mp ei;obtain⟨v,ev,qv⟩:=jC (reps_iff.mp k1) ex;refine⟨.ref h.length,[.tup [.int (i:Int),v]],?_,?_⟩
  ·show (match qK h a with|some xs=>_|none=>_)=_;rw[e1];dsimp only;rw[ev];rfl
  ·have f:=Frm.app A h [O.tup [.int (i:Int),v]];unfold Rep;refine⟨_,[.int (i:Int),v],rfl,λz=>we _ (R.lt _ z),by simp,?_⟩;unfold qa;refine⟨.int (i:Int),[v],rfl,by unfold Rep;rw[Nat.zero_add];exact⟨rfl,rfl⟩,?_⟩;unfold qa;exact⟨v,[],rfl,R.keep f qv,by unfold qa;rfl⟩
 |zip a b ts us d1 d2 r1 r2=>
  obtain⟨vs,e1,k1⟩:=zp r1;obtain⟨ws,e2,k2⟩:=zp r2;rw[List.getElem?_zipWith]at ei;cases et:ts[i]? with
  |none=>rw[et]at ei;cases ei
  |some x=>
   cases eu:us[i]? with
   |none=>rw[et,eu]at ei;cases ei
   |some y=>
    rw[et,eu]at ei;cases ei;obtain⟨v,ev,qv⟩:=jC (reps_iff.mp k1) et;obtain⟨w,ew,qw⟩:=jC (reps_iff.mp k2) eu;refine⟨.ref h.length,[.tup [v,w]],?_,?_⟩
    ·show (match qK h a,qK h b with|some xs,some ys=>_|_,_=>_)=_;rw[e1,e2];dsimp only;rw[ev,ew]
    ·have f:=Frm.app A h [O.tup [v,w]];unfold Rep;refine⟨_,[v,w],rfl,λz=>we _ (R.lt _ z),by simp,?_⟩;unfold qa;refine⟨v,[w],rfl,R.keep f qv,?_⟩;unfold qa;exact⟨w,[],rfl,R.keep f qw,by unfold qa;rfl⟩
theorem Frs.ofD(R:RelM gl A X h M){kvs:List (Int×V)}(r:Rep A X (h++[O.ob (.dct kvs)]) (.ob (.dct kvs)) (.ref h.length)):Frs gl A X h.length (h++[O.ob (.dct kvs)]) M (.ob (.dct kvs)) (.ref h.length):=
 ⟨[],by unfold Rep at r;unfold FP;exact⟨r,rfl⟩,vm,λa ha=>by simp at ha,by rw[wV];exact R.up _,λ_ _=>⟨h.length,rfl,wF _,R.addX λa=>by simp only[wN,wY];grind⟩⟩
theorem RelM.setX(R:RelM gl A X h M){D:Nat}(hD:D∈X)(hA:D∉A)(o:O):RelM gl A X (h.set D o) M:=by
 have hn:∀a o',a∉X->h[a]?=some o'->a∉X/\(h.set D o)[a]?=some o':=λa o' x y=>⟨x,by rw[wa (by rintro rfl;exact x hD)];exact y⟩
 refine⟨R.len,R.nd,R.sub,λa ha=>by simpa using R.lt a ha,λn a e=>?_,λg t e=>jI (λ_ _ e=>e) hn t (R.glo g t e)⟩;obtain⟨ts,vs,e1,e2,e3⟩:=R.at_ n a e;exact⟨ts,vs,e1,by rw[wa (by rintro rfl;exact hA (wU e))];exact e2,qc (λ_ _ e=>e) hn ts e3⟩
theorem Sim.bindW{α β α2 β2:Type}{X':List Nat}{h1:AH}{Q:α->β->AH->Mem->Prop}{Q2:α2->β2->AH->Mem->Prop}{r:PR (α×Mem)}{rh:Res (β×AH)}{f:α×Mem->PR (α2×Mem)}{g:β×AH->Res (β2×AH)}
  (hX:∀a∈X,a∈X') (hA:∀a∈A,a∈X) (f0:Frm A h1 h)
  (s:Sim gl A X' h Q r rh) (k:∀x M' y h',Frm A h h'->RelM gl A X' h' M'->Q x y h' M'->Sim gl A X h1 Q2 (f (x,M')) (g (y,h'))):Sim gl A X h1 Q2 (r.bind f) (rh.bind g):=by
 cases r with
 |ok p=>
  obtain⟨x,M'⟩:=p;obtain⟨y,h',rfl,f1,R1,q⟩:=s;exact k x M' y h' f1 R1 q
 |exc c M'=>
  obtain⟨h',rfl,f1,R1⟩:=s;exact⟨h',rfl,f0.trans f1,R1.weak hX hA⟩
 |stuck=>trivial
mutual
theorem qE6{X X':List Nat}{h:AH}:∀(t:T){w:V}{f g:List Nat},FP X h t w f->FP X' h t w g->f=g
 | .v x,w,f,g,p,q=>by unfold FP at p q;rw[p.2,q.2]
 | .cell n,w,f,g,p,q=>by unfold FP at p;exact p.elim
 | .fz ts,w,f,g,p,q=>by unfold FP at p;exact p.elim
 | .ob o,w,f,g,p,q=>by unfold FP at p q;rw[p.2,q.2]
 | .lst ts,w,f,g,p,q=>by
  unfold FP at p q;obtain⟨a,vs,f',rfl,_,e1,k1,rfl⟩:=p;obtain⟨b,us,g',e,_,e2,k2,rfl⟩:=q;cases e;rw[e1]at e2;cases e2;rw[Jq ts k1 k2]
 | .tup ts,w,f,g,p,q=>by
  unfold FP at p q;obtain⟨a,vs,rfl,_,e1,k1⟩:=p;obtain⟨b,us,e,_,e2,k2⟩:=q;cases e;rw[e1]at e2;cases e2;exact Jq ts k1 k2
theorem Jq{X X':List Nat}{h:AH}:∀(ts:List T){ws:List V}{f g:List Nat},FPs X h ts ws f->FPs X' h ts ws g->f=g
 | [],w,f,g,p,q=>by unfold FPs at p q;rw[p.2,q.2]
 |t::ts,w,f,g,p,q=>by
  unfold FPs at p q;obtain⟨v,vs,f1,f2,rfl,a,b,rfl⟩:=p;obtain⟨v',vs',g1,g2,e,a',b',rfl⟩:=q;cases e;rw[qE6 t a a',Jq ts b b']
end
theorem Q5:∀{ts:List T}{ws:List V}{fp f:List Nat}{t:T}{w:V},FPs X h ts ws fp->FP X h t w f->FPs X h (ts++[t]) (ws++[w]) (fp++f)
 | [],ws,fp,f,t,w,p,q=>by
  unfold FPs at p;obtain⟨rfl,rfl⟩:=p;show FPs X h [t] [w] f;unfold FPs;exact⟨w,[],f,[],rfl,q,by unfold FPs;exact⟨rfl,rfl⟩,by simp⟩
 |s::ts,ws,fp,f,t,w,p,q=>by
  unfold FPs at p;obtain⟨v,vs,f1,f2,rfl,a,b,rfl⟩:=p;show FPs X h (s::(ts++[t])) (v::(vs++[w])) _;unfold FPs;exact⟨v,vs++[w],f1,f2++f,rfl,a,Q5 b q,by rw[wj]⟩
end
section
variable{gl:List T}{A X:List Nat}
theorem Jg{s:Src}{its:List T}{d:Qy}{g:Tg}{c:TS->Mem->PR (Bool×Mem)}{c':List (Option V)->AH->Res (Bool×AH)}{e:TS->Mem->PR (TB×Mem)}{e':List (Option V)->AH->RV}{D:Nat}{h1:AH}
  (hc:∀X h M σ σh,RelM gl A X h M->QL A X h σ σh->Sim gl A X h (λb b' _ _=>b=b') (c σ M) (c' σh h))
  (he:∀X h M σ σh,RelM gl A X h M->QL A X h σ σh->Sim gl A X h (QE gl A X h.length) (e σ M) (e' σh h))
  (hD:h1.length<=D) (hDX:D∉X) (hA:∀a∈A,a∈X):∀(r:List T) (i:Nat) (ys:List T) (ws:List V) (f:Bool) (fp:List Nat) (Y:List Nat) (σ:TS) (σh:List (Option V)) (M:Mem) (h:AH),
   its.drop i=r->i<=its.length->Y=D::X++fp->Frm A h1 h->RelM gl A Y h M->ZH A Y h s its d->h[D]?=some (.lst false ws)->qa A (D::X) h ys ws ->
   (f=true->FPs (D::X) h ys ws fp/\fp.Nodup/\∀a∈fp,h1.length<=a)->QL A Y h σ σh ->
   Sim gl A X h1 (QE gl A X h1.length) (qm d g c e r ys f σ M) (D9 s g c' e' D r.length i ws σh h)
 | [],i,ys,ws,f,fp,Y,σ,σh,M,h,hr,hi,hY,fm,R,sr,eD,ry,hf,rs=>by
  have hi':i=its.length:=by
   have:=List.drop_eq_nil_iff.mp hr;omega
  subst hi';have hX:∀a∈X,a∈D::X:=λa z=>wI _ z;have hXY:∀a∈X,a∈Y:=λa z=>by rw[hY];simp[z]
  have hn:∀a o,a∉D::X->h[a]?=some o->a∉X/\h[a]?=some o:=λa o x y=>⟨λz=>x (hX _ z),y⟩
  refine⟨.ref D,h,?_,fm,R.weak hXY hA,?_,λe=>?_⟩
  ·show (if QN h its.length s then _ else _)=_;rw[if_pos (D8 sr)]
  ·show Rep A X h (.lst ys) _;unfold Rep;exact⟨D,ws,rfl,hDX,eD,qc (λ_ _ e=>e) hn ys ry⟩
  ·obtain⟨p,nd,l⟩:=hf e;refine⟨fp++[D],?_,?_,?_,?_⟩
   ·show FP X h (.lst ys) _ _;unfold FP;exact⟨D,ws,fp,rfl,hDX,eD,je hn ys p,rfl⟩
   ·rw[vB];refine⟨nd,by simp,?_⟩;rintro a ha b hb rfl;simp at hb;exact(ZD ys p a ha).1 (by rw[hb];exact wK ..)
   ·intro a ha;rcases wN.mp ha with z|z
    ·exact l a z
    ·simp at z;omega
   ·refine⟨R.weak (λa z=>?_) λa z=>wQ _ (hA a z),New.lst⟩;rw[hY];simp only[wN,wP,wY]at z ⊢
    grind
 |x::r,i,ys,ws,f,fp,Y,σ,σh,M,h,hr,hi,hY,fm,R,sr,eD,ry,hf,rs=>by
  have hXY:∀a∈X,a∈Y:=λa z=>by rw[hY];simp[z]
  have hDY:D∈Y:=by rw[hY];simp
  have hDXY:∀a∈D::X,a∈Y:=λa z=>by rw[hY];exact wQ _ z
  have hDA:D∉A:=λz=>hDX (hA D z);have ex:its[i]?=some x:=by
   have:(its.drop i)[0]?=some x:=by rw[hr];rfl
   rwa [List.getElem?_drop,Nat.add_zero]at this
  have hi2:i+1<=its.length:=(wC.mp ex).1;have hr2:its.drop (i+1)=r:=by
   rw[<-List.drop_drop,hr];rfl
  obtain⟨w,ext,ey,rx⟩:=JE R sr ex;have fy:Frm A h (h++ext):=Frm.app A h ext;rw[List.length_cons];unfold qm D9;rw[ey];dsimp only;cases es:jR g x σ with
  |none=>exact Sim.stuck
  |some σ1=>
   obtain⟨σh1,esh,rs1⟩:=Qf es rx (R.keepS fy rs);rw[esh];dsimp only;refine Sim.bindW hXY hA (fm.trans fy) (hc _ _ _ _ _ (R.up ext) rs1) ?_;rintro b M2 b' h2 f2 R2 rfl;have k2:Frm A h h2:=fy.trans f2;have eD2:h2[D]?=some (.lst false ws):=(k2.2 D (qY eD) hDA).trans eD;have kN:∀{h':AH},Frm A h h'->∀a o,a∉D::X->h[a]?=some o->a∉D::X/\h'[a]?=some o:=λf' a o x y=>⟨x,(f'.2 a (qY y) λz=>x (wI _ (hA _ z))).trans y⟩
   cases b with
   |true=>
    simp only[if_true];refine Sim.bindW hXY hA (fm.trans k2) (he _ _ _ _ _ R2 ((R.up ext).keepS f2 rs1)) ?_;intro y M3 w3 h3 f3 R3 q3;have k3:Frm A h h3:=k2.trans f3;have eD3:h3[D]?=some (.lst false ws):=(k3.2 D (qY eD) hDA).trans eD;have lw:ys.length=ws.length:=qD (reps_iff.mp ry);dsimp only;by_cases hl:ys.length<lim/\ql d M3=true
    ·rw[if_pos hl,if_pos ⟨eD3,by rw[<-lw];exact hl.1⟩];have hs:∀(Z:List Nat),D∈Z->∀a o,a∉Z->h3[a]?=some o->a∉Z/\(h3.set D (.lst false (ws++[w3])))[a]?=some o:=λZ hZ a o x y=>⟨x,by rw[wa (by rintro rfl;exact x hZ)];exact y⟩
     have hnD:∀a o,a∉D::X->h[a]?=some o->a∉D::X/\(h3.set D (.lst false (ws++[w3])))[a]?=some o:=λa o x y=>hs _ (wK ..) a o x (kN k3 a o x y).2;have ry4:qa A (D::X) (h3.set D (.lst false (ws++[w3]))) (ys++[y.1]) (ws++[w3]):=
      reps_iff.mpr (jM (reps_iff.mp (qc (λ_ _ e=>e) hnD ys ry)) ⟨w3,[],rfl,jI (λ_ _ e=>e) (λa o x y=>hs _ (wK ..) a o x y) _ (jI (λ_ _ e=>e) (λa o x y=>⟨λz=>x (hDXY _ z),y⟩) _ q3.1),rfl⟩)
     obtain⟨fp2,hp2,R3',hlt2⟩:∃fp2:List Nat,(y.2=true->FP Y h3 y.1 w3 fp2/\fp2.Nodup)/\RelM gl A (Y++fp2) h3 M3/\∀a∈fp2,h2.length<=a:=by
      cases hy2:y.2 with
      |true=>
       obtain⟨fp2,a,b,c,d,_⟩:=q3.2 hy2;exact⟨fp2,λ_=>⟨a,b⟩,d,c⟩
      |false=>exact⟨[],(λz=>by cases z),by rw[wV];exact R3,λa ha=>by simp at ha⟩
     have old:∀{Z:List Nat}(_:∀a∈Y,a∈Z) (a:Nat) o,a∉Y->h2[a]?=some o->a∉Y++fp2:=λ_ a o x y=>by
      rw[wN];rintro(z|z)
      ·exact x z
      ·have:=hlt2 a z;have:=qY y;omega
     have R4:=R3'.setX (wQ _ hDY) hDA (.lst false (ws++[w3]));have hnY:∀a o,a∉Y->h[a]?=some o->a∉Y++fp2/\(h3.set D (.lst false (ws++[w3])))[a]?=some o:=λa o x y=>⟨old (λ_ z=>z) a o x (R.keepN k2 a o x y).2,(hs Y hDY a o x (R.keepN k3 a o x y).2).2⟩
     have hn2:∀a o,a∉Y->h2[a]?=some o->a∉Y++fp2/\(h3.set D (.lst false (ws++[w3])))[a]?=some o:=λa o x y=>⟨old (λ_ z=>z) a o x y,(hs Y hDY a o x (R2.keepN f3 a o x y).2).2⟩
     refine Jg hc he hD hDX hA r (i+1) (ys++[y.1]) (ws++[w3]) (f&&y.2) (fp++fp2) (Y++fp2) σ1 σh1 M3 _ hr2 hi2 (by rw[hY,wj]) ((fm.trans k3).set (.inr hD) _) R4 ?_ ?_ ry4 ?_ ?_
     ·exact JM sr hnY R4 hl.2
     ·rw[wk (qY eD3)]
     ·intro ef;rw[wB]at ef;obtain⟨p1,nd1,l1⟩:=hf ef.1;obtain⟨p2,nd2⟩:=hp2 ef.2;refine⟨Q5 (je hnD ys p1) (JG (λa o x y=>hs _ (wK ..) a o x y) _ (JG (λa o x y=>⟨λz=>x (hDXY _ z),y⟩) _ p2)),?_,?_⟩
      ·rw[vB];refine⟨nd1,nd2,?_⟩;rintro a ha b hb rfl;exact(L7 y.1 p2 a hb).1 (by rw[hY];exact wT _ ha)
      ·intro a ha;rcases wN.mp ha with z|z
       ·exact l1 a z
       ·have:=hlt2 a z;have:=(fm.trans k2).1;omega
     ·exact QC (λ_ _ e=>e) hn2 ((R.up ext).keepS f2 rs1)
    ·rw[if_neg hl];exact Sim.stuck
   |false=>
    dsimp only;simp only[vG,if_false];by_cases hl:ql d M2=true
    ·rw[if_pos hl,if_pos eD2];exact Jg hc he hD hDX hA r (i+1) ys ws f fp Y σ1 σh1 M2 h2 hr2 hi2 hY (fm.trans k2) R2 (l5 sr (λa o x y=>(R.keepN k2 a o x y).2) R2 hl) eD2 (qc (λ_ _ e=>e) (kN k2) ys ry)
      (λef=>by obtain⟨a,b,c⟩:=hf ef;exact⟨je (kN k2) ys a,b,c⟩) ((R.up ext).keepS f2 rs1)
    ·rw[if_neg hl];exact Sim.stuck
end
section
variable{gl:List T}{A X:List Nat}{h h':AH}{M M':Mem}
theorem qAQ{X':List Nat}{s:Src}{ts:List T}{d:Qy}(r:ZH A X h s ts d)(hn:∀a o,a∉X->h[a]?=some o->a∉X'/\h'[a]?=some o)(hc:∀(n:Nat) a o,A[n]?=some a->h[a]?=some o->h'[a]?=some o):ZH A X' h' s ts d:=by
 induction r with
 |list a f vs ts q1 q2 q3=>exact .list a f vs ts (hn _ _ q1 q2).1 (hn _ _ q1 q2).2 (qc (λ_ _ e=>e) hn ts q3)
 |cell n a vs ts q1 q2 q3=>exact .cell n a vs ts q1 (hc n a _ q1 q2) (qc (λ_ _ e=>e) hn ts q3)
 |tupl a vs ts q1 q2 q3=>exact .tupl a vs ts (hn _ _ q1 q2).1 (hn _ _ q1 q2).2 (qc (λ_ _ e=>e) hn ts q3)
 |rng lo n=>exact .rng lo n
 |rngd lo n=>exact .rngd lo n
 |enum a ts d _ i1=>exact .enum a ts d i1
 |zip a b ts us d1 d2 _ _ i1 i2=>exact .zip a b ts us d1 d2 i1 i2
theorem S7{n:Nat}{r:PR (TB×Mem)}{rh:RV}(s:Sim gl A X h (QE gl A X n) r rh):Sim gl A X h (λb b' _ _=>b=b') (pB r) (asB rh):=by
 refine Sim.bind s ?_;intro x M1 w h1 f1 R1 q1;obtain⟨t,fr⟩:=x;dsimp only;split
 ·rename_i b;cases zz q1.1;exact⟨_,h1,rfl,Frm.refl A h1,R1,rfl⟩
 ·exact Sim.stuck
theorem B5:∀(xs:List V),T.lfs (xs.map .v)=true
 | []=>rfl
 |x::xs=>by show (T.lf (.v x)&&T.lfs (xs.map .v))=true;rw[B5 xs];rfl
theorem S2(lo:Int)(n:Nat):T.lfs (zf lo n)=true:=by
 have e:zf lo n=(QM lo n).map .v:=by unfold zf QM;rw[List.map_map];rfl
 rw[e];exact B5 _
theorem QZ{A X:List Nat}{h:AH}:∀{xs:List V},xs.all flat=true->qa A X h (xs.map .v) xs
 | [],_=>by show qa A X h [] [];unfold qa;rfl
 |x::xs,f=>by
  rw[List.all_cons,wB]at f;show qa A X h (.v x::xs.map .v) _;unfold qa;exact⟨x,xs,rfl,by unfold Rep;exact⟨rfl,f.1⟩,QZ f.2⟩
theorem P5{α β:Type}{R:α->β->Prop}:∀{xs:List α}{ys:List β},Qo R xs ys->Qo R xs.reverse ys.reverse
 | [],_,h=>by cases h;rfl
 |x::xs,_,⟨v,vs,rfl,r,h⟩=>by
  rw[vO,vO];exact jM (P5 h) ⟨v,[],rfl,r,rfl⟩
theorem y6(R:RelM gl A X h M){m:Mt}{n p:Nat}{ts:List T}{ws:List V}(ep:A[n]?=some p)(rs:qa A X h ts ws):Sim gl A X h (QE gl A X h.length) (tH (F7 m n ts M)) (qCn m p ws h):=by
 obtain⟨ts2,vs2,g1,g2,g3⟩:=R.at_ n p ep;have hm:zm h p=some vs2:=by unfold zm;rw[g2]
 have l:=qD (reps_iff.mp g3);cases em:F7 m n ts M with
 |none=>exact Sim.stuck
 |some r=>
  unfold F7 at em;split at em
  ·rename_i y;obtain⟨w,rfl,a⟩:=Qs rs;have fy:=QR a;cases zz a;rw[g1]at em;dsimp only[Option.bind_some]at em;obtain⟨zs,ez,rfl⟩:=wA.mp em;obtain⟨rfl,kk⟩:=A3 g3 ez;show Sim _ _ _ _ _ _ (match zm h p with|some xs=>_|none=>_);rw[hm];dsimp only;rw[if_pos (by rw[fy,kk];rfl)];exact qC R rfl
  ·cases em
theorem qCZ(R:RelM gl A X h M){t:T}{w:V}{s:List T×Qy}(r:Rep A X h t w)(e:A8 M t=some s):∃p sh,w=.ref p/\(match h[p]? with|some (.lst _ _)=>Res.ok (Src.list p,h)|some (.tup _)=>.ok (.tupl p,h)|_=>.stuck)=.ok (sh,h)/\ZH A X h sh s.1 s.2:=by
 cases t with
 |v x=>cases e
 |cell n=>
  unfold Rep at r;obtain⟨a,ea,rfl⟩:=r;obtain⟨ts,vs,e1,e2,e3⟩:=R.at_ n a ea;unfold A8 at e;dsimp only at e;rw[e1]at e;cases e;exact⟨a,_,rfl,by rw[e2],.cell n a vs ts ea e2 e3⟩
 |fz xs=>unfold Rep at r;obtain⟨a,vs,rfl,q,k,z⟩:=r;cases e;exact⟨a,_,rfl,by rw[k],.list a true vs xs q k z⟩
 |lst xs=>unfold Rep at r;obtain⟨a,vs,rfl,q,k,z⟩:=r;cases e;exact⟨a,_,rfl,by rw[k],.list a false vs xs q k z⟩
 |tup xs=>unfold Rep at r;obtain⟨a,vs,rfl,q,k,z⟩:=r;cases e;exact⟨a,_,rfl,by rw[k],.tupl a vs xs q k z⟩
 |ob o=>cases e
theorem J9(R:RelM gl A X h M){t:T}{w:V}{s:List T×Qy}(r:Rep A X h t w)(e:Jp M t=some s):∃p vs,w=.ref p/\qK h p=some vs/\ZH A X h (.list p) s.1 s.2:=by
 cases t with
 |v x=>cases e
 |cell n=>
  unfold Rep at r;obtain⟨a,ea,rfl⟩:=r;obtain⟨ts,vs,e1,e2,e3⟩:=R.at_ n a ea;unfold Jp at e;dsimp only at e;rw[e1]at e;cases e;exact⟨a,_,rfl,qb e2,.cell n a vs ts ea e2 e3⟩
 |fz xs=>unfold Rep at r;obtain⟨a,vs,rfl,q,k,z⟩:=r;cases e;exact⟨a,_,rfl,qb k,.list a true vs xs q k z⟩
 |lst xs=>unfold Rep at r;obtain⟨a,vs,rfl,q,k,z⟩:=r;cases e;exact⟨a,_,rfl,qb k,.list a false vs xs q k z⟩
 |tup xs=>cases e
 |ob o=>cases e
theorem QEs.len{n:Nat}{xs:List TB}{ws:List V}(q:QEs gl A X n xs ws h M):xs.length=ws.length:=by
 have:=qD (reps_iff.mp q.1);simpa using this
end
section
variable{gl:List T}{P:Nat->List T->Mem->PR (TB×Mem)}{F:Nat->List V->AH->RV}
variable (hF:∀f ts ws A X h M,RelM gl A X h M->qa A X h ts ws->Sim gl A X h (QE gl A X h.length) (P f ts M) (F f ws h))
include hF
mutual
theorem qi:∀(e:E) (A X:List Nat) (h:AH) (M:Mem) (σ:TS) (σh:List (Option V)),RelM gl A X h M->QL A X h σ σh->Sim gl A X h (QE gl A X h.length) (pe gl P e σ M) (ev F e σh h)
 | .var i,A,X,h,M,σ,σh,R,rs=>by
  rw[pe,ev];dsimp only;split
  ·rename_i t e;obtain⟨w,ew,r⟩:=Q3 rs e;rw[ew];exact F9 R r
  ·exact Sim.stuck
 | .dnew,A,X,h,M,σ,σh,R,rs=>by
  unfold pe ev;have r:Rep A X (h++[O.ob (.dct [])]) (.ob (.dct [])) (.ref h.length):=by
   unfold Rep;exact⟨h.length,rfl,λz=>by have:=R.lt _ z;omega,by simp⟩
  exact⟨_,_,rfl,Frm.app A h _,R.up _,r,λ_=>Frs.ofD R r⟩
 | .cst v,A,X,h,M,σ,σh,R,rs=>by
  rw[pe,ev];dsimp only;split
  ·rename_i e;exact qC R e
  ·exact Sim.stuck
 | .glob g,A,X,h,M,σ,σh,R,rs=>by
  rw[pe,ev];dsimp only;split
  ·rename_i t e;exact F9 R (R.glo g t e)
  ·exact Sim.stuck
 | .bin op a b,A,X,h,M,σ,σh,R,rs=>by
  rw[pe,ev];dsimp only;refine Sim.bind (qi a A X h M σ σh R rs) ?_;intro x M1 v h1 f1 R1 q1;dsimp only;refine Sim.bind (qi b A X h1 M1 σ σh R1 (R.keepS f1 rs)) ?_;intro y M2 w h2 f2 R2 q2;dsimp only;exact tJ λr er=>(qB8 R2 er (R1.keep f2 q1.1) q2.1).le (wL f1.1 f2.1)
 | .neg a,A,X,h,M,σ,σh,R,rs=>by
  rw[pe,ev];dsimp only;refine Sim.bind (qi a A X h M σ σh R rs) ?_;intro x M1 v h1 f1 R1 q1;dsimp only;obtain⟨t,fr⟩:=x;dsimp only;split
  ·cases zz q1.1;exact qC R1 rfl
  ·exact Sim.stuck
 | .cmp op a b,A,X,h,M,σ,σh,R,rs=>by
  rw[pe,ev];dsimp only;refine Sim.bind (qi a A X h M σ σh R rs) ?_;intro x M1 v h1 f1 R1 q1;dsimp only;refine Sim.bind (qi b A X h1 M1 σ σh R1 (R.keepS f1 rs)) ?_;intro y M2 w h2 f2 R2 q2;dsimp only;refine tJ λr er=>?_;unfold qAT;rw[Qw R2 (R1.keep f2 q1.1) q2.1 er];exact qC R2 rfl
 | .cmp2 o1 o2 a b c,A,X,h,M,σ,σh,R,rs=>by
  rw[pe,ev];dsimp only;refine Sim.bind (qi a A X h M σ σh R rs) ?_;intro x M1 v h1 f1 R1 q1;dsimp only;refine Sim.bind (qi b A X h1 M1 σ σh R1 (R.keepS f1 rs)) ?_;intro y M2 w h2 f2 R2 q2;dsimp only;refine tJ λr er=>?_;rw[Qw R2 (R1.keep f2 q1.1) q2.1 er];cases r with
  |true=>
   simp only[if_true];refine Sim.bind (qi c A X h2 M2 σ σh R2 (R1.keepS f2 (R.keepS f1 rs))) ?_;intro z M3 u h3 f3 R3 q3;dsimp only;refine tJ λr er=>?_;unfold qAT;rw[Qw R3 (R2.keep f3 q2.1) q3.1 er];exact qC R3 rfl
  |false=>exact qC R2 rfl
 | .cmp3 o1 o2 o3 a b c d,A,X,h,M,σ,σh,R,rs=>by
  rw[pe,ev];dsimp only;refine Sim.bind (qi a A X h M σ σh R rs) ?_;intro x M1 v h1 f1 R1 q1;dsimp only;refine Sim.bind (qi b A X h1 M1 σ σh R1 (R.keepS f1 rs)) ?_;intro y M2 w h2 f2 R2 q2;dsimp only;refine tJ λr er=>?_;rw[Qw R2 (R1.keep f2 q1.1) q2.1 er];cases r with
  |true=>
   simp only[if_true];refine Sim.bind (qi c A X h2 M2 σ σh R2 (R1.keepS f2 (R.keepS f1 rs))) ?_;intro z M3 u h3 f3 R3 q3;dsimp only;refine tJ λr er=>?_;rw[Qw R3 (R2.keep f3 q2.1) q3.1 er];cases r with
   |true=>
    simp only[if_true];refine Sim.bind (qi d A X h3 M3 σ σh R3 (R2.keepS f3 (R1.keepS f2 (R.keepS f1 rs)))) ?_;intro z4 M4 u4 h4 f4 R4 q4;dsimp only;refine tJ λr er=>?_;unfold qAT;rw[Qw R4 (R3.keep f4 q3.1) q4.1 er];exact qC R4 rfl
   |false=>exact qC R3 rfl
  |false=>exact qC R2 rfl
 | .and a b,A,X,h,M,σ,σh,R,rs=>by
  rw[pe,ev];dsimp only;refine Sim.bind (S7 (qi a A X h M σ σh R rs)) ?_;rintro x M1 v h1 f1 R1 rfl;dsimp only;cases x with
  |true=>simp only[if_true];exact(qi b A X h1 M1 σ σh R1 (R.keepS f1 rs)).le f1.1
  |false=>exact qC R1 rfl
 | .or a b,A,X,h,M,σ,σh,R,rs=>by
  rw[pe,ev];dsimp only;refine Sim.bind (S7 (qi a A X h M σ σh R rs)) ?_;rintro x M1 v h1 f1 R1 rfl;dsimp only;cases x with
  |false=>simp only[vG,if_false];exact(qi b A X h1 M1 σ σh R1 (R.keepS f1 rs)).le f1.1
  |true=>exact qC R1 rfl
 | .not a,A,X,h,M,σ,σh,R,rs=>by
  rw[pe,ev];dsimp only;refine Sim.bind (S7 (qi a A X h M σ σh R rs)) ?_;rintro x M1 v h1 f1 R1 rfl;dsimp only;exact qC R1 rfl
 | .call f as,A,X,h,M,σ,σh,R,rs=>by
  rw[pe,ev];dsimp only;refine Sim.bind (Qa as A X h M σ σh R rs) ?_;intro x M1 v h1 f1 R1 q1;dsimp only;exact(hF f _ _ A X h1 M1 R1 q1.1).nx.le f1.1
 | .blt f as,A,X,h,M,σ,σh,R,rs=>by
  rw[pe,ev];dsimp only;refine Sim.bind (Qa as A X h M σ σh R rs) ?_;intro x M1 v h1 f1 R1 q1;dsimp only;exact tJ λr er=>(qCK R1 q1.1 er).le f1.1
 | .isi a ts,A,X,h,M,σ,σh,R,rs=>by
  rw[pe,ev];dsimp only;refine Sim.bind (qi a A X h M σ σh R rs) ?_;intro x M1 v h1 f1 R1 q1;dsimp only;refine tJ λr er=>?_;rw[y7 R1 q1.1 er];exact qC R1 rfl
 | .idx a b,A,X,h,M,σ,σh,R,rs=>by
  rw[pe,ev];dsimp only;refine Sim.bind (qi a A X h M σ σh R rs) ?_;intro x M1 v h1 f1 R1 q1;dsimp only;refine Sim.bind (qi b A X h1 M1 σ σh R1 (R.keepS f1 rs)) ?_;intro y M2 w h2 f2 R2 q2;dsimp only;refine tJ λr er=>?_;obtain⟨ty,fy⟩:=y;unfold QX at er;dsimp only at er;split at er
  ·rename_i i;cases zz q2.1;obtain⟨xs,e1,er⟩:=wH.mp er;obtain⟨j,e2,er⟩:=wH.mp er;obtain⟨t,e3,rfl⟩:=wA.mp er;obtain⟨p,vs,rfl,k1,k2⟩:=M6 R2 (R1.keep f2 q1.1) e1;obtain⟨u,e4,k3⟩:=jC (reps_iff.mp k2) e3;dsimp only;rw[k1];dsimp only;rw[<-qD (reps_iff.mp k2),e2];dsimp only[Option.bind_some];rw[e4];exact F9 R2 k3
  ·cases er
 | .rev a,A,X,h,M,σ,σh,R,rs=>by
  rw[pe,ev];dsimp only;refine Sim.bind (qi a A X h M σ σh R rs) ?_;intro x M1 v h1 f1 R1 q1;dsimp only;refine tJ λxs ex=>?_;obtain⟨p,vs,f,rfl,k1,k2⟩:=jV R1 q1.1 ex;show Sim _ _ _ _ _ _ (match qK h1 p with|some xs=>_|none=>_);rw[qb k1];exact(J2 R1 (reps_iff.mpr (P5 (reps_iff.mp k2)))).le f1.1
 | .sl a lo hi,A,X,h,M,σ,σh,R,rs=>by
  rw[pe,ev];dsimp only;refine Sim.bind (qi a A X h M σ σh R rs) ?_;intro x M1 v h1 f1 R1 q1;dsimp only;refine Sim.bind (Qa lo A X h1 M1 σ σh R1 (R.keepS f1 rs)) ?_;intro y M2 w h2 f2 R2 q2;dsimp only;refine Sim.bind (Qa hi A X h2 M2 σ σh R2 (R1.keepS f2 (R.keepS f1 rs))) ?_;intro z M3 u h3 f3 R3 q3;dsimp only;refine tJ λxs ex=>tJ λl el=>tJ λm em=>?_;rw[Zm (R2.keeps f3 q2.1) el,Zm q3.1 em];have rp:=R2.keep f3 (R1.keep f2 q1.1);refine tJ λr er=>?_;refine Sim.le ?_ (wL f1.1 (wL f2.1 f3.1));obtain⟨x1,x2⟩:=x;dsimp only at ex er rp ⊢;cases x1 with
  |v x=>cases ex
  |ob o=>cases ex
  |cell n=>cases er;obtain⟨p,vs,f,rfl,k1,k2⟩:=jV R3 rp ex;dsimp only;rw[qb k1];exact J2 R3 (D5 k2)
  |fz xs=>cases er;obtain⟨p,vs,f,rfl,k1,k2⟩:=jV R3 rp ex;dsimp only;rw[qb k1];exact J2 R3 (D5 k2)
  |lst xs=>cases er;obtain⟨p,vs,f,rfl,k1,k2⟩:=jV R3 rp ex;dsimp only;rw[qb k1];exact J2 R3 (D5 k2)
  |tup ts=>
   cases ex;unfold Rep at rp;obtain⟨a,vs,rfl,_,q,kk⟩:=rp;have ln:=qD (reps_iff.mp kk);dsimp only;rw[show qK h3 a=none by unfold qK;rw[q],show qt h3 a=some vs by unfold qt;rw[q]];dsimp only;unfold Z0 at er;dsimp only at er;rw[ln]at er;split at er
   ·cases er
   ·rename_i hw;cases er;rw[if_neg hw];exact K9 R3 (D5 kk) λe=>Frss.of_lf R3 (D5 kk) e
 | .lst as,A,X,h,M,σ,σh,R,rs=>by
  rw[pe,ev];dsimp only;refine Sim.bind (Qa as A X h M σ σh R rs) ?_;intro x M1 v h1 f1 R1 q1;dsimp only;rw[<-q1.len];split
  ·exact Jn R1 q1.1 f1.1 q1.2
  ·exact Sim.stuck
 | .tup as,A,X,h,M,σ,σh,R,rs=>by
  rw[pe,ev];dsimp only;refine Sim.bind (Qa as A X h M σ σh R rs) ?_;intro x M1 v h1 f1 R1 q1;dsimp only;rw[<-q1.len];split
  ·exact K9 R1 q1.1 q1.2
  ·exact Sim.stuck
 | .comp it src g c e,A,X,h,M,σ,σh,R,rs=>by
  rw[pe,ev];dsimp only;refine Sim.bind (qA0 it A X h M σ σh R rs) ?_;intro s M1 sh h1 f1 R1 q1;dsimp only;have hn:∀a o,a∉X->h1[a]?=some o->a∉h1.length::X/\(h1++[O.lst false []])[a]?=some o:=λa o x y=>⟨by
   rw[wP];rintro(z|z)
   ·have:=qY y;omega
   ·exact x z,by rw[wD (qY y)];exact y⟩
  have sr:ZH A (h1.length::X) (h1++[O.lst false []]) sh s.1 s.2:=qAQ q1 hn λn a o _ y=>by rw[wD (qY y)];exact y
  rw[O8 sr];dsimp only;refine(Jg (its:=s.1) (λX h M σ σh R rs=>qD1 c A X h M σ σh R rs) (λX h M σ σh R rs=>qi e A X h M σ σh R rs) (wF h1.length) (λz=>we _ (R1.lt _ z)) R1.sub s.1 0 [] [] true [] (h1.length::X) _ _ M1 _ rfl (vw _) (by simp) (Frm.app A h1 _) (R1.addX λa=>wP) sr (by simp) (by unfold qa;rfl) ?_ ?_).le f1.1
  ·exact λ_=>⟨by unfold FPs;exact⟨rfl,rfl⟩,vm,λa ha=>by simp at ha⟩
  ·exact QC (λ_ _ e=>e) hn (Qt (R.keepS f1 rs) src)
 | .app a b,A,X,h,M,σ,σh,R,rs=>by
  rw[pe,ev];dsimp only;refine Sim.bind (qi a A X h M σ σh R rs) ?_;intro x M1 v h1 f1 R1 q1;dsimp only;obtain⟨t,fr⟩:=x;dsimp only;split
  ·rename_i n;have q:=q1.1;unfold Rep at q;obtain⟨p,ep,rfl⟩:=q;obtain⟨ts,vs,e1,e2,e3⟩:=R1.at_ n p ep;dsimp only;rw[qb e2];dsimp only;refine Sim.bind (qi b A X h1 M1 σ σh R1 (R.keepS f1 rs)) ?_;intro y M2 w h2 f2 R2 q2;dsimp only;obtain⟨ts2,vs2,g1,g2,g3⟩:=R2.at_ n p ep;rw[g1,show zm h2 p=some vs2 by unfold zm;rw[g2]];dsimp only;rw[<-qD (reps_iff.mp g3)];split
   ·have r1:Qo (Rep A X h2) [y.1] [w]:=⟨w,[],rfl,q2.1,rfl⟩
    obtain⟨R4,f4⟩:=R2.put ep (reps_iff.mpr (jM (reps_iff.mp g3) r1));have r:Rep A X (h2.set p (.lst false (vs2++[w]))) (.v .non) .non:=by unfold Rep;exact⟨rfl,rfl⟩
    exact⟨.non,_,rfl,f4,R4,r,λ_=>Frs.of_lf R4 r rfl⟩
   ·exact Sim.stuck
  ·exact Sim.stuck
 | .lrng a,A,X,h,M,σ,σh,R,rs=>by
  rw[pe,ev];dsimp only;refine Sim.bind (qi a A X h M σ σh R rs) ?_;intro x M1 v h1 f1 R1 q1;dsimp only;obtain⟨t,fr⟩:=x;dsimp only;split
  ·rename_i j;cases zz q1.1;dsimp only;split
   ·have r:qa A X h1 (zf 0 j.toNat) (QM 0 j.toNat):=by
     have e:zf 0 j.toNat=(QM 0 j.toNat).map .v:=by unfold zf QM;rw[List.map_map];rfl
     rw[e];exact QZ (by simp[QM,flat])
    exact(Jn (f:=true) R1 r (wF _) λ_=>Frss.of_lf R1 r (S2 0 _)).le f1.1
   ·exact Sim.stuck
  ·exact Sim.stuck
 | .meth m a as,A,X,h,M,σ,σh,R,rs=>by
  rw[pe,ev];dsimp only;refine Sim.bind (qi a A X h M σ σh R rs) ?_;intro x M1 v h1 f1 R1 q1;dsimp only;obtain⟨t,fr⟩:=x;dsimp only;split
  ·rename_i n;have q:=q1.1;unfold Rep at q;obtain⟨p,ep,rfl⟩:=q;obtain⟨ts,vs,e1,e2,e3⟩:=R1.at_ n p ep;dsimp only;rw[qb e2];dsimp only;refine Sim.bind (Qa as A X h1 M1 σ σh R1 (R.keepS f1 rs)) ?_;intro y M2 w h2 f2 R2 q2;dsimp only;exact(y6 R2 ep q2.1).le (wL f1.1 f2.1)
  ·exact Sim.stuck
theorem Qa:∀(e:Es) (A X:List Nat) (h:AH) (M:Mem) (σ:TS) (σh:List (Option V)),RelM gl A X h M->QL A X h σ σh->Sim gl A X h (QEs gl A X h.length) (pes gl P e σ M) (evs F e σh h)
 | .nil,A,X,h,M,σ,σh,R,rs=>by
  rw[pes,evs];have r:qa A X h [] []:=by unfold qa;rfl
  exact⟨[],h,rfl,Frm.refl A h,R,r,λ_=>Frss.of_lf R r rfl⟩
 | .cons a as,A,X,h,M,σ,σh,R,rs=>by
  rw[pes,evs];dsimp only;refine Sim.bind (qi a A X h M σ σh R rs) ?_;intro x M1 v h1 f1 R1 q1;dsimp only;obtain⟨fp1,hp1,R1',hlt1⟩:∃fp1:List Nat,(x.2=true->FP X h1 x.1 v fp1/\fp1.Nodup)/\RelM gl A (X++fp1) h1 M1/\∀a∈fp1,h.length<=a:=by
   cases hx2:x.2 with
   |true=>
    obtain⟨fp2,a,b,c,d,_⟩:=q1.2 hx2;exact⟨fp2,λ_=>⟨a,b⟩,d,c⟩
   |false=>exact⟨[],(λz=>by cases z),by rw[wV];exact R1,λa ha=>by simp at ha⟩
  have hX:∀a∈X,a∈X++fp1:=λa z=>wQ _ z;have hn:∀a o,a∉X->h[a]?=some o->a∉X++fp1/\h1[a]?=some o:=λa o x y=>⟨by
   rw[wN];rintro(z|z)
   ·exact x z
   ·have:=hlt1 a z;have:=qY y;omega,(R.keepN f1 a o x y).2⟩
  refine Sim.bindW hX R.sub (Frm.refl A h1) (Qa as A (X++fp1) h1 M1 σ σh R1' (QC (λ_ _ e=>e) hn rs)) ?_;intro y M2 w h2 f2 R2 q2;dsimp only;refine⟨_,h2,rfl,f2,R2.weak hX R.sub,?_,λe=>?_⟩
  ·show qa A X h2 (x.1::y.map (·.1)) (v::w);unfold qa;exact⟨v,w,rfl,R1.keep f2 q1.1,qc (λ_ _ e=>e) (λa o x y=>⟨λz=>x (hX _ z),y⟩) _ q2.1⟩
  ·rw[List.all_cons,wB]at e;obtain⟨a1,b1⟩:=hp1 e.1;obtain⟨fp2,a2,b2,c2,d2⟩:=q2.2 e.2;refine⟨fp1++fp2,?_,?_,?_,by rw[<-wj];exact d2⟩
   ·show FPs X h2 (x.1::y.map (·.1)) (v::w) _;unfold FPs;exact⟨v,w,fp1,fp2,rfl,JG (R1.keepN f2) _ a1,je (λa o x y=>⟨λz=>x (hX _ z),y⟩) _ a2,rfl⟩
   ·rw[vB];refine⟨b1,b2,?_⟩;rintro a ha b hb rfl;exact(ZD _ a2 a hb).1 (wT _ ha)
   ·intro a ha;rcases wN.mp ha with z|z
    ·exact hlt1 a z
    ·exact wL f1.1 (c2 a z)
theorem qD1:∀(e:Es) (A X:List Nat) (h:AH) (M:Mem) (σ:TS) (σh:List (Option V)),RelM gl A X h M->QL A X h σ σh->Sim gl A X h (λb b' _ _=>b=b') (pec gl P e σ M) (evc F e σh h)
 | .nil,A,X,h,M,σ,σh,R,rs=>by
  rw[pec,evc];exact⟨true,h,rfl,Frm.refl A h,R,rfl⟩
 | .cons a as,A,X,h,M,σ,σh,R,rs=>by
  rw[pec,evc];exact S7 (qi a A X h M σ σh R rs)
theorem qA0:∀(e:Itr) (A X:List Nat) (h:AH) (M:Mem) (σ:TS) (σh:List (Option V)),RelM gl A X h M->QL A X h σ σh->Sim gl A X h (λs sh h' _=>ZH A X h' sh s.1 s.2) (pei gl P e σ M) (evi F e σh h)
 | .list a,A,X,h,M,σ,σh,R,rs=>by
  rw[pei,evi];dsimp only;refine Sim.bind (qi a A X h M σ σh R rs) ?_;intro x M1 v h1 f1 R1 q1;dsimp only;refine tJ λs es=>?_;obtain⟨p,sh,rfl,e1,e2⟩:=qCZ R1 q1.1 es;exact⟨sh,h1,e1,Frm.refl A h1,R1,e2⟩
 | .rng1 a,A,X,h,M,σ,σh,R,rs=>by
  rw[pei,evi];dsimp only;refine Sim.bind (qi a A X h M σ σh R rs) ?_;intro x M1 v h1 f1 R1 q1;dsimp only;obtain⟨t,fr⟩:=x;dsimp only;split
  ·cases zz q1.1;dsimp only;split
   ·exact⟨_,h1,rfl,Frm.refl A h1,R1,.rng 0 _⟩
   ·exact Sim.stuck
  ·exact Sim.stuck
 | .rng2 a b,A,X,h,M,σ,σh,R,rs=>by
  rw[pei,evi];dsimp only;refine Sim.bind (qi a A X h M σ σh R rs) ?_;intro x M1 v h1 f1 R1 q1;dsimp only;refine Sim.bind (qi b A X h1 M1 σ σh R1 (R.keepS f1 rs)) ?_;intro y M2 w h2 f2 R2 q2;dsimp only;obtain⟨t,fr⟩:=x;obtain⟨u,fu⟩:=y;dsimp only;split
  ·cases zz q1.1;cases zz q2.1;dsimp only;split
   ·exact⟨_,h2,rfl,Frm.refl A h2,R2,.rng _ _⟩
   ·exact Sim.stuck
  ·exact Sim.stuck
 | .zip a b,A,X,h,M,σ,σh,R,rs=>by
  rw[pei,evi];dsimp only;refine Sim.bind (qi a A X h M σ σh R rs) ?_;intro x M1 v h1 f1 R1 q1;dsimp only;refine Sim.bind (qi b A X h1 M1 σ σh R1 (R.keepS f1 rs)) ?_;intro y M2 w h2 f2 R2 q2;dsimp only;refine tJ λs es=>tJ λt et=>?_;obtain⟨p,vs,rfl,e1,e2⟩:=J9 R2 (R1.keep f2 q1.1) es;obtain⟨q,us,rfl,e3,e4⟩:=J9 R2 q2.1 et;dsimp only;rw[e1,e3];exact⟨_,h2,rfl,Frm.refl A h2,R2,.zip p q _ _ _ _ e2 e4⟩
 | .enum a,A,X,h,M,σ,σh,R,rs=>by
  rw[pei,evi];dsimp only;refine Sim.bind (qi a A X h M σ σh R rs) ?_;intro x M1 v h1 f1 R1 q1;dsimp only;refine tJ λs es=>?_;obtain⟨p,vs,rfl,e1,e2⟩:=J9 R1 q1.1 es;dsimp only;rw[e1];exact⟨_,h1,rfl,Frm.refl A h1,R1,.enum p _ _ e2⟩
 | .rng3 a b,A,X,h,M,σ,σh,R,rs=>by
  rw[pei,evi];dsimp only;refine Sim.bind (qi a A X h M σ σh R rs) ?_;intro x M1 v h1 f1 R1 q1;dsimp only;refine Sim.bind (qi b A X h1 M1 σ σh R1 (R.keepS f1 rs)) ?_;intro y M2 w h2 f2 R2 q2;dsimp only;obtain⟨t,fr⟩:=x;obtain⟨u,fu⟩:=y;dsimp only;split
  ·cases zz q1.1;cases zz q2.1;dsimp only;split
   ·exact⟨_,h2,rfl,Frm.refl A h2,R2,.rngd _ _⟩
   ·exact Sim.stuck
  ·exact Sim.stuck
end
end
mutual
theorem V3{X Af Xf:List Nat}{h:AH}(hX:∀a o,(∀vs,o≠O.lst false vs)->h[a]?=some o->a∉X->a∉Xf):∀(t:T) (n:Nat){w:V}{fp:List Nat},FP X h t w fp->(∀(k:Nat) a,fp[k]?=some a->Af[n+k]?=some a) ->
  (thaw n t).2.length=fp.length/\Rep Af Xf h (thaw n t).1 w/\∀(k:Nat) ts',(thaw n t).2[k]?=some ts'->∃a vs,fp[k]?=some a/\h[a]?=some (.lst false vs)/\qa Af Xf h ts' vs
 | .v x,n,w,fp,p,ha=>by unfold FP at p;obtain⟨p1,rfl⟩:=p;rw[show thaw n (.v x)=(.v x,[]) by simp[thaw]];exact⟨rfl,by unfold Rep;exact p1,λk ts' e=>by simp at e⟩
 | .cell _,n,w,fp,p,ha=>by unfold FP at p;exact p.elim
 | .ob o,n,w,fp,p,ha=>by unfold FP at p;obtain⟨⟨a,rfl,q1,q2⟩,rfl⟩:=p;rw[show thaw n (.ob o)=(.ob o,[]) by simp[thaw]];exact⟨rfl,by unfold Rep;exact⟨a,rfl,hX a _ (by intro _ z;cases z) q2 q1,q2⟩,λk ts' e=>by simp at e⟩
 | .fz _,n,w,fp,p,ha=>by unfold FP at p;exact p.elim
 | .lst ts,n,w,fp,p,ha=>by
  unfold FP at p;obtain⟨a,vs,f,rfl,q1,q2,q3,rfl⟩:=p;obtain⟨l,r,c⟩:=Jm hX ts n q3 (λk a e=>ha k a (by rw[wD (wC.mp e).1];exact e));rw[thaw];refine⟨by simp[l],?_,λk ts' e=>?_⟩
  ·show Rep Af Xf h (.cell _) _;unfold Rep;refine⟨a,ha _ a ?_,rfl⟩;rw[l,wO (wF _),Nat.sub_self];rfl
  ·dsimp only at e;by_cases hk:k<f.length
   ·rw[wD (by rw[l];exact hk)]at e;obtain⟨b,us,e1,e2,e3⟩:=c k ts' e;exact⟨b,us,by rw[wD hk];exact e1,e2,e3⟩
   ·rw[wO (by rw[l];omega),l]at e;have hk2:k-f.length=0:=by
     have:=(wC.mp e).1;simp at this;omega
    rw[hk2]at e;simp at e;subst e;exact⟨a,vs,by rw[wO (by omega),hk2];rfl,q2,r⟩
 | .tup ts,n,w,fp,p,ha=>by
  unfold FP at p;obtain⟨a,vs,rfl,q1,q2,q3⟩:=p;obtain⟨l,r,c⟩:=Jm hX ts n q3 ha;rw[thaw];refine⟨l,?_,c⟩;show Rep Af Xf h (.tup _) _;unfold Rep;exact⟨a,vs,rfl,hX a _ (by intro _ z;cases z) q2 q1,q2,r⟩
theorem Jm{X Af Xf:List Nat}{h:AH}(hX:∀a o,(∀vs,o≠O.lst false vs)->h[a]?=some o->a∉X->a∉Xf):∀(ts:List T) (n:Nat){ws:List V}{fp:List Nat},FPs X h ts ws fp->(∀(k:Nat) a,fp[k]?=some a->Af[n+k]?=some a) ->
  (Qx n ts).2.length=fp.length/\qa Af Xf h (Qx n ts).1 ws/\∀(k:Nat) ts',(Qx n ts).2[k]?=some ts'->∃a vs,fp[k]?=some a/\h[a]?=some (.lst false vs)/\qa Af Xf h ts' vs
 | [],n,ws,fp,p,ha=>by unfold FPs at p;obtain⟨rfl,rfl⟩:=p;rw[Qx];exact⟨rfl,by unfold qa;rfl,λk ts' e=>by simp at e⟩
 |t::ts,n,ws,fp,p,ha=>by
  unfold FPs at p;obtain⟨v,vs,f1,f2,rfl,q1,q2,rfl⟩:=p;obtain⟨l1,r1,c1⟩:=V3 hX t n q1 (λk a e=>ha k a (by rw[wD (wC.mp e).1];exact e));obtain⟨l2,r2,c2⟩:=Jm hX ts (n+(thaw n t).2.length) q2 (λk a e=>by
   have:=ha (f1.length+k) a (by rw[wO (by omega),vC];exact e);rw[l1,Nat.add_assoc];exact this)
  rw[Qx];refine⟨by dsimp only;rw[wX,wX,l2,l1],?_,λk ts' e=>?_⟩
  ·show qa Af Xf h (_::_) _;unfold qa;exact⟨v,vs,rfl,r1,r2⟩
  ·dsimp only at e;by_cases hk:k<f1.length
   ·rw[wD (by rw[l1];exact hk)]at e;obtain⟨b,us,e1,e2,e3⟩:=c1 k ts' e;exact⟨b,us,by rw[wD hk];exact e1,e2,e3⟩
   ·rw[wO (by rw[l1];omega)]at e;obtain⟨b,us,e1,e2,e3⟩:=c2 _ ts' e;rw[l1]at e1;exact⟨b,us,by rw[wO (by omega)];exact e1,e2,e3⟩
end
theorem RelM.thaw{gl:List T}{A X fp:List Nat}{h:AH}{M:Mem}{t:T}{w:V}(R:RelM gl A (X++fp) h M)(hA:∀a∈A,a∈X)(p:FP X h t w fp)(nd:fp.Nodup):
  RelM gl (A++fp) (X++fp) h (M++(_P.thaw M.length t).2)/\Rep (A++fp) (X++fp) h (_P.thaw M.length t).1 w:=by
 have hX:∀a o,(∀vs,o≠O.lst false vs)->h[a]?=some o->a∉X->a∉X++fp:=λa o hno e x=>by
  rw[wN];rintro(z|z)
  ·exact x z
  ·obtain⟨_,us,e2⟩:=L7 t p a z;rw[e]at e2;cases e2;exact hno _ rfl
 obtain⟨l,r,c⟩:=V3 (Af:=A++fp) hX t M.length p (λk a e=>by rw[<-R.len,wO (by omega),vC];exact e);refine⟨⟨by simp[R.len,l],?_,?_,R.lt,λn a e=>?_,λg t e=>?_⟩,r⟩
 ·rw[vB];exact⟨R.nd,nd,by rintro a ha b hb rfl;exact(L7 t p a hb).1 (hA a ha)⟩
 ·intro a ha;rcases wN.mp ha with z|z
  ·exact wQ _ (hA a z)
  ·exact wT _ z
 ·by_cases hn:n<A.length
  ·rw[wD hn]at e;obtain⟨ts,vs,e1,e2,e3⟩:=R.at_ n a e;exact⟨ts,vs,by rw[wD (by rw[<-R.len];exact hn)];exact e1,e2,qc (λk b eb=>by rw[wD (wC.mp eb).1];exact eb) (λa o x y=>⟨x,y⟩) ts e3⟩
  ·rw[wO (by omega)]at e;have hk:n-A.length<(_P.thaw M.length t).2.length:=by rw[l];exact(wC.mp e).1
   obtain⟨b,us,e1,e2,e3⟩:=c (n-A.length) _ (wE hk);rw[e]at e1;cases e1;have hnm:n-M.length=n-A.length:=by rw[R.len]
   exact⟨_,us,by rw[wO (by rw[<-R.len];omega),hnm];exact wE hk,e2,e3⟩
 ·exact jI (λk b eb=>by rw[wD (wC.mp eb).1];exact eb) (λa o x y=>⟨x,y⟩) t (R.glo g t e)
theorem E4{A X:List Nat}{h:AH}(n:Nat):∀{ts:List T}{ws:List V},qa A X h ts ws->QL A X h (ts.map some++List.replicate n none) (ws.map some++List.replicate n none)
 | [],ws,r=>by
  unfold qa at r;subst r;show QL A X h (List.replicate n none) (List.replicate n none)
  induction n with
  |zero=>rfl
  |succ n ih=>exact⟨none,_,rfl,trivial,ih⟩
 |t::ts,ws,r=>by
  unfold qa at r;obtain⟨v,vs,rfl,a,b⟩:=r;exact⟨some v,_,rfl,a,E4 n b⟩
def RelO(gl:List T)(A X:List Nat)(n:Nat)(h:AH)(M:Mem):PO->Out->Prop
 | .nx σ,.nx σh=>QL A X h σ σh
 | .bk σ,.bk σh=>QL A X h σ σh
 | .ct σ,.ct σh=>QL A X h σ σh
 | .rt t,.rt w=>QE gl A X n t w h M
 |_,_=>False
theorem RelO.le{gl:List T}{A X:List Nat}{n m:Nat}{h:AH}{M:Mem}{o:PO}{oh:Out}(r:RelO gl A X n h M o oh)(l:m<=n):RelO gl A X m h M o oh:=by
 cases o<;>cases oh<;>first|exact r|exact QE.le r l
def SimS(gl:List T)(A X:List Nat)(h:AH):RSt->RS->Prop
 | .ok (o,M'),r=>∃oh h' B,r=.ok (oh,h')/\Frm A h h'/\(∀b∈B,h.length<=b)/\RelM gl (A++B) (X++B) h' M'/\RelO gl (A++B) (X++B) h.length h' M' o oh
 | .exc c M',r=>∃h' B,r=.exc c h'/\Frm A h h'/\(∀b∈B,h.length<=b)/\RelM gl (A++B) (X++B) h' M'
 | .stuck,_=>True
theorem SimS.stuck{gl:List T}{A X:List Nat}{h:AH}{r:RS}:SimS gl A X h .stuck r:=trivial
theorem SimS.mk{gl:List T}{A X:List Nat}{h:AH}{M:Mem}{o:PO}{oh:Out}(R:RelM gl A X h M)(ro:RelO gl A X h.length h M o oh):SimS gl A X h (.ok (o,M)) (.ok (oh,h)):=
 ⟨oh,h,[],rfl,Frm.refl A h,λb hb=>by simp at hb,by simpa using R,by simpa using ro⟩
theorem SimS.pre{gl:List T}{A X:List Nat}{h h1:AH}{r:RSt}{rh:RS}(s:SimS gl A X h1 r rh)(f:Frm A h h1):SimS gl A X h r rh:=by
 cases r with
 |ok p=>
  obtain⟨o,M'⟩:=p;obtain⟨oh,h',B,e,f1,hB,R,ro⟩:=s;exact⟨oh,h',B,e,f.trans f1,λb hb=>wL f.1 (hB b hb),R,ro.le f.1⟩
 |exc c M'=>
  obtain⟨h',B,e,f1,hB,R⟩:=s;exact⟨h',B,e,f.trans f1,λb hb=>wL f.1 (hB b hb),R⟩
 |stuck=>trivial
theorem Sim.bindS{α β:Type}{gl:List T}{A X:List Nat}{h:AH}{Q:α->β->AH->Mem->Prop}{r:PR (α×Mem)}{rh:Res (β×AH)}{f:α×Mem->RSt}{g:β×AH->RS}
  (s:Sim gl A X h Q r rh) (k:∀x M' y h',Frm A h h'->RelM gl A X h' M'->Q x y h' M'->SimS gl A X h' (f (x,M')) (g (y,h'))):SimS gl A X h (r.bind f) (rh.bind g):=by
 cases r with
 |ok p=>
  obtain⟨x,M'⟩:=p;obtain⟨y,h',rfl,f1,R1,q⟩:=s;exact(k x M' y h' f1 R1 q).pre f1
 |exc c M'=>
  obtain⟨h',rfl,f1,R1⟩:=s;exact⟨h',[],rfl,f1,λb hb=>by simp at hb,by simpa using R1⟩
 |stuck=>trivial
theorem SimS.bind{gl:List T}{A X:List Nat}{h:AH}{r:RSt}{rh:RS}{f:PO×Mem->RSt}{g:Out×AH->RS}
  (s:SimS gl A X h r rh) (k:∀o M' oh h' B,Frm A h h'->(∀b∈B,h.length<=b)->RelM gl (A++B) (X++B) h' M'->RelO gl (A++B) (X++B) h.length h' M' o oh->SimS gl (A++B) (X++B) h' (f (o,M')) (g (oh,h'))\/(f (o,M')=.ok (o,M')/\g (oh,h')=.ok (oh,h'))):SimS gl A X h (r.bind f) (rh.bind g):=by
 cases r with
 |ok p=>
  obtain⟨o,M'⟩:=p;obtain⟨oh,h',B,rfl,f1,hB,R,ro⟩:=s;rw[tD,tF];rcases k o M' oh h' B f1 hB R ro with s2|⟨e1,e2⟩
  ·revert s2;generalize f (o,M')=r2;generalize g (oh,h')=rh2;intro s2;cases r2 with
   |ok p2=>
    obtain⟨o2,M2⟩:=p2;obtain⟨oh2,h2,B2,rfl,f2,hB2,R2,ro2⟩:=s2;rw[wj,wj]at R2 ro2;exact⟨oh2,h2,B++B2,rfl,f1.trans2 hB f2,λb hb=>by
     rcases wN.mp hb with z|z
     ·exact hB b z
     ·exact wL f1.1 (hB2 b z),R2,ro2.le f1.1⟩
   |exc c M2=>
    obtain⟨h2,B2,rfl,f2,hB2,R2⟩:=s2;rw[wj,wj]at R2;exact⟨h2,B++B2,rfl,f1.trans2 hB f2,λb hb=>by
     rcases wN.mp hb with z|z
     ·exact hB b z
     ·exact wL f1.1 (hB2 b z),R2⟩
   |stuck=>trivial
  ·rw[e1,e2];exact⟨oh,h',B,rfl,f1,hB,R,ro⟩
 |exc c M'=>
  obtain⟨h',B,rfl,f1,hB,R⟩:=s;exact⟨h',B,rfl,f1,hB,R⟩
 |stuck=>trivial
theorem N3{A X B:List Nat}{h h':AH}(hs:∀a∈A,a∈X)(f:Frm A h h')(hB:∀b∈B,h.length<=b):∀a o,a∉X->h[a]?=some o->a∉X++B/\h'[a]?=some o:=λa o x y=>⟨by
 rw[wN];rintro(z|z)
 ·exact x z
 ·have:=hB a z;have:=qY y;omega,(f.2 a (qY y) λz=>x (hs _ z)).trans y⟩
theorem jw{A B:List Nat}:∀(n:Nat) a,A[n]?=some a->(A++B)[n]?=some a:=λn a e=>by rw[wD (wC.mp e).1];exact e
theorem j3{gl:List T}{s:Src}{its:List T}{d:Qy}{g:Tg}{b:TS->Mem->RSt}{b':List (Option V)->AH->RS}
  (hb:∀A X h M σ σh,RelM gl A X h M->QL A X h σ σh->SimS gl A X h (b σ M) (b' σh h)):∀(r:List T) (i:Nat) (σ:TS) (σh:List (Option V)) (M:Mem) (h:AH) (A X:List Nat),
   its.drop i=r->i<=its.length->RelM gl A X h M->ZH A X h s its d->QL A X h σ σh->SimS gl A X h (zg d g b r σ M) (v8 s g b' r.length i σh h)
 | [],i,σ,σh,M,h,A,X,hr,hi,R,sr,rs=>by
  have hi':i=its.length:=by
   have:=List.drop_eq_nil_iff.mp hr;omega
  subst hi';show SimS gl A X h (.ok (.nx σ,M)) (if QN h its.length s then _ else _);rw[if_pos (D8 sr)];exact SimS.mk R rs
 |x::r,i,σ,σh,M,h,A,X,hr,hi,R,sr,rs=>by
  have ex:its[i]?=some x:=by
   have:(its.drop i)[0]?=some x:=by rw[hr];rfl
   rwa [List.getElem?_drop,Nat.add_zero]at this
  have hi2:i+1<=its.length:=(wC.mp ex).1;have hr2:its.drop (i+1)=r:=by
   rw[<-List.drop_drop,hr];rfl
  obtain⟨w,ext,ey,rx⟩:=JE R sr ex;have fy:Frm A h (h++ext):=Frm.app A h ext;rw[List.length_cons];unfold zg v8;rw[ey];dsimp only;cases es:jR g x σ with
  |none=>exact SimS.stuck
  |some σ1=>
   obtain⟨σh1,esh,rs1⟩:=Qf es rx (R.keepS fy rs);rw[esh];dsimp only;refine SimS.bind ((hb A X _ M σ1 σh1 (R.up ext) rs1).pre fy) ?_;intro o M2 oh h2 B f2 hB R2 ro;have nxt:∀σ2 σh2,QL (A++B) (X++B) h2 σ2 σh2->SimS gl (A++B) (X++B) h2 (if ql d M2=true then zg d g b r σ2 M2 else .stuck) (v8 s g b' r.length (i+1) σh2 h2):=λσ2 σh2 rs2=>by
    split
    ·rename_i hd;exact j3 hb r (i+1) σ2 σh2 M2 h2 _ _ hr2 hi2 R2 (JM sr (N3 R.sub f2 hB) R2 hd jw) rs2
    ·exact SimS.stuck
   cases o with
   |nx σ2=>cases oh<;>first|exact .inl (nxt _ _ ro)|exact ro.elim
   |ct σ2=>cases oh<;>first|exact .inl (nxt _ _ ro)|exact ro.elim
   |bk σ2=>cases oh<;>first|exact .inl (SimS.mk R2 ro)|exact ro.elim
   |rt t=>cases oh<;>first|exact .inr ⟨rfl,rfl⟩|exact ro.elim
theorem Zg{gl:List T}{c:TS->Mem->PR (Bool×Mem)}{c':List (Option V)->AH->Res (Bool×AH)}{b:TS->Mem->RSt}{b':List (Option V)->AH->RS}
  (hc:∀A X h M σ σh,RelM gl A X h M->QL A X h σ σh->Sim gl A X h (λb b' _ _=>b=b') (c σ M) (c' σh h))
  (hb:∀A X h M σ σh,RelM gl A X h M->QL A X h σ σh->SimS gl A X h (b σ M) (b' σh h)):∀(n:Nat) (σ:TS) (σh:List (Option V)) (M:Mem) (h:AH) (A X:List Nat),
   RelM gl A X h M->QL A X h σ σh->SimS gl A X h (ze c b n σ M) (Qg c' b' n σh h)
 | 0,σ,σh,M,h,A,X,R,rs=>SimS.stuck
 |n+1,σ,σh,M,h,A,X,R,rs=>by
  unfold ze Qg;refine Sim.bindS (hc A X h M σ σh R rs) ?_;rintro t M1 t' h1 f1 R1 rfl;dsimp only;cases t with
  |false=>exact SimS.mk R1 (R.keepS f1 rs)
  |true=>
   simp only[if_true];refine SimS.bind (hb A X h1 M1 σ σh R1 (R.keepS f1 rs)) ?_;intro o M2 oh h2 B f2 hB R2 ro;cases o with
   |nx σ2=>cases oh<;>first|exact .inl (Zg hc hb n _ _ M2 h2 _ _ R2 ro)|exact ro.elim
   |ct σ2=>cases oh<;>first|exact .inl (Zg hc hb n _ _ M2 h2 _ _ R2 ro)|exact ro.elim
   |bk σ2=>cases oh<;>first|exact .inl (SimS.mk R2 ro)|exact ro.elim
   |rt t=>cases oh<;>first|exact .inr ⟨rfl,rfl⟩|exact ro.elim
section
variable{gl:List T}{P:Nat->List T->Mem->PR (TB×Mem)}{F:Nat->List V->AH->RV}(C:List Nat)
variable (hF:∀f ts ws A X h M,RelM gl A X h M->qa A X h ts ws->Sim gl A X h (QE gl A X h.length) (P f ts M) (F f ws h))
include hF
omit hF in
omit hF in
def qHR(gl:List T)(A X:List Nat)(h:AH):PR (TB×Mem)->RV->Prop
 | .ok ((.lst ts,_),M1),r=>∃h1 vs,r=.ok (.ref h1.length,h1++[.lst false vs])/\Frm A h h1/\RelM gl A X h1 M1/\qa A X h1 ts vs
 |_,_=>True
omit hF in
theorem RelM.cellN{gl:List T}{A X:List Nat}{h:AH}{M:Mem}{ts:List T}{vs:List V}(R:RelM gl A X h M)(r:qa A X h ts vs):RelM gl (A++[h.length]) (X++[h.length]) (h++[.lst false vs]) (M++[ts]):=by
 have hn:∀a o,a∉X->h[a]?=some o->a∉X++[h.length]/\(h++[O.lst false vs])[a]?=some o:=N3 R.sub (Frm.app A h _) (λb hb=>by simp at hb;omega);refine⟨by simp[R.len],?_,λa ha=>?_,λa ha=>?_,λn a e=>?_,λg t e=>jI jw hn t (R.glo g t e)⟩
 ·rw[vB];refine⟨R.nd,by simp,λa ha b hb=>?_⟩;have:=R.lt a (R.sub a ha);simp at hb;omega
 ·rcases wN.mp ha with z|z
  ·exact wQ _ (R.sub a z)
  ·exact wT _ z
 ·rcases wN.mp ha with z|z
  ·have:=R.lt a z;simp;omega
  ·simp at z;simp[z]
 ·by_cases hlt:n<A.length
  ·rw[wD hlt]at e;obtain⟨us,ws,e1,e2,e3⟩:=R.at_ n a e;exact⟨us,ws,by rw[wD (by rw[<-R.len];exact hlt)];exact e1,by rw[wD (qY e2)];exact e2,qc jw hn us e3⟩
  ·have hl:=(wC.mp e).1;have hnn:n=A.length:=by simp at hl;omega
   subst hnn;simp at e;subst e;exact⟨ts,vs,by rw[R.len];simp,by simp,qc jw hn ts r⟩
omit hF in
theorem Y3{e:E}(h:qC6 e=true):(∃as,e=.lst as)\/∃a b,e=.bin .add a b:=by
 unfold qC6 at h;split at h
 ·exact .inr ⟨_,_,rfl⟩
 ·exact .inl ⟨_,rfl⟩
 ·cases h
theorem qB6(e:E)(he:qC6 e=true)(A X:List Nat)(h:AH)(M:Mem)(σ:TS)(σh:List (Option V))(R:RelM gl A X h M)(rs:QL A X h σ σh):qHR gl A X h (pe gl P e σ M) (ev F e σh h):=by
 rcases Y3 he with⟨as,rfl⟩|⟨a,b,rfl⟩
 ·rw[pe,ev];dsimp only;have s1:=Qa hF as A X h M σ σh R rs;revert s1;generalize pes gl P as σ M=r;generalize evs F as σh h=rh;intro s1;cases r with
  |stuck=>trivial
  |exc c M'=>trivial
  |ok p=>
   obtain⟨x,M1⟩:=p;obtain⟨w,h1,rfl,f1,R1,q⟩:=s1;rw[tD,tF];dsimp only;rw[<-q.len];split
   ·exact⟨h1,w,rfl,f1,R1,q.1⟩
   ·trivial
 ·rw[pe,ev];dsimp only;have s1:=qi hF a A X h M σ σh R rs;revert s1;generalize pe gl P a σ M=r;generalize ev F a σh h=rh;intro s1;cases r with
  |stuck=>trivial
  |exc c M'=>trivial
  |ok p=>
   obtain⟨x,M1⟩:=p;obtain⟨v,h1,rfl,f1,R1,q1⟩:=s1;rw[tD,tF];dsimp only;have s2:=qi hF b A X h1 M1 σ σh R1 (R.keepS f1 rs);revert s2;generalize pe gl P b σ M1=r;generalize ev F b σh h1=rh;intro s2;cases r with
   |stuck=>trivial
   |exc c M'=>trivial
   |ok p=>
    obtain⟨y,M2⟩:=p;obtain⟨w,h2,rfl,f2,R2,q2⟩:=s2;rw[tD,tF];dsimp only;have rx:=R1.keep f2 q1.1;cases eb:zW M2 .add x.1 y.1 with
    |none=>trivial
    |some r=>
     rw[PR.ofO_some,tD];unfold zW at eb;split at eb
     ·cases eb;trivial
     ·cases eb
     ·rename_i e1 e2;dsimp only at eb;split at eb
      ·split at eb
       ·cases eb;trivial
       ·cases eb
      rename_i u0 u1 u2;clear u2;obtain⟨xs,m1,eb⟩:=wH.mp eb;obtain⟨ys,m2,eb⟩:=wH.mp eb;split at eb
      ·rename_i hl;cases eb;obtain⟨a1,vs,rfl,g1,k1⟩:=X2 R2 rx m1;obtain⟨a2,us,rfl,g2,k2⟩:=X2 R2 q2.1 m2;refine⟨h2,vs++us,?_,f1.trans f2,R2,reps_iff.mpr (jM (reps_iff.mp k1) (reps_iff.mp k2))⟩;show (match zm h2 a1,zm h2 a2 with|some xs,some ys=>if xs.length+ys.length<=lim then newL (xs++ys) h2 else .stuck|_,_=>_)=_;rw[g1,g2];dsimp only;rw[<-qD (reps_iff.mp k1),<-qD (reps_iff.mp k2),if_pos hl];rfl
      ·cases eb
     ·cases eb
omit hF in
omit hF in
omit hF in
omit hF in
omit hF in
omit hF in
omit hF in
omit hF in
def SimN(gl:List T)(A X:List Nat)(D n0:Nat)(h:AH):RSt->RS->Prop
 | .ok (o,M'),r=>∃oh h',r=.ok (oh,h')/\Frm (A++[D]) h h'/\RelM gl A X h' M'/\RelO gl A X n0 h' M' o oh
 | .exc _ _,_=>False
 | .stuck,_=>True
omit hF in
theorem SimN.pre{A X:List Nat}{D n0:Nat}{h h1:AH}{r:RSt}{rh:RS}(s:SimN gl A X D n0 h1 r rh)(f:Frm (A++[D]) h h1):SimN gl A X D n0 h r rh:=by
 match r,s with
 | .ok (o,M'),⟨oh,h',e,f1,R,ro⟩=>exact⟨oh,h',e,f.trans f1,R,ro⟩
 | .exc _ _,z=>exact z.elim
 | .stuck,_=>trivial
omit hF in
theorem Frm.more{A:List Nat}{D:Nat}{h h':AH}(f:Frm A h h'):Frm (A++[D]) h h':=⟨f.1,λj hj hA=>f.2 j hj λz=>hA (wQ _ z)⟩
mutual
theorem qFT:∀(s:S) (A X:List Nat) (h:AH) (M:Mem) (σ:TS) (σh:List (Option V)),RelM gl A X h M->QL A X h σ σh->SimS gl A X h (px gl P C s σ M) (ex F s σh h)
 | .asg g e,A,X,h,M,σ,σh,R,rs=>by
  rw[px,ex];dsimp only;have se:=qi hF e A X h M σ σh R rs;have tp:=λhe=>qB6 hF e he A X h M σ σh R rs;revert se tp;generalize pe gl P e σ M=r;generalize ev F e σh h=rh;intro se tp;cases r with
  |stuck=>trivial
  |exc c M'=>
   obtain⟨h',rfl,f1,R1⟩:=se;exact⟨h',[],rfl,f1,λb hb=>by simp at hb,by simpa using R1⟩
  |ok p=>
   obtain⟨x,M1⟩:=p;obtain⟨w,h1,rfl,f1,R1,q⟩:=se;rw[tD,tF];dsimp only;have gen:∀{g:Tg}{σ1:TS},jR g x.1 σ=some σ1->SimS gl A X h (.ok (.nx σ1,M1)) (match store g w σh h1 with|some σ1=>.ok (.nx σ1,h1)|none=>.stuck):=λe=>by
    obtain⟨σh1,e2,rs2⟩:=Qf e q.1 (R.keepS f1 rs);rw[e2];exact(SimS.mk (o:=.nx _) (oh:=.nx _) R1 rs2).pre f1
   cases g with
   |name i=>
    dsimp only;split
    ·rename_i hc;rw[wB]at hc;obtain⟨fp,p,nd,l,R',_⟩:=q.2 hc.2;obtain⟨R2,r2⟩:=R'.thaw R.sub p nd;refine⟨.nx (σh.set i (some w)),h1,fp,rfl,f1,l,R2,?_⟩;exact QD i (QC jw (N3 R.sub f1 l) rs) (show qCz _ _ h1 (some _) (some w) from r2)
    ·split
     ·rename_i hc;rw[wB]at hc;have tp:=tp hc.2;obtain⟨x1,x2⟩:=x;dsimp only;split
      ·rename_i ts;obtain⟨h0,vs,e0,f0,R0,r0⟩:=tp;cases e0;refine⟨.nx (σh.set i (some (.ref h0.length))),_,[h0.length],rfl,f0.trans (Frm.app A h0 _),λb hb=>by simp at hb;have:=f0.1;omega,R0.cellN r0,?_⟩;refine QD i (QC jw (N3 R0.sub (Frm.app A h0 _) (λb hb=>by simp at hb;omega)) (R.keepS f0 rs)) (show qCz _ _ _ (some _) (some _) from ?_);have rc:Rep (A++[h0.length]) (X++[h0.length]) (h0++[O.lst false vs]) (.cell M1.length) (.ref h0.length):=by
        unfold Rep;exact⟨h0.length,by rw[<-R0.len];simp,rfl⟩
       exact rc
      ·exact SimS.stuck
     ·exact gen (g:=.name i) rfl
   |tup is=>
    dsimp only;split
    ·rename_i σ1 e;exact gen e
    ·exact SimS.stuck
 | .put o i v,A,X,h,M,σ,σh,R,rs=>by
  rw[px,ex];dsimp only;refine Sim.bindS (qi hF v A X h M σ σh R rs) ?_;intro x M1 vx h1 f1 R1 q1;dsimp only;refine Sim.bindS (qi hF o A X h1 M1 σ σh R1 (R.keepS f1 rs)) ?_;intro y M2 w h2 f2 R2 q2;dsimp only;refine Sim.bindS (qi hF i A X h2 M2 σ σh R2 (R1.keepS f2 (R.keepS f1 rs))) ?_;intro z M3 u h3 f3 R3 q3;dsimp only;obtain⟨ty,fy⟩:=y;obtain⟨tz,fz⟩:=z;dsimp only;split
  ·rename_i n k;cases zz q3.1;have q:=R2.keep f3 q2.1;unfold Rep at q;obtain⟨p,ep,rfl⟩:=q;obtain⟨ts2,vs2,g1,g2,g3⟩:=R3.at_ n p ep;rw[g1];dsimp only;rw[show zm h3 p=some vs2 by unfold zm;rw[g2]];dsimp only;rw[<-qD (reps_iff.mp g3)];split
   ·rename_i j ej
    try simp only[ej]
    obtain⟨R4,f4⟩:=R3.put ep (reps_iff.mpr (QD j (reps_iff.mp g3) (R2.keep f3 (R1.keep f2 q1.1))));exact(SimS.mk (o:=.nx σ) (oh:=.nx σh) R4 (R3.keepS f4 (R2.keepS f3 (R1.keepS f2 (R.keepS f1 rs))))).pre f4
   ·exact SimS.stuck
  ·exact SimS.stuck
 | .expr e,A,X,h,M,σ,σh,R,rs=>by
  rw[px,ex];dsimp only;refine Sim.bindS (qi hF e A X h M σ σh R rs) ?_;intro x M1 v h1 f1 R1 q1;dsimp only;exact SimS.mk (o:=.nx σ) (oh:=.nx σh) R1 (R.keepS f1 rs)
 | .ret e,A,X,h,M,σ,σh,R,rs=>by
  rw[px,ex];dsimp only;have se:=qi hF e A X h M σ σh R rs;revert se;generalize pe gl P e σ M=r;generalize ev F e σh h=rh;intro se;cases r with
  |stuck=>trivial
  |exc c M'=>
   obtain⟨h',rfl,f1,R1⟩:=se;exact⟨h',[],rfl,f1,λb hb=>by simp at hb,by simpa using R1⟩
  |ok p=>
   obtain⟨x,M1⟩:=p;obtain⟨w,h1,rfl,f1,R1,q⟩:=se;exact⟨.rt w,h1,[],rfl,f1,λb hb=>by simp at hb,by simpa using R1,by simpa using (show RelO gl A X h.length h1 M1 (.rt x) (.rt w) from q)⟩
 | .ifs c t u,A,X,h,M,σ,σh,R,rs=>by
  rw[px,ex];dsimp only;refine Sim.bindS (S7 (qi hF c A X h M σ σh R rs)) ?_;rintro x M1 v h1 f1 R1 rfl;dsimp only;cases x with
  |true=>simp only[if_true];exact JR t A X h1 M1 σ σh R1 (R.keepS f1 rs)
  |false=>simp only[vG,if_false];exact JR u A X h1 M1 σ σh R1 (R.keepS f1 rs)
 | .for_ g it b,A,X,h,M,σ,σh,R,rs=>by
  rw[px,ex];dsimp only;refine Sim.bindS (qA0 hF it A X h M σ σh R rs) ?_;intro s M1 sh h1 f1 R1 q1;dsimp only;rw[O8 q1];exact j3 (λA X h M σ σh R rs=>JR b A X h M σ σh R rs) s.1 0 σ σh M1 h1 A X rfl (vw _) R1 q1 (R.keepS f1 rs)
 | .while_ c b,A,X,h,M,σ,σh,R,rs=>by
  rw[px,ex];dsimp only;exact Zg (λA X h M σ σh R rs=>S7 (qi hF c A X h M σ σh R rs)) (λA X h M σ σh R rs=>JR b A X h M σ σh R rs) qAd σ σh M h A X R rs
 | .stop,A,X,h,M,σ,σh,R,rs=>by rw[px,ex];exact SimS.stuck
theorem JR:∀(s:Ss) (A X:List Nat) (h:AH) (M:Mem) (σ:TS) (σh:List (Option V)),RelM gl A X h M->QL A X h σ σh->SimS gl A X h (pxs gl P C s σ M) (exs F s σh h)
 | .nil,A,X,h,M,σ,σh,R,rs=>by rw[pxs,exs];exact SimS.mk (o:=.nx σ) (oh:=.nx σh) R rs
 | .cons s r,A,X,h,M,σ,σh,R,rs=>by
  rw[pxs,exs];dsimp only;refine SimS.bind (qFT s A X h M σ σh R rs) ?_;intro o M1 oh h1 B f1 hB R1 ro;cases o with
  |nx σ2=>cases oh<;>first|exact .inl (JR r _ _ h1 M1 _ _ R1 ro)|exact ro.elim
  |ct σ2=>cases oh<;>first|exact .inr ⟨rfl,rfl⟩|exact ro.elim
  |bk σ2=>cases oh<;>first|exact .inr ⟨rfl,rfl⟩|exact ro.elim
  |rt t=>cases oh<;>first|exact .inr ⟨rfl,rfl⟩|exact ro.elim
end
end
section
variable{gl:List T}{A X B:List Nat}{h h':AH}{M M1:Mem}
theorem mapM_cons{α β:Type}{f:α->Option β}{x:α}{xs:List α}{ys:List β}(e:(x::xs).mapM f=some ys):∃y ys',f x=some y/\xs.mapM f=some ys'/\ys=y::ys':=by
 rw[vI]at e;cases hf:f x with
 |none=>rw[hf]at e;cases e
 |some y=>
  rw[hf]at e;cases hg:xs.mapM f with
  |none=>rw[hg]at e;cases e
  |some ys'=>rw[hg]at e;cases e;exact⟨y,ys',rfl,rfl,rfl⟩
theorem mapM_nil{α β:Type}{f:α->Option β}{ys:List β}(e:([]:List α).mapM f=some ys):ys=[]:=by
 rw[List.mapM_nil]at e;cases e;rfl
theorem Qe{A1 X1:List Nat}{f:T->Option T}(hf:∀t t' w,f t=some t'->Rep A1 X1 h t w->Rep A X h t' w):∀{ts ts':List T}{vs:List V},ts.mapM f=some ts'->qa A1 X1 h ts vs->qa A X h ts' vs
 | [],ts',vs,e,r=>by cases mapM_nil e;unfold qa at r ⊢;exact r
 |t::ts,ts',vs,e,r=>by
  obtain⟨y,ys,e1,e2,rfl⟩:=mapM_cons e;unfold qa at r ⊢;obtain⟨v,vs',rfl,a,b⟩:=r;exact⟨v,vs',rfl,hf _ _ _ e1 a,Qe hf e2 b⟩
theorem S1(R:RelM gl (A++B) (X++B) h M1)(hB:∀b∈B,b∉X):∀(d:Nat) (t t':T) (w:V),qH M1 A.length d t=some t'->Rep (A++B) (X++B) h t w->Rep A X h t' w:=by
 have hu:∀(t:T) (w:V),t.und A.length=true->Rep (A++B) (X++B) h t w->Rep A X h t w:=λt w u r=>j5 (λn hn=>wD hn) (λa ha=>wQ _ ha) t r u;have hX:∀a,a∉X++B->a∉X:=λa x z=>x (wQ _ z);intro d
 induction d with
 |zero=>
  intro t t' w e r;unfold qH at e;split at e
  ·rename_i u;cases e;exact hu _ w u r
  ·cases e
 |succ d ih=>
  intro t t' w e r;unfold qH at e;split at e
  ·rename_i u;cases e;exact hu _ w u r
  ·rename_i u;cases t with
   |v x=>cases e
   |ob o=>cases e
   |fz ts=>cases e
   |lst ts=>
    obtain⟨ts',e1,rfl⟩:=wA.mp e;unfold Rep at r ⊢;obtain⟨a,vs,rfl,q1,q2,q3⟩:=r;exact⟨a,vs,rfl,hX a q1,q2,Qe ih e1 q3⟩
   |tup ts=>
    obtain⟨ts',e1,rfl⟩:=wA.mp e;unfold Rep at r ⊢;obtain⟨a,vs,rfl,q1,q2,q3⟩:=r;exact⟨a,vs,rfl,hX a q1,q2,Qe ih e1 q3⟩
   |cell n=>
    obtain⟨ts,e0,e⟩:=wH.mp (show (M1[n]?).bind _=_ from e);obtain⟨ts',e1,rfl⟩:=wA.mp e;have hn:A.length<=n:=by
     unfold T.und at u;simpa using u
    unfold Rep at r ⊢;obtain⟨a,ea,rfl⟩:=r;obtain⟨ts2,vs,g1,g2,g3⟩:=R.at_ n a ea;rw[e0]at g1;cases g1;rw[wO hn]at ea;exact⟨a,vs,rfl,hB a (wU ea),g2,Qe ih e1 g3⟩
mutual
theorem Y5(n:Nat):∀(t:T),t.lf=true->t.und n=true
 | .v x,_=>rfl
 | .cell _,l=>by unfold T.lf at l;cases l
 | .ob _,_=>rfl
 | .fz _,l=>by unfold T.lf at l;cases l
 | .lst _,l=>by unfold T.lf at l;cases l
 | .tup ts,l=>by unfold T.lf at l;unfold T.und;exact G2 n ts l
theorem G2(n:Nat):∀(ts:List T),T.lfs ts=true->T.unds n ts=true
 | [],_=>rfl
 |t::ts,l=>by unfold T.lfs at l;rw[wB]at l;unfold T.unds;rw[Y5 n t l.1,G2 n ts l.2];rfl
end
theorem X3{n0:Nat}{f:T->Option (List Nat)}(hf:∀t l,f t=some l->t.und n0=true->t.lf=true):∀{ts:List T}{ls:List (List Nat)},ts.mapM f=some ls->T.unds n0 ts=true->T.lfs ts=true
 | [],ls,e,u=>rfl
 |t::ts,ls,e,u=>by
  obtain⟨y,ys,e1,e2,rfl⟩:=mapM_cons e;unfold T.unds at u;rw[wB]at u;unfold T.lfs;rw[hf t _ e1 u.1,X3 hf e2 u.2];rfl
theorem Y8{n0:Nat}:∀(d:Nat) (t:T) (l:List Nat),jO M1 n0 d t=some l->t.und n0=true->t.lf=true:=by
 intro d
 induction d with
 |zero=>intro t l e u;unfold jO at e;split at e<;>first|assumption|cases e
 |succ d ih=>
  intro t l e u;unfold jO at e;split at e
  ·assumption
  ·cases t with
   |tup ts=>
    obtain⟨ls,e1,rfl⟩:=wA.mp e;unfold T.und at u;unfold T.lf;exact X3 ih e1 u
   |cell n=>
    dsimp only at e;split at e
    ·rename_i hn;unfold T.und at u;simp at u;omega
    ·cases e
   |v x=>cases e
   |ob o=>cases e
   |fz ts=>cases e
   |lst ts=>cases e
theorem JV{A1 X1:List Nat}{n0:Nat}{f:T->Option (List Nat)}{g:T->Option T}(hf:∀t l t' w,f t=some l->g t=some t'->Rep A1 X1 h t w->∃fp,FP X h t' w fp/\fp.map some=l.map (A1[·]?)/\∀n∈l,n0<=n):
  ∀{ts ts':List T}{ls:List (List Nat)}{vs:List V},ts.mapM f=some ls->ts.mapM g=some ts'->qa A1 X1 h ts vs->∃fp,FPs X h ts' vs fp/\fp.map some=ls.flatten.map (A1[·]?)/\∀n∈ls.flatten,n0<=n
 | [],ts',ls,vs,e,e',r=>by
  cases mapM_nil e;cases mapM_nil e';unfold qa at r;exact⟨[],by unfold FPs;exact⟨r,rfl⟩,rfl,λn hn=>by simp at hn⟩
 |t::ts,ts',ls,vs,e,e',r=>by
  obtain⟨y,ys,e1,e2,rfl⟩:=mapM_cons e;obtain⟨z,zs,e3,e4,rfl⟩:=mapM_cons e';unfold qa at r;obtain⟨v,vs',rfl,a,b⟩:=r;obtain⟨f1,p1,q1,n1⟩:=hf _ _ _ _ e1 e3 a;obtain⟨f2,p2,q2,n2⟩:=JV hf e2 e4 b;refine⟨f1++f2,by unfold FPs;exact⟨v,vs',f1,f2,rfl,p1,p2,rfl⟩,by simp[q1,q2],λn hn=>?_⟩;rw[List.flatten_cons]at hn;rcases wN.mp hn with z|z
  ·exact n1 n z
  ·exact n2 n z
theorem Zq{n0:Nat}{d:Nat}{t t':T}(u:t.und n0=true)(e:qH M1 n0 d t=some t'):t'=t:=by
 cases d<;>(unfold qH at e;rw[if_pos u]at e;cases e;rfl)
theorem w5(R:RelM gl (A++B) (X++B) h M1)(hB:∀b∈B,b∉X):∀(d:Nat) (t:T) (l:List Nat) (t':T) (w:V),jO M1 A.length d t=some l->qH M1 A.length d t=some t'->Rep (A++B) (X++B) h t w ->
  ∃fp,FP X h t' w fp/\fp.map some=l.map ((A++B)[·]?)/\∀n∈l,A.length<=n:=by
 have hX:∀a,a∉X++B->a∉X:=λa x z=>x (wQ _ z);have lfc:∀{d:Nat}{t t':T}{w:V},t.lf=true->qH M1 A.length d t=some t'->Rep (A++B) (X++B) h t w->∃fp:List Nat,FP X h t' w fp/\fp.map some=([]:List Nat).map ((A++B)[·]?)/\∀n∈([]:List Nat),A.length<=n:=by
  intro d t t' w l e r;cases Zq (Y5 _ t l) e;exact⟨[],JG (λa o x y=>⟨hX a x,y⟩) _ (qB3 _ r l),rfl,λn hn=>by simp at hn⟩
 intro d
 induction d with
 |zero=>
  intro t l t' w e e' r;unfold jO at e;split at e
  ·rename_i hl;cases e;exact lfc hl e' r
  ·cases e
 |succ d ih=>
  intro t l t' w e e' r;unfold jO at e;split at e
  ·rename_i hl;cases e;exact lfc hl e' r
  ·rename_i hl;have hu:t.und A.length≠true:=λu=>hl (Y8 (M1:=M1) (d+1) t l (by unfold jO;rw[if_neg hl];exact e) u);unfold qH at e';rw[if_neg hu]at e';cases t with
   |tup ts=>
    obtain⟨ls,e1,rfl⟩:=wA.mp e;obtain⟨ts',e2,rfl⟩:=wA.mp e';unfold Rep at r;obtain⟨a,vs,rfl,q1,q2,q3⟩:=r;obtain⟨fp,p1,p2,p3⟩:=JV ih e1 e2 q3;exact⟨fp,by unfold FP;exact⟨a,vs,rfl,hX a q1,q2,p1⟩,p2,p3⟩
   |cell n=>
    dsimp only at e e';split at e
    ·rename_i hn;obtain⟨ts,e0,e⟩:=wH.mp e;obtain⟨ls,e1,rfl⟩:=wA.mp e;rw[e0]at e';dsimp only[Option.bind_some]at e';obtain⟨ts',e2,rfl⟩:=wA.mp e';unfold Rep at r;obtain⟨a,ea,rfl⟩:=r;obtain⟨ts2,vs,g1,g2,g3⟩:=R.at_ n a ea;rw[e0]at g1;cases g1;obtain⟨fp,p1,p2,p3⟩:=JV ih e1 e2 g3;have ea2:=ea;rw[wO hn]at ea2;refine⟨fp++[a],by unfold FP;exact⟨a,vs,fp,rfl,hB a (wU ea2),g2,p1,rfl⟩,?_,λm hm=>?_⟩
     ·rw[vL,vL,p2];simp[ea]
     ·rcases wN.mp hm with z|z
      ·exact p3 m z
      ·simp at z;omega
    ·cases e
   |v x=>cases e
   |ob o=>cases e
   |fz ts=>cases e
   |lst ts=>cases e
theorem Jt{X' Y:List Nat}(R:RelM gl (A++B) Y h M1)(hX:∀a∈X',a∈Y)(hA:∀a∈A,a∈X')(hc:(M1.take A.length).all (T.unds A.length)=true)(hg:∀(g:Nat) t,gl[g]?=some t->Rep A X' h t (.ref g)):RelM gl A X' h (M1.take A.length):=by
 have l:=R.len;rw[wX]at l;refine⟨by rw[va];omega,(vB.mp R.nd).1,hA,λa ha=>R.lt a (hX a ha),λn a e=>?_,hg⟩;have hn:=(wC.mp e).1;obtain⟨ts,vs,e1,e2,e3⟩:=R.at_ n a (jw n a e);refine⟨ts,vs,by rw[wp hn];exact e1,e2,Qj (λn hn=>wD hn) hX ts e3 ?_⟩;rw[wS]at hc;refine hc ts (wU (i:=n) ?_);rw[wp hn];exact e1
theorem S9{M:Mem}{n0 d:Nat}{t:T}{o:Ob}(h:qH M n0 d t=some (.ob o)):t=.ob o:=by
 cases d with
 |zero=>
  unfold qH at h;split at h
  ·cases h;rfl
  ·cases h
 |succ d=>
  unfold qH at h;split at h
  ·cases h;rfl
  ·cases t with
   |lst ts=>cases hh:ts.mapM (qH M n0 d)<;>simp[hh]at h
   |tup ts=>cases hh:ts.mapM (qH M n0 d)<;>simp[hh]at h
   |cell n=>
    cases hm:M[n]? with
    |none=>simp[hm]at h
    |some ts=>cases hh:ts.mapM (qH M n0 d)<;>simp[hm,hh]at h
   |_=>cases h
theorem E6(R0:RelM gl A X h M)(f:Frm A h h')(hB:∀b∈B,h.length<=b)(R:RelM gl (A++B) (X++B) h' M1){x:TB}{w:V}(q:QE gl (A++B) (X++B) h.length x w h' M1):Sim gl A X h (QE gl A X h.length) (finish M.length x M1) (.ok (w,h')):=by
 have hBX:∀b∈B,b∉X:=λb z y=>by have:=hB b z;have:=R0.lt b y;omega
 have hX:∀a,a∉X++B->a∉X:=λa x z=>x (wQ _ z);have hg:∀{Z:List Nat},(∀a∈Z,h.length<=a)->∀(g:Nat) t,gl[g]?=some t->Rep A (X++Z) h' t (.ref g):=λhZ g t e=>jI (λ_ _ e=>e) (λa o x y=>⟨by
   rw[wN];rintro(z|z)
   ·exact x z
   ·have:=hZ a z;have:=qY y;omega,(R0.keepN f a o x y).2⟩) t (R0.glo g t e)
 unfold finish;rw[<-R0.len];split
 ·rename_i hl;have hB0:B=[]:=by
   have:=R.len;rw[wX,hl]at this;exact wm.mp (by omega)
  subst hB0;rw[wV,wV]at R q;exact⟨w,h',rfl,f,R,q⟩
 split
 ·rename_i hc;refine tJ λt' et=>?_;have R':RelM gl A X h' (M1.take A.length):=by
   have:=Jt (X':=X++[]) R (λa ha=>by simp at ha;exact wQ _ ha) (λa ha=>by simp;exact R0.sub a ha) hc (hg λa ha=>by simp at ha);simpa using this
  refine⟨w,h',rfl,f,R',S1 R hBX 6 _ _ _ et q.1,λe=>?_⟩;rw[vK]at e;rcases e with e|e
  ·obtain⟨fp,p,nd,l,Rf,nw⟩:=q.2 e;cases Zq (qBR A.length _ p) et;have cr:∀{Z:List Nat},(∀a∈Z,h.length<=a)->RelM gl (A++B) (X++B++Z) h' M1->RelM gl A (X++Z) h' (M1.take A.length):=λ{Z} hZ q=>Jt q (λa ha=>by
    rcases wN.mp ha with z|z
    ·exact wQ _ (wQ _ z)
    ·exact wT _ z) (λa ha=>wQ _ (R0.sub a ha)) hc (hg hZ)
   exact⟨fp,JG (λa o x y=>⟨hX a x,y⟩) _ p,nd,l,cr l Rf,λkvs e=>by
    obtain⟨a,q1,q2,q3⟩:=nw kvs e;exact⟨a,q1,q2,cr (λz hz=>by rw[wY.mp hz];exact q2) q3⟩⟩
  ·unfold frR at e;split at e
   ·rename_i l el;have ndl:l.Nodup:=by simpa using e
    obtain⟨fp,p,pm,pn⟩:=w5 R hBX 6 _ _ _ _ el et q.1;have fB:∀a∈fp,a∈B:=λa ha=>by
     have:some a∈fp.map some:=List.mem_map_of_mem ha;rw[pm]at this;obtain⟨n,hn,en⟩:=ve.mp this;rw[wO (pn n hn)]at en;exact wU en
    have nd:fp.Nodup:=by
     have:(fp.map some).Nodup:=by
      rw[pm];refine vn.mpr (List.Pairwise.imp_of_mem ?_ ndl);intro n m hn hm hnm e;have:(A++B)[n]?∈fp.map some:=by rw[pm];exact List.mem_map_of_mem hn
      obtain⟨a,_,ea⟩:=ve.mp this;exact hnm ((List.getElem?_inj (wC.mp ea.symm).1 R.nd).mp e)
     exact(vn.mp this).imp λ{a b} z e=>z (by rw[e])
    refine⟨fp,p,nd,λa ha=>hB a (fB a ha),Jt R (λa ha=>?_) (λa ha=>wQ _ (R0.sub a ha)) hc (hg λa ha=>hB a (fB a ha)),λkvs e=>by have e:t'=.ob (.dct kvs):=e;subst e;rw[S9 et]at el;simp[jO,T.lf]at el⟩;rcases wN.mp ha with z|z
    ·exact wQ _ z
    ·exact wT _ (fB a z)
   ·cases e
 ·exact Sim.stuck
end
theorem qEW(gl:List T)(tb:List Fn)(Cs:List (List Nat)):∀(k f:Nat) (ts:List T) (ws:List V) (A X:List Nat) (h:AH) (M:Mem),RelM gl A X h M->qa A X h ts ws->Sim gl A X h (QE gl A X h.length) (Pk gl tb Cs k f ts M) (Fk tb k f ws h)
 | 0,f,ts,ws,A,X,h,M,R,rs=>Sim.stuck
 |k+1,f,ts,ws,A,X,h,M,R,rs=>by
  unfold Pk Fk;cases ed:tb[f]? with
  |none=>exact Sim.stuck
  |some d=>
   dsimp only;rw[<-qD (reps_iff.mp rs)];split
   ·have s:=JR (Cs.getD f []) (qEW gl tb Cs k) d.body A X h M _ _ R (E4 (d.nslot-d.npar) rs);revert s;generalize pxs gl (Pk gl tb Cs k) (Cs.getD f []) d.body (ts.map some++List.replicate (d.nslot-d.npar) none) M=r;generalize exs (Fk tb k) d.body (ws.map some++List.replicate (d.nslot-d.npar) none) h=rh;intro s;cases r with
    |stuck=>exact Sim.stuck
    |exc c M1=>
     obtain⟨h',B,rfl,f1,hB,R1⟩:=s;show Sim gl A X h _ (if _ then _ else if _ then _ else _) _;split
     ·rename_i hl;have hB0:B=[]:=by
       have:=R1.len;rw[wX,hl,R.len]at this;exact wm.mp (by omega)
      subst hB0;rw[wV,wV]at R1;exact⟨h',rfl,f1,R1⟩
     split
     ·rename_i hc;refine⟨h',rfl,f1,?_⟩;rw[<-R.len]at hc ⊢;exact Jt R1 (λa ha=>wQ _ ha) R.sub hc λg t e=>R.keep f1 (R.glo g t e)
     ·exact Sim.stuck
    |ok p=>
     obtain⟨o,M1⟩:=p;obtain⟨oh,h',B,rfl,f1,hB,R1,ro⟩:=s;rw[tF];cases o with
     |nx σ=>
      cases oh<;>first|exact ro.elim|skip
      have r:Rep (A++B) (X++B) h' (.v .non) .non:=by unfold Rep;exact⟨rfl,rfl⟩
      exact E6 R f1 hB R1 (show QE gl (A++B) (X++B) h.length (.v .non,true) .non h' M1 from⟨r,λ_=>Frs.of_lf R1 r rfl⟩)
     |rt t=>
      cases oh<;>first|exact ro.elim|skip
      exact E6 R f1 hB R1 ro
     |bk σ=>exact Sim.stuck
     |ct σ=>exact Sim.stuck
   ·exact Sim.stuck
noncomputable def glT(gs:List O):List T:=gs.map λo=>match o with | .tup xs=>.tup (xs.map .v) | .lst _ xs=>.fz (xs.map .v) | .ob _=>.v .non
noncomputable def qEQ(gs:List O):Bool:=gs.all λo=>match o with | .tup xs=>xs.all flat|_=>false
theorem qE7{gs:List O}{tb:List Fn}{Cs:List (List Nat)}{k i:Nat}{ns:List Int}{b:Bool}{M':Mem}(hg:qEQ gs=true)(e:Pk (glT gs) tb Cs k i [.fz (ns.map λn=>.v (.int n))] []=.ok ((.v (.bl true),b),M')):
  ∃h',Fk tb k i [.ref gs.length] (gs++[.lst true (ns.map V.int)])=.ok (.bl true,h'):=by
 have R:RelM (glT gs) [] [] (gs++[.lst true (ns.map V.int)]) []:=by
  refine⟨rfl,vm,λa ha=>by simp at ha,λa ha=>by simp at ha,λn a e=>by simp at e,λg t eg=>?_⟩;unfold glT at eg;rw[wg]at eg;obtain⟨o,eo,rfl⟩:=wA.mp eg;unfold qEQ at hg;rw[wS]at hg;have ho:=hg o (wU eo);cases o with
  |lst _ _=>cases ho
  |ob _=>cases ho
  |tup xs=>
   dsimp only;unfold Rep;exact⟨g,xs,rfl,by simp,by rw[wD (wC.mp eo).1];exact eo,QZ ho⟩
 have rs:qa [] [] (gs++[O.lst true (ns.map V.int)]) [.fz (ns.map λn=>.v (.int n))] [.ref gs.length]:=by
  unfold qa;refine⟨_,[],rfl,?_,by unfold qa;rfl⟩;unfold Rep;refine⟨gs.length,ns.map V.int,rfl,by simp,by simp,?_⟩;have:ns.map (λn=>T.v (.int n))=(ns.map V.int).map .v:=by rw[List.map_map];rfl
  rw[this];exact QZ (by simp[flat])
 have s:=qEW (glT gs) tb Cs k i _ _ [] [] _ [] R rs;rw[e]at s;obtain⟨w,h',e1,_,_,q⟩:=s;cases zz q.1;exact⟨h',e1⟩
noncomputable def v7(t:T):Option TB:=match t with | .v (.int i)=>some (iT (-i))|_=>none
noncomputable def qEX(M:Mem)(p k x:T):Option Mem:=match p,k with
 | .cell n,.v (.int j)=>(M[n]?).bind λxs=>(_L.ixN xs.length j).map λj=>M.set n (xs.set j x)
 |_,_=>none
noncomputable def T1(M:Mem)(n:Nat)(x:T):Option Mem:=(M[n]?).bind λxs=>if xs.length<lim then some (M.set n (xs++[x])) else none
noncomputable def X6(t:T):Option (List T):=match t with | .v (.int j)=>if -1000000<=j/\j<=100000 then some (zf 0 j.toNat) else none|_=>none
noncomputable def qC4(t:T):Option (List T):=match t with | .v (.int j)=>if -1000000<=j/\j<=1000000 then some (zf 0 j.toNat) else none|_=>none
noncomputable def k9(s t:T):Option (List T):=match s,t with | .v (.int i),.v (.int j)=>if (-1000000<=i/\i<=1000000)/\-1000000<=j/\j<=1000000 then some (zf i (j-i).toNat) else none|_,_=>none
noncomputable def T8(s t:T):Option (List T):=match s,t with | .v (.int i),.v (.int j)=>if (-1000000<=i/\i<=1000000)/\-1000000<=j/\j<=1000000 then some (jp i (i-j).toNat) else none|_,_=>none
section
variable{gl:List T}{P:Nat->List T->Mem->PR (TB×Mem)}{C:List Nat}{σ:TS}{M:Mem}{a b c e:E}{as lo hi:Es}
@[simp] theorem pe_var(i:Nat):pe gl P (.var i) σ M=match σ[i]? with|some (some t)=>.ok ((t,t.lf),M)|_=>.stuck:=Eq.trans rfl rfl
@[simp] theorem pe_int(i:Int):pe gl P (.cst (.int i)) σ M=.ok (iT i,M):=Eq.trans rfl rfl
@[simp] theorem pe_bl(i:Bool):pe gl P (.cst (.bl i)) σ M=.ok (bT i,M):=Eq.trans rfl rfl
@[simp] theorem pe_non:pe gl P (.cst .non) σ M=.ok ((.v .non,true),M):=Eq.trans rfl rfl
@[simp] theorem pe_str(s:PySem.Str):pe gl P (.cst (.str s)) σ M=.ok ((.v (.str s),true),M):=Eq.trans rfl rfl
@[simp] theorem pe_glob(g:Nat):pe gl P (.glob g) σ M=match gl[g]? with|some t=>.ok ((t,t.lf),M)|none=>.stuck:=Eq.trans rfl rfl
@[simp] theorem qEM(op:BOp):pe gl P (.bin op a b) σ M=(pe gl P a σ M).bind λp=>(pe gl P b σ p.2).bind λq=>(tH (zW q.2 op p.1.1 q.1.1)).bind λr=>.ok (r,q.2):=Eq.trans rfl rfl
@[simp] theorem qEj:pe gl P (.neg a) σ M=(pe gl P a σ M).bind λp=>(tH (v7 p.1.1)).bind λr=>.ok (r,p.2):=by
 show PR.bind _ _=_;dsimp only;congr 1;funext p;obtain⟨⟨p1,p3⟩,p2⟩:=p;dsimp only;unfold v7;cases p1<;>first|rfl|skip
 rename_i x;cases x<;>rfl
@[simp] theorem V8(op:COp):pe gl P (.cmp op a b) σ M=(pe gl P a σ M).bind λp=>(pe gl P b σ p.2).bind λq=>(tH (qk q.2 op p.1.1 q.1.1)).bind λr=>.ok (bT r,q.2):=Eq.trans rfl rfl
@[simp] theorem qGC(o1 o2:COp):pe gl P (.cmp2 o1 o2 a b c) σ M=(pe gl P a σ M).bind λp=>(pe gl P b σ p.2).bind λq=>(tH (qk q.2 o1 p.1.1 q.1.1)).bind λr=>
  if r=true then (pe gl P c σ q.2).bind λz=>(tH (qk z.2 o2 q.1.1 z.1.1)).bind λr=>.ok (bT r,z.2) else .ok (bT false,q.2):=Eq.trans rfl rfl
@[simp] theorem qGI(o1 o2 o3:COp):pe gl P (.cmp3 o1 o2 o3 a b c d) σ M=(pe gl P a σ M).bind λp=>(pe gl P b σ p.2).bind λq=>(tH (qk q.2 o1 p.1.1 q.1.1)).bind λr=>
  if r=true then (pe gl P c σ q.2).bind λz=>(tH (qk z.2 o2 q.1.1 z.1.1)).bind λr=>(if r=true then (pe gl P d σ z.2).bind λw=>(tH (qk w.2 o3 z.1.1 w.1.1)).bind λr=>.ok (bT r,w.2) else .ok (bT false,z.2)) else .ok (bT false,q.2):=Eq.trans rfl rfl
@[simp] theorem pe_and:pe gl P (.and a b) σ M=(pB (pe gl P a σ M)).bind λp=>if p.1=true then pe gl P b σ p.2 else .ok (bT false,p.2):=Eq.trans rfl rfl
@[simp] theorem pe_or:pe gl P (.or a b) σ M=(pB (pe gl P a σ M)).bind λp=>if p.1=true then .ok (bT true,p.2) else pe gl P b σ p.2:=Eq.trans rfl rfl
@[simp] theorem pe_not:pe gl P (.not a) σ M=(pB (pe gl P a σ M)).bind λp=>.ok (bT (!p.1),p.2):=Eq.trans rfl rfl
@[simp] theorem pe_call(f:Nat):pe gl P (.call f as) σ M=(pes gl P as σ M).bind λp=>(P f (p.1.map (·.1)) p.2).nx:=Eq.trans rfl rfl
@[simp] theorem Z5(f:BF):pe gl P (.blt f as) σ M=(pes gl P as σ M).bind λp=>(tH (jS p.2 f (p.1.map (·.1)))).bind λr=>.ok (r,p.2):=Eq.trans rfl rfl
@[simp] theorem qBH(ts:List String):pe gl P (.isi a ts) σ M=(pe gl P a σ M).bind λp=>(tH (jQ p.2 p.1.1)).bind λt=>.ok (bT (ts.any (QS t)),p.2):=Eq.trans rfl rfl
@[simp] theorem qBV:pe gl P (.idx a b) σ M=(pe gl P a σ M).bind λp=>(pe gl P b σ p.2).bind λq=>(tH (QX q.2 p.1.1 q.1.1)).bind λr=>.ok (r,q.2):=Eq.trans rfl rfl
@[simp] theorem qBz:pe gl P (.sl a lo hi) σ M=(pe gl P a σ M).bind λp=>(pes gl P lo σ p.2).bind λl=>(pes gl P hi σ l.2).bind λu=>
  (tH (p.1.1.its u.2)).bind λxs=>(tH (zY (l.1.map (·.1)))).bind λi=>(tH (zY (u.1.map (·.1)))).bind λj=>(tH (Z0 p.1.1 xs i.head? j.head?)).bind λr=>.ok (r,u.2):=Eq.trans rfl rfl
@[simp] theorem qD2:pe gl P (.rev a) σ M=(pe gl P a σ M).bind λp=>(tH (p.1.1.lis p.2)).bind λxs=>.ok (lT xs.reverse,p.2):=Eq.trans rfl rfl
@[simp] theorem pe_lst:pe gl P (.lst as) σ M=(pes gl P as σ M).bind λp=>if p.1.length<=lim then .ok ((.lst (p.1.map (·.1)),p.1.all (·.2)),p.2) else .stuck:=Eq.trans rfl rfl
@[simp] theorem pe_tup:pe gl P (.tup as) σ M=(pes gl P as σ M).bind λp=>if p.1.length<=lim then .ok ((.tup (p.1.map (·.1)),p.1.all (·.2)),p.2) else .stuck:=Eq.trans rfl rfl
@[simp] theorem pe_comp(it:Itr)(src:List (Option Nat))(g:Tg)(c:Es):pe gl P (.comp it src g c e) σ M=(pei gl P it σ M).bind λp=>qm p.1.2 g (pec gl P c) (pe gl P e) p.1.1 [] true (jl src σ) p.2:=Eq.trans rfl rfl
@[simp] theorem qDo:pe gl P (.app a b) σ M=(pe gl P a σ M).bind λp=>match p.1.1 with
  | .cell n=>(pe gl P b σ p.2).bind λq=>(tH (T1 q.2 n q.1.1)).bind λM'=>.ok ((.v .non,true),M')
  |_=>.stuck:=by
 show PR.bind _ _=_;dsimp only;congr 1;funext p;obtain⟨⟨p1,p3⟩,p2⟩:=p;dsimp only;cases p1<;>dsimp only;congr 1;funext q;obtain⟨⟨q1,q3⟩,q2⟩:=q;dsimp only;unfold T1;rename_i n;cases h:q2[n]? with
 |none=>rfl
 |some xs=>
  dsimp only[Option.bind_some];split<;>rfl
@[simp] theorem qCi:pe gl P (.lrng a) σ M=(pe gl P a σ M).bind λp=>(tH (X6 p.1.1)).bind λxs=>.ok ((.lst xs,true),p.2):=by
 show PR.bind _ _=_;dsimp only;congr 1;funext p;obtain⟨⟨p1,p3⟩,p2⟩:=p;dsimp only;unfold X6;cases p1<;>first|rfl|skip
 rename_i x;cases x<;>first|rfl|skip
 dsimp only;split<;>rfl
@[simp] theorem qCf(m:Mt):pe gl P (.meth m a as) σ M=(pe gl P a σ M).bind λp=>match p.1.1 with
  | .cell n=>(pes gl P as σ p.2).bind λq=>tH (F7 m n (q.1.map (·.1)) q.2)
  |_=>.stuck:=Eq.trans rfl rfl
@[simp] theorem qFw:pe gl P .dnew σ M=.ok ((.ob (.dct []),true),M):=Eq.trans rfl rfl
@[simp] theorem W5:pes gl P .nil σ M=.ok ([],M):=Eq.trans rfl rfl
@[simp] theorem Jd:pes gl P (.cons a as) σ M=(pe gl P a σ M).bind λp=>(pes gl P as σ p.2).bind λq=>.ok (p.1::q.1,q.2):=Eq.trans rfl rfl
@[simp] theorem Zn:pec gl P .nil σ M=.ok (true,M):=Eq.trans rfl rfl
@[simp] theorem Jc:pec gl P (.cons a as) σ M=pB (pe gl P a σ M):=Eq.trans rfl rfl
@[simp] theorem Jl:pei gl P (.list a) σ M=(pe gl P a σ M).bind λp=>(tH (A8 p.2 p.1.1)).bind λs=>.ok (s,p.2):=Eq.trans rfl rfl
@[simp] theorem qAF:pei gl P (.rng1 a) σ M=(pe gl P a σ M).bind λp=>(tH (qC4 p.1.1)).bind λxs=>.ok ((xs,[]),p.2):=by
 show PR.bind _ _=_;dsimp only;congr 1;funext p;obtain⟨⟨p1,p3⟩,p2⟩:=p;dsimp only;unfold qC4;cases p1<;>first|rfl|skip
 rename_i x;cases x<;>first|rfl|skip
 dsimp only;split<;>rfl
@[simp] theorem qAA:pei gl P (.rng2 a b) σ M=(pe gl P a σ M).bind λp=>(pe gl P b σ p.2).bind λq=>(tH (k9 p.1.1 q.1.1)).bind λxs=>.ok ((xs,[]),q.2):=by
 show PR.bind _ _=_;dsimp only;congr 1;funext p;congr 1;funext q;obtain⟨⟨p1,p3⟩,p2⟩:=p;obtain⟨⟨q1,q3⟩,q2⟩:=q;dsimp only;unfold k9;cases p1<;>first|rfl|skip
 rename_i x;cases x<;>first|rfl|skip
 cases q1<;>first|rfl|skip
 rename_i y;cases y<;>first|rfl|skip
 dsimp only;split<;>rfl
@[simp] theorem qAk:pei gl P (.rng3 a b) σ M=(pe gl P a σ M).bind λp=>(pe gl P b σ p.2).bind λq=>(tH (T8 p.1.1 q.1.1)).bind λxs=>.ok ((xs,[]),q.2):=by
 show PR.bind _ _=_;dsimp only;congr 1;funext p;congr 1;funext q;obtain⟨⟨p1,p3⟩,p2⟩:=p;obtain⟨⟨q1,q3⟩,q2⟩:=q;dsimp only;unfold T8;cases p1<;>first|rfl|skip
 rename_i x;cases x<;>first|rfl|skip
 cases q1<;>first|rfl|skip
 rename_i y;cases y<;>first|rfl|skip
 dsimp only;split<;>rfl
@[simp] theorem qBd:pei gl P (.zip a b) σ M=(pe gl P a σ M).bind λp=>(pe gl P b σ p.2).bind λq=>(tH (Jp q.2 p.1.1)).bind λs=>(tH (Jp q.2 q.1.1)).bind λt=>
  .ok ((List.zipWith (λa b=>T.tup [a,b]) s.1 t.1,s.2++t.2),q.2):=Eq.trans rfl rfl
@[simp] theorem qFH:pei gl P (.enum a) σ M=(pe gl P a σ M).bind λp=>(tH (Jp p.2 p.1.1)).bind λs=>.ok ((QY 0 s.1,s.2),p.2):=Eq.trans rfl rfl
variable{s:S}{r t u:Ss}
@[simp] theorem G7(i:Nat):px gl P C (.asg (.name i) e) σ M=(pe gl P e σ M).bind λp=>if (C.contains i&&p.1.2)=true then .ok (.nx (σ.set i (some (thaw p.2.length p.1.1).1)),p.2++(thaw p.2.length p.1.1).2) else if (C.contains (i+1000)&&qC6 e)=true then (match p.1.1 with | .lst ts=>.ok (.nx (σ.set i (some (.cell p.2.length))),p.2++[ts])|_=>.stuck) else .ok (.nx (σ.set i (some p.1.1)),p.2):=Eq.trans rfl rfl
@[simp] theorem qEi(is:List Nat):px gl P C (.asg (.tup is) e) σ M=(pe gl P e σ M).bind λp=>match jR (.tup is) p.1.1 σ with|some σ1=>.ok (.nx σ1,p.2)|none=>.stuck:=Eq.trans rfl rfl
@[simp] theorem qEF{o i v:E}:px gl P C (.put o i v) σ M=(pe gl P v σ M).bind λx=>(pe gl P o σ x.2).bind λp=>(pe gl P i σ p.2).bind λk=>(tH (qEX k.2 p.1.1 k.1.1 x.1.1)).bind λM'=>.ok (.nx σ,M'):=by
 show PR.bind _ _=_;dsimp only;congr 1;funext x;congr 1;funext p;congr 1;funext k;obtain⟨⟨k1,k3⟩,k2⟩:=k;obtain⟨⟨p1,p3⟩,p2⟩:=p;dsimp only;unfold qEX;cases p1<;>first|rfl|skip
 rename_i n;cases k1<;>first|rfl|skip
 rename_i y;cases y<;>first|rfl|skip
 rename_i j;dsimp only;cases h:k2[n]? with
 |none=>rfl
 |some xs=>
  dsimp only[Option.bind_some];have hj:_P.ixN xs.length j=_L.ixN xs.length j:=rfl;rw[hj];cases _L.ixN xs.length j with
  |none=>rfl
  |some j=>rfl
@[simp] theorem K8:px gl P C (.expr e) σ M=(pe gl P e σ M).bind λp=>.ok (.nx σ,p.2):=Eq.trans rfl rfl
@[simp] theorem u5:px gl P C (.ret e) σ M=(pe gl P e σ M).bind λp=>.ok (.rt p.1,p.2):=Eq.trans rfl rfl
@[simp] theorem qDd:px gl P C (.ifs c t u) σ M=(pB (pe gl P c σ M)).bind λp=>if p.1=true then pxs gl P C t σ p.2 else pxs gl P C u σ p.2:=Eq.trans rfl rfl
@[simp] theorem qDa(g:Tg)(it:Itr):px gl P C (.for_ g it t) σ M=(pei gl P it σ M).bind λp=>zg p.1.2 g (pxs gl P C t) p.1.1 σ p.2:=Eq.trans rfl rfl
@[simp] theorem JW:px gl P C (.while_ c t) σ M=ze (λσ M=>pB (pe gl P c σ M)) (pxs gl P C t) qAd σ M:=Eq.trans rfl rfl
@[simp] theorem qGJ:px gl P C .stop σ M=.stuck:=Eq.trans rfl rfl
@[simp] theorem qBs:pxs gl P C .nil σ M=.ok (.nx σ,M):=Eq.trans rfl rfl
@[simp] theorem zZ:pxs gl P C (.cons s r) σ M=(px gl P C s σ M).bind λp=>match p.1 with
  | .nx σ1=>pxs gl P C r σ1 p.2
  |o=>.ok (o,p.2):=Eq.trans rfl rfl
@[simp] theorem qEf(x:Bool):pB (.ok (bT x,M))=.ok (x,M):=Eq.trans rfl rfl
@[simp] theorem qH6(x f:Bool):pB (.ok ((T.v (.bl x),f),M))=.ok (x,M):=Eq.trans rfl rfl
@[simp] theorem qFE:pB .stuck=.stuck:=Eq.trans rfl rfl
@[simp] theorem qFI{α β:Type}(c:Nat)(M:Mem)(f:α->PR β):(PR.exc c M:PR α).bind f=.exc c M:=Eq.trans rfl rfl
end
@[simp] theorem qID(x:V):T.lf (.v x)=true:=by rw[T.lf]
@[simp] theorem Z6(n:Nat):T.lf (.cell n)=false:=by rw[T.lf]<;>simp
@[simp] theorem qGb(xs:List T):T.lf (.lst xs)=false:=by rw[T.lf]<;>simp
@[simp] theorem qG1(xs:List T):T.lf (.tup xs)=T.lfs xs:=by rw[T.lf]
@[simp] theorem qFU:T.lfs []=true:=by rw[T.lfs]
@[simp] theorem ZQ(x:T)(xs:List T):T.lfs (x::xs)=(x.lf&&T.lfs xs):=by rw[T.lfs]
@[simp] theorem iT1(i:Int):(iT i).1=.v (.int i):=rfl
@[simp] theorem iT2(i:Int):(iT i).2=true:=rfl
@[simp] theorem bT1(i:Bool):(bT i).1=.v (.bl i):=rfl
@[simp] theorem bT2(i:Bool):(bT i).2=true:=rfl
@[simp] theorem lT1(xs:List T):(lT xs).1=.lst xs:=rfl
@[simp] theorem lT2(xs:List T):(lT xs).2=T.lfs xs:=rfl
@[simp] theorem qHu(x:V):T.isV (.v x)=some x:=rfl
@[simp] theorem qGH(x:List T):T.isV (.lst x)=none:=rfl
@[simp] theorem qF9(x:List T):T.isV (.tup x)=none:=rfl
@[simp] theorem qFF(x:Nat):T.isV (.cell x)=none:=rfl
section
variable{M:Mem}(i j:Int) (xs ys:List T)
@[simp] theorem qGx:zW M .add (.v (.int i)) (.v (.int j))=some (iT (i+j)):=rfl
@[simp] theorem qEk:zW M .sub (.v (.int i)) (.v (.int j))=some (iT (i-j)):=rfl
@[simp] theorem qBr:zW M .band (.v (.int i)) (.v (.int j))=some (iT (PySem.Builtin.bitAnd i j)):=rfl
theorem qEt{i j:Int}(h:(-18446744073709551616<i/\i<18446744073709551616)\/(-18446744073709551616<j/\j<18446744073709551616)):zW M .mul (.v (.int i)) (.v (.int j))=some (iT (i*j)):=by
 show (if (small i||small j||(mid i&&mid j))=true then _ else _)=_;rw[if_pos];rcases h with h|h
 ·have:small i=true:=by unfold small two64;exact uB h
  rw[this];rfl
 ·have:small j=true:=by unfold small two64;exact uB h
  rw[this,Bool.or_true];rfl
theorem qCB{i j:Int}(h:0<j/\j<1073741824):zW M .fdiv (.v (.int i)) (.v (.int j))=some (iT (i / j)):=by
 show (if 0<j/\(j<1073741824\/mid j=true) then _ else _)=_;rw[if_pos ⟨h.1,.inl h.2⟩]
theorem qDf{i j:Int}(h:0<j):zW M .mod (.v (.int i)) (.v (.int j))=some (iT (i % j)):=by
 show (if 0<j then _ else _)=_;rw[if_pos h]
theorem qEg{i j:Int}(h:0<=j/\j<=1000/\i.natAbs<18446744073709551616):zW M .pow (.v (.int i)) (.v (.int j))=some (iT (i ^ j.toNat)):=by
 show (if 0<=j/\j<=1000/\i.natAbs<18446744073709551616 then _ else _)=_;rw[if_pos h]
theorem qD4{i j:Int}(h:0<=j/\j<=1000):zW M .shr (.v (.int i)) (.v (.int j))=some (iT (i / 2 ^ j.toNat)):=by
 show (if 0<=j/\j<=1000 then _ else _)=_;rw[if_pos h]
theorem i9{xs ys:List T}(h:xs.length+ys.length<=lim):zW M .add (.lst xs) (.lst ys)=some (lT (xs++ys)):=by
 show (if xs.length+ys.length<=lim then _ else _)=_;rw[if_pos h]
@[simp] theorem qE8:qk M .lt (.v (.int i)) (.v (.int j))=some (decide (i<j)):=rfl
@[simp] theorem c6:qk M .le (.v (.int i)) (.v (.int j))=some (decide (i<=j)):=rfl
@[simp] theorem qF3:qk M .gt (.v (.int i)) (.v (.int j))=some (decide (j<i)):=rfl
@[simp] theorem qFg:qk M .ge (.v (.int i)) (.v (.int j))=some (decide (j<=i)):=rfl
@[simp] theorem qDm:qk M .eq (.v (.int i)) (.v (.int j))=some (decide (i=j)):=by
 show some (i==j)=_;congr 1
@[simp] theorem qGc:jS M .list [.lst xs]=some (lT xs):=rfl
@[simp] theorem qGj:jS M .list [.tup xs]=some (lT xs):=rfl
@[simp] theorem qAy:jS M .max [.v (.int i),.v (.int j)]=some (iT (if j>i then j else i)):=rfl
@[simp] theorem qDj:jS M .min [.v (.int i),.v (.int j)]=some (iT (if j<i then j else i)):=rfl
@[simp] theorem qFQ:jS M .abs [.v (.int i)]=some (iT (if i<0 then -i else i)):=rfl
@[simp] theorem qHa:jS M .int [.v (.int i)]=some (iT i):=rfl
@[simp] theorem qHz:jQ M (.v (.int i))=some "int":=rfl
@[simp] theorem qHv(b:Bool):jQ M (.v (.bl b))=some "bool":=rfl
@[simp] theorem qIE:jQ M (.lst xs)=some "list":=rfl
@[simp] theorem qIC:jQ M (.tup xs)=some "tuple":=rfl
@[simp] theorem qH4(kvs:List (Int×V)):jQ M (.ob (.dct kvs))=some "dict":=rfl
@[simp] theorem qH5:jQ M (.v .non)=some "NoneType":=rfl
@[simp] theorem qGo:A8 M (.lst xs)=some (xs,[]):=rfl
@[simp] theorem qGf:A8 M (.tup xs)=some (xs,[]):=rfl
@[simp] theorem qGz:A8 M (.fz xs)=some (xs,[]):=rfl
@[simp] theorem qGU:Jp M (.lst xs)=some (xs,[]):=rfl
end
@[simp] theorem lk0{α:Type}(x0:α)(l:List α):(x0::l)[0]?=some x0:=rfl
@[simp] theorem st0{α:Type}(x0 y:α)(l:List α):(x0::l).set 0 y=y::l:=rfl
@[simp] theorem lk1{α:Type}(x0 x1:α)(l:List α):(x0::x1::l)[1]?=some x1:=rfl
@[simp] theorem st1{α:Type}(x0 x1 y:α)(l:List α):(x0::x1::l).set 1 y=x0::y::l:=rfl
@[simp] theorem lk2{α:Type}(x0 x1 x2:α)(l:List α):(x0::x1::x2::l)[2]?=some x2:=rfl
@[simp] theorem st2{α:Type}(x0 x1 x2 y:α)(l:List α):(x0::x1::x2::l).set 2 y=x0::x1::y::l:=rfl
@[simp] theorem lk3{α:Type}(x0 x1 x2 x3:α)(l:List α):(x0::x1::x2::x3::l)[3]?=some x3:=rfl
@[simp] theorem st3{α:Type}(x0 x1 x2 x3 y:α)(l:List α):(x0::x1::x2::x3::l).set 3 y=x0::x1::x2::y::l:=rfl
@[simp] theorem lk4{α:Type}(x0 x1 x2 x3 x4:α)(l:List α):(x0::x1::x2::x3::x4::l)[4]?=some x4:=rfl
@[simp] theorem st4{α:Type}(x0 x1 x2 x3 x4 y:α)(l:List α):(x0::x1::x2::x3::x4::l).set 4 y=x0::x1::x2::x3::y::l:=rfl
@[simp] theorem lk5{α:Type}(x0 x1 x2 x3 x4 x5:α)(l:List α):(x0::x1::x2::x3::x4::x5::l)[5]?=some x5:=rfl
@[simp] theorem st5{α:Type}(x0 x1 x2 x3 x4 x5 y:α)(l:List α):(x0::x1::x2::x3::x4::x5::l).set 5 y=x0::x1::x2::x3::x4::y::l:=rfl
@[simp] theorem lk6{α:Type}(x0 x1 x2 x3 x4 x5 x6:α)(l:List α):(x0::x1::x2::x3::x4::x5::x6::l)[6]?=some x6:=rfl
@[simp] theorem st6{α:Type}(x0 x1 x2 x3 x4 x5 x6 y:α)(l:List α):(x0::x1::x2::x3::x4::x5::x6::l).set 6 y=x0::x1::x2::x3::x4::x5::y::l:=rfl
@[simp] theorem lk7{α:Type}(x0 x1 x2 x3 x4 x5 x6 x7:α)(l:List α):(x0::x1::x2::x3::x4::x5::x6::x7::l)[7]?=some x7:=rfl
@[simp] theorem st7{α:Type}(x0 x1 x2 x3 x4 x5 x6 x7 y:α)(l:List α):(x0::x1::x2::x3::x4::x5::x6::x7::l).set 7 y=x0::x1::x2::x3::x4::x5::x6::y::l:=rfl
@[simp] theorem lk8{α:Type}(x0 x1 x2 x3 x4 x5 x6 x7 x8:α)(l:List α):(x0::x1::x2::x3::x4::x5::x6::x7::x8::l)[8]?=some x8:=rfl
@[simp] theorem st8{α:Type}(x0 x1 x2 x3 x4 x5 x6 x7 x8 y:α)(l:List α):(x0::x1::x2::x3::x4::x5::x6::x7::x8::l).set 8 y=x0::x1::x2::x3::x4::x5::x6::x7::y::l:=rfl
@[simp] theorem lk9{α:Type}(x0 x1 x2 x3 x4 x5 x6 x7 x8 x9:α)(l:List α):(x0::x1::x2::x3::x4::x5::x6::x7::x8::x9::l)[9]?=some x9:=rfl
@[simp] theorem st9{α:Type}(x0 x1 x2 x3 x4 x5 x6 x7 x8 x9 y:α)(l:List α):(x0::x1::x2::x3::x4::x5::x6::x7::x8::x9::l).set 9 y=x0::x1::x2::x3::x4::x5::x6::x7::x8::y::l:=rfl
@[simp] theorem qHx{α:Type}(x0 x1 x2 x3 x4 x5 x6 x7 x8 x9 x10:α)(l:List α):(x0::x1::x2::x3::x4::x5::x6::x7::x8::x9::x10::l)[10]?=some x10:=rfl
@[simp] theorem qHw{α:Type}(x0 x1 x2 x3 x4 x5 x6 x7 x8 x9 x10 y:α)(l:List α):(x0::x1::x2::x3::x4::x5::x6::x7::x8::x9::x10::l).set 10 y=x0::x1::x2::x3::x4::x5::x6::x7::x8::x9::y::l:=rfl
@[simp] theorem qH9{α:Type}(x0 x1 x2 x3 x4 x5 x6 x7 x8 x9 x10 x11:α)(l:List α):(x0::x1::x2::x3::x4::x5::x6::x7::x8::x9::x10::x11::l)[11]?=some x11:=rfl
@[simp] theorem qH3{α:Type}(x0 x1 x2 x3 x4 x5 x6 x7 x8 x9 x10 x11 y:α)(l:List α):(x0::x1::x2::x3::x4::x5::x6::x7::x8::x9::x10::x11::l).set 11 y=x0::x1::x2::x3::x4::x5::x6::x7::x8::x9::x10::y::l:=rfl
@[simp] theorem qH8{α:Type}(x0 x1 x2 x3 x4 x5 x6 x7 x8 x9 x10 x11 x12:α)(l:List α):(x0::x1::x2::x3::x4::x5::x6::x7::x8::x9::x10::x11::x12::l)[12]?=some x12:=rfl
@[simp] theorem qIG{α:Type}(x0 x1 x2 x3 x4 x5 x6 x7 x8 x9 x10 x11 x12 y:α)(l:List α):(x0::x1::x2::x3::x4::x5::x6::x7::x8::x9::x10::x11::x12::l).set 12 y=x0::x1::x2::x3::x4::x5::x6::x7::x8::x9::x10::x11::y::l:=rfl
@[simp] theorem qIA{α:Type}(x0 x1 x2 x3 x4 x5 x6 x7 x8 x9 x10 x11 x12 x13:α)(l:List α):(x0::x1::x2::x3::x4::x5::x6::x7::x8::x9::x10::x11::x12::x13::l)[13]?=some x13:=rfl
@[simp] theorem qIB{α:Type}(x0 x1 x2 x3 x4 x5 x6 x7 x8 x9 x10 x11 x12 x13 y:α)(l:List α):(x0::x1::x2::x3::x4::x5::x6::x7::x8::x9::x10::x11::x12::x13::l).set 13 y=x0::x1::x2::x3::x4::x5::x6::x7::x8::x9::x10::x11::x12::y::l:=rfl
@[simp] theorem qIF{α:Type}(x0 x1 x2 x3 x4 x5 x6 x7 x8 x9 x10 x11 x12 x13 x14:α)(l:List α):(x0::x1::x2::x3::x4::x5::x6::x7::x8::x9::x10::x11::x12::x13::x14::l)[14]?=some x14:=rfl
@[simp] theorem qH7{α:Type}(x0 x1 x2 x3 x4 x5 x6 x7 x8 x9 x10 x11 x12 x13 x14 y:α)(l:List α):(x0::x1::x2::x3::x4::x5::x6::x7::x8::x9::x10::x11::x12::x13::x14::l).set 14 y=x0::x1::x2::x3::x4::x5::x6::x7::x8::x9::x10::x11::x12::x13::y::l:=rfl
@[simp] theorem qH1{α:Type}(x0 x1 x2 x3 x4 x5 x6 x7 x8 x9 x10 x11 x12 x13 x14 x15:α)(l:List α):(x0::x1::x2::x3::x4::x5::x6::x7::x8::x9::x10::x11::x12::x13::x14::x15::l)[15]?=some x15:=rfl
@[simp] theorem qHy{α:Type}(x0 x1 x2 x3 x4 x5 x6 x7 x8 x9 x10 x11 x12 x13 x14 x15 y:α)(l:List α):(x0::x1::x2::x3::x4::x5::x6::x7::x8::x9::x10::x11::x12::x13::x14::x15::l).set 15 y=x0::x1::x2::x3::x4::x5::x6::x7::x8::x9::x10::x11::x12::x13::x14::y::l:=rfl
theorem qM{gl:List T}{tb:List Fn}{Cs:List (List Nat)}{k f:Nat}{vs:List T}{M:Mem}{np ns:Nat}{b:Ss}(ht:tb[f]?=some ⟨np,ns,b⟩)(hl:vs.length=np/\np<=ns)(hk:1<=k):
  Pk gl tb Cs k f vs M=JA M.length (pxs gl (Pk gl tb Cs (k-1)) (Cs.getD f []) b (vs.map some++List.replicate (ns-np) none) M):=by
 obtain⟨k,rfl⟩:∃j,k=j+1:=⟨k-1,by omega⟩
 rw[Pk,ht];dsimp only;rw[if_pos hl];rfl
theorem qA{M M1:Mem}{t:TB}(h:M1.length=M.length):JA M.length (.ok (.rt t,M1))=.ok (t,M1):=by
 show finish M.length t M1=_;unfold finish;rw[if_pos h]
theorem Qh{M M1:Mem}{σ:TS}(h:M1.length=M.length):JA M.length (.ok (.nx σ,M1))=.ok ((.v .non,true),M1):=by
 show finish M.length _ M1=_;unfold finish;rw[if_pos h]
noncomputable def N(n:Nat):T:=.v (.int (n:Int))
noncomputable def NL(L:List Nat):T:=.lst (L.map N)
theorem Y6(n:Nat):zf 0 n=(List.range n).map N:=by
 unfold zf N;simp
theorem JB(L:List Nat):T.lfs (L.map N)=true:=by
 induction L with
 |nil=>rfl
 |cons x L ih=>rw[List.map_cons,ZQ,ih];rfl
theorem qGm(n:Nat):(N n).lf=true:=by unfold N;rfl
theorem C6:∀L:List Nat,jy (L.map N)=some (L.map λ(n:Nat)=>V.int (n:Int))
 | []=>rfl
 |x::L=>by
  show (jy (L.map N)).map _=_;rw[C6 L];rfl
theorem qFK{M:Mem}(n:Nat)(L:List Nat):qk M .inn (N n) (NL L)=some (decide (n∈L)):=by
 show ((jy (L.map N)).map λxs=>xs.any λz=>_L.eqV z (.int (n:Int)))=_;rw[C6,Option.map_some,List.any_map];congr 1;rw[wq];simp only[List.any_eq_true,Function.comp,uC];constructor
 ·rintro⟨x,hx,e⟩;have:x=n:=by
   have e':((x:Int)==(n:Int))=true:=e;rw[beq_iff_eq]at e';omega
  rwa [<-this]
 ·intro h;refine⟨n,h,?_⟩;show ((n:Int)==(n:Int))=true;rw[uF]
theorem qCp{M:Mem}(n:Nat)(L:List Nat):qk M .notin (N n) (NL L)=some (!decide (n∈L)):=by
 have:=qFK (M:=M) n L;show (inT M (N n) (NL L)).map (!·)=_;rw[show inT M (N n) (NL L)=some (decide (n∈L)) from this];rfl
theorem O0{M:Mem}{d:Nat}:∀(L K:List Nat),L.length=K.length->jh (eqT M d) (L.map N) (K.map N)=some (List.zipWith (λ(a b:Nat)=>decide (a=b)) L K)
 | [],[],_=>rfl
 | [],_::_,h=>by simp at h
 |_::_,[],h=>by simp at h
 |a::L,b::K,h=>by
  have e:eqT M d (N a) (N b)=some (decide (a=b)):=by
   have:eqF (.int (a:Int)) (.int (b:Int))=some (decide (a=b)):=by
    show some ((a:Int)==(b:Int))=_;congr 1;rw[wq,beq_iff_eq,uC];omega
   cases d<;>(unfold eqT;exact this)
  rw[List.map_cons,List.map_cons,jh,e,O0 L K (by simpa using h)];rfl
theorem m7:∀(L K:List Nat),L.length=K.length->((List.zipWith (λ(a b:Nat)=>decide (a=b)) L K).all id=decide (L=K))
 | [],[],_=>rfl
 | [],_::_,h=>by simp at h
 |_::_,[],h=>by simp at h
 |a::L,b::K,h=>by
  rw[List.zipWith_cons_cons,List.all_cons,m7 L K (by simpa using h)];by_cases h1:a=b<;>by_cases h2:L=K<;>simp[h1,h2]
theorem c9{M:Mem}{d:Nat}(L K:List Nat):eqT M (d+1) (NL L) (NL K)=some (decide (L=K)):=by
 unfold eqT;show (if (L.map N).length=(K.map N).length then (jh (eqT M d) (L.map N) (K.map N)).map (λbs=>bs.all id) else some false)=_;rw[wW,wW];by_cases h:L.length=K.length
 ·rw[if_pos h,O0 L K h,Option.map_some,m7 L K h]
 ·rw[if_neg h];congr 1;symm;exact uA (λe=>h (by rw[e]))
theorem qHI{M:Mem}(L K:List Nat):qk M .eq (NL L) (NL K)=some (decide (L=K)):=c9 L K
theorem qHE{M:Mem}(L K:List Nat):qk M .ne (NL L) (NL K)=some (!decide (L=K)):=by
 show (eqT M 4 (NL L) (NL K)).map (!·)=_;rw[c9];rfl
theorem W6{M:Mem}(L:List Nat):jS M .list [NL L]=some (NL L,true):=by
 show some (T.lst (L.map N),T.lfs (L.map N))=_;rw[JB];rfl
theorem qCV{M:Mem}{L K:List Nat}(h:L.length+K.length<=lim):zW M .add (NL L) (NL K)=some (NL (L++K),true):=by
 unfold NL;rw[i9 (by simpa using h)];show some (T.lst (L.map N++K.map N),T.lfs (L.map N++K.map N))=_;rw[<-vL,JB]
@[simp] theorem qE5{d:Qy}{g:Tg}{b:TS->Mem->RSt}{σ:TS}{M:Mem}:zg d g b [] σ M=.ok (.nx σ,M):=rfl
@[simp] theorem qx{i:Nat}{b:TS->Mem->RSt}{x:T}{r:List T}{σ:TS}{M:Mem}:zg [] (.name i) b (x::r) σ M=(b (σ.set i (some x)) M).bind λp=>match p.1 with
   | .nx σ2=>zg [] (.name i) b r σ2 p.2
   | .ct σ2=>zg [] (.name i) b r σ2 p.2
   | .bk σ2=>.ok (.nx σ2,p.2)
   | .rt t=>.ok (.rt t,p.2):=rfl
theorem O7{c:TS->Mem->PR (Bool×Mem)}{e:TS->Mem->PR (TB×Mem)}{M:Mem}{σ:TS}(p:Nat->Bool)(f:Nat->T)(fr:Nat->Bool):∀(its:List Nat) (ys:List T) (b:Bool) (o:Option T),ys.length+its.length<=lim ->
  (∀x∈its,c (some (N x)::σ) M=.ok (p x,M))->(∀x∈its,p x=true->e (some (N x)::σ) M=.ok ((f x,fr x),M)) ->
  qm [] (.name 0) c e (its.map N) ys b (o::σ) M=.ok ((.lst (ys++(its.filter p).map f),b&&(its.filter p).all fr),M)
 | [],ys,b,o,hl,hc,he=>by simp[qm]
 |x::r,ys,b,o,hl,hc,he=>by
  rw[List.map_cons];unfold qm;rw[show jR (.name 0) (N x) (o::σ)=some (some (N x)::σ) from rfl];dsimp only;rw[hc x (wK ..)];rw[tD];dsimp only;cases hp:p x with
  |true=>
   rw[if_pos rfl,he x (wK ..) hp,tD];dsimp only;rw[if_pos ⟨by simp at hl;omega,rfl⟩];rw[O7 p f fr r (ys++[f x]) (b&&fr x) (some (N x)) (by simp at hl ⊢;omega) (λy hy=>hc y (wI _ hy)) (λy hy=>he y (wI _ hy))];rw[vS hp];simp[Bool.and_assoc]
  |false=>
   rw[if_neg (by decide),if_pos (show ql [] M=true from rfl)];rw[O7 p f fr r ys b (some (N x)) (by simp at hl ⊢;omega) (λy hy=>hc y (wI _ hy)) (λy hy=>he y (wI _ hy))];rw[vh (by rw[hp];decide)]
theorem Qz{c:TS->Mem->PR (Bool×Mem)}{e:TS->Mem->PR (TB×Mem)}{M:Mem}{σ:TS}{o:Option T}{its:List Nat}(p:Nat->Bool)(g:Nat->Nat)(hl:its.length<=lim)
  (hc:∀x∈its,c (some (N x)::σ) M=.ok (p x,M)) (he:∀x∈its,p x=true->e (some (N x)::σ) M=.ok ((N (g x),true),M)):
  qm [] (.name 0) c e (its.map N) [] true (o::σ) M=.ok ((NL ((its.filter p).map g),true),M):=by
 rw[O7 p (λx=>N (g x)) (λ_=>true) its [] true o (by simpa using hl) hc he];unfold NL;simp
 all_goals rfl
@[simp] theorem qL{M:Mem}(a b:Nat):zW M .add (N a) (N b)=some (N (a+b),true):=by unfold N;simp[iT]
theorem G5(L:List Nat):T.lf (NL L)=false:=by unfold NL;simp
noncomputable def nE(n:Nat):E:=.cst (.int (n:Int))
@[simp] theorem qFo{gl:List T}{P:Nat->List T->Mem->PR (TB×Mem)}{σ:TS}{M:Mem}(n:Nat):pe gl P (nE n) σ M=.ok ((N n,true),M):=by unfold nE;rw[pe_int];rfl
section
variable{M:Mem}(a b:Nat) (xs:List T)
@[simp] theorem lfN:(N a).lf=true:=qGm a
@[simp] theorem qHh:(N a).isV=some (.int (a:Int)):=rfl
@[simp] theorem qH2:jQ M (N a)=some "int":=rfl
@[simp] theorem qG4(L:List Nat):jQ M (NL L)=some "list":=rfl
theorem jJ{a b:Nat}(h:b<=a):zW M .sub (N a) (N b)=some (N (a-b),true):=by
 unfold N;rw[qEk];unfold iT;rw[Int.ofNat_sub h]
theorem Qb{a b:Nat}(h:a<18446744073709551616\/b<18446744073709551616):zW M .mul (N a) (N b)=some (N (a*b),true):=by
 unfold N;rw[qEt (by omega)];unfold iT;simp
theorem ZZ{a b:Nat}(h:0<b/\b<1073741824):zW M .fdiv (N a) (N b)=some (N (a / b),true):=by
 unfold N;rw[qCB (by omega)];unfold iT;simp
theorem ZF{a b:Nat}(h:0<b):zW M .mod (N a) (N b)=some (N (a % b),true):=by
 unfold N;rw[qDf (by omega)];unfold iT;simp
theorem qBB{a b:Nat}(h:b<=1000/\a<1000000):zW M .pow (N a) (N b)=some (N (a ^ b),true):=by
 unfold N;rw[qEg (by omega)];unfold iT;simp
theorem qEd{a b:Nat}(h:b<=1000):zW M .shr (N a) (N b)=some (N (a / 2 ^ b),true):=by
 unfold N;rw[qD4 (by omega)];unfold iT;simp
@[simp] theorem qy:qk M .lt (N a) (N b)=some (decide (a<b)):=by unfold N;rw[qE8];simp
@[simp] theorem qr:qk M .le (N a) (N b)=some (decide (a<=b)):=by unfold N;rw[c6];simp
@[simp] theorem qu:qk M .gt (N a) (N b)=some (decide (b<a)):=by unfold N;rw[qF3];simp
@[simp] theorem zD:qk M .ge (N a) (N b)=some (decide (b<=a)):=by unfold N;rw[qFg];simp
@[simp] theorem qP:qk M .eq (N a) (N b)=some (decide (a=b)):=by unfold N;rw[qDm];congr 1;rw[wq,uC,uC];omega
@[simp] theorem qp:qk M .ne (N a) (N b)=some (!decide (a=b)):=by
 show ((eqT M 4 (N a) (N b)).map (!·))=_;rw[show eqT M 4 (N a) (N b)=some (decide (a=b)) from qP (M:=M) a b];rfl
@[simp] theorem N1:QX M (.lst xs) (N a)=(xs[a]?).map λt=>(t,t.lf):=by
 show ((_L.ixN xs.length (a:Int)).bind λj=>(xs[j]?).map λt=>(t,t.lf))=_;unfold _L.ixN;rw[if_pos (by omega)];split
 ·simp
 ·rw[wt (by omega)];rfl
@[simp] theorem q8:QX M (.tup xs) (N a)=(xs[a]?).map λt=>(t,t.lf):=by
 show ((_L.ixN xs.length (a:Int)).bind λj=>(xs[j]?).map λt=>(t,t.lf))=_;unfold _L.ixN;rw[if_pos (by omega)];split
 ·simp
 ·rw[wt (by omega)];rfl
@[simp] theorem qAp:jS M .len [.lst xs]=some (N xs.length,true):=rfl
@[simp] theorem qBT:jS M .len [.tup xs]=some (N xs.length,true):=rfl
@[simp] theorem qGe:jS M .len [.fz xs]=some (N xs.length,true):=rfl
@[simp] theorem qGl:jS M .max [N a,N b]=some (N (max a b),true):=by
 unfold N;rw[qAy];unfold iT;congr 4;split<;>omega
@[simp] theorem qGW:jS M .min [N a,N b]=some (N (min a b),true):=by
 unfold N;rw[qDj];unfold iT;congr 4;split<;>omega
@[simp] theorem qG6:jS M .int [N a]=some (N a,true):=rfl
@[simp] theorem qGd(t:Bool):jS M .int [.v (.bl t)]=some (N t.toNat,true):=by cases t<;>rfl
@[simp] theorem qEa:jS M .bits [N a]=some (N (PySem.Builtin.Int.intBits (a:Int)),true):=rfl
theorem Qv:zW M .band (N a) (N b)=some (N (a&&& b),true):=by
 unfold N;rw[qBr];unfold iT;rfl
end
theorem zx{n:Nat}(hn:n<=1000000):qC4 (N n)=some ((List.range n).map N):=by
 show (if -1000000<=(n:Int)/\(n:Int)<=1000000 then some (zf 0 (n:Int).toNat) else none)=_;rw[if_pos (by omega),vX,Y6]
theorem ZV{n:Nat}(hn:n<=100000):X6 (N n)=some ((List.range n).map N):=by
 show (if -1000000<=(n:Int)/\(n:Int)<=100000 then some (zf 0 (n:Int).toNat) else none)=_;rw[if_pos (by omega),vX,Y6]
theorem qCt{a b:Nat}(hn:a<=b/\b<=1000000):k9 (N a) (N b)=some ((List.range' a (b-a)).map N):=by
 show (if _ then some (zf (a:Int) ((b:Int)-(a:Int)).toNat) else none)=_;rw[if_pos (by omega),show ((b:Int)-(a:Int)).toNat=b-a by omega];unfold zf;rw[List.range'_eq_map_range,List.map_map];congr 1
theorem qAn{M:Mem}{n:Nat}{xs:List T}{x:T}(h:M[n]?=some xs)(hl:xs.length<lim):T1 M n x=some (M.set n (xs++[x])):=by
 unfold T1;rw[h];show (if xs.length<lim then _ else _)=_;rw[if_pos hl]
@[simp] theorem qE2(n a:Nat):thaw n (N a)=(N a,[]):=by unfold N;simp[thaw]
@[simp] theorem qGs{M:Mem}(L:List Nat):A8 M (NL L)=some (L.map N,[]):=rfl
@[simp] theorem qGY{M:Mem}(x f:Bool):pB (PR.ok ((T.v (V.bl x),f),M))=.ok (x,M):=Eq.trans rfl rfl
theorem QJ{α:Type}:∀l:List α,l.filter (λ_=>true)=l
 | []=>rfl
 |x::l=>by rw[vS rfl,QJ l]
theorem jo{gl:List T}{P:Nat->List T->Mem->PR (TB×Mem)}{e:TS->Mem->PR (TB×Mem)}{M:Mem}{σ:TS}{o:Option T}{its:List Nat}(g:Nat->Nat)(hl:its.length<=lim)
  (he:∀x∈its,e (some (N x)::σ) M=.ok ((N (g x),true),M)):qm [] (.name 0) (pec gl P .nil) e (its.map N) [] true (o::σ) M=.ok ((NL (its.map g),true),M):=
 (Qz (λ_=>true) g hl (λx _=>by simp) (λx hx _=>he x hx)).trans (by rw[QJ])
@[simp] theorem qHA{M:Mem}{n j:Nat}{x:T}:qEX M (.cell n) (N j) x=(M[n]?).bind λxs=>if j<xs.length then some (M.set n (xs.set j x)) else none:=by
 show ((M[n]?).bind λxs=>(_L.ixN xs.length (j:Int)).map λj=>M.set n (xs.set j x))=_;congr 1
 funext xs
 unfold _L.ixN;rw[if_pos (by omega)];by_cases h:j<xs.length
 ·rw[if_pos (by omega),if_pos h];simp
 ·rw[if_neg (by omega),if_neg h];rfl
@[simp] theorem qDv{M:Mem}{n a:Nat}:QX M (.cell n) (N a)=(M[n]?).bind λxs=>(xs[a]?).map λt=>(t,t.lf):=by
 show ((M[n]?).bind λxs=>(_L.ixN xs.length (a:Int)).bind λj=>(xs[j]?).map λt=>(t,t.lf))=_;congr 1
 funext xs
 exact N1 (M:=M) a xs
@[simp] theorem qGi(a:Nat):v7 (N a)=some (iT (-(a:Int))):=rfl
@[simp] theorem qGS(a:Int):v7 (.v (.int a))=some (iT (-a)):=rfl
@[simp] theorem qG5(a:Nat):zY [N a]=some [(a:Int)]:=rfl
@[simp] theorem qHk:zY []=some []:=rfl
@[simp] theorem qFb{M:Mem}(xs:List T):T.its M (.lst xs)=some xs:=rfl
@[simp] theorem qHp{M:Mem}(xs:List T):T.its M (.fz xs)=some xs:=rfl
@[simp] theorem qHQ{M:Mem}(xs:List T):T.its M (.tup xs)=some xs:=rfl
@[simp] theorem qG7{M:Mem}(L:List Nat):T.its M (NL L)=some (L.map N):=rfl
@[simp] theorem qGa(ys xs:List T)(lo hi:Option Int):Z0 (.lst ys) xs lo hi=some (lT (Zz xs lo hi)):=rfl
@[simp] theorem qGg(ys xs:List T)(lo hi:Option Int):Z0 (.fz ys) xs lo hi=some (lT (Zz xs lo hi)):=rfl
@[simp] theorem qGh(L:List Nat)(xs:List T)(lo hi:Option Int):Z0 (NL L) xs lo hi=some (lT (Zz xs lo hi)):=rfl
@[simp] theorem qGt(n:Nat)(xs:List T)(lo hi:Option Int):Z0 (.cell n) xs lo hi=some (lT (Zz xs lo hi)):=rfl
@[simp] theorem qHY{M:Mem}(xs:List T):T.lis M (.lst xs)=some xs:=rfl
@[simp] theorem qHF{M:Mem}(xs:List T):T.lis M (.fz xs)=some xs:=rfl
@[simp] theorem qHM{M:Mem}(L:List Nat):T.lis M (NL L)=some (L.map N):=rfl
theorem qCl(xs:List T)(k:Nat):Zz xs (some (k:Int)) (some ((k+1:Nat):Int))=(xs.drop k).take 1:=by
 unfold Zz;rw[_H.sIx_nat,_H.sIx_nat];by_cases h:k<xs.length
 ·rw[vM (by omega),vM (by omega),show k+1-k=1 by omega]
 ·rw[vp (by omega),vp (by omega),vF (wF _),vF (by omega)];simp
theorem G6{c:TS->Mem->PR (Bool×Mem)}{e:TS->Mem->PR (TB×Mem)}{σ:TS}{I:Mem->Prop}{R:Nat->Bool->Prop}:∀(its ys:List Nat) (b:Bool) (o:Option T) (M:Mem),its.Nodup->ys.length+its.length<=lim->I M ->
  (∀x∈its,∀M,I M->∃t M',c (some (N x)::σ) M=.ok (t,M')/\I M'/\R x t)->(∀x∈its,∀M,I M->e (some (N x)::σ) M=.ok ((N x,true),M)) ->
  ∃q M',qm [] (.name 0) c e (its.map N) (ys.map N) b (o::σ) M=.ok ((NL (ys++its.filter q),b),M')/\I M'/\∀x∈its,R x (q x)
 | [],ys,b,o,M,nd,hl,hI,hc,he=>⟨λ_=>true,M,by simp[qm,NL],hI,λx hx=>by simp at hx⟩
 |x::r,ys,b,o,M,nd,hl,hI,hc,he=>by
  have ndr:=(vW.mp nd).2;have hx:=(vW.mp nd).1;obtain⟨t,M1,e1,i1,r1⟩:=hc x (wK ..) M hI;rw[List.map_cons];unfold qm;rw[show jR (.name 0) (N x) (o::σ)=some (some (N x)::σ) from rfl];dsimp only;rw[e1,tD];dsimp only;have key:∀(q:Nat->Bool),(∀y∈r,R y (q y))->(r.filter (λy=>if y=x then t else q y)=r.filter q)/\∀y∈x::r,R y (if y=x then t else q y):=λq hq=>by
   constructor
   ·apply List.filter_congr;intro y hy;rw[if_neg (by rintro rfl;exact hx hy)]
   ·intro y hy;rcases wP.mp hy with h1|h1
    ·rw[if_pos h1,h1];exact r1
    ·rw[if_neg (by rintro rfl;exact hx h1)];exact hq y h1
  cases t with
  |true=>
   rw[if_pos rfl,he x (wK ..) M1 i1,tD];dsimp only;rw[if_pos ⟨by simp at hl ⊢;omega,rfl⟩];obtain⟨q,M2,e2,i2,r2⟩:=G6 (I:=I) (R:=R) r (ys++[x]) b (some (N x)) M1 ndr (by simp at hl ⊢;omega) i1 (λy hy=>hc y (wI _ hy)) (λy hy=>he y (wI _ hy));obtain⟨k1,k2⟩:=key q r2;refine⟨λy=>if y=x then true else q y,M2,?_,i2,k2⟩;rw[show ys.map N++[N x]=(ys++[x]).map N by simp,vg,e2,vS (by simp),k1];simp
  |false=>
   rw[if_neg (by decide),if_pos (show ql [] M1=true from rfl)];obtain⟨q,M2,e2,i2,r2⟩:=G6 (I:=I) (R:=R) r ys b (some (N x)) M1 ndr (by simp at hl ⊢;omega) i1 (λy hy=>hc y (wI _ hy)) (λy hy=>he y (wI _ hy));obtain⟨k1,k2⟩:=key q r2;refine⟨λy=>if y=x then false else q y,M2,?_,i2,k2⟩;rw[e2,vh (by simp),k1]
@[simp] theorem Ju(i j:Nat)(a b:T)(σ:TS):jR (.tup [i,j]) (.tup [a,b]) σ=some ((σ.set i (some a)).set j (some b)):=rfl
@[simp] theorem JC(σ:TS):jl [] σ=[]:=rfl
@[simp] theorem ZW(r:List (Option Nat))(σ:TS):jl (none::r) σ=none::jl r σ:=rfl
@[simp] theorem Zu(j:Nat)(r:List (Option Nat))(σ:TS):jl (some j::r) σ=(σ[j]?).join::jl r σ:=rfl
theorem g7(x:V)(f:Bool)(M1:Mem):∃b M2,JA ([]:Mem).length (.ok (.rt (.v x,f),M1))=.ok ((.v x,b),M2):=by
 show ∃b M2,finish 0 (.v x,f) M1=_;unfold finish;by_cases h:M1.length=0
 ·rw[if_pos h];exact⟨f,M1,rfl⟩
 ·rw[if_neg h,if_pos (by simp)];rw[show qH M1 0 6 (T.v x)=some (.v x) by unfold qH;rw[if_pos (by unfold T.und;rfl)]];exact⟨_,_,rfl⟩
mutual
theorem qAR:∀t:T,T.beq t t=true
 | .v x=>by unfold T.beq;simp
 | .cell x=>by unfold T.beq;simp
 | .ob x=>by unfold T.beq;simp
 | .fz xs=>by unfold T.beq;exact jt xs
 | .lst xs=>by unfold T.beq;exact jt xs
 | .tup xs=>by unfold T.beq;exact jt xs
theorem jt:∀ts:List T,T.beqs ts ts=true
 | []=>rfl
 |t::ts=>by unfold T.beqs;rw[qAR t,jt ts];rfl
end
mutual
theorem qAP{a b:Nat}(h:a<=b):∀t:T,t.und a=true->t.und b=true
 | .v x,_=>rfl
 | .cell k,e=>by unfold T.und at e ⊢;simp at e ⊢;omega
 | .ob x,_=>rfl
 | .fz xs,e=>by unfold T.und at e ⊢;exact jT h xs e
 | .lst xs,e=>by unfold T.und at e ⊢;exact jT h xs e
 | .tup xs,e=>by unfold T.und at e ⊢;exact jT h xs e
theorem jT{a b:Nat}(h:a<=b):∀ts:List T,T.unds a ts=true->T.unds b ts=true
 | [],_=>rfl
 |t::ts,e=>by unfold T.unds at e ⊢;rw[wB]at e;rw[qAP h t e.1,jT h ts e.2];rfl
end
def FlatM(M:Mem):Prop:=∀c∈M,T.unds 0 c=true
theorem FlatM.all{M:Mem}(h:FlatM M)(n:Nat):M.all (T.unds n)=true:=by
 rw[wS];exact λc hc=>jT (vw _) c (h c hc)
theorem FlatM.app{A B:Mem}(h:FlatM A)(k:FlatM B):FlatM (A++B):=λc hc=>by
 rcases wN.mp hc with z|z
 ·exact h c z
 ·exact k c z
theorem qCg(n a:Nat):(N a).und n=true:=by unfold N T.und;rfl
theorem N8(n:Nat):∀L:List Nat,T.unds n (L.map N)=true
 | []=>rfl
 |x::L=>by rw[List.map_cons];unfold T.unds;rw[qCg,N8 n L];rfl
theorem ZB{M:Mem}{n0 d:Nat}:∀L:List Nat,(L.map N).mapM (qH M n0 d)=some (L.map N)
 | []=>rfl
 |x::L=>by
  rw[List.map_cons,vI,ZB L];have:qH M n0 d (N x)=some (N x):=by cases d<;>(unfold qH;rw[if_pos (qCg _ _)])
  rw[this];rfl
theorem V7{M:Mem}{n0 d:Nat}:∀L:List Nat,(L.map N).mapM (jO M n0 d)=some (L.map λ_=>[])
 | []=>rfl
 |x::L=>by
  rw[List.map_cons,vI,V7 L];have:jO M n0 d (N x)=some []:=by cases d<;>(unfold jO;rw[if_pos (qGm _)])
  rw[this];rfl
theorem i8(L:List Nat):(L.map λ_=>([]:List Nat)).flatten=[]:=by
 induction L with
 |nil=>rfl
 |cons x L ih=>rw[List.map_cons,List.flatten_cons,ih];rfl
theorem W8(n:Nat):∀L:List Nat,Qx n (L.map N)=(L.map N,[])
 | []=>by simp[Qx]
 |x::L=>by
  rw[List.map_cons,Qx,qE2];dsimp only;rw[List.length_nil,Nat.add_zero,W8 n L];rfl
@[simp] theorem d8(n:Nat)(L:List Nat):thaw n (NL L)=(.cell n,[L.map N]):=by
 unfold NL;rw[thaw,W8];rfl
theorem d6{M:Mem}{n:Nat}{ts:List T}(h:M[n]?=some ts):ql [(n,ts)] M=true:=by
 unfold ql;simp[h,jt]
theorem JF{M:Mem}{n:Nat}{ts:List T}(h:M[n]?=some ts):A8 M (.cell n)=some (ts,[(n,ts)]):=by
 unfold A8;dsimp only;rw[h];rfl
theorem qGn{M:Mem}{n:Nat}{ts:List T}(h:M[n]?=some ts):jQ M (.cell n)=some "list":=by
 unfold jQ;dsimp only;rw[h];rfl
structure IsL(M:Mem)(t:T)(L:List Nat):Prop where
 its:t.its M=some (L.map N)
 lis:t.lis M=some (L.map N)
 ty:jQ M t=some "list"
 src:∃d,A8 M t=some (L.map N,d)/\Jp M t=some (L.map N,d)/\ql d M=true
 nv:t.isV=none
theorem IsL.nl(M:Mem)(L:List Nat):IsL M (NL L) L:=⟨rfl,rfl,rfl,⟨[],rfl,rfl,rfl⟩,rfl⟩
theorem IsL.cell{M:Mem}{n:Nat}{L:List Nat}(h:M[n]?=some (L.map N)):IsL M (.cell n) L:=⟨h,h,qGn h,⟨_,JF h,JF h,d6 h⟩,rfl⟩
section
variable{M:Mem}{t u:T}{L K:List Nat}
theorem IsL.len(h:IsL M t L):jS M .len [t]=some (N L.length,true):=by
 show (t.its M).map _=_;rw[h.its,Option.map_some,wW];rfl
theorem IsL.list(h:IsL M t L):jS M .list [t]=some (NL L,true):=by
 show (t.its M).map lT=_;rw[h.its,Option.map_some];show some (T.lst (L.map N),T.lfs (L.map N))=_;rw[JB];rfl
theorem qBC:∀L:List Nat,zY (L.map N)=some (L.map λ(n:Nat)=>(n:Int))
 | []=>rfl
 |x::L=>by
  show (zY (L.map N)).map _=_;rw[qBC L];rfl
theorem qBU:∀L:List Nat,QV (L.map N)=some (L.map λ(n:Nat)=>(n:Int))
 | []=>rfl
 |x::L=>by
  show (QV (L.map N)).map _=_;rw[qBU L];rfl
theorem N2:∀L:List Nat,(L.map λ(n:Nat)=>(n:Int)).sum=((L.sum:Nat):Int)
 | []=>rfl
 |x::L=>by rw[List.map_cons,List.sum_cons,N2 L,List.sum_cons];simp
theorem IsL.sum(h:IsL M t L):jS M .sum [t]=some (N L.sum,true):=by
 show (t.lis M).bind _=_;rw[h.lis,Option.bind_some,qBU,Option.map_some,N2];rfl
theorem IsL.idx(h:IsL M t L){i:Nat}{x:Nat}(e:L[i]?=some x):QX M t (N i)=some (N x,true):=by
 show ((t.its M).bind λxs=>(_L.ixN xs.length (i:Int)).bind λj=>(xs[j]?).map λt=>(t,t.lf))=_;rw[h.its,Option.bind_some];have:=N1 (M:=M) i (L.map N);rw[show QX M (.lst (L.map N)) (N i)=((_L.ixN (L.map N).length (i:Int)).bind λj=>((L.map N)[j]?).map λt=>(t,t.lf)) from rfl]at this;rw[this,wg,e];simp
theorem IsL.eq(h:IsL M t L)(k:IsL M u K):eqT M 4 t u=some (decide (L=K)):=by
 have:=c9 (M:=M) (d:=3) L K;unfold eqT at this ⊢;rw[h.nv,k.nv,h.lis,k.lis];exact this
theorem IsL.ceq(h:IsL M t L)(k:IsL M u K):qk M .eq t u=some (decide (L=K)):=h.eq k
theorem IsL.cne(h:IsL M t L)(k:IsL M u K):qk M .ne t u=some (!decide (L=K)):=by
 show (eqT M 4 t u).map (!·)=_;rw[h.eq k];rfl
end
theorem Z7{xs:List T}{m:Nat}(h:m<=xs.length):Zz xs none (some (m:Int))=xs.take m:=by
 unfold Zz;rw[_H.sIx_none,_H.sIx_nat,vM h,List.drop_zero,Nat.sub_zero]
theorem Z1{xs:List T}{m:Nat}(h:m<=xs.length):Zz xs (some (m:Int)) none=xs.drop m:=by
 unfold Zz;rw[_H.sIx_none,_H.sIx_nat,vM h];exact vU (by simp)
theorem P9{gl:List T}{P:Nat->List T->Mem->PR (TB×Mem)}{d:Qy}{e:TS->Mem->PR (TB×Mem)}{M:Mem}(f:Nat->Nat->Nat)(hd:ql d M=true):∀(A B ys:List Nat) (b:Bool) (o1 o2:Option T),ys.length+A.length<=lim ->
  (∀x y,x∈A->y∈B->e [some (N x),some (N y)] M=.ok ((N (f x y),true),M)) ->
  qm d (.tup [0,1]) (pec gl P .nil) e (List.zipWith (λa b=>T.tup [a,b]) (A.map N) (B.map N)) (ys.map N) b [o1,o2] M=.ok ((NL (ys++List.zipWith f A B),b),M)
 | [],B,ys,b,o1,o2,hl,he=>by simp[qm,NL]
 |x::A,[],ys,b,o1,o2,hl,he=>by simp[qm,NL]
 |x::A,y::B,ys,b,o1,o2,hl,he=>by
  rw[List.map_cons,List.map_cons,List.zipWith_cons_cons];unfold qm;rw[show jR (.tup [0,1]) (.tup [N x,N y]) [o1,o2]=some [some (N x),some (N y)] from rfl];dsimp only;rw[Zn,tD];dsimp only;rw[if_pos rfl,he x y (wK ..) (wK ..),tD];dsimp only;rw[if_pos ⟨by simp at hl ⊢;omega,hd⟩];rw[show ys.map N++[N (f x y)]=(ys++[f x y]).map N by simp,vg];rw[P9 f hd A B (ys++[f x y]) b _ _ (by simp at hl ⊢;omega) (λu v hu hv=>he u v (wI _ hu) (wI _ hv))];simp
theorem f6{M:Mem}(h:FlatM M)(A:List Nat)(f:Bool):JA M.length (.ok (.rt (.cell M.length,f),M++[A.map N]))=.ok ((NL A,true),M):=by
 show finish M.length _ _=_;unfold finish;rw[if_neg (by simp),if_pos (by rw[vt];exact h.all _;rfl)];have g0:(M++[A.map N])[M.length]?=some (A.map N):=by simp
 have r:qH (M++[A.map N]) M.length 6 (.cell M.length)=some (NL A):=by
  unfold qH;rw[if_neg (by unfold T.und;simp)];dsimp only;rw[g0,Option.bind_some,ZB];rfl
 have i:frR (M++[A.map N]) M.length (.cell M.length)=true:=by
  unfold frR;rw[show jO (M++[A.map N]) M.length 6 (.cell M.length)=some [M.length] by
   unfold jO;rw[if_neg (by rw[Z6];decide)];dsimp only;rw[if_pos (wF _),g0,Option.bind_some,V7,Option.map_some,i8];rfl]
  simp
 rw[r,PR.ofO_some,tD,i,Bool.or_true];rw[show (M++[A.map N]).take M.length=M from by rw[vt];rfl]
theorem G0{α:Type}(p:α->Bool):∀L:List α,jD (L.map λx=>T.v (.bl (p x)))=some (L.map p)
 | []=>rfl
 |x::L=>by
  show (jD (L.map λx=>T.v (.bl (p x)))).map _=_;rw[G0 p L];rfl
theorem qDF{M:Mem}{α:Type}(p:α->Bool)(L:List α):jS M .all [.lst (L.map λx=>T.v (.bl (p x)))]=some (bT (L.all p)):=by
 show (jD _).map _=_;rw[G0,Option.map_some,List.all_map];rfl
theorem qF1{M:Mem}{α:Type}(p:α->Bool)(L:List α):jS M .any [.lst (L.map λx=>T.v (.bl (p x)))]=some (bT (L.any p)):=by
 show (jD _).map _=_;rw[G0,Option.map_some,List.any_map];rfl
theorem qBX{xs:List T}{a b:Nat}(h:a<=b):Zz xs (some (a:Int)) (some (b:Int))=(xs.drop a).take (b-a):=by
 unfold Zz;rw[_H.sIx_nat,_H.sIx_nat];by_cases h1:b<=xs.length
 ·rw[vM h1,vM (by omega)]
 ·rw[vp (by omega)];by_cases h2:a<=xs.length
  ·rw[vM h2,vU (by simp),vU (by simp;omega)]
  ·rw[vp (by omega),vF (wF _),vF (by omega)];simp
theorem qFG(K:List Nat):lT (K.map N)=(NL K,true):=by unfold lT;rw[JB];rfl
theorem qFh{M:Mem}(L:List Nat):qk M .is (NL L) (.v .non)=some false:=rfl
theorem getD_some{L:List Nat}{i:Nat}(h:i<L.length):L[i]?=some (L.getD i 0):=by
 rw[wR,wE h];rfl
def IsS(M:Mem)(t:T)(ts:List T):Prop:=t=.lst ts\/∃m,t=.cell m/\M[m]?=some ts
section
variable{M C:Mem}{t:T}{ts:List T}
theorem IsS.app(h:IsS M t ts):IsS (M++C) t ts:=by
 rcases h with h|⟨m,h,e⟩
 ·exact .inl h
 ·exact .inr ⟨m,h,by rw[wD (wC.mp e).1];exact e⟩
theorem IsS.its(h:IsS M t ts):t.its M=some ts:=by rcases h with rfl|⟨m,rfl,e⟩;rfl;exact e
theorem IsS.lis(h:IsS M t ts):t.lis M=some ts:=by rcases h with rfl|⟨m,rfl,e⟩;rfl;exact e
theorem IsS.ty(h:IsS M t ts):jQ M t=some "list":=by rcases h with rfl|⟨m,rfl,e⟩;rfl;exact qGn e
theorem IsS.nv(h:IsS M t ts):t.isV=none:=by rcases h with rfl|⟨m,rfl,e⟩<;>rfl
theorem IsS.lf(h:IsS M t ts):t.lf=false:=by rcases h with rfl|⟨m,rfl,e⟩<;>simp
theorem IsS.src(h:IsS M t ts):∃d,A8 M t=some (ts,d)/\Jp M t=some (ts,d)/\∀C,ql d (M++C)=true:=by
 rcases h with rfl|⟨m,rfl,e⟩
 ·exact⟨[],rfl,rfl,λ_=>rfl⟩
 ·exact⟨_,JF e,JF e,λC=>d6 (by rw[wD (wC.mp e).1];exact e)⟩
theorem IsS.len(h:IsS M t ts):jS M .len [t]=some (N ts.length,true):=by
 show (t.its M).map _=_;rw[h.its,Option.map_some];rfl
theorem IsS.idx(h:IsS M t ts)(i:Nat):QX M t (N i)=(ts[i]?).map λt=>(t,t.lf):=by
 have a:QX M t (N i)=QX M (.lst ts) (N i):=by
  show (t.its M).bind _=_;rw[h.its];rfl
 rw[a,N1]
theorem IsS.list(h:IsS M t ts):jS M .list [t]=some (lT ts):=by
 show (t.its M).map lT=_;rw[h.its];rfl
theorem IsS.eqT{u:T}{us:List T}{d:Nat}{bs:List Bool}(h:IsS M t ts)(k:IsS M u us)(hl:ts.length=us.length)(e:jh (eqT M d) ts us=some bs):_P.eqT M (d+1) t u=some (bs.all id):=by
 unfold _P.eqT;rw[h.nv,k.nv,h.lis,k.lis];dsimp only;rw[if_pos hl,e];rfl
end
def WfM(M:Mem):Prop:=M.all (T.unds M.length)=true
theorem WfM.app{M C:Mem}(h:WfM M)(hC:∀c∈C,T.unds (M++C).length c=true):WfM (M++C):=by
 unfold WfM at *;rw[wS]at h ⊢;intro c hc;rcases wN.mp hc with z|z
 ·exact jT (by simp) c (h c z)
 ·exact hC c z
theorem FlatM.wf{M:Mem}(h:FlatM M):WfM M:=h.all _
theorem WfM.one{M:Mem}(h:WfM M){ts:List T}(l:T.lfs ts=true):WfM (M++[ts]):=h.app λc hc=>by rw[wY.mp hc];exact G2 _ _ l
theorem Zj{M:Mem}{n0 d:Nat}:∀ts:List T,T.lfs ts=true->ts.mapM (qH M n0 d)=some ts
 | [],_=>rfl
 |t::ts,h=>by
  rw[ZQ,wB]at h;have e:qH M n0 d t=some t:=by cases d<;>(unfold qH;rw[if_pos (Y5 n0 t h.1)])
  rw[vI,e,Zj ts h.2];rfl
theorem R7{M:Mem}{n0 d:Nat}:∀ts:List T,T.lfs ts=true->ts.mapM (jO M n0 d)=some (ts.map λ_=>[])
 | [],_=>rfl
 |t::ts,h=>by
  rw[ZQ,wB]at h;have e:jO M n0 d t=some []:=by cases d<;>(unfold jO;rw[if_pos h.1])
  rw[vI,e,R7 ts h.2];rfl
theorem S3(L:List T):(L.map λ_=>([]:List Nat)).flatten=[]:=by
 induction L with
 |nil=>rfl
 |cons x L ih=>rw[List.map_cons,List.flatten_cons,ih];rfl
theorem ZC{M A C:Mem}{c:Nat}{ts:List T}(hA:A.length=M.length)(hW:WfM A)(hc:(A++C)[c]?=some ts)(hn:A.length<=c)(hl:T.lfs ts=true)(f:Bool):JA M.length (.ok (.rt (.cell c,f),A++C))=.ok ((.lst ts,true),A):=by
 show finish M.length _ _=_;unfold finish;have hlt:=(wC.mp hc).1;rw[wX]at hlt;rw[<-hA,if_neg (by rw[wX];omega),vt rfl,if_pos (show A.all (T.unds A.length)=true from hW)];have r:qH (A++C) A.length 6 (.cell c)=some (.lst ts):=by
  unfold qH;rw[if_neg (by unfold T.und;simp;omega)];dsimp only;rw[hc,Option.bind_some,Zj _ hl];rfl
 have i:frR (A++C) A.length (.cell c)=true:=by
  unfold frR;rw[show jO (A++C) A.length 6 (.cell c)=some [c] by
   unfold jO;rw[if_neg (by rw[Z6];decide)];dsimp only;rw[if_pos hn,hc,Option.bind_some,R7 _ hl,Option.map_some,S3];rfl]
  simp
 dsimp only;rw[r,PR.ofO_some,tD,i,Bool.or_true]
section
variable{gl:List T}{P:Nat->List T->Mem->PR (TB×Mem)}{M:Mem}{t:T}{l:TS}
@[simp high] theorem zE:pe gl P (.var 0) (some t::l) M=.ok ((t,t.lf),M):=Eq.trans rfl rfl
@[simp high] theorem zU{x0:Option T}:pe gl P (.var 1) (x0::some t::l) M=.ok ((t,t.lf),M):=Eq.trans rfl rfl
@[simp high] theorem zh{x0 x1:Option T}:pe gl P (.var 2) (x0::x1::some t::l) M=.ok ((t,t.lf),M):=Eq.trans rfl rfl
@[simp high] theorem zj{x0 x1 x2:Option T}:pe gl P (.var 3) (x0::x1::x2::some t::l) M=.ok ((t,t.lf),M):=Eq.trans rfl rfl
@[simp high] theorem jH{x0 x1 x2 x3:Option T}:pe gl P (.var 4) (x0::x1::x2::x3::some t::l) M=.ok ((t,t.lf),M):=Eq.trans rfl rfl
@[simp high] theorem jU{x0 x1 x2 x3 x4:Option T}:pe gl P (.var 5) (x0::x1::x2::x3::x4::some t::l) M=.ok ((t,t.lf),M):=Eq.trans rfl rfl
@[simp high] theorem JY{x0 x1 x2 x3 x4 x5:Option T}:pe gl P (.var 6) (x0::x1::x2::x3::x4::x5::some t::l) M=.ok ((t,t.lf),M):=Eq.trans rfl rfl
@[simp high] theorem Jo{x0 x1 x2 x3 x4 x5 x6:Option T}:pe gl P (.var 7) (x0::x1::x2::x3::x4::x5::x6::some t::l) M=.ok ((t,t.lf),M):=Eq.trans rfl rfl
@[simp high] theorem D2{x0 x1 x2 x3 x4 x5 x6 x7:Option T}:pe gl P (.var 8) (x0::x1::x2::x3::x4::x5::x6::x7::some t::l) M=.ok ((t,t.lf),M):=Eq.trans rfl rfl
@[simp high] theorem qAH{x0 x1 x2 x3 x4 x5 x6 x7 x8:Option T}:pe gl P (.var 9) (x0::x1::x2::x3::x4::x5::x6::x7::x8::some t::l) M=.ok ((t,t.lf),M):=Eq.trans rfl rfl
@[simp high] theorem O1{x0 x1 x2 x3 x4 x5 x6 x7 x8 x9:Option T}:pe gl P (.var 10) (x0::x1::x2::x3::x4::x5::x6::x7::x8::x9::some t::l) M=.ok ((t,t.lf),M):=Eq.trans rfl rfl
@[simp high] theorem M7{x0 x1 x2 x3 x4 x5 x6 x7 x8 x9 x10:Option T}:pe gl P (.var 11) (x0::x1::x2::x3::x4::x5::x6::x7::x8::x9::x10::some t::l) M=.ok ((t,t.lf),M):=Eq.trans rfl rfl
@[simp high] theorem qBD{x0 x1 x2 x3 x4 x5 x6 x7 x8 x9 x10 x11:Option T}:pe gl P (.var 12) (x0::x1::x2::x3::x4::x5::x6::x7::x8::x9::x10::x11::some t::l) M=.ok ((t,t.lf),M):=Eq.trans rfl rfl
@[simp high] theorem qEe{x0 x1 x2 x3 x4 x5 x6 x7 x8 x9 x10 x11 x12:Option T}:pe gl P (.var 13) (x0::x1::x2::x3::x4::x5::x6::x7::x8::x9::x10::x11::x12::some t::l) M=.ok ((t,t.lf),M):=Eq.trans rfl rfl
@[simp high] theorem qU{y z:Option T}:(y::l:TS).set 0 z=z::l:=Eq.trans rfl rfl
@[simp high] theorem qZ{x0 y z:Option T}:(x0::y::l:TS).set 1 z=x0::z::l:=Eq.trans rfl rfl
@[simp high] theorem qf{x0 x1 y z:Option T}:(x0::x1::y::l:TS).set 2 z=x0::x1::z::l:=Eq.trans rfl rfl
@[simp high] theorem qj{x0 x1 x2 y z:Option T}:(x0::x1::x2::y::l:TS).set 3 z=x0::x1::x2::z::l:=Eq.trans rfl rfl
@[simp high] theorem zb{x0 x1 x2 x3 y z:Option T}:(x0::x1::x2::x3::y::l:TS).set 4 z=x0::x1::x2::x3::z::l:=Eq.trans rfl rfl
@[simp high] theorem zn{x0 x1 x2 x3 x4 y z:Option T}:(x0::x1::x2::x3::x4::y::l:TS).set 5 z=x0::x1::x2::x3::x4::z::l:=Eq.trans rfl rfl
@[simp high] theorem Qc{x0 x1 x2 x3 x4 x5 y z:Option T}:(x0::x1::x2::x3::x4::x5::y::l:TS).set 6 z=x0::x1::x2::x3::x4::x5::z::l:=Eq.trans rfl rfl
@[simp high] theorem Qk{x0 x1 x2 x3 x4 x5 x6 y z:Option T}:(x0::x1::x2::x3::x4::x5::x6::y::l:TS).set 7 z=x0::x1::x2::x3::x4::x5::x6::z::l:=Eq.trans rfl rfl
@[simp high] theorem ZE{x0 x1 x2 x3 x4 x5 x6 x7 y z:Option T}:(x0::x1::x2::x3::x4::x5::x6::x7::y::l:TS).set 8 z=x0::x1::x2::x3::x4::x5::x6::x7::z::l:=Eq.trans rfl rfl
@[simp high] theorem N5{x0 x1 x2 x3 x4 x5 x6 x7 x8 y z:Option T}:(x0::x1::x2::x3::x4::x5::x6::x7::x8::y::l:TS).set 9 z=x0::x1::x2::x3::x4::x5::x6::x7::x8::z::l:=Eq.trans rfl rfl
@[simp high] theorem JZ{x0 x1 x2 x3 x4 x5 x6 x7 x8 x9 y z:Option T}:(x0::x1::x2::x3::x4::x5::x6::x7::x8::x9::y::l:TS).set 10 z=x0::x1::x2::x3::x4::x5::x6::x7::x8::x9::z::l:=Eq.trans rfl rfl
@[simp high] theorem Jr{x0 x1 x2 x3 x4 x5 x6 x7 x8 x9 x10 y z:Option T}:(x0::x1::x2::x3::x4::x5::x6::x7::x8::x9::x10::y::l:TS).set 11 z=x0::x1::x2::x3::x4::x5::x6::x7::x8::x9::x10::z::l:=Eq.trans rfl rfl
@[simp high] theorem qBk{x0 x1 x2 x3 x4 x5 x6 x7 x8 x9 x10 x11 y z:Option T}:(x0::x1::x2::x3::x4::x5::x6::x7::x8::x9::x10::x11::y::l:TS).set 12 z=x0::x1::x2::x3::x4::x5::x6::x7::x8::x9::x10::x11::z::l:=Eq.trans rfl rfl
@[simp high] theorem qCm{x0 x1 x2 x3 x4 x5 x6 x7 x8 x9 x10 x11 x12 y z:Option T}:(x0::x1::x2::x3::x4::x5::x6::x7::x8::x9::x10::x11::x12::y::l:TS).set 13 z=x0::x1::x2::x3::x4::x5::x6::x7::x8::x9::x10::x11::x12::z::l:=Eq.trans rfl rfl
variable{σ:TS}{C:List Nat}{e:E}{i:Nat}
theorem qDD(h:(C.contains i||C.contains (i+1000))=false):px gl P C (.asg (.name i) e) σ M=(pe gl P e σ M).bind λp=>.ok (.nx (σ.set i (some p.1.1)),p.2):=by
 rw[Bool.or_eq_false_iff]at h;rw[G7,h.1,h.2];rfl
@[simp high] theorem qGT:px gl P [] (.asg (.name i) e) σ M=(pe gl P e σ M).bind λp=>.ok (.nx (σ.set i (some p.1.1)),p.2):=qDD rfl
variable{s:S}{r t0 u0:Ss}{σ':TS}{M':Mem}{c:E}{b:Bool}
theorem N9(e:px gl P C s σ M=.ok (.nx σ',M')):pxs gl P C (.cons s r) σ M=pxs gl P C r σ' M':=by rw[zZ,e];rfl
section
variable{i f:Nat}{a b d z:E}{u v w:T}{fa fb fc fd:Bool}{M1 M2 M3 M4:Mem}{r:TB}
theorem zC(ha:pe gl P a σ M=.ok ((t,fa),M1))(hb:pe gl P b σ M1=.ok ((u,fb),M2))(h:QX M2 t u=some r):pe gl P (.idx a b) σ M=.ok (r,M2):=by
 rw[qBV,ha,tD,hb,tD,h];rfl
theorem zA{op:BOp}(ha:pe gl P a σ M=.ok ((t,fa),M1))(hb:pe gl P b σ M1=.ok ((u,fb),M2))(h:zW M2 op t u=some r):pe gl P (.bin op a b) σ M=.ok (r,M2):=by
 rw[qEM,ha,tD,hb,tD,h];rfl
theorem zI{op:COp}{x:Bool}(ha:pe gl P a σ M=.ok ((t,fa),M1))(hb:pe gl P b σ M1=.ok ((u,fb),M2))(h:qk M2 op t u=some x):pe gl P (.cmp op a b) σ M=.ok (bT x,M2):=by
 rw[V8,ha,tD,hb,tD,h];rfl
theorem qF2(h:pe gl P a σ M=.ok ((t,fa),M1))(hC:(C.contains i||C.contains (i+1000))=false):px gl P C (.asg (.name i) a) σ M=.ok (.nx (σ.set i (some t)),M1):=by
 rw[qDD hC,h];rfl
theorem qFv{n:Nat}(ha:pe gl P a σ M=.ok ((.cell n,fa),M1))(hb:pe gl P b σ M1=.ok ((u,fb),M2))(h:T1 M2 n u=some M3):px gl P C (.expr (.app a b)) σ M=.ok (.nx σ,M3):=by
 rw[K8,qDo,ha,tD];show ((pe gl P b σ M1).bind _).bind _=_;rw[hb,tD];show ((tH (T1 M2 n u)).bind _).bind _=_;rw[h];rfl
end
end
noncomputable def apS:Ss->Ss->Ss
 | .nil,r=>r
 | .cons s t,r=>.cons s (apS t r)
def Cnd{α:Type}(y:Bool)(A B q:PR α):Prop:=(if y=true then A else B)=q/\True
theorem cT{α:Type}{A B q:PR α}(h:A=q):Cnd true A B q:=⟨h,trivial⟩
theorem cF{α:Type}{A B q:PR α}(h:B=q):Cnd false A B q:=⟨h,trivial⟩
theorem ll0:([]:List T).length<=lim:=(by decide:0<=lim)
theorem ll1{x0:T}:[x0].length<=lim:=(by decide:1<=lim)
theorem ll2{x0 x1:T}:[x0,x1].length<=lim:=(by decide:2<=lim)
theorem ll3{x0 x1 x2:T}:[x0,x1,x2].length<=lim:=(by decide:3<=lim)
theorem ll4{x0 x1 x2 x3:T}:[x0,x1,x2,x3].length<=lim:=(by decide:4<=lim)
theorem ll6{x0 x1 x2 x3 x4 x5:T}:[x0,x1,x2,x3,x4,x5].length<=lim:=(by decide:6<=lim)
theorem isT:true=true:=rfl
theorem isF:false=false:=rfl
theorem dT{p:Prop}{h:Decidable p}(hp:p):decide p=true:=uB hp
theorem nT{x:Bool}(h:x=false):(!x)=true:=by rw[h];rfl
theorem nF{x:Bool}(h:x=true):(!x)=false:=by rw[h];rfl
section
variable{gl:List T}{P:Nat->List T->Mem->PR (TB×Mem)}{C:List Nat}{σ σ':TS}{M M1 M2 M3 M4:Mem}
def PL(gl:List T)(P:Nat->List T->Mem->PR (TB×Mem))(as:Es)(σ:TS)(M:Mem)(ts:List T)(f:Bool)(M1:Mem):Prop:=∃xs,pes gl P as σ M=.ok (xs,M1)/\xs.map (·.1)=ts/\xs.all (·.2)=f/\xs.length=ts.length
variable{i f g:Nat}{a b c e:E}{as:Es}{t u v:T}{fa fb fc x y:Bool}{ts us:List T}{r:TB}{s:S}{rs t0 u0:Ss}{q:PR (PO×Mem)}
theorem zB:PL gl P .nil σ M [] true M:=⟨[],rfl,rfl,rfl,rfl⟩
theorem qS(ha:pe gl P a σ M=.ok ((t,fa),M1))(hb:PL gl P as σ M1 ts fb M2):PL gl P (.cons a as) σ M (t::ts) (fa&&fb) M2:=by
 obtain⟨xs,e,rfl,rfl,h⟩:=hb;refine⟨(t,fa)::xs,?_,rfl,rfl,congrArg (· + 1) h⟩;rw[Jd,ha,tD,e];rfl
theorem jc{n:Nat}:pe gl P (nE n) σ M=.ok ((N n,true),M):=qFo n
theorem jZ{x:Bool}:pe gl P (.cst (.bl x)) σ M=.ok ((.v (.bl x),true),M):=rfl
theorem zR:pe gl P (.cst .non) σ M=.ok ((.v .non,true),M):=rfl
theorem zG{s:PySem.Str}:pe gl P (.cst (.str s)) σ M=.ok ((.v (.str s),true),M):=rfl
theorem qV(h:PL gl P as σ M ts fa M1)(hp:P f ts M1=.ok (r,M2)):pe gl P (.call f as) σ M=.ok (r,M2):=by
 obtain⟨xs,e,rfl,rfl,_⟩:=h;rw[pe_call,e,tD];show (P f (xs.map (·.1)) M1).nx=_;rw[hp];rfl
theorem zL{o:BF}(h:PL gl P as σ M ts fa M1)(hp:jS M1 o ts=some r):pe gl P (.blt o as) σ M=.ok (r,M1):=by
 obtain⟨xs,e,rfl,rfl,_⟩:=h;rw[Z5,e,tD];show (tH (jS M1 o (xs.map (·.1)))).bind _=_;rw[hp];rfl
theorem zQ(h:PL gl P as σ M ts fa M1)(hl:ts.length<=lim):pe gl P (.lst as) σ M=.ok ((.lst ts,fa),M1):=by
 obtain⟨xs,e,rfl,rfl,hh⟩:=h;rw[pe_lst,e,tD];show (if xs.length<=lim then _ else _)=_;rw[hh,if_pos hl]
theorem zS(h:PL gl P as σ M ts fa M1)(hl:ts.length<=lim):pe gl P (.tup as) σ M=.ok ((.tup ts,fa),M1):=by
 obtain⟨xs,e,rfl,rfl,hh⟩:=h;rw[pe_tup,e,tD];show (if xs.length<=lim then _ else _)=_;rw[hh,if_pos hl]
theorem qX{it:Itr}{src:List (Option Nat)}{tg:Tg}{cs:Es}{d:Qy}(h:pei gl P it σ M=.ok ((us,d),M1))(hc:qm d tg (pec gl P cs) (pe gl P e) us [] true (jl src σ) M1=.ok (r,M2)):pe gl P (.comp it src tg cs e) σ M=.ok (r,M2):=by
 rw[pe_comp,h];exact hc
theorem zP(h:pe gl P a σ M=.ok (bT x,M1)):pe gl P (.not a) σ M=.ok (bT (!x),M1):=by rw[pe_not,h];rfl
theorem zF{q:PR (TB×Mem)}(h:pe gl P a σ M=.ok (bT x,M1))(hx:x=y)(hq:Cnd y (pe gl P b σ M1) (.ok (bT false,M1)) q):pe gl P (.and a b) σ M=q:=by subst hx;rw[pe_and,h];exact hq.1
theorem jX{q:PR (TB×Mem)}(h:pe gl P a σ M=.ok (bT x,M1))(hx:x=y)(hq:Cnd y (.ok (bT true,M1)) (pe gl P b σ M1) q):pe gl P (.or a b) σ M=q:=by subst hx;rw[pe_or,h];exact hq.1
theorem zK{n:Nat}{ty:Mt}{r:TB}(h:pe gl P a σ M=.ok ((.cell n,fa),M1))(hs:PL gl P as σ M1 ts fb M2)(hm:F7 ty n ts M2=some (r,M3)):pe gl P (.meth ty a as) σ M=.ok (r,M3):=by
 obtain⟨xs,e,rfl,rfl,_⟩:=hs;rw[qCf,h,tD];show (pes gl P as σ M1).bind _=_;rw[e,tD];show tH (F7 ty n (xs.map (·.1)) M2)=_;rw[hm];rfl
theorem qQ(h:pe gl P a σ M=.ok ((t,fa),M1))(hl:X6 t=some us):pe gl P (.lrng a) σ M=.ok ((.lst us,true),M1):=by
 rw[qCi,h,tD];show (tH (X6 t)).bind _=_;rw[hl];rfl
theorem ja{lo hi:Es}{l h':List T}{is js:List Int}(h:pe gl P a σ M=.ok ((t,fa),M1))(h1:PL gl P lo σ M1 l fb M2)(h2:PL gl P hi σ M2 h' fc M3)(hi':t.its M3=some us)(e1:zY l=some is)(e2:zY h'=some js)(hr:Z0 t us is.head? js.head?=some r):pe gl P (.sl a lo hi) σ M=.ok (r,M3):=by
 obtain⟨xs,e,rfl,rfl,_⟩:=h1;obtain⟨ys,e',rfl,rfl,_⟩:=h2;rw[qBz,h,tD];show (pes gl P lo σ M1).bind _=_;rw[e,tD];show (pes gl P hi σ M2).bind _=_;rw[e',tD];show (tH (t.its M3)).bind _=_;rw[hi',PR.ofO_some,tD];show (tH (zY (xs.map (·.1)))).bind _=_;rw[e1,PR.ofO_some,tD];show (tH (zY (ys.map (·.1)))).bind _=_;rw[e2,PR.ofO_some,tD];show (tH (Z0 t us is.head? js.head?)).bind _=_;rw[hr];rfl
theorem qD3{ks:List String}{n:String}(h:pe gl P a σ M=.ok ((t,fa),M1))(ht:jQ M1 t=some n):pe gl P (.isi a ks) σ M=.ok (bT (ks.any (QS n)),M1):=by
 rw[qBH,h,tD];show (tH (jQ M1 t)).bind _=_;rw[ht];rfl
theorem qN{d:Qy}(h:pe gl P a σ M=.ok ((t,fa),M1))(hs:A8 M1 t=some (us,d)):pei gl P (.list a) σ M=.ok ((us,d),M1):=by
 rw[Jl,h,tD];show (tH (A8 M1 t)).bind _=_;rw[hs];rfl
theorem zH(h:pe gl P a σ M=.ok ((t,fa),M1))(hs:qC4 t=some us):pei gl P (.rng1 a) σ M=.ok ((us,[]),M1):=by
 rw[qAF,h,tD];show (tH (qC4 t)).bind _=_;rw[hs];rfl
theorem qDt(ha:pe gl P a σ M=.ok ((t,fa),M1))(hb:pe gl P b σ M1=.ok ((u,fb),M2))(hs:k9 t u=some us):pei gl P (.rng2 a b) σ M=.ok ((us,[]),M2):=by
 rw[qAA,ha,tD];show ((pe gl P b σ M1).bind _)=_;rw[hb,tD];show (tH (k9 t u)).bind _=_;rw[hs];rfl
theorem zO:pxs gl P C .nil σ M=.ok (.nx σ,M):=rfl
theorem K4:∀(t0 rs:Ss) (σ:TS) (M:Mem),pxs gl P C (apS t0 rs) σ M=(pxs gl P C t0 σ M).bind λp=>match p.1 with
  | .nx σ1=>pxs gl P C rs σ1 p.2
  |o=>.ok (o,p.2)
 | .nil,rs,σ,M=>rfl
 | .cons s t,rs,σ,M=>by
  show pxs gl P C (.cons s (apS t rs)) σ M=_;rw[zZ,zZ];cases px gl P C s σ M with
  |ok p=>
   obtain⟨o,M'⟩:=p;cases o with
   |nx σ1=>exact K4 t rs σ1 M'
   |_=>rfl
  |_=>rfl
def Ifs(gl:List T)(P:Nat->List T->Mem->PR (TB×Mem))(C:List Nat)(y:Bool)(t u r:Ss)(σ:TS)(M:Mem)(q:PR (PO×Mem)):Prop:=(if y=true then pxs gl P C (apS t r) σ M else pxs gl P C (apS u r) σ M)=q/\True
section
variable{s1 s2 s3 s4:S}
theorem t_0(h:pxs gl P C rs σ M=q):Ifs gl P C true .nil u0 rs σ M q:=⟨h,trivial⟩
theorem t_1(h:pxs gl P C (.cons s1 rs) σ M=q):Ifs gl P C true (.cons s1 .nil) u0 rs σ M q:=⟨h,trivial⟩
theorem t_2(h:pxs gl P C (.cons s1 (.cons s2 rs)) σ M=q):Ifs gl P C true (.cons s1 (.cons s2 .nil)) u0 rs σ M q:=⟨h,trivial⟩
theorem t_3(h:pxs gl P C (.cons s1 (.cons s2 (.cons s3 rs))) σ M=q):Ifs gl P C true (.cons s1 (.cons s2 (.cons s3 .nil))) u0 rs σ M q:=⟨h,trivial⟩
theorem f_0(h:pxs gl P C rs σ M=q):Ifs gl P C false t0 .nil rs σ M q:=⟨h,trivial⟩
theorem f_1(h:pxs gl P C (.cons s1 rs) σ M=q):Ifs gl P C false t0 (.cons s1 .nil) rs σ M q:=⟨h,trivial⟩
end
theorem jY(h:pe gl P c σ M=.ok (bT x,M1))(hx:x=y)(hq:Ifs gl P C y t0 u0 rs σ M1 q):pxs gl P C (.cons (.ifs c t0 u0) rs) σ M=q:=by
 subst hx;rw[zZ,qDd,h,qEf,tD];have hq:=hq.1;rw[K4,K4]at hq;cases x<;>exact hq
theorem zJ(hC:(C.contains i||C.contains (i+1000))=false)(h:pe gl P e σ M=.ok ((t,fa),M1))(hs:σ.set i (some t)=σ')(hr:pxs gl P C rs σ' M1=q):pxs gl P C (.cons (.asg (.name i) e) rs) σ M=q:=by
 rw[N9 (qF2 h hC),hs];exact hr
theorem qW{B:Mem}(hC:C.contains i=true)(h:pe gl P e σ M=.ok ((t,true),M1))(ht:thaw M1.length t=(u,B))(hs:σ.set i (some u)=σ')(hr:pxs gl P C rs σ' (M1++B)=q):pxs gl P C (.cons (.asg (.name i) e) rs) σ M=q:=by
 rw[zZ,G7,h,tD];show ((if (C.contains i&&true)=true then PR.ok (.nx (σ.set i (some (thaw M1.length t).1)),M1++(thaw M1.length t).2) else _:PR (PO×Mem)).bind _)=_;rw[hC,if_pos (show (true&&true)=true from rfl),ht,tD,hs];exact hr
theorem qF{ts:List T}(h0:(!C.contains i&&(C.contains (i+1000)&&qC6 e))=true)(h:pe gl P e σ M=.ok ((.lst ts,fa),M1))(hs:σ.set i (some (.cell M1.length))=σ')(hr:pxs gl P C rs σ' (M1++[ts])=q):pxs gl P C (.cons (.asg (.name i) e) rs) σ M=q:=by
 obtain⟨h0,hC⟩:=Bool.and_eq_true_iff.mp h0;have h0:C.contains i=false:=by cases hc:C.contains i<;>simp_all
 rw[zZ,G7,h,tD];dsimp only;rw[h0,if_neg (by simp),if_pos hC,tD,hs];exact hr
theorem qR{j:Nat}{σ1:TS}(h:pe gl P e σ M=.ok ((.tup [t,u],fa),M1))(h1:σ.set i (some t)=σ1)(h2:σ1.set j (some u)=σ')(hr:pxs gl P C rs σ' M1=q):pxs gl P C (.cons (.asg (.tup [i,j]) e) rs) σ M=q:=by
 rw[zZ,qEi,h,tD];subst h1;subst h2;exact hr
theorem zN{o k a:E}{p n z:T}(ha:pe gl P a σ M=.ok ((z,fa),M1))(ho:pe gl P o σ M1=.ok ((p,fb),M2))(hk:pe gl P k σ M2=.ok ((n,fc),M3))(hp:qEX M3 p n z=some M4)(hr:pxs gl P C rs σ M4=q):pxs gl P C (.cons (.put o k a) rs) σ M=q:=by
 rw[zZ,qEF,ha,tD];show ((pe gl P o σ M1).bind _).bind _=_;rw[ho,tD];show ((pe gl P k σ M2).bind _).bind _=_;rw[hk,tD];show ((tH (qEX M3 p n z)).bind _).bind _=_;rw[hp];exact hr
theorem zM{n:Nat}(ha:pe gl P a σ M=.ok ((.cell n,fa),M1))(hb:pe gl P b σ M1=.ok ((u,fb),M2))(h:T1 M2 n u=some M3)(hr:pxs gl P C rs σ M3=q):pxs gl P C (.cons (.expr (.app a b)) rs) σ M=q:=by
 rw[N9 (qFv ha hb h)];exact hr
theorem qT(h:pe gl P e σ M=.ok (r,M1))(hr:pxs gl P C rs σ M1=q):pxs gl P C (.cons (.expr e) rs) σ M=q:=by
 rw[zZ,K8,h];exact hr
theorem ZJ(h:pe gl P e σ M=.ok (r,M1)):pxs gl P C (.cons (.ret e) rs) σ M=.ok (.rt r,M1):=by
 rw[zZ,u5,h];rfl
theorem qo{r':TB}(h:pe gl P e σ M=.ok (r,M1))(hr:r=r'):pxs gl P C (.cons (.ret e) rs) σ M=.ok (.rt r',M1):=by rw[ZJ h,hr]
theorem qz{it:Itr}{tg:Tg}{d:Qy}{σ2:TS}(h:pei gl P it σ M=.ok ((us,d),M1))(hf:zg d tg (pxs gl P C t0) us σ M1=.ok (.nx σ2,M2))(hr:pxs gl P C rs σ2 M2=q):pxs gl P C (.cons (.for_ tg it t0) rs) σ M=q:=by
 rw[zZ,qDa,h,tD];dsimp only;rw[hf];exact hr
theorem zq{tb:List Fn}{Cs:List (List Nat)}{k np ns:Nat}{b:Ss}{vs:List T}{q:PR (PO×Mem)}{z:PR (TB×Mem)}(ht:tb[f]?=some ⟨np,ns,b⟩)(hl:vs.length=np/\np<=ns)(hk:1<=k)(hC:Cs.getD f []=C)(hs:vs.map some++List.replicate (ns-np) none=σ)(h:pxs gl (Pk gl tb Cs (k-1)) C b σ M=q)(hv:JA M.length q=z):Pk gl tb Cs k f vs M=z:=by
 rw[qM ht hl hk,hC,hs,h];exact hv
theorem cN{C:List Nat}{i:Nat}(h:(C.contains i||C.contains (i+1000))=false):(C.contains i||C.contains (i+1000))=false:=h
theorem jG{n:Nat}(h:us[n]?=some t):QX M (.lst us) (N n)=some (t,t.lf):=by rw[N1,h];rfl
theorem jW{n:Nat}(h:us[n]?=some t):QX M (.tup us) (N n)=some (t,t.lf):=by rw[q8,h];rfl
theorem jb{n m:Nat}(h0:M[m]?=some us)(h:us[n]?=some t):QX M (.cell m) (N n)=some (t,t.lf):=by rw[qDv,h0,Option.bind_some,h];rfl
end
section
variable{gl:List T}{P:Nat->List T->Mem->PR (TB×Mem)}{C:List Nat}{σ σ':TS}{M M1 M2 M3 M4:Mem}
variable{i f g:Nat}{a b c e:E}{as:Es}{t u v:T}{fa fb fc x y:Bool}{ts us:List T}{r:TB}{s:S}{rs t0 u0:Ss}{q:PR (PO×Mem)}
theorem qFW{d1 d2:Qy}{vs:List T}(ha:pe gl P a σ M=.ok ((t,fa),M1))(hb:pe gl P b σ M1=.ok ((u,fb),M2))(h1:Jp M2 t=some (us,d1))(h2:Jp M2 u=some (vs,d2)):pei gl P (.zip a b) σ M=.ok ((List.zipWith (λa b=>T.tup [a,b]) us vs,d1++d2),M2):=by
 rw[qBd,ha,tD];show ((pe gl P b σ M1).bind _)=_;rw[hb,tD];show ((tH (Jp M2 t)).bind _)=_;rw[h1,PR.ofO_some,tD];show ((tH (Jp M2 u)).bind _)=_;rw[h2];rfl
theorem qCA(h:pe gl P a σ M=.ok ((t,fa),M1))(hn:v7 t=some r):pe gl P (.neg a) σ M=.ok (r,M1):=by
 rw[qEj,h,tD];show (tH (v7 t)).bind _=_;rw[hn];rfl
end
end _P
namespace Fr
noncomputable def red(t b:Int):Int×Int:=(t / (Int.gcd t b:Int),b / (Int.gcd t b:Int))
structure Low(a:Int×Int):Prop where
 pos:0<a.2
 one:Int.gcd a.1 a.2=1
theorem gpos{t b:Int}(h:0<b):(0:Int)<(Int.gcd t b:Int):=by
 have:0<Int.gcd t b:=Int.gcd_pos_of_ne_zero_right t (by omega);omega
theorem n6(t b:Int):(Int.gcd t b:Int)*(red t b).1=t/\(Int.gcd t b:Int)*(red t b).2=b:=
 ⟨Int.mul_ediv_cancel' (Int.gcd_dvd_left ..),Int.mul_ediv_cancel' (Int.gcd_dvd_right ..)⟩
theorem qBb{t b:Int}(h:0<b):Low (red t b):=by
 have g:=gpos (t:=t) h;obtain⟨e1,e2⟩:=n6 t b;refine⟨?_,?_⟩
 ·refine Int.lt_of_mul_lt_mul_left (a:=(Int.gcd t b:Int)) ?_ (Int.le_of_lt g);rw[e2,Int.mul_zero];exact h
 ·have:Int.gcd t b*Int.gcd (red t b).1 (red t b).2=Int.gcd t b:=by
   have:=Int.gcd_mul_left (Int.gcd t b:Int) (red t b).1 (red t b).2;rw[e1,e2]at this;simpa using this.symm
  have g':0<Int.gcd t b:=by omega
  exact Nat.eq_of_mul_eq_mul_left g' (by rw[this,Nat.mul_one])
theorem m9{k n m:Int}(h:Int.gcd k m=1)(d:k ∣ n*m):k ∣ n:=by
 have:=Int.dvd_mul_gcd_iff_dvd_mul.mpr d;rw[h]at this;simpa using this
theorem qDi{a b:Int×Int}(ha:Low a)(hb:Low b)(h:a.1*b.2=b.1*a.2):a=b:=by
 have d1:a.2 ∣ b.2:=by
  have:a.2 ∣ a.1*b.2:=⟨b.1,by rw[h,vP]⟩
  rw[vP]at this;exact m9 (by rw[Int.gcd_comm];exact ha.one) this
 have d2:b.2 ∣ a.2:=by
  have:b.2 ∣ b.1*a.2:=⟨a.1,by rw[<-h,vP]⟩
  rw[vP]at this;exact m9 (by rw[Int.gcd_comm];exact hb.one) this
 have e:a.2=b.2:=Int.dvd_antisymm (Int.le_of_lt ha.pos) (Int.le_of_lt hb.pos) d1 d2;have e1:a.1=b.1:=by
  rw[e]at h;exact Int.eq_of_mul_eq_mul_right (by have:=hb.pos;omega) h
 exact Prod.ext e1 e
theorem qDp{t b:Int}(h:0<b){a:Int×Int}(ha:Low a)(e:t*a.2=a.1*b):red t b=a:=by
 refine qDi (qBb h) ha ?_;obtain⟨e1,e2⟩:=n6 t b;have g:=gpos (t:=t) h;refine Int.eq_of_mul_eq_mul_left (by omega:(Int.gcd t b:Int)≠0) ?_;rw[<-Int.mul_assoc,e1,e,Int.mul_left_comm,e2]
noncomputable def add(a b:Int×Int):Int×Int:=red (a.1*b.2+b.1*a.2) (a.2*b.2)
noncomputable def sub(a b:Int×Int):Int×Int:=red (a.1*b.2-b.1*a.2) (a.2*b.2)
noncomputable def mul(a b:Int×Int):Int×Int:=red (a.1*b.1) (a.2*b.2)
theorem add_comm(a b:Int×Int):add a b=add b a:=by unfold add;rw[Int.add_comm,vP a.2]
theorem mul_comm(a b:Int×Int):mul a b=mul b a:=by unfold mul;rw[vP a.1,vP a.2]
theorem bpos{a b:Int×Int}(ha:Low a)(hb:Low b):0<a.2*b.2:=Int.mul_pos ha.pos hb.pos
noncomputable def of(q:Rat):Int×Int:=(q.num,(q.den:Int))
theorem of_low(q:Rat):Low (of q):=⟨by show (0:Int)<(q.den:Int);have:=q.den_pos;omega,q.reduced⟩
theorem l6{t b:Int}(h:0<b):red t b=of (Rat.divInt t b):=by
 refine qDp h (of_low _) ?_;have e:=Rat.num_divInt_den (Rat.divInt t b);have hd:((Rat.divInt t b).den:Int)≠0:=by have:=(Rat.divInt t b).den_pos;omega
 have:=(Rat.divInt_eq_divInt_iff hd (by omega:b≠0)).mp e;show t*((Rat.divInt t b).den:Int)=(Rat.divInt t b).num*b;exact this.symm
theorem dz(q:Rat):(q.den:Int)≠0:=by have:=q.den_pos;omega
theorem dp(q:Rat):(0:Int)<(q.den:Int):=by have:=q.den_pos;omega
theorem add_of(a b:Rat):add (of a) (of b)=of (a+b):=by
 unfold add;show red (a.num*b.den+b.num*a.den) (a.den*b.den)=_;rw[l6 (Int.mul_pos (dp a) (dp b))];congr 1;show Rat.divInt (a.num*b.den+b.num*a.den) (a.den*b.den)=_;rw[<-Rat.divInt_add_divInt _ _ (dz a) (dz b),Rat.num_divInt_den,Rat.num_divInt_den]
theorem sub_of(a b:Rat):sub (of a) (of b)=of (a-b):=by
 unfold sub;show red (a.num*b.den-b.num*a.den) (a.den*b.den)=_;rw[l6 (Int.mul_pos (dp a) (dp b))];congr 1;show Rat.divInt (a.num*b.den-b.num*a.den) (a.den*b.den)=_;rw[<-Rat.divInt_sub_divInt _ _ (dz a) (dz b),Rat.num_divInt_den,Rat.num_divInt_den]
theorem mul_of(a b:Rat):mul (of a) (of b)=of (a*b):=by
 unfold mul;show red (a.num*b.num) (a.den*b.den)=_;rw[l6 (Int.mul_pos (dp a) (dp b))];congr 1;show Rat.divInt (a.num*b.num) (a.den*b.den)=_;rw[<-Rat.divInt_mul_divInt,Rat.num_divInt_den,Rat.num_divInt_den]
noncomputable def wor(p q:Rat):Rat:=p+q-p*q
noncomputable def sh:Nat->(Nat->Rat)->Nat->Rat
 | 0,f,P=>f P
 |s+1,f,P=>if P<2 ^ s then sh s (λt=>wor (f t) (f (2 ^ s+t))) P else sh s (λt=>f t*f (2 ^ s+t)) (P-2 ^ s)
def U(q:Rat):Prop:=0<=q/\q<=1
theorem mul_U{p q:Rat}(hp:U p)(hq:U q):U (p*q):=by
 obtain⟨a,b⟩:=hp;obtain⟨c,d⟩:=hq;refine⟨Rat.mul_nonneg a c,?_⟩;have:=Rat.mul_le_mul_of_nonneg_left d a
 grind
theorem wor_U{p q:Rat}(hp:U p)(hq:U q):U (wor p q):=by
 obtain⟨a,b⟩:=hp;obtain⟨c,d⟩:=hq;have h1:0<=(1-p)*(1-q):=Rat.mul_nonneg (by grind) (by grind);have h2:0<=p*(1-q):=Rat.mul_nonneg a (by grind);unfold wor;constructor<;>grind
theorem qAu{p q p' q':Rat}(hp:U p)(hq:U q)(hp':U p')(hq':U q')(h:p<=p')(h':q<=q'):p*q<=p' * q':=by
 have:=Rat.mul_le_mul_of_nonneg_left h' hp.1;have:=Rat.mul_le_mul_of_nonneg_right h hq'.1
 grind
theorem qD5{p q p' q':Rat}(hp:U p)(hq:U q)(hp':U p')(hq':U q')(h:p<=p')(h':q<=q'):wor p q<=wor p' q':=by
 have h1:(1-p')*(1-q')<=(1-p)*(1-q):=qAu ⟨by grind [hp'.2],by grind [hp'.1]⟩ ⟨by grind [hq'.2],by grind [hq'.1]⟩ ⟨by grind [hp.2],by grind [hp.1]⟩ ⟨by grind [hq.2],by grind [hq.1]⟩ (by grind) (by grind);unfold wor
 grind
theorem p2(s:Nat):2 ^ (s+1)=2 ^ s+2 ^ s:=by rw[vQ];omega
theorem sh_U:∀(s:Nat) (f:Nat->Rat) (P:Nat),(∀t,t<2 ^ s->U (f t))->P<2 ^ s->U (sh s f P)
 | 0,f,P,h,hP=>h P hP
 |s+1,f,P,h,hP=>by
  have:=p2 s;unfold sh;split
  ·exact sh_U s _ P (λt ht=>wor_U (h t (by omega)) (h _ (by omega))) (by omega)
  ·exact sh_U s _ _ (λt ht=>mul_U (h t (by omega)) (h _ (by omega))) (by omega)
theorem sh_list(s:Nat)(f:Nat->Rat):(List.range (2 ^ (s+1))).map (sh (s+1) f)=(List.range (2 ^ s)).map (sh s λt=>wor (f t) (f (2 ^ s+t)))++(List.range (2 ^ s)).map (sh s λt=>f t*f (2 ^ s+t)):=by
 rw[p2,List.range_add,vL,List.map_map];congr 1
 ·exact List.map_congr_left λt ht=>by rw[sh,if_pos (wM.mp ht)]
 ·exact List.map_congr_left λt ht=>by show sh (s+1) f (2 ^ s+t)=_;rw[sh,if_neg (by omega),vC]
def Dv(q:Rat)(B:Nat):Prop:=∃z:Int,q*(B:Rat)=(z:Rat)
theorem Dv.add{a b:Rat}{B:Nat}(x:Dv a B)(y:Dv b B):Dv (a+b) B:=by
 obtain⟨z,e⟩:=x;obtain⟨w,e'⟩:=y;exact⟨z+w,by rw[Rat.intCast_add,<-e,<-e'];grind⟩
theorem Dv.sub{a b:Rat}{B:Nat}(x:Dv a B)(y:Dv b B):Dv (a-b) B:=by
 obtain⟨z,e⟩:=x;obtain⟨w,e'⟩:=y;exact⟨z-w,by rw[Rat.intCast_sub,<-e,<-e'];grind⟩
theorem Dv.mul{a b:Rat}{A B:Nat}(x:Dv a A)(y:Dv b B):Dv (a*b) (A*B):=by
 obtain⟨z,e⟩:=x;obtain⟨w,e'⟩:=y;exact⟨z*w,by rw[Rat.intCast_mul,<-e,<-e',Rat.natCast_mul];grind⟩
theorem Dv.up{a:Rat}{A:Nat}(x:Dv a A)(B:Nat):Dv a (A*B):=by
 obtain⟨z,e⟩:=x;exact⟨z*B,by rw[Rat.intCast_mul,<-e,Rat.natCast_mul,Rat.intCast_natCast];grind⟩
theorem Dv.up'{a:Rat}{A:Nat}(x:Dv a A)(B:Nat):Dv a (B*A):=by rw[Nat.mul_comm];exact x.up B
theorem Dv.wor{p q:Rat}{A B:Nat}(x:Dv p A)(y:Dv q B):Dv (wor p q) (A*B):=((x.up B).add (y.up' A)).sub (x.mul y)
theorem qDl(q:Rat):(q.den:Rat)≠0:=by
 have h:=q.den_nz
 exact_mod_cast h
theorem V6(q:Rat):q*(q.den:Rat)=(q.num:Rat):=by
 have e:=Rat.num_divInt_den q;rw[Rat.divInt_eq_div,Rat.intCast_natCast]at e;have h:=qDl q
 grind
theorem dv_self(q:Rat):Dv q q.den:=⟨q.num,V6 q⟩
theorem dv_le{q:Rat}{B:Nat}(h:Dv q B)(hB:0<B):q.den<=B:=by
 obtain⟨z,e⟩:=h;have e1:(q.num:Rat)*(B:Rat)=(z:Rat)*(q.den:Rat):=by
  rw[<-V6 q,<-e];grind
 have e2:q.num*(B:Int)=z*(q.den:Int):=by
  have:((q.num*(B:Int):Int):Rat)=((z*(q.den:Int):Int):Rat):=by
   rw[Rat.intCast_mul,Rat.intCast_mul,Rat.intCast_natCast,Rat.intCast_natCast];exact e1
  exact Rat.intCast_inj.mp this
 have d:(q.den:Int) ∣ q.num*(B:Int):=⟨z,by rw[e2,vP]⟩
 have d2:(q.den:Int) ∣ (B:Int):=m9 (n:=(B:Int)) (m:=q.num) (by rw[Int.gcd_comm];exact(of_low q).one) (by rw[vP];exact d);exact Nat.le_of_dvd hB (Int.natCast_dvd_natCast.mp d2)
theorem num_le{q:Rat}(h:U q):0<=q.num/\q.num<=(q.den:Int):=by
 obtain⟨a,b⟩:=h;rw[Rat.le_iff]at a b;simp at a b;exact⟨by simpa using a,by simpa using b⟩
noncomputable def pr:Nat->(Nat->Nat)->Nat
 | 0,b=>b 0
 |s+1,b=>pr s λt=>b t*b (2 ^ s+t)
theorem pr_pos:∀(s:Nat) (b:Nat->Nat),(∀t,t<2 ^ s->0<b t)->0<pr s b
 | 0,b,h=>h 0 (by decide)
 |s+1,b,h=>by have:=p2 s;exact pr_pos s _ λt ht=>Nat.mul_pos (h t (by omega)) (h _ (by omega))
theorem le_pr:∀(s:Nat) (b:Nat->Nat),(∀t,t<2 ^ s->0<b t)->∀t,t<2 ^ s->b t<=pr s b
 | 0,b,h,t,ht=>by rw[show t=0 by omega];exact wF _
 |s+1,b,h,t,ht=>by
  have:=p2 s;have h':∀t,t<2 ^ s->0<b t*b (2 ^ s+t):=λt ht=>Nat.mul_pos (h t (by omega)) (h _ (by omega));unfold pr;by_cases q:t<2 ^ s
  ·exact wL (Nat.le_mul_of_pos_right _ (h _ (by omega))) (le_pr s _ h' t q)
  ·have:=le_pr s _ h' (t-2 ^ s) (by omega);rw[show 2 ^ s+(t-2 ^ s)=t by omega]at this;exact wL (Nat.le_mul_of_pos_left _ (h _ (by omega))) this
theorem pr_le:∀(s c:Nat) (b:Nat->Nat),(∀t,t<2 ^ s->b t<=c)->pr s b<=c ^ 2 ^ s
 | 0,c,b,h=>by show b 0<=c ^ 2 ^ 0;simpa using h 0 (by decide)
 |s+1,c,b,h=>by
  have:=p2 s;have:=pr_le s (c*c) (λt=>b t*b (2 ^ s+t)) λt ht=>Nat.mul_le_mul (h t (by omega)) (h _ (by omega));rw[p2,Nat.pow_add,<-Nat.mul_pow];exact this
theorem sh_dv:∀(s:Nat) (f:Nat->Rat) (b:Nat->Nat) (P:Nat),(∀t,t<2 ^ s->Dv (f t) (b t))->P<2 ^ s->Dv (sh s f P) (pr s b)
 | 0,f,b,P,h,hP=>by rw[show P=0 by omega];exact h 0 (by decide)
 |s+1,f,b,P,h,hP=>by
  have:=p2 s;unfold sh pr;split
  ·exact sh_dv s _ _ P (λt ht=>(h t (by omega)).wor (h _ (by omega))) (by omega)
  ·exact sh_dv s _ _ _ (λt ht=>(h t (by omega)).mul (h _ (by omega))) (by omega)
end Fr
namespace _B
open Fr
noncomputable def rs(w:Nat->Rat):List Nat->Rat
 | []=>0
 |p::l=>w p+rs w l
noncomputable def h1(b:Bool)(y:Rat):Rat:=if b then y*y else wor y y
noncomputable def evB:List Bool->Rat->Rat
 | [],z=>z
 |b::r,z=>evB r (h1 b z)
noncomputable def bits:Nat->Nat->List Bool
 | 0,_=>[]
 |s+1,P=>if P<2 ^ s then false::bits s P else true::bits s (P-2 ^ s)
theorem qAf{b:Bool}{y:Rat}(h:U y):U (h1 b y):=by
 cases b
 ·exact wor_U h h
 ·exact mul_U h h
theorem qFk{b:Bool}{y z:Rat}(hy:U y)(hz:U z)(h:y<=z):h1 b y<=h1 b z:=by
 cases b
 ·exact qD5 hy hy hz hz h h
 ·exact qAu hy hy hz hz h h
theorem Z3:∀(x:List Bool){y z:Rat},U y->U z->y<=z->evB x y<=evB x z
 | [],_,_,_,_,h=>h
 |b::x,_,_,hy,hz,h=>Z3 x (qAf hy) (qAf hz) (qFk hy hz h)
theorem Zo:∀(s:Nat) (z:Rat) (P:Nat),P<2 ^ s->sh s (λ_=>z) P=evB (bits s P) z
 | 0,z,P,h=>rfl
 |s+1,z,P,h=>by
  unfold sh bits;split
  ·rw[Zo s _ P (by assumption)];rfl
  ·rw[Zo s _ (P-2 ^ s) (by have:=p2 s;omega)];rfl
noncomputable def qC2:List Bool->List Bool->Bool
 |a::as,b::bs=>(a==b&&qC2 as bs)||(!a&&b&&as==bs)||(match as,bs with
  |a2::as2,b2::bs2=>!a&&a2&&b&&!b2&&as2==bs2
  |_,_=>false)
 |_,_=>false
theorem qDN{y:Rat}(h:U y):h1 true y<=h1 false y:=by
 have:=h.1;have:=h.2;show y*y<=y+y-y*y;have:y*y<=y*1:=Rat.mul_le_mul_of_nonneg_left h.2 h.1
 grind
theorem qED{y:Rat}(h:U y):h1 false (h1 true y)<=h1 true (h1 false y):=by
 show y*y+y*y-y*y*(y*y)<=(y+y-y*y)*(y+y-y*y);have h2:0<=(y*(1-y))*(y*(1-y)):=by
  have:0<=y*(1-y):=Rat.mul_nonneg h.1 (by have:=h.2;grind);exact Rat.mul_nonneg this this
 grind
theorem J0:∀(x y:List Bool){z:Rat},qC2 x y=true->U z->evB y z<=evB x z
 |a::as,b::bs,z,h,u=>by
  unfold qC2 at h;rcases Bool.or_eq_true_iff.mp h with h|h
  ·rcases Bool.or_eq_true_iff.mp h with h|h
   ·simp only[wB,beq_iff_eq]at h;obtain⟨e,h'⟩:=h;subst e;exact J0 as bs h' (qAf u)
   ·simp only[wB,beq_iff_eq,vj]at h;obtain⟨⟨rfl,rfl⟩,rfl⟩:=h;exact Z3 as (qAf u) (qAf u) (qDN u)
  ·cases as with
   |nil=>cases h
   |cons a2 as2=>
    cases bs with
    |nil=>cases h
    |cons b2 bs2=>
     simp only[wB,beq_iff_eq,vj]at h;obtain⟨⟨⟨⟨rfl,rfl⟩,rfl⟩,rfl⟩,rfl⟩:=h;exact Z3 as2 (qAf (qAf u)) (qAf (qAf u)) (qED u)
 | [],_,_,h,_=>by cases h
 |_::_,[],_,h,_=>by cases h
end _B
namespace _M
open PySem PySem.Spec PyProof.Rows _L _P
noncomputable def top(i:Nat):Stmt:=PySem.Challenge.pw_healhalves_k36_whole_better_by_every_los.main.body.getD i (.Pass ⟨0,0,0,0⟩)
noncomputable def Tb:Tbl:=⟨[⟨"is_whole",top 11,["thing"],["thing"]⟩,
 ⟨"is_number_below",top 12,["thing","end"],["thing","end"]⟩,
 ⟨"is_list_below",top 13,["thing","end"],["thing","end"]⟩,
 ⟨"is_rising",top 14,["thing","end"],["thing","end","least","number"]⟩,
 ⟨"has_form",top 15,["paper","word","parts"],["paper","word","parts"]⟩,
 ⟨"length_of",top 16,["size"],["size"]⟩,
 ⟨"is_word_length",top 17,["number"],["number"]⟩,
 ⟨"ones_of",top 18,["number"],["number"]⟩,
 ⟨"is_size",top 19,["thing"],["thing"]⟩,
 ⟨"check_size",top 20,["size"],["size"]⟩,
 ⟨"check_place",top 21,["size","number"],["size","number"]⟩,
 ⟨"check_loss",top 23,["size","loss"],["size","loss"]⟩,
 ⟨"halves_below",top 24,["half","loss"],["half","loss","either","both"]⟩,
 ⟨"places_lost",top 25,["size","loss"],["size","loss"]⟩,
 ⟨"lost_below",top 26,["length","loss"],["length","loss","half","halves"]⟩,
 ⟨"turn_of",top 28,["size","one","other"],["size","one","other","lower"]⟩,
 ⟨"is_figure_set",top 29,["size","one","other"],["size","one","other","figures"]⟩,
 ⟨"moved_figure",top 30,["size","one","other"],["size","one","other","number","lower"]⟩,
 ⟨"has_lower_alone",top 31,["number","lower"],["number","lower"]⟩,
 ⟨"has_upper_alone",top 32,["number","lower"],["number","lower"]⟩,
 ⟨"exchanged",top 33,["spot","lower"],["spot","lower"]⟩,
 ⟨"turned_loss",top 34,["size","turn","loss"],["size","turn","loss"]⟩,
 ⟨"check_turn",top 35,["size","turn"],["size","turn","length"]⟩,
 ⟨"lets_order",top 37,["size","worse","better","paper"],["size","worse","better","paper"]⟩,
 ⟨"lets_row",top 38,["size","worse","better","places","turn"],["size","worse","better","places","turn","length"]⟩,
 ⟨"turn_along",top 39,["size","places"],["size","places","turn","number","step"]⟩,
 ⟨"lets_ones",top 40,["size","worse","better","many"],["size","worse","better","many"]⟩,
 ⟨"has_fewer_ones",top 41,["size","worse","better","many"],["size","worse","better","many","below"]⟩,
 ⟨"order_paper",top 42,["size","worse","better"],["size","worse","better","many","places"]⟩,
 ⟨"row_between",top 43,["worse","better"],["worse","better","places"]⟩,
 ⟨"place_ahead",top 44,["place","better"],["place","better","unlike","below"]⟩,
 ⟨"top_figure",top 45,["number"],["number"]⟩,
 ⟨"counts_of",top 47,["size","place"],["size","place","lost","kept","number","one_of_two","both_lost","both_kept"]⟩,
 ⟨"both_ways",top 48,["one","other"],["one","other","ways","first","many","second","beside"]⟩,
 ⟨"either_way",top 49,["one","other"],["one","other"]⟩,
 ⟨"is_fraction",top 52,["thing"],["thing"]⟩,
 ⟨"is_share",top 53,["thing"],["thing"]⟩,
 ⟨"fraction",top 54,["top","bottom"],["top","bottom","divisor"]⟩,
 ⟨"greatest_divisor",top 55,["one","other"],["one","other","rest"]⟩,
 ⟨"plus",top 56,["one","other"],["one","other"]⟩,
 ⟨"minus",top 57,["one","other"],["one","other"]⟩,
 ⟨"times",top 58,["one","other"],["one","other"]⟩,
 ⟨"check_road",top 60,["road"],["road"]⟩,
 ⟨"is_road",top 61,["thing"],["thing"]⟩,
 ⟨"are_shares",top 62,["thing","many"],["thing","many"]⟩,
 ⟨"halves_along",top 63,["row"],["row","half","worse","better"]⟩,
 ⟨"either_lost",top 64,["one","other"],["one","other"]⟩,
 ⟨"shares_of",top 65,["road"],["road"]⟩,
 ⟨"shares_along",top 66,["row"],["row","halves"]⟩,
 ⟨"_law_begun",top 68,["_law_script","_law_k"],["_law_script","_law_k","_law_cell","_law_number","_law_mixed"]⟩,
 ⟨"_law_take",top 69,["_law_state","_law_many"],["_law_state","_law_many","_law_digit","_law_made","_law_turn_here"]⟩,
 ⟨"_law_loss",top 70,["_law_state","_law_many"],["_law_state","_law_many","_law_way","_law_bound"]⟩,
 ⟨"_law_figures",top 71,["_law_size","_law_place"],["_law_size","_law_place"]⟩,
 ⟨"_law_kind",top 72,["_law_size","_law_one","_law_other"],["_law_size","_law_one","_law_other","_law_ahead","_law_behind","_law_unlike"]⟩,
 ⟨"_law_turn",top 73,["_law_size","_law_kind_here"],["_law_size","_law_kind_here","_law_found","_law_spot","_law_row_here"]⟩,
 ⟨"_law_row",top 74,["_law_state","_law_size","_law_worse"],["_law_state","_law_size","_law_worse","_law_many","_law_places","_law_turns","_law_turn_here","_law_some","_law_found"]⟩,
 ⟨"_law_leads",top 75,["_law_size","_law_worse","_law_better","_law_turn_here","_law_loss_here"],["_law_size","_law_worse","_law_better","_law_turn_here","_law_loss_here","_law_turned"]⟩,
 ⟨"_law_no_greater",top 76,["_law_size","_law_worse","_law_better","_law_top","_law_bottom"],["_law_size","_law_worse","_law_better","_law_top","_law_bottom","_law_one","_law_other","_law_many","_law_told"]⟩,
 ⟨"law",top 77,["_law_script"],["_law_script","_law_some","_law_k","_law_state","_law_size","_law_many","_law_worse","_law_own","_law_better","_law_told","_law_turn_here","_law_loss_here","_law_paper","_law_top","_law_bottom"]⟩],
 [("LENGTHS",E.glob 0),("GREATEST_SIZE",E.cst (.int 5)),("GREATEST_IN_SHARE",E.cst (.int 999999999999))],
 ["len","sum","all","any","max","min","abs","list","int","tuple","range","zip","isinstance","bool","str","sorted","enumerate","ValueError"],[],[]⟩
noncomputable def gs:List O:=[O.tup [V.int 1,V.int 2,V.int 4,V.int 8,V.int 16,V.int 32]]
end _M
namespace _M
open PySem PySem.Spec _P
open _L (V)
noncomputable def b0:Ss:=(.cons (.ret (.and (.isi (.var 0) ["int"]) (.not (.isi (.var 0) ["bool"])))) .nil)
theorem t0:Tb.fns[0]?=some ⟨1,1,b0⟩:=by kernel_rfl
noncomputable def b1:Ss:=(.cons (.ret (.and (.call 0 (.cons (.var 0) .nil)) (.cmp2 .le .lt (nE 0) (.var 0) (.var 1)))) .nil)
theorem t1:Tb.fns[1]?=some ⟨2,2,b1⟩:=by kernel_rfl
noncomputable def b2:Ss:=(.cons (.ret (.and (.isi (.var 0) ["list"]) (.blt .all (.cons (.comp (.list (.var 0)) [none,some 1] (.name 0) .nil (.call 1 (.cons (.var 0) (.cons (.var 1) .nil)))) .nil)))) .nil)
theorem t2:Tb.fns[2]?=some ⟨2,2,b2⟩:=by kernel_rfl
noncomputable def qFt:Ss:=(.cons (.ifs (.or (.not (.call 1 (.cons (.var 3) (.cons (.var 1) .nil)))) (.cmp .lt (.var 3) (.var 2))) (.cons (.ret (.cst (V.bl false))) .nil) .nil) (.cons (.asg (.name 2) (.bin .add (.var 3) (nE 1))) .nil))
noncomputable def b3:Ss:=(.cons (.ifs (.not (.isi (.var 0) ["list"])) (.cons (.ret (.cst (V.bl false))) .nil) .nil) (.cons (.asg (.name 2) (nE 0)) (.cons (.for_ (.name 3) (.list (.var 0)) qFt) (.cons (.ret (.cst (V.bl true))) .nil))))
theorem t3:Tb.fns[3]?=some ⟨2,4,b3⟩:=by kernel_rfl
noncomputable def b4:Ss:=(.cons (.ifs (.or (.not (.isi (.var 0) ["tuple"])) (.cmp .ne (.blt .len (.cons (.var 0) .nil)) (.var 2))) (.cons (.ret (.cst (V.bl false))) .nil) .nil) (.cons (.ret (.and (.isi (.idx (.var 0) (nE 0)) ["str"]) (.cmp .eq (.idx (.var 0) (nE 0)) (.var 1)))) .nil))
theorem t4:Tb.fns[4]?=some ⟨3,3,b4⟩:=by kernel_rfl
noncomputable def b5:Ss:=(.cons (.ret (.idx (.glob 0) (.var 0))) .nil)
theorem t5:Tb.fns[5]?=some ⟨1,1,b5⟩:=by kernel_rfl
noncomputable def b6:Ss:=(.cons (.ret (.cmp .inn (.var 0) (.sl (.glob 0) (.cons (nE 1) .nil) .nil))) .nil)
theorem t6:Tb.fns[6]?=some ⟨1,1,b6⟩:=by kernel_rfl
noncomputable def b7:Ss:=(.cons (.ret (.blt .sum (.cons (.comp (.list (.glob 0)) [none,some 0] (.name 0) (.cons (.cmp .ne (.bin .band (.var 1) (.var 0)) (nE 0)) .nil) (nE 1)) .nil))) .nil)
theorem t7:Tb.fns[7]?=some ⟨1,1,b7⟩:=by kernel_rfl
noncomputable def b8:Ss:=(.cons (.ret (.and (.call 0 (.cons (.var 0) .nil)) (.cmp2 .le .le (nE 1) (.var 0) (nE 5)))) .nil)
theorem t8:Tb.fns[8]?=some ⟨1,1,b8⟩:=by kernel_rfl
noncomputable def b9:Ss:=(.cons (.ifs (.not (.call 8 (.cons (.var 0) .nil))) (.cons .stop .nil) .nil) .nil)
theorem t9:Tb.fns[9]?=some ⟨1,1,b9⟩:=by kernel_rfl
noncomputable def b10:Ss:=(.cons (.ifs (.not (.call 1 (.cons (.var 1) (.cons (.call 5 (.cons (.var 0) .nil)) .nil)))) (.cons .stop .nil) .nil) .nil)
theorem t10:Tb.fns[10]?=some ⟨2,2,b10⟩:=by kernel_rfl
noncomputable def b11:Ss:=(.cons (.ifs (.not (.call 3 (.cons (.var 1) (.cons (.call 5 (.cons (.var 0) .nil)) .nil)))) (.cons .stop .nil) .nil) .nil)
theorem t11:Tb.fns[11]?=some ⟨2,2,b11⟩:=by kernel_rfl
noncomputable def b12:Ss:=(.cons (.asg (.name 2) (.comp (.rng1 (.var 0)) [none,some 0,some 1] (.name 0) (.cons (.or (.cmp .inn (.var 0) (.var 2)) (.cmp .inn (.bin .add (.var 0) (.var 1)) (.var 2))) .nil) (.var 0))) (.cons (.asg (.name 3) (.comp (.rng1 (.var 0)) [none,some 0,some 1] (.name 0) (.cons (.and (.cmp .inn (.var 0) (.var 2)) (.cmp .inn (.bin .add (.var 0) (.var 1)) (.var 2))) .nil) (.var 0))) (.cons (.ret (.tup (.cons (.var 2) (.cons (.var 3) .nil)))) .nil)))
theorem t12:Tb.fns[12]?=some ⟨2,4,b12⟩:=by kernel_rfl
noncomputable def b13:Ss:=(.cons (.expr (.call 9 (.cons (.var 0) .nil))) (.cons (.expr (.call 11 (.cons (.var 0) (.cons (.var 1) .nil)))) (.cons (.ret (.call 14 (.cons (.call 5 (.cons (.var 0) .nil)) (.cons (.var 1) .nil)))) .nil)))
theorem t13:Tb.fns[13]?=some ⟨2,2,b13⟩:=by kernel_rfl
noncomputable def b14:Ss:=(.cons (.ifs (.cmp .eq (.var 0) (nE 1)) (.cons (.ret (.blt .list (.cons (.var 1) .nil))) .nil) .nil) (.cons (.asg (.name 2) (.bin .fdiv (.var 0) (nE 2))) (.cons (.asg (.name 3) (.call 12 (.cons (.var 2) (.cons (.var 1) .nil)))) (.cons (.ret (.bin .add (.call 14 (.cons (.var 2) (.cons (.idx (.var 3) (nE 0)) .nil))) (.comp (.list (.call 14 (.cons (.var 2) (.cons (.idx (.var 3) (nE 1)) .nil)))) [none,some 2] (.name 0) .nil (.bin .add (.var 1) (.var 0))))) .nil))))
theorem t14:Tb.fns[14]?=some ⟨2,4,b14⟩:=by kernel_rfl
noncomputable def b15:Ss:=(.cons (.expr (.call 9 (.cons (.var 0) .nil))) (.cons (.expr (.call 10 (.cons (.var 0) (.cons (.var 1) .nil)))) (.cons (.expr (.call 10 (.cons (.var 0) (.cons (.var 2) .nil)))) (.cons (.ifs (.call 16 (.cons (.var 0) (.cons (.var 1) (.cons (.var 2) .nil)))) (.cons (.ret (.lrng (.call 5 (.cons (.var 0) .nil)))) .nil) .nil) (.cons (.asg (.name 3) (.call 17 (.cons (.var 0) (.cons (.var 1) (.cons (.var 2) .nil))))) (.cons (.ifs (.cmp .is (.var 3) (.cst V.non)) (.cons (.ret (.cst V.non)) .nil) .nil) (.cons (.ret (.comp (.rng1 (.call 5 (.cons (.var 0) .nil))) [none,some 3] (.name 0) .nil (.call 20 (.cons (.var 0) (.cons (.var 1) .nil))))) .nil)))))))
theorem t15:Tb.fns[15]?=some ⟨3,4,b15⟩:=by kernel_rfl
noncomputable def b16:Ss:=(.cons (.asg (.name 3) (.comp (.rng1 (.var 0)) [none] (.name 0) .nil (.call 5 (.cons (.var 0) .nil)))) (.cons (.ret (.blt .any (.cons (.comp (.list (.var 3)) [none,some 1,some 2] (.name 0) .nil (.and (.cmp .eq (.bin .band (.var 1) (.var 0)) (nE 0)) (.cmp .eq (.bin .add (.var 1) (.var 0)) (.var 2)))) .nil))) .nil))
theorem t16:Tb.fns[16]?=some ⟨3,4,b16⟩:=by kernel_rfl
noncomputable def T2:Ss:=(.cons (.asg (.name 4) (.call 5 (.cons (.var 3) .nil))) (.cons (.ifs (.and (.call 18 (.cons (.var 1) (.cons (.var 4) .nil))) (.cmp .eq (.bin .add (.var 1) (.var 4)) (.var 2))) (.cons (.ret (.var 4)) .nil) .nil) .nil))
noncomputable def b17:Ss:=(.cons (.for_ (.name 3) (.rng1 (.bin .sub (.var 0) (nE 1))) T2) (.cons (.ret (.cst V.non)) .nil))
theorem t17:Tb.fns[17]?=some ⟨3,5,b17⟩:=by kernel_rfl
noncomputable def b18:Ss:=(.cons (.ret (.and (.cmp .ne (.bin .band (.var 0) (.var 1)) (nE 0)) (.cmp .eq (.bin .band (.var 0) (.bin .add (.var 1) (.var 1))) (nE 0)))) .nil)
theorem t18:Tb.fns[18]?=some ⟨2,2,b18⟩:=by kernel_rfl
noncomputable def b19:Ss:=(.cons (.ret (.and (.cmp .eq (.bin .band (.var 0) (.var 1)) (nE 0)) (.cmp .ne (.bin .band (.var 0) (.bin .add (.var 1) (.var 1))) (nE 0)))) .nil)
theorem t19:Tb.fns[19]?=some ⟨2,2,b19⟩:=by kernel_rfl
noncomputable def b20:Ss:=(.cons (.ifs (.call 18 (.cons (.var 0) (.cons (.var 1) .nil))) (.cons (.ret (.bin .add (.var 0) (.var 1))) .nil) .nil) (.cons (.ifs (.call 19 (.cons (.var 0) (.cons (.var 1) .nil))) (.cons (.ret (.bin .sub (.var 0) (.var 1))) .nil) .nil) (.cons (.ret (.var 0)) .nil)))
theorem t20:Tb.fns[20]?=some ⟨2,2,b20⟩:=by kernel_rfl
noncomputable def b21:Ss:=(.cons (.expr (.call 9 (.cons (.var 0) .nil))) (.cons (.expr (.call 22 (.cons (.var 0) (.cons (.var 1) .nil)))) (.cons (.expr (.call 11 (.cons (.var 0) (.cons (.var 2) .nil)))) (.cons (.ret (.blt .sorted (.cons (.comp (.list (.var 2)) [none,some 1] (.name 0) .nil (.idx (.var 1) (.var 0))) .nil))) .nil))))
theorem t21:Tb.fns[21]?=some ⟨3,3,b21⟩:=by kernel_rfl
noncomputable def b22:Ss:=(.cons (.asg (.name 2) (.call 5 (.cons (.var 0) .nil))) (.cons (.ifs (.or (.not (.call 2 (.cons (.var 1) (.cons (.var 2) .nil)))) (.cmp .ne (.blt .sorted (.cons (.var 1) .nil)) (.lrng (.var 2)))) (.cons .stop .nil) .nil) .nil))
theorem t22:Tb.fns[22]?=some ⟨2,3,b22⟩:=by kernel_rfl
noncomputable def b23:Ss:=(.cons (.expr (.call 9 (.cons (.var 0) .nil))) (.cons (.expr (.call 10 (.cons (.var 0) (.cons (.var 1) .nil)))) (.cons (.expr (.call 10 (.cons (.var 0) (.cons (.var 2) .nil)))) (.cons (.ifs (.call 4 (.cons (.var 3) (.cons (.cst (V.str "row")) (.cons (nE 3) .nil)))) (.cons (.ret (.call 24 (.cons (.var 0) (.cons (.var 1) (.cons (.var 2) (.cons (.idx (.var 3) (nE 1)) (.cons (.idx (.var 3) (nE 2)) .nil))))))) .nil) .nil) (.cons (.ifs (.call 4 (.cons (.var 3) (.cons (.cst (V.str "ones")) (.cons (nE 2) .nil)))) (.cons (.ret (.call 26 (.cons (.var 0) (.cons (.var 1) (.cons (.var 2) (.cons (.idx (.var 3) (nE 1)) .nil)))))) .nil) .nil) (.cons (.ret (.cst (V.bl false))) .nil))))))
theorem t23:Tb.fns[23]?=some ⟨4,4,b23⟩:=by kernel_rfl
noncomputable def b24:Ss:=(.cons (.asg (.name 5) (.call 5 (.cons (.var 0) .nil))) (.cons (.ifs (.or (.not (.call 2 (.cons (.var 3) (.cons (.var 5) .nil)))) (.not (.call 2 (.cons (.var 4) (.cons (.var 5) .nil))))) (.cons (.ret (.cst (V.bl false))) .nil) .nil) (.cons (.ifs (.or (.cmp .eq (.var 3) (.lst .nil)) (.or (.cmp .ne (.idx (.var 3) (nE 0)) (.var 1)) (.cmp .ne (.idx (.var 3) (.neg (nE 1))) (.var 2)))) (.cons (.ret (.cst (V.bl false))) .nil) .nil) (.cons (.ret (.cmp .eq (.var 4) (.call 25 (.cons (.var 0) (.cons (.var 3) .nil))))) .nil))))
theorem t24:Tb.fns[24]?=some ⟨5,6,b24⟩:=by kernel_rfl
noncomputable def qBj:Ss:=(.cons (.asg (.name 4) (.call 15 (.cons (.var 0) (.cons (.idx (.var 1) (.bin .sub (.var 3) (nE 1))) (.cons (.idx (.var 1) (.var 3)) .nil))))) (.cons (.ifs (.cmp .is (.var 4) (.cst V.non)) (.cons (.ret (.cst V.non)) .nil) .nil) (.cons (.asg (.name 2) (.comp (.list (.var 2)) [none,some 4] (.name 0) .nil (.idx (.var 1) (.var 0)))) .nil)))
noncomputable def b25:Ss:=(.cons (.asg (.name 2) (.lrng (.call 5 (.cons (.var 0) .nil)))) (.cons (.for_ (.name 3) (.rng3 (.bin .sub (.blt .len (.cons (.var 1) .nil)) (nE 1)) (nE 0)) qBj) (.cons (.ret (.var 2)) .nil)))
theorem t25:Tb.fns[25]?=some ⟨2,5,b25⟩:=by kernel_rfl
noncomputable def b27:Ss:=(.cons (.asg (.name 4) (.bin .sub (.var 0) (.var 3))) (.cons (.ret (.cmp .lt (.call 7 (.cons (.bin .shr (.var 2) (.var 4)) .nil)) (.call 7 (.cons (.bin .shr (.var 1) (.var 4)) .nil)))) .nil))
theorem t27:Tb.fns[27]?=some ⟨4,5,b27⟩:=by kernel_rfl
noncomputable def qCP:Ss:=(.cons (.ifs (.call 27 (.cons (.var 0) (.cons (.var 1) (.cons (.var 2) (.cons (.var 3) .nil))))) (.cons (.ret (.tup (.cons (.cst (V.str "ones")) (.cons (.var 3) .nil)))) .nil) .nil) .nil)
noncomputable def b28:Ss:=(.cons (.expr (.call 9 (.cons (.var 0) .nil))) (.cons (.expr (.call 10 (.cons (.var 0) (.cons (.var 1) .nil)))) (.cons (.expr (.call 10 (.cons (.var 0) (.cons (.var 2) .nil)))) (.cons (.for_ (.name 3) (.rng2 (nE 1) (.bin .add (.var 0) (nE 1))) qCP) (.cons (.asg (.name 4) (.call 29 (.cons (.var 1) (.cons (.var 2) .nil)))) (.cons (.ret (.tup (.cons (.cst (V.str "row")) (.cons (.var 4) (.cons (.call 25 (.cons (.var 0) (.cons (.var 4) .nil))) .nil))))) .nil))))))
theorem t28:Tb.fns[28]?=some ⟨3,5,b28⟩:=by kernel_rfl
noncomputable def qAG:Ss:=(.cons (.expr (.app (.var 2) (.call 30 (.cons (.idx (.var 2) (.neg (nE 1))) (.cons (.var 1) .nil))))) .nil)
noncomputable def b29:Ss:=(.cons (.asg (.name 2) (.lst (.cons (.var 0) .nil))) (.cons (.while_ (.cmp .ne (.idx (.var 2) (.neg (nE 1))) (.var 1)) qAG) (.cons (.ret (.var 2)) .nil)))
theorem t29:Tb.fns[29]?=some ⟨2,3,b29⟩:=by kernel_rfl
noncomputable def b30:Ss:=(.cons (.asg (.name 2) (.call 31 (.cons (.bin .bxor (.var 0) (.var 1)) .nil))) (.cons (.asg (.name 3) (.bin .mod (.var 0) (.var 2))) (.cons (.ifs (.cmp .eq (.var 3) (nE 0)) (.cons (.ret (.bin .add (.var 0) (.var 2))) .nil) .nil) (.cons (.ret (.bin .add (.var 0) (.call 31 (.cons (.var 3) .nil)))) .nil))))
theorem t30:Tb.fns[30]?=some ⟨2,4,b30⟩:=by kernel_rfl
noncomputable def b31:Ss:=(.cons (.ret (.call 5 (.cons (.bin .sub (.blt .bits (.cons (.var 0) .nil)) (nE 1)) .nil))) .nil)
theorem t31:Tb.fns[31]?=some ⟨1,1,b31⟩:=by kernel_rfl
noncomputable def qAO:Ss:=(.cons (.asg (.name 5) (.comp (.list (.call 33 (.cons (.var 2) (.cons (.var 3) .nil)))) [none] (.name 0) .nil (.bin .mul (nE 2) (.var 0)))) (.cons (.asg (.name 6) (.call 33 (.cons (.var 2) (.cons (.var 2) .nil)))) (.cons (.asg (.name 7) (.call 33 (.cons (.var 3) (.cons (.var 3) .nil)))) (.cons (.ifs (.cmp .eq (.bin .band (.var 1) (.call 5 (.cons (.var 4) .nil))) (nE 0)) (.cons (.asg (.name 2) (.call 34 (.cons (.var 6) (.cons (.var 5) .nil)))) (.cons (.asg (.name 3) (.var 7)) .nil)) (.cons (.asg (.name 2) (.var 6)) (.cons (.asg (.name 3) (.call 34 (.cons (.var 7) (.cons (.var 5) .nil)))) .nil))) .nil))))
noncomputable def b32:Ss:=(.cons (.expr (.call 9 (.cons (.var 0) .nil))) (.cons (.expr (.call 10 (.cons (.var 0) (.cons (.var 1) .nil)))) (.cons (.asg (.name 2) (.lst (.cons (nE 0) (.cons (nE 1) .nil)))) (.cons (.asg (.name 3) (.lst (.cons (nE 1) (.cons (nE 0) .nil)))) (.cons (.for_ (.name 4) (.rng3 (.bin .sub (.var 0) (nE 1)) (.neg (nE 1))) qAO) (.cons (.ret (.var 2)) .nil))))))
theorem t32:Tb.fns[32]?=some ⟨2,8,b32⟩:=by kernel_rfl
noncomputable def qAU:Ss:=(.cons (.put (.var 2) (.bin .add (.var 3) (.var 5)) (.bin .add (.idx (.var 2) (.bin .add (.var 3) (.var 5))) (.bin .sub (.bin .mul (.var 4) (.var 6)) (nE 0)))) .nil)
noncomputable def qAD:Ss:=(.cons (.for_ (.tup [5,6]) (.enum (.var 1)) qAU) .nil)
noncomputable def b33:Ss:=(.cons (.asg (.name 2) (.bin .mul (.lst (.cons (nE 0) .nil)) (.bin .sub (.bin .add (.blt .len (.cons (.var 0) .nil)) (.blt .len (.cons (.var 1) .nil))) (nE 1)))) (.cons (.for_ (.tup [3,4]) (.enum (.var 0)) qAD) (.cons (.ret (.var 2)) .nil)))
theorem t33:Tb.fns[33]?=some ⟨2,7,b33⟩:=by kernel_rfl
noncomputable def b34:Ss:=(.cons (.ret (.comp (.zip (.var 0) (.var 1)) [none,none] (.tup [0,1]) .nil (.bin .add (.var 0) (.var 1)))) .nil)
theorem t34:Tb.fns[34]?=some ⟨2,2,b34⟩:=by kernel_rfl
noncomputable def b35:Ss:=(.cons (.ifs (.or (.not (.isi (.var 0) ["tuple"])) (.cmp .ne (.blt .len (.cons (.var 0) .nil)) (nE 2))) (.cons (.ret (.cst (V.bl false))) .nil) .nil) (.cons (.ifs (.or (.not (.call 0 (.cons (.idx (.var 0) (nE 0)) .nil))) (.or (.not (.call 0 (.cons (.idx (.var 0) (nE 1)) .nil))) (.cmp .lt (.idx (.var 0) (nE 1)) (nE 1)))) (.cons (.ret (.cst (V.bl false))) .nil) .nil) (.cons (.ret (.cmp .eq (.call 38 (.cons (.blt .abs (.cons (.idx (.var 0) (nE 0)) .nil)) (.cons (.idx (.var 0) (nE 1)) .nil))) (nE 1))) .nil)))
theorem t35:Tb.fns[35]?=some ⟨1,1,b35⟩:=by kernel_rfl
noncomputable def b36:Ss:=(.cons (.ret (.and (.call 35 (.cons (.var 0) .nil)) (.cmp3 .le .le .le (nE 0) (.idx (.var 0) (nE 0)) (.idx (.var 0) (nE 1)) (nE 999999999999)))) .nil)
theorem t36:Tb.fns[36]?=some ⟨1,1,b36⟩:=by kernel_rfl
noncomputable def b37:Ss:=(.cons (.ifs (.or (.not (.call 0 (.cons (.var 0) .nil))) (.or (.not (.call 0 (.cons (.var 1) .nil))) (.cmp .eq (.var 1) (nE 0)))) (.cons .stop .nil) .nil) (.cons (.asg (.name 2) (.call 38 (.cons (.blt .abs (.cons (.var 0) .nil)) (.cons (.blt .abs (.cons (.var 1) .nil)) .nil)))) (.cons (.ifs (.cmp .lt (.var 1) (nE 0)) (.cons (.asg (.name 2) (.neg (.var 2))) .nil) .nil) (.cons (.ret (.tup (.cons (.bin .fdiv (.var 0) (.var 2)) (.cons (.bin .fdiv (.var 1) (.var 2)) .nil)))) .nil))))
theorem t37:Tb.fns[37]?=some ⟨2,3,b37⟩:=by kernel_rfl
noncomputable def qBY:Ss:=(.cons (.asg (.name 2) (.bin .mod (.var 0) (.var 1))) (.cons (.asg (.name 0) (.var 1)) (.cons (.asg (.name 1) (.var 2)) .nil)))
noncomputable def b38:Ss:=(.cons (.while_ (.cmp .ne (.var 1) (nE 0)) qBY) (.cons (.ret (.var 0)) .nil))
theorem t38:Tb.fns[38]?=some ⟨2,3,b38⟩:=by kernel_rfl
noncomputable def b39:Ss:=(.cons (.ret (.call 37 (.cons (.bin .add (.bin .mul (.idx (.var 0) (nE 0)) (.idx (.var 1) (nE 1))) (.bin .mul (.idx (.var 1) (nE 0)) (.idx (.var 0) (nE 1)))) (.cons (.bin .mul (.idx (.var 0) (nE 1)) (.idx (.var 1) (nE 1))) .nil)))) .nil)
theorem t39:Tb.fns[39]?=some ⟨2,2,b39⟩:=by kernel_rfl
noncomputable def b40:Ss:=(.cons (.ret (.call 37 (.cons (.bin .sub (.bin .mul (.idx (.var 0) (nE 0)) (.idx (.var 1) (nE 1))) (.bin .mul (.idx (.var 1) (nE 0)) (.idx (.var 0) (nE 1)))) (.cons (.bin .mul (.idx (.var 0) (nE 1)) (.idx (.var 1) (nE 1))) .nil)))) .nil)
theorem t40:Tb.fns[40]?=some ⟨2,2,b40⟩:=by kernel_rfl
noncomputable def b41:Ss:=(.cons (.ret (.call 37 (.cons (.bin .mul (.idx (.var 0) (nE 0)) (.idx (.var 1) (nE 0))) (.cons (.bin .mul (.idx (.var 0) (nE 1)) (.idx (.var 1) (nE 1))) .nil)))) .nil)
theorem t41:Tb.fns[41]?=some ⟨2,2,b41⟩:=by kernel_rfl
noncomputable def b42:Ss:=(.cons (.ifs (.not (.call 43 (.cons (.var 0) .nil))) (.cons .stop .nil) .nil) .nil)
theorem t42:Tb.fns[42]?=some ⟨1,1,b42⟩:=by kernel_rfl
noncomputable def b43:Ss:=(.cons (.ret (.and (.isi (.var 0) ["list"]) (.and (.call 6 (.cons (.blt .len (.cons (.var 0) .nil)) .nil)) (.call 44 (.cons (.var 0) (.cons (.blt .len (.cons (.var 0) .nil)) .nil)))))) .nil)
theorem t43:Tb.fns[43]?=some ⟨1,1,b43⟩:=by kernel_rfl
noncomputable def b44:Ss:=(.cons (.ret (.and (.isi (.var 0) ["list"]) (.and (.cmp .eq (.blt .len (.cons (.var 0) .nil)) (.var 1)) (.blt .all (.cons (.comp (.list (.var 0)) [none] (.name 0) .nil (.call 36 (.cons (.var 0) .nil))) .nil))))) .nil)
theorem t44:Tb.fns[44]?=some ⟨2,2,b44⟩:=by kernel_rfl
noncomputable def b45:Ss:=(.cons (.asg (.name 1) (.bin .fdiv (.blt .len (.cons (.var 0) .nil)) (nE 2))) (.cons (.asg (.name 2) (.comp (.rng1 (.var 1)) [none,some 1,some 0] (.name 0) .nil (.call 46 (.cons (.idx (.var 2) (.var 0)) (.cons (.idx (.var 2) (.bin .add (.var 1) (.var 0))) .nil))))) (.cons (.asg (.name 3) (.comp (.rng1 (.var 1)) [none,some 1,some 0] (.name 0) .nil (.call 41 (.cons (.idx (.var 2) (.var 0)) (.cons (.idx (.var 2) (.bin .add (.var 1) (.var 0))) .nil))))) (.cons (.ret (.tup (.cons (.var 2) (.cons (.var 3) .nil)))) .nil))))
theorem t45:Tb.fns[45]?=some ⟨1,4,b45⟩:=by kernel_rfl
noncomputable def b46:Ss:=(.cons (.ret (.call 40 (.cons (.call 39 (.cons (.var 0) (.cons (.var 1) .nil))) (.cons (.call 41 (.cons (.var 0) (.cons (.var 1) .nil))) .nil)))) .nil)
theorem t46:Tb.fns[46]?=some ⟨2,2,b46⟩:=by kernel_rfl
noncomputable def b47:Ss:=(.cons (.expr (.call 42 (.cons (.var 0) .nil))) (.cons (.ret (.call 48 (.cons (.var 0) .nil))) .nil))
theorem t47:Tb.fns[47]?=some ⟨1,1,b47⟩:=by kernel_rfl
noncomputable def b48:Ss:=(.cons (.ifs (.cmp .eq (.blt .len (.cons (.var 0) .nil)) (nE 1)) (.cons (.ret (.blt .list (.cons (.var 0) .nil))) .nil) .nil) (.cons (.asg (.name 1) (.call 45 (.cons (.var 0) .nil))) (.cons (.ret (.bin .add (.call 48 (.cons (.idx (.var 1) (nE 0)) .nil)) (.call 48 (.cons (.idx (.var 1) (nE 1)) .nil)))) .nil)))
theorem t48:Tb.fns[48]?=some ⟨1,2,b48⟩:=by kernel_rfl
noncomputable def b49:Ss:=(.cons (.asg (.name 2) (.idx (.bin .add (.sl (.var 0) (.cons (.var 1) .nil) (.cons (.bin .add (.var 1) (nE 1)) .nil)) (.lst (.cons (nE 0) .nil))) (nE 0))) (.cons (.asg (.name 3) (.blt .max (.cons (.var 2) (.cons (.bin .sub (.neg (nE 1)) (.var 2)) .nil)))) (.cons (.asg (.name 4) (.bin .mod (.bin .add (.bin .add (.bin .add (.bin .mod (.var 3) (nE 2147483629)) (.bin .mul (nE 7919) (.var 1))) (.bin .mul (.bin .mul (nE 104729) (.var 1)) (.var 1))) (nE 11)) (nE 2147483629))) (.cons (.ret (.lst (.cons (.var 3) (.cons (.var 4) (.cons (.cmp .ge (.var 3) (.bin .pow (nE 10) (nE 18))) .nil))))) .nil))))
theorem t49:Tb.fns[49]?=some ⟨2,5,b49⟩:=by kernel_rfl
noncomputable def qEN:Ss:=(.cons (.put (.var 0) (nE 1) (.bin .mod (.bin .add (.bin .mul (.idx (.var 0) (nE 1)) (nE 48271)) (nE 11)) (nE 2147483647))) (.cons (.asg (.name 3) (.bin .add (.bin .mul (.var 3) (nE 2147483587)) (.bin .mod (.bin .mul (.idx (.var 0) (nE 1)) (.idx (.var 0) (nE 1))) (nE 2147483587)))) .nil))
noncomputable def b50:Ss:=(.cons (.ifs (.idx (.var 0) (nE 2)) (.cons (.asg (.name 2) (.bin .mod (.idx (.var 0) (nE 0)) (.var 1))) (.cons (.put (.var 0) (nE 0) (.bin .fdiv (.idx (.var 0) (nE 0)) (.var 1))) (.cons (.put (.var 0) (nE 2) (.cmp .gt (.idx (.var 0) (nE 0)) (nE 0))) (.cons (.ret (.var 2)) .nil)))) .nil) (.cons (.asg (.name 3) (nE 0)) (.cons (.for_ (.name 4) (.rng1 (.bin .add (nE 1) (.blt .int (.cons (.cmp .gt (.var 1) (.bin .pow (nE 10) (nE 6))) .nil)))) qEN) (.cons (.ret (.bin .mod (.bin .fdiv (.var 3) (nE 64)) (.var 1))) .nil))))
theorem t50:Tb.fns[50]?=some ⟨2,5,b50⟩:=by kernel_rfl
noncomputable def b51:Ss:=(.cons (.asg (.name 2) (.call 50 (.cons (.var 0) (.cons (nE 6) .nil)))) (.cons (.ifs (.cmp .eq (.var 2) (nE 0)) (.cons (.ret (.lst .nil)) .nil) .nil) (.cons (.ifs (.cmp .eq (.var 2) (nE 1)) (.cons (.ret (.lrng (.var 1))) .nil) .nil) (.cons (.asg (.name 3) (.idx (.lst (.cons (nE 2) (.cons (nE 3) (.cons (nE 4) (.cons (nE 8) .nil))))) (.bin .sub (.var 2) (nE 2)))) (.cons (.ret (.comp (.rng1 (.var 1)) [none,some 3,some 0] (.name 0) (.cons (.cmp .eq (.call 50 (.cons (.var 2) (.cons (.var 1) .nil))) (nE 0)) .nil) (.var 0))) .nil)))))
theorem t51:Tb.fns[51]?=some ⟨2,4,b51⟩:=by kernel_rfl
noncomputable def b52:Ss:=(.cons (.ret (.comp (.rng1 (.var 0)) [none,some 1,some 0] (.name 0) .nil (.bin .mod (.bin .fdiv (.var 1) (.idx (.lst (.cons (nE 1) (.cons (nE 2) (.cons (nE 4) (.cons (nE 8) (.cons (nE 16) .nil)))))) (.bin .sub (.bin .sub (.var 2) (nE 1)) (.var 0)))) (nE 2)))) .nil)
theorem t52:Tb.fns[52]?=some ⟨2,2,b52⟩:=by kernel_rfl
noncomputable def b53:Ss:=(.cons (.asg (.name 3) (.call 52 (.cons (.var 0) (.cons (.var 1) .nil)))) (.cons (.asg (.name 4) (.call 52 (.cons (.var 0) (.cons (.var 2) .nil)))) (.cons (.asg (.name 5) (.comp (.rng1 (.var 0)) [none,some 3,some 4] (.name 0) (.cons (.cmp .ne (.idx (.var 1) (.var 0)) (.idx (.var 2) (.var 0))) .nil) (.var 0))) (.cons (.ifs (.and (.cmp .eq (.blt .len (.cons (.var 5) .nil)) (nE 1)) (.cmp .eq (.idx (.var 4) (.idx (.var 5) (nE 0))) (nE 1))) (.cons (.ret (.tup (.cons (.cst (V.str "raise")) (.cons (.idx (.var 5) (nE 0)) .nil)))) .nil) .nil) (.cons (.ifs (.and (.cmp .eq (.blt .len (.cons (.var 5) .nil)) (nE 2)) (.and (.cmp .eq (.idx (.var 5) (nE 1)) (.bin .add (.idx (.var 5) (nE 0)) (nE 1))) (.cmp .eq (.sl (.var 3) (.cons (.idx (.var 5) (nE 0)) .nil) (.cons (.bin .add (.idx (.var 5) (nE 0)) (nE 2)) .nil)) (.lst (.cons (nE 0) (.cons (nE 1) .nil)))))) (.cons (.ret (.tup (.cons (.cst (V.str "shift")) (.cons (.idx (.var 5) (nE 0)) .nil)))) .nil) .nil) (.cons (.ret (.cst V.non)) .nil))))))
theorem t53:Tb.fns[53]?=some ⟨3,6,b53⟩:=by kernel_rfl
noncomputable def qAJ:Ss:=(.cons (.asg (.name 4) (.call 52 (.cons (.var 0) (.cons (.var 3) .nil)))) (.cons (.ifs (.cmp .eq (.idx (.var 1) (nE 0)) (.cst (V.str "shift"))) (.cons (.asg (.name 4) (.bin .add (.bin .add (.sl (.var 4) .nil (.cons (.idx (.var 1) (nE 1)) .nil)) (.lst (.cons (.idx (.var 4) (.bin .add (.idx (.var 1) (nE 1)) (nE 1))) (.cons (.idx (.var 4) (.idx (.var 1) (nE 1))) .nil)))) (.sl (.var 4) (.cons (.bin .add (.idx (.var 1) (nE 1)) (nE 2)) .nil) .nil))) .nil) .nil) (.cons (.expr (.app (.var 2) (.blt .sum (.cons (.comp (.rng1 (.var 0)) [none,some 4,some 0] (.name 0) .nil (.bin .mul (.idx (.var 1) (.var 0)) (.idx (.lst (.cons (nE 1) (.cons (nE 2) (.cons (nE 4) (.cons (nE 8) (.cons (nE 16) .nil)))))) (.bin .sub (.bin .sub (.var 2) (nE 1)) (.var 0))))) .nil)))) .nil)))
noncomputable def b54:Ss:=(.cons (.asg (.name 2) (.lst .nil)) (.cons (.for_ (.name 3) (.rng1 (.idx (.lst (.cons (nE 1) (.cons (nE 2) (.cons (nE 4) (.cons (nE 8) (.cons (nE 16) (.cons (nE 32) .nil))))))) (.var 0))) qAJ) (.cons (.ret (.var 2)) .nil)))
theorem t54:Tb.fns[54]?=some ⟨2,5,b54⟩:=by kernel_rfl
noncomputable def qAm:Ss:=(.cons (.asg (.name 8) (.comp (.list (.var 8)) [none,some 6] (.name 0) .nil (.idx (.var 1) (.var 0)))) .nil)
noncomputable def i4:Ss:=(.cons (.asg (.name 7) (.comp (.rng1 (.var 3)) [none,some 4,some 1] (.name 0) (.cons (.cmp .isnot (.call 53 (.cons (.var 2) (.cons (.idx (.var 1) (.neg (nE 1))) (.cons (.var 0) .nil)))) (.cst V.non)) .nil) (.var 0))) (.cons (.ifs (.cmp .ne (.var 7) (.lst .nil)) (.cons (.expr (.app (.var 4) (.idx (.var 7) (.call 50 (.cons (.var 0) (.cons (.blt .len (.cons (.var 7) .nil)) .nil)))))) (.cons (.expr (.app (.var 5) (.call 54 (.cons (.var 1) (.cons (.call 53 (.cons (.var 1) (.cons (.idx (.var 4) (.neg (nE 2))) (.cons (.idx (.var 4) (.neg (nE 1))) .nil)))) .nil))))) .nil)) .nil) .nil))
noncomputable def b55:Ss:=(.cons (.asg (.name 3) (.idx (.lst (.cons (nE 1) (.cons (nE 2) (.cons (nE 4) (.cons (nE 8) (.cons (nE 16) (.cons (nE 32) .nil))))))) (.var 1))) (.cons (.asg (.name 4) (.lst (.cons (.var 2) .nil))) (.cons (.asg (.name 5) (.lst .nil)) (.cons (.for_ (.name 6) (.rng1 (.bin .add (nE 1) (.call 50 (.cons (.var 0) (.cons (nE 7) .nil))))) i4) (.cons (.asg (.name 8) (.lrng (.var 3))) (.cons (.for_ (.name 6) (.list (.rev (.var 5))) qAm) (.cons (.ret (.tup (.cons (.cst (V.str "row")) (.cons (.var 4) (.cons (.var 8) .nil))))) .nil)))))))
theorem t55:Tb.fns[55]?=some ⟨3,9,b55⟩:=by kernel_rfl
noncomputable def b56:Ss:=(.cons (.asg (.name 5) (.call 21 (.cons (.var 0) (.cons (.blt .list (.cons (.var 3) .nil)) (.cons (.blt .list (.cons (.var 4) .nil)) .nil))))) (.cons (.ret (.or (.cmp .notin (.var 2) (.call 13 (.cons (.var 0) (.cons (.blt .list (.cons (.var 4) .nil)) .nil)))) (.cmp .inn (.var 1) (.call 13 (.cons (.var 0) (.cons (.var 5) .nil)))))) .nil))
theorem t56:Tb.fns[56]?=some ⟨5,6,b56⟩:=by kernel_rfl
noncomputable def qAg:Ss:=(.cons (.ifs (.cmp .gt (.var 6) (.var 5)) (.cons (.ret (.cst (V.bl false))) .nil) .nil) .nil)
noncomputable def b57:Ss:=(.cons (.for_ (.tup [5,6]) (.zip (.call 32 (.cons (.var 0) (.cons (.var 1) .nil))) (.call 32 (.cons (.var 0) (.cons (.var 2) .nil)))) qAg) (.cons (.asg (.name 7) (.idx (.lst (.cons (nE 1) (.cons (nE 2) (.cons (nE 4) (.cons (nE 8) (.cons (nE 16) (.cons (nE 32) .nil))))))) (.var 0))) (.cons (.asg (.name 8) (.call 47 (.cons (.bin .mul (.lst (.cons (.tup (.cons (.var 3) (.cons (.var 4) .nil))) .nil)) (.var 7)) .nil))) (.cons (.asg (.name 5) (.idx (.var 8) (.var 1))) (.cons (.asg (.name 6) (.idx (.var 8) (.var 2))) (.cons (.ret (.cmp .le (.bin .mul (.idx (.var 6) (nE 0)) (.idx (.var 5) (nE 1))) (.bin .mul (.idx (.var 5) (nE 0)) (.idx (.var 6) (nE 1))))) .nil))))))
theorem t57:Tb.fns[57]?=some ⟨5,9,b57⟩:=by kernel_rfl
noncomputable def qAe:Ss:=(.cons (.ifs (.not (.call 56 (.cons (.var 4) (.cons (.var 6) (.cons (.var 8) (.cons (.idx (.var 12) (nE 2)) (.cons (.var 11) .nil))))))) (.cons (.ret (.cst (V.bl false))) .nil) .nil) .nil)
noncomputable def qCy:Ss:=(.cons (.asg (.name 11) (.call 51 (.cons (.var 3) (.cons (.var 5) .nil)))) (.cons (.for_ (.name 12) (.list (.lst (.cons (.var 9) (.cons (.var 7) .nil)))) qAe) .nil))
noncomputable def qBZ:Ss:=(.cons (.asg (.name 3) (.call 49 (.cons (.var 0) (.cons (.var 2) .nil)))) (.cons (.asg (.name 4) (.bin .add (nE 1) (.call 50 (.cons (.var 3) (.cons (nE 5) .nil))))) (.cons (.asg (.name 5) (.idx (.lst (.cons (nE 1) (.cons (nE 2) (.cons (nE 4) (.cons (nE 8) (.cons (nE 16) (.cons (nE 32) .nil))))))) (.var 4))) (.cons (.asg (.name 6) (.call 50 (.cons (.var 3) (.cons (.var 5) .nil)))) (.cons (.asg (.name 7) (.call 55 (.cons (.var 3) (.cons (.var 4) (.cons (.var 6) .nil))))) (.cons (.asg (.name 8) (.idx (.idx (.var 7) (nE 1)) (.neg (nE 1)))) (.cons (.asg (.name 9) (.call 28 (.cons (.var 4) (.cons (.var 6) (.cons (.var 8) .nil))))) (.cons (.ifs (.or (.cmp .ne (.idx (.var 9) (nE 0)) (.cst (V.str "row"))) (.cmp .isnot (.call 23 (.cons (.var 4) (.cons (.var 6) (.cons (.var 8) (.cons (.var 7) .nil))))) (.cst (V.bl true)))) (.cons (.ret (.cst (V.bl false))) .nil) .nil) (.cons (.for_ (.name 10) (.rng1 (nE 4)) qCy) (.cons (.asg (.tup [13,14]) (.idx (.var 1) (.call 50 (.cons (.var 3) (.cons (nE 8) .nil))))) (.cons (.ifs (.not (.call 57 (.cons (.var 4) (.cons (.var 6) (.cons (.var 8) (.cons (.var 13) (.cons (.var 14) .nil))))))) (.cons (.ret (.cst (V.bl false))) .nil) .nil) .nil)))))))))))
noncomputable def b58:Ss:=(.cons (.asg (.name 1) (.lst (.cons (.tup (.cons (nE 1) (.cons (nE 2) .nil))) (.cons (.tup (.cons (nE 1) (.cons (nE 3) .nil))) (.cons (.tup (.cons (nE 2) (.cons (nE 3) .nil))) (.cons (.tup (.cons (nE 1) (.cons (nE 10) .nil))) (.cons (.tup (.cons (nE 9) (.cons (nE 10) .nil))) (.cons (.tup (.cons (nE 0) (.cons (nE 1) .nil))) (.cons (.tup (.cons (nE 1) (.cons (nE 1) .nil))) .nil))))))))) (.cons (.expr (.app (.var 1) (.tup (.cons (nE 999999) (.cons (nE 1000000) .nil))))) (.cons (.for_ (.name 2) (.rng1 (.blt .max (.cons (nE 1) (.cons (.blt .min (.cons (nE 40) (.cons (.blt .len (.cons (.var 0) .nil)) .nil))) .nil)))) qBZ) (.cons (.ret (.cst (V.bl true))) .nil))))
theorem t58:Tb.fns[58]?=some ⟨1,15,b58⟩:=by kernel_rfl
noncomputable def Cs:List (List Nat):=[[],[],[],[],[],[],[],[],[],[],[],[],[],[],[],[],[],[],[],[],[],[],[],[],[],[],[],[],[],[2],[],[],[2,6],[2],[],[],[],[],[],[],[],[],[],[],[],[],[],[],[],[],[],[],[],[],[2],[4,5],[],[],[1,3]]
theorem gl0:(glT gs)[0]?=some (.tup [N 1,N 2,N 4,N 8,N 16,N 32]):=rfl
section
variable{k:Nat}
theorem f0(hk:1<=k)(i:Nat)(M:Mem):Pk (glT gs) Tb.fns Cs k 0 [N i] M=.ok (bT true,M):=by
 rw[qM t0 ⟨rfl,by decide⟩ hk];simp[b0,QS,qA]
theorem f1(hk:2<=k)(i e:Nat)(M:Mem):Pk (glT gs) Tb.fns Cs k 1 [N i,N e] M=.ok (bT (decide (i<e)),M):=by
 rw[qM t1 ⟨rfl,by decide⟩ (by omega)];simp(disch:=omega) [b1,f0,qA]
theorem f5(hk:1<=k){s:Nat}(hs:s<=5)(M:Mem):Pk (glT gs) Tb.fns Cs k 5 [N s] M=.ok ((N (2 ^ s),true),M):=by
 rw[qM t5 ⟨rfl,by decide⟩ hk];have:s=0\/s=1\/s=2\/s=3\/s=4\/s=5:=by omega
 rcases this with rfl|rfl|rfl|rfl|rfl|rfl<;>simp[b5,gl0,qA]
theorem f8(hk:2<=k){s:Nat}(h1:1<=s)(hs:s<=5)(M:Mem):Pk (glT gs) Tb.fns Cs k 8 [N s] M=.ok (bT true,M):=by
 rw[qM t8 ⟨rfl,by decide⟩ (by omega)];simp(disch:=omega) [b8,f0,h1,hs,qA]
theorem f9(hk:3<=k){s:Nat}(h1:1<=s)(hs:s<=5)(M:Mem):Pk (glT gs) Tb.fns Cs k 9 [N s] M=.ok ((.v .non,true),M):=by
 rw[qM t9 ⟨rfl,by decide⟩ (by omega)];simp(disch:=omega) [b9,f8,Qh,h1,hs]
noncomputable def stT(a b:Nat)(c:Bool):List T:=[N a,N b,.v (.bl c)]
def Good(M:Mem)(n:Nat):Prop:=∃a b c,M[n]?=some (stT a b c)/\b<2147483647
theorem qFs{k:Nat}(hk:1<=k){M:Mem}{n m a b:Nat}(hm:0<m/\m<=1000000)(e:M[n]?=some [N a,N b,.v (.bl true)])(e':∀y,(M.set n y)[n]?=some y):
  Pk (glT gs) Tb.fns Cs k 50 [.cell n,N m] M=.ok ((N (a % m),true),M.set n [N (a / m),N b,.v (.bl (decide (0<a / m)))]):=by
 rw[qM t50 ⟨rfl,by decide⟩ hk,b50,show Cs.getD 50 []=[] from rfl];simp(disch:=omega) [ZF,ZZ,e,e'];rw[qA (by simp)]
theorem pw6{M:Mem}:zW M .pow (N 10) (N 6)=some (N 1000000,true):=by rw[qBB (by decide)]
theorem ml1{M:Mem}(x:Nat):zW M .mul (N x) (N 48271)=some (N (x*48271),true):=Qb (.inr (by decide))
theorem ml2{M:Mem}(x:Nat):zW M .mul (N x) (N 2147483587)=some (N (x*2147483587),true):=Qb (.inr (by decide))
theorem qGF{k:Nat}(hk:1<=k){M:Mem}{n m a b:Nat}(hm:0<m/\m<=1000000)(e:M[n]?=some [N a,N b,.v (.bl false)])(e':∀y,(M.set n y)[n]?=some y)(hb:b<2147483647){b':Nat}(hb':(b*48271+11) % 2147483647=b')(hq:b'<2147483647):
  Pk (glT gs) Tb.fns Cs k 50 [.cell n,N m] M=.ok ((N ((0*2147483587+b' * b' % 2147483587) / 64 % m),true),M.set n [N a,N b',.v (.bl false)]):=by
 rw[qM t50 ⟨rfl,by decide⟩ hk,b50,show Cs.getD 50 []=[] from rfl];have hm3:¬ (1000000<m):=Nat.not_lt.mpr hm.2;have hm2:∀{M:Mem},qk M .gt (N m) (N 1000000)=some false:=λ{M}=>(qu m 1000000).trans (by rw[uA hm3]);have ml3:∀{M:Mem},zW M .mul (N b') (N b')=some (N (b' * b'),true):=λ{M}=>Qb (.inl (wx hq (by decide)));have md1:∀{M:Mem}(x:Nat),zW M .mod (N x) (N 2147483647)=some (N (x % 2147483647),true):=λ{M} x=>ZF (by decide);have md2:∀{M:Mem}(x:Nat),zW M .mod (N x) (N 2147483587)=some (N (x % 2147483587),true):=λ{M} x=>ZF (by decide);have md3:∀{M:Mem}(x:Nat),zW M .mod (N x) (N m)=some (N (x % m),true):=λ{M} x=>ZF hm.1;have fd:∀{M:Mem}(x:Nat),zW M .fdiv (N x) (N 64)=some (N (x / 64),true):=λ{M} x=>ZZ (by decide);have rg:qC4 (N 1)=some [N 0]:=zx (by decide);simp[hb',ml1,ml2,ml3,md1,md2,md3,fd,pw6,rg,hm2,qEN,e,e'];rw[qA (by simp)]
theorem take{k:Nat}(hk:1<=k){M:Mem}{n m:Nat}(g:Good M n)(hm:0<m/\m<=1000000):∃d M',Pk (glT gs) Tb.fns Cs k 50 [.cell n,N m] M=.ok ((N d,true),M')/\d<m/\Good M' n/\M'.length=M.length/\∀j,j≠n->M'[j]?=M[j]?:=by
 obtain⟨a,b,c,e,hb⟩:=g;have hn:n<M.length:=(wC.mp e).1;have e':∀y,(M.set n y)[n]?=some y:=λy=>wk hn;cases c with
 |true=>exact⟨_,_,qFs hk hm e e',vv _ hm.1,⟨a / m,b,decide (0<a / m),e' _,hb⟩,by simp,λj hj=>by rw[wa (Ne.symm hj)]⟩
 |false=>
  have hq:(b*48271+11) % 2147483647<2147483647:=vv _ (by decide);exact⟨_,_,qGF hk hm e e' hb rfl hq,vv _ hm.1,⟨a,_,false,e' _,hq⟩,by simp,λj hj=>by rw[wa (Ne.symm hj)]⟩
theorem qFO{k:Nat}(hk:1<=k)(ns:List Int){kk:Nat}(hkk:kk<=63)(M:Mem):∃a b c,Pk (glT gs) Tb.fns Cs k 49 [.fz (ns.map λn=>.v (.int n)),N kk] M=.ok ((.lst (stT a b c),true),M)/\b<2147483647:=by
 generalize hS:ns.map (λn=>T.v (V.int n))=S;obtain⟨cl,hcl⟩:∃cl:Int,((S.drop kk).take 1++[N 0])[0]?=some (.v (.int cl)):=by
  rw[<-hS];cases h:ns.drop kk with
  |nil=>exact⟨0,by rw[<-List.map_drop,h];rfl⟩
  |cons x r=>exact⟨x,by rw[<-List.map_drop,h];rfl⟩
 obtain⟨num,hnum⟩:∃num:Nat,(if -1-cl>cl then -1-cl else cl)=(num:Int):=⟨(if -1-cl>cl then -1-cl else cl).toNat,by split<;>omega⟩
 have hl:((S.drop kk).take 1).length+[N 0].length<=lim:=by
  have:((S.drop kk).take 1).length<=1:=List.length_take_le _ _;simp[lim];omega
 have c1:∀{M:Mem},zW M .add (.lst (Zz S (some (kk:Int)) (some ((kk:Int)+1)))) (.lst [N 0])=some (.lst ((S.drop kk).take 1++[N 0]),T.lfs ((S.drop kk).take 1++[N 0])):=λ{M}=>by
  rw[show ((kk:Int)+1)=((kk+1:Nat):Int) by omega,qCl,i9 hl];rfl
 generalize (S.drop kk).take 1++[N 0]=W at hcl c1;have mx:∀{M:Mem},jS M .max [.v (.int cl),.v (.int (-1-cl))]=some (N num,true):=λ{M}=>by rw[qAy];unfold iT;rw[hnum];rfl
 have md:∀{M:Mem}(x:Nat),zW M .mod (N x) (N 2147483629)=some (N (x % 2147483629),true):=λ{M} x=>ZF (by decide);have m1:∀{M:Mem}(x:Nat),zW M .mul (N 7919) (N x)=some (N (7919*x),true):=λ{M} x=>Qb (.inl (by decide));have m2:∀{M:Mem}(x:Nat),zW M .mul (N 104729) (N x)=some (N (104729*x),true):=λ{M} x=>Qb (.inl (by decide));have m3:∀{M:Mem}(x:Nat),zW M .mul (N x) (N kk)=some (N (x*kk),true):=λ{M} x=>Qb (.inr (wo hkk (by decide)));have pw:∀{M:Mem},zW M .pow (N 10) (N 18)=some (N 1000000000000000000,true):=λ{M}=>by rw[qBB (by decide)]
 refine⟨num,(num % 2147483629+7919*kk+104729*kk*kk+11) % 2147483629,decide (1000000000000000000<=num),?_,wx (vv _ (by decide)) (by decide)⟩;rw[qM t49 ⟨rfl,by decide⟩ hk,b49,show Cs.getD 49 []=[] from rfl];simp[c1,hcl,mx,md,m1,m2,m3,pw,stT,lim];rw[qA rfl]
structure Kept(n:Nat)(M M':Mem):Prop where
 good:Good M' n
 len:M'.length=M.length
 oth:∀j,j≠n->M'[j]?=M[j]?
theorem Kept.trans{n:Nat}{A B C:Mem}(x:Kept n A B)(y:Kept n B C):Kept n A C:=⟨y.good,y.len.trans x.len,λj hj=>(y.oth j hj).trans (x.oth j hj)⟩
theorem U0{k:Nat}(hk:1<=k){M:Mem}{n m:Nat}(g:Good M n)(hm:0<m/\m<=1000000):∃d M',Pk (glT gs) Tb.fns Cs k 50 [.cell n,N m] M=.ok ((N d,true),M')/\d<m/\Kept n M M':=by
 obtain⟨d,M',e,h1,h2,h3,h4⟩:=take hk g hm;exact⟨d,M',e,h1,h2,h3,h4⟩
theorem p5{s:Nat}(h:s<=5):2 ^ s<=32:=wL (wy (by decide) h) (by decide)
theorem f10(hk:3<=k){s p:Nat}(hs:s<=5)(hp:p<2 ^ s)(M:Mem):Pk (glT gs) Tb.fns Cs k 10 [N s,N p] M=.ok ((.v .non,true),M):=by
 rw[qM t10 ⟨rfl,by decide⟩ (by omega),b10];simp(disch:=omega) [f5,hs,f1,hp,Qh]
noncomputable def qC1(x l:Nat):Bool:=decide (x&&& l≠0)&&decide (x&&& (l+l)=0)
noncomputable def qC5(x l:Nat):Bool:=decide (x&&& l=0)&&decide (x&&& (l+l)≠0)
theorem f18(hk:1<=k)(x l:Nat)(M:Mem):Pk (glT gs) Tb.fns Cs k 18 [N x,N l] M=.ok (bT (qC1 x l),M):=by
 rw[qM t18 ⟨rfl,by decide⟩ hk,b18];by_cases h:x&&& l=0<;>simp[Qv,h,qC1,qA]
theorem f19(hk:1<=k)(x l:Nat)(M:Mem):Pk (glT gs) Tb.fns Cs k 19 [N x,N l] M=.ok (bT (qC5 x l),M):=by
 rw[qM t19 ⟨rfl,by decide⟩ hk,b19];by_cases h:x&&& l=0<;>simp[Qv,h,qC5,qA]
noncomputable def qAi(x l:Nat):Nat:=if qC1 x l then x+l else if qC5 x l then x-l else x
theorem f20(hk:2<=k){x l:Nat}(h:qC5 x l=true->l<=x)(M:Mem):Pk (glT gs) Tb.fns Cs k 20 [N x,N l] M=.ok ((N (qAi x l),true),M):=by
 rw[qM t20 ⟨rfl,by decide⟩ (by omega),b20];cases h1:qC1 x l with
 |true=>simp(disch:=omega) [f18,h1,qAi,qA]
 |false=>
  cases h2:qC5 x l with
  |true=>simp(disch:=omega) [f18,f19,h1,h2,qAi,jJ (h h2),qA]
  |false=>simp(disch:=omega) [f18,f19,h1,h2,qAi,qA]
noncomputable def fs(s a b:Nat):Bool:=(List.range s).any λj=>decide (a&&& 2 ^ j=0)&&decide (a+2 ^ j=b)
theorem f16(hk:2<=k){s:Nat}(hs:s<=5)(a b:Nat)(M:Mem):Pk (glT gs) Tb.fns Cs k 16 [N s,N a,N b] M=.ok (bT (fs s a b),M):=by
 rw[qM t16 ⟨rfl,by decide⟩ (by omega),b16,show Cs.getD 16 []=[] from rfl];have c1:=jo (gl:=glT gs) (P:=Pk (glT gs) Tb.fns Cs (k-1)) (e:=pe (glT gs) (Pk (glT gs) Tb.fns Cs (k-1)) (.call 5 (.cons (.var 0) .nil))) (M:=M) (σ:=[]) (o:=none) (its:=List.range s) (λx=>2 ^ x) (by simp[lim];omega) (λx hx=>by
  have:=wM.mp hx;simp(disch:=omega) [f5])
 have c2:=O7 (c:=pec (glT gs) (Pk (glT gs) Tb.fns Cs (k-1)) .nil) (e:=pe (glT gs) (Pk (glT gs) Tb.fns Cs (k-1)) (.and (.cmp .eq (.bin .band (.var 1) (.var 0)) (nE 0)) (.cmp .eq (.bin .add (.var 1) (.var 0)) (.var 2)))) (M:=M) (σ:=[some (N a),some (N b)]) (λ_=>true) (λx=>.v (.bl (decide (a&&& x=0)&&decide (a+x=b)))) (λ_=>true) ((List.range s).map λx=>2 ^ x) [] true none (by simp[lim];omega) (λx _=>by simp) (λx _ _=>by
  by_cases h:a&&& x=0<;>simp[Qv,h,bT])
 rw[QJ,List.nil_append]at c2;have an:=qF1 (M:=M) (λx=>decide (a&&& x=0)&&decide (a+x=b)) ((List.range s).map λx=>2 ^ x);rw[List.any_map]at an;simp(disch:=omega) [zx,-List.map_map,c1,G5,c2,an,qA];rfl
noncomputable def mf(a b:Nat):List Nat->Option Nat
 | []=>none
 |j::r=>if qC1 a (2 ^ j)&&decide (a+2 ^ j=b) then some (2 ^ j) else mf a b r
noncomputable def oN:Option Nat->T|none=>.v .non|some n=>N n
theorem qGp(hk:2<=k){s a b:Nat}{M:Mem}:∀(its:List Nat) (o3 o4:Option T),(∀j∈its,j<=5)->(mf a b its=none/\∃σ',zg [] (.name 3) (pxs (glT gs) (Pk (glT gs) Tb.fns Cs k) [] T2) (its.map N) [some (N s),some (N a),some (N b),o3,o4] M=.ok (.nx σ',M))\/(∃l,mf a b its=some l/\zg [] (.name 3) (pxs (glT gs) (Pk (glT gs) Tb.fns Cs k) [] T2) (its.map N) [some (N s),some (N a),some (N b),o3,o4] M=.ok (.rt (N l,true),M))
 | [],o3,o4,h=>.inl ⟨rfl,_,rfl⟩
 |j::r,o3,o4,h=>by
  have hj:=h j (wK ..);have ih:=qGp hk (s:=s) (a:=a) (b:=b) (M:=M) r (some (N j)) (some (N (2 ^ j))) λx hx=>h x (wI _ hx);rw[List.map_cons,qx,T2];cases h1:qC1 a (2 ^ j) with
  |false=>
   simp only[mf,h1,Bool.false_and,vG,if_false];simp(disch:=omega) [f5,hj,f18,h1];rw[T2]at ih;exact ih
  |true=>
   by_cases h2:a+2 ^ j=b
   ·refine .inr ⟨2 ^ j,by simp[mf,h1,h2],?_⟩;simp(disch:=omega) [f5,hj,f18,h1,h2]
   ·simp only[mf,h1,uA h2,Bool.and_false,vG,if_false];simp(disch:=omega) [f5,hj,f18,h1,h2];rw[T2]at ih;exact ih
theorem f17(hk:3<=k){s:Nat}(h1:1<=s)(hs:s<=5)(a b:Nat)(M:Mem):Pk (glT gs) Tb.fns Cs k 17 [N s,N a,N b] M=.ok ((oN (mf a b (List.range (s-1))),true),M):=by
 rw[qM t17 ⟨rfl,by decide⟩ (by omega),b17,show Cs.getD 17 []=[] from rfl];have sb:∀{M:Mem},zW M .sub (N s) (N 1)=some (N (s-1),true):=λ{M}=>jJ h1;rcases qGp (k:=k-1) (by omega) (s:=s) (a:=a) (b:=b) (M:=M) (List.range (s-1)) none none (λj hj=>by have:=wM.mp hj;omega) with⟨m,σ',e⟩|⟨l,m,e⟩
 ·simp(disch:=omega) [sb,zx,e,m,oN,qA]
 ·simp(disch:=omega) [sb,zx,e,m,oN,qA]
noncomputable def tP(s a b:Nat):Option (List Nat):=if fs s a b then some (List.range (2 ^ s)) else match mf a b (List.range (s-1)) with|none=>none|some l=>some ((List.range (2 ^ s)).map λx=>qAi x l)
noncomputable def oL:Option (List Nat)->T|none=>.v .non|some L=>NL L
theorem u6{a b l:Nat}:∀(its:List Nat),mf a b its=some l->∃j∈its,l=2 ^ j
 | [],h=>by cases h
 |j::r,h=>by
  unfold mf at h;split at h
  ·cases h;exact⟨j,wK ..,rfl⟩
  ·obtain⟨i,hi,e⟩:=u6 r h;exact⟨i,wI _ hi,e⟩
theorem qEZ:∀j,j<5->∀x,x<32->qC5 x (2 ^ j)=true->2 ^ j<=x:=by decide +kernel
theorem f15(hk:4<=k){s a b:Nat}(h1:1<=s)(hs:s<=5)(ha:a<2 ^ s)(hb:b<2 ^ s)(M:Mem):Pk (glT gs) Tb.fns Cs k 15 [N s,N a,N b] M=.ok ((oL (tP s a b),true),M):=by
 have h5:=p5 hs;have e9:=f9 (k:=k-1) (by omega) h1 hs M;have e10:=f10 (k:=k-1) (by omega) hs ha M;have e10':=f10 (k:=k-1) (by omega) hs hb M;have e16:=f16 (k:=k-1) (by omega) hs a b M;have e17:=f17 (k:=k-1) (by omega) h1 hs a b M;have e5:=f5 (k:=k-1) (by omega) hs M;have lr:=ZV (n:=2 ^ s) (by omega);have rg:=zx (n:=2 ^ s) (by omega);cases hf:fs s a b with
 |true=>
  rw[hf]at e16;rw[show tP s a b=some (List.range (2 ^ s)) by unfold tP;rw[hf];rfl];have z:pxs (glT gs) (Pk (glT gs) Tb.fns Cs (k-1)) [] b15 [some (N s),some (N a),some (N b),none] M=.ok (.rt (NL (List.range (2 ^ s)),true),M):=by
   rw[b15]
   repeat' first|with_reducible (first|exact e9|exact e10|exact e10' | exact e16|exact e5|exact lr|exact zE|exact zU|exact zh|exact zj|exact jc|exact jZ|exact zR|exact zG|exact zB|exact zO|exact isT|exact isF|exact ll0|exact ll1|exact ll2|exact ll3|exact ll4|exact qU|exact qZ|exact qf|exact qj|exact qL .. | exact qy .. | exact qr .. | exact qu .. | exact zD .. | exact qP .. | exact qp .. | assumption|apply qS|apply qV|apply zC|apply zA|apply zI|apply zL|apply zQ|apply zS|apply qX|apply zP|apply zF|apply jX|apply g_ite|apply zK|apply qQ|apply ja|apply qN|apply zH|apply cT|apply cF|apply t_1|apply t_2|apply t_0|apply t_3|apply f_0|apply f_1|apply jY|apply qR|apply zN|apply zM|apply qT|apply qz|apply qo|apply jG|apply jW|apply jb)|((with_reducible apply zJ);exact cN rfl)|((with_reducible apply qW);exact rfl)|((with_reducible apply qF);exact rfl)|assumption|exact nF rfl|exact nT rfl|rfl
  exact zq t15 ⟨rfl,by decide⟩ (by omega) rfl rfl z (qA rfl)
 |false=>
  cases hm:mf a b (List.range (s-1)) with
  |none=>
   rw[hf]at e16;rw[hm]at e17;have e17:Pk (glT gs) Tb.fns Cs (k-1) 17 [N s,N a,N b] M=.ok ((.v .non,true),M):=e17;have isn:qk M .is (.v .non) (.v .non)=some true:=rfl;rw[show tP s a b=none by unfold tP;rw[hf,hm];rfl];have z:pxs (glT gs) (Pk (glT gs) Tb.fns Cs (k-1)) [] b15 [some (N s),some (N a),some (N b),none] M=.ok (.rt (.v .non,true),M):=by
    rw[b15]
    repeat' first|with_reducible (first|exact e9|exact e10|exact e10' | exact e16|exact e17|exact isn|exact zE|exact zU|exact zh|exact zj|exact jc|exact jZ|exact zR|exact zG|exact zB|exact zO|exact isT|exact isF|exact ll0|exact ll1|exact ll2|exact ll3|exact ll4|exact qU|exact qZ|exact qf|exact qj|exact qL .. | exact qy .. | exact qr .. | exact qu .. | exact zD .. | exact qP .. | exact qp .. | assumption|apply qS|apply qV|apply zC|apply zA|apply zI|apply zL|apply zQ|apply zS|apply qX|apply zP|apply zF|apply jX|apply g_ite|apply zK|apply qQ|apply ja|apply qN|apply zH|apply cT|apply cF|apply t_1|apply t_2|apply t_0|apply t_3|apply f_0|apply f_1|apply jY|apply qR|apply zN|apply zM|apply qT|apply qz|apply qo|apply jG|apply jW|apply jb)|((with_reducible apply zJ);exact cN rfl)|((with_reducible apply qW);exact rfl)|((with_reducible apply qF);exact rfl)|assumption|exact nF rfl|exact nT rfl|rfl
   exact zq t15 ⟨rfl,by decide⟩ (by omega) rfl rfl z (qA rfl)
  |some l=>
   obtain⟨j,hj,rfl⟩:=u6 _ hm;have hj:=wM.mp hj;have c:=jo (gl:=glT gs) (P:=Pk (glT gs) Tb.fns Cs (k-1)) (e:=pe (glT gs) (Pk (glT gs) Tb.fns Cs (k-1)) (.call 20 (.cons (.var 0) (.cons (.var 1) .nil)))) (M:=M) (σ:=[some (N (2 ^ j))]) (o:=none) (its:=List.range (2 ^ s)) (λx=>qAi x (2 ^ j)) (by simp[lim];omega) (λx hx=>by
    have hx:=wM.mp hx;have:=f20 (k:=k-1) (by omega) (qEZ j (by omega) x (by omega)) M;simp[this])
   rw[hf]at e16;rw[hm]at e17;have e17:Pk (glT gs) Tb.fns Cs (k-1) 17 [N s,N a,N b] M=.ok ((N (2 ^ j),true),M):=e17;have isn:qk M .is (N (2 ^ j)) (.v .non)=some false:=rfl;rw[show tP s a b=some ((List.range (2 ^ s)).map λx=>qAi x (2 ^ j)) by unfold tP;rw[hf,hm];rfl];have z:pxs (glT gs) (Pk (glT gs) Tb.fns Cs (k-1)) [] b15 [some (N s),some (N a),some (N b),none] M=.ok (.rt (NL ((List.range (2 ^ s)).map λx=>qAi x (2 ^ j)),true),M):=by
    rw[b15]
    repeat' first|with_reducible (first|exact e9|exact e10|exact e10' | exact e16|exact e17|exact isn|exact e5|exact rg|exact c|exact zE|exact zU|exact zh|exact zj|exact jc|exact jZ|exact zR|exact zG|exact zB|exact zO|exact isT|exact isF|exact ll0|exact ll1|exact ll2|exact ll3|exact ll4|exact qU|exact qZ|exact qf|exact qj|exact qL .. | exact qy .. | exact qr .. | exact qu .. | exact zD .. | exact qP .. | exact qp .. | assumption|apply qS|apply qV|apply zC|apply zA|apply zI|apply zL|apply zQ|apply zS|apply qX|apply zP|apply zF|apply jX|apply g_ite|apply zK|apply qQ|apply ja|apply qN|apply zH|apply cT|apply cF|apply t_1|apply t_2|apply t_0|apply t_3|apply f_0|apply f_1|apply jY|apply qR|apply zN|apply zM|apply qT|apply qz|apply qo|apply jG|apply jW|apply jb)|((with_reducible apply zJ);exact cN rfl)|((with_reducible apply qW);exact rfl)|((with_reducible apply qF);exact rfl)|assumption|exact nF rfl|exact nT rfl|rfl
   exact zq t15 ⟨rfl,by decide⟩ (by omega) rfl rfl z (qA rfl)
end
end _M
namespace _M
open PySem PySem.Spec _P
open _L (V)
theorem M8{α:Type}{gl:List T}{P:Nat->List T->Mem->PR (TB×Mem)}{e:TS->Mem->PR (TB×Mem)}{M:Mem}{σ:TS}(g h:α->T)(fr:α->Bool):∀(its:List α) (ys:List T) (b:Bool) (o:Option T),ys.length+its.length<=lim ->
  (∀x∈its,e (some (g x)::σ) M=.ok ((h x,fr x),M)) ->
  qm [] (.name 0) (pec gl P .nil) e (its.map g) ys b (o::σ) M=.ok ((.lst (ys++its.map h),b&&its.all fr),M)
 | [],ys,b,o,_,_=>by simp[qm]
 |x::r,ys,b,o,hl,he=>by
  rw[List.map_cons,qm];rw[show jR (.name 0) (g x) (o::σ)=some (some (g x)::σ) from rfl];dsimp only;rw[Zn,tD];dsimp only;rw[if_pos rfl,he x (by simp),tD];dsimp only;rw[if_pos ⟨by simp at hl;omega,rfl⟩];rw[M8 g h fr r (ys++[h x]) (b&&fr x) (some (g x)) (by simp at hl ⊢;omega) λy hy=>he y (by simp[hy])];simp[Bool.and_assoc]
theorem qDZ{α:Type}(l:List α):(l.all λ_=>true)=true:=wS.mpr λ_ _=>rfl
theorem qBA{α:Type}{gl:List T}{P:Nat->List T->Mem->PR (TB×Mem)}{e:TS->Mem->PR (TB×Mem)}{M:Mem}{σ:TS}{o:Option T}(g h:α->T)(its:List α)(hl:its.length<=lim)
  (he:∀x∈its,e (some (g x)::σ) M=.ok ((h x,true),M)):qm [] (.name 0) (pec gl P .nil) e (its.map g) [] true (o::σ) M=.ok ((.lst (its.map h),true),M):=by
 have:=M8 (gl:=gl) (P:=P) g h (λ_=>true) its [] true o (by simpa using hl) he;rw[qDZ]at this;simpa using this
section
variable{k:Nat}
theorem qCJ(hk:3<=k){L:List Nat}{n:Nat}(h:∀x∈L,x<n)(hl:L.length<=lim)(M:Mem):Pk (glT gs) Tb.fns Cs k 2 [NL L,N n] M=.ok (bT true,M):=by
 rw[qM t2 ⟨rfl,by decide⟩ (by omega),b2,show Cs.getD 2 []=[] from rfl];have c:qm [] (.name 0) (pec (glT gs) (Pk (glT gs) Tb.fns Cs (k-1)) .nil) (pe (glT gs) (Pk (glT gs) Tb.fns Cs (k-1)) (.call 1 (.cons (.var 0) (.cons (.var 1) .nil)))) (L.map N) [] true [none,some (N n)] M=.ok ((.lst (L.map λ_=>T.v (.bl true)),true),M):=
  qBA N (λ_=>T.v (.bl true)) L hl λx hx=>by simp[f1 (k:=k-1) (by omega),h x hx,bT]
 have al:∀{M:Mem},jS M .all [.lst (L.map λ_=>T.v (.bl true))]=some (bT true):=λ{M}=>by
  rw[qDF (λ_=>true),qDZ]
 simp only[zZ,u5,pe_and,qBH,pe_var,Z5,Jd,W5,pe_comp,Jl,ZW,Zu,JC];simp[QS,c,al,qA,-Zn]
noncomputable abbrev St(x:PySem.Str):T:=.v (.str x)
noncomputable def w4(x:Nat):Nat:=(([1,2,4,8,16,32].filter λy=>!decide (x&&& y=0)).map λ_=>1).sum
theorem f5o(hk:1<=k)(x:Nat)(M:Mem):Pk (glT gs) Tb.fns Cs k 7 [N x] M=.ok ((N (w4 x),true),M):=by
 rw[qM t7 ⟨rfl,by decide⟩ hk,b7,show Cs.getD 7 []=[] from rfl];have z:=Qz (c:=pec (glT gs) (Pk (glT gs) Tb.fns Cs (k-1)) (.cons (.cmp .ne (.bin .band (.var 1) (.var 0)) (nE 0)) .nil)) (e:=pe (glT gs) (Pk (glT gs) Tb.fns Cs (k-1)) (nE 1)) (M:=M) (σ:=[some (N x)]) (o:=none) (its:=[1,2,4,8,16,32]) (λy=>!decide (x&&& y=0)) (λ_=>1) (by decide) (λy _=>by simp[Qv]) (λy _ _=>by simp);have sm:=(IsL.nl M (([1,2,4,8,16,32].filter λy=>!decide (x&&& y=0)).map λ_=>1)).sum;have sT:∀{M:Mem},A8 M (.tup [N 1,N 2,N 4,N 8,N 16,N 32])=some ([1,2,4,8,16,32].map N,[]):=λ{M}=>rfl;unfold w4;generalize (([1,2,4,8,16,32].filter λy=>!decide (x&&& y=0)).map λ_=>1)=L at *;generalize ([1,2,4,8,16,32].map N)=its at *;simp[gl0,sT,z,sm,qA]
noncomputable def few(s w b m:Nat):Bool:=decide (w4 (b / 2 ^ (s-m))<w4 (w / 2 ^ (s-m)))
theorem f27(hk:2<=k){s m:Nat}(hs:s<=5)(hm:m<=s)(w b:Nat)(M:Mem):Pk (glT gs) Tb.fns Cs k 27 [N s,N w,N b,N m] M=.ok (bT (few s w b m),M):=by
 rw[qM t27 ⟨rfl,by decide⟩ (by omega),b27,show Cs.getD 27 []=[] from rfl];have sb:∀{M:Mem},zW M .sub (N s) (N m)=some (N (s-m),true):=λ{M}=>jJ hm;have h1:∀{M:Mem}(x:Nat),zW M .shr (N x) (N (s-m))=some (N (x / 2 ^ (s-m)),true):=λ{M} x=>qEd (by omega);have e1:=λx=>f5o (k:=k-1) (by omega) x M;simp[sb,h1,e1,few,qA]
theorem qCr:∀x:Nat,x<32->1<=x->1<=Builtin.Int.intBits (x:Int)/\Builtin.Int.intBits (x:Int)<=5:=by decide +kernel
noncomputable def tf(x:Nat):Nat:=2 ^ (Builtin.Int.intBits (x:Int)-1)
theorem f31(hk:2<=k){x:Nat}(h:x<32)(h1:1<=x)(M:Mem):Pk (glT gs) Tb.fns Cs k 31 [N x] M=.ok ((N (tf x),true),M):=by
 rw[qM t31 ⟨rfl,by decide⟩ (by omega),b31,show Cs.getD 31 []=[] from rfl];obtain⟨a1,a2⟩:=qCr x h h1;unfold tf;have e4:=f5 (k:=k-1) (by omega) (s:=Builtin.Int.intBits (x:Int)-1) (by omega) M;have bt:∀{M:Mem},jS M .bits [N x]=some (N (Builtin.Int.intBits (x:Int)),true):=λ{M}=>rfl;generalize Builtin.Int.intBits (x:Int)=j at *;have sb:∀{M:Mem},zW M .sub (N j) (N 1)=some (N (j-1),true):=λ{M}=>jJ a1;simp[bt,-qEa,sb,e4,qA]
theorem bx:∀a:Nat,a<32->∀b:Nat,b<32->Builtin.bitXor (a:Int) (b:Int)=((a ^^^ b:Nat):Int)/\a ^^^ b<32/\(a≠b->1<=a ^^^ b):=by decide +kernel
noncomputable def pa(p b:Nat):Nat:=if p % tf (p ^^^ b)=0 then p+tf (p ^^^ b) else p+tf (p % tf (p ^^^ b))
theorem qDz(x:Nat):0<tf x:=vT (by decide)
theorem f30(hk:3<=k){p b:Nat}(hp:p<32)(hb:b<32)(h:p≠b)(M:Mem):Pk (glT gs) Tb.fns Cs k 30 [N p,N b] M=.ok ((N (pa p b),true),M):=by
 rw[qM t30 ⟨rfl,by decide⟩ (by omega),b30,show Cs.getD 30 []=[] from rfl];obtain⟨q1,q2,q3⟩:=bx p hp b hb;have x1:∀{M:Mem},zW M .bxor (N p) (N b)=some (N (p ^^^ b),true):=λ{M}=>by
  show some (iT (Builtin.bitXor (p:Int) (b:Int)))=_;rw[q1];rfl
 have e1:=f31 (k:=k-1) (by omega) q2 (q3 h) M;have md:∀{M:Mem},zW M .mod (N p) (N (tf (p ^^^ b)))=some (N (p % tf (p ^^^ b)),true):=λ{M}=>ZF (qDz _);unfold pa;by_cases hz:p % tf (p ^^^ b)=0
 ·simp[x1,e1,md,hz,qA]
 ·have hl:p % tf (p ^^^ b)<32:=wo (Nat.mod_le _ _) hp;have e2:=f31 (k:=k-1) (by omega) hl (by omega) M;simp[x1,e1,md,hz,e2,qA]
noncomputable def rb(b:Nat):Nat->Nat->Option (List Nat)
 | 0,p=>if p=b then some [p] else none
 |n+1,p=>if p=b then some [p] else (rb b n (pa p b)).map (p::·)
theorem E8{M:Mem}{n:Nat}{L:List Nat}{p:Nat}(h:M[n]?=some ((L++[p]).map N)):QX M (.cell n) (.v (.int (-1)))=some (N p,true):=by
 show (M[n]?).bind _=_;rw[h,Option.bind_some];have:ixN ((L++[p]).map N).length (-1)=some L.length:=by
  unfold ixN _L.ixN;simp;omega
 rw[this,Option.bind_some];simp
theorem rbL(hk:3<=k){b:Nat}(hb:b<32){w:T}{M:Mem}:∀(n p:Nat) (L R:List Nat) (f:Nat),rb b n p=some R->(∀x∈R,x<32)->L.length+n<=100->n+1<=f ->
  ze (λσ M=>pB (pe (glT gs) (Pk (glT gs) Tb.fns Cs k) (.cmp .ne (.idx (.var 2) (.neg (nE 1))) (.var 1)) σ M)) (pxs (glT gs) (Pk (glT gs) Tb.fns Cs k) [2] qAG) f [some w,some (N b),some (.cell M.length)] (M++[(L++[p]).map N])=.ok (.nx [some w,some (N b),some (.cell M.length)],M++[(L++R).map N]):=by
 intro n
 induction n with
 |zero=>
  intro p L R f hr hx hl hf;unfold rb at hr;split at hr
  ·rename_i hpb;cases hr;obtain⟨f,rfl⟩:∃g,f=g+1:=⟨f-1,by omega⟩
   have ix:=E8 (M:=M++[(L++[p]).map N]) (n:=M.length) (L:=L) (p:=p) wd;subst hpb;generalize hA:M++[(L++[p]).map N]=A at *;rw[ze];simp[ix]
  ·cases hr
 |succ n ih=>
  intro p L R f hr hx hl hf;obtain⟨f,rfl⟩:∃g,f=g+1:=⟨f-1,by omega⟩
  have ix:=E8 (M:=M++[(L++[p]).map N]) (n:=M.length) (L:=L) (p:=p) wd;unfold rb at hr;split at hr
  ·rename_i hpb;cases hr;subst hpb;generalize hA:M++[(L++[p]).map N]=A at *;rw[ze];simp[ix]
  ·rename_i hpb;obtain⟨R',hr',rfl⟩:=wA.mp hr;have e:=ih (pa p b) (L++[p]) R' f hr' (λx hx'=>hx x (by simp[hx'])) (by simp;omega) (by omega);have e22:=f30 (k:=k) hk (hx p (by simp)) hb hpb (M++[(L++[p]).map N]);rw[show L++p::R'=(L++[p])++R' by simp,<-e,ze];have ap:T1 (M++[(L++[p]).map N]) M.length (N (pa p b))=some (M++[(L++[p]++[pa p b]).map N]):=by
    rw[qAn (xs:=(L++[p]).map N) wd (by simp[lim];omega)];simp
   generalize hA:M++[(L++[p]).map N]=A at *;generalize hB:M++[(L++[p]++[pa p b]).map N]=B at *;rw[qAG];simp[ix,hpb,e22,ap]
theorem f29(hk:4<=k){w b:Nat}(hb:b<32){R:List Nat}{n:Nat}(hn:n<=50)(hr:rb b n w=some R)(hx:∀x∈R,x<32){M:Mem}(hW:WfM M):Pk (glT gs) Tb.fns Cs k 29 [N w,N b] M=.ok ((NL R,true),M):=by
 rw[qM t29 ⟨rfl,by decide⟩ (by omega),b29,show Cs.getD 29 []=[2] from rfl];have e:=rbL (k:=k-1) (by omega) hb (w:=N w) (M:=M) n w [] R qAd hr hx (by simp;omega) (by unfold qAd;omega);have l1:T.lst [N w]=NL [w]:=rfl;simp only[List.nil_append]at e;have wh:px (glT gs) (Pk (glT gs) Tb.fns Cs (k-1)) [2] (.while_ (.cmp .ne (.idx (.var 2) (.neg (nE 1))) (.var 1)) qAG) [some (N w),some (N b),some (.cell M.length)] (M++[[w].map N])=.ok (.nx [some (N w),some (N b),some (.cell M.length)],M++[R.map N]):=by rw[JW];exact e
 simp only[List.map_cons,List.map_nil]at wh;simp[-JW,l1,lim,wh];exact ZC (M:=M) (A:=M) (C:=[R.map N]) rfl hW wd (wF _) (JB _) _
end
noncomputable def tL(s:Nat)(t:List Nat):List Nat->Option (List Nat)
 | []=>some t
 | [_]=>some t
 |p::q::P=>(tL s t (q::P)).bind λu=>(tP s p q).map λst=>u.map λx=>st.getD x 0
noncomputable def fnd(s w b:Nat):Option Nat:=(List.range' 1 s).find? (few s w b)
noncomputable def okp(s w b:Nat):Bool:=match fnd s w b with
 |some _=>true
 |none=>match rb b 16 w with
  |none=>false
  |some P=>P.all (λx=>decide (x<2 ^ s))&&(P.getLast?==some b)&&decide (P.length<=20)&&(match tL s (List.range (2 ^ s)) P with|none=>false|some U=>U.all (λx=>decide (x<2 ^ s))&&decide (U.length<=40))
theorem qHT:∀w,w<2->∀b,b<2->okp 1 w b=true:=by decide +kernel
theorem qHe:∀w,w<4->∀b,b<4->okp 2 w b=true:=by decide +kernel
theorem qHo:∀w,w<8->∀b,b<8->okp 3 w b=true:=by decide +kernel
theorem qHn:∀w,w<16->∀b,b<16->okp 4 w b=true:=by decide +kernel
theorem qHc:∀w,w<32->∀b,b<32->okp 5 w b=true:=by decide +kernel
theorem qCa{s w b:Nat}(h1:1<=s)(hs:s<=5)(hw:w<2 ^ s)(hb:b<2 ^ s):okp s w b=true:=by
 rcases(by omega:s=1\/s=2\/s=3\/s=4\/s=5) with rfl|rfl|rfl|rfl|rfl
 ·exact qHT w hw b hb
 ·exact qHe w hw b hb
 ·exact qHo w hw b hb
 ·exact qHn w hw b hb
 ·exact qHc w hw b hb
theorem qB7{b n w:Nat}{P:List Nat}(h:rb b n w=some P):∃P',P=w::P':=by
 cases n with
 |zero=>unfold rb at h;split at h;cases h;exact⟨_,rfl⟩;cases h
 |succ n=>
  unfold rb at h;split at h
  ·cases h;exact⟨_,rfl⟩
  ·obtain⟨R,_,rfl⟩:=wA.mp h;exact⟨R,rfl⟩
theorem qEG{s w b:Nat}(h1:1<=s)(hs:s<=5)(hw:w<2 ^ s)(hb:b<2 ^ s)(hf:fnd s w b=none):∃P' U,rb b 16 w=some (w::P')/\(∀x∈w::P',x<2 ^ s)/\(w::P').getLast?=some b/\(w::P').length<=20/\tL s (List.range (2 ^ s)) (w::P')=some U/\(∀x∈U,x<2 ^ s)/\U.length<=40:=by
 have h:=qCa h1 hs hw hb;unfold okp at h;rw[hf]at h;dsimp only at h;split at h
 ·cases h
 ·rename_i P hP;obtain⟨P',rfl⟩:=qB7 hP;simp only[wB,wS,uC,beq_iff_eq]at h;obtain⟨⟨⟨a1,a2⟩,a3⟩,a4⟩:=h;split at a4
  ·cases a4
  ·rename_i U hU;simp only[wB,wS,uC]at a4;exact⟨P',U,hP,a1,a2,a3,hU,a4.1,a4.2⟩
theorem qBE{s p q:Nat}{st:List Nat}(h:tP s p q=some st):st.length=2 ^ s:=by
 unfold tP at h;split at h
 ·cases h;simp
 ·split at h
  ·cases h
  ·cases h;simp
theorem qBa:∀s,s<6->∀j,j<s-1->∀x,x<2 ^ s->qAi x (2 ^ j)<2 ^ s:=by decide +kernel
theorem qD0{s p q:Nat}(hs:s<=5){st:List Nat}(h:tP s p q=some st):∀y∈st,y<2 ^ s:=by
 unfold tP at h;split at h
 ·cases h;intro y hy;exact wM.mp hy
 ·split at h
  ·cases h
  ·rename_i l hl;cases h;obtain⟨j,hj,rfl⟩:=u6 _ hl;intro y hy;obtain⟨x,hx,rfl⟩:=ve.mp hy;exact qBa s (by omega) j (wM.mp hj) x (wM.mp hx)
theorem g9{st:List Nat}{n:Nat}(h:∀y∈st,y<n)(hn:0<n)(x:Nat):st.getD x 0<n:=by
 rw[wR];cases e:st[x]? with
 |none=>exact hn
 |some y=>exact h y (wU e)
theorem n9{s:Nat}(hs:s<=5){t:List Nat}(ht:∀x∈t,x<2 ^ s):∀(P:List Nat){U:List Nat},tL s t P=some U->∀x∈U,x<2 ^ s
 | [],U,h=>by unfold tL at h;cases h;exact ht
 | [p],U,h=>by unfold tL at h;cases h;exact ht
 |p::q::P,U,h=>by
  unfold tL at h;obtain⟨W,hW,h2⟩:=wH.mp h;obtain⟨st,hst,rfl⟩:=wA.mp h2;intro x hx;obtain⟨y,_,rfl⟩:=ve.mp hx;exact g9 (qD0 hs hst) (vT (by decide)) y
theorem qAz{s:Nat}{t:List Nat}:∀(P:List Nat){U:List Nat},tL s t P=some U->U.length=t.length
 | [],U,h=>by unfold tL at h;cases h;rfl
 | [p],U,h=>by unfold tL at h;cases h;rfl
 |p::q::P,U,h=>by
  unfold tL at h;obtain⟨W,hW,h2⟩:=wH.mp h;obtain⟨st,hst,rfl⟩:=wA.mp h2;rw[wW,qAz (q::P) hW]
section
variable{k:Nat}
theorem qGv{j:Nat}(h:j<5):[N 1,N 2,N 4,N 8,N 16][j]?=some (N (2 ^ j)):=by
 have:j=0\/j=1\/j=2\/j=3\/j=4:=by omega
 rcases this with rfl|rfl|rfl|rfl|rfl<;>rfl
noncomputable def zi(s p:Nat):List Nat:=(List.range s).map λj=>p / 2 ^ (s-1-j) % 2
theorem Jv(s p:Nat):(zi s p).length=s:=by simp[zi]
theorem f52(hk:1<=k){s:Nat}(hs:s<=5)(p:Nat)(M:Mem):Pk (glT gs) Tb.fns Cs k 52 [N s,N p] M=.ok ((NL (zi s p),true),M):=by
 rw[qM t52 ⟨rfl,by decide⟩ hk,b52];have c:=jo (gl:=glT gs) (P:=Pk (glT gs) Tb.fns Cs (k-1)) (e:=pe (glT gs) (Pk (glT gs) Tb.fns Cs (k-1)) (.bin .mod (.bin .fdiv (.var 1) (.idx (.lst (.cons (nE 1) (.cons (nE 2) (.cons (nE 4) (.cons (nE 8) (.cons (nE 16) .nil)))))) (.bin .sub (.bin .sub (.var 2) (nE 1)) (.var 0)))) (nE 2))) (M:=M) (σ:=[some (N p),some (N s)]) (o:=none) (its:=List.range s) (λj=>p / 2 ^ (s-1-j) % 2) (by simp[lim];omega) (λx hx=>by
  have hx:=wM.mp hx;have e1:∀{M:Mem},zW M .sub (N s) (N 1)=some (N (s-1),true):=λ{M}=>jJ (by omega);have e2:∀{M:Mem},zW M .sub (N (s-1)) (N x)=some (N (s-1-x),true):=λ{M}=>jJ (by omega);have e3:=qGv (j:=s-1-x) (by omega);have e4:∀{M:Mem},zW M .fdiv (N p) (N (2 ^ (s-1-x)))=some (N (p / 2 ^ (s-1-x)),true):=λ{M}=>ZZ ⟨vT (by decide),wo (p5 (show s-1-x<=5 by omega)) (by decide)⟩;have e5:∀{M:Mem}(y:Nat),zW M .mod (N y) (N 2)=some (N (y % 2),true):=λ{M} y=>ZF (by decide);simp[e1,e2,e3,e4,e5,lim])
 simp(disch:=omega) [zx,c,qA];rfl
noncomputable def kL(s a b:Nat):Option (Bool×Nat):=match (List.range s).filter λj=>!decide ((zi s a).getD j 0=(zi s b).getD j 0) with
 | [u]=>if (zi s b).getD u 0=1 then some (false,u) else none
 | [u,v]=>if v=u+1/\((zi s a).drop u).take 2=[0,1] then some (true,u) else none
 |_=>none
noncomputable def oK:Option (Bool×Nat)->T
 |none=>.v .non
 |some (false,u)=>.tup [.v (.str "raise"),N u]
 |some (true,u)=>.tup [.v (.str "shift"),N u]
theorem f53(hk:2<=k){s:Nat}(hs:s<=5)(a b:Nat)(M:Mem):Pk (glT gs) Tb.fns Cs k 53 [N s,N a,N b] M=.ok ((oK (kL s a b),true),M):=by
 have e1:=f52 (k:=k-1) (by omega) hs a M;have e2:=f52 (k:=k-1) (by omega) hs b M;have rg:=zx (n:=s) (by omega);have la:=Jv s a;have lb:=Jv s b;have c:=Qz (c:=pec (glT gs) (Pk (glT gs) Tb.fns Cs (k-1)) (.cons (.cmp .ne (.idx (.var 1) (.var 0)) (.idx (.var 2) (.var 0))) .nil)) (e:=pe (glT gs) (Pk (glT gs) Tb.fns Cs (k-1)) (.var 0)) (M:=M) (σ:=[some (NL (zi s a)),some (NL (zi s b))]) (o:=none) (its:=List.range s) (λj=>!decide ((zi s a).getD j 0=(zi s b).getD j 0)) id (by simp[lim];omega) (λx hx=>by
  have hx:=wM.mp hx;have i1:=(IsL.nl M (zi s a)).idx (getD_some (by omega:x<(zi s a).length));have i2:=(IsL.nl M (zi s b)).idx (getD_some (by omega:x<(zi s b).length));simp only[Jc,V8,qBV,pe_var,lk1,lk2,lk0,tD,i1,i2,PR.ofO_some,qp,qEf]) (λx _ _=>by simp)
 rw[List.map_id]at c;have hU:∀u∈(List.range s).filter (λj=>!decide ((zi s a).getD j 0=(zi s b).getD j 0)),u<s:=λu hu=>wM.mp (vV.mp hu).1;unfold kL;generalize (List.range s).filter (λj=>!decide ((zi s a).getD j 0=(zi s b).getD j 0))=U at c hU
 match U,c,hU with
 | [],c,hU=>
  have ln:=(IsL.nl M ([]:List Nat)).len;have n1:qk M .eq (N ([]:List Nat).length) (N 1)=some false:=by rw[qP];simp
  have n2:qk M .eq (N ([]:List Nat).length) (N 2)=some false:=by rw[qP];simp
  have z:pxs (glT gs) (Pk (glT gs) Tb.fns Cs (k-1)) [] b53 [some (N s),some (N a),some (N b),none,none,none] M=.ok (.rt (.v .non,true),M):=by
   rw[b53]
   repeat' first|with_reducible (first|exact e1|exact e2|exact rg|exact c|exact ln|exact n1|exact n2|exact zE|exact zU|exact zh|exact zj|exact jH|exact jU|exact jc|exact jZ|exact zR|exact zG|exact zB|exact zO|exact isT|exact isF|exact ll0|exact ll1|exact ll2|exact ll3|exact ll4|exact qU|exact qZ|exact qf|exact qj|exact zb|exact zn|exact qL .. | exact qy .. | exact qr .. | exact qu .. | exact zD .. | exact qP .. | exact qp .. | assumption|apply qS|apply qV|apply zC|apply zA|apply zI|apply zL|apply zQ|apply zS|apply qX|apply zP|apply zF|apply jX|apply g_ite|apply zK|apply qQ|apply ja|apply qN|apply zH|apply cT|apply cF|apply t_1|apply t_2|apply t_0|apply t_3|apply f_0|apply f_1|apply jY|apply qR|apply zN|apply zM|apply qT|apply qz|apply qo|apply jG|apply jW|apply jb)|((with_reducible apply zJ);exact cN rfl)|((with_reducible apply qW);exact rfl)|((with_reducible apply qF);exact rfl)|assumption|exact nF rfl|exact nT rfl|rfl
  exact zq t53 ⟨rfl,by decide⟩ (by omega) rfl rfl z (qA rfl)
 | [u],c,hU=>
  have hu:=hU u (wK ..);have i0:=(IsL.nl M [u]).idx (i:=0) (x:=u) rfl;have i2:=(IsL.nl M (zi s b)).idx (getD_some (by omega:u<(zi s b).length));by_cases h:(zi s b).getD u 0=1
  ·rw[h]at i2;simp only[if_pos h];have q1:qk M .eq (N 1) (N 1)=some true:=rfl;have ln:=(IsL.nl M [u]).len;have n1:qk M .eq (N [u].length) (N 1)=some true:=by rw[qP];simp
   have n2:qk M .eq (N [u].length) (N 2)=some false:=by rw[qP];simp
   have z:pxs (glT gs) (Pk (glT gs) Tb.fns Cs (k-1)) [] b53 [some (N s),some (N a),some (N b),none,none,none] M=.ok (.rt (.tup [.v (.str "raise"),N u],true),M):=by
    rw[b53]
    repeat' first|with_reducible (first|exact e1|exact e2|exact rg|exact c|exact ln|exact n1|exact n2|exact i0|exact i2|exact q1|exact zE|exact zU|exact zh|exact zj|exact jH|exact jU|exact jc|exact jZ|exact zR|exact zG|exact zB|exact zO|exact isT|exact isF|exact ll0|exact ll1|exact ll2|exact ll3|exact ll4|exact qU|exact qZ|exact qf|exact qj|exact zb|exact zn|exact qL .. | exact qy .. | exact qr .. | exact qu .. | exact zD .. | exact qP .. | exact qp .. | assumption|apply qS|apply qV|apply zC|apply zA|apply zI|apply zL|apply zQ|apply zS|apply qX|apply zP|apply zF|apply jX|apply g_ite|apply zK|apply qQ|apply ja|apply qN|apply zH|apply cT|apply cF|apply t_1|apply t_2|apply t_0|apply t_3|apply f_0|apply f_1|apply jY|apply qR|apply zN|apply zM|apply qT|apply qz|apply qo|apply jG|apply jW|apply jb)|((with_reducible apply zJ);exact cN rfl)|((with_reducible apply qW);exact rfl)|((with_reducible apply qF);exact rfl)|assumption|exact nF rfl|exact nT rfl|rfl
   exact zq t53 ⟨rfl,by decide⟩ (by omega) rfl rfl z (qA rfl)
  ·simp only[if_neg h];have q1:qk M .eq (N ((zi s b).getD u 0)) (N 1)=some false:=by rw[qP,uA h]
   have ln:=(IsL.nl M [u]).len;have n1:qk M .eq (N [u].length) (N 1)=some true:=by rw[qP];simp
   have n2:qk M .eq (N [u].length) (N 2)=some false:=by rw[qP];simp
   have z:pxs (glT gs) (Pk (glT gs) Tb.fns Cs (k-1)) [] b53 [some (N s),some (N a),some (N b),none,none,none] M=.ok (.rt (.v .non,true),M):=by
    rw[b53]
    repeat' first|with_reducible (first|exact e1|exact e2|exact rg|exact c|exact ln|exact n1|exact n2|exact i0|exact i2|exact q1|exact zE|exact zU|exact zh|exact zj|exact jH|exact jU|exact jc|exact jZ|exact zR|exact zG|exact zB|exact zO|exact isT|exact isF|exact ll0|exact ll1|exact ll2|exact ll3|exact ll4|exact qU|exact qZ|exact qf|exact qj|exact zb|exact zn|exact qL .. | exact qy .. | exact qr .. | exact qu .. | exact zD .. | exact qP .. | exact qp .. | assumption|apply qS|apply qV|apply zC|apply zA|apply zI|apply zL|apply zQ|apply zS|apply qX|apply zP|apply zF|apply jX|apply g_ite|apply zK|apply qQ|apply ja|apply qN|apply zH|apply cT|apply cF|apply t_1|apply t_2|apply t_0|apply t_3|apply f_0|apply f_1|apply jY|apply qR|apply zN|apply zM|apply qT|apply qz|apply qo|apply jG|apply jW|apply jb)|((with_reducible apply zJ);exact cN rfl)|((with_reducible apply qW);exact rfl)|((with_reducible apply qF);exact rfl)|assumption|exact nF rfl|exact nT rfl|rfl
   exact zq t53 ⟨rfl,by decide⟩ (by omega) rfl rfl z (qA rfl)
 | [u,v],c,hU=>
  have hu:=hU u (wK ..);have i0:=(IsL.nl M [u,v]).idx (i:=0) (x:=u) rfl;have i1:=(IsL.nl M [u,v]).idx (i:=1) (x:=v) rfl;have ct:lT (Zz ((zi s a).map N) (some (u:Int)) (some ((u:Int)+2)))=(NL (((zi s a).drop u).take 2),true):=by
   rw[show ((u:Int)+2)=((u+2:Nat):Int) by omega,qBX (by omega),show u+2-u=2 by omega,<-List.map_drop,<-List.map_take,qFG]
  have l2:T.lst [N 0,N 1]=NL [0,1]:=rfl;by_cases h:v=u+1
  ·subst h;by_cases h2:((zi s a).drop u).take 2=[0,1]
   ·show Pk (glT gs) Tb.fns Cs k 53 [N s,N a,N b] M=.ok ((oK (if u+1=u+1/\((zi s a).drop u).take 2=[0,1] then some (true,u) else none),true),M);rw[if_pos ⟨rfl,h2⟩];rw[h2]at ct;have q1:qk M .eq (N (u+1)) (N (u+1))=some true:=by rw[qP];simp
    have ll:[N 0,N 1].length<=lim:=by decide
    have cs:Z0 (NL (zi s a)) ((zi s a).map N) (some ((u:Nat):Int)) (some ((u+2:Nat):Int))=some (NL [0,1],true):=by rw[show ((u+2:Nat):Int)=(u:Int)+2 by omega,<-ct];rfl
    have q2:qk M .eq (NL [0,1]) (.lst [N 0,N 1])=some true:=rfl;have ln:=(IsL.nl M [u,u+1]).len;have n1:qk M .eq (N [u,u+1].length) (N 1)=some false:=by rw[qP];simp
    have n2:qk M .eq (N [u,u+1].length) (N 2)=some true:=by rw[qP];simp
    have z:pxs (glT gs) (Pk (glT gs) Tb.fns Cs (k-1)) [] b53 [some (N s),some (N a),some (N b),none,none,none] M=.ok (.rt (.tup [.v (.str "shift"),N u],true),M):=by
     rw[b53]
     repeat' first|with_reducible (first|exact e1|exact e2|exact rg|exact c|exact ln|exact n1|exact n2|exact i0|exact i1|exact q1|exact ll|exact cs|exact q2|exact zE|exact zU|exact zh|exact zj|exact jH|exact jU|exact jc|exact jZ|exact zR|exact zG|exact zB|exact zO|exact isT|exact isF|exact ll0|exact ll1|exact ll2|exact ll3|exact ll4|exact qU|exact qZ|exact qf|exact qj|exact zb|exact zn|exact qL .. | exact qy .. | exact qr .. | exact qu .. | exact zD .. | exact qP .. | exact qp .. | assumption|apply qS|apply qV|apply zC|apply zA|apply zI|apply zL|apply zQ|apply zS|apply qX|apply zP|apply zF|apply jX|apply g_ite|apply zK|apply qQ|apply ja|apply qN|apply zH|apply cT|apply cF|apply t_1|apply t_2|apply t_0|apply t_3|apply f_0|apply f_1|apply jY|apply qR|apply zN|apply zM|apply qT|apply qz|apply qo|apply jG|apply jW|apply jb)|((with_reducible apply zJ);exact cN rfl)|((with_reducible apply qW);exact rfl)|((with_reducible apply qF);exact rfl)|assumption|exact nF rfl|exact nT rfl|rfl
    exact zq t53 ⟨rfl,by decide⟩ (by omega) rfl rfl z (qA rfl)
   ·show Pk (glT gs) Tb.fns Cs k 53 [N s,N a,N b] M=.ok ((oK (if u+1=u+1/\((zi s a).drop u).take 2=[0,1] then some (true,u) else none),true),M);rw[if_neg λz=>h2 z.2];have q1:qk M .eq (N (u+1)) (N (u+1))=some true:=by rw[qP];simp
    have ll:[N 0,N 1].length<=lim:=by decide
    have cs:Z0 (NL (zi s a)) ((zi s a).map N) (some ((u:Nat):Int)) (some ((u+2:Nat):Int))=some (NL (((zi s a).drop u).take 2),true):=by rw[show ((u+2:Nat):Int)=(u:Int)+2 by omega,<-ct];rfl
    have q2:qk M .eq (NL (((zi s a).drop u).take 2)) (.lst [N 0,N 1])=some false:=by rw[l2,qHI,uA h2]
    have ln:=(IsL.nl M [u,u+1]).len;have n1:qk M .eq (N [u,u+1].length) (N 1)=some false:=by rw[qP];simp
    have n2:qk M .eq (N [u,u+1].length) (N 2)=some true:=by rw[qP];simp
    have z:pxs (glT gs) (Pk (glT gs) Tb.fns Cs (k-1)) [] b53 [some (N s),some (N a),some (N b),none,none,none] M=.ok (.rt (.v .non,true),M):=by
     rw[b53]
     repeat' first|with_reducible (first|exact e1|exact e2|exact rg|exact c|exact ln|exact n1|exact n2|exact i0|exact i1|exact q1|exact ll|exact cs|exact q2|exact zE|exact zU|exact zh|exact zj|exact jH|exact jU|exact jc|exact jZ|exact zR|exact zG|exact zB|exact zO|exact isT|exact isF|exact ll0|exact ll1|exact ll2|exact ll3|exact ll4|exact qU|exact qZ|exact qf|exact qj|exact zb|exact zn|exact qL .. | exact qy .. | exact qr .. | exact qu .. | exact zD .. | exact qP .. | exact qp .. | assumption|apply qS|apply qV|apply zC|apply zA|apply zI|apply zL|apply zQ|apply zS|apply qX|apply zP|apply zF|apply jX|apply g_ite|apply zK|apply qQ|apply ja|apply qN|apply zH|apply cT|apply cF|apply t_1|apply t_2|apply t_0|apply t_3|apply f_0|apply f_1|apply jY|apply qR|apply zN|apply zM|apply qT|apply qz|apply qo|apply jG|apply jW|apply jb)|((with_reducible apply zJ);exact cN rfl)|((with_reducible apply qW);exact rfl)|((with_reducible apply qF);exact rfl)|assumption|exact nF rfl|exact nT rfl|rfl
    exact zq t53 ⟨rfl,by decide⟩ (by omega) rfl rfl z (qA rfl)
  ·simp only[show ¬ (v=u+1/\((zi s a).drop u).take 2=[0,1]) from λz=>h z.1,if_false];have q1:qk M .eq (N v) (N (u+1))=some false:=by rw[qP,uA h]
   have ln:=(IsL.nl M [u,v]).len;have n1:qk M .eq (N [u,v].length) (N 1)=some false:=by rw[qP];simp
   have n2:qk M .eq (N [u,v].length) (N 2)=some true:=by rw[qP];simp
   have z:pxs (glT gs) (Pk (glT gs) Tb.fns Cs (k-1)) [] b53 [some (N s),some (N a),some (N b),none,none,none] M=.ok (.rt (.v .non,true),M):=by
    rw[b53]
    repeat' first|with_reducible (first|exact e1|exact e2|exact rg|exact c|exact ln|exact n1|exact n2|exact i0|exact i1|exact q1|exact zE|exact zU|exact zh|exact zj|exact jH|exact jU|exact jc|exact jZ|exact zR|exact zG|exact zB|exact zO|exact isT|exact isF|exact ll0|exact ll1|exact ll2|exact ll3|exact ll4|exact qU|exact qZ|exact qf|exact qj|exact zb|exact zn|exact qL .. | exact qy .. | exact qr .. | exact qu .. | exact zD .. | exact qP .. | exact qp .. | assumption|apply qS|apply qV|apply zC|apply zA|apply zI|apply zL|apply zQ|apply zS|apply qX|apply zP|apply zF|apply jX|apply g_ite|apply zK|apply qQ|apply ja|apply qN|apply zH|apply cT|apply cF|apply t_1|apply t_2|apply t_0|apply t_3|apply f_0|apply f_1|apply jY|apply qR|apply zN|apply zM|apply qT|apply qz|apply qo|apply jG|apply jW|apply jb)|((with_reducible apply zJ);exact cN rfl)|((with_reducible apply qW);exact rfl)|((with_reducible apply qF);exact rfl)|assumption|exact nF rfl|exact nT rfl|rfl
   exact zq t53 ⟨rfl,by decide⟩ (by omega) rfl rfl z (qA rfl)
 |u::v::w::r,c,hU=>
  have ln:=(IsL.nl M (u::v::w::r)).len;have n1:qk M .eq (N (u::v::w::r).length) (N 1)=some false:=by rw[qP];simp
  have n2:qk M .eq (N (u::v::w::r).length) (N 2)=some false:=by rw[qP];simp
  have z:pxs (glT gs) (Pk (glT gs) Tb.fns Cs (k-1)) [] b53 [some (N s),some (N a),some (N b),none,none,none] M=.ok (.rt (.v .non,true),M):=by
   rw[b53]
   repeat' first|with_reducible (first|exact e1|exact e2|exact rg|exact c|exact ln|exact n1|exact n2|exact zE|exact zU|exact zh|exact zj|exact jH|exact jU|exact jc|exact jZ|exact zR|exact zG|exact zB|exact zO|exact isT|exact isF|exact ll0|exact ll1|exact ll2|exact ll3|exact ll4|exact qU|exact qZ|exact qf|exact qj|exact zb|exact zn|exact qL .. | exact qy .. | exact qr .. | exact qu .. | exact zD .. | exact qP .. | exact qp .. | assumption|apply qS|apply qV|apply zC|apply zA|apply zI|apply zL|apply zQ|apply zS|apply qX|apply zP|apply zF|apply jX|apply g_ite|apply zK|apply qQ|apply ja|apply qN|apply zH|apply cT|apply cF|apply t_1|apply t_2|apply t_0|apply t_3|apply f_0|apply f_1|apply jY|apply qR|apply zN|apply zM|apply qT|apply qz|apply qo|apply jG|apply jW|apply jb)|((with_reducible apply zJ);exact cN rfl)|((with_reducible apply qW);exact rfl)|((with_reducible apply qF);exact rfl)|assumption|exact nF rfl|exact nT rfl|rfl
  exact zq t53 ⟨rfl,by decide⟩ (by omega) rfl rfl z (qA rfl)
noncomputable def qAM(j:Nat)(R:List Nat):List Nat:=R.take j++[R.getD (j+1) 0,R.getD j 0]++R.drop (j+2)
noncomputable def qFl(sh:Bool)(j:Nat)(R:List Nat):List Nat:=if sh then qAM j R else R
noncomputable def val(s:Nat)(R:List Nat):Nat:=((List.range s).map λx=>R.getD x 0*2 ^ (s-1-x)).sum
noncomputable def tv(s:Nat)(sh:Bool)(j p:Nat):Nat:=val s (qFl sh j (zi s p))
noncomputable def tK(s:Nat)(sh:Bool)(j:Nat):List Nat:=(List.range (2 ^ s)).map (tv s sh j)
theorem qG0:∀s,s<6->∀a,a<2 ^ s->∀b,b<2 ^ s->tP s a b=(kL s a b).map λq=>tK s q.1 q.2:=by decide +kernel
theorem qHj:∀s,s<6->∀a,a<2 ^ s->∀b,b<2 ^ s->(match kL s a b with|some (true,j)=>decide (j+1<s)|_=>true)=true:=by decide +kernel
noncomputable def kT:Bool->Nat->T
 |false,u=>.tup [.v (.str "raise"),N u]
 |true,u=>.tup [.v (.str "shift"),N u]
theorem qF7{M:Mem}:qk M .eq (.v (.str "shift")) (.v (.str "shift"))=some true:=rfl
theorem qGM{M:Mem}:qk M .eq (.v (.str "raise")) (.v (.str "shift"))=some false:=rfl
theorem qFD{s:Nat}(hs:s<=5):[N 1,N 2,N 4,N 8,N 16,N 32][s]?=some (N (2 ^ s)):=by
 have:s=0\/s=1\/s=2\/s=3\/s=4\/s=5:=by omega
 rcases this with rfl|rfl|rfl|rfl|rfl|rfl<;>rfl
theorem qAW{j:Nat}{R:List Nat}(h:j+1<R.length):(qAM j R).length=R.length:=by
 unfold qAM;simp;omega
theorem cV{P:Nat->List T->Mem->PR (TB×Mem)}{s:Nat}(hs:s<=5){R:List Nat}(hR:R.length=s)(M:Mem):qm [] (.name 0) (pec (glT gs) P .nil) (pe (glT gs) P (.bin .mul (.idx (.var 1) (.var 0)) (.idx (.lst (.cons (nE 1) (.cons (nE 2) (.cons (nE 4) (.cons (nE 8) (.cons (nE 16) .nil)))))) (.bin .sub (.bin .sub (.var 2) (nE 1)) (.var 0))))) ((List.range s).map N) [] true [none,some (NL R),some (N s)] M=.ok ((NL ((List.range s).map λx=>R.getD x 0*2 ^ (s-1-x)),true),M):=
 jo (λx=>R.getD x 0*2 ^ (s-1-x)) (by simp[lim];omega) (λx hx=>by
  have hx:=wM.mp hx;have e1:∀{M:Mem},zW M .sub (N s) (N 1)=some (N (s-1),true):=λ{M}=>jJ (by omega);have e2:∀{M:Mem},zW M .sub (N (s-1)) (N x)=some (N (s-1-x),true):=λ{M}=>jJ (by omega);have e3:=qGv (j:=s-1-x) (by omega);have i:=(IsL.nl M R).idx (getD_some (by omega:x<R.length));generalize R.getD x 0=y at i ⊢;have e4:∀{M:Mem},zW M .mul (N y) (N (2 ^ (s-1-x)))=some (N (y*2 ^ (s-1-x)),true):=λ{M}=>Qb (.inr (wo (p5 (show s-1-x<=5 by omega)) (by decide)));simp[e1,e2,e3,e4,i,lim])
theorem qHD(hk:1<=k){s j:Nat}(hs:s<=5){sh:Bool}(hj:sh=true->j+1<s){M:Mem}{i:Nat}{ys:List Nat}(hy:ys.length<2000){o4:Option T}:∃p4,pxs (glT gs) (Pk (glT gs) Tb.fns Cs k) [2] qAJ [some (N s),some (kT sh j),some (.cell M.length),some (N i),o4] (M++[ys.map N])=.ok (.nx [some (N s),some (kT sh j),some (.cell M.length),some (N i),p4],M++[(ys++[tv s sh j i]).map N]):=by
 have lR:=Jv s i;have g0:(M++[ys.map N])[M.length]?=some (ys.map N):=by simp
 have ap:∀x,T1 (M++[ys.map N]) M.length (N x)=some (M++[(ys++[x]).map N]):=λx=>by
  rw[qAn g0 (by simp[lim];omega),List.set_append_right _ _ (wF _)];simp
 rw[qAJ];cases sh with
 |false=>
  have c:=cV (P:=Pk (glT gs) Tb.fns Cs k) hs lR (M++[ys.map N]);have sm:=(IsL.nl (M++[ys.map N]) ((List.range s).map λx=>(zi s i).getD x 0*2 ^ (s-1-x))).sum;have hv:((List.range s).map λx=>(zi s i).getD x 0*2 ^ (s-1-x)).sum=tv s false j i:=rfl;generalize ((List.range s).map λx=>(zi s i).getD x 0*2 ^ (s-1-x))=vs at c sm hv;rw[hv]at sm;generalize tv s false j i=w at *;refine⟨some (NL (zi s i)),?_⟩;simp(disch:=omega) [f52,hs,kT,qGM,zx,-Jc,c,sm,ap,G5]
 |true=>
  have hj:=hj rfl;have lQ:=qAW (j:=j) (R:=zi s i) (by omega);rw[lR]at lQ;have c:=cV (P:=Pk (glT gs) Tb.fns Cs k) hs lQ (M++[ys.map N]);have sm:=(IsL.nl (M++[ys.map N]) ((List.range s).map λx=>(qAM j (zi s i)).getD x 0*2 ^ (s-1-x))).sum;have hv:((List.range s).map λx=>(qAM j (zi s i)).getD x 0*2 ^ (s-1-x)).sum=tv s true j i:=rfl;generalize ((List.range s).map λx=>(qAM j (zi s i)).getD x 0*2 ^ (s-1-x))=vs at c sm hv;rw[hv]at sm;generalize tv s true j i=w at *;have i1:=(IsL.nl (M++[ys.map N]) (zi s i)).idx (getD_some (by omega:j+1<(zi s i).length));have i0:=(IsL.nl (M++[ys.map N]) (zi s i)).idx (getD_some (by omega:j<(zi s i).length));have hq:qAM j (zi s i)=(zi s i).take j++[(zi s i).getD (j+1) 0,(zi s i).getD j 0]++(zi s i).drop (j+2):=rfl;generalize (zi s i).getD (j+1) 0=x1 at i1 hq;generalize (zi s i).getD j 0=x0 at i0 hq;have y1:lT (Zz ((zi s i).map N) none (some (j:Int)))=(NL ((zi s i).take j),true):=by
   rw[Z7 (by simp;omega),<-List.map_take,qFG]
  have y2:lT (Zz ((zi s i).map N) (some ((j:Int)+2)) none)=(NL ((zi s i).drop (j+2)),true):=by
   rw[show ((j:Int)+2)=((j+2:Nat):Int) by omega,Z1 (by simp;omega),<-List.map_drop,qFG]
  have l2:T.lst [N x1,N x0]=NL [x1,x0]:=rfl;have a1:∀{M:Mem},zW M .add (NL ((zi s i).take j)) (NL [x1,x0])=some (NL ((zi s i).take j++[x1,x0]),true):=λ{M}=>qCV (by simp[lim];omega);have a2:∀{M:Mem},zW M .add (NL ((zi s i).take j++[x1,x0])) (NL ((zi s i).drop (j+2)))=some (NL (qAM j (zi s i)),true):=λ{M}=>by rw[qCV (by simp[lim];omega),hq]
  refine⟨some (NL (qAM j (zi s i))),?_⟩;simp(disch:=omega) [f52,hs,kT,qF7,zx,-Jc,y1,y2,i0,i1,l2,a1,a2,lim,c,sm,ap,G5]
theorem qGk(hk:1<=k){s j:Nat}(hs:s<=5){sh:Bool}(hj:sh=true->j+1<s){M:Mem}:∀(m i:Nat) (ys:List Nat) (o3 o4:Option T),ys.length+m<=2000->∃p3 p4,zg [] (.name 3) (pxs (glT gs) (Pk (glT gs) Tb.fns Cs k) [2] qAJ) ((List.range' i m).map N) [some (N s),some (kT sh j),some (.cell M.length),o3,o4] (M++[ys.map N])=.ok (.nx [some (N s),some (kT sh j),some (.cell M.length),p3,p4],M++[(ys++(List.range' i m).map (tv s sh j)).map N])
 | 0,i,ys,o3,o4,hy=>⟨o3,o4,by simp⟩
 |m+1,i,ys,o3,o4,hy=>by
  obtain⟨q4,body⟩:=qHD hk hs hj (M:=M) (i:=i) (ys:=ys) (by omega) (o4:=o4);obtain⟨p3,p4,e⟩:=qGk hk hs hj (M:=M) m (i+1) (ys++[tv s sh j i]) (some (N i)) q4 (by simp;omega);refine⟨p3,p4,?_⟩;rw[List.range'_succ,List.map_cons,qx,show ∀a b c d e:Option T,[a,b,c,d,e].set 3 (some (N i))=[a,b,c,some (N i),e] from λ_ _ _ _ _=>rfl,body,tD];dsimp only;rw[e];simp
theorem f54(hk:2<=k){s j:Nat}(hs:s<=5){sh:Bool}(hj:sh=true->j+1<s){M:Mem}(hM:FlatM M):Pk (glT gs) Tb.fns Cs k 54 [N s,kT sh j] M=.ok ((NL (tK s sh j),true),M):=by
 rw[qM t54 ⟨rfl,by decide⟩ (by omega),b54,show Cs.getD 54 []=[2] from rfl];have h5:=p5 hs;obtain⟨p3,p4,e⟩:=qGk (k:=k-1) (by omega) hs hj (M:=M) (2 ^ s) 0 [] none none (by simp;omega);rw[<-vq,List.nil_append,List.map_nil]at e;have th:thaw M.length (.lst [])=(.cell M.length,[[]]):=by simp[thaw,Qx]
 have ln:=qFD hs;simp(disch:=omega) [lim,th,ln,zx,e];have:=f6 hM (tK s sh j) false;unfold tK at this ⊢;rw[List.map_map]at this;exact this
theorem qDu{a:Nat}(ha:a<=1000):T8 (N a) (N 0)=some (((List.range a).reverse.map λj=>j+1).map N):=by
 show (if (-1000000<=(a:Int)/\(a:Int)<=1000000)/\-1000000<=((0:Nat):Int)/\((0:Nat):Int)<=1000000 then some (jp (a:Int) ((a:Int)-((0:Nat):Int)).toNat) else none)=_;rw[if_pos ⟨⟨by omega,by omega⟩,by decide,by decide⟩];congr 1;unfold jp;rw[show ((a:Int)-((0:Nat):Int)).toNat=a by omega];apply List.ext_getElem
 ·simp
 ·intro i h1 h2;simp at h1;simp;unfold N;congr 2;omega
theorem k0{s:Nat}{t:List Nat}{p q:Nat}{P U:List Nat}(h:tL s t (p::q::P)=some U):∃W st,tL s t (q::P)=some W/\tP s p q=some st/\U=W.map λx=>st.getD x 0:=by
 unfold tL at h;obtain⟨W,hW,h2⟩:=wH.mp h;obtain⟨st,hst,rfl⟩:=wA.mp h2;exact⟨W,st,hW,hst,rfl⟩
theorem Y0{s:Nat}{t:List Nat}:∀(n:Nat) (P U:List Nat),tL s t P=some U->n<P.length->∃W,tL s t (P.drop n)=some W
 | 0,P,U,h,_=>⟨U,h⟩
 |n+1,[],U,h,hl=>by simp at hl
 |n+1,[p],U,h,hl=>by simp at hl
 |n+1,p::q::P,U,h,hl=>by
  obtain⟨W,st,hW,_,_⟩:=k0 h;exact Y0 n (q::P) W hW (by simp at hl ⊢;omega)
theorem qCS{s:Nat}{U:List Nat}(P:List Nat)(h:tL s (List.range (2 ^ s)) P=some U):U.length=2 ^ s:=by rw[qAz P h,vA]
end
end _M
namespace _M
open PySem PySem.Spec _P
open _L (V)
section
variable{k:Nat}
theorem qGA{M:Mem}(a b:PySem.Str):qk M .eq (St a) (St b)=some (decide (a=b)):=by
 show (some (a==b):Option Bool)=_;congr 1
theorem qFN{M:Mem}(a b:PySem.Str):qk M .ne (St a) (St b)=some (!decide (a=b)):=by
 show (some (!(a==b)):Option Bool)=_;congr 1
theorem Jb{M:Mem}{L:List Nat}{b:Nat}(h:L.getLast?=some b):QX M (NL L) (.v (.int (-1)))=some (N b,true):=by
 obtain⟨K,rfl⟩:∃K,L=K++[b]:=by
  have hne:L≠[]:=by rintro rfl;cases h
  refine⟨L.dropLast,?_⟩;rw[wz hne]at h;rw[<-Option.some.inj h];exact(vD hne).symm
 unfold QX NL;dsimp only;rw[qFb,Option.bind_some];have:ixN ((K++[b]).map N).length (-1)=some K.length:=by
  unfold ixN _L.ixN;simp;omega
 rw[this,Option.bind_some];simp
theorem taS(hk:5<=k){s:Nat}(h1:1<=s)(hs:s<=5){M:Mem}{P:List Nat}(hP:∀x∈P,x<2 ^ s)(hl:P.length<=100):∀(n:Nat) (U:List Nat) (o3 o4:Option T),n<P.length->tL s (List.range (2 ^ s)) (P.drop n)=some U->∀R,tL s (List.range (2 ^ s)) P=some R->∃p3 p4,zg [] (.name 3) (pxs (glT gs) (Pk (glT gs) Tb.fns Cs k) [] qBj) (((List.range n).reverse.map λj=>j+1).map N) [some (N s),some (NL P),some (NL U),o3,o4] M=.ok (.nx [some (N s),some (NL P),some (NL R),p3,p4],M)
 | 0,U,o3,o4,_,hU,R,hR=>by
  rw[List.drop_zero,hR]at hU;cases hU;exact⟨o3,o4,rfl⟩
 |n+1,U,o3,o4,hn,hU,R,hR=>by
  have d1:P.drop n=P[n]::P[n+1]::P.drop (n+2):=by rw[vJ (by omega),vJ hn]
  have d2:P.drop (n+1)=P[n+1]::P.drop (n+2):=vJ hn;have la:=qCS _ hU;have e9:=f15 (k:=k) (by omega) h1 hs (hP P[n] (vc _)) (hP P[n+1] (vc _)) M;have p5':=p5 hs;have i1:=(IsL.nl M P).idx (i:=n) (x:=P[n]) (wE (by omega));have i2:=(IsL.nl M P).idx (i:=n+1) (x:=P[n+1]) (wE hn);have sb:∀{M:Mem},zW M .sub (N (n+1)) (N 1)=some (N n,true):=λ{M}=>by rw[jJ (by omega)];rfl
  have nf:(NL P).lf=false:=G5 P;have st5:∀a b c d e z:Option T,[a,b,c,d,e].set 3 z=[a,b,c,z,e]:=λ_ _ _ _ _ _=>rfl;have tn:tL s (List.range (2 ^ s)) (P.drop n)=(tP s P[n] P[n+1]).map λst=>U.map λx=>st.getD x 0:=by
   rw[d1,tL,<-d2,hU];rfl
  obtain⟨st,hst⟩:∃st,tP s P[n] P[n+1]=some st:=by
   obtain⟨W,hW⟩:=Y0 n P R hR (by omega);rw[hW]at tn;cases h:tP s P[n] P[n+1] with
   |none=>rw[h]at tn;cases tn
   |some st=>exact⟨st,rfl⟩
  rw[List.range_succ,List.reverse_append,List.reverse_singleton,List.singleton_append,List.map_cons,List.map_cons,qx,st5];rw[hst]at e9 tn;have lst:=qBE hst;have hx:∀x∈U,x<st.length:=λx hx=>by rw[lst];exact n9 hs (λy hy=>wM.mp hy) _ hU x hx
  have z:=jo (gl:=glT gs) (P:=Pk (glT gs) Tb.fns Cs k) (e:=pe (glT gs) (Pk (glT gs) Tb.fns Cs k) (.idx (.var 1) (.var 0))) (M:=M) (σ:=[some (NL st)]) (o:=none) (its:=U) (λx=>st.getD x 0) (by unfold lim;omega) λx hx'=>by
   have:=(IsL.nl M st).idx (getD_some (hx x hx'));simp[this]
  have isn:=qFh (M:=M) st;unfold oL at e9;simp only at e9;have ih:=taS hk h1 hs (M:=M) hP hl n (U.map λx=>st.getD x 0) (some (N (n+1))) (some (NL st)) (by omega) tn R hR;have body:pxs (glT gs) (Pk (glT gs) Tb.fns Cs k) [] qBj [some (N s),some (NL P),some (NL U),some (N (n+1)),o4] M=.ok (.nx [some (N s),some (NL P),some (NL (U.map λx=>st.getD x 0)),some (N (n+1)),some (NL st)],M):=by
   clear ih;generalize (U.map λx=>st.getD x 0)=W at z ⊢;generalize NL P=tp at i1 i2 ⊢;have sb':zW M .sub (N (n+1)) (N 1)=some (N n,true):=sb
   rw[qBj]
   repeat' first|with_reducible (first|exact sb' | exact i1|exact i2|exact e9|exact isn|exact z|exact zE|exact zU|exact zh|exact zj|exact jH|exact jc|exact jZ|exact zR|exact zG|exact zB|exact zO|exact isT|exact isF|exact ll0|exact ll1|exact ll2|exact ll3|exact ll4|exact qU|exact qZ|exact qf|exact qj|exact zb|exact qL .. | exact qy .. | exact qr .. | exact qu .. | exact zD .. | exact qP .. | exact qp .. | assumption|apply qS|apply qV|apply zC|apply zA|apply zI|apply zL|apply zQ|apply zS|apply qX|apply zP|apply zF|apply jX|apply g_ite|apply zK|apply qQ|apply ja|apply qN|apply zH|apply cT|apply cF|apply t_1|apply t_2|apply t_0|apply t_3|apply f_0|apply f_1|apply ZJ|apply jY|apply qR|apply zN|apply zM|apply qT|apply qz|apply jG|apply jW|apply jb)|((with_reducible apply zJ);exact cN rfl)|((with_reducible apply qW);exact rfl)|((with_reducible apply qF);exact rfl)|assumption|exact nF rfl|exact nT rfl|rfl
  rw[body,tD];exact ih
theorem qDb{gl:List T}{P:Nat->List T->Mem->PR (TB×Mem)}{σ:TS}{M M1 M2:Mem}{a b:E}{t u:T}{fa fb:Bool}{us:List T}(ha:pe gl P a σ M=.ok ((t,fa),M1))(hb:pe gl P b σ M1=.ok ((u,fb),M2))(hs:T8 t u=some us):pei gl P (.rng3 a b) σ M=.ok ((us,[]),M2):=by
 rw[qAk,ha,tD];show ((pe gl P b σ M1).bind _)=_;rw[hb,tD];show ((tH (T8 t u)).bind _)=_;rw[hs];rfl
theorem qGu(hk:6<=k){s:Nat}(h1:1<=s)(hs:s<=5){M:Mem}{P R:List Nat}(hP:∀x∈P,x<2 ^ s)(hl:1<=P.length/\P.length<=100)(hR:tL s (List.range (2 ^ s)) P=some R):∃fr,Pk (glT gs) Tb.fns Cs k 25 [N s,NL P] M=.ok ((NL R,fr),M):=by
 have dl:P.drop (P.length-1)=[P[P.length-1]]:=by rw[vJ (by omega),vF (by omega)]
 obtain⟨p3,p4,e⟩:=taS (k:=k-1) (by omega) h1 hs (M:=M) hP hl.2 (P.length-1) (List.range (2 ^ s)) none none (by omega) (by rw[dl];rfl) R hR;have e4:=f5 (k:=k-1) (by omega) hs M;have p5':=p5 hs;have lr:=ZV (n:=2 ^ s) (by omega);have sb:zW M .sub (N P.length) (N 1)=some (N (P.length-1),true):=jJ hl.1;have rg:=qDu (a:=P.length-1) (by omega);have lN:=(IsL.nl M P).len;have z:∃f,pxs (glT gs) (Pk (glT gs) Tb.fns Cs (k-1)) [] b25 [some (N s),some (NL P),none,none,none] M=.ok (.rt (NL R,f),M):=by
  generalize ((List.range (P.length-1)).reverse.map λj=>j+1).map N=its at *;exact⟨_,by
   rw[b25]
   repeat' first|with_reducible (first|exact e4|exact lr|exact sb|exact rg|exact lN|exact e|exact zE|exact zU|exact zh|exact zj|exact jH|exact jc|exact jZ|exact zR|exact zG|exact zB|exact zO|exact isT|exact isF|exact ll0|exact ll1|exact ll2|exact ll3|exact ll4|exact qU|exact qZ|exact qf|exact qj|exact zb|exact qL .. | exact qy .. | exact qr .. | exact qu .. | exact zD .. | exact qP .. | exact qp .. | assumption|apply qS|apply qV|apply zC|apply zA|apply zI|apply zL|apply zQ|apply zS|apply qX|apply zP|apply zF|apply jX|apply g_ite|apply zK|apply qQ|apply ja|apply qN|apply zH|apply cT|apply cF|apply t_1|apply t_2|apply t_0|apply t_3|apply f_0|apply f_1|apply ZJ|apply jY|apply qR|apply zN|apply zM|apply qT|apply qz|apply qDb|apply jG|apply jW|apply jb)|((with_reducible apply zJ);exact cN rfl)|((with_reducible apply qW);exact rfl)|((with_reducible apply qF);exact rfl)|assumption|rfl⟩
 obtain⟨f,z⟩:=z;exact⟨f,zq t25 ⟨rfl,by decide⟩ (by omega) rfl rfl z (qA rfl)⟩
theorem qFd(hk:7<=k){s w b:Nat}{r U:List Nat}(h1:1<=s)(hs:s<=5)(hx:∀x∈w::r,x<2 ^ s)(hb:(w::r).getLast?=some b)(ht:tL s (List.range (2 ^ s)) (w::r)=some U)(hl:r.length<=50)(M:Mem):Pk (glT gs) Tb.fns Cs k 24 [N s,N w,N b,NL (w::r),NL U] M=.ok (bT true,M):=by
 have n5:=p5 hs;have e4:=f5 (k:=k-1) (by omega) hs M;have e2:=qCJ (k:=k-1) (by omega) hx (by simp[lim];omega) M;have e2':=qCJ (k:=k-1) (by omega) (L:=U) (n:=2 ^ s) (n9 hs (λy hy=>wM.mp hy) _ ht) (by rw[qCS _ ht];simp[lim];omega) M;have q0:qk M .eq (NL (w::r)) (.lst [])=some false:=by rw[show T.lst []=NL [] from rfl,(IsL.nl M (w::r)).ceq (IsL.nl M [])];simp
 have i0:=(IsL.nl M (w::r)).idx (i:=0) (x:=w) rfl;have il:=Jb (M:=M) hb;have nw:∀x,qk M .ne (N x) (N x)=some false:=λx=>by rw[qp];simp
 have ng:v7 (N 1)=some (.v (.int (-1)),true):=rfl;obtain⟨fr,e17⟩:=qGu (k:=k-1) (by omega) h1 hs (M:=M) hx ⟨by simp,by simp;omega⟩ ht;have qq:qk M .eq (NL U) (NL U)=some true:=by rw[(IsL.nl M U).ceq (IsL.nl M U)];simp
 generalize NL (w::r)=tp at *;have z:pxs (glT gs) (Pk (glT gs) Tb.fns Cs (k-1)) [] b24 [some (N s),some (N w),some (N b),some tp,some (NL U),none] M=.ok (.rt (bT true),M):=by
  rw[b24]
  repeat' first|with_reducible (first|exact e4|exact e2|exact e2' | exact q0|exact i0|exact il|exact nw _|exact ng|exact e17|exact qq|exact zE|exact zU|exact zh|exact zj|exact jH|exact jU|exact jc|exact jZ|exact zR|exact zG|exact zB|exact zO|exact isT|exact isF|exact ll0|exact ll1|exact ll2|exact ll3|exact ll4|exact qU|exact qZ|exact qf|exact qj|exact zb|exact zn|exact qL .. | exact qy .. | exact qr .. | exact qu .. | exact zD .. | exact qP .. | exact qp .. | assumption|apply qS|apply qV|apply zC|apply zA|apply zI|apply zL|apply zQ|apply zS|apply qX|apply zP|apply zF|apply jX|apply g_ite|apply zK|apply qQ|apply ja|apply qN|apply zH|apply cT|apply cF|apply t_1|apply t_2|apply t_0|apply t_3|apply f_0|apply f_1|apply jY|apply qR|apply zN|apply zM|apply qT|apply qz|apply qo|apply qCA|apply jG|apply jW|apply jb)|((with_reducible apply zJ);exact cN rfl)|((with_reducible apply qW);exact rfl)|((with_reducible apply qF);exact rfl)|assumption|exact nF rfl|exact nT rfl|rfl
 exact zq t24 ⟨rfl,by decide⟩ (by omega) rfl rfl z (qA rfl)
theorem qFX(hk:1<=k)(P U:List Nat)(M:Mem):Pk (glT gs) Tb.fns Cs k 4 [.tup [St "row",NL P,NL U],St "row",N 3] M=.ok (bT true,M):=by
 have ty:jQ M (.tup [St "row",NL P,NL U])=some "tuple":=rfl;have ty0:jQ M (St "row")=some "str":=rfl;have ln:jS M .len [.tup [St "row",NL P,NL U]]=some (N 3,true):=by rw[qBT];rfl
 have nn:qk M .ne (N 3) (N 3)=some false:=rfl;have eq:qk M .eq (St "row") (St "row")=some true:=by rw[qGA];simp
 have z:pxs (glT gs) (Pk (glT gs) Tb.fns Cs (k-1)) [] b4 [some (.tup [St "row",NL P,NL U]),some (St "row"),some (N 3)] M=.ok (.rt (bT true),M):=by
  rw[b4]
  repeat' first|with_reducible (first|exact ty|exact ty0|exact ln|exact nn|exact eq|exact lk0 .. | exact zE|exact zU|exact zh|exact jc|exact jZ|exact zR|exact zG|exact zB|exact zO|exact isT|exact isF|exact ll0|exact ll1|exact ll2|exact ll3|exact ll4|exact qU|exact qZ|exact qf|exact qL .. | exact qy .. | exact qr .. | exact qu .. | exact zD .. | exact qP .. | exact qp .. | assumption|apply qS|apply qV|apply zC|apply zA|apply zI|apply zL|apply zQ|apply zS|apply qX|apply zP|apply zF|apply jX|apply g_ite|apply zK|apply qQ|apply ja|apply qN|apply zH|apply cT|apply cF|apply t_1|apply t_2|apply t_0|apply t_3|apply f_0|apply f_1|apply jY|apply qR|apply zN|apply zM|apply qT|apply qz|apply qo|apply qD3|apply jG|apply jW|apply jb)|((with_reducible apply zJ);exact cN rfl)|((with_reducible apply qW);exact rfl)|((with_reducible apply qF);exact rfl)|assumption|exact nF rfl|exact nT rfl|rfl
 exact zq t4 ⟨rfl,by decide⟩ (by omega) rfl rfl z (qA rfl)
theorem qHX(hk:8<=k){s w b:Nat}{r U:List Nat}(h1:1<=s)(hs:s<=5)(hw:w<2 ^ s)(hb:b<2 ^ s)(hx:∀x∈w::r,x<2 ^ s)(hl:(w::r).getLast?=some b)(ht:tL s (List.range (2 ^ s)) (w::r)=some U)(hr:r.length<=50)(M:Mem):Pk (glT gs) Tb.fns Cs k 23 [N s,N w,N b,.tup [St "row",NL (w::r),NL U]] M=.ok (bT true,M):=by
 have e7:=f9 (k:=k-1) (by omega) h1 hs M;have e8:=f10 (k:=k-1) (by omega) hs hw M;have e8':=f10 (k:=k-1) (by omega) hs hb M;have q1:=qFX (k:=k-1) (by omega) (w::r) U M;have e:=qFd (k:=k-1) (by omega) h1 hs hx hl ht hr M;generalize NL (w::r)=tp at *;have z:pxs (glT gs) (Pk (glT gs) Tb.fns Cs (k-1)) [] b23 [some (N s),some (N w),some (N b),some (.tup [St "row",tp,NL U])] M=.ok (.rt (bT true),M):=by
  rw[b23]
  repeat' first|with_reducible (first|exact e7|exact e8|exact e8' | exact q1|exact e|exact lk1 .. | exact lk2 .. | exact zE|exact zU|exact zh|exact zj|exact jc|exact jZ|exact zR|exact zG|exact zB|exact zO|exact isT|exact isF|exact ll0|exact ll1|exact ll2|exact ll3|exact ll4|exact qU|exact qZ|exact qf|exact qj|exact qL .. | exact qy .. | exact qr .. | exact qu .. | exact zD .. | exact qP .. | exact qp .. | assumption|apply qS|apply qV|apply zC|apply zA|apply zI|apply zL|apply zQ|apply zS|apply qX|apply zP|apply zF|apply jX|apply g_ite|apply zK|apply qQ|apply ja|apply qN|apply zH|apply cT|apply cF|apply t_1|apply t_2|apply t_0|apply t_3|apply f_0|apply f_1|apply jY|apply qR|apply zN|apply zM|apply qT|apply qz|apply qo|apply jG|apply jW|apply jb)|((with_reducible apply zJ);exact cN rfl)|((with_reducible apply qW);exact rfl)|((with_reducible apply qF);exact rfl)|assumption|exact nF rfl|exact nT rfl|rfl
 exact zq t23 ⟨rfl,by decide⟩ (by omega) rfl rfl z (qA rfl)
end
theorem G8{s a b:Nat}(hs:s<=5)(ha:a<2 ^ s)(hb:b<2 ^ s){st:List Nat}(h:tP s a b=some st):∃sh j,kL s a b=some (sh,j)/\st=tK s sh j/\(sh=true->j+1<s):=by
 have e:=qG0 s (by omega) a ha b hb;have e2:=qHj s (by omega) a ha b hb;rw[h]at e;cases hk:kL s a b with
 |none=>rw[hk]at e;cases e
 |some q=>
  obtain⟨sh,j⟩:=q;rw[hk]at e e2;refine⟨sh,j,rfl,Option.some.inj e,λz=>?_⟩;subst z;exact uD e2
theorem Zi{s a b:Nat}(hs:s<=5)(ha:a<2 ^ s)(hb:b<2 ^ s):(kL s a b).isSome=(tP s a b).isSome:=by
 rw[qG0 s (by omega) a ha b hb,vi]
noncomputable def stp(s:Nat):Nat->List Nat->Bool
 |_,[]=>true
 |p,q::r=>decide (q<2 ^ s)&&(kL s p q).isSome&&stp s q r
theorem qAX{M:Mem}(q:Option (Bool×Nat)):qk M .isnot (oK q) (.v .non)=some q.isSome:=by
 cases q with
 |none=>rfl
 |some p=>obtain⟨sh,j⟩:=p;cases sh<;>rfl
theorem Kept.flat{n:Nat}{M M':Mem}(x:Kept n M M')(h:FlatM M):FlatM M':=by
 obtain⟨a,b,c0,e,_⟩:=x.good;intro c hc;obtain⟨j,hj,rfl⟩:=vZ.mp hc;by_cases q:j=n
 ·subst q;rw[wE hj]at e;rw[Option.some.inj e];show T.unds 0 [N a,N b,.v (.bl c0)]=true;simp[T.unds,qCg,T.und]
 ·have:=x.oth j q;rw[wE hj,wE (by have:=x.len;omega)]at this;rw[Option.some.inj this];exact h _ (vc _)
section
variable{k:Nat}
theorem opL(hk:2<=k){s w b:Nat}(hs:s<=5){M:Mem}{o4:Option T}:∀(ms:List Nat) (o3:Option T),(∀m∈ms,m<=s)->ms.find? (few s w b)=none->∃p3,zg [] (.name 3) (pxs (glT gs) (Pk (glT gs) Tb.fns Cs k) [] qCP) (ms.map N) [some (N s),some (N w),some (N b),o3,o4] M=.ok (.nx [some (N s),some (N w),some (N b),p3,o4],M)
 | [],o3,_,_=>⟨o3,rfl⟩
 |m::ms,o3,h,hn=>by
  have hf:few s w b m=false:=by
   cases q:few s w b m with
   |false=>rfl
   |true=>rw[List.find?_cons_of_pos q]at hn;cases hn
  rw[List.find?_cons_of_neg (by rw[hf];decide)]at hn;obtain⟨p3,ih⟩:=opL hk hs (M:=M) (w:=w) (b:=b) (o4:=o4) ms (some (N m)) (λx hx=>h x (by simp[hx])) hn;have e:=f27 (k:=k) hk hs (h m (by simp)) w b M;rw[hf]at e;refine⟨p3,?_⟩;rw[List.map_cons,qx];show (pxs _ _ _ _ [some (N s),some (N w),some (N b),some (N m),o4] _).bind _=_;have body:pxs (glT gs) (Pk (glT gs) Tb.fns Cs k) [] qCP [some (N s),some (N w),some (N b),some (N m),o4] M=.ok (.nx [some (N s),some (N w),some (N b),some (N m),o4],M):=by
   rw[qCP]
   repeat' first|with_reducible (first|exact e|exact zE|exact zU|exact zh|exact zj|exact jH|exact jc|exact jZ|exact zR|exact zG|exact zB|exact zO|exact isT|exact isF|exact ll0|exact ll1|exact ll2|exact ll3|exact ll4|exact qU|exact qZ|exact qf|exact qj|exact zb|exact qL .. | exact qy .. | exact qr .. | exact qu .. | exact zD .. | exact qP .. | exact qp .. | assumption|apply qS|apply qV|apply zC|apply zA|apply zI|apply zL|apply zQ|apply zS|apply qX|apply zP|apply zF|apply jX|apply g_ite|apply zK|apply qQ|apply ja|apply qN|apply zH|apply cT|apply cF|apply t_1|apply t_2|apply t_0|apply t_3|apply f_0|apply f_1|apply ZJ|apply jY|apply qR|apply zN|apply zM|apply qT|apply qz|apply jG|apply jW|apply jb)|((with_reducible apply zJ);exact cN rfl)|((with_reducible apply qW);exact rfl)|((with_reducible apply qF);exact rfl)|assumption|exact nF rfl|exact nT rfl|rfl
  rw[body,tD];exact ih
theorem qHU(hk:8<=k){s w b:Nat}(h1:1<=s)(hs:s<=5)(hw:w<2 ^ s)(hb:b<2 ^ s)(hf:fnd s w b=none){M:Mem}(hW:WfM M){P' U:List Nat}(r1:rb b 16 w=some (w::P'))(r2:∀x∈w::P',x<2 ^ s)(r4:(w::P').length<=20)(r5:tL s (List.range (2 ^ s)) (w::P')=some U):∃fr,Pk (glT gs) Tb.fns Cs k 28 [N s,N w,N b] M=.ok ((.tup [St "row",NL (w::P'),NL U],fr),M):=by
 have p5':=p5 hs;have e7:=f9 (k:=k-1) (by omega) h1 hs M;have e8:=f10 (k:=k-1) (by omega) hs hw M;have e8':=f10 (k:=k-1) (by omega) hs hb M;have rg:=qCt (a:=1) (b:=s+1) (by omega);rw[Nat.add_sub_cancel]at rg;obtain⟨p3,e⟩:=opL (k:=k-1) (by omega) hs (M:=M) (w:=w) (b:=b) (o4:=none) (List.range' 1 s) none (λm hm=>by have:=List.mem_range'_1.mp hm;omega) hf;have e21:=f29 (k:=k-1) (by omega) (by omega) (by decide) r1 (λx hx=>wG (r2 x hx) p5') hW;obtain⟨fr,e17⟩:=qGu (k:=k-1) (by omega) h1 hs (M:=M) r2 ⟨by simp,by omega⟩ r5;have nf:(NL (w::P')).lf=false:=G5 _;generalize NL (w::P')=tp at *;generalize (List.range' 1 s).map N=its at *;have ad:=qL (M:=M) s 1;have z:∃f,pxs (glT gs) (Pk (glT gs) Tb.fns Cs (k-1)) [] b28 [some (N s),some (N w),some (N b),none,none] M=.ok (.rt (.tup [St "row",tp,NL U],f),M):=
  ⟨_,by
   rw[b28]
   repeat' first|with_reducible (first|exact e7|exact e8|exact e8' | exact ad|exact rg|exact e|exact e21|exact e17|exact zE|exact zU|exact zh|exact zj|exact jH|exact jc|exact jZ|exact zR|exact zG|exact zB|exact zO|exact isT|exact isF|exact ll0|exact ll1|exact ll2|exact ll3|exact ll4|exact qU|exact qZ|exact qf|exact qj|exact zb|exact qL .. | exact qy .. | exact qr .. | exact qu .. | exact zD .. | exact qP .. | exact qp .. | assumption|apply qS|apply qV|apply zC|apply zA|apply zI|apply zL|apply zQ|apply zS|apply qX|apply zP|apply zF|apply jX|apply g_ite|apply zK|apply qQ|apply ja|apply qN|apply zH|apply cT|apply cF|apply t_1|apply t_2|apply t_0|apply t_3|apply f_0|apply f_1|apply ZJ|apply jY|apply qR|apply zN|apply zM|apply qT|apply qz|apply qDt|apply jG|apply jW|apply jb)|((with_reducible apply zJ);exact cN rfl)|((with_reducible apply qW);exact rfl)|((with_reducible apply qF);exact rfl)|assumption|rfl⟩
 obtain⟨f,z⟩:=z;exact⟨f,zq t28 ⟨rfl,by decide⟩ (by omega) rfl rfl z (qA rfl)⟩
theorem Good.app{A B:Mem}{n:Nat}(g:Good A n):Good (A++B) n:=by
 obtain⟨a,b,c,e,h⟩:=g;exact⟨a,b,c,by rw[wD (wC.mp e).1];exact e,h⟩
theorem Good.lt{A:Mem}{n:Nat}(g:Good A n):n<A.length:=by
 obtain⟨a,b,c,e,_⟩:=g;exact(wC.mp e).1
theorem Kept.split{A B X:Mem}{n:Nat}(hn:n<A.length)(x:Kept n (A++B) X):∃A',X=A'++B/\Kept n A A':=by
 have lx:X.length=A.length+B.length:=by rw[x.len];simp
 have hd:X.drop A.length=B:=by
  refine List.ext_getElem? λi=>?_;rw[List.getElem?_drop,x.oth _ (by omega),wO (by omega),vC]
 refine⟨X.take A.length,by rw[<-hd,List.take_append_drop],?_,by rw[va];omega,λj hj=>?_⟩
 ·obtain⟨a,b,c,e,h⟩:=x.good;exact⟨a,b,c,by rw[wp hn];exact e,h⟩
 ·by_cases q:j<A.length
  ·rw[wp q,x.oth j hj,wD q]
  ·rw[wt (by simp;omega),wt (by omega)]
theorem qDr{k:Nat}(hk:1<=k){A B:Mem}{n m:Nat}(g:Good A n)(hm:0<m/\m<=1000000):∃d A',Pk (glT gs) Tb.fns Cs k 50 [.cell n,N m] (A++B)=.ok ((N d,true),A'++B)/\d<m/\Kept n A A':=by
 obtain⟨d,M',e,hd,kk⟩:=U0 hk (g.app (B:=B)) hm;obtain⟨A',rfl,ka⟩:=kk.split g.lt;exact⟨d,A',e,hd,ka⟩
theorem p0{s:Nat}{l q:Nat}(hq:q<2 ^ s)(hk:(kL s l q).isSome=true):∀(r:List Nat) (w:Nat),stp s w r=true->(w::r).getLast?=some l->stp s w (r++[q])=true
 | [],w,_,hl=>by
  have:w=l:=by simpa using hl
  subst this;simp[stp,hq,hk]
 |x::r,w,h,hl=>by
  unfold stp at h;rw[wB]at h;rw[List.cons_append,stp,h.1,Bool.true_and];exact p0 hq hk r x h.2 (by simpa using hl)
theorem B9{M:Mem}{n:Nat}{L:List Nat}{b:Nat}(h:M[n]?=some (L.map N))(hl:L.getLast?=some b):QX M (.cell n) (.v (.int (-1)))=some (N b,true):=by
 have:=Jb (M:=M) hl;have e:QX M (.cell n) (.v (.int (-1)))=QX M (NL L) (.v (.int (-1))):=by
  show (M[n]?).bind _=_;rw[h];rfl
 rw[e];exact this
end
end _M
namespace _M
open PySem PySem.Spec _P
open _L (V)
section
variable{k:Nat}
def Ris(lo hi:Nat):List Nat->Prop
 | []=>True
 |x::L=>lo<=x/\x<hi/\Ris (x+1) hi L
theorem f3L(hk:2<=k){M:Mem}{t:T}:∀(L:List Nat) (lo n:Nat) (o:Option T),Ris lo n L->∃σ',zg [] (.name 3) (pxs (glT gs) (Pk (glT gs) Tb.fns Cs k) [] qFt) (L.map N) [some t,some (N n),some (N lo),o] M=.ok (.nx σ',M)
 | [],lo,n,o,_=>⟨_,rfl⟩
 |x::L,lo,n,o,⟨h1,h2,h3⟩=>by
  obtain⟨σ',e⟩:=f3L hk (M:=M) (t:=t) L (x+1) n (some (N x)) h3;refine⟨σ',?_⟩;have a2:¬ (x<lo):=by omega
  rw[<-e,List.map_cons,qx,qFt];simp(disch:=omega) [f1,h2,a2]
theorem f3(hk:3<=k){L:List Nat}{n:Nat}(h:Ris 0 n L)(M:Mem):Pk (glT gs) Tb.fns Cs k 3 [NL L,N n] M=.ok (bT true,M):=by
 rw[qM t3 ⟨rfl,by decide⟩ (by omega)];obtain⟨σ',e⟩:=f3L (k:=k-1) (by omega) (M:=M) (t:=NL L) L 0 n none h;rw[show Cs.getD 3 []=[] from rfl];simp[b3,QS,e,qA]
theorem f11(hk:4<=k){L:List Nat}{s:Nat}(hs:s<=5)(h:Ris 0 (2 ^ s) L)(M:Mem):Pk (glT gs) Tb.fns Cs k 11 [N s,NL L] M=.ok ((.v .non,true),M):=by
 rw[qM t11 ⟨rfl,by decide⟩ (by omega)];simp(disch:=omega) [b11,f5,hs,f3,h,Qh]
noncomputable def hE(half:Nat)(L:List Nat):List Nat:=(List.range half).filter λt=>decide (t∈L)||decide (t+half∈L)
noncomputable def hB(half:Nat)(L:List Nat):List Nat:=(List.range half).filter λt=>decide (t∈L)&&decide (t+half∈L)
theorem f12(hk:1<=k){L:List Nat}{half:Nat}(hh:half<=1000)(M:Mem):Pk (glT gs) Tb.fns Cs k 12 [N half,NL L] M=.ok ((.tup [NL (hE half L),NL (hB half L)],false),M):=by
 rw[qM t12 ⟨rfl,by decide⟩ hk];have e1:∀{P:Nat->List T->Mem->PR (TB×Mem)}{σ:TS},pei (glT gs) P (.rng1 (.var 0)) (some (N half)::σ) M=.ok (((List.range half).map N,[]),M):=λ{P σ}=>by simp(disch:=omega) [zx]
 have hl:(List.range half).length<=lim:=by simp[lim];omega
 have c1:∀{P:Nat->List T->Mem->PR (TB×Mem)}{o2 o3:Option T},pe (glT gs) P (.comp (.rng1 (.var 0)) [none,some 0,some 1] (.name 0) (.cons (.or (.cmp .inn (.var 0) (.var 2)) (.cmp .inn (.bin .add (.var 0) (.var 1)) (.var 2))) .nil) (.var 0)) [some (N half),some (NL L),o2,o3] M=.ok ((NL (hE half L),true),M):=by
  intro P o2 o3;rw[pe_comp,e1,tD];dsimp only[jl];refine(Qz (λt=>decide (t∈L)||decide (t+half∈L)) id hl (λx _=>?_) (λx _ _=>by simp)).trans (by rw[List.map_id];rfl);by_cases h:x∈L<;>simp[qFK,h]
 have c2:∀{P:Nat->List T->Mem->PR (TB×Mem)}{o2 o3:Option T},pe (glT gs) P (.comp (.rng1 (.var 0)) [none,some 0,some 1] (.name 0) (.cons (.and (.cmp .inn (.var 0) (.var 2)) (.cmp .inn (.bin .add (.var 0) (.var 1)) (.var 2))) .nil) (.var 0)) [some (N half),some (NL L),o2,o3] M=.ok ((NL (hB half L),true),M):=by
  intro P o2 o3;rw[pe_comp,e1,tD];dsimp only[jl];refine(Qz (λt=>decide (t∈L)&&decide (t+half∈L)) id hl (λx _=>?_) (λx _ _=>by simp)).trans (by rw[List.map_id];rfl);by_cases h:x∈L<;>simp[qFK,h]
 rw[show Cs.getD 12 []=[] from rfl,b12];simp[-pe_comp,c1,c2,G5,qA,lim]
end
section
variable{k:Nat}
noncomputable def F6:Nat->List Nat->List Nat
 | 0,L=>L
 |s+1,L=>F6 s (hE (2 ^ s) L)++(F6 s (hB (2 ^ s) L)).map (2 ^ s + ·)
theorem ZS:∀(s:Nat) (L:List Nat),(s=0->L.length<=1)->(F6 s L).length<=2 ^ s
 | 0,L,h=>h rfl
 | 1,L,_=>by
  have h1:(hE 1 L).length<=1:=wL (wu _ _) (by simp);have h2:(hB 1 L).length<=1:=wL (wu _ _) (by simp);show (F6 0 (hE 1 L)++(F6 0 (hB 1 L)).map _).length<=_;rw[wX,wW];show (hE 1 L).length+(hB 1 L).length<=2;omega
 |s+2,L,_=>by
  have h1:=ZS (s+1) (hE (2 ^ (s+1)) L) (λz=>by omega);have h2:=ZS (s+1) (hB (2 ^ (s+1)) L) (λz=>by omega);show (F6 (s+1) _++(F6 (s+1) _).map _).length<=_;rw[wX,wW,vQ 2 (s+1)];omega
theorem f14:∀(s:Nat){k:Nat}(hk:s+2<=k) (hs:s<=5) (L:List Nat) (hL:s=0->L.length<=1) (M:Mem),Pk (glT gs) Tb.fns Cs k 14 [N (2 ^ s),NL L] M=.ok ((NL (F6 s L),true),M)
 | 0,k,hk,hs,L,hL,M=>by
  rw[qM t14 ⟨rfl,by decide⟩ (by omega),b14];simp[W6,qA,F6]
 |s+1,k,hk,hs,L,hL,M=>by
  have h5:=p5 (show s<=5 by omega);have hp:0<2 ^ s:=vT (by decide);have hE1:s=0->(hE (2 ^ s) L).length<=1:=λz=>by subst z;exact wL (wu _ _) (by simp)
  have hB1:s=0->(hB (2 ^ s) L).length<=1:=λz=>by subst z;exact wL (wu _ _) (by simp)
  have i1:=f14 s (k:=k-1) (by omega) (by omega) (hE (2 ^ s) L) hE1;have i2:=f14 s (k:=k-1) (by omega) (by omega) (hB (2 ^ s) L) hB1;have l1:=ZS s _ hE1;have l2:=ZS s _ hB1;rw[qM t14 ⟨rfl,by decide⟩ (by omega),b14];have n1:¬ (2 ^ (s+1)=1):=by rw[vQ];omega
  have d1:2 ^ (s+1) / 2=2 ^ s:=by rw[vQ];omega
  have c1:∀{o:Option T},qm [] (.name 0) (pec (glT gs) (Pk (glT gs) Tb.fns Cs (k-1)) .nil) (pe (glT gs) (Pk (glT gs) Tb.fns Cs (k-1)) (.bin .add (.var 1) (.var 0))) ((F6 s (hB (2 ^ s) L)).map N) [] true [o,some (N (2 ^ s))] M=.ok ((NL ((F6 s (hB (2 ^ s) L)).map (2 ^ s + ·)),true),M):=λ{o}=>
   jo (2 ^ s + ·) (by simp[lim];omega) (λx _=>by simp)
  rw[show Cs.getD 14 []=[] from rfl];simp(disch:=omega) [ZZ,n1,d1,f12,i1,i2,G5,jl,c1];rw[qCV (by simp[lim];omega)];simp[qA,F6]
theorem f13(hk:8<=k){L:List Nat}{s:Nat}(h1:1<=s)(hs:s<=5)(h:Ris 0 (2 ^ s) L)(M:Mem):Pk (glT gs) Tb.fns Cs k 13 [N s,NL L] M=.ok ((NL (F6 s L),true),M):=by
 rw[qM t13 ⟨rfl,by decide⟩ (by omega),b13];have:=f14 s (k:=k-1) (by omega) hs L (λz=>by omega) M;simp(disch:=omega) [f9,f11,f5,h1,hs,h,this,qA]
theorem JQ(q:Nat->Bool):∀(n lo:Nat),Ris lo (lo+n) ((List.range' lo n).filter q)
 | 0,lo=>trivial
 |n+1,lo=>by
  have ih:=JQ q n (lo+1);rw[List.range'_succ];have e:lo+1+n=lo+(n+1):=by omega
  rw[e]at ih;cases h:q lo with
  |true=>rw[vS h];exact⟨wF _,by omega,ih⟩
  |false=>
   rw[vh (by rw[h];decide)];have mono:∀(L:List Nat) (a b hi:Nat),a<=b->Ris b hi L->Ris a hi L:=λL a b hi hab h=>by
    cases L with
    |nil=>trivial
    |cons x L=>exact⟨wL hab h.1,h.2.1,h.2.2⟩
   exact mono _ _ _ _ (by omega) ih
noncomputable abbrev rf(m:Nat)(q:Nat->Bool):List Nat:=(List.range m).filter q
theorem k7(m:Nat)(q:Nat->Bool):Ris 0 m (rf m q):=by
 have:=JQ q m 0;rw[Nat.zero_add]at this;unfold rf;rw[vq];exact this
end
noncomputable def lp:Nat->(Nat->Bool)->Nat->Bool
 | 0,S,p=>S p
 |s+1,S,p=>if p<2 ^ s then lp s (λt=>S t||S (t+2 ^ s)) p else lp s (λt=>S t&&S (t+2 ^ s)) (p-2 ^ s)
theorem k8(n:Nat):List.range (n+n)=List.range n++(List.range n).map (n + ·):=by
 rw[List.range_add]
theorem T4(n:Nat)(q:Nat->Bool):(List.range (n+n)).filter q=rf n q++(rf n λt=>q (n+t)).map (n + ·):=by
 rw[k8,List.filter_append,List.filter_map];rfl
theorem ZR{n:Nat}{p q:Nat->Bool}(h:∀t,t<n->p t=q t):rf n p=rf n q:=List.filter_congr λt ht=>h t (wM.mp ht)
theorem mem_rf{n:Nat}{q:Nat->Bool}{t:Nat}:t∈rf n q↔t<n/\q t=true:=by
 unfold rf;rw[vV,wM]
theorem qFx(n:Nat)(S:Nat->Bool):hE n (rf (n+n) S)=rf n λt=>S t||S (t+n):=by
 unfold hE;refine ZR λt ht=>?_;have h1:decide (t∈rf (n+n) S)=S t:=by
  rw[wq,uC,mem_rf];exact⟨λz=>z.2,λz=>⟨by omega,z⟩⟩
 have h2:decide (t+n∈rf (n+n) S)=S (t+n):=by
  rw[wq,uC,mem_rf];exact⟨λz=>z.2,λz=>⟨by omega,z⟩⟩
 rw[h1,h2]
theorem qFZ(n:Nat)(S:Nat->Bool):hB n (rf (n+n) S)=rf n λt=>S t&&S (t+n):=by
 unfold hB;refine ZR λt ht=>?_;have h1:decide (t∈rf (n+n) S)=S t:=by
  rw[wq,uC,mem_rf];exact⟨λz=>z.2,λz=>⟨by omega,z⟩⟩
 have h2:decide (t+n∈rf (n+n) S)=S (t+n):=by
  rw[wq,uC,mem_rf];exact⟨λz=>z.2,λz=>⟨by omega,z⟩⟩
 rw[h1,h2]
theorem p2(s:Nat):2 ^ (s+1)=2 ^ s+2 ^ s:=by rw[vQ];omega
theorem K6:∀(s:Nat) (S:Nat->Bool),F6 s (rf (2 ^ s) S)=rf (2 ^ s) (lp s S)
 | 0,S=>rfl
 |s+1,S=>by
  show F6 s (hE (2 ^ s) (rf (2 ^ (s+1)) S))++(F6 s (hB (2 ^ s) (rf (2 ^ (s+1)) S))).map (2 ^ s + ·)=_;rw[p2,qFx,qFZ,K6 s,K6 s];show _=(List.range (2 ^ s+2 ^ s)).filter _;rw[T4];congr 1
  ·refine ZR λt ht=>?_;show _=if t<2 ^ s then _ else _
   rw[if_pos ht]
  ·congr 1;refine ZR λt ht=>?_;show _=if 2 ^ s+t<2 ^ s then _ else _
   rw[if_neg (by omega),vC]
section
variable{k:Nat}
theorem qG9{k:Nat}(hk:2<=k){M:Mem}{n m:Nat}(g:Good M n)(hm:m<=1000):∃q fr M',Pk (glT gs) Tb.fns Cs k 51 [.cell n,N m] M=.ok ((NL (rf m q),fr),M')/\Kept n M M':=by
 obtain⟨w,M1,e1,hw,k1⟩:=U0 (k:=k-1) (by omega) g (m:=6) (by decide);have hs:w=0\/w=1\/(2<=w/\w<=5):=by omega
 rcases hs with rfl|rfl|⟨h2,h5⟩
 ·refine⟨λ_=>false,true,M1,?_,k1⟩;rw[show rf m (λ_=>false)=[] by simp[rf]];have z:pxs (glT gs) (Pk (glT gs) Tb.fns Cs (k-1)) [] b51 [some (.cell n),some (N m),none,none] M=.ok (.rt (.lst [],true),M1):=by
   rw[b51]
   repeat' first|with_reducible (first|exact e1|exact zE|exact zU|exact zh|exact zj|exact jc|exact jZ|exact zR|exact zG|exact zB|exact zO|exact isT|exact isF|exact ll0|exact ll1|exact ll2|exact ll3|exact ll4|exact qU|exact qZ|exact qf|exact qj|exact qL .. | exact qy .. | exact qr .. | exact qu .. | exact zD .. | exact qP .. | exact qp .. | assumption|apply qS|apply qV|apply zC|apply zA|apply zI|apply zL|apply zQ|apply zS|apply qX|apply zP|apply zF|apply jX|apply g_ite|apply zK|apply qQ|apply ja|apply qN|apply zH|apply cT|apply cF|apply t_1|apply t_2|apply t_0|apply t_3|apply f_0|apply f_1|apply jY|apply qR|apply zN|apply zM|apply qT|apply qz|apply qo|apply t_1|apply jG|apply jW|apply jb)|((with_reducible apply zJ);exact cN rfl)|((with_reducible apply qW);exact rfl)|((with_reducible apply qF);exact rfl)|assumption|exact nF rfl|exact nT rfl|rfl
  exact zq t51 ⟨rfl,by decide⟩ (by omega) rfl rfl z (qA k1.len)
 ·refine⟨λ_=>true,true,M1,?_,k1⟩;have lr:=ZV (n:=m) (by omega);rw[rf,QJ];have z:pxs (glT gs) (Pk (glT gs) Tb.fns Cs (k-1)) [] b51 [some (.cell n),some (N m),none,none] M=.ok (.rt (NL (List.range m),true),M1):=by
   rw[b51]
   repeat' first|with_reducible (first|exact e1|exact lr|exact zE|exact zU|exact zh|exact zj|exact jc|exact jZ|exact zR|exact zG|exact zB|exact zO|exact isT|exact isF|exact ll0|exact ll1|exact ll2|exact ll3|exact ll4|exact qU|exact qZ|exact qf|exact qj|exact qL .. | exact qy .. | exact qr .. | exact qu .. | exact zD .. | exact qP .. | exact qp .. | assumption|apply qS|apply qV|apply zC|apply zA|apply zI|apply zL|apply zQ|apply zS|apply qX|apply zP|apply zF|apply jX|apply g_ite|apply zK|apply qQ|apply ja|apply qN|apply zH|apply cT|apply cF|apply t_1|apply t_2|apply t_0|apply t_3|apply f_0|apply f_1|apply jY|apply qR|apply zN|apply zM|apply qT|apply qz|apply qo|apply qQ|apply jG|apply jW|apply jb)|((with_reducible apply zJ);exact cN rfl)|((with_reducible apply qW);exact rfl)|((with_reducible apply qF);exact rfl)|assumption|exact nF rfl|exact nT rfl|rfl
  exact zq t51 ⟨rfl,by decide⟩ (by omega) rfl rfl z (qA k1.len)
 ·have n0:¬ (w=0):=by omega
  have n1:¬ (w=1):=by omega
  obtain⟨bd,hb,hb0⟩:∃bd:Nat,[N 2,N 3,N 4,N 8][w-2]?=some (N bd)/\(0<bd/\bd<=1000000):=by
   have:w=2\/w=3\/w=4\/w=5:=by omega
   rcases this with rfl|rfl|rfl|rfl
   ·exact⟨2,rfl,by decide⟩
   ·exact⟨3,rfl,by decide⟩
   ·exact⟨4,rfl,by decide⟩
   ·exact⟨8,rfl,by decide⟩
  have sb:∀{M:Mem},zW M .sub (N w) (N 2)=some (N (w-2),true):=λ{M}=>jJ h2;obtain⟨q,M2,e2,i2,_⟩:=G6 (I:=Kept n M1) (R:=λ_ _=>True) (σ:=[some (N bd),some (.cell n)])
   (c:=pec (glT gs) (Pk (glT gs) Tb.fns Cs (k-1)) (.cons (.cmp .eq (.call 50 (.cons (.var 2) (.cons (.var 1) .nil))) (nE 0)) .nil)) (e:=pe (glT gs) (Pk (glT gs) Tb.fns Cs (k-1)) (.var 0))
   (List.range m) [] true none M1 List.nodup_range (by simp[lim];omega) ⟨k1.good,rfl,λ_ _=>rfl⟩ (λx _ M' hI=>by
    obtain⟨d,M3,e3,h3,k3⟩:=U0 (k:=k-1) (by omega) hI.good hb0;exact⟨decide (d=0),M3,by simp[e3],hI.trans k3,trivial⟩) (λx _ M' _=>by simp)
  refine⟨q,true,M2,?_,k1.trans i2⟩;simp at e2;have q0:qk M1 .eq (N w) (N 0)=some false:=by rw[qP,uA n0]
  have q1:qk M1 .eq (N w) (N 1)=some false:=by rw[qP,uA n1]
  have sb:=sb (M:=M1);have rg:=zx (n:=m) (by omega);have ix:=jG (M:=M1) hb;have z:pxs (glT gs) (Pk (glT gs) Tb.fns Cs (k-1)) [] b51 [some (.cell n),some (N m),none,none] M=.ok (.rt (NL (rf m q),true),M2):=by
   rw[b51]
   repeat' first|with_reducible (first|exact e1|exact q0|exact q1|exact sb|exact ix|exact rg|exact e2|exact zE|exact zU|exact zh|exact zj|exact jc|exact jZ|exact zR|exact zG|exact zB|exact zO|exact isT|exact isF|exact ll0|exact ll1|exact ll2|exact ll3|exact ll4|exact qU|exact qZ|exact qf|exact qj|exact qL .. | exact qy .. | exact qr .. | exact qu .. | exact zD .. | exact qP .. | exact qp .. | assumption|apply qS|apply qV|apply zC|apply zA|apply zI|apply zL|apply zQ|apply zS|apply qX|apply zP|apply zF|apply jX|apply g_ite|apply zK|apply qQ|apply ja|apply qN|apply zH|apply cT|apply cF|apply t_1|apply t_2|apply t_0|apply t_3|apply f_0|apply f_1|apply jY|apply qR|apply zN|apply zM|apply qT|apply qz|apply qo|apply jG|apply jW|apply jb)|((with_reducible apply zJ);exact cN rfl)|((with_reducible apply qW);exact rfl)|((with_reducible apply qF);exact rfl)|assumption|exact nF rfl|exact nT rfl|rfl
  exact zq t51 ⟨rfl,by decide⟩ (by omega) rfl rfl z (qA (k1.trans i2).len)
theorem qCk{l:List Int}(h:∀x∈l,0<=x):(l.map λi=>T.v (.int i))=(l.map Int.toNat).map N:=by
 rw[List.map_map];refine List.map_congr_left λx hx=>?_;show T.v (.int x)=T.v (.int ((x.toNat:Nat):Int));rw[Int.toNat_of_nonneg (h x hx)]
theorem M9{M:Mem}{L:List Nat}(h:L.length<64):∃L',jS M .sorted [NL L]=some (NL L',true)/\L'.Perm L/\L'.Pairwise (·<=·):=by
 have p:=QH (L.map λ(n:Nat)=>(n:Int));have o:=Jx (L.map λ(n:Nat)=>(n:Int));have nn:∀x∈Zt (L.map λ(n:Nat)=>(n:Int)),0<=x:=λx hx=>by
  obtain⟨n,_,rfl⟩:=ve.mp (p.mem_iff.mp hx);omega
 refine⟨(Zt (L.map λ(n:Nat)=>(n:Int))).map Int.toNat,?_,?_,?_⟩
 ·show ((some (L.map N)).bind λxs=>(zY xs).bind λis=>if is.length<64 then some (T.lst ((Zt is).map λi=>.v (.int i)),true) else none)=_;rw[Option.bind_some,qBC,Option.bind_some,if_pos (by rw[wW];exact h),qCk nn];rfl
 ·have:=p.map Int.toNat;rw[List.map_map,show (Int.toNat∘λ(n:Nat)=>(n:Int))=id from funext λn=>vX n,List.map_id]at this;exact this
 ·rw[vn];exact o.imp_of_mem λ{a b} ha hb q=>by have:=nn a ha;have:=nn b hb;omega
end
theorem ZY:∀{a b:List Nat},a.Pairwise (·<=·)->b.Pairwise (·<=·)->a.Perm b->a=b
 | [],b,_,_,p=>(List.Perm.eq_nil p.symm).symm
 |x::a,[],_,_,p=>absurd p.length_eq (by simp)
 |x::a,y::b,ha,hb,p=>by
  obtain⟨a1,a2⟩:=wv.mp ha;obtain⟨b1,b2⟩:=wv.mp hb;have e:x=y:=by
   have m1:x∈y::b:=p.mem_iff.mp (wK ..);have m2:y∈x::a:=p.mem_iff.mpr (wK ..);rcases wP.mp m1 with h|h
   ·exact h
   ·rcases wP.mp m2 with h' | h'
    ·exact h'.symm
    ·have:=a1 y h';have:=b1 x h;omega
  subst e;rw[ZY a2 b2 (List.Perm.cons_inv p)]
noncomputable def pg(P:List Nat)(i:Nat):Nat:=P.getD i 0
theorem Q7(n:Nat):(List.range n).Pairwise (·<=·):=(List.pairwise_lt_range (n:=n)).imp λh=>vN h
theorem qFe(n:Nat)(q:Nat->Bool):(rf n q).Pairwise (·<=·):=(Q7 n).filter _
theorem Q9(n:Nat)(q:Nat->Bool):(rf n q).Nodup:=List.nodup_range.filter _
theorem qEo(n:Nat)(q:Nat->Bool):(rf n q).length<=n:=wL (wu _ _) (by simp)
theorem qCD{a b:List Nat}(ha:a.Nodup)(hb:b.Nodup)(h:∀x,x∈a↔x∈b):a.Perm b:=(List.perm_ext_iff_of_nodup ha hb).mpr h
theorem qF6{n:Nat}{q:Nat->Bool}{L:List Nat}(hL:L.Nodup)(h:∀x,x∈L↔x<n/\q x=true):(rf n q).Perm L:=qCD (Q9 n q) hL λx=>by rw[mem_rf,h]
section
variable{k:Nat}
theorem R9(hk:4<=k){s:Nat}(h5:s<=5){P:List Nat}(hP:P.Perm (List.range (2 ^ s)))(M:Mem):Pk (glT gs) Tb.fns Cs k 22 [N s,NL P] M=.ok ((.v .non,true),M):=by
 have p32:=p5 h5;have hl:P.length=2 ^ s:=by rw[hP.length_eq,vA]
 rw[qM t22 ⟨rfl,by decide⟩ (by omega),b22,show Cs.getD 22 []=[] from rfl];have e1:=λM=>f5 (k:=k-1) (by omega) h5 M;have e2:=λM=>qCJ (k:=k-1) (by omega) (L:=P) (n:=2 ^ s) (λx hx=>wM.mp (hP.mem_iff.mp hx)) (by rw[hl];simp[lim];omega) M;obtain⟨K,eK,pK,oK⟩:=M9 (M:=M) (L:=P) (by omega);have:K=List.range (2 ^ s):=ZY oK (Q7 _) (pK.trans hP);subst this;have lr:=ZV (n:=2 ^ s) (by omega);have ne:∀{M:Mem},qk M .ne (NL (List.range (2 ^ s))) (.lst (List.map N (List.range (2 ^ s))))=some false:=λ{M}=>by
  show qk M .ne (NL _) (NL _)=_;rw[qHE];simp
 simp[e1,e2,eK,lr,ne,Qh]
theorem turned(hk:5<=k){s:Nat}(h1:1<=s)(h5:s<=5){P:List Nat}(hP:P.Perm (List.range (2 ^ s))){L:List Nat}(hL:Ris 0 (2 ^ s) L)(hm:∀x∈L,x<2 ^ s)(hl:L.length<=2 ^ s){K:List Nat}(pK:K.Perm (L.map (pg P)))(oK:K.Pairwise (·<=·))(M:Mem):Pk (glT gs) Tb.fns Cs k 21 [N s,NL P,NL L] M=.ok ((NL K,true),M):=by
 have p32:=p5 h5;have lP:P.length=2 ^ s:=by rw[hP.length_eq,vA]
 rw[qM t21 ⟨rfl,by decide⟩ (by omega),b21,show Cs.getD 21 []=[] from rfl];have e1:=λM=>f9 (k:=k-1) (by omega) h1 h5 M;have e2:=λM=>R9 (k:=k-1) (by omega) h5 hP M;have e3:=λM=>f11 (k:=k-1) (by omega) h5 hL M;have c:qm [] (.name 0) (pec (glT gs) (Pk (glT gs) Tb.fns Cs (k-1)) .nil) (pe (glT gs) (Pk (glT gs) Tb.fns Cs (k-1)) (.idx (.var 1) (.var 0))) (L.map N) [] true [none,some (NL P)] M=.ok ((NL (L.map (pg P)),true),M):=
  qBA N (λi=>N (pg P i)) L (by simp[lim];omega) (λx hx=>by
   have:=(IsL.nl M P).idx (i:=x) (x:=pg P x) (getD_some (by rw[lP];exact hm x hx));simp[this]) |>.trans (by unfold NL;rw[List.map_map];rfl)
 obtain⟨K',eK,pK',oK'⟩:=M9 (M:=M) (L:=L.map (pg P)) (by rw[wW];omega);have:K'=K:=ZY oK' oK (pK'.trans pK.symm);subst this;simp only[zZ,qBs,K8,u5,Z5,pe_var,pe_call,Jd,W5,pe_comp,Jl,ZW,Zu,JC];simp[e1,e2,e3,c,eK,qA,-Zn]
end
end _M
namespace _M
open PySem PySem.Spec _P
open _L (V)
section
variable{k:Nat}
noncomputable def inn(x:Nat):Nat->List Nat->List Nat->List Nat
 |_,[],W=>W
 |p,y::B,W=>inn x (p+1) B (W.set p (W.getD p 0+x*y))
noncomputable def oub(B:List Nat):Nat->List Nat->List Nat->List Nat
 |_,[],W=>W
 |i,x::A,W=>oub B (i+1) A (inn x i B W)
noncomputable def bw(A B:List Nat):List Nat:=oub B 0 A (List.replicate (A.length+B.length-1) 0)
theorem Z4(x:Nat):∀(p:Nat) (B W:List Nat),(inn x p B W).length=W.length
 |_,[],W=>rfl
 |p,y::B,W=>by rw[inn,Z4];simp
theorem E3(i x:Nat)(L:List Nat):QY i ((x::L).map N)=T.tup [N i,N x]::QY (i+1) (L.map N):=rfl
theorem qBp(W:List Nat)(p v:Nat):(W.map N).set p (N v)=(W.set p v).map N:=by rw[List.map_set]
theorem qCx{W:List Nat}{p:Nat}(h:p<W.length):(W.map N)[p]?=some (N (W.getD p 0)):=by
 rw[wg,wR,wE h];rfl
theorem inL{C:List Nat}{M:Mem}{d:Qy}(hd:∀C,ql d (M++C)=true){a b:T}{i x:Nat}(hx:x<18446744073709551616):∀(B:List Nat) (j:Nat) (W:List Nat) (o5 o6:Option T),i+j+B.length<=W.length->∃p5 p6,
  zg d (.tup [5,6]) (pxs (glT gs) (Pk (glT gs) Tb.fns Cs k) C qAU) (QY j (B.map N)) [some a,some b,some (.cell M.length),some (N i),some (N x),o5,o6] (M++[W.map N])=.ok (.nx [some a,some b,some (.cell M.length),some (N i),some (N x),p5,p6],M++[(inn x (i+j) B W).map N])
 | [],j,W,o5,o6,_=>⟨o5,o6,rfl⟩
 |y::B,j,W,o5,o6,h=>by
  rw[List.length_cons]at h;obtain⟨p5,p6,e⟩:=inL (C:=C) hd (a:=a) (b:=b) (i:=i) hx B (j+1) (W.set (i+j) (W.getD (i+j) 0+x*y)) (some (N j)) (some (N y)) (by rw[List.length_set];omega);refine⟨p5,p6,?_⟩;rw[inn,<-show i+(j+1)=i+j+1 by omega,<-e,E3,zg];have lt:i+j<W.length:=by omega
  have m1:∀{M:Mem},zW M .mul (N x) (N y)=some (N (x*y),true):=λ{M}=>Qb (.inl hx);have s0:∀{M:Mem}(n:Nat),zW M .sub (N n) (N 0)=some (N n,true):=λ{M} n=>jJ (vw _);have g:=qCx lt;have body:pxs (glT gs) (Pk (glT gs) Tb.fns Cs k) C qAU [some a,some b,some (.cell M.length),some (N i),some (N x),some (N j),some (N y)] (M++[W.map N])=.ok (.nx [some a,some b,some (.cell M.length),some (N i),some (N x),some (N j),some (N y)],M++[(W.set (i+j) (W.getD (i+j) 0+x*y)).map N]):=by
   rw[qAU,<-qBp];simp[m1,s0,g,lt,-List.map_set]
  rw[Ju];show (pxs _ _ _ _ [some a,some b,some (.cell M.length),some (N i),some (N x),some (N j),some (N y)] _).bind _=_;rw[body,tD];show (if ql d _=true then _ else _)=_;rw[if_pos (hd _)]
theorem ouL{C:List Nat}{M:Mem}{d d':Qy}(hd:∀C,ql d (M++C)=true)(hd':∀C,ql d' (M++C)=true){a b:T}{B:List Nat}(hb:∀C,Jp (M++C) b=some (B.map N,d')):∀(A:List Nat) (i:Nat) (W:List Nat) (o3 o4 o5 o6:Option T),(∀x∈A,x<18446744073709551616)->i+A.length+B.length<=W.length+1->∃p3 p4 p5 p6,
  zg d (.tup [3,4]) (pxs (glT gs) (Pk (glT gs) Tb.fns Cs k) C qAD) (QY i (A.map N)) [some a,some b,some (.cell M.length),o3,o4,o5,o6] (M++[W.map N])=.ok (.nx [some a,some b,some (.cell M.length),p3,p4,p5,p6],M++[(oub B i A W).map N])
 | [],i,W,o3,o4,o5,o6,_,_=>⟨o3,o4,o5,o6,rfl⟩
 |x::A,i,W,o3,o4,o5,o6,hA,h=>by
  rw[List.length_cons]at h;obtain⟨q5,q6,e1⟩:=inL (k:=k) (C:=C) hd' (a:=a) (b:=b) (i:=i) (hA x (by simp)) B 0 W o5 o6 (by omega);obtain⟨p3,p4,p5,p6,e⟩:=ouL (C:=C) hd hd' (a:=a) hb A (i+1) (inn x i B W) (some (N i)) (some (N x)) q5 q6 (λy hy=>hA y (by simp[hy])) (by rw[Z4];omega);refine⟨p3,p4,p5,p6,?_⟩;rw[oub,<-e,E3,zg,Ju];rw[Nat.add_zero]at e1;have body:pxs (glT gs) (Pk (glT gs) Tb.fns Cs k) C qAD [some a,some b,some (.cell M.length),some (N i),some (N x),o5,o6] (M++[W.map N])=.ok (.nx [some a,some b,some (.cell M.length),some (N i),some (N x),q5,q6],M++[(inn x i B W).map N]):=by
   rw[qAD];simp[hb,e1]
  show (pxs _ _ _ _ [some a,some b,some (.cell M.length),some (N i),some (N x),o5,o6] _).bind _=_;rw[body,tD];show (if ql d _=true then _ else _)=_;rw[if_pos (hd _)]
theorem A6{M:Mem}{t:T}{ts:List T}(h:IsS M t ts):∃d,(∀C,Jp (M++C) t=some (ts,d))/\(∀C,A8 (M++C) t=some (ts,d))/\∀C,ql d (M++C)=true:=by
 rcases h with rfl|⟨m,rfl,e⟩
 ·exact⟨[],λ_=>rfl,λ_=>rfl,λ_=>rfl⟩
 ·have q:∀C:Mem,(M++C)[m]?=some ts:=λC=>by rw[wD (wC.mp e).1];exact e
  exact⟨_,λC=>JF (q C),λC=>JF (q C),λC=>d6 (q C)⟩
theorem f33(hk:1<=k){A B:List Nat}{M:Mem}{a b:T}(ha:IsS M a (A.map N))(hb:IsS M b (B.map N))(hW:WfM M)(hA:∀x∈A,x<18446744073709551616)(hl:1<=A.length+B.length/\A.length+B.length<=1000):Pk (glT gs) Tb.fns Cs k 33 [a,b] M=.ok ((NL (bw A B),true),M):=by
 rw[qM t33 ⟨rfl,by decide⟩ hk,b33,show Cs.getD 33 []=[2] from rfl];obtain⟨d,s1,s2,s3⟩:=A6 ha;obtain⟨d',r1,r2,r3⟩:=A6 hb;obtain⟨p3,p4,p5,p6,e⟩:=ouL (k:=k-1) (C:=[2]) (M:=M) s3 r3 (a:=a) r1 A 0 (List.replicate (A.length+B.length-1) 0) none none none none hA (by rw[List.length_replicate];omega);rw[List.map_replicate]at e;have ml:∀{M:Mem}(n:Nat),n<=1000->zW M .mul (.lst [N 0]) (N n)=some (NL (List.replicate n 0),true):=λ{M} n hn=>by
  show (if 0<=(n:Int)/\1*(n:Int).toNat<=lim/\(n:Int)<1000000 then _ else _)=_;rw[if_pos ⟨by omega,by unfold lim;omega,by omega⟩];have:(List.replicate (n:Int).toNat [N 0]).flatten=(List.replicate n 0).map N:=by simp
  rw[this];exact congrArg some (qFG _)
 have sb:∀{M:Mem},zW M .sub (N (A.length+B.length)) (N 1)=some (N (A.length+B.length-1),true):=λ{M}=>jJ hl.1;have ml':=λ(M:Mem)=>ml (M:=M) (A.length+B.length-1) (by omega);have la:=ha.len;have lb:=hb.len;rw[wW]at la lb;simp[lim,la,lb,sb,ml',s1,e];exact ZC (M:=M) (A:=M) (C:=[(bw A B).map N]) rfl hW wd (wF _) (JB _) _
theorem f34(hk:1<=k){A B:List Nat}{M:Mem}{a b:T}(ha:IsS M a (A.map N))(hb:IsS M b (B.map N))(hl:A.length<=1000):Pk (glT gs) Tb.fns Cs k 34 [a,b] M=.ok ((NL (List.zipWith (· + ·) A B),true),M):=by
 rw[qM t34 ⟨rfl,by decide⟩ hk,b34,show Cs.getD 34 []=[] from rfl];obtain⟨d,s1,s2,s3⟩:=A6 ha;obtain⟨d',r1,r2,r3⟩:=A6 hb;have hd:ql (d++d') M=true:=by
  have z1:=s3 [];have z2:=r3 [];rw[wV]at z1 z2;unfold ql at *;rw[List.all_append,z1,z2];rfl
 have s1:=s1 [];have r1:=r1 [];rw[wV]at s1 r1;have z:=P9 (gl:=glT gs) (P:=Pk (glT gs) Tb.fns Cs (k-1)) (d:=d++d') (e:=pe (glT gs) (Pk (glT gs) Tb.fns Cs (k-1)) (.bin .add (.var 0) (.var 1))) (M:=M) (· + ·) hd A B [] true none none (by unfold lim;simp;omega) λx y _ _=>by simp
 rw[List.map_nil,List.nil_append,List.zipWith_map]at z;simp[s1,r1,z,qA]
theorem qDk{M:Mem}{a:Nat}(ha:a<=1000):T8 (N a) (.v (.int (-1)))=some ((List.range (a+1)).reverse.map N):=by
 show (if (-1000000<=(a:Int)/\(a:Int)<=1000000)/\-1000000<=(-1:Int)/\(-1:Int)<=1000000 then some (jp (a:Int) ((a:Int)-(-1)).toNat) else none)=_;rw[if_pos ⟨⟨by omega,by omega⟩,by decide,by decide⟩];congr 1;unfold jp;rw[show ((a:Int)-(-1)).toNat=a+1 by omega];apply List.ext_getElem
 ·simp
 ·intro i h1 h2;simp at h1;simp;unfold N;congr 2;omega
noncomputable def stq(p n:Nat)(q:List Nat×List Nat):List Nat×List Nat:=
 if p&&& 2 ^ n=0 then (List.zipWith (· + ·) (bw q.1 q.1) ((bw q.1 q.2).map (2 * ·)),bw q.2 q.2) else (bw q.1 q.1,List.zipWith (· + ·) (bw q.2 q.2) ((bw q.1 q.2).map (2 * ·)))
noncomputable def rn(p:Nat):Nat->List Nat×List Nat->List Nat×List Nat
 | 0,q=>q
 |n+1,q=>rn p n (stq p n q)
noncomputable def okL(L:List Nat):Bool:=decide (1<=L.length)&&decide (L.length<=400)&&L.all λx=>decide (x<1000000000000)
noncomputable def okR(p:Nat):Nat->List Nat×List Nat->Bool
 | 0,_=>true
 |n+1,q=>okL q.1&&okL q.2&&okL (bw q.1 q.2)&&okL (bw q.1 q.1)&&okL (bw q.2 q.2)&&okR p n (stq p n q)
theorem Zd{L:List Nat}(h:okL L=true):(1<=L.length/\L.length<=400)/\∀x∈L,x<18446744073709551616:=by
 unfold okL at h;simp only[wB,uC,wS]at h;exact⟨h.1,λx hx=>wx (h.2 x hx) (by decide)⟩
theorem jw{M C:Mem}{c:Nat}{ts:List T}(h:M[c]?=some ts):(M++C)[c]?=some ts:=by
 rw[wD (wC.mp h).1];exact h
theorem f6B(hk:2<=k){s p n c:Nat}{A:Mem}{q:List Nat×List Nat}{o5 o6 o7:Option T}(hn:n<=4)(hW:WfM A)(hc:A[c]?=some (q.1.map N))(h1:okL q.1=true)(h2:okL q.2=true)(h3:okL (bw q.1 q.2)=true)(h4:okL (bw q.1 q.1)=true)(h5:okL (bw q.2 q.2)=true):
  ∃C c' p5 p6 p7,pxs (glT gs) (Pk (glT gs) Tb.fns Cs k) [2,6] qAO [some (N s),some (N p),some (.cell c),some (NL q.2),some (N n),o5,o6,o7] A=.ok (.nx [some (N s),some (N p),some (.cell c'),some (NL (stq p n q).2),some (N n),p5,p6,p7],A++C)/\(A++C)[c']?=some ((stq p n q).1.map N)/\A.length<=c'/\WfM (A++C):=by
 have g1:=Zd h1;have g2:=Zd h2;have g3:=Zd h3;have g4:=Zd h4;have g5:=Zd h5;have i1:IsS A (.cell c) (q.1.map N):=.inr ⟨c,rfl,hc⟩;have i2:∀M,IsS M (NL q.2) (q.2.map N):=λM=>.inl rfl;have e12:=f33 (k:=k) (by omega) i1 (i2 _) hW g1.2 (by omega);have e11:=f33 (k:=k) (by omega) i1 i1 hW g1.2 (by omega);have W1:WfM (A++[(bw q.1 q.1).map N]):=hW.one (JB _);have e22:=f33 (k:=k) (by omega) (i2 (A++[(bw q.1 q.1).map N])) (i2 _) W1 g2.2 (by omega);have e2:=f5 (k:=k) (by omega) (s:=n) (by omega) (A++[(bw q.1 q.1).map N]);have z:=jo (gl:=glT gs) (P:=Pk (glT gs) Tb.fns Cs k) (e:=pe (glT gs) (Pk (glT gs) Tb.fns Cs k) (.bin .mul (nE 2) (.var 0))) (M:=A) (σ:=[]) (o:=none) (its:=bw q.1 q.2) (2 * ·) (by unfold lim;omega) λx _=>by
  have m1:∀{M:Mem},zW M .mul (N 2) (N x)=some (N (2*x),true):=λ{M}=>Qb (.inl (by decide));simp[m1]
 have e81:=f34 (k:=k) (by omega) (A:=bw q.1 q.1) (B:=(bw q.1 q.2).map (2 * ·)) (M:=A++[(bw q.1 q.1).map N]) (a:=.cell A.length) (b:=NL ((bw q.1 q.2).map (2 * ·))) (.inr ⟨_,rfl,wd⟩) (.inl rfl) (by omega);have e82:=f34 (k:=k) (by omega) (A:=bw q.2 q.2) (B:=(bw q.1 q.2).map (2 * ·)) (M:=A++[(bw q.1 q.1).map N]) (a:=NL (bw q.2 q.2)) (b:=NL ((bw q.1 q.2).map (2 * ·))) (.inl rfl) (.inl rfl) (by omega);have bd:=Qv (M:=A++[(bw q.1 q.1).map N]) p (2 ^ n);have sr:=λ(L:List Nat)=>(show A8 A (NL L)=some (L.map N,[]) from rfl)
 unfold stq;generalize hh:(bw q.1 q.2).map (2 * ·)=H at *;by_cases hb:p&&& 2 ^ n=0
 ·rw[if_pos hb];refine⟨[(bw q.1 q.1).map N,(List.zipWith (· + ·) (bw q.1 q.1) H).map N],A.length+1,some (NL H),some (.cell A.length),some (NL (bw q.2 q.2)),?_,?_,by omega,?_⟩
  ·have q0:qk (A++[(bw q.1 q.1).map N]) .eq (N (p&&& 2 ^ n)) (N 0)=some true:=by rw[qP,uB hb]
   have th:=λ(m:Nat) (L:List Nat)=>d8 m L;have la:(A++[(bw q.1 q.1).map N]).length=A.length+1:=by simp
   rw[show A++[(bw q.1 q.1).map N,(List.zipWith (· + ·) (bw q.1 q.1) H).map N]=A++[(bw q.1 q.1).map N]++[(List.zipWith (· + ·) (bw q.1 q.1) H).map N] by simp,<-la]
   change pxs _ _ _ (.cons _ _) [some _,some _,some _,some _,some _,_,_,_] _=_
   repeat' first|with_reducible (first|exact e12|exact e11|exact e22|exact e2|exact z|exact e81|exact bd|exact q0|exact sr _|exact th _ _|exact zE|exact zU|exact zh|exact zj|exact jH|exact jU|exact JY|exact Jo|exact jc|exact jZ|exact zR|exact zG|exact zB|exact zO|exact isT|exact isF|exact ll0|exact ll1|exact ll2|exact ll3|exact ll4|exact qU|exact qZ|exact qf|exact qj|exact zb|exact zn|exact Qc|exact Qk|exact qL .. | exact qy .. | exact qr .. | exact qu .. | exact zD .. | exact qP .. | exact qp .. | assumption|apply qS|apply qV|apply zC|apply zA|apply zI|apply zL|apply zQ|apply zS|apply qX|apply zP|apply zF|apply jX|apply g_ite|apply zK|apply qQ|apply ja|apply qN|apply zH|apply cT|apply cF|apply t_1|apply t_2|apply t_0|apply t_3|apply f_0|apply f_1|apply ZJ|apply jY|apply qR|apply zN|apply zM|apply qT|apply qz|apply qN|apply jG|apply jW|apply jb)|((with_reducible apply zJ);exact cN rfl)|((with_reducible apply qW);exact rfl)|((with_reducible apply qF);exact rfl)|assumption|rfl
  ·rw[wO (by omega)];simp
  ·have:=W1.one (JB (List.zipWith (· + ·) (bw q.1 q.1) H));rw[wj]at this;exact this
 ·rw[if_neg hb];refine⟨[(bw q.1 q.1).map N],A.length,some (NL H),some (.cell A.length),some (NL (bw q.2 q.2)),?_,wd,wF _,W1⟩;rw[qAO];simp[e12,e11,e22,e2,z,e82,Qv,hb]
theorem qGX(hk:2<=k){s p:Nat}{M:Mem}:∀(n:Nat) (q:List Nat×List Nat) (C:Mem) (c:Nat) (o4 o5 o6 o7:Option T),n<=5->okR p n q=true->WfM (M++C)->(M++C)[c]?=some (q.1.map N)->M.length<=c->∃C' c' p4 p5 p6 p7 t8,
  zg [] (.name 4) (pxs (glT gs) (Pk (glT gs) Tb.fns Cs k) [2,6] qAO) ((List.range n).reverse.map N) [some (N s),some (N p),some (.cell c),some (NL q.2),o4,o5,o6,o7] (M++C)=.ok (.nx [some (N s),some (N p),some (.cell c'),some t8,p4,p5,p6,p7],M++C')/\(M++C')[c']?=some ((rn p n q).1.map N)/\M.length<=c'
 | 0,q,C,c,o4,o5,o6,o7,_,_,_,hc,hm=>⟨C,c,o4,o5,o6,o7,_,rfl,hc,hm⟩
 |n+1,q,C,c,o4,o5,o6,o7,hn,h,hW,hc,hm=>by
  unfold okR at h;simp only[wB]at h;obtain⟨⟨⟨⟨⟨h1,h2⟩,h3⟩,h4⟩,h5⟩,h6⟩:=h;obtain⟨C1,c1,r5,r6,r7,eb,hc1,hm1,W1⟩:=f6B hk (s:=s) (p:=p) (n:=n) (o5:=o5) (o6:=o6) (o7:=o7) (by omega) hW hc h1 h2 h3 h4 h5;rw[wj]at eb hc1 W1;obtain⟨C',c',p4,p5,p6,p7,t8,e,e2,e3⟩:=qGX hk (M:=M) (s:=s) n (stq p n q) (C++C1) c1 (some (N n)) r5 r6 r7 (by omega) h6 W1 hc1 (by rw[wX]at hm1;omega);refine⟨C',c',p4,p5,p6,p7,t8,?_,e2,e3⟩;rw[List.range_succ,List.reverse_append,List.reverse_singleton,List.singleton_append,List.map_cons,qx,show ∀a b c d e f g h z:Option T,[a,b,c,d,e,f,g,h].set 4 z=[a,b,c,d,z,f,g,h] from λ_ _ _ _ _ _ _ _ _=>rfl,eb,tD];exact e
noncomputable def cnt(s p:Nat):List Nat:=(rn p s ([0,1],[1,0])).1
noncomputable def tab:List (List (List Nat×List Nat)):=[[([0,1],[1,0])],
 [([0,2,1],[1,0,0]),([0,0,1],[1,2,0])],
 [([0,4,6,4,1],[1,0,0,0,0]),([0,0,4,4,1],[1,4,2,0,0]),([0,0,2,4,1],[1,4,4,0,0]),([0,0,0,0,1],[1,4,6,4,0])],
 [([0,8,28,56,70,56,28,8,1],[1,0,0,0,0,0,0,0,0]),([0,0,16,48,68,56,28,8,1],[1,8,12,8,2,0,0,0,0]),([0,0,8,40,66,56,28,8,1],[1,8,20,16,4,0,0,0,0]),([0,0,0,0,16,32,24,8,1],[1,8,28,56,54,24,4,0,0]),([0,0,4,24,54,56,28,8,1],[1,8,24,32,16,0,0,0,0]),([0,0,0,0,4,16,20,8,1],[1,8,28,56,66,40,8,0,0]),([0,0,0,0,2,8,12,8,1],[1,8,28,56,68,48,16,0,0]),([0,0,0,0,0,0,0,0,1],[1,8,28,56,70,56,28,8,0])],
 [([0,16,120,560,1820,4368,8008,11440,12870,11440,8008,4368,1820,560,120,16,1],[1,0,0,0,0,0,0,0,0,0,0,0,0,0,0,0,0]),([0,0,64,448,1680,4256,7952,11424,12868,11440,8008,4368,1820,560,120,16,1],[1,16,56,112,140,112,56,16,2,0,0,0,0,0,0,0,0]),([0,0,32,352,1544,4144,7896,11408,12866,11440,8008,4368,1820,560,120,16,1],[1,16,88,208,276,224,112,32,4,0,0,0,0,0,0,0,0]),([0,0,0,0,256,1536,4480,8320,10896,10560,7744,4320,1816,560,120,16,1],[1,16,120,560,1564,2832,3528,3120,1974,880,264,48,4,0,0,0,0]),([0,0,16,208,1156,3664,7592,11312,12854,11440,8008,4368,1820,560,120,16,1],[1,16,104,352,664,704,416,128,16,0,0,0,0,0,0,0,0]),([0,0,0,0,64,640,2656,6176,9284,9760,7488,4272,1812,560,120,16,1],[1,16,120,560,1756,3728,5352,5264,3586,1680,520,96,8,0,0,0,0]),([0,0,0,0,32,320,1456,3984,7042,8400,7000,4176,1804,560,120,16,1],[1,16,120,560,1788,4048,6552,7456,5828,3040,1008,192,16,0,0,0,0]),([0,0,0,0,0,0,0,0,256,1024,1792,1792,1120,448,112,16,1],[1,16,120,560,1820,4368,8008,11440,12614,10416,6216,2576,700,112,8,0,0]),([0,0,8,112,700,2576,6216,10416,12614,11440,8008,4368,1820,560,120,16,1],[1,16,112,448,1120,1792,1792,1024,256,0,0,0,0,0,0,0,0]),([0,0,0,0,16,192,1008,3040,5828,7456,6552,4048,1788,560,120,16,1],[1,16,120,560,1804,4176,7000,8400,7042,3984,1456,320,32,0,0,0,0]),([0,0,0,0,8,96,520,1680,3586,5264,5352,3728,1756,560,120,16,1],[1,16,120,560,1812,4272,7488,9760,9284,6176,2656,640,64,0,0,0,0]),([0,0,0,0,0,0,0,0,16,128,416,704,664,352,104,16,1],[1,16,120,560,1820,4368,8008,11440,12854,11312,7592,3664,1156,208,16,0,0]),([0,0,0,0,4,48,264,880,1974,3120,3528,2832,1564,560,120,16,1],[1,16,120,560,1816,4320,7744,10560,10896,8320,4480,1536,256,0,0,0,0]),([0,0,0,0,0,0,0,0,4,32,112,224,276,208,88,16,1],[1,16,120,560,1820,4368,8008,11440,12866,11408,7896,4144,1544,352,32,0,0]),([0,0,0,0,0,0,0,0,2,16,56,112,140,112,56,16,1],[1,16,120,560,1820,4368,8008,11440,12868,11424,7952,4256,1680,448,64,0,0]),([0,0,0,0,0,0,0,0,0,0,0,0,0,0,0,0,1],[1,16,120,560,1820,4368,8008,11440,12870,11440,8008,4368,1820,560,120,16,0])],
 [([0,32,496,4960,35960,201376,906192,3365856,10518300,28048800,64512240,129024480,225792840,347373600,471435600,565722720,601080390,565722720,471435600,347373600,225792840,129024480,64512240,28048800,10518300,3365856,906192,201376,35960,4960,496,32,1],[1,0,0,0,0,0,0,0,0,0,0,0,0,0,0,0,0,0,0,0,0,0,0,0,0,0,0,0,0,0,0,0,0]),([0,0,256,3840,32320,192640,890176,3342976,10492560,28025920,64496224,129015744,225789200,347372480,471435360,565722688,601080388,565722720,471435600,347373600,225792840,129024480,64512240,28048800,10518300,3365856,906192,201376,35960,4960,496,32,1],[1,32,240,1120,3640,8736,16016,22880,25740,22880,16016,8736,3640,1120,240,32,2,0,0,0,0,0,0,0,0,0,0,0,0,0,0,0,0]),([0,0,128,2944,28960,184128,874272,3320128,10466824,28003040,64480208,129007008,225785560,347371360,471435120,565722656,601080386,565722720,471435600,347373600,225792840,129024480,64512240,28048800,10518300,3365856,906192,201376,35960,4960,496,32,1],[1,32,368,2016,7000,17248,31920,45728,51476,45760,32032,17472,7280,2240,480,64,4,0,0,0,0,0,0,0,0,0,0,0,0,0,0,0,0]),([0,0,0,0,4096,57344,415744,2050048,7653632,22887424,56715264,119066112,214987136,337392384,463591296,560492800,598138512,564338304,470897216,347203584,225750336,129016384,64511136,28048704,10518296,3365856,906192,201376,35960,4960,496,32,1],[1,32,496,4960,31864,144032,490448,1315808,2864668,5161376,7796976,9958368,10805704,9981216,7844304,5229920,2941878,1384416,538384,170016,42504,8096,1104,96,4,0,0,0,0,0,0,0,0]),([0,0,64,1728,21008,155488,806960,3207968,10328196,27872800,64386224,128954976,225763752,347364640,471433680,565722464,601080374,565722720,471435600,347373600,225792840,129024480,64512240,28048800,10518300,3365856,906192,201376,35960,4960,496,32,1],[1,32,432,3232,14952,45888,99232,157888,190104,176000,126016,69504,29088,8960,1920,256,16,0,0,0,0,0,0,0,0,0,0,0,0,0,0,0,0]),([0,0,0,0,1024,22528,222720,1352192,5806656,19085568,50410240,110459776,205192800,328032448,456057312,555386944,595235396,562963008,470360352,347033728,225707840,129008288,64510032,28048608,10518292,3365856,906192,201376,35960,4960,496,32,1],[1,32,496,4960,34936,178848,683472,2013664,4711644,8963232,14102000,18564704,20600040,19341152,15378288,10335776,5844994,2759712,1075248,339872,85000,16192,2208,192,8,0,0,0,0,0,0,0,0]),([0,0,0,0,512,11264,119552,815360,3949856,14425216,41459584,96851904,188449200,311118176,441907824,545545760,589545346,560239776,469291184,346694496,225622872,128992096,64507824,28048416,10518284,3365856,906192,201376,35960,4960,496,32,1],[1,32,496,4960,35448,190112,786640,2550496,6568444,13623584,23052656,32172576,37343640,36255424,29527776,20176960,11535044,5482944,2144416,679104,169968,32384,4416,384,16,0,0,0,0,0,0,0,0]),([0,0,0,0,0,0,0,0,65536,786432,4653056,18022400,51208192,113426432,203255808,301928448,378028288,403556352,370208768,293307392,201225472,119608832,61506048,27263232,10354528,3339648,903168,201152,35952,4960,496,32,1],[1,32,496,4960,35960,201376,906192,3365856,10452764,27262368,59859184,111002080,174584648,233947168,268179792,263794272,223052102,162166368,101226832,54066208,24567368,9415648,3006192,785568,163772,26208,3024,224,8,0,0,0,0]),([0,0,32,928,12552,105504,620816,2738400,9491132,26793888,63370736,128257504,225418312,347244576,471405904,565718624,601080134,565722720,471435600,347373600,225792840,129024480,64512240,28048800,10518300,3365856,906192,201376,35960,4960,496,32,1],[1,32,464,4032,23408,95872,285376,627456,1027168,1254912,1141504,766976,374528,129024,29696,4096,256,0,0,0,0,0,0,0,0,0,0,0,0,0,0,0,0]),([0,0,0,0,256,6656,80256,598144,3103504,11991424,36094720,87500864,175266544,295875904,427358624,534070336,582090692,556278336,467587584,346111072,225467544,128961120,64503472,28048032,10518268,3365856,906192,201376,35960,4960,496,32,1],[1,32,496,4960,35704,194720,825936,2767712,7414796,16057376,28417520,41523616,50526296,51497696,44076976,31652384,18989698,9444384,3848016,1262528,325296,63360,8768,768,32,0,0,0,0,0,0,0,0]),([0,0,0,0,128,3328,41152,322624,1799304,7580352,25006912,66196448,143297032,257784672,390879600,505763360,564224002,547111968,463787440,344853664,225142504,128897760,64494704,28047264,10518236,3365856,906192,201376,35960,4960,496,32,1],[1,32,496,4960,35832,198048,865040,3043232,8718996,20468448,39505328,62828032,82495808,89588928,80556000,59959360,36856388,18610752,7648160,2519936,650336,126720,17536,1536,64,0,0,0,0,0,0,0,0]),([0,0,0,0,0,0,0,0,4096,81920,749568,4190208,16147968,45939712,100910848,176652544,252224528,298799360,297420032,251000448,180679968,111314304,58748800,26520128,10195992,3313856,900160,200928,35944,4960,496,32,1],[1,32,496,4960,35960,201376,906192,3365856,10514204,27966880,63762672,124834272,209644872,301433888,370524752,389070176,348855862,266923360,174015568,96373152,45112872,17710176,5763440,1528672,322308,52000,6032,448,16,0,0,0,0]),([0,0,0,0,64,1664,20832,167200,964868,4252896,14847248,42027232,98006536,190440096,311038224,430114144,506961846,512611680,447371984,338768416,223422920,128540128,64443120,28042656,10518044,3365856,906192,201376,35960,4960,496,32,1],[1,32,496,4960,35896,199712,885360,3198656,9553432,23795904,49664992,86997248,127786304,156933504,160397376,135608576,94118544,53111040,24063616,8605184,2369920,484352,69120,6144,256,0,0,0,0,0,0,0,0]),([0,0,0,0,0,0,0,0,1024,20480,195584,1186816,5120384,16645888,42202560,85318720,139693060,187432512,208041696,192497600,149386160,97661632,53923456,25156320,9894420,3263520,894192,200480,35928,4960,496,32,1],[1,32,496,4960,35960,201376,906192,3365856,10517276,28028320,64316656,127837664,220672456,330727712,429233040,480404000,461387330,378290208,263393904,154876000,76406680,31362848,10588784,2892480,623880,102336,12000,896,32,0,0,0,0]),([0,0,0,0,0,0,0,0,512,10240,97792,593408,2568384,8437632,21859040,45800992,78914562,112936736,134967664,135014880,113140664,79408672,46639056,22883360,9351820,3167840,882448,199584,35896,4960,496,32,1],[1,32,496,4960,35960,201376,906192,3365856,10517788,28038560,64414448,128431072,223224456,338935968,449576560,519921728,522165828,452785984,336467936,212358720,112652176,49615808,17873184,5165440,1166480,198016,23744,1792,64,0,0,0,0]),([0,0,0,0,0,0,0,0,0,0,0,0,0,0,0,0,65536,524288,1966080,4587520,7454720,8945664,8200192,5857280,3294720,1464320,512512,139776,29120,4480,480,32,1],[1,32,496,4960,35960,201376,906192,3365856,10518300,28048800,64512240,129024480,225792840,347373600,471435600,565722720,601014854,565198432,469469520,342786080,218338120,120078816,56312048,22191520,7223580,1901536,393680,61600,6840,480,16,0,0]),([0,0,16,480,6840,61600,393680,1901536,7223580,22191520,56312048,120078816,218338120,342786080,469469520,565198432,601014854,565722720,471435600,347373600,225792840,129024480,64512240,28048800,10518300,3365856,906192,201376,35960,4960,496,32,1],[1,32,480,4480,29120,139776,512512,1464320,3294720,5857280,8200192,8945664,7454720,4587520,1966080,524288,65536,0,0,0,0,0,0,0,0,0,0,0,0,0,0,0,0]),([0,0,0,0,64,1792,23744,198016,1166480,5165440,17873184,49615808,112652176,212358720,336467936,452785984,522165828,519921728,449576560,338935968,223224456,128431072,64414448,28038560,10517788,3365856,906192,201376,35960,4960,496,32,1],[1,32,496,4960,35896,199584,882448,3167840,9351820,22883360,46639056,79408672,113140664,135014880,134967664,112936736,78914562,45800992,21859040,8437632,2568384,593408,97792,10240,512,0,0,0,0,0,0,0,0]),([0,0,0,0,32,896,12000,102336,623880,2892480,10588784,31362848,76406680,154876000,263393904,378290208,461387330,480404000,429233040,330727712,220672456,127837664,64316656,28028320,10517276,3365856,906192,201376,35960,4960,496,32,1],[1,32,496,4960,35928,200480,894192,3263520,9894420,25156320,53923456,97661632,149386160,192497600,208041696,187432512,139693060,85318720,42202560,16645888,5120384,1186816,195584,20480,1024,0,0,0,0,0,0,0,0]),([0,0,0,0,0,0,0,0,256,6144,69120,484352,2369920,8605184,24063616,53111040,94118544,135608576,160397376,156933504,127786304,86997248,49664992,23795904,9553432,3198656,885360,199712,35896,4960,496,32,1],[1,32,496,4960,35960,201376,906192,3365856,10518044,28042656,64443120,128540128,223422920,338768416,447371984,512611680,506961846,430114144,311038224,190440096,98006536,42027232,14847248,4252896,964868,167200,20832,1664,64,0,0,0,0]),([0,0,0,0,16,448,6032,52000,322308,1528672,5763440,17710176,45112872,96373152,174015568,266923360,348855862,389070176,370524752,301433888,209644872,124834272,63762672,27966880,10514204,3365856,906192,201376,35960,4960,496,32,1],[1,32,496,4960,35944,200928,900160,3313856,10195992,26520128,58748800,111314304,180679968,251000448,297420032,298799360,252224528,176652544,100910848,45939712,16147968,4190208,749568,81920,4096,0,0,0,0,0,0,0,0]),([0,0,0,0,0,0,0,0,64,1536,17536,126720,650336,2519936,7648160,18610752,36856388,59959360,80556000,89588928,82495808,62828032,39505328,20468448,8718996,3043232,865040,198048,35832,4960,496,32,1],[1,32,496,4960,35960,201376,906192,3365856,10518236,28047264,64494704,128897760,225142504,344853664,463787440,547111968,564224002,505763360,390879600,257784672,143297032,66196448,25006912,7580352,1799304,322624,41152,3328,128,0,0,0,0]),([0,0,0,0,0,0,0,0,32,768,8768,63360,325296,1262528,3848016,9444384,18989698,31652384,44076976,51497696,50526296,41523616,28417520,16057376,7414796,2767712,825936,194720,35704,4960,496,32,1],[1,32,496,4960,35960,201376,906192,3365856,10518268,28048032,64503472,128961120,225467544,346111072,467587584,556278336,582090692,534070336,427358624,295875904,175266544,87500864,36094720,11991424,3103504,598144,80256,6656,256,0,0,0,0]),([0,0,0,0,0,0,0,0,0,0,0,0,0,0,0,0,256,4096,29696,129024,374528,766976,1141504,1254912,1027168,627456,285376,95872,23408,4032,464,32,1],[1,32,496,4960,35960,201376,906192,3365856,10518300,28048800,64512240,129024480,225792840,347373600,471435600,565722720,601080134,565718624,471405904,347244576,225418312,128257504,63370736,26793888,9491132,2738400,620816,105504,12552,928,32,0,0]),([0,0,0,0,8,224,3024,26208,163772,785568,3006192,9415648,24567368,54066208,101226832,162166368,223052102,263794272,268179792,233947168,174584648,111002080,59859184,27262368,10452764,3365856,906192,201376,35960,4960,496,32,1],[1,32,496,4960,35952,201152,903168,3339648,10354528,27263232,61506048,119608832,201225472,293307392,370208768,403556352,378028288,301928448,203255808,113426432,51208192,18022400,4653056,786432,65536,0,0,0,0,0,0,0,0]),([0,0,0,0,0,0,0,0,16,384,4416,32384,169968,679104,2144416,5482944,11535044,20176960,29527776,36255424,37343640,32172576,23052656,13623584,6568444,2550496,786640,190112,35448,4960,496,32,1],[1,32,496,4960,35960,201376,906192,3365856,10518284,28048416,64507824,128992096,225622872,346694496,469291184,560239776,589545346,545545760,441907824,311118176,188449200,96851904,41459584,14425216,3949856,815360,119552,11264,512,0,0,0,0]),([0,0,0,0,0,0,0,0,8,192,2208,16192,85000,339872,1075248,2759712,5844994,10335776,15378288,19341152,20600040,18564704,14102000,8963232,4711644,2013664,683472,178848,34936,4960,496,32,1],[1,32,496,4960,35960,201376,906192,3365856,10518292,28048608,64510032,129008288,225707840,347033728,470360352,562963008,595235396,555386944,456057312,328032448,205192800,110459776,50410240,19085568,5806656,1352192,222720,22528,1024,0,0,0,0]),([0,0,0,0,0,0,0,0,0,0,0,0,0,0,0,0,16,256,1920,8960,29088,69504,126016,176000,190104,157888,99232,45888,14952,3232,432,32,1],[1,32,496,4960,35960,201376,906192,3365856,10518300,28048800,64512240,129024480,225792840,347373600,471435600,565722720,601080374,565722464,471433680,347364640,225763752,128954976,64386224,27872800,10328196,3207968,806960,155488,21008,1728,64,0,0]),([0,0,0,0,0,0,0,0,4,96,1104,8096,42504,170016,538384,1384416,2941878,5229920,7844304,9981216,10805704,9958368,7796976,5161376,2864668,1315808,490448,144032,31864,4960,496,32,1],[1,32,496,4960,35960,201376,906192,3365856,10518296,28048704,64511136,129016384,225750336,347203584,470897216,564338304,598138512,560492800,463591296,337392384,214987136,119066112,56715264,22887424,7653632,2050048,415744,57344,4096,0,0,0,0]),([0,0,0,0,0,0,0,0,0,0,0,0,0,0,0,0,4,64,480,2240,7280,17472,32032,45760,51476,45728,31920,17248,7000,2016,368,32,1],[1,32,496,4960,35960,201376,906192,3365856,10518300,28048800,64512240,129024480,225792840,347373600,471435600,565722720,601080386,565722656,471435120,347371360,225785560,129007008,64480208,28003040,10466824,3320128,874272,184128,28960,2944,128,0,0]),([0,0,0,0,0,0,0,0,0,0,0,0,0,0,0,0,2,32,240,1120,3640,8736,16016,22880,25740,22880,16016,8736,3640,1120,240,32,1],[1,32,496,4960,35960,201376,906192,3365856,10518300,28048800,64512240,129024480,225792840,347373600,471435600,565722720,601080388,565722688,471435360,347372480,225789200,129015744,64496224,28025920,10492560,3342976,890176,192640,32320,3840,256,0,0]),([0,0,0,0,0,0,0,0,0,0,0,0,0,0,0,0,0,0,0,0,0,0,0,0,0,0,0,0,0,0,0,0,1],[1,32,496,4960,35960,201376,906192,3365856,10518300,28048800,64512240,129024480,225792840,347373600,471435600,565722720,601080390,565722720,471435600,347373600,225792840,129024480,64512240,28048800,10518300,3365856,906192,201376,35960,4960,496,32,0])]]
noncomputable def tb(j q:Nat):List Nat×List Nat:=(tab.getD j []).getD q ([],[])
noncomputable def stb(z:Bool)(q:List Nat×List Nat):List Nat×List Nat:=
 if z=true then (List.zipWith (· + ·) (bw q.1 q.1) ((bw q.1 q.2).map (2 * ·)),bw q.2 q.2) else (bw q.1 q.1,List.zipWith (· + ·) (bw q.2 q.2) ((bw q.1 q.2).map (2 * ·)))
noncomputable def okS(q:List Nat×List Nat):Bool:=okL q.1&&okL q.2&&okL (bw q.1 q.2)&&okL (bw q.1 q.1)&&okL (bw q.2 q.2)
theorem P6:∀j,j<5->∀q,q<2 ^ j->stb true (tb j q)=tb (j+1) (2*q)/\stb false (tb j q)=tb (j+1) (2*q+1)/\okS (tb j q)=true:=by decide +kernel
theorem qBh{p n j:Nat}(hj:j<5)(hq:p / 2 ^ (n+1)<2 ^ j):stq p n (tb j (p / 2 ^ (n+1)))=tb (j+1) (p / 2 ^ n):=by
 obtain⟨a,b,_⟩:=P6 j hj _ hq;have e:p / 2 ^ (n+1)=p / 2 ^ n / 2:=by rw[vQ,Nat.div_div_eq_div_mul]
 have hb:(p&&& 2 ^ n=0)↔p / 2 ^ n % 2=0:=by
  have t:=Nat.testBit_eq_decide_div_mod_eq (x:=p) (i:=n);have a2:p&&& 2 ^ n=(p.testBit n).toNat*2 ^ n:=by
   apply Nat.eq_of_testBit_eq;intro i;rw[Nat.testBit_and,Nat.testBit_two_pow];cases hp:p.testBit n with
   |false=>
    by_cases z:n=i
    ·subst z;simp[hp]
    ·simp[z]
   |true=>
    by_cases z:n=i
    ·subst z;simp[hp]
    ·simp[z,Nat.testBit_two_pow]
  have pp:0<2 ^ n:=vT (by decide);cases hp:p.testBit n with
  |false=>
   rw[hp]at a2 t;have:=of_decide_eq_false t.symm;constructor
   ·intro _;omega
   ·intro _;rw[a2];simp
  |true=>
   rw[hp]at a2 t;have:=uD t.symm;constructor
   ·intro z;rw[a2]at z;simp at z
   ·intro z;omega
 by_cases h:p&&& 2 ^ n=0
 ·have m0:=hb.mp h;have:stq p n (tb j (p / 2 ^ (n+1)))=stb true (tb j (p / 2 ^ (n+1))):=by unfold stq stb;rw[if_pos h,if_pos rfl]
  rw[this,a,e];congr 1;omega
 ·have m1:p / 2 ^ n % 2=1:=by have:=mt hb.mpr h;omega
  have:stq p n (tb j (p / 2 ^ (n+1)))=stb false (tb j (p / 2 ^ (n+1))):=by unfold stq stb;rw[if_neg h,if_neg (by decide)]
  rw[this,b,e];congr 1;omega
theorem qEI{p n j:Nat}(hp:p<2 ^ (j+n)):p / 2 ^ n<2 ^ j:=by
 rw[Nat.div_lt_iff_lt_mul (vT (by decide)),<-Nat.pow_add];exact hp
theorem n8{p:Nat}:∀(n j:Nat),j+n<=5->p<2 ^ (j+n)->rn p n (tb j (p / 2 ^ n))=tb (j+n) p/\okR p n (tb j (p / 2 ^ n))=true
 | 0,j,_,_=>by rw[Nat.pow_zero,Nat.div_one];exact⟨rfl,rfl⟩
 |n+1,j,h,hp=>by
  have hq:=qEI (p:=p) (n:=n+1) (j:=j) hp;obtain⟨a,b⟩:=n8 n (j+1) (by omega) (by rw[show j+1+n=j+(n+1) by omega];exact hp);have e:=qBh (p:=p) (n:=n) (j:=j) (by omega) hq;have o:=(P6 j (by omega) _ hq).2.2;refine⟨?_,?_⟩
  ·rw[rn,e,a,show j+1+n=j+(n+1) by omega]
  ·unfold okS at o;rw[okR,o,e,b];rfl
theorem qDh:∀s,1<=s->s<=5->∀p,p<2 ^ s->okR p s ([0,1],[1,0])=true:=λs _ h2 p hp=>by
 have:=(n8 (p:=p) s 0 (by omega) (by simpa using hp)).2;rw[Nat.div_eq_of_lt hp]at this;exact this
theorem Y9{s p:Nat}(h:s<=5)(hp:p<2 ^ s):cnt s p=(tb s p).1:=by
 have:=(n8 (p:=p) s 0 (by omega) (by simpa using hp)).1;rw[Nat.div_eq_of_lt hp,Nat.zero_add]at this;unfold cnt;rw[<-this];rfl
theorem f32(hk:4<=k){s p:Nat}(h1:1<=s)(hs:s<=5)(hp:p<2 ^ s){M:Mem}(hW:WfM M):Pk (glT gs) Tb.fns Cs k 32 [N s,N p] M=.ok ((NL (cnt s p),true),M):=by
 rw[qM t32 ⟨rfl,by decide⟩ (by omega),b32,show Cs.getD 32 []=[2,6] from rfl];obtain⟨C',c',p4,p5,p6,p7,t8,e,e2,e3⟩:=qGX (k:=k-1) (by omega) (s:=s) (p:=p) (M:=M) s ([0,1],[1,0]) [[0,1].map N] M.length none none none none (by omega) (qDh s h1 hs p hp) (hW.one (JB _)) wd (wF _);have e4:=f9 (k:=k-1) (by omega) h1 (by omega) M;have e5:=f10 (k:=k-1) (by omega) (s:=s) (by omega) hp M;have sb:∀{M:Mem},zW M .sub (N s) (N 1)=some (N (s-1),true):=λ{M}=>jJ h1;have rg:=qDk (M:=M) (a:=s-1) (by omega);rw[Nat.sub_add_cancel h1]at rg;have l01:T.lst [N 0,N 1]=NL [0,1]:=rfl;have l10:T.lst [N 1,N 0]=NL [1,0]:=rfl;simp only[List.map_cons,List.map_nil,List.map_reverse]at e;simp[e4,e5,sb,rg,l01,l10,lim,e,iT];exact ZC (M:=M) (A:=M) (C:=C') rfl hW e2 e3 (JB _) _
end
end _M
namespace _M
open PySem PySem.Spec _P
open _L (V)
open Fr (U Dv sh wor pr)
noncomputable abbrev I(x:Int):T:=.v (.int x)
noncomputable abbrev Q(a:Int×Int):T:=.tup [I a.1,I a.2]
theorem qEl{c:TS->Mem->PR (Bool×Mem)}{b:TS->Mem->RSt}{S:Nat->Nat->TS->Prop}{M:Mem}(hc:∀x y σ,S x y σ->c σ M=.ok (decide (y≠0),M))(hb:∀x y σ,S x y σ->0<y->∃σ',b σ M=.ok (.nx σ',M)/\S y (x % y) σ'):
  ∀(n f x y:Nat) (σ:TS),S x y σ->y<2 ^ n->2*n+1<=f->∃σ',ze c b f σ M=.ok (.nx σ',M)/\S (Nat.gcd x y) 0 σ':=by
 have z:∀(f x:Nat) (σ:TS),S x 0 σ->1<=f->ze c b f σ M=.ok (.nx σ,M):=λf x σ s hf=>by
  obtain⟨f,rfl⟩:∃g,f=g+1:=⟨f-1,by omega⟩
  unfold ze;rw[hc x 0 σ s];rfl
 have st:∀(f x y:Nat) (σ:TS),S x y σ->0<y->∃σ',ze c b (f+1) σ M=ze c b f σ' M/\S y (x % y) σ':=λf x y σ s hy=>by
  obtain⟨σ',e,s'⟩:=hb x y σ s hy;refine⟨σ',?_,s'⟩;rw[ze,hc x y σ s,tD];dsimp only;rw[if_pos (by simp;omega),e];rfl
 intro n
 induction n with
 |zero=>
  intro f x y σ s hy hf;have:y=0:=by simpa using hy
  subst this;exact⟨σ,z f x σ s (by omega),by rw[Nat.gcd_zero_right];exact s⟩
 |succ n ih=>
  intro f x y σ s hy hf;rcases Nat.eq_zero_or_pos y with rfl|hp
  ·exact⟨σ,z f x σ s (by omega),by rw[Nat.gcd_zero_right];exact s⟩
  ·obtain⟨f,rfl⟩:∃g,f=g+2:=⟨f-2,by omega⟩
   obtain⟨σ1,e1,s1⟩:=st (f+1) x y σ s hp;have g1:Nat.gcd x y=Nat.gcd y (x % y):=by rw[Nat.gcd_comm,Nat.gcd_rec,Nat.gcd_comm]
   rcases Nat.eq_zero_or_pos (x % y) with h0|hp1
   ·rw[h0]at s1;exact⟨σ1,by rw[e1];exact z _ _ _ s1 (by omega),by rw[g1,h0,Nat.gcd_zero_right];exact s1⟩
   ·obtain⟨σ2,e2,s2⟩:=st f y (x % y) σ1 s1 hp1;have g2:Nat.gcd y (x % y)=Nat.gcd (x % y) (y % (x % y)):=by rw[Nat.gcd_comm y,Nat.gcd_rec,Nat.gcd_comm]
    have l1:x % y<y:=vv _ hp;have l2:y % (x % y)<x % y:=vv _ hp1;have l3:y % (x % y)+x % y<=y:=by
     have:=Nat.div_add_mod y (x % y);have d1:1<=y / (x % y):=(Nat.le_div_iff_mul_le hp1).mpr (by omega);have:=Nat.mul_le_mul_left (x % y) d1;omega
    obtain⟨σ3,e3,s3⟩:=ih f (x % y) (y % (x % y)) σ2 s2 (by rw[vQ]at hy;omega) (by omega);exact⟨σ3,by rw[e1,e2,e3],by rw[g1,g2];exact s3⟩
def Sm(n:Nat)(x:Int):Prop:=x.natAbs<2 ^ n
theorem Sm.md{n:Nat}{x:Int}(h:Sm n x)(hn:n<=8000):_P.mid x=true:=by
 unfold _P.mid;rw[uC];rcases Nat.eq_zero_or_pos x.natAbs with z|z
 ·rw[z];decide
 ·have:=(Nat.log2_lt (by omega)).mpr h;omega
theorem Sm.mul{n m:Nat}{x y:Int}(h:Sm n x)(g:Sm m y):Sm (n+m) (x*y):=by
 unfold Sm at *;rw[Int.natAbs_mul,Nat.pow_add];exact Nat.mul_lt_mul'' h g
theorem Sm.mono{n m:Nat}{x:Int}(h:Sm n x)(l:n<=m):Sm m x:=wG h (wy (by decide) l)
theorem Sm.add{n:Nat}{x y:Int}(h:Sm n x)(g:Sm n y):Sm (n+1) (x+y):=by
 unfold Sm at *;have:=Int.natAbs_add_le x y;rw[vQ];omega
theorem Sm.sub{n:Nat}{x y:Int}(h:Sm n x)(g:Sm n y):Sm (n+1) (x-y):=by
 unfold Sm at *;have:=Int.natAbs_sub_le x y;rw[vQ];omega
theorem Sm.div{n:Nat}{x y:Int}(h:Sm n x):Sm n (x / (y.natAbs:Int)):=by
 unfold Sm at *;have:=Int.natAbs_ediv_le_natAbs x (y.natAbs:Int);omega
structure SmQ(n:Nat)(a:Int×Int):Prop where
 top:Sm n a.1
 bot:Sm n a.2
theorem SmQ.red{n:Nat}{t b:Int}(h:Sm n t)(g:Sm n b):SmQ n (Fr.red t b):=by
 have e:(Int.gcd t b:Int)=(((Int.gcd t b:Int)).natAbs:Int):=rfl;refine⟨?_,?_⟩
 ·unfold Fr.red;rw[e];exact h.div
 ·unfold Fr.red;rw[e];exact g.div
theorem SmQ.mono{n m:Nat}{a:Int×Int}(h:SmQ n a)(l:n<=m):SmQ m a:=⟨h.top.mono l,h.bot.mono l⟩
theorem jN{M:Mem}{n:Nat}{x y:Int}(h:Sm n x)(g:Sm n y)(hn:n<=8000):zW M .mul (I x) (I y)=some (I (x*y),true):=by
 show (if small x||small y||(mid x&&mid y) then _ else _)=_;rw[h.md hn,g.md hn,if_pos (by simp)];rfl
theorem L8{M:Mem}{n:Nat}{x y:Int}(g:Sm n y)(hn:n<=8000)(hy:0<y):zW M .fdiv (I x) (I y)=some (I (x / y),true):=by
 show (if 0<y/\(y<1073741824\/mid y=true) then _ else _)=_;rw[if_pos ⟨hy,.inr (g.md hn)⟩];rfl
section
variable{k:Nat}
theorem f0I(hk:1<=k)(x:Int)(M:Mem):Pk (glT gs) Tb.fns Cs k 0 [I x] M=.ok (bT true,M):=by
 rw[qM t0 ⟨rfl,by decide⟩ hk];simp[b0,QS,qA]
theorem f38(hk:1<=k){x y:Nat}(hy:y<2 ^ 4100)(M:Mem):Pk (glT gs) Tb.fns Cs k 38 [N x,N y] M=.ok ((N (Nat.gcd x y),true),M):=by
 rw[qM t38 ⟨rfl,by decide⟩ hk,b38,show Cs.getD 38 []=[] from rfl];obtain⟨σ',e,o,rfl⟩:=qEl (c:=λσ M=>pB (pe (glT gs) (Pk (glT gs) Tb.fns Cs (k-1)) (.cmp .ne (.var 1) (nE 0)) σ M)) (b:=pxs (glT gs) (Pk (glT gs) Tb.fns Cs (k-1)) [] qBY) (M:=M) (S:=λx y σ=>∃o,σ=[some (N x),some (N y),o]) (λx y σ s=>by
  obtain⟨o,rfl⟩:=s;simp) (λx y σ s hp=>by
  obtain⟨o,rfl⟩:=s;refine⟨[some (N y),some (N (x % y)),some (N (x % y))],?_,_,rfl⟩;rw[qBY];simp(disch:=omega) [ZF]) 4100 qAd x y [some (N x),some (N y),none] ⟨none,rfl⟩ hy (by decide)
 rw[zZ,JW];show JA _ (PR.bind (ze _ _ qAd [some (N x),some (N y),none] M) _)=_;rw[e];simp[qA]
theorem qBc{M:Mem}(x:Int):jS M .abs [I x]=some (N x.natAbs,true):=by
 rw[qFQ];unfold iT N;rw[show (if x<0 then -x else x)=(x.natAbs:Int) by split<;>omega]
theorem f37(hk:2<=k){t b:Int}(hb:0<b)(sb:Sm 4100 b)(M:Mem):Pk (glT gs) Tb.fns Cs k 37 [I t,I b] M=.ok ((Q (Fr.red t b),true),M):=by
 have g:=Fr.gpos (t:=t) hb;have sg:Sm 4100 (Int.gcd t b:Int):=by
  have:Int.gcd t b<=b.natAbs:=Nat.le_of_dvd (by omega) (Nat.gcd_dvd_right _ _);unfold Sm at *;rw[Int.natAbs_natCast];exact wo this sb
 have e2:=f38 (k:=k-1) (by omega) (x:=t.natAbs) sb M;rw[show Nat.gcd t.natAbs b.natAbs=Int.gcd t b from rfl]at e2;have q1:=λ(M:Mem)=>L8 (M:=M) (x:=t) sg (by decide) g;have q2:=λ(M:Mem)=>L8 (M:=M) (x:=b) sg (by decide) g;have c1:∀{M:Mem},qk M .eq (I b) (N 0)=some false:=λ{M}=>by rw[show N 0=I 0 from rfl,qDm,uA (by omega)]
 have c2:∀{M:Mem},qk M .lt (I b) (N 0)=some false:=λ{M}=>by rw[show N 0=I 0 from rfl,qE8,uA (by omega)]
 have hN:N (Int.gcd t b)=I (Int.gcd t b:Int):=rfl;have w1:=f0I (k:=k-1) (by omega) t M;have w2:=f0I (k:=k-1) (by omega) b M;have a1:=qBc (M:=M) t;have a2:=qBc (M:=M) b;rw[hN]at e2;have q1:=q1 M;have q2:=q2 M;have z:pxs (glT gs) (Pk (glT gs) Tb.fns Cs (k-1)) [] b37 [some (I t),some (I b),none] M=.ok (.rt (Q (Fr.red t b),true),M):=by
  rw[b37]
  repeat' first|with_reducible (first|exact c1|exact c2|exact w1|exact w2|exact a1|exact a2|exact e2|exact q1|exact q2|exact zE|exact zU|exact zh|exact jc|exact jZ|exact zR|exact zG|exact zB|exact zO|exact isT|exact isF|exact ll0|exact ll1|exact ll2|exact ll3|exact ll4|exact qU|exact qZ|exact qf|exact qL .. | exact qy .. | exact qr .. | exact qu .. | exact zD .. | exact qP .. | exact qp .. | assumption|apply qS|apply qV|apply zC|apply zA|apply zI|apply zL|apply zQ|apply zS|apply qX|apply zP|apply zF|apply jX|apply g_ite|apply zK|apply qQ|apply ja|apply qN|apply zH|apply cT|apply cF|apply t_1|apply t_2|apply t_0|apply t_3|apply f_0|apply f_1|apply jY|apply qR|apply zN|apply zM|apply qT|apply qz|apply qo|apply jG|apply jW|apply jb)|((with_reducible apply zJ);exact cN rfl)|((with_reducible apply qW);exact rfl)|((with_reducible apply qF);exact rfl)|assumption|exact nF rfl|exact nT rfl|rfl
 exact zq t37 ⟨rfl,by decide⟩ (by omega) rfl rfl z (qA rfl)
theorem f39(hk:3<=k){a b:Int×Int}(ha:Fr.Low a)(hb:Fr.Low b)(sa:SmQ 2000 a)(sb:SmQ 2000 b)(M:Mem):Pk (glT gs) Tb.fns Cs k 39 [Q a,Q b] M=.ok ((Q (Fr.add a b),true),M):=by
 have m1:=λ(M:Mem)=>jN (M:=M) sa.top sb.bot (by decide);have m2:=λ(M:Mem)=>jN (M:=M) sb.top sa.bot (by decide);have m3:=λ(M:Mem)=>jN (M:=M) sa.bot sb.bot (by decide);have e1:=f37 (k:=k-1) (by omega) (t:=a.1*b.2+b.1*a.2) (Fr.bpos ha hb) ((sa.bot.mul sb.bot).mono (by decide)) M;have m1:=m1 M;have m2:=m2 M;have m3:=m3 M;have ad:zW M .add (I (a.1*b.2)) (I (b.1*a.2))=some (I (a.1*b.2+b.1*a.2),true):=rfl;have z:pxs (glT gs) (Pk (glT gs) Tb.fns Cs (k-1)) [] b39 [some (Q a),some (Q b)] M=.ok (.rt (Q (Fr.add a b),true),M):=by
  rw[b39]
  repeat' first|with_reducible (first|exact m1|exact m2|exact m3|exact ad|exact e1|exact lk0 .. | exact lk1 .. | exact zE|exact zU|exact jc|exact jZ|exact zR|exact zG|exact zB|exact zO|exact isT|exact isF|exact ll0|exact ll1|exact ll2|exact ll3|exact ll4|exact qU|exact qZ|exact qL .. | exact qy .. | exact qr .. | exact qu .. | exact zD .. | exact qP .. | exact qp .. | assumption|apply qS|apply qV|apply zC|apply zA|apply zI|apply zL|apply zQ|apply zS|apply qX|apply zP|apply zF|apply jX|apply g_ite|apply zK|apply qQ|apply ja|apply qN|apply zH|apply cT|apply cF|apply t_1|apply t_2|apply t_0|apply t_3|apply f_0|apply f_1|apply jY|apply qR|apply zN|apply zM|apply qT|apply qz|apply qo|apply jG|apply jW|apply jb)|((with_reducible apply zJ);exact cN rfl)|((with_reducible apply qW);exact rfl)|((with_reducible apply qF);exact rfl)|assumption|exact nF rfl|exact nT rfl|rfl
 exact zq t39 ⟨rfl,by decide⟩ (by omega) rfl rfl z (qA rfl)
theorem f40(hk:3<=k){a b:Int×Int}(ha:Fr.Low a)(hb:Fr.Low b)(sa:SmQ 2000 a)(sb:SmQ 2000 b)(M:Mem):Pk (glT gs) Tb.fns Cs k 40 [Q a,Q b] M=.ok ((Q (Fr.sub a b),true),M):=by
 have m1:=λ(M:Mem)=>jN (M:=M) sa.top sb.bot (by decide);have m2:=λ(M:Mem)=>jN (M:=M) sb.top sa.bot (by decide);have m3:=λ(M:Mem)=>jN (M:=M) sa.bot sb.bot (by decide);have e1:=f37 (k:=k-1) (by omega) (t:=a.1*b.2-b.1*a.2) (Fr.bpos ha hb) ((sa.bot.mul sb.bot).mono (by decide)) M;have m1:=m1 M;have m2:=m2 M;have m3:=m3 M;have ad:zW M .sub (I (a.1*b.2)) (I (b.1*a.2))=some (I (a.1*b.2-b.1*a.2),true):=rfl;have z:pxs (glT gs) (Pk (glT gs) Tb.fns Cs (k-1)) [] b40 [some (Q a),some (Q b)] M=.ok (.rt (Q (Fr.sub a b),true),M):=by
  rw[b40]
  repeat' first|with_reducible (first|exact m1|exact m2|exact m3|exact ad|exact e1|exact lk0 .. | exact lk1 .. | exact zE|exact zU|exact jc|exact jZ|exact zR|exact zG|exact zB|exact zO|exact isT|exact isF|exact ll0|exact ll1|exact ll2|exact ll3|exact ll4|exact qU|exact qZ|exact qL .. | exact qy .. | exact qr .. | exact qu .. | exact zD .. | exact qP .. | exact qp .. | assumption|apply qS|apply qV|apply zC|apply zA|apply zI|apply zL|apply zQ|apply zS|apply qX|apply zP|apply zF|apply jX|apply g_ite|apply zK|apply qQ|apply ja|apply qN|apply zH|apply cT|apply cF|apply t_1|apply t_2|apply t_0|apply t_3|apply f_0|apply f_1|apply jY|apply qR|apply zN|apply zM|apply qT|apply qz|apply qo|apply jG|apply jW|apply jb)|((with_reducible apply zJ);exact cN rfl)|((with_reducible apply qW);exact rfl)|((with_reducible apply qF);exact rfl)|assumption|exact nF rfl|exact nT rfl|rfl
 exact zq t40 ⟨rfl,by decide⟩ (by omega) rfl rfl z (qA rfl)
theorem f41(hk:3<=k){a b:Int×Int}(ha:Fr.Low a)(hb:Fr.Low b)(sa:SmQ 2000 a)(sb:SmQ 2000 b)(M:Mem):Pk (glT gs) Tb.fns Cs k 41 [Q a,Q b] M=.ok ((Q (Fr.mul a b),true),M):=by
 have m1:=λ(M:Mem)=>jN (M:=M) sa.top sb.top (by decide);have m3:=λ(M:Mem)=>jN (M:=M) sa.bot sb.bot (by decide);have e1:=f37 (k:=k-1) (by omega) (t:=a.1*b.1) (Fr.bpos ha hb) ((sa.bot.mul sb.bot).mono (by decide)) M;have m1:=m1 M;have m3:=m3 M;have z:pxs (glT gs) (Pk (glT gs) Tb.fns Cs (k-1)) [] b41 [some (Q a),some (Q b)] M=.ok (.rt (Q (Fr.mul a b),true),M):=by
  rw[b41]
  repeat' first|with_reducible (first|exact m1|exact m3|exact e1|exact lk0 .. | exact lk1 .. | exact zE|exact zU|exact jc|exact jZ|exact zR|exact zG|exact zB|exact zO|exact isT|exact isF|exact ll0|exact ll1|exact ll2|exact ll3|exact ll4|exact qU|exact qZ|exact qL .. | exact qy .. | exact qr .. | exact qu .. | exact zD .. | exact qP .. | exact qp .. | assumption|apply qS|apply qV|apply zC|apply zA|apply zI|apply zL|apply zQ|apply zS|apply qX|apply zP|apply zF|apply jX|apply g_ite|apply zK|apply qQ|apply ja|apply qN|apply zH|apply cT|apply cF|apply t_1|apply t_2|apply t_0|apply t_3|apply f_0|apply f_1|apply jY|apply qR|apply zN|apply zM|apply qT|apply qz|apply qo|apply jG|apply jW|apply jb)|((with_reducible apply zJ);exact cN rfl)|((with_reducible apply qW);exact rfl)|((with_reducible apply qF);exact rfl)|assumption|exact nF rfl|exact nT rfl|rfl
 exact zq t41 ⟨rfl,by decide⟩ (by omega) rfl rfl z (qA rfl)
end
noncomputable def R(q:Rat):T:=Q (Fr.of q)
theorem qHm(q:Rat):R q=.tup [I q.num,I (q.den:Int)]:=rfl
theorem qEn(q:Rat):T.lf (R q)=true:=by unfold R;simp
theorem R0{M:Mem}(q:Rat):QX M (R q) (N 0)=some (I q.num,true):=by unfold R;rw[q8];simp[Fr.of]
theorem R1{M:Mem}(q:Rat):QX M (R q) (N 1)=some (I (q.den:Int),true):=by unfold R;rw[q8];simp[Fr.of]
theorem qHK{M:Mem}(q:Rat):jS M .len [R q]=some (N 2,true):=by unfold R;rw[qBT];rfl
theorem tyR{M:Mem}(q:Rat):jQ M (R q)=some "tuple":=rfl
def Sz(q:Rat):Prop:=SmQ 2000 (Fr.of q)
theorem sz{q:Rat}{B:Nat}(h:-32<=q/\q<=32)(d:Dv q B)(hB:0<B)(hb:B<2 ^ 1990):Sz q:=by
 have l:=Fr.dv_le d hB;obtain⟨a,b⟩:=h;rw[Rat.le_iff]at a b;have a':-32*(q.den:Int)<=q.num:=by simpa using a
 have b':q.num<=32*(q.den:Int):=by simpa using b
 have e:(2:Nat) ^ 2000=1024*2 ^ 1990:=by rw[show 2000=10+1990 from rfl,Nat.pow_add]
 refine⟨?_,?_⟩
 ·show q.num.natAbs<2 ^ 2000;rw[e];generalize (2:Nat) ^ 1990=P at *;omega
 ·show ((q.den:Int)).natAbs<2 ^ 2000;rw[e];generalize (2:Nat) ^ 1990=P at *;omega
theorem szU{q:Rat}{B:Nat}(h:U q)(d:Dv q B)(hB:0<B)(hb:B<2 ^ 1990):Sz q:=sz ⟨by have:=h.1;grind,by have:=h.2;grind⟩ d hB hb
noncomputable def RL(n:Nat)(f:Nat->Rat):List T:=(List.range n).map λt=>R (f t)
theorem JI(n:Nat)(f:Nat->Rat):(RL n f).length=n:=by simp[RL]
theorem qAS{n:Nat}{f:Nat->Rat}{i:Nat}(h:i<n):(RL n f)[i]?=some (R (f i)):=by simp[RL,h]
theorem W9:∀(l:List Rat),T.lfs (l.map R)=true
 | []=>by simp
 |x::r=>by rw[List.map_cons,ZQ,qEn,W9 r];rfl
theorem O3(n:Nat)(f:Nat->Rat):RL n f=((List.range n).map f).map R:=by unfold RL;rw[List.map_map];rfl
theorem qC8(n:Nat)(f:Nat->Rat):T.lfs (RL n f)=true:=by rw[O3];exact W9 _
section
variable{k:Nat}
theorem qHN(hk:3<=k){a b:Rat}(sa:Sz a)(sb:Sz b)(M:Mem):Pk (glT gs) Tb.fns Cs k 39 [R a,R b] M=.ok ((R (a+b),true),M):=by
 have:=f39 hk (Fr.of_low a) (Fr.of_low b) sa sb M;rw[Fr.add_of]at this;exact this
theorem qFn(hk:3<=k){a b:Rat}(sa:Sz a)(sb:Sz b)(M:Mem):Pk (glT gs) Tb.fns Cs k 40 [R a,R b] M=.ok ((R (a-b),true),M):=by
 have:=f40 hk (Fr.of_low a) (Fr.of_low b) sa sb M;rw[Fr.sub_of]at this;exact this
theorem qEO(hk:3<=k){a b:Rat}(sa:Sz a)(sb:Sz b)(M:Mem):Pk (glT gs) Tb.fns Cs k 41 [R a,R b] M=.ok ((R (a*b),true),M):=by
 have:=f41 hk (Fr.of_low a) (Fr.of_low b) sa sb M;rw[Fr.mul_of]at this;exact this
theorem qCH(hk:2<=k){q:Rat}(h:q.den<2 ^ 4100)(M:Mem):Pk (glT gs) Tb.fns Cs k 35 [R q] M=.ok (bT true,M):=by
 have e5:=f38 (k:=k-1) (by omega) (x:=q.num.natAbs) (y:=q.den) h M;rw[show Nat.gcd q.num.natAbs q.den=1 from q.reduced]at e5;have c:∀{M:Mem},qk M .lt (N q.den) (N 1)=some false:=λ{M}=>by rw[qy,uA (by have:=q.den_pos;omega)]
 have hd:I (q.den:Int)=N q.den:=rfl;have hw:=λ(x:Int) (M:Mem)=>f0I (k:=k-1) (by omega) x M;have hw2:∀M:Mem,Pk (glT gs) Tb.fns Cs (k-1) 0 [N q.den] M=.ok (bT true,M):=λM=>hw _ M;have w1:=hw q.num M;have w2:=hw2 M;have a1:=qBc (M:=M) q.num;have i0:=R0 (M:=M) q;have i1:=R1 (M:=M) q;rw[hd]at i1;have ty:=tyR (M:=M) q;have ln:=qHK (M:=M) q;have z:pxs (glT gs) (Pk (glT gs) Tb.fns Cs (k-1)) [] b35 [some (R q)] M=.ok (.rt (bT true),M):=by
  rw[b35]
  repeat' first|with_reducible (first|exact ty|exact ln|exact c|exact w1|exact w2|exact a1|exact i0|exact i1|exact e5|exact zE|exact jc|exact jZ|exact zR|exact zG|exact zB|exact zO|exact isT|exact isF|exact ll0|exact ll1|exact ll2|exact ll3|exact ll4|exact qU|exact qL .. | exact qy .. | exact qr .. | exact qu .. | exact zD .. | exact qP .. | exact qp .. | assumption|apply qS|apply qV|apply zC|apply zA|apply zI|apply zL|apply zQ|apply zS|apply qX|apply zP|apply zF|apply jX|apply g_ite|apply zK|apply qQ|apply ja|apply qN|apply zH|apply cT|apply cF|apply t_1|apply t_2|apply t_0|apply t_3|apply f_0|apply f_1|apply jY|apply qR|apply zN|apply zM|apply qT|apply qz|apply qo|apply qD3|apply jG|apply jW|apply jb)|((with_reducible apply zJ);exact cN rfl)|((with_reducible apply qW);exact rfl)|((with_reducible apply qF);exact rfl)|assumption|exact nF rfl|exact nT rfl|rfl
 exact zq t35 ⟨rfl,by decide⟩ (by omega) rfl rfl z (qA rfl)
structure Shr(q:Rat):Prop where
 u:U q
 d:q.den<=999999999999
theorem qDG(hk:3<=k){q:Rat}(h:Shr q)(M:Mem):Pk (glT gs) Tb.fns Cs k 36 [R q] M=.ok (bT true,M):=by
 rw[qM t36 ⟨rfl,by decide⟩ (by omega),b36,show Cs.getD 36 []=[] from rfl];have e:=qCH (k:=k-1) (by omega) (q:=q) (wo h.d (by decide)) M;obtain⟨a,b⟩:=Fr.num_le h.u;have c1:∀{M:Mem},qk M .le (N 0) (I q.num)=some true:=λ{M}=>by rw[show N 0=I 0 from rfl,c6,uB a]
 have c2:∀{M:Mem},qk M .le (I q.num) (I (q.den:Int))=some true:=λ{M}=>by rw[c6,uB b]
 have c3:∀{M:Mem},qk M .le (I (q.den:Int)) (N 999999999999)=some true:=λ{M}=>by
  show qk M .le (N q.den) _=_;rw[qr,uB h.d]
 simp[qEn,e,R0,R1,c1,c2,c3,qA,-c6]
theorem qB4(hk:4<=k){n:Nat}{f:Nat->Rat}(hn:n<=lim)(h:∀t,t<n->Shr (f t))(M:Mem):Pk (glT gs) Tb.fns Cs k 44 [.lst (RL n f),N n] M=.ok (bT true,M):=by
 rw[qM t44 ⟨rfl,by decide⟩ (by omega),b44,show Cs.getD 44 []=[] from rfl];have c:qm [] (.name 0) (pec (glT gs) (Pk (glT gs) Tb.fns Cs (k-1)) .nil) (pe (glT gs) (Pk (glT gs) Tb.fns Cs (k-1)) (.call 36 (.cons (.var 0) .nil))) (RL n f) [] true [none] M=.ok ((.lst ((List.range n).map λ_=>T.v (.bl true)),true),M):=by
  have:=M8 (gl:=glT gs) (P:=Pk (glT gs) Tb.fns Cs (k-1)) (e:=pe (glT gs) (Pk (glT gs) Tb.fns Cs (k-1)) (.call 36 (.cons (.var 0) .nil))) (M:=M) (σ:=[]) (λt=>R (f t)) (λ_=>T.v (.bl true)) (λ_=>true) (List.range n) [] true none (by simpa using hn) λt ht=>by
   simp[qEn,qDG (k:=k-1) (by omega) (h t (wM.mp ht)),bT]
  rw[show ((List.range n).all λ_=>true)=true from wS.mpr λ_ _=>rfl]at this;simpa [RL] using this
 have al:∀{M:Mem},jS M .all [.lst ((List.range n).map λ_=>T.v (.bl true))]=some (bT true):=λ{M}=>by
  rw[qDF (λ_=>true),show ((List.range n).all λ_=>true)=true from wS.mpr λ_ _=>rfl]
 simp[QS,JI,c,al,qA,-Zn]
theorem qAK(hk:1<=k){s:Nat}(h1:1<=s)(h5:s<=5)(M:Mem):Pk (glT gs) Tb.fns Cs k 6 [N (2 ^ s)] M=.ok (bT true,M):=by
 rw[qM t6 ⟨rfl,by decide⟩ (by omega),b6,show Cs.getD 6 []=[] from rfl];have:s=1\/s=2\/s=3\/s=4\/s=5:=by omega
 have g:(glT gs)[0]?=some (.tup [N 1,N 2,N 4,N 8,N 16,N 32]):=rfl;have sl:∀{σ:TS}{M:Mem},pe (glT gs) (Pk (glT gs) Tb.fns Cs (k-1)) (.sl (.glob 0) (.cons (nE 1) .nil) .nil) σ M=.ok ((.tup [N 2,N 4,N 8,N 16,N 32],true),M):=λ{σ M}=>by
  rw[qBz,pe_glob,g];simp;rfl
 have e:∀{M:Mem},qk M .inn (N (2 ^ s)) (.tup [N 2,N 4,N 8,N 16,N 32])=some true:=λ{M}=>by
  rcases this with rfl|rfl|rfl|rfl|rfl<;>rfl
 simp[-qBz,sl,e,qA]
theorem qCo(hk:5<=k){s:Nat}(h1:1<=s)(h5:s<=5){f:Nat->Rat}(h:∀t,t<2 ^ s->Shr (f t))(M:Mem):Pk (glT gs) Tb.fns Cs k 43 [.lst (RL (2 ^ s) f)] M=.ok (bT true,M):=by
 rw[qM t43 ⟨rfl,by decide⟩ (by omega),b43,show Cs.getD 43 []=[] from rfl];have l:2 ^ s<=lim:=wL (wy (by decide) h5) (by decide);simp[QS,JI,qAK (k:=k-1) (by omega) h1 h5,qB4 (k:=k-1) (by omega) l h,qA]
theorem U4(hk:6<=k){s:Nat}(h1:1<=s)(h5:s<=5){f:Nat->Rat}(h:∀t,t<2 ^ s->Shr (f t))(M:Mem):Pk (glT gs) Tb.fns Cs k 42 [.lst (RL (2 ^ s) f)] M=.ok ((.v .non,true),M):=by
 rw[qM t42 ⟨rfl,by decide⟩ (by omega),b42,show Cs.getD 42 []=[] from rfl];simp[qCo (k:=k-1) (by omega) h1 h5 h,Qh]
structure Row(s:Nat)(f:Nat->Rat)(b:Nat->Nat):Prop where
 u:∀t,t<2 ^ s->U (f t)
 d:∀t,t<2 ^ s->Dv (f t) (b t)
 p:∀t,t<2 ^ s->0<b t
 l:pr s b<2 ^ 1990
theorem Row.sz{s:Nat}{f:Nat->Rat}{b:Nat->Nat}(r:Row s f b){t:Nat}(ht:t<2 ^ s):Sz (f t):=szU (r.u t ht) (r.d t ht) (r.p t ht) (wo (Fr.le_pr s b r.p t ht) r.l)
theorem Row.wor{s:Nat}{f:Nat->Rat}{b:Nat->Nat}(r:Row (s+1) f b):Row s (λt=>wor (f t) (f (2 ^ s+t))) λt=>b t*b (2 ^ s+t):=by
 have:=Fr.p2 s;exact⟨λt ht=>Fr.wor_U (r.u t (by omega)) (r.u _ (by omega)),λt ht=>(r.d t (by omega)).wor (r.d _ (by omega)),λt ht=>Nat.mul_pos (r.p t (by omega)) (r.p _ (by omega)),r.l⟩
theorem Row.mul{s:Nat}{f:Nat->Rat}{b:Nat->Nat}(r:Row (s+1) f b):Row s (λt=>f t*f (2 ^ s+t)) λt=>b t*b (2 ^ s+t):=by
 have:=Fr.p2 s;exact⟨λt ht=>Fr.mul_U (r.u t (by omega)) (r.u _ (by omega)),λt ht=>(r.d t (by omega)).mul (r.d _ (by omega)),λt ht=>Nat.mul_pos (r.p t (by omega)) (r.p _ (by omega)),r.l⟩
theorem Row.sum{s:Nat}{f:Nat->Rat}{b:Nat->Nat}(r:Row (s+1) f b){t:Nat}(ht:t<2 ^ s):Sz (f t+f (2 ^ s+t)):=by
 have:=Fr.p2 s;have a:=r.u t (by omega);have c:=r.u (2 ^ s+t) (by omega);have q:=r.wor;exact _M.sz ⟨by have:=a.1;have:=c.1;grind,by have:=a.2;have:=c.2;grind⟩ (((r.d t (by omega)).up _).add ((r.d _ (by omega)).up' _)) (q.p t ht) (wo (Fr.le_pr s _ q.p t ht) q.l)
theorem qDI(hk:4<=k){s:Nat}{f:Nat->Rat}{b:Nat->Nat}(r:Row (s+1) f b){t:Nat}(ht:t<2 ^ s)(M:Mem):Pk (glT gs) Tb.fns Cs k 46 [R (f t),R (f (2 ^ s+t))] M=.ok ((R (wor (f t) (f (2 ^ s+t))),true),M):=by
 have:=Fr.p2 s;have e1:=λM=>qHN (k:=k-1) (by omega) (r.sz (t:=t) (by omega)) (r.sz (t:=2 ^ s+t) (by omega)) M;have e2:=λM=>qEO (k:=k-1) (by omega) (r.sz (t:=t) (by omega)) (r.sz (t:=2 ^ s+t) (by omega)) M;have e3:=λM=>qFn (k:=k-1) (by omega) (r.sum ht) (r.mul.sz ht) M;have e1:=e1 M;have e2:=e2 M;have e3:=e3 M;have z:pxs (glT gs) (Pk (glT gs) Tb.fns Cs (k-1)) [] b46 [some (R (f t)),some (R (f (2 ^ s+t)))] M=.ok (.rt (R (wor (f t) (f (2 ^ s+t))),true),M):=by
  rw[b46]
  repeat' first|with_reducible (first|exact e1|exact e2|exact e3|exact zE|exact zU|exact jc|exact jZ|exact zR|exact zG|exact zB|exact zO|exact isT|exact isF|exact ll0|exact ll1|exact ll2|exact ll3|exact ll4|exact qU|exact qZ|exact qL .. | exact qy .. | exact qr .. | exact qu .. | exact zD .. | exact qP .. | exact qp .. | assumption|apply qS|apply qV|apply zC|apply zA|apply zI|apply zL|apply zQ|apply zS|apply qX|apply zP|apply zF|apply jX|apply g_ite|apply zK|apply qQ|apply ja|apply qN|apply zH|apply cT|apply cF|apply t_1|apply t_2|apply t_0|apply t_3|apply f_0|apply f_1|apply jY|apply qR|apply zN|apply zM|apply qT|apply qz|apply qo|apply jG|apply jW|apply jb)|((with_reducible apply zJ);exact cN rfl)|((with_reducible apply qW);exact rfl)|((with_reducible apply qF);exact rfl)|assumption|exact nF rfl|exact nT rfl|rfl
 exact zq t46 ⟨rfl,by decide⟩ (by omega) rfl rfl z (qA rfl)
theorem qDS(hk:5<=k){s:Nat}(hs:s<=5){f:Nat->Rat}{b:Nat->Nat}(r:Row (s+1) f b)(M:Mem):Pk (glT gs) Tb.fns Cs k 45 [.lst (RL (2 ^ (s+1)) f)] M=.ok ((.tup [.lst (RL (2 ^ s) λt=>wor (f t) (f (2 ^ s+t))),.lst (RL (2 ^ s) λt=>f t*f (2 ^ s+t))],false),M):=by
 have p:=Fr.p2 s;have h5:2 ^ s<=2 ^ 5:=wy (n:=2) (by decide) hs;have fd:∀{M:Mem},zW M .fdiv (N (2 ^ (s+1))) (N 2)=some (N (2 ^ s),true):=λ{M}=>by rw[ZZ (by decide),p,show (2 ^ s+2 ^ s) / 2=2 ^ s by omega]
 have cx:∀(fn:Nat) (h:Nat->Rat),(∀t,t<2 ^ s->∀M,Pk (glT gs) Tb.fns Cs (k-1) fn [R (f t),R (f (2 ^ s+t))] M=.ok ((R (h t),true),M))->qm [] (.name 0) (pec (glT gs) (Pk (glT gs) Tb.fns Cs (k-1)) .nil) (pe (glT gs) (Pk (glT gs) Tb.fns Cs (k-1)) (.call fn (.cons (.idx (.var 2) (.var 0)) (.cons (.idx (.var 2) (.bin .add (.var 1) (.var 0))) .nil)))) ((List.range (2 ^ s)).map N) [] true [none,some (N (2 ^ s)),some (.lst (RL (2 ^ (s+1)) f))] M=.ok ((.lst (RL (2 ^ s) h),true),M):=λfn h he=>by
  have:=M8 (gl:=glT gs) (P:=Pk (glT gs) Tb.fns Cs (k-1)) (e:=pe (glT gs) (Pk (glT gs) Tb.fns Cs (k-1)) (.call fn (.cons (.idx (.var 2) (.var 0)) (.cons (.idx (.var 2) (.bin .add (.var 1) (.var 0))) .nil)))) (M:=M) (σ:=[some (N (2 ^ s)),some (.lst (RL (2 ^ (s+1)) f))]) N (λt=>R (h t)) (λ_=>true) (List.range (2 ^ s)) [] true none (by simp[lim];omega) λt ht=>by
   have ht:=wM.mp ht;have i1:=qAS (f:=f) (n:=2 ^ (s+1)) (i:=t) (by omega);have i2:=qAS (f:=f) (n:=2 ^ (s+1)) (i:=2 ^ s+t) (by omega);have he:=he t ht M;have ad:=qL (M:=M) (2 ^ s) t
   change pe _ _ _ [some _,some _,some _] _=_
   repeat' first|with_reducible (first|exact i1|exact i2|exact he|exact ad|exact jG i1|exact jG i2|exact zE|exact zU|exact zh|exact jc|exact jZ|exact zR|exact zG|exact zB|exact zO|exact isT|exact isF|exact ll0|exact ll1|exact ll2|exact ll3|exact ll4|exact qU|exact qZ|exact qf|exact qL .. | exact qy .. | exact qr .. | exact qu .. | exact zD .. | exact qP .. | exact qp .. | assumption|apply qS|apply qV|apply zC|apply zA|apply zI|apply zL|apply zQ|apply zS|apply qX|apply zP|apply zF|apply jX|apply g_ite|apply zK|apply qQ|apply ja|apply qN|apply zH|apply cT|apply cF|apply t_1|apply t_2|apply t_0|apply t_3|apply f_0|apply f_1|apply ZJ|apply jY|apply qR|apply zN|apply zM|apply qT|apply qz|apply jG|apply jW|apply jb)|((with_reducible apply zJ);exact cN rfl)|((with_reducible apply qW);exact rfl)|((with_reducible apply qF);exact rfl)|assumption|rfl
  rw[show ((List.range (2 ^ s)).all λ_=>true)=true from wS.mpr λ_ _=>rfl]at this;simpa [RL] using this
 have c1:=cx 46 _ λt ht M=>qDI (k:=k-1) (by omega) r ht M;have c2:=cx 41 _ λt ht M=>qEO (k:=k-1) (by omega) (r.sz (t:=t) (by omega)) (r.sz (t:=2 ^ s+t) (by omega)) M;have rg:=zx (n:=2 ^ s) (by omega);have ln:jS M .len [.lst (RL (2 ^ (s+1)) f)]=some (N (2 ^ (s+1)),true):=by rw[qAp,JI]
 have z:pxs (glT gs) (Pk (glT gs) Tb.fns Cs (k-1)) [] b45 [some (.lst (RL (2 ^ (s+1)) f)),none,none,none] M=.ok (.rt (.tup [.lst (RL (2 ^ s) λt=>wor (f t) (f (2 ^ s+t))),.lst (RL (2 ^ s) λt=>f t*f (2 ^ s+t))],false),M):=by
  rw[b45]
  repeat' first|with_reducible (first|exact ln|exact fd|exact rg|exact c1|exact c2|exact zE|exact zU|exact zh|exact zj|exact jc|exact jZ|exact zR|exact zG|exact zB|exact zO|exact isT|exact isF|exact ll0|exact ll1|exact ll2|exact ll3|exact ll4|exact qU|exact qZ|exact qf|exact qj|exact qL .. | exact qy .. | exact qr .. | exact qu .. | exact zD .. | exact qP .. | exact qp .. | assumption|apply qS|apply qV|apply zC|apply zA|apply zI|apply zL|apply zQ|apply zS|apply qX|apply zP|apply zF|apply jX|apply g_ite|apply zK|apply qQ|apply ja|apply qN|apply zH|apply cT|apply cF|apply t_1|apply t_2|apply t_0|apply t_3|apply f_0|apply f_1|apply jY|apply qR|apply zN|apply zM|apply qT|apply qz|apply qo|apply jG|apply jW|apply jb)|((with_reducible apply zJ);exact cN rfl)|((with_reducible apply qW);exact rfl)|((with_reducible apply qF);exact rfl)|assumption|exact nF rfl|exact nT rfl|rfl
 exact zq t45 ⟨rfl,by decide⟩ (by omega) rfl rfl z (qA rfl)
theorem qCb:∀(s k:Nat) (f:Nat->Rat) (b:Nat->Nat) (M:Mem),s+6<=k->s<=5->Row s f b->Pk (glT gs) Tb.fns Cs k 48 [.lst (RL (2 ^ s) f)] M=.ok ((.lst (RL (2 ^ s) (sh s f)),true),M)
 | 0,k,f,b,M,hk,hs,r=>by
  rw[qM t48 ⟨rfl,by decide⟩ (by omega),b48,show Cs.getD 48 []=[] from rfl];simp[JI,lT,qC8,qA];rfl
 |s+1,k,f,b,M,hk,hs,r=>by
  have p:=Fr.p2 s;have h5:2 ^ s<=2 ^ 5:=wy (n:=2) (by decide) (by omega);have q:0<2 ^ s:=vT (by decide);have n1:¬ 2 ^ (s+1)=1:=by omega
  have e:=λM=>qDS (k:=k-1) (by omega) (by omega) r M;have e1:=λM=>qCb s (k-1) _ _ M (by omega) (by omega) r.wor;have e2:=λM=>qCb s (k-1) _ _ M (by omega) (by omega) r.mul;have ad:∀{M:Mem},zW M .add (.lst (RL (2 ^ s) (sh s λt=>wor (f t) (f (2 ^ s+t))))) (.lst (RL (2 ^ s) (sh s λt=>f t*f (2 ^ s+t))))=some (.lst (RL (2 ^ (s+1)) (sh (s+1) f)),true):=λ{M}=>by
   rw[i9 (by simp[JI,lim];omega)];rw[O3,O3,O3 (2 ^ (s+1)),Fr.sh_list,<-vL];unfold lT;rw[W9]
  have e:=e M;have e1:=e1 M;have e2:=e2 M;have ln:jS M .len [.lst (RL (2 ^ (s+1)) f)]=some (N (2 ^ (s+1)),true):=by rw[qAp,JI]
  have nn:qk M .eq (N (2 ^ (s+1))) (N 1)=some false:=by rw[qP,uA n1]
  have z:pxs (glT gs) (Pk (glT gs) Tb.fns Cs (k-1)) [] b48 [some (.lst (RL (2 ^ (s+1)) f)),none] M=.ok (.rt (.lst (RL (2 ^ (s+1)) (sh (s+1) f)),true),M):=by
   rw[b48]
   repeat' first|with_reducible (first|exact ln|exact nn|exact e|exact e1|exact e2|exact ad|exact lk0 .. | exact lk1 .. | exact zE|exact zU|exact jc|exact jZ|exact zR|exact zG|exact zB|exact zO|exact isT|exact isF|exact ll0|exact ll1|exact ll2|exact ll3|exact ll4|exact qU|exact qZ|exact qL .. | exact qy .. | exact qr .. | exact qu .. | exact zD .. | exact qP .. | exact qp .. | assumption|apply qS|apply qV|apply zC|apply zA|apply zI|apply zL|apply zQ|apply zS|apply qX|apply zP|apply zF|apply jX|apply g_ite|apply zK|apply qQ|apply ja|apply qN|apply zH|apply cT|apply cF|apply t_1|apply t_2|apply t_0|apply t_3|apply f_0|apply f_1|apply jY|apply qR|apply zN|apply zM|apply qT|apply qz|apply qo|apply jG|apply jW|apply jb)|((with_reducible apply zJ);exact cN rfl)|((with_reducible apply qW);exact rfl)|((with_reducible apply qF);exact rfl)|assumption|exact nF rfl|exact nT rfl|rfl
  exact zq t48 ⟨rfl,by decide⟩ (by omega) rfl rfl z (qA rfl)
theorem qDL(hk:12<=k){s:Nat}(h1:1<=s)(h5:s<=5){f:Nat->Rat}{b:Nat->Nat}(h:∀t,t<2 ^ s->Shr (f t))(r:Row s f b)(M:Mem):Pk (glT gs) Tb.fns Cs k 47 [.lst (RL (2 ^ s) f)] M=.ok ((.lst (RL (2 ^ s) (sh s f)),true),M):=by
 rw[qM t47 ⟨rfl,by decide⟩ (by omega),b47,show Cs.getD 47 []=[] from rfl];simp[U4 (k:=k-1) (by omega) h1 h5 h,qCb s (k-1) f b _ (by omega) h5 r,qA]
end
end _M
namespace _M
open PySem PySem.Spec _P
open _L (V)
open Fr (U sh)
open _B (bits qC2 evB J0 Zo)
theorem jK:∀(s:Nat){S S':Nat->Bool}{p:Nat},p<2 ^ s->(∀t,t<2 ^ s->S t=true->S' t=true)->lp s S p=true->lp s S' p=true
 | 0,S,S',p,hp,h,e=>h p hp e
 |s+1,S,S',p,hp,h,e=>by
  have q:=p2 s;unfold lp at e ⊢;split
  ·rename_i hq;rw[if_pos hq]at e;exact jK s hq (λt ht z=>by
    rw[vK]at z ⊢;exact z.imp (h t (by omega)) (h _ (by omega))) e
  ·rename_i hq;rw[if_neg hq]at e;exact jK s (by omega) (λt ht z=>by
    rw[wB]at z ⊢;exact⟨h t (by omega) z.1,h _ (by omega) z.2⟩) e
noncomputable def ck:Nat->Nat->Nat->(Nat->Nat)->Bool
 | 0,_,_,_=>false
 |s+1,a,b,f=>
  if a<2 ^ s/\b<2 ^ s then (List.range (2 ^ s)).all (λx=>decide (f x<2 ^ s)&&decide (f (x+2 ^ s)=f x+2 ^ s))&&ck s a b f
  else if 2 ^ s<=a/\2 ^ s<=b then (List.range (2 ^ s)).all (λx=>decide (f x<2 ^ s)&&decide (f (x+2 ^ s)=f x+2 ^ s))&&ck s (a-2 ^ s) (b-2 ^ s) f
  else if b=a+2 ^ s then (List.range (2 ^ s)).all (λx=>decide (f x=x)&&decide (f (x+2 ^ s)=x+2 ^ s))
  else match s with
   | 0=>false
   |r+1=>decide (2 ^ r<=a)&&decide (a<2 ^ r+2 ^ r)&&decide (a+2 ^ r=b)&&(List.range (2 ^ r)).all λx=>decide (f x=x)&&decide (f (x+2 ^ r)=x+2 ^ (r+1))&&decide (f (x+2 ^ (r+1))=x+2 ^ r)&&decide (f (x+2 ^ r+2 ^ (r+1))=x+2 ^ r+2 ^ (r+1))
theorem qCv:∀(s a b:Nat) (f:Nat->Nat) (S:Nat->Bool),a<2 ^ s->b<2 ^ s->ck s a b f=true->lp s S b=true->lp s (λy=>S (f y)) a=true
 | 0,a,b,f,S,_,_,h,_=>by unfold ck at h;cases h
 |s+1,a,b,f,S,ha,hb,h,e=>by
  have q:=p2 s;unfold ck at h;split at h
  ·rename_i hc;rw[wB,wS]at h;unfold lp at e ⊢;rw[if_pos hc.2]at e;rw[if_pos hc.1];have ih:=qCv s a b f _ hc.1 hc.2 h.2 e;refine jK s hc.1 (λt ht z=>?_) ih;have:=h.1 t (wM.mpr ht);rw[wB,uC,uC]at this;show (S (f t)||S (f (t+2 ^ s)))=true;rw[this.2];exact z
  ·rename_i hc;split at h
   ·rename_i hc2;rw[wB,wS]at h;unfold lp at e ⊢;rw[if_neg (by omega)]at e;rw[if_neg (by omega)];have ih:=qCv s (a-2 ^ s) (b-2 ^ s) f _ (by omega) (by omega) h.2 e;refine jK s (by omega) (λt ht z=>?_) ih;have:=h.1 t (wM.mpr ht);rw[wB,uC,uC]at this;show (S (f t)&&S (f (t+2 ^ s)))=true;rw[this.2];exact z
   ·rename_i hc2;split at h
    ·rename_i hc3;rw[wS]at h;unfold lp at e ⊢;rw[if_neg (by omega),hc3,Nat.add_sub_cancel]at e;rw[if_pos (by omega)];refine jK s (by omega) (λt ht z=>?_) e;have:=h t (wM.mpr ht);rw[wB,uC,uC]at this;rw[wB]at z;show (S (f t)||S (f (t+2 ^ s)))=true;rw[this.1,z.1];rfl
    ·rename_i hc3;cases s with
     |zero=>cases h
     |succ r=>
      have q2:=p2 r;dsimp only at h;simp only[wB,uC,wS]at h;obtain⟨⟨⟨h1,h2⟩,h3⟩,h4⟩:=h;have eb:b-2 ^ (r+1)=a-2 ^ r:=by omega
      unfold lp at e;rw[if_neg (by omega),eb]at e;unfold lp at e;rw[if_pos (by omega)]at e;unfold lp;rw[if_pos (by omega)];unfold lp;rw[if_neg (by omega)];refine jK r (by omega) (λt ht z=>?_) e;obtain⟨⟨⟨g1,g2⟩,g3⟩,g4⟩:=h4 t (wM.mpr ht);show ((S (f t)||S (f (t+2 ^ (r+1))))&&(S (f (t+2 ^ r))||S (f (t+2 ^ r+2 ^ (r+1)))))=true;rw[g1,g2,g3,g4];have z:((S t&&S (t+2 ^ (r+1)))||(S (t+2 ^ r)&&S (t+2 ^ r+2 ^ (r+1))))=true:=z;revert z;generalize S t=x1,S (t+2 ^ (r+1))=x2,S (t+2 ^ r)=x3,S (t+2 ^ r+2 ^ (r+1))=x4;cases x1<;>cases x2<;>cases x3<;>cases x4<;>decide
noncomputable def leC(x y:List Nat):Bool:=decide (x.length=y.length)&&(List.range x.length).all λi=>decide (x.getD i 0<=y.getD i 0)
theorem qAh(x:List Nat):leC x x=true:=by
 unfold leC;rw[uB rfl,Bool.true_and,wS];exact λi _=>uB (wF _)
theorem l8{x y z:List Nat}(h:leC x y=true)(g:leC y z=true):leC x z=true:=by
 unfold leC at *;simp only[wB,uC,wS,wM]at *;exact⟨h.1.trans g.1,λi hi=>wL (h.2 i hi) (g.2 i (by omega))⟩
noncomputable def cks(s a b:Nat):Bool:=match tP s a b with
 |none=>true
 |some st=>ck s a b (λx=>st.getD x 0)&&st.isPerm (List.range (2 ^ s))&&(List.range (2 ^ s)).all λx=>decide (st.getD (st.getD x 0) 0=x)
noncomputable def ckc(s a b:Nat):Bool:=match tP s a b with
 |none=>true
 |some _=>qC2 (bits s a) (bits s b)&&leC (tb s b).1 (tb s a).1&&(List.range' 1 s).all λm=>decide (w4 (a / 2 ^ (s-m))<=w4 (b / 2 ^ (s-m)))
theorem qF8:∀s,s<6->∀a,a<2 ^ s->∀b,b<2 ^ s->cks s a b=true:=by decide +kernel
theorem qF0:∀s,s<6->∀a,a<2 ^ s->∀b,b<2 ^ s->ckc s a b=true:=by decide +kernel
structure Rw(s w b:Nat)(r U:List Nat):Prop where
 x:∀x∈w::r,x<2 ^ s
 l:(w::r).getLast?=some b
 t:tL s (List.range (2 ^ s)) (w::r)=some U
theorem Rw.ind{s:Nat}(hs:s<=5){Q:Nat->Nat->List Nat->Prop}(h0:∀b,b<2 ^ s->Q b b (List.range (2 ^ s)))(h1:∀p q b st W,p<2 ^ s->q<2 ^ s->tP s p q=some st->(∀x∈W,x<2 ^ s)->W.length=2 ^ s->Q q b W->Q p b (W.map λx=>st.getD x 0)):∀(r:List Nat) (w b:Nat) (U:List Nat),Rw s w b r U->Q w b U
 | [],w,b,U,h=>by
  have e:w=b:=by simpa using h.l
  have t:some (List.range (2 ^ s))=some U:=h.t;cases t;subst e;exact h0 w (h.x w (by simp))
 |q::r,w,b,U,h=>by
  obtain⟨W,st,e1,e2,rfl⟩:=k0 h.t;have hW:∀x∈W,x<2 ^ s:=n9 hs (λy hy=>wM.mp hy) _ e1;exact h1 w q b st W (h.x w (by simp)) (h.x q (by simp)) e2 hW (qCS _ e1) (Rw.ind hs h0 h1 r q b W ⟨λx hx=>h.x x (wI _ hx),by have:=h.l;rwa [List.getLast?_cons_cons]at this,e1⟩)
noncomputable def im(n:Nat)(W:List Nat)(S:Nat->Bool)(y:Nat):Bool:=(List.range n).any λx=>S x&&decide (W.getD x 0=y)
theorem im_iff{n:Nat}{W:List Nat}{S:Nat->Bool}{y:Nat}:im n W S y=true↔∃x,x<n/\S x=true/\W.getD x 0=y:=by
 unfold im;rw[List.any_eq_true];constructor
 ·rintro⟨x,hx,h⟩;rw[wB,uC]at h;exact⟨x,wM.mp hx,h.1,h.2⟩
 ·rintro⟨x,hx,h1,h2⟩;exact⟨x,wM.mpr hx,by rw[h1,h2];simp⟩
theorem i6{W st:List Nat}{x:Nat}(h:x<W.length):(W.map λx=>st.getD x 0).getD x 0=st.getD (W.getD x 0) 0:=by
 rw[wR,wg,wE h,Option.map_some,vo,wR (l:=W),wE h,vo]
theorem qA9{s p q:Nat}(hs:s<=5)(hp:p<2 ^ s)(hq:q<2 ^ s){st:List Nat}(h:tP s p q=some st):ck s p q (λx=>st.getD x 0)=true/\st.Perm (List.range (2 ^ s))/\∀x,x<2 ^ s->st.getD (st.getD x 0) 0=x:=by
 have:=qF8 s (by omega) p hp q hq;unfold cks at this;rw[h]at this;dsimp only at this;rw[wB,wB,wS]at this;exact⟨this.1.1,List.isPerm_iff.mp this.1.2,λx hx=>uD (this.2 x (wM.mpr hx))⟩
theorem qE4{s w b:Nat}{r W:List Nat}(hs:s<=5)(h:Rw s w b r W)(S:Nat->Bool)(e:lp s S b=true):lp s (im (2 ^ s) W S) w=true:=by
 refine Rw.ind hs (Q:=λw b W=>∀S,lp s S b=true->lp s (im (2 ^ s) W S) w=true) (λb hb S e=>?_) (λp q b st W hp hq ht hW lW ih S e=>?_) r w b W h S e
 ·refine jK s hb (λt ht z=>im_iff.mpr ⟨t,ht,z,?_⟩) e;rw[wR,vf ht];rfl
 ·obtain⟨c1,c2,c3⟩:=qA9 hs hp hq ht;refine jK s hp (λt ht z=>?_) (qCv s p q _ _ hp hq c1 (ih S e));obtain⟨x,hx,h1,h2⟩:=im_iff.mp z;refine im_iff.mpr ⟨x,hx,h1,?_⟩;rw[i6 (by omega),h2,c3 t ht]
theorem qAc{s w b:Nat}{r W:List Nat}(hs:s<=5)(h:Rw s w b r W):W.Perm (List.range (2 ^ s)):=by
 refine Rw.ind hs (Q:=λ_ _ W=>W.Perm (List.range (2 ^ s))) (λb hb=>.refl _) (λp q b st W hp hq ht hW lW ih=>?_) r w b W h;obtain⟨_,c2,_⟩:=qA9 hs hp hq ht;have e:(List.range (2 ^ s)).map (λx=>st.getD x 0)=st:=by
  have l:st.length=2 ^ s:=by rw[c2.length_eq,vA]
  refine List.ext_getElem? λi=>?_;rw[wg];by_cases hi:i<2 ^ s
  ·rw[vf hi,Option.map_some,wR,wE (by omega)];rfl
  ·rw[wt (by simp;omega),wt (by omega)];rfl
 have:=ih.map λx=>st.getD x 0;rw[e]at this;exact this.trans c2
theorem V4{s p q:Nat}(hs:s<=5)(hp:p<2 ^ s)(hq:q<2 ^ s){st:List Nat}(h:tP s p q=some st):qC2 (bits s p) (bits s q)=true/\leC (cnt s q) (cnt s p)=true/\∀m,1<=m->m<=s->w4 (p / 2 ^ (s-m))<=w4 (q / 2 ^ (s-m)):=by
 have:=qF0 s (by omega) p hp q hq;unfold ckc at this;rw[h]at this;dsimp only at this;rw[wB,wB,wS]at this;rw[Y9 hs hp,Y9 hs hq];exact⟨this.1.1,this.1.2,λm h1 h2=>uD (this.2 m (List.mem_range'_1.mpr ⟨h1,by omega⟩))⟩
theorem qGO{s w b:Nat}{r W:List Nat}(hs:s<=5)(h:Rw s w b r W):leC (cnt s b) (cnt s w)=true:=
 Rw.ind hs (Q:=λw b _=>leC (cnt s b) (cnt s w)=true) (λb _=>qAh _) (λp q b st W hp hq ht hW lW ih=>l8 ih (V4 hs hp hq ht).2.1) r w b W h
theorem qGN{s w b:Nat}{r W:List Nat}(hs:s<=5)(h:Rw s w b r W):fnd s w b=none:=by
 have:=Rw.ind hs (Q:=λw b _=>∀m,1<=m->m<=s->w4 (w / 2 ^ (s-m))<=w4 (b / 2 ^ (s-m))) (λb _ _ _ _=>wF _) (λp q b st W hp hq ht hW lW ih m h1 h2=>wL ((V4 hs hp hq ht).2.2 m h1 h2) (ih m h1 h2)) r w b W h;unfold fnd;rw[List.find?_eq_none];intro m hm;obtain⟨m1,m2⟩:=List.mem_range'_1.mp hm;unfold few;have:=this m m1 (by omega);simp;omega
theorem qDA{s w b:Nat}{r W:List Nat}(hs:s<=5)(h:Rw s w b r W){z:Rat}(hz:U z):sh s (λ_=>z) b<=sh s (λ_=>z) w:=by
 refine Rw.ind hs (Q:=λw b _=>sh s (λ_=>z) b<=sh s (λ_=>z) w) (λb _=>Rat.le_refl) (λp q b st W hp hq ht hW lW ih=>Rat.le_trans ih ?_) r w b W h;have:=J0 _ _ (V4 hs hp hq ht).1 hz
 rwa [<-Zo s z p hp,<-Zo s z q hq]at this
theorem K2{n:Nat}{W:List Nat}(hW:W.Perm (List.range n))(S:Nat->Bool):(rf n (im n W S)).Perm ((rf n S).map (pg W)):=by
 have l:W.length=n:=by rw[hW.length_eq,vA]
 have nd:W.Nodup:=hW.nodup_iff.mpr List.nodup_range;refine qF6 ?_ λy=>?_
 ·unfold List.Nodup;rw[vn];refine(Q9 n S).imp_of_mem λ{a b} ha hb ne e=>ne ?_;have ha:=(mem_rf.mp ha).1;have hb:=(mem_rf.mp hb).1;unfold pg at e;rw[wR,wR,wE (show a<W.length by omega),wE (show b<W.length by omega)]at e;exact(List.getElem_inj nd).mp e
 ·rw[ve,im_iff];constructor
  ·rintro⟨x,hx,rfl⟩;obtain⟨h1,h2⟩:=mem_rf.mp hx;refine⟨?_,x,h1,h2,rfl⟩;have:pg W x∈W:=by
    unfold pg;rw[wR,wE (show x<W.length by omega)];exact vc _
   exact wM.mp (hW.mem_iff.mp this)
  ·rintro⟨_,x,h1,h2,h3⟩;exact⟨x,mem_rf.mpr ⟨h1,h2⟩,h3⟩
end _M
namespace _M
open PySem PySem.Spec _P
open _L (V)
section
variable{k:Nat}
theorem qDX{M:Mem}{n:Nat}{K:List Nat}{l y:Nat}(h:M[n]?=some ((K++[l,y]).map N)):QX M (.cell n) (.v (.int (-2)))=some (N l,true):=by
 show (M[n]?).bind _=_;rw[h,Option.bind_some];have:ixN ((K++[l,y]).map N).length (-2)=some K.length:=by
  unfold ixN _L.ixN;simp;omega
 rw[this,Option.bind_some];simp
noncomputable def tss(s:Nat):Nat->List Nat->List (List Nat)
 |_,[]=>[]
 |p,q::r=>(match kL s p q with|some (sh,j)=>tK s sh j|none=>[])::tss s q r
theorem d9{s l q:Nat}{sh:Bool}{j:Nat}(hk:kL s l q=some (sh,j)):∀(r:List Nat) (w:Nat),(w::r).getLast?=some l->tss s w (r++[q])=tss s w r++[tK s sh j]
 | [],w,hl=>by
  have:w=l:=by simpa using hl
  subst this;simp[tss,hk]
 |x::r,w,hl=>by
  rw[List.cons_append,tss,d9 hk r x (by rwa [List.getLast?_cons_cons]at hl),tss,List.cons_append]
theorem j9(s:Nat):∀(r:List Nat) (w:Nat),(tss s w r).length=r.length
 | [],w=>rfl
 |q::r,w=>by rw[tss,List.length_cons,j9 s r q];rfl
noncomputable def trn(t:List Nat)(L:List (List Nat)):List Nat:=L.foldr (λst U=>U.map λx=>st.getD x 0) t
theorem qA6{s:Nat}(hs:s<=5)(t:List Nat):∀(r:List Nat) (w:Nat),w<2 ^ s->stp s w r=true->tL s t (w::r)=some (trn t (tss s w r))
 | [],w,_,_=>rfl
 |q::r,w,hw,h=>by
  unfold stp at h;rw[wB,wB,uC]at h;obtain⟨⟨a,b⟩,c⟩:=h;rw[Zi hs hw a]at b;obtain⟨st,hst⟩:=vR.mp b;obtain⟨sh,j,e1,e2,_⟩:=G8 hs hw a hst;rw[tL,qA6 hs t r q a c,hst,tss,e1,e2];rfl
theorem qAr{s:Nat}(hs:s<=5):∀(r:List Nat) (w:Nat),w<2 ^ s->stp s w r=true->∀st∈tss s w r,st.length=2 ^ s/\∀y∈st,y<2 ^ s
 | [],w,_,_,st,h=>by cases h
 |q::r,w,hw,h,st,hm=>by
  unfold stp at h;rw[wB,wB,uC]at h;obtain⟨⟨a,b⟩,c⟩:=h;rw[Zi hs hw a]at b;obtain⟨st',hst⟩:=vR.mp b;obtain⟨sh,j,e1,e2,_⟩:=G8 hs hw a hst;rw[tss,e1]at hm;rcases wP.mp hm with rfl|hm
  ·dsimp only;rw[<-e2];exact⟨qBE hst,qD0 hs hst⟩
  ·exact qAr hs r q a c st hm
theorem qFV(sh:Bool)(j:Nat):oK (some (sh,j))=kT sh j:=by cases sh<;>rfl
noncomputable abbrev NLs(L:List (List Nat)):List T:=L.map NL
theorem X4(n:Nat):∀L:List (List Nat),T.unds n (NLs L)=true
 | []=>rfl
 |x::L=>by
  show (T.und n (NL x)&&T.unds n (NLs L))=true;rw[X4 n L,vg];unfold NL T.und;exact N8 _ x
theorem qGL(hk:3<=k){s w n:Nat}(h1:1<=s)(hs:s<=5)(hw:w<2 ^ s){o2 o8:Option T}:∀(its:List Nat) (r:List Nat) (A:Mem) (o6 o7:Option T),Good A n->FlatM A->stp s w r=true->r.length+its.length<=50->(∀x∈w::r,x<2 ^ s)->∃r' p6 p7 A',
  zg [] (.name 6) (pxs (glT gs) (Pk (glT gs) Tb.fns Cs k) [4,5] i4) (its.map N) [some (.cell n),some (N s),o2,some (N (2 ^ s)),some (.cell A.length),some (.cell (A.length+1)),o6,o7,o8] (A++[(w::r).map N,NLs (tss s w r)])=.ok (.nx [some (.cell n),some (N s),o2,some (N (2 ^ s)),some (.cell A.length),some (.cell (A.length+1)),p6,p7,o8],A'++[(w::r').map N,NLs (tss s w r')])/\Kept n A A'/\stp s w r'=true/\r'.length<=r.length+its.length/\∀x∈w::r',x<2 ^ s
 | [],r,A,o6,o7,g,F,h,hl,hx=>⟨r,o6,o7,A,rfl,⟨g,rfl,λ_ _=>rfl⟩,h,by simp,hx⟩
 |i::its,r,A,o6,o7,g,F,h,hl,hx=>by
  simp at hl;have n5:=p5 hs;obtain⟨l,hlast⟩:∃l,(w::r).getLast?=some l:=⟨_,wz (by simp)⟩
  have hl2:l<2 ^ s:=hx l (List.mem_of_getLast? hlast);have g0:(A++[(w::r).map N,NLs (tss s w r)])[A.length]?=some ((w::r).map N):=by simp
  have il:=B9 g0 hlast;have rg:=zx (n:=2 ^ s) (by omega);have c:=Qz (c:=pec (glT gs) (Pk (glT gs) Tb.fns Cs k) (.cons (.cmp .isnot (.call 53 (.cons (.var 2) (.cons (.idx (.var 1) (.neg (nE 1))) (.cons (.var 0) .nil)))) (.cst V.non)) .nil)) (e:=pe (glT gs) (Pk (glT gs) Tb.fns Cs k) (.var 0)) (M:=A++[(w::r).map N,NLs (tss s w r)]) (σ:=[some (.cell A.length),some (N s)]) (o:=none) (its:=List.range (2 ^ s)) (λx=>(kL s l x).isSome) (λx=>x) (by simp[lim];omega) (λx _=>by
   have e27:=f53 (k:=k) (by omega) hs l x (A++[(w::r).map N,NLs (tss s w r)]);have is:=qAX (M:=A++[(w::r).map N,NLs (tss s w r)]) (kL s l x);generalize oK (kL s l x)=ok at *;generalize A++[(w::r).map N,NLs (tss s w r)]=MM at *;simp[il,e27,is]) (λx _ _=>by simp)
  rw[List.map_id']at c;have ne:∀{M:Mem}(L:List Nat),qk M .ne (NL L) (.lst [])=some (!decide (L=[])):=λ{M} L=>(IsL.nl M L).cne (IsL.nl M []);have st9:∀a b c d e f g x y z:Option T,[a,b,c,d,e,f,g,x,y].set 6 z=[a,b,c,d,e,f,z,x,y]:=λ_ _ _ _ _ _ _ _ _ _=>rfl;have hS:∀x∈(List.range (2 ^ s)).filter (λx=>(kL s l x).isSome),x<2 ^ s/\(kL s l x).isSome=true:=λx hx=>⟨wM.mp (vV.mp hx).1,(vV.mp hx).2⟩
  have lS:((List.range (2 ^ s)).filter λx=>(kL s l x).isSome).length<=2 ^ s:=wL (wu _ _) (by simp);generalize (List.range (2 ^ s)).filter (λx=>(kL s l x).isSome)=S at *;rw[List.map_cons,qx,st9];by_cases hn:S=[]
  ·obtain⟨r',q5,q6,A',e,k1,s1,l1,x1⟩:=qGL hk h1 hs hw (n:=n) (o2:=o2) (o8:=o8) its r A (some (N i)) (some (NL S)) g F h (by omega) hx;refine⟨r',q5,q6,A',?_,k1,s1,by simp;omega,x1⟩;have ne':∀{M:Mem},qk M .ne (NL S) (.lst [])=some false:=λ{M}=>by rw[ne,uB hn];rfl
   have body:pxs (glT gs) (Pk (glT gs) Tb.fns Cs k) [4,5] i4 [some (.cell n),some (N s),o2,some (N (2 ^ s)),some (.cell A.length),some (.cell (A.length+1)),some (N i),o7,o8] (A++[(w::r).map N,NLs (tss s w r)])=.ok (.nx [some (.cell n),some (N s),o2,some (N (2 ^ s)),some (.cell A.length),some (.cell (A.length+1)),some (N i),some (NL S),o8],A++[(w::r).map N,NLs (tss s w r)]):=by
    clear e hn;generalize A++[(w::r).map N,NLs (tss s w r)]=MM at *
    rw[i4]
    repeat' first|with_reducible (first|exact rg|exact c|exact ne' | exact zE|exact zU|exact zh|exact zj|exact jH|exact jU|exact JY|exact Jo|exact D2|exact jc|exact jZ|exact zR|exact zG|exact zB|exact zO|exact isT|exact isF|exact ll0|exact ll1|exact ll2|exact ll3|exact ll4|exact qU|exact qZ|exact qf|exact qj|exact zb|exact zn|exact Qc|exact Qk|exact ZE|exact qL .. | exact qy .. | exact qr .. | exact qu .. | exact zD .. | exact qP .. | exact qp .. | assumption|apply qS|apply qV|apply zC|apply zA|apply zI|apply zL|apply zQ|apply zS|apply qX|apply zP|apply zF|apply jX|apply g_ite|apply zK|apply qQ|apply ja|apply qN|apply zH|apply cT|apply cF|apply t_1|apply t_2|apply t_0|apply t_3|apply f_0|apply f_1|apply ZJ|apply jY|apply qR|apply zN|apply zM|apply qT|apply qz|apply jG|apply jW|apply jb)|((with_reducible apply zJ);exact cN rfl)|((with_reducible apply qW);exact rfl)|((with_reducible apply qF);exact rfl)|assumption|exact nF rfl|exact nT rfl|rfl
   rw[body,tD];exact e
  ·have hp:0<S.length:=List.length_pos_iff.mpr hn;obtain⟨d,A1,e1,hd,k1⟩:=qDr (k:=k) (by omega) (B:=[(w::r).map N,NLs (tss s w r)]) g (m:=S.length) (by omega);obtain⟨y,hy⟩:∃y,S[d]?=some y:=⟨_,wE hd⟩
   obtain⟨q1,q2⟩:=hS y (wU hy);have F1:=k1.flat F;have hsy:=p0 q1 q2 r w h hlast;obtain⟨st,hst⟩:=vR.mp (by rw[Zi hs hl2 q1]at q2;exact q2);obtain⟨sh,j,ek,_,hj⟩:=G8 hs hl2 q1 hst;obtain⟨r',q5,q6,A',e,k2,s1,l1,x1⟩:=qGL hk h1 hs hw (n:=n) (o2:=o2) (o8:=o8) its (r++[y]) A1 (some (N i)) (some (NL S)) k1.good F1 hsy (by simp;omega) (λx hx'=>by
    rcases wN.mp (show x∈(w::r)++[y] from hx') with z|z
    ·exact hx x z
    ·rw[wY.mp z];exact q1)
   refine⟨r',q5,q6,A',?_,k1.trans k2,s1,by simp at l1 ⊢;omega,x1⟩;have ne':∀{M:Mem},qk M .ne (NL S) (.lst [])=some true:=λ{M}=>by rw[ne,uA hn];rfl
   have ix:∀{M:Mem},QX M (NL S) (N d)=some (N y,true):=λ{M}=>(IsL.nl M S).idx hy;have tsl:=j9 s r w;have ap:T1 (A1++[(w::r).map N,NLs (tss s w r)]) A.length (N y)=some (A1++[(w::(r++[y])).map N,NLs (tss s w r)]):=by
    rw[<-k1.len,qAn (xs:=(w::r).map N) (by simp) (by simp[lim];omega)];simp
   have ap2:T1 (A1++[(w::(r++[y])).map N,NLs (tss s w r)]) (A.length+1) (NL (tK s sh j))=some (A1++[(w::(r++[y])).map N,NLs (tss s w (r++[y]))]):=by
    rw[<-k1.len,qAn (xs:=NLs (tss s w r)) (by simp) (by simp[lim];omega),d9 ek r w hlast];simp[NLs]
   have ln:∀{M:Mem},jS M .len [NL S]=some (N S.length,true):=λ{M}=>(IsL.nl M S).len;obtain⟨K,hK⟩:∃K,w::r=K++[l]:=by
    refine⟨(w::r).dropLast,?_⟩;rw[wz (by simp)]at hlast;rw[<-Option.some.inj hlast];exact(vD (by simp)).symm
   have gy:(A1++[(w::(r++[y])).map N,NLs (tss s w r)])[A.length]?=some ((w::(r++[y])).map N):=by rw[<-k1.len];simp
   have hKy:w::(r++[y])=K++[l,y]:=by rw[<-List.cons_append,hK];simp
   have i1:=B9 (b:=y) gy (by rw[hKy,show K++[l,y]=(K++[l])++[y] by simp,List.getLast?_concat]);have i2:=qDX (K:=K) (l:=l) (y:=y) (by rw[<-hKy];exact gy);have e53:=f53 (k:=k) (by omega) hs l y (A1++[(w::(r++[y])).map N,NLs (tss s w r)]);rw[ek,qFV]at e53;have ng1:v7 (N 1)=some (.v (.int (-1)),true):=rfl;have ng2:v7 (N 2)=some (.v (.int (-2)),true):=rfl;have F2:FlatM (A1++[(w::(r++[y])).map N,NLs (tss s w r)]):=F1.app λc hc=>by
    rcases wP.mp hc with rfl|hc
    ·exact N8 _ _
    ·rw[wY.mp hc];exact X4 _ _
   have e54:=f54 (k:=k) (by omega) hs hj F2;have body:pxs (glT gs) (Pk (glT gs) Tb.fns Cs k) [4,5] i4 [some (.cell n),some (N s),o2,some (N (2 ^ s)),some (.cell A.length),some (.cell (A.length+1)),some (N i),o7,o8] (A++[(w::r).map N,NLs (tss s w r)])=.ok (.nx [some (.cell n),some (N s),o2,some (N (2 ^ s)),some (.cell A.length),some (.cell (A.length+1)),some (N i),some (NL S),o8],A1++[(w::(r++[y])).map N,NLs (tss s w (r++[y]))]):=by
    clear e hn hd q1 q2 hK hKy gy F F1 F2 g0 tsl;generalize hMM:A++[(w::r).map N,NLs (tss s w r)]=MM at *;generalize hM1:A1++[(w::r).map N,NLs (tss s w r)]=M1 at *;generalize hM2:A1++[(w::(r++[y])).map N,NLs (tss s w r)]=M2 at *;generalize hM3:A1++[(w::(r++[y])).map N,NLs (tss s w (r++[y]))]=M3 at *
    rw[i4]
    repeat' first|with_reducible (first|exact rg|exact c|exact ne' | exact ln|exact e1|exact ix|exact ap|exact i1|exact i2|exact e53|exact e54|exact ap2|exact ng1|exact ng2|exact zE|exact zU|exact zh|exact zj|exact jH|exact jU|exact JY|exact Jo|exact D2|exact jc|exact jZ|exact zR|exact zG|exact zB|exact zO|exact isT|exact isF|exact ll0|exact ll1|exact ll2|exact ll3|exact ll4|exact qU|exact qZ|exact qf|exact qj|exact zb|exact zn|exact Qc|exact Qk|exact ZE|exact qL .. | exact qy .. | exact qr .. | exact qu .. | exact zD .. | exact qP .. | exact qp .. | assumption|apply qS|apply qV|apply zC|apply zA|apply zI|apply zL|apply zQ|apply zS|apply qX|apply zP|apply zF|apply jX|apply g_ite|apply zK|apply qQ|apply ja|apply qN|apply zH|apply cT|apply cF|apply t_1|apply t_2|apply t_0|apply t_3|apply f_0|apply f_1|apply ZJ|apply jY|apply qR|apply zN|apply zM|apply qT|apply qz|apply qCA|apply jG|apply jW|apply jb)|((with_reducible apply zJ);exact cN rfl)|((with_reducible apply qW);exact rfl)|((with_reducible apply qF);exact rfl)|assumption|exact nF rfl|exact nT rfl|rfl
   rw[body,tD];rw[<-k1.len];exact e
theorem trL{s:Nat}(hs:s<=5){a0 a1 a2 a3 a4 a5 a7:Option T}{M:Mem}:∀(L:List (List Nat)) (U:List Nat) (o6:Option T),(∀st∈L,st.length=2 ^ s/\∀y∈st,y<2 ^ s)->U.length<=1000->(∀y∈U,y<2 ^ s)->∃p6,zg [] (.name 6) (pxs (glT gs) (Pk (glT gs) Tb.fns Cs k) [4,5] qAm) (NLs L) [a0,a1,a2,a3,a4,a5,o6,a7,some (NL U)] M=.ok (.nx [a0,a1,a2,a3,a4,a5,p6,a7,some (NL (L.foldl (λU st=>U.map λx=>st.getD x 0) U))],M)
 | [],U,o6,_,_,_=>⟨o6,rfl⟩
 |st::L,U,o6,h,hl,hU=>by
  obtain⟨h1,h2⟩:=h st (by simp);have q:0<2 ^ s:=vT (by decide);obtain⟨p6,e⟩:=trL hs (a0:=a0) (a1:=a1) (a2:=a2) (a3:=a3) (a4:=a4) (a5:=a5) (a7:=a7) (M:=M) L (U.map λx=>st.getD x 0) (some (NL st)) (λt ht=>h t (by simp[ht])) (by simpa using hl) (λy hy=>by
   obtain⟨x,_,rfl⟩:=ve.mp hy;exact g9 h2 q x)
  refine⟨p6,?_⟩;have st9:∀a b c d e f g x y z:Option T,[a,b,c,d,e,f,g,x,y].set 6 z=[a,b,c,d,e,f,z,x,y]:=λ_ _ _ _ _ _ _ _ _ _=>rfl;have z:=jo (gl:=glT gs) (P:=Pk (glT gs) Tb.fns Cs k) (e:=pe (glT gs) (Pk (glT gs) Tb.fns Cs k) (.idx (.var 1) (.var 0))) (M:=M) (σ:=[some (NL st)]) (o:=none) (its:=U) (λx=>st.getD x 0) (by unfold lim;omega) λx hx'=>by
   have:=(IsL.nl M st).idx (getD_some (by rw[h1];exact hU x hx'));simp[this]
  show zg [] (.name 6) _ (NL st::NLs L) _ M=_;rw[qx,st9,List.foldl_cons];have body:pxs (glT gs) (Pk (glT gs) Tb.fns Cs k) [4,5] qAm [a0,a1,a2,a3,a4,a5,some (NL st),a7,some (NL U)] M=.ok (.nx [a0,a1,a2,a3,a4,a5,some (NL st),a7,some (NL (U.map λx=>st.getD x 0))],M):=by
   clear e;generalize (U.map λx=>st.getD x 0)=W at z ⊢;rw[qAm];simp[z]
  rw[body,tD];exact e
theorem S6{M A:Mem}(hA:A.length=M.length)(hF:FlatM A){P U:List Nat}{ts:List T}(f:Bool):∃f',JA M.length (.ok (.rt (.tup [St "row",.cell A.length,NL U],f),A++[P.map N,ts]))=.ok ((.tup [St "row",NL P,NL U],f'),A):=by
 show ∃f',_P.finish M.length _ _=_;unfold _P.finish;rw[<-hA,if_neg (by simp),vt rfl,if_pos (hF.all _)];have r:qH (A++[P.map N,ts]) A.length 6 (.tup [St "row",.cell A.length,NL U])=some (.tup [St "row",NL P,NL U]):=by
  have r1:qH (A++[P.map N,ts]) A.length 5 (St "row")=some (St "row"):=by unfold qH;rw[if_pos (by unfold T.und;rfl)]
  have r2:qH (A++[P.map N,ts]) A.length 5 (.cell A.length)=some (NL P):=by
   unfold qH;rw[if_neg (by unfold T.und;simp)];dsimp only;rw[show (A++[P.map N,ts])[A.length]?=some (P.map N) by simp,Option.bind_some,ZB];rfl
  have r3:qH (A++[P.map N,ts]) A.length 5 (NL U)=some (NL U):=by unfold qH;rw[if_pos (by unfold NL T.und;exact N8 _ U)]
  unfold qH;rw[if_neg (by unfold T.und T.unds T.unds;simp[T.und])];dsimp only;rw[vI,vI,vI,List.mapM_nil,r1,r2,r3];rfl
 dsimp only;rw[r,PR.ofO_some,tD];exact⟨_,rfl⟩
theorem qHq(hk:5<=k){M:Mem}{n:Nat}(g:Good M n)(hM:FlatM M){s w:Nat}(h1:1<=s)(hs:s<=5)(hw:w<2 ^ s):∃r U fr M',Pk (glT gs) Tb.fns Cs k 55 [.cell n,N s,N w] M=.ok ((.tup [St "row",NL (w::r),NL U],fr),M')/\Kept n M M'/\r.length<=7/\(∀x∈w::r,x<2 ^ s)/\tL s (List.range (2 ^ s)) (w::r)=some U:=by
 have n5:=p5 hs;have ln:=qFD hs;obtain⟨d,A1,e1,hd,k1⟩:=qDr (k:=k-1) (by omega) (B:=[[w].map N,[]]) g (m:=7) (by decide);have F1:=k1.flat hM;obtain⟨r,p6,p7,A2,e2,k2,s2,l2,x2⟩:=qGL (k:=k-1) (by omega) h1 hs hw (n:=n) (o2:=some (N w)) (o8:=none) (List.range (1+d)) [] A1 none none k1.good F1 rfl (by simp;omega) (λx hx=>by simp at hx;omega);simp at l2;have k12:=k1.trans k2;have F2:=k12.flat hM;have hT:=qAr hs r w hw s2;obtain⟨q6,e3⟩:=trL (k:=k-1) hs (a0:=some (.cell n)) (a1:=some (N s)) (a2:=some (N w)) (a3:=some (N (2 ^ s))) (a4:=some (.cell A2.length)) (a5:=some (.cell (A2.length+1))) (a7:=p7) (M:=A2++[(w::r).map N,NLs (tss s w r)]) (tss s w r).reverse (List.range (2 ^ s)) p6 (λst h=>hT st (List.mem_reverse.mp h)) (by simp;omega) (λy hy=>wM.mp hy);rw[List.foldl_reverse,show List.foldr _ _ _=trn (List.range (2 ^ s)) (tss s w r) from rfl]at e3;have tl:=qA6 hs (List.range (2 ^ s)) r w hw s2;obtain⟨fr,el⟩:=S6 (M:=M) (A:=A2) k12.len F2 (P:=w::r) (U:=trn (List.range (2 ^ s)) (tss s w r)) (ts:=NLs (tss s w r)) false;refine⟨r,_,fr,A2,?_,k12,by omega,x2,tl⟩;have th:thaw M.length (.lst [N w])=(.cell M.length,[[N w]]):=d8 M.length [w];have th2:∀n,thaw n (.lst [])=(.cell n,[[]]):=λn=>by simp[thaw,Qx]
 have rg:=zx (n:=1+d) (by omega);have lr:=ZV (n:=2 ^ s) (by omega);have e1':Pk (glT gs) Tb.fns Cs (k-1) 50 [.cell n,N 7] (M++[[N w],[]])=.ok ((N d,true),A1++[[N w],[]]):=e1;have e2':zg [] (.name 6) (pxs (glT gs) (Pk (glT gs) Tb.fns Cs (k-1)) [4,5] i4) ((List.range (1+d)).map N) [some (.cell n),some (N s),some (N w),some (N (2 ^ s)),some (.cell M.length),some (.cell (M.length+1)),none,none,none] (A1++[[N w],[]])=.ok (.nx [some (.cell n),some (N s),some (N w),some (N (2 ^ s)),some (.cell A2.length),some (.cell (A2.length+1)),p6,p7,none],A2++[(w::r).map N,NLs (tss s w r)]):=by
  rw[<-k1.len,k2.len];exact e2
 have sr:Jp (A2++[(w::r).map N,NLs (tss s w r)]) (.lst (NLs (tss s w r)).reverse)=some ((NLs (tss s w r)).reverse,[]):=rfl;have ls:T.lis (A2++[(w::r).map N,NLs (tss s w r)]) (.cell (A2.length+1))=some (NLs (tss s w r)):=by
  show (A2++[(w::r).map N,NLs (tss s w r)])[A2.length+1]?=_;rw[wO (by omega)];simp
 rw[show NLs (tss s w r).reverse=(NLs (tss s w r)).reverse from List.map_reverse]at e3;have l2:T.lst ((List.range (2 ^ s)).map N)=NL (List.range (2 ^ s)):=rfl;have ll6:[N 1,N 2,N 4,N 8,N 16,N 32].length<=lim:=by decide
 have th1:=th2 (M++[[N w]]).length;rw[show (M++[[N w]]).length=M.length+1 by simp]at th1;have th1:thaw (M++[[N w]]).length (.lst [])=(.cell (M.length+1),[[]]):=by rw[show (M++[[N w]]).length=M.length+1 by simp];exact th1
 rw[show M++[[N w],[]]=M++[[N w]]++[[]] by simp]at e1';have ad:=qL (M:=A1++[[N w],[]]) 1 d;have l0:pe (glT gs) (Pk (glT gs) Tb.fns Cs (k-1)) (.lst (.cons (.var 2) .nil)) [some (.cell n),some (N s),some (N w),some (N (2 ^ s)),none,none,none,none,none] M=.ok ((.lst [N w],true),M):=by simp[lim]
 have z:pxs (glT gs) (Pk (glT gs) Tb.fns Cs (k-1)) [4,5] b55 [some (.cell n),some (N s),some (N w),none,none,none,none,none,none] M=.ok (.rt (.tup [St "row",.cell A2.length,NL (trn (List.range (2 ^ s)) (tss s w r))],false),A2++[(w::r).map N,NLs (tss s w r)]):=by
  generalize (List.range (1+d)).map N=its at *;generalize hMM:A2++[(w::r).map N,NLs (tss s w r)]=MM at *;generalize trn (List.range (2 ^ s)) (tss s w r)=UU at *;generalize NLs (tss s w r)=tsl at *;have rv:pe (glT gs) (Pk (glT gs) Tb.fns Cs (k-1)) (.rev (.var 5)) [some (.cell n),some (N s),some (N w),some (N (2 ^ s)),some (.cell A2.length),some (.cell (A2.length+1)),p6,p7,some (NL (List.range (2 ^ s)))] MM=.ok (lT tsl.reverse,MM):=by
   rw[qD2,jU,tD];show (tH (T.lis MM (.cell (A2.length+1)))).bind _=_;rw[ls];rfl
  rw[b55]
  repeat' first|with_reducible (first|exact l0|exact ll6|exact th|exact th1|exact jG ln|exact e1' | exact ad|exact rg|exact e2' | exact lr|exact rv|exact sr2 _|exact e3|exact zE|exact zU|exact zh|exact zj|exact jH|exact jU|exact JY|exact Jo|exact D2|exact jc|exact jZ|exact zR|exact zG|exact zB|exact zO|exact isT|exact isF|exact ll0|exact ll1|exact ll2|exact ll3|exact ll4|exact qU|exact qZ|exact qf|exact qj|exact zb|exact zn|exact Qc|exact Qk|exact ZE|exact qL .. | exact qy .. | exact qr .. | exact qu .. | exact zD .. | exact qP .. | exact qp .. | assumption|apply qS|apply qV|apply zC|apply zA|apply zI|apply zL|apply zQ|apply zS|apply qX|apply zP|apply zF|apply jX|apply g_ite|apply zK|apply qQ|apply ja|apply qN|apply zH|apply cT|apply cF|apply t_1|apply t_2|apply t_0|apply t_3|apply f_0|apply f_1|apply jY|apply qR|apply zN|apply zM|apply qT|apply qz|apply qo|apply qN|apply jG|apply jW|apply jb)|((with_reducible apply zJ);exact cN rfl)|((with_reducible apply qW);exact rfl)|((with_reducible apply qF);exact rfl)|assumption|exact nF rfl|exact nT rfl|rfl
 exact zq t55 ⟨rfl,by decide⟩ (by omega) rfl rfl z el
end
end _M
namespace _M
open PySem PySem.Spec _P
open _L (V)
open Fr (U sh pr)
section
variable{k:Nat}
theorem qE3(hk:9<=k){s w b:Nat}{r W:List Nat}(h1:1<=s)(hs:s<=5)(h:Rw s w b r W)(hw:w<2 ^ s)(hb:b<2 ^ s)(S:Nat->Bool)(M:Mem):Pk (glT gs) Tb.fns Cs k 56 [N s,N w,N b,NL W,NL (rf (2 ^ s) S)] M=.ok (bT true,M):=by
 have hW:=qAc hs h;have e1:=turned (k:=k-1) (by omega) h1 hs hW (k7 (2 ^ s) S) (λx hx=>(mem_rf.mp hx).1) (qEo _ _) (K2 hW S) (qFe _ _) M;have e2:=f13 (k:=k-1) (by omega) h1 hs (k7 (2 ^ s) S) M;have e3:=f13 (k:=k-1) (by omega) h1 hs (k7 (2 ^ s) (im (2 ^ s) W S)) M;rw[K6]at e2 e3;have n1:=qCp (M:=M) b (rf (2 ^ s) (lp s S));have n2:=qFK (M:=M) w (rf (2 ^ s) (lp s (im (2 ^ s) W S)));have key:(!decide (b∈rf (2 ^ s) (lp s S))||decide (w∈rf (2 ^ s) (lp s (im (2 ^ s) W S))))=true:=by
  rw[vK,vj,decide_eq_false_iff_not,uC,mem_rf,mem_rf];by_cases q:lp s S b=true
  ·exact .inr ⟨hw,qE4 hs h S q⟩
  ·exact .inl λz=>q z.2
 have l1:=W6 (M:=M) W;have l2:=W6 (M:=M) (rf (2 ^ s) S);generalize decide (b∈rf (2 ^ s) (lp s S))=d1 at *;generalize decide (w∈rf (2 ^ s) (lp s (im (2 ^ s) W S)))=d2 at *;generalize NL (rf (2 ^ s) (lp s S))=t1 at *;generalize NL (rf (2 ^ s) (lp s (im (2 ^ s) W S)))=t2 at *;generalize NL (rf (2 ^ s) (im (2 ^ s) W S))=t3 at *;generalize NL (rf (2 ^ s) S)=t4 at *;generalize NL W=t5 at *;have z:pxs (glT gs) (Pk (glT gs) Tb.fns Cs (k-1)) [] b56 [some (N s),some (N w),some (N b),some t5,some t4,none] M=.ok (.rt (bT true),M):=by
  rw[b56]
  cases d1 with
  |false=>
   repeat' first|with_reducible (first|exact l1|exact l2|exact e1|exact e2|exact e3|exact n1|exact zE|exact zU|exact zh|exact zj|exact jH|exact jU|exact jc|exact jZ|exact zR|exact zG|exact zB|exact zO|exact isT|exact isF|exact ll0|exact ll1|exact ll2|exact ll3|exact ll4|exact qU|exact qZ|exact qf|exact qj|exact zb|exact zn|exact qL .. | exact qy .. | exact qr .. | exact qu .. | exact zD .. | exact qP .. | exact qp .. | assumption|apply qS|apply qV|apply zC|apply zA|apply zI|apply zL|apply zQ|apply zS|apply qX|apply zP|apply zF|apply jX|apply g_ite|apply zK|apply qQ|apply ja|apply qN|apply zH|apply cT|apply cF|apply t_1|apply t_2|apply t_0|apply t_3|apply f_0|apply f_1|apply jY|apply qR|apply zN|apply zM|apply qT|apply qz|apply qo|apply jG|apply jW|apply jb)|((with_reducible apply zJ);exact cN rfl)|((with_reducible apply qW);exact rfl)|((with_reducible apply qF);exact rfl)|assumption|exact nF rfl|exact nT rfl|rfl
  |true=>
   have h2:d2=true:=by simpa using key
   subst h2
   repeat' first|with_reducible (first|exact l1|exact l2|exact e1|exact e2|exact e3|exact n1|exact n2|exact zE|exact zU|exact zh|exact zj|exact jH|exact jU|exact jc|exact jZ|exact zR|exact zG|exact zB|exact zO|exact isT|exact isF|exact ll0|exact ll1|exact ll2|exact ll3|exact ll4|exact qU|exact qZ|exact qf|exact qj|exact zb|exact zn|exact qL .. | exact qy .. | exact qr .. | exact qu .. | exact zD .. | exact qP .. | exact qp .. | assumption|apply qS|apply qV|apply zC|apply zA|apply zI|apply zL|apply zQ|apply zS|apply qX|apply zP|apply zF|apply jX|apply g_ite|apply zK|apply qQ|apply ja|apply qN|apply zH|apply cT|apply cF|apply t_1|apply t_2|apply t_0|apply t_3|apply f_0|apply f_1|apply jY|apply qR|apply zN|apply zM|apply qT|apply qz|apply qo|apply jG|apply jW|apply jb)|((with_reducible apply zJ);exact cN rfl)|((with_reducible apply qW);exact rfl)|((with_reducible apply qF);exact rfl)|assumption|exact nF rfl|exact nT rfl|rfl
 exact zq t56 ⟨rfl,by decide⟩ (by omega) rfl rfl z (qA rfl)
theorem zl{a0 a1 a2 a3 a4 a7 a8:Option T}{M:Mem}:∀(ps:List (Nat×Nat)) (o5 o6:Option T),(∀p∈ps,p.2<=p.1)->∃p5 p6,zg [] (.tup [5,6]) (pxs (glT gs) (Pk (glT gs) Tb.fns Cs k) [] qAg) (ps.map λp=>T.tup [N p.1,N p.2]) [a0,a1,a2,a3,a4,o5,o6,a7,a8] M=.ok (.nx [a0,a1,a2,a3,a4,p5,p6,a7,a8],M)
 | [],o5,o6,_=>⟨o5,o6,rfl⟩
 | (x,y)::ps,o5,o6,h=>by
  obtain⟨p5,p6,e⟩:=zl (a0:=a0) (a1:=a1) (a2:=a2) (a3:=a3) (a4:=a4) (a7:=a7) (a8:=a8) (M:=M) ps (some (N x)) (some (N y)) λp hp=>h p (by simp[hp]);have hy:¬ x<y:=by have:=h (x,y) (by simp);simp at this;omega
  refine⟨p5,p6,?_⟩;rw[List.map_cons,zg,Ju];show (pxs _ _ _ _ [a0,a1,a2,a3,a4,some (N x),some (N y),a7,a8] _).bind _=_;have body:pxs (glT gs) (Pk (glT gs) Tb.fns Cs k) [] qAg [a0,a1,a2,a3,a4,some (N x),some (N y),a7,a8] M=.ok (.nx [a0,a1,a2,a3,a4,some (N x),some (N y),a7,a8],M):=by
   rw[qAg];simp[hy]
  rw[body,tD];exact e
theorem qDM{x y:List Nat}(h:leC y x=true):∀p∈x.zip y,p.2<=p.1:=by
 unfold leC at h;simp only[wB,uC,wS,wM]at h;intro p hp;obtain⟨i,hi,e⟩:=vZ.mp hp;rw[List.length_zip]at hi;have:=h.2 i (by omega);rw[List.getElem_zip]at e;rw[<-e];rw[wR,wR,wE (by omega),wE (by omega)]at this;exact this
theorem qFa(x y:List Nat):List.zipWith (λa b=>T.tup [a,b]) (x.map N) (y.map N)=(x.zip y).map λp=>T.tup [N p.1,N p.2]:=by
 simp[List.zip,List.map_zipWith,List.zipWith_map]
structure Ev(q:Rat):Prop where
 u:U q
 d:q.den<=1000000
theorem Ev.row{q:Rat}(h:Ev q){s:Nat}(hs:s<=5):Row s (λ_=>q) λ_=>q.den:=by
 refine⟨λ_ _=>h.u,λ_ _=>Fr.dv_self _,λ_ _=>q.den_pos,?_⟩;have:=Fr.pr_le s 1000000 (λ_=>q.den) λ_ _=>h.d;have h2:(1000000:Nat) ^ 2 ^ s<=1000000 ^ 32:=wy (by decide) (p5 hs);have h3:(1000000:Nat) ^ 32<2 ^ 1990:=by decide +kernel
 omega
theorem Ev.sz{q:Rat}(h:Ev q){s p:Nat}(hs:s<=5)(hp:p<2 ^ s):Sz (sh s (λ_=>q) p):=
 szU (Fr.sh_U s _ p (λ_ _=>h.u) hp) (Fr.sh_dv s _ _ p (λ_ _=>Fr.dv_self _) hp) (Fr.pr_pos s _ λ_ _=>q.den_pos) (h.row hs).l
theorem qHL(hk:14<=k){s w b:Nat}{r W:List Nat}(h1:1<=s)(hs:s<=5)(h:Rw s w b r W)(hw:w<2 ^ s)(hb:b<2 ^ s){q:Rat}(hq:Ev q){ta tb:T}(eq:R q=.tup [ta,tb]){M:Mem}(hM:WfM M):Pk (glT gs) Tb.fns Cs k 57 [N s,N w,N b,ta,tb] M=.ok (bT true,M):=by
 have n5:=p5 hs;have e1:=f32 (k:=k-1) (by omega) h1 hs hw hM;have e2:=f32 (k:=k-1) (by omega) h1 hs hb hM;obtain⟨p5,p6,e3⟩:=zl (k:=k-1) (a0:=some (N s)) (a1:=some (N w)) (a2:=some (N b)) (a3:=some ta) (a4:=some tb) (a7:=none) (a8:=none) (M:=M) ((cnt s w).zip (cnt s b)) none none (qDM (qGO hs h));rw[<-qFa]at e3;have e3:zg ([]++[]) _ _ _ _ _=_:=e3;have ln:=qFD hs;have e4:=qDL (k:=k-1) (by omega) h1 hs (f:=λ_=>q) (λ_ _=>⟨hq.u,wL hq.d (by decide)⟩) (hq.row hs) M;have ml:∀{M:Mem},zW M .mul (.lst [R q]) (N (2 ^ s))=some (.lst (RL (2 ^ s) λ_=>q),true):=λ{M}=>by
  show (if 0<=((2 ^ s:Nat):Int)/\1*((2 ^ s:Nat):Int).toNat<=lim/\((2 ^ s:Nat):Int)<1000000 then _ else _)=_;rw[if_pos ⟨by omega,by unfold lim;omega,by omega⟩];have:(List.replicate ((2 ^ s:Nat):Int).toNat [R q]).flatten=RL (2 ^ s) λ_=>q:=by
   rw[vX];unfold RL;rw[List.map_const',vA];simp
  rw[this];unfold lT;rw[qC8]
 have i1:=qAS (n:=2 ^ s) (f:=sh s λ_=>q) hw;have i2:=qAS (n:=2 ^ s) (f:=sh s λ_=>q) hb;have sw:=hq.sz hs hw;have sb:=hq.sz hs hb;have le:=qDA hs h hq.u;generalize sh s (λ_=>q) w=x at *;generalize sh s (λ_=>q) b=y at *;have m1:∀{M:Mem},zW M .mul (I y.num) (I (x.den:Int))=some (I (y.num*(x.den:Int)),true):=λ{M}=>jN (M:=M) sb.top sw.bot (by decide);have m2:∀{M:Mem},zW M .mul (I x.num) (I (y.den:Int))=some (I (x.num*(y.den:Int)),true):=λ{M}=>jN (M:=M) sw.top sb.bot (by decide);have cl:∀{M:Mem},qk M .le (I (y.num*(x.den:Int))) (I (x.num*(y.den:Int)))=some true:=λ{M}=>by
  rw[c6];congr 1;rw[uC,<-Rat.le_iff];exact le
 have sr:∀{M:Mem}(L:List Nat),Jp M (NL L)=some (L.map N,[]):=λ{M} L=>rfl;rw[eq]at ml;generalize RL (2 ^ s) (sh s λ_=>q)=t1 at *;generalize RL (2 ^ s) (λ_=>q)=t2 at *;have ll6:[N 1,N 2,N 4,N 8,N 16,N 32].length<=lim:=by decide
 have x0:=R0 (M:=M) x;have x1:=R1 (M:=M) x;have y0:=R0 (M:=M) y;have y1:=R1 (M:=M) y;have j1:QX M (.lst t1) (N w)=some (R x,true):=by rw[jG i1,qEn]
 have j2:QX M (.lst t1) (N b)=some (R y,true):=by rw[jG i2,qEn]
 have z:pxs (glT gs) (Pk (glT gs) Tb.fns Cs (k-1)) [] b57 [some (N s),some (N w),some (N b),some ta,some tb,none,none,none,none] M=.ok (.rt (bT true),M):=by
  rw[b57]
  repeat' first|with_reducible (first|exact ll6|exact e1|exact e2|exact sr _|exact e3|exact jG ln|exact ml|exact e4|exact j1|exact j2|exact x0|exact x1|exact y0|exact y1|exact m1|exact m2|exact cl|exact zE|exact zU|exact zh|exact zj|exact jH|exact jU|exact JY|exact Jo|exact D2|exact jc|exact jZ|exact zR|exact zG|exact zB|exact zO|exact isT|exact isF|exact ll0|exact ll1|exact ll2|exact ll3|exact ll4|exact qU|exact qZ|exact qf|exact qj|exact zb|exact zn|exact Qc|exact Qk|exact ZE|exact qL .. | exact qy .. | exact qr .. | exact qu .. | exact zD .. | exact qP .. | exact qp .. | assumption|apply qS|apply qV|apply zC|apply zA|apply zI|apply zL|apply zQ|apply zS|apply qX|apply zP|apply zF|apply jX|apply g_ite|apply zK|apply qQ|apply ja|apply qN|apply zH|apply cT|apply cF|apply t_1|apply t_2|apply t_0|apply t_3|apply f_0|apply f_1|apply jY|apply qR|apply zN|apply zM|apply qT|apply qz|apply qo|apply qFW|apply jG|apply jW|apply jb)|((with_reducible apply zJ);exact cN rfl)|((with_reducible apply qW);exact rfl)|((with_reducible apply qF);exact rfl)|assumption|exact nF rfl|exact nT rfl|rfl
 exact zq t57 ⟨rfl,by decide⟩ (by omega) rfl rfl z (qA rfl)
end
end _M
namespace _M
open PySem PySem.Spec _P
open _L (V)
open Fr (U)
section
variable{k:Nat}
theorem qBu(a b:Nat)(c:Bool):T.unds 0 (stT a b c)=true:=rfl
noncomputable abbrev gP(a b:Nat):T:=.tup [N a,N b]
noncomputable def X7:List T:=[gP 1 2,gP 1 3,gP 2 3,gP 1 10,gP 9 10,gP 0 1,gP 1 1]
noncomputable def X8:List T:=[gP 1 2,gP 1 3,gP 2 3,gP 1 10,gP 9 10,gP 0 1,gP 1 1,gP 999999 1000000]
theorem C9{q:Rat}{a b:Nat}(h1:q.num=a)(h2:q.den=b)(h3:a<=b)(h4:b<=1000000):R q=gP a b/\Ev q:=by
 refine⟨by rw[qHm,h1,h2];rfl,?_,by omega⟩;refine⟨?_,?_⟩
 ·rw[Rat.le_iff];simp[h1]
 ·rw[Rat.le_iff,h1,h2];simp;omega
theorem qDg:∀y,y<8->∃(q:Rat) (a b:Nat),X8[y]?=some (gP a b)/\R q=gP a b/\Ev q:=by
 intro y hy;rcases(by omega:y=0\/y=1\/y=2\/y=3\/y=4\/y=5\/y=6\/y=7) with rfl|rfl|rfl|rfl|rfl|rfl|rfl|rfl
 ·exact⟨⟨1,2,by decide,by decide⟩,1,2,rfl,C9 rfl rfl (by decide) (by decide)⟩
 ·exact⟨⟨1,3,by decide,by decide⟩,1,3,rfl,C9 rfl rfl (by decide) (by decide)⟩
 ·exact⟨⟨2,3,by decide,by decide⟩,2,3,rfl,C9 rfl rfl (by decide) (by decide)⟩
 ·exact⟨⟨1,10,by decide,by decide⟩,1,10,rfl,C9 rfl rfl (by decide) (by decide)⟩
 ·exact⟨⟨9,10,by decide,by decide⟩,9,10,rfl,C9 rfl rfl (by decide) (by decide)⟩
 ·exact⟨⟨0,1,by decide,by decide⟩,0,1,rfl,C9 rfl rfl (by decide) (by decide)⟩
 ·exact⟨⟨1,1,by decide,by decide⟩,1,1,rfl,C9 rfl rfl (by decide) (by decide)⟩
 ·exact⟨⟨999999,1000000,by decide,by decide⟩,999999,1000000,rfl,C9 rfl rfl (by decide) (by decide)⟩
noncomputable abbrev rT(P U:List Nat):T:=.tup [St "row",NL P,NL U]
theorem l12{s w b:Nat}{a0 a1 a2 a3 a5 a7 a9 a10 a13 a14:Option T}{lt:T}{M:Mem}:∀(xs:List (List Nat×List Nat)) (o12:Option T),(∀x∈xs,Pk (glT gs) Tb.fns Cs k 56 [N s,N w,N b,NL x.2,lt] M=.ok (bT true,M))->∃p12,zg [] (.name 12) (pxs (glT gs) (Pk (glT gs) Tb.fns Cs k) [1,3] qAe) (xs.map λx=>rT x.1 x.2) [a0,a1,a2,a3,some (N s),a5,some (N w),a7,some (N b),a9,a10,some lt,o12,a13,a14] M=.ok (.nx [a0,a1,a2,a3,some (N s),a5,some (N w),a7,some (N b),a9,a10,some lt,p12,a13,a14],M)
 | [],o12,_=>⟨o12,rfl⟩
 | (P,W)::xs,o12,h=>by
  obtain⟨p12,e⟩:=l12 (a0:=a0) (a1:=a1) (a2:=a2) (a3:=a3) (a5:=a5) (a7:=a7) (a9:=a9) (a10:=a10) (a13:=a13) (a14:=a14) (lt:=lt) (M:=M) xs (some (rT P W)) λx hx=>h x (by simp[hx]);have e1:Pk (glT gs) Tb.fns Cs k 56 [N s,N w,N b,NL W,lt] M=.ok (bT true,M):=h (P,W) (by simp);refine⟨p12,?_⟩;rw[List.map_cons,qx];show (pxs _ _ _ _ [a0,a1,a2,a3,some (N s),a5,some (N w),a7,some (N b),a9,a10,some lt,some (rT P W),a13,a14] _).bind _=_;have body:pxs (glT gs) (Pk (glT gs) Tb.fns Cs k) [1,3] qAe [a0,a1,a2,a3,some (N s),a5,some (N w),a7,some (N b),a9,a10,some lt,some (rT P W),a13,a14] M=.ok (.nx [a0,a1,a2,a3,some (N s),a5,some (N w),a7,some (N b),a9,a10,some lt,some (rT P W),a13,a14],M):=by
   clear e
   rw[qAe]
   repeat' first|with_reducible (first|exact qBD|exact e1|exact lk2 .. | exact zE|exact zU|exact zh|exact zj|exact jH|exact jU|exact JY|exact Jo|exact D2|exact qAH|exact O1|exact M7|exact jc|exact jZ|exact zR|exact zG|exact zB|exact zO|exact isT|exact isF|exact ll0|exact ll1|exact ll2|exact ll3|exact ll4|exact qU|exact qZ|exact qf|exact qj|exact zb|exact zn|exact Qc|exact Qk|exact ZE|exact N5|exact JZ|exact Jr|exact qL .. | exact qy .. | exact qr .. | exact qu .. | exact zD .. | exact qP .. | exact qp .. | assumption|apply qS|apply qV|apply zC|apply zA|apply zI|apply zL|apply zQ|apply zS|apply qX|apply zP|apply zF|apply jX|apply g_ite|apply zK|apply qQ|apply ja|apply qN|apply zH|apply cT|apply cF|apply t_1|apply t_2|apply t_0|apply t_3|apply f_0|apply f_1|apply ZJ|apply jY|apply qR|apply zN|apply zM|apply qT|apply qz|apply jG|apply jW|apply jb)|((with_reducible apply zJ);exact cN rfl)|((with_reducible apply qW);exact rfl)|((with_reducible apply qF);exact rfl)|assumption|exact nF rfl|exact nT rfl|rfl
  rw[body,tD];exact e
theorem l10(hk:10<=k){s w b n:Nat}{P1 U1 P2 U2:List Nat}(h1:1<=s)(hs:s<=5)(x1:Rw s w b P1 U1)(x2:Rw s w b P2 U2)(hw:w<2 ^ s)(hb:b<2 ^ s){a0 a1 a2 a13 a14:Option T}:∀(its:List Nat) (A:Mem) (o10 o11 o12:Option T),Good A n->∃p10 p11 p12 A',zg [] (.name 10) (pxs (glT gs) (Pk (glT gs) Tb.fns Cs k) [1,3] qCy) (its.map N) [a0,a1,a2,some (.cell n),some (N s),some (N (2 ^ s)),some (N w),some (rT (w::P2) U2),some (N b),some (rT (w::P1) U1),o10,o11,o12,a13,a14] A=.ok (.nx [a0,a1,a2,some (.cell n),some (N s),some (N (2 ^ s)),some (N w),some (rT (w::P2) U2),some (N b),some (rT (w::P1) U1),p10,p11,p12,a13,a14],A')/\Kept n A A'
 | [],A,o10,o11,o12,g=>⟨o10,o11,o12,A,rfl,g,rfl,λ_ _=>rfl⟩
 |i::its,A,o10,o11,o12,g=>by
  have n5:=p5 hs;obtain⟨S,fr,A1,e1,k1⟩:=qG9 (k:=k) (by omega) g (m:=2 ^ s) (by omega);obtain⟨p12,e2⟩:=l12 (k:=k) (s:=s) (w:=w) (b:=b) (a0:=a0) (a1:=a1) (a2:=a2) (a3:=some (.cell n)) (a5:=some (N (2 ^ s))) (a7:=some (rT (w::P2) U2)) (a9:=some (rT (w::P1) U1)) (a10:=some (N i)) (a13:=a13) (a14:=a14) (lt:=NL (rf (2 ^ s) S)) (M:=A1) [(w::P1,U1),(w::P2,U2)] o12 (λx hx=>by
   rcases wP.mp hx with rfl|hx
   ·exact qE3 (by omega) h1 hs x1 hw hb S A1
   ·rw[wY.mp hx];exact qE3 (by omega) h1 hs x2 hw hb S A1)
  obtain⟨q10,q11,q12,A',e3,k2⟩:=l10 hk h1 hs x1 x2 hw hb (a0:=a0) (a1:=a1) (a2:=a2) (a13:=a13) (a14:=a14) its A1 (some (N i)) (some (NL (rf (2 ^ s) S))) p12 k1.good;refine⟨q10,q11,q12,A',?_,k1.trans k2⟩;rw[List.map_cons,qx];show (pxs _ _ _ _ [a0,a1,a2,some (.cell n),some (N s),some (N (2 ^ s)),some (N w),some (rT (w::P2) U2),some (N b),some (rT (w::P1) U1),some (N i),o11,o12,a13,a14] _).bind _=_;have e2':zg [] (.name 12) (pxs (glT gs) (Pk (glT gs) Tb.fns Cs k) [1,3] qAe) [rT (w::P1) U1,rT (w::P2) U2] [a0,a1,a2,some (.cell n),some (N s),some (N (2 ^ s)),some (N w),some (rT (w::P2) U2),some (N b),some (rT (w::P1) U1),some (N i),some (NL (rf (2 ^ s) S)),o12,a13,a14] A1=.ok (.nx [a0,a1,a2,some (.cell n),some (N s),some (N (2 ^ s)),some (N w),some (rT (w::P2) U2),some (N b),some (rT (w::P1) U1),some (N i),some (NL (rf (2 ^ s) S)),p12,a13,a14],A1):=e2;have sr:∀{M:Mem} ts,A8 M (.lst ts)=some (ts,[]):=λ{M} ts=>rfl;have body:pxs (glT gs) (Pk (glT gs) Tb.fns Cs k) [1,3] qCy [a0,a1,a2,some (.cell n),some (N s),some (N (2 ^ s)),some (N w),some (rT (w::P2) U2),some (N b),some (rT (w::P1) U1),some (N i),o11,o12,a13,a14] A=.ok (.nx [a0,a1,a2,some (.cell n),some (N s),some (N (2 ^ s)),some (N w),some (rT (w::P2) U2),some (N b),some (rT (w::P1) U1),some (N i),some (NL (rf (2 ^ s) S)),p12,a13,a14],A1):=by
   clear e3 e2;generalize rT (w::P1) U1=t1 at *;generalize rT (w::P2) U2=t2 at *;generalize NL (rf (2 ^ s) S)=t3 at *
   rw[qCy]
   repeat' first|with_reducible (first|exact e1|exact sr _|exact e2' | exact zE|exact zU|exact zh|exact zj|exact jH|exact jU|exact JY|exact Jo|exact D2|exact qAH|exact O1|exact M7|exact jc|exact jZ|exact zR|exact zG|exact zB|exact zO|exact isT|exact isF|exact ll0|exact ll1|exact ll2|exact ll3|exact ll4|exact qU|exact qZ|exact qf|exact qj|exact zb|exact zn|exact Qc|exact Qk|exact ZE|exact N5|exact JZ|exact Jr|exact qL .. | exact qy .. | exact qr .. | exact qu .. | exact zD .. | exact qP .. | exact qp .. | assumption|apply qS|apply qV|apply zC|apply zA|apply zI|apply zL|apply zQ|apply zS|apply qX|apply zP|apply zF|apply jX|apply g_ite|apply zK|apply qQ|apply ja|apply qN|apply zH|apply cT|apply cF|apply t_1|apply t_2|apply t_0|apply t_3|apply f_0|apply f_1|apply ZJ|apply jY|apply qR|apply zN|apply zM|apply qT|apply qz|apply qN|apply jG|apply jW|apply jb)|((with_reducible apply zJ);exact cN rfl)|((with_reducible apply qW);exact rfl)|((with_reducible apply qF);exact rfl)|assumption|exact nF rfl|exact nT rfl|rfl
  rw[body,tD];exact e3
theorem qBf(hk:16<=k)(ns:List Int){i:Nat}(hi:i<=62){M:Mem}(hM:FlatM M)(h0:M[0]?=some X8){o3 o4 o5 o6 o7 o8 o9 o10 o11 o12 o13 o14:Option T}:∃p3 p4 p5 p6 p7 p8 p9 p10 p11 p12 p13 p14 M',pxs (glT gs) (Pk (glT gs) Tb.fns Cs k) [1,3] qBZ [some (.fz (ns.map λn=>.v (.int n))),some (.cell 0),some (N i),o3,o4,o5,o6,o7,o8,o9,o10,o11,o12,o13,o14] M=.ok (.nx [some (.fz (ns.map λn=>.v (.int n))),some (.cell 0),some (N i),p3,p4,p5,p6,p7,p8,p9,p10,p11,p12,p13,p14],M')/\FlatM M'/\M'[0]?=some X8:=by
 have hl0:0<M.length:=(wC.mp h0).1;obtain⟨a0,b0,c0,e1,hb0⟩:=qFO (k:=k) (by omega) ns (kk:=i) (by omega) M;have gd:Good (M++[stT a0 b0 c0]) M.length:=⟨a0,b0,c0,by simp,hb0⟩
 have F0:FlatM (M++[stT a0 b0 c0]):=hM.app λc hc=>by rw[wY.mp hc];exact qBu _ _ _
 have h0':(M++[stT a0 b0 c0])[0]?=some X8:=by rw[wD hl0];exact h0
 obtain⟨d,M1,e2,hd,k1⟩:=U0 (k:=k) (by omega) gd (m:=5) (by decide);obtain⟨s,hs⟩:∃s,s=1+d:=⟨_,rfl⟩
 have s1:1<=s:=by omega
 have s5:s<=5:=by omega
 have n5:=p5 s5;have np:0<2 ^ s:=vT (by decide);obtain⟨w,M2,e3,hw,k2⟩:=U0 (k:=k) (by omega) k1.good (m:=2 ^ s) (by omega);have F2:=(k1.trans k2).flat F0;obtain⟨r,W,fr,M3,e4,k3,hr,hx,hU⟩:=qHq (k:=k) (by omega) k2.good F2 s1 s5 hw;obtain⟨b,hl⟩:∃b,(w::r).getLast?=some b:=⟨_,wz (by simp)⟩
 have hb:b<2 ^ s:=hx b (List.mem_of_getLast? hl);have R2:Rw s w b r W:=⟨hx,hl,hU⟩
 have k13:=(k1.trans k2).trans k3;have F3:=k13.flat F0;have hf:=qGN s5 R2;obtain⟨P',U',r1,r2,r3,r4,r5,r6,r7⟩:=qEG s1 s5 hw hb hf;have R1:Rw s w b P' U':=⟨r2,r3,r5⟩
 obtain⟨f5,e5⟩:=qHU (k:=k) (by omega) s1 s5 hw hb hf F3.wf r1 r2 r4 r5;have e6:=qHX (k:=k) (by omega) s1 s5 hw hb hx hl hU (by omega) M3;have e6:Pk (glT gs) Tb.fns Cs k 23 [N s,N w,N b,rT (w::r) W] M3=.ok (bT true,M3):=e6;obtain⟨q10,q11,q12,M4,e7,k4⟩:=l10 (k:=k) (by omega) s1 s5 R1 R2 hw hb (a0:=some (.fz (ns.map λn=>.v (.int n)))) (a1:=some (.cell 0)) (a2:=some (N i)) (a13:=o13) (a14:=o14) (List.range 4) M3 o10 o11 o12 k3.good;obtain⟨y,M5,e8,hy,k5⟩:=U0 (k:=k) (by omega) k4.good (m:=8) (by decide);have k15:=(k13.trans k4).trans k5;have F5:=k15.flat F0;have g5:M5[0]?=some X8:=by rw[k15.oth 0 (by omega)];exact h0'
 obtain⟨q,x,z,ey,eR,ev⟩:=qDg y hy;have e9:=qHL (k:=k) (by omega) s1 s5 R2 hw hb ev eR F5.wf;refine⟨some (.cell M.length),some (N s),some (N (2 ^ s)),some (N w),some (rT (w::r) W),some (N b),some (rT (w::P') U'),q10,q11,q12,some (N x),some (N z),M5,?_,F5,g5⟩;have sd:∀{M:Mem},zW M .add (N 1) (N d)=some (N s,true):=λ{M}=>by rw[qL,hs]
 have th:thaw M.length (.lst (stT a0 b0 c0))=(.cell M.length,[stT a0 b0 c0]):=rfl;have ln:=qFD s5;have il:=Jb (M:=M3) hl;have isn:∀{M:Mem},qk M .isnot (.v (.bl true)) (.v (.bl true))=some false:=λ{M}=>rfl;have ne:∀{M:Mem},qk M .ne (St "row") (St "row")=some false:=λ{M}=>by rw[qFN];simp
 have rg:=zx (n:=4) (by decide);have ix:QX M5 (.cell 0) (N y)=some (gP x z,(gP x z).lf):=by rw[qDv,g5,Option.bind_some,ey];rfl
 have e4:Pk (glT gs) Tb.fns Cs k 55 [.cell M.length,N s,N w] M2=.ok ((rT (w::r) W,fr),M3):=e4;have e5:Pk (glT gs) Tb.fns Cs k 28 [N s,N w,N b] M3=.ok ((rT (w::P') U',f5),M3):=e5;have i1:∀{M:Mem},QX M (rT (w::r) W) (N 1)=some (NL (w::r),(NL (w::r)).lf):=λ{M}=>rfl;have i0:∀{M:Mem},QX M (rT (w::P') U') (N 0)=some (St "row",true):=λ{M}=>rfl;clear r1 r2 r3 r5 R1 R2 hx hU;generalize (List.range 4).map N=its at *;generalize NL (w::r)=tp at *;generalize rT (w::P') U'=t1 at *;generalize rT (w::r) W=t2 at *;have ll6:[N 1,N 2,N 4,N 8,N 16,N 32].length<=lim:=by decide
 have ng1:v7 (N 1)=some (.v (.int (-1)),true):=rfl
 change pxs _ _ _ (.cons _ _) [some _,some _,some _,_,_,_,_,_,_,_,_,_,_,_,_] _=_
 repeat' first|with_reducible (first|exact qBD|exact qEe|exact pe_v14|exact qBk|exact qCm|exact set_v14|exact ll6|exact e1|exact th|exact e2|exact sd|exact jG ln|exact e3|exact e4|exact i1|exact il|exact e5|exact i0|exact ne|exact e6|exact isn|exact rg|exact e7|exact e8|exact ix|exact e9|exact ng1|exact zE|exact zU|exact zh|exact zj|exact jH|exact jU|exact JY|exact Jo|exact D2|exact qAH|exact O1|exact M7|exact jc|exact jZ|exact zR|exact zG|exact zB|exact zO|exact isT|exact isF|exact ll0|exact ll1|exact ll2|exact ll3|exact ll4|exact qU|exact qZ|exact qf|exact qj|exact zb|exact zn|exact Qc|exact Qk|exact ZE|exact N5|exact JZ|exact Jr|exact qL .. | exact qy .. | exact qr .. | exact qu .. | exact zD .. | exact qP .. | exact qp .. | assumption|apply qS|apply qV|apply zC|apply zA|apply zI|apply zL|apply zQ|apply zS|apply qX|apply zP|apply zF|apply jX|apply g_ite|apply zK|apply qQ|apply ja|apply qN|apply zH|apply cT|apply cF|apply t_1|apply t_2|apply t_0|apply t_3|apply f_0|apply f_1|apply ZJ|apply jY|apply qR|apply zN|apply zM|apply qT|apply qz|apply qCA|apply jG|apply jW|apply jb)|((with_reducible apply zJ);exact cN rfl)|((with_reducible apply qW);exact rfl)|((with_reducible apply qF);exact rfl)|assumption|exact nF rfl|exact nT rfl|rfl
theorem qGr(hk:16<=k)(ns:List Int):∀(m i:Nat) (M:Mem) (o2 o3 o4 o5 o6 o7 o8 o9 o10 o11 o12 o13 o14:Option T),i+m<=63->FlatM M->M[0]?=some X8->∃σ' M',zg [] (.name 2) (pxs (glT gs) (Pk (glT gs) Tb.fns Cs k) [1,3] qBZ) ((List.range' i m).map N) [some (.fz (ns.map λn=>.v (.int n))),some (.cell 0),o2,o3,o4,o5,o6,o7,o8,o9,o10,o11,o12,o13,o14] M=.ok (.nx σ',M')
 | 0,i,M,o2,o3,o4,o5,o6,o7,o8,o9,o10,o11,o12,o13,o14,h,_,_=>⟨_,M,rfl⟩
 |m+1,i,M,o2,o3,o4,o5,o6,o7,o8,o9,o10,o11,o12,o13,o14,h,hF,h0=>by
  obtain⟨p3,p4,p5,p6,p7,p8,p9,p10,p11,p12,p13,p14,M1,e,F1,g1⟩:=qBf hk ns (i:=i) (by omega) hF h0 (o3:=o3) (o4:=o4) (o5:=o5) (o6:=o6) (o7:=o7) (o8:=o8) (o9:=o9) (o10:=o10) (o11:=o11) (o12:=o12) (o13:=o13) (o14:=o14);obtain⟨σ',M',e'⟩:=qGr hk ns m (i+1) M1 (some (N i)) p3 p4 p5 p6 p7 p8 p9 p10 p11 p12 p13 p14 (by omega) F1 g1;refine⟨σ',M',?_⟩;rw[List.range'_succ,List.map_cons,qx];show (pxs _ _ _ _ [some (.fz (ns.map λn=>.v (.int n))),some (.cell 0),some (N i),o3,o4,o5,o6,o7,o8,o9,o10,o11,o12,o13,o14] _).bind _=_;rw[e,tD];exact e'
end
theorem main:∀ns:List Int,ns.length<=63->∃h',Fk Tb.fns 30 58 [.ref gs.length] (C7 gs ns)=.ok (.bl true,h'):=by
 intro ns hn;have FX:FlatM [X8]:=λc hc=>by rw[wY.mp hc];rfl
 obtain⟨σ',M',e⟩:=qGr (k:=29) (by omega) ns (max 1 (min 40 ns.length)) 0 [X8] none none none none none none none none none none none none none (by omega) FX rfl;rw[<-vq]at e;have key:∃b M2,Pk (glT gs) Tb.fns Cs 30 58 [.fz (ns.map λn=>.v (.int n))] []=.ok ((.v (.bl true),b),M2):=by
  rw[qM t58 ⟨rfl,by decide⟩ (by omega),show Cs.getD 58 []=[1,3] from rfl];clear hn;have th:thaw 0 (.lst X7)=(.cell 0,[X7]):=rfl;have ap:T1 [X7] 0 (gP 999999 1000000)=some [X8]:=rfl;have lx:T.lst [gP 1 2,gP 1 3,gP 2 3,gP 1 10,gP 9 10,gP 0 1,gP 1 1]=T.lst X7:=rfl;have ex:pxs (glT gs) (Pk (glT gs) Tb.fns Cs (30-1)) [1,3] b58 ([T.fz (ns.map λn=>.v (.int n))].map some++List.replicate (15-1) none) []=.ok (.rt (bT true),M'):=by
   have lz:jS [X8] .len [.fz (ns.map λn=>.v (.int n))]=some (N ns.length,true):=by show some (N (ns.map λn=>T.v (.int n)).length,true)=_;rw[wW]
   have mn:jS [X8] .min [N 40,N ns.length]=some (N (min 40 ns.length),true):=by simp
   have mx:jS [X8] .max [N 1,N (min 40 ns.length)]=some (N (max 1 (min 40 ns.length)),true):=by simp
   have rg:=zx (n:=max 1 (min 40 ns.length)) (by omega);have th:thaw 0 (.lst [gP 1 2,gP 1 3,gP 2 3,gP 1 10,gP 9 10,gP 0 1,gP 1 1])=(.cell 0,[[gP 1 2,gP 1 3,gP 2 3,gP 1 10,gP 9 10,gP 0 1,gP 1 1]]):=rfl;have ap:T1 [[gP 1 2,gP 1 3,gP 2 3,gP 1 10,gP 9 10,gP 0 1,gP 1 1]] 0 (gP 999999 1000000)=some [X8]:=rfl;have l0:pe (glT gs) (Pk (glT gs) Tb.fns Cs (30-1)) (.lst (.cons (.tup (.cons (nE 1) (.cons (nE 2) .nil))) (.cons (.tup (.cons (nE 1) (.cons (nE 3) .nil))) (.cons (.tup (.cons (nE 2) (.cons (nE 3) .nil))) (.cons (.tup (.cons (nE 1) (.cons (nE 10) .nil))) (.cons (.tup (.cons (nE 9) (.cons (nE 10) .nil))) (.cons (.tup (.cons (nE 0) (.cons (nE 1) .nil))) (.cons (.tup (.cons (nE 1) (.cons (nE 1) .nil))) .nil)))))))) [some (.fz (ns.map λn=>.v (.int n))),none,none,none,none,none,none,none,none,none,none,none,none,none,none] []=.ok ((.lst [gP 1 2,gP 1 3,gP 2 3,gP 1 10,gP 9 10,gP 0 1,gP 1 1],true),[]):=by simp[lim]
   change pxs _ _ _ (.cons _ _) [some _,none,none,none,none,none,none,none,none,none,none,none,none,none,none] _=_
   repeat' first|with_reducible (first|exact l0|exact th|exact ap|exact lz|exact mn|exact mx|exact rg|exact e|exact zE|exact zU|exact zh|exact zj|exact jH|exact jU|exact JY|exact Jo|exact D2|exact qAH|exact O1|exact M7|exact jc|exact jZ|exact zR|exact zG|exact zB|exact zO|exact isT|exact isF|exact ll0|exact ll1|exact ll2|exact ll3|exact ll4|exact qU|exact qZ|exact qf|exact qj|exact zb|exact zn|exact Qc|exact Qk|exact ZE|exact N5|exact JZ|exact Jr|exact qL .. | exact qy .. | exact qr .. | exact qu .. | exact zD .. | exact qP .. | exact qp .. | assumption|apply qS|apply qV|apply zC|apply zA|apply zI|apply zL|apply zQ|apply zS|apply qX|apply zP|apply zF|apply jX|apply g_ite|apply zK|apply qQ|apply ja|apply qN|apply zH|apply cT|apply cF|apply t_1|apply t_2|apply t_0|apply t_3|apply f_0|apply f_1|apply jY|apply qR|apply zN|apply zM|apply qT|apply qz|apply qo|apply jG|apply jW|apply jb)|((with_reducible apply zJ);exact cN rfl)|((with_reducible apply qW);exact rfl)|((with_reducible apply qF);exact rfl)|assumption|exact nF rfl|exact nT rfl|rfl
  rw[ex];exact g7 _ _ _
 obtain⟨b,M2,e2⟩:=key;exact qE7 rfl e2
end _M
namespace PySem.W.Fast
theorem tw14054005285042742622:True:=trivial
theorem tw3929217789513543064:True:=trivial
theorem tw1009671690051580230:True:=trivial
theorem tw12481868193692182789:True:=trivial
theorem tw12112218906281685147:True:=trivial
theorem tw17924761269746601520:True:=trivial
theorem tw13447579861160173892:True:=trivial
theorem tw17828799992484347459:True:=trivial
theorem tw5386894757735946752:True:=trivial
theorem tw17006434255454188636:True:=trivial
theorem tw9718386371492806730:True:=trivial
theorem tw3229984063023014825:True:=trivial
theorem tw4449788736822421378:True:=trivial
theorem tw3664186016091310640:True:=trivial
theorem tw16606957785817326677:True:=trivial
theorem tw10984436515707676094:True:=trivial
theorem tw7995239595665202876:True:=trivial
theorem tw8227156701846900909:True:=trivial
theorem tw4994032637308154014:True:=trivial
theorem tw11629546104847049362:True:=trivial
theorem tw8954140662475203653:True:=trivial
theorem tw5890868650291825209:True:=trivial
theorem tw3038021836034456485:True:=trivial
theorem tw18245133121063198485:True:=trivial
theorem tw16749034516032055220:True:=trivial
theorem tw16739250008013277347:True:=trivial
theorem tw16901431453211879044:True:=trivial
theorem tw18114438159852008122:True:=trivial
theorem tw551992086385355820:True:=trivial
theorem tw3552327302789475486:True:=trivial
theorem tw17998339989491470759:True:=trivial
theorem tw6856042291758341025:True:=trivial
theorem tw1938754223574569515:True:=trivial
theorem tw5326925438688329951:True:=trivial
theorem tw1125740414538067609:True:=trivial
theorem tw14154799291239758484:True:=trivial
theorem tw4102178424668358003:True:=trivial
theorem tw14489758368945240044:True:=trivial
theorem tw3184793414398031803:True:=trivial
theorem tw12343684711792685700:True:=trivial
theorem tw15495089387818394628:True:=trivial
theorem tw6982643908626060792:True:=trivial
theorem tw3963683922610315576:True:=trivial
theorem tw8614234356003941068:True:=trivial
theorem tw18088337670126307384:True:=trivial
theorem tw7230712891810155689:True:=trivial
theorem tw1354572876160917970:True:=trivial
theorem tw2496970874276136064:True:=trivial
theorem tw3457103091911612734:True:=trivial
theorem tw4268402584257051840:True:=trivial
theorem tw9137435606740472046:True:=trivial
theorem tw13387633281835760458:True:=trivial
theorem tw7745015572217352276:True:=trivial
theorem tw6699272192110585400:True:=trivial
theorem tw6087974260915088669:True:=trivial
theorem tw14392837976349259201:True:=trivial
theorem tw5048011230015265859:True:=trivial
theorem tw4827868971534806956:True:=trivial
theorem tw13570215168262316988:True:=trivial
theorem tw1172687737660374449:True:=trivial
theorem tw15136097719782544978:True:=trivial
theorem tw10812080147646183698:True:=trivial
theorem tw5008412442939756553:True:=trivial
theorem tw3454377308892348459:True:=trivial
theorem tw4312924666657656106:True:=trivial
theorem tw1055165808898551035:True:=trivial
theorem tw14914501825973401521:True:=trivial
theorem tw15526112319216362081:True:=trivial
theorem tw2037215948824710731:True:=trivial
theorem tw18343055061212801807:True:=trivial
theorem tw8436314435660891548:True:=trivial
theorem tw10794077909083486853:True:=trivial
theorem tw10666312305587886332:True:=trivial
theorem tw10246325108177563610:True:=trivial
theorem tw18134451025953642747:True:=trivial
theorem tw5484083172269648729:True:=trivial
theorem tw3411894800007475125:True:=trivial
theorem tw17917910112861120350:True:=trivial
theorem tw18319420841911990747:True:=trivial
theorem tw17902251926356807047:True:=trivial
theorem tw12306375479122792650:True:=trivial
theorem tw4532260625315507783:True:=trivial
theorem tw4195687028386711741:True:=trivial
theorem tw4880342716586105924:True:=trivial
theorem tw15534474790660233919:True:=trivial
theorem tw5007739257614457445:True:=trivial
theorem tw1521668470798926476:True:=trivial
theorem tw147091887878813968:True:=trivial
theorem tw4981749957787081583:True:=trivial
theorem tw10136494544484981906:True:=trivial
theorem tw5720630188617317033:True:=trivial
theorem tw3511487064130602084:True:=trivial
theorem tw4152055589721523913:True:=trivial
theorem tw13589003278733818992:True:=trivial
theorem tw17138232313188773881:True:=trivial
theorem tw6214826896772151192:True:=trivial
theorem tw9048367540800534228:True:=trivial
theorem tw3362874864209149392:True:=trivial
theorem tw8452759486533350862:True:=trivial
theorem tw487838256550129450:True:=trivial
theorem tw3120311709124297281:True:=trivial
theorem tw6288899329286226742:True:=trivial
theorem tw7868816934592068421:True:=trivial
theorem tw11418716681809475590:True:=trivial
theorem tw5500928250456653102:True:=trivial
theorem tw11276673781808370856:True:=trivial
theorem tw16815120312307292826:True:=trivial
theorem tw5921086926847822479:True:=trivial
theorem tw14043378501002336167:True:=trivial
theorem tw3860945085896553128:True:=trivial
theorem tw8813834805201038820:True:=trivial
theorem tw5703788683323373324:True:=trivial
theorem tw7926310518725169886:True:=trivial
theorem tw1185133004495056705:True:=trivial
theorem tw15184135612370659252:True:=trivial
theorem tw16669859652295421510:True:=trivial
theorem tw8268561730278375732:True:=trivial
theorem tw17373155029638249304:True:=trivial
theorem tw13087501818198493207:True:=trivial
theorem tw15951565718772148785:True:=trivial
theorem tw6673353254929842898:True:=trivial
theorem tw6562620642489336660:True:=trivial
theorem tw15582265134430457433:True:=trivial
theorem tw10634036388095368190:True:=trivial
theorem tw5614768392482666882:True:=trivial
theorem tw3367404672589995799:True:=trivial
theorem tw16844771165585689634:True:=trivial
theorem tw15439339920836716017:True:=trivial
theorem tw10596583487844085470:True:=trivial
theorem tw10049044813172346804:True:=trivial
theorem tw16136005376152057713:True:=trivial
theorem tw2202104827457190573:True:=trivial
theorem tw6405397332467188160:True:=trivial
theorem tw3733576999195312908:True:=trivial
theorem tw3740367232267423925:True:=trivial
theorem tw1933898955099190077:True:=trivial
theorem tw2875454311247991841:True:=trivial
theorem tw10433532725631615972:True:=trivial
theorem tw5661135595502590897:True:=trivial
theorem tw14646337595642854017:True:=trivial
theorem tw8884703869433053860:True:=trivial
theorem tw6152084663936765519:True:=trivial
theorem tw3756441635632248982:True:=trivial
theorem tw11162281354878506661:True:=trivial
theorem tw13395305491611523364:True:=trivial
theorem tw7098456057654639692:True:=trivial
theorem tw14028191566828632091:True:=trivial
theorem tw18191393013117618017:True:=trivial
theorem tw6207037630810189210:True:=trivial
theorem tw5557726145887401060:True:=trivial
theorem tw8875864435303771154:True:=trivial
theorem tw3404943833542188395:True:=trivial
theorem tw6113886275411513685:True:=trivial
theorem tw3716613009385241954:True:=trivial
theorem tw17231007045104628453:True:=trivial
theorem tw8071432712702005034:True:=trivial
theorem tw9925071325975210286:True:=trivial
theorem tw15812419840673029556:True:=trivial
theorem tw15300604969886566267:True:=trivial
theorem tw7960581030560254855:True:=trivial
theorem tw4302675769110672745:True:=trivial
theorem tw1374683150827215299:True:=trivial
theorem tw10836168034188563635:True:=trivial
theorem tw11303622988804107567:True:=trivial
theorem tw12146116064591404895:True:=trivial
theorem tw9222517762340017333:True:=trivial
theorem tw10290867955114657078:True:=trivial
theorem tw11480715243958831683:True:=trivial
theorem tw12435318223768799603:True:=trivial
theorem tw14644552321855997249:True:=trivial
theorem tw12474180819337870678:True:=trivial
theorem tw16250289411694446103:True:=trivial
theorem tw863501313514783864:True:=trivial
theorem tw16940500395915931903:True:=trivial
theorem tw5771017175057586115:True:=trivial
theorem tw9806144230346221182:True:=trivial
theorem tw8744308866227835924:True:=trivial
theorem tw1164288943419177812:True:=trivial
theorem tw5599257005332022245:True:=trivial
theorem tw15920621940110730899:True:=trivial
theorem tw9513579529920769153:True:=trivial
theorem tw17749756017185783459:True:=trivial
theorem tw17232079201679565372:True:=trivial
theorem tw13217706769633906034:True:=trivial
theorem tw11816835186279346638:True:=trivial
theorem tw2680886514927655244:True:=trivial
theorem tw16935040814251277560:True:=trivial
theorem tw16242551566295238256:True:=trivial
theorem tw8908599484001281505:True:=trivial
theorem tw15376362157591653354:True:=trivial
theorem tw3733697152812224600:True:=trivial
theorem tw3413596235502164083:True:=trivial
theorem tw14901535539088764744:True:=trivial
theorem tw9252634131770850722:True:=trivial
theorem tw8053685485574368187:True:=trivial
theorem tw2591462670753754528:True:=trivial
theorem tw12204554683936205853:True:=trivial
theorem tw3700614593813727213:True:=trivial
theorem tw9635852434217341431:True:=trivial
theorem tw6926647915924648703:True:=trivial
theorem tw13264599157740600509:True:=trivial
theorem tw12470641139229030703:True:=trivial
theorem tw9823395067533180061:True:=trivial
theorem tw9785814035273121462:True:=trivial
theorem tw5597796634338803538:True:=trivial
theorem tw2899525890795554136:True:=trivial
theorem tw1976527343010857204:True:=trivial
theorem tw17710394359598704005:True:=trivial
theorem tw3727469875104616205:True:=trivial
theorem tw11492155316408462147:True:=trivial
theorem tw17077190717856967383:True:=trivial
theorem tw6621044998277833000:True:=trivial
theorem tw9362746512173575199:True:=trivial
theorem tw7531481316400424293:True:=trivial
theorem tw12365431871570759707:True:=trivial
theorem tw12546222903915648646:True:=trivial
theorem tw10321448088038975378:True:=trivial
theorem tw16968431247873135260:True:=trivial
theorem tw10478858274597109110:True:=trivial
theorem tw4373348293887743117:True:=trivial
theorem tw3841998311364775634:True:=trivial
theorem tw7073280127733433636:True:=trivial
theorem tw5385889975879900338:True:=trivial
theorem tw9713259486835486515:True:=trivial
theorem tw16792270850779900346:True:=trivial
theorem tw9319639695318089184:True:=trivial
theorem tw14313170346825090497:True:=trivial
theorem tw9965128364203886136:True:=trivial
theorem tw5510245118354210534:True:=trivial
theorem tw83593640244934818:True:=trivial
theorem tw836998199881637943:True:=trivial
theorem tw13850384801633586337:True:=trivial
theorem tw1759015853014963763:True:=trivial
theorem tw9245492201299016161:True:=trivial
theorem tw16288753030592950034:True:=trivial
theorem tw5862963938621908482:True:=trivial
theorem tw5749656947645614283:True:=trivial
theorem tw13690120742106723164:True:=trivial
theorem tw368718796488023631:True:=trivial
theorem tw729269720992695697:True:=trivial
theorem tw2889081381939002365:True:=trivial
theorem tw17897615071800598536:True:=trivial
theorem tw13345446344577713335:True:=trivial
theorem tw15368914917026718102:True:=trivial
theorem tw11441882245672449900:True:=trivial
theorem tw15562693139729253606:True:=trivial
theorem tw11897371252323685781:True:=trivial
theorem tw10735499045026059932:True:=trivial
theorem tw1633374157928510508:True:=trivial
theorem tw2850710926968026842:True:=trivial
theorem tw14017518810856757999:True:=trivial
theorem tw11767515403872234993:True:=trivial
theorem tw2594590596405540088:True:=trivial
theorem tw11397202243347381087:True:=trivial
theorem tw15523309373093989096:True:=trivial
theorem tw11169137237605571005:True:=trivial
theorem tw6622045883507272673:True:=trivial
theorem tw1889947435763988437:True:=trivial
theorem tw8546300353093267416:True:=trivial
theorem tw2218019331582476507:True:=trivial
theorem tw6263282582470514099:True:=trivial
theorem tw14880223907420053925:True:=trivial
theorem tw17635573714324358967:True:=trivial
theorem tw2375593794468255500:True:=trivial
theorem tw16106751240304271963:True:=trivial
theorem tw7124960246599041126:True:=trivial
theorem tw11643104260341141623:True:=trivial
theorem tw14989938364268407093:True:=trivial
theorem tw2216727850497744949:True:=trivial
theorem tw12417817022193379507:True:=trivial
theorem tw16163763579185344460:True:=trivial
theorem tw255440414067775892:True:=trivial
theorem tw11673138879413976593:True:=trivial
theorem tw6954781995344322397:True:=trivial
theorem tw2083345528434146797:True:=trivial
theorem tw12688697417263478302:True:=trivial
theorem tw6999176129200988585:True:=trivial
theorem tw1937335784390591138:True:=trivial
theorem tw10852565343265330364:True:=trivial
theorem tw17952248933641295093:True:=trivial
theorem tw14159395775557313205:True:=trivial
theorem tw15336941416177108265:True:=trivial
theorem tw11645969558416182509:True:=trivial
theorem tw5917205385019348433:True:=trivial
theorem tw13023917317764303074:True:=trivial
theorem tw4601267953170011804:True:=trivial
theorem tw18327123562824056226:True:=trivial
theorem tw6714175977151515372:True:=trivial
theorem tw5123416912749708070:True:=trivial
theorem tw9345049891333692455:True:=trivial
theorem tw3088098392539900203:True:=trivial
theorem tw6890882503261242424:True:=trivial
theorem tw4996006647996538287:True:=trivial
theorem tw10956490174425311453:True:=trivial
theorem tw7134186658637540550:True:=trivial
theorem tw7899541684697766174:True:=trivial
theorem tw5466794597679279633:True:=trivial
theorem tw16557345817837856711:True:=trivial
theorem tw13831279306581251689:True:=trivial
theorem tw13299484817511832513:True:=trivial
theorem tw10971192471176841728:True:=trivial
theorem tw3889587850900747468:True:=trivial
theorem tw10894553510749325484:True:=trivial
theorem tw14326029631567866308:True:=trivial
theorem tw8749589826975317074:True:=trivial
theorem tw9463241877428562194:True:=trivial
theorem tw16241654314038217607:True:=trivial
theorem tw11677583999785113022:True:=trivial
theorem tw9004069609964565735:True:=trivial
theorem tw3313028701790284191:True:=trivial
theorem tw2157070754226303441:True:=trivial
theorem tw2079311415236816972:True:=trivial
theorem tw7744954662542337475:True:=trivial
theorem tw9719868143405447517:True:=trivial
theorem tw3984617303296753529:True:=trivial
theorem tw1650931532125352794:True:=trivial
theorem tw16432649977045779613:True:=trivial
theorem tw2739809803114134453:True:=trivial
theorem tw6082319110644219512:True:=trivial
theorem tw4098795308730111961:True:=trivial
theorem tw4356675925258607609:True:=trivial
theorem tw3344935654395015521:True:=trivial
theorem tw4780036513408788904:True:=trivial
theorem tw141019448314173755:True:=trivial
theorem tw17516846569001179709:True:=trivial
theorem tw8470425144952290110:True:=trivial
theorem tw10617879591882329009:True:=trivial
theorem tw2301871252514092396:True:=trivial
theorem tw12497718592350529791:True:=trivial
theorem tw18040579669709634676:True:=trivial
theorem tw14796368566244444962:True:=trivial
theorem tw14481197162922519394:True:=trivial
theorem tw17241305687492396569:True:=trivial
theorem tw11358288210806256816:True:=trivial
theorem tw8679098781572845156:True:=trivial
theorem tw7296853723033150032:True:=trivial
theorem tw1706507103243639976:True:=trivial
theorem tw17788205923860701886:True:=trivial
theorem tw12608185251475437061:True:=trivial
theorem tw13171880570344885101:True:=trivial
theorem tw9617094182169864582:True:=trivial
theorem tw10279140930015947059:True:=trivial
theorem tw11414531024029663802:True:=trivial
theorem tw11931994946529969723:True:=trivial
theorem tw2043272617445385325:True:=trivial
theorem tw15666112823837230679:True:=trivial
theorem tw12562232695936419065:True:=trivial
theorem tw11288908778733313985:True:=trivial
theorem tw11925558821565728188:True:=trivial
theorem tw7913925382214264765:True:=trivial
theorem tw5103902656483601617:True:=trivial
theorem tw6851214848858067154:True:=trivial
theorem tw5066521887548825993:True:=trivial
theorem tw2565640843068672575:True:=trivial
theorem tw13205635835989672819:True:=trivial
theorem tw9523415321463513473:True:=trivial
theorem tw5022841486451953329:True:=trivial
theorem tw7199291713073535607:True:=trivial
theorem tw18190817335547098710:True:=trivial
theorem tw2379616853139771448:True:=trivial
theorem tw16105065588606429076:True:=trivial
theorem tw6734589115973120946:True:=trivial
theorem tw12243258783402930895:True:=trivial
theorem tw6677978993726241464:True:=trivial
theorem tw5522275179305670250:True:=trivial
theorem tw11907193258829586862:True:=trivial
theorem tw14238074796365645376:True:=trivial
theorem tw685338199633641859:True:=trivial
theorem tw9732394557503933240:True:=trivial
theorem tw5460641050241157551:True:=trivial
theorem tw11994672311683599373:True:=trivial
theorem tw5544105808603594337:True:=trivial
theorem tw9393831117608126475:True:=trivial
theorem tw15874876014290156641:True:=trivial
theorem tw6402947007285869767:True:=trivial
theorem tw3063165953277610392:True:=trivial
theorem tw14989005829337687203:True:=trivial
theorem tw10536284628530136061:True:=trivial
theorem tw16841114846008098483:True:=trivial
theorem tw2981599397570229944:True:=trivial
theorem tw18086984149584930852:True:=trivial
theorem tw16771645612323483459:True:=trivial
theorem tw14618498705050133171:True:=trivial
theorem tw9447845982615030722:True:=trivial
theorem tw1599798847255108052:True:=trivial
theorem tw8867123002366063846:True:=trivial
theorem tw18286198914601787277:True:=trivial
theorem tw9083984232205939145:True:=trivial
theorem tw16533581442232711597:True:=trivial
theorem tw2862636679074933580:True:=trivial
theorem tw15318305694954582222:True:=trivial
theorem tw7449159316748494615:True:=trivial
theorem tw16421959203541123075:True:=trivial
theorem tw4230022082561516491:True:=trivial
theorem tw7245319355926432323:True:=trivial
theorem tw10991449804547004165:True:=trivial
theorem tw3326241627519559351:True:=trivial
theorem tw5110394178486960684:True:=trivial
theorem tw18127139108350504940:True:=trivial
theorem tw300193827303860135:True:=trivial
theorem tw746503449343589818:True:=trivial
theorem tw4507391336333574916:True:=trivial
theorem tw4892804507303697463:True:=trivial
theorem tw16697052745280115250:True:=trivial
theorem tw18374073223061681906:True:=trivial
theorem tw9192406099249261589:True:=trivial
theorem tw537104881979083921:True:=trivial
theorem tw8079805448159300908:True:=trivial
theorem tw11599468819298149290:True:=trivial
theorem tw6811815167439484889:True:=trivial
theorem tw12754167323514372895:True:=trivial
theorem tw1935920634001618098:True:=trivial
theorem tw2711650632450700669:True:=trivial
theorem tw6641105682344965285:True:=trivial
theorem tw2590978735768116021:True:=trivial
theorem tw18094372214587777129:True:=trivial
theorem tw6739441274453508360:True:=trivial
theorem tw7588849726093880400:True:=trivial
theorem tw7577438536681321884:True:=trivial
theorem tw11498238632172719666:True:=trivial
theorem tw12451546502485592096:True:=trivial
theorem tw2131033866575595301:True:=trivial
theorem tw16992848800962541826:True:=trivial
theorem tw5768146461086680252:True:=trivial
theorem tw10217687230704278778:True:=trivial
theorem tw15735193262383144098:True:=trivial
theorem tw4515973240911238012:True:=trivial
theorem tw11790686556047905751:True:=trivial
theorem tw3181365437659464975:True:=trivial
theorem tw6272058273101160874:True:=trivial
theorem tw5944568427758007402:True:=trivial
theorem tw5502401889423645873:True:=trivial
theorem tw8791447913848867180:True:=trivial
theorem tw9411353196747380513:True:=trivial
theorem tw7918205739050946754:True:=trivial
theorem tw13441353784575542426:True:=trivial
theorem tw10849112965307865725:True:=trivial
theorem tw10212865170428217819:True:=trivial
theorem tw9961498826148279610:True:=trivial
theorem tw9164789540941537589:True:=trivial
theorem tw4044550235998454791:True:=trivial
theorem tw15064217314549011063:True:=trivial
theorem tw1990641867791063662:True:=trivial
theorem tw9759572505579645193:True:=trivial
theorem tw5300269312687317590:True:=trivial
theorem tw13714444793973862055:True:=trivial
theorem tw1236783595658072466:True:=trivial
theorem tw3293661120728912982:True:=trivial
theorem tw857013255508058369:True:=trivial
theorem tw13613081696300322211:True:=trivial
theorem tw16526786508732576962:True:=trivial
theorem tw2504362147494508189:True:=trivial
end PySem.W.Fast
namespace _M
open PySem PySem.Spec PyProof.Rows _L _P
theorem dk1{d:J4}(h:d.ps.length=1)(sc:zt d.N d.ps (defScope d.st))(b:∀(kV doc pm:Value) (an:Option Addr) (cdv ct:Value),∀u0:Value,bindArgs (PySem.W.fnOf d.x d.x (jA d.st) (defBody d.st) (defScope d.st) .none kV doc pm an cdv ct) ⟨[u0],[]⟩=pure (d.ps.zip [u0])):qAq d:=⟨sc,λ_ _ _ _ _ _ us hl=>by
 rw[h]at hl;obtain⟨_,rfl⟩:=_P.len1 hl;exact b _ _ _ _ _ _ _⟩
theorem dk2{d:J4}(h:d.ps.length=2)(sc:zt d.N d.ps (defScope d.st))(b:∀(kV doc pm:Value) (an:Option Addr) (cdv ct:Value),∀u0 u1:Value,bindArgs (PySem.W.fnOf d.x d.x (jA d.st) (defBody d.st) (defScope d.st) .none kV doc pm an cdv ct) ⟨[u0,u1],[]⟩=pure (d.ps.zip [u0,u1])):qAq d:=⟨sc,λ_ _ _ _ _ _ us hl=>by
 rw[h]at hl;obtain⟨_,_,rfl⟩:=_P.len2 hl;exact b _ _ _ _ _ _ _ _⟩
theorem dk3{d:J4}(h:d.ps.length=3)(sc:zt d.N d.ps (defScope d.st))(b:∀(kV doc pm:Value) (an:Option Addr) (cdv ct:Value),∀u0 u1 u2:Value,bindArgs (PySem.W.fnOf d.x d.x (jA d.st) (defBody d.st) (defScope d.st) .none kV doc pm an cdv ct) ⟨[u0,u1,u2],[]⟩=pure (d.ps.zip [u0,u1,u2])):qAq d:=⟨sc,λ_ _ _ _ _ _ us hl=>by
 rw[h]at hl;obtain⟨_,_,_,rfl⟩:=_P.len3 hl;exact b _ _ _ _ _ _ _ _ _⟩
theorem dk4{d:J4}(h:d.ps.length=4)(sc:zt d.N d.ps (defScope d.st))(b:∀(kV doc pm:Value) (an:Option Addr) (cdv ct:Value),∀u0 u1 u2 u3:Value,bindArgs (PySem.W.fnOf d.x d.x (jA d.st) (defBody d.st) (defScope d.st) .none kV doc pm an cdv ct) ⟨[u0,u1,u2,u3],[]⟩=pure (d.ps.zip [u0,u1,u2,u3])):qAq d:=⟨sc,λ_ _ _ _ _ _ us hl=>by
 rw[h]at hl;obtain⟨_,_,_,_,rfl⟩:=_P.len4 hl;exact b _ _ _ _ _ _ _ _ _ _⟩
theorem dk5{d:J4}(h:d.ps.length=5)(sc:zt d.N d.ps (defScope d.st))(b:∀(kV doc pm:Value) (an:Option Addr) (cdv ct:Value),∀u0 u1 u2 u3 u4:Value,bindArgs (PySem.W.fnOf d.x d.x (jA d.st) (defBody d.st) (defScope d.st) .none kV doc pm an cdv ct) ⟨[u0,u1,u2,u3,u4],[]⟩=pure (d.ps.zip [u0,u1,u2,u3,u4])):qAq d:=⟨sc,λ_ _ _ _ _ _ us hl=>by
 rw[h]at hl;obtain⟨_,_,_,_,_,rfl⟩:=_P.len5 hl;exact b _ _ _ _ _ _ _ _ _ _ _⟩
theorem dks:∀d∈Tb.ds,qAq d:=by
 unfold Tb;dsimp only
 repeat' (refine wb.2 ⟨?_,?_⟩;first|exact dk1 rfl ⟨rfl,rfl,rfl,by decide +kernel,rfl,by decide +kernel,by decide +kernel⟩ λ_ _ _ _ _ _ _=>rfl|exact dk2 rfl ⟨rfl,rfl,rfl,by decide +kernel,rfl,by decide +kernel,by decide +kernel⟩ λ_ _ _ _ _ _ _ _=>rfl|exact dk3 rfl ⟨rfl,rfl,rfl,by decide +kernel,rfl,by decide +kernel,by decide +kernel⟩ λ_ _ _ _ _ _ _ _ _=>rfl|exact dk4 rfl ⟨rfl,rfl,rfl,by decide +kernel,rfl,by decide +kernel,by decide +kernel⟩ λ_ _ _ _ _ _ _ _ _ _=>rfl|exact dk5 rfl ⟨rfl,rfl,rfl,by decide +kernel,rfl,by decide +kernel,by decide +kernel⟩ λ_ _ _ _ _ _ _ _ _ _ _=>rfl)
 exact λ_ h=>nomatch h
theorem all_mk{l:PySem.W.OpenLaw}{w:World}{K:PySem.W.Frag}{h:Heap}{mg:Str->Option Value}{fa:Addr}(X:K.In h)(G:h.Ns mainGlobals mg)(hfa:mg "law"=some (.ref fa))
  (hds:∀d∈Tb.ds,qDE K d)
  {ga0:Addr}{gn0:Nat}{gsl0:Array (Option Value)}{u0_0 u0_1 u0_2 u0_3 u0_4 u0_5:Tok}(g_LENGTHS:PySem.W.nsIn K mainGlobals "LENGTHS"=some (some (.ref ga0))) (m0:K.lookup ga0=some ⟨.type "tuple",none,.seq #[.int 1 u0_0,.int 2 u0_1,.int 4 u0_2,.int 8 u0_3,.int 16 u0_4,.int 32 u0_5] gn0,gsl0⟩)
  {tg_GREATEST_SIZE:Tok}(g_GREATEST_SIZE:PySem.W.nsIn K mainGlobals "GREATEST_SIZE"=some (some (.int 5 tg_GREATEST_SIZE)))
  {tg_GREATEST_IN_SHARE:Tok}(g_GREATEST_IN_SHARE:PySem.W.nsIn K mainGlobals "GREATEST_IN_SHARE"=some (some (.int 999999999999 tg_GREATEST_IN_SHARE)))
  (z_len:PySem.W.nsIn K mainGlobals "len"=some none)
  (z_sum:PySem.W.nsIn K mainGlobals "sum"=some none)
  (z_all:PySem.W.nsIn K mainGlobals "all"=some none)
  (z_any:PySem.W.nsIn K mainGlobals "any"=some none)
  (z_max:PySem.W.nsIn K mainGlobals "max"=some none)
  (z_min:PySem.W.nsIn K mainGlobals "min"=some none)
  (z_abs:PySem.W.nsIn K mainGlobals "abs"=some none)
  (z_list:PySem.W.nsIn K mainGlobals "list"=some none)
  (z_int:PySem.W.nsIn K mainGlobals "int"=some none)
  (z_tuple:PySem.W.nsIn K mainGlobals "tuple"=some none)
  (z_range:PySem.W.nsIn K mainGlobals "range"=some none)
  (z_zip:PySem.W.nsIn K mainGlobals "zip"=some none)
  (z_isinstance:PySem.W.nsIn K mainGlobals "isinstance"=some none)
  (z_bool:PySem.W.nsIn K mainGlobals "bool"=some none)
  (z_str:PySem.W.nsIn K mainGlobals "str"=some none)
  (z_sorted:PySem.W.nsIn K mainGlobals "sorted"=some none)
  (z_enumerate:PySem.W.nsIn K mainGlobals "enumerate"=some none)
  (z_ValueError:PySem.W.nsIn K mainGlobals "ValueError"=some none)
  (main:∀ns:List Int,ns.length<=63->∃h',Fk Tb.fns 30 58 [.ref gs.length] (C7 gs ns)=.ok (.bl true,h')):
  ∃fd:FuncData,(∀(s:Shared) (v:Value),BindsTo s fd ⟨[v],[]⟩ [("_law_script",v)])/\∀base:Heap,K.In base->base.Ns mainGlobals mg->FnOk l.prog w K mg base CX0 60 fa fd ["_law_script"] (qAZ K):=by
 obtain⟨fas,fds,hT⟩:=qBI X G Tb.ds hds dks;have O:w9 K mg [ga0] Tb fas fds:=by
  refine⟨hT,λx e hx=>?_,λx hx=>?_,λa ha=>(wP.mp ha).elim (λz=>by subst z;exact⟨_,m0,rfl,rfl⟩) λha=>nomatch ha⟩
  ·have hx2:List.lookup x ([("LENGTHS",E.glob 0),("GREATEST_SIZE",E.cst (.int 5)),("GREATEST_IN_SHARE",E.cst (.int 999999999999))]:List (Str×E))=some e:=hx;simp only[List.lookup_cons,List.lookup_nil]at hx2;split at hx2
   ·rename_i hq;have hq2:x="LENGTHS":=by simpa using hq
    subst hq2;cases hx2;exact .inr ⟨_,_,rfl,PySem.W.mg_of X G g_LENGTHS,rfl⟩
   split at hx2
   ·rename_i hq;have hq2:x="GREATEST_SIZE":=by simpa using hq
    subst hq2;cases hx2;exact .inl ⟨_,_,rfl,PySem.W.mg_of X G g_GREATEST_SIZE,⟨_,rfl⟩,λ_=>rfl⟩
   split at hx2
   ·rename_i hq;have hq2:x="GREATEST_IN_SHARE":=by simpa using hq
    subst hq2;cases hx2;exact .inl ⟨_,_,rfl,PySem.W.mg_of X G g_GREATEST_IN_SHARE,⟨_,rfl⟩,λ_=>rfl⟩
   cases hx2
  ·have hx2:x∈(["len","sum","all","any","max","min","abs","list","int","tuple","range","zip","isinstance","bool","str","sorted","enumerate","ValueError"]:List Str):=List.contains_iff_mem.mp hx;simp only[wP,wl,or_false]at hx2;rcases hx2 with rfl|rfl|rfl|rfl|rfl|rfl|rfl|rfl|rfl|rfl|rfl|rfl|rfl|rfl|rfl|rfl|rfl|rfl
   ·exact PySem.W.mg_none_of X G z_len
   ·exact PySem.W.mg_none_of X G z_sum
   ·exact PySem.W.mg_none_of X G z_all
   ·exact PySem.W.mg_none_of X G z_any
   ·exact PySem.W.mg_none_of X G z_max
   ·exact PySem.W.mg_none_of X G z_min
   ·exact PySem.W.mg_none_of X G z_abs
   ·exact PySem.W.mg_none_of X G z_list
   ·exact PySem.W.mg_none_of X G z_int
   ·exact PySem.W.mg_none_of X G z_tuple
   ·exact PySem.W.mg_none_of X G z_range
   ·exact PySem.W.mg_none_of X G z_zip
   ·exact PySem.W.mg_none_of X G z_isinstance
   ·exact PySem.W.mg_none_of X G z_bool
   ·exact PySem.W.mg_none_of X G z_str
   ·exact PySem.W.mg_none_of X G z_sorted
   ·exact PySem.W.mg_none_of X G z_enumerate
   ·exact PySem.W.mg_none_of X G z_ValueError
 have hG:O9 K [ga0] gs:=⟨⟨.inr ⟨_,_,_,m0,rfl,rfl,by show 6<=sizeLine;decide,.cons ⟨_,rfl⟩ (.cons ⟨_,rfl⟩ (.cons ⟨_,rfl⟩ (.cons ⟨_,rfl⟩ (.cons ⟨_,rfl⟩ (.cons ⟨_,rfl⟩ (.nil))))))⟩,rfl⟩,True.intro⟩
 obtain⟨a,f,e1,e2,F,_,em,_⟩:=hT 58 _ rfl;have e:=hfa.symm.trans em;cases e;exact⟨f,qFm F (dks _ (wU (i:=58) rfl)) rfl,λbase _ _=>V0 O hG (i:=58) rfl e1 e2 rfl main⟩
theorem walk{l:PySem.W.OpenLaw}{q:Program}{loose:List Str}{XP:(Str->Option Value)->Heap->Prop}{YP:World->Heap->Prop}{d:DefRec}{K:Params->PySem.W.Frag}(hn:l.most=some 63)(hdf:d.params.defaults=[])
  (hY:∀(w:World) (h:Heap),YP w h->(K w.params).In h)
  (F:∀(w:World) (mg:Str->Option Value) (fa:Addr) (h:Heap),(K w.params).In h->h.Ns mainGlobals mg->mg d.name=some (.ref fa) ->
   ∃fd:FuncData,(∀(s:Shared) (u:Value),BindsTo s fd ⟨[u],[]⟩ [("_law_script",u)])/\∀base:Heap,(K w.params).In base->base.Ns mainGlobals mg->FnOk l.prog w (K w.params) mg base CX0 60 fa fd ["_law_script"] (qAZ (K w.params))):
  PySem.W.WalkO q loose XP YP l.row.toRowW d [] (λf vs=>PySem.call f vs):=
 _L.walk_of (n:=63) (k:=60) (x:="_law_script") (CX:=λ_=>CX0) (sp:=λw=>qAZ (K w.params)) hn (by decide) hdf ⟨rfl,by decide,by decide,rfl⟩ hY F (λ_ _ a ns hl hO hS=>⟨a,ns,rfl,hO,hS,hl,λ_=>rfl⟩) λ_ _ _ _ _ z=>z
end _M
open PySem PySem.W PyProof.Rows
set_option maxRecDepth 100000 in
set_option maxHeartbeats 0 in
theorem PySem.Challenge.cw_healhalves_k36_whole_better_by_every_los_holds : PySem.Challenge.rw_healhalves_k36_whole_better_by_every_los.Holds := by
 w_on;o_law;k_head;(case hw=>w_witness2)
 k_fill
 refine _M.walk (l:=PySem.Challenge.rw_healhalves_k36_whole_better_by_every_los) rfl rfl (λw h Y=>PySem.W.kIn_of Y) ?F
 case F=>
  intro w mg fa h KX G hmg
  refine' _M.all_mk KX G hmg ?ds ?g_LENGTHS ?m0 ?g_GREATEST_SIZE ?g_GREATEST_IN_SHARE ?z_len ?z_sum ?z_all ?z_any ?z_max ?z_min ?z_abs ?z_list ?z_int ?z_tuple ?z_range ?z_zip ?z_isinstance ?z_bool ?z_str ?z_sorted ?z_enumerate ?z_ValueError _M.main
  case ds=>
   unfold _M.Tb;dsimp only
   repeat' (refine wb.2 ⟨⟨_,_,_,_,_,_,_,_,_,_,by k_is,by k_is,by k_is,by k_is⟩,?_⟩)
   exact λ_ h=>nomatch h
  all_goals (try k_is)
