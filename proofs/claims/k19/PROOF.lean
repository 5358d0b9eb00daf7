import PyProof.Rows.All
import Wide.All
import OpenK.AllK
import Wide.FinOn
import Lean
import PyProof.EqAt
import PyProof.EqKinds
import PyProof.TupleCall
import PyProof.NeKinds
import PyProof.ZipIter
import PyProof.ReprRoads
import Wide.Words
import PyProof.Rows.MinMaxN
import KE.KIntText
import PyProof.StrWalks
import PyProof.StrLawsJoin
import KE.KSortKey
import KE.KDictOf
import KE.KItemsList
import PyProof.AttrMissHeap
import PyProof.Rows.SetFrom
import PyProof.DictIter
import PyProof.Rows.SortShell
import KE.KDictSum
import KE.KRevIter
import PyProof.EnumMake
import PyProof.EnumFor
import PyProof.WalksEnum
import PyProof.Rows.EnumRows
import PyProof.FactsAll.range_2
import PyProof.AutoRange
import PyProof.StrLawsRepr
import PySem.Challenge.RW_healhalves_k19_papers_looked_at
set_option linter.all false
def wA:=@Option.map_eq_some_iff
def wB:=@List.getElem?_append_left
def wC:=@List.getElem?_eq_some_iff
def wD:=@List.getElem?_eq_getElem
def wE:=@List.getD_eq_getElem?_getD
def wF:=@Bool.and_eq_true
def wG:=@Nat.le_refl
def wH:=@List.mem_cons_of_mem
def wI:=@List.mem_cons
def wJ:=@List.mem_append
def wK:=@Nat.lt_of_lt_of_le
def wL:=@List.getElem?_append_right
def wM:=@Option.bind_eq_some_iff
def wN:=@Nat.le_trans
def wO:=@List.mem_cons_self
def wP:=@List.size_toArray
def wQ:=@List.length_map
def wR:=@List.mem_append_left
def wS:=@Nat.add_sub_cancel_left
def wT:=@List.mem_range
def wU:=@List.mem_singleton
def wV:=@List.mem_append_right
def wW:=@Nat.ne_of_lt
def wX:=@List.not_mem_nil
def wY:=@List.length_append
def wZ:=@List.mem_of_getElem?
def wa:=@Bool.false_ne_true
def wb:=@List.append_nil
def wc:=@List.all_eq_true
def we:=@Array.length_toList
def wf:=@List.getElem?_set_ne
def wg:=@List.getElem?_take_of_lt
def wj:=@List.forall_mem_cons
def wk:=@Bool.eq_iff_iff
def wl:=@List.length_take
def wm:=@Nat.testBit_lt_two_pow
def wn:=@Nat.lt_irrefl
def wo:=@List.length_drop
def wq:=@List.filter_cons_of_pos
def wt:=@Int.toNat_natCast
def wu:=@List.append_assoc
def wv:=@List.getElem?_set_self
def wx:=@Bool.and_false
def wz:=@List.length_eq_zero_iff
def vA:=@List.filter_cons_of_neg
def vB:=@List.getElem?_map
def vC:=@List.length_filter_le
def vD:=@Nat.le_of_lt
def vE:=@List.map_append
def vF:=@List.mem_iff_getElem
def vG:=@Bool.and_true
def vH:=@List.nodup_append
def vI:=@Nat.zero_le
def vJ:=@Bool.false_eq_true
def vK:=@List.getElem_mem
def vL:=@Nat.lt_trans
def vM:=@List.mem_map
def vN:=@Nat.pow_le_pow_right
def vO:=@Bool.false_xor
def vP:=@List.mem_of_mem_drop
def vQ:=@List.map_map
def vR:=@Bool.not_true
def vS:=@List.lookup_append
def vT:=@List.pairwise_cons
def vU:=@Bool.xor_false
def vV:=@Bool.not_false
def vW:=@List.set_append_right
def vX:=@List.nodup_cons
def vY:=@List.reverse_cons
def vZ:=@Nat.pow_succ
def va:=@List.range_eq_range'
def vb:=@Nat.lt_succ_self
def vc:=@List.eq_nil_of_length_eq_zero
def vd:=@List.getElem?_drop
def ve:=@List.map_id'
def vf:=@List.getElem?_eq_none
def vg:=@List.filter_congr
def vh:=@Bool.false_and
def vi:=@List.nodup_nil
def vj:=@Bool.or_eq_false_iff
def vm:=@List.mem_of_mem_take
def vn:=@Option.getD_some
def vo:=@List.ext_getElem
def vp:=@List.filterMap_cons
def vq:=@List.length_zipWith
def vt:=@List.map_congr_left
def vv:=@List.length_pos_iff
def vw:=@Bool.or_eq_true
def vy:=@Nat.ne_of_gt
def vz:=@Nat.lt_succ_of_lt
def uA:=@Nat.add_zero
def uB:=@List.mapM_cons
def uC:=@List.drop_eq_nil_of_le
def uD:=@List.filter_eq_nil_iff
def uE:=@List.take_append_drop
def uF:=@Nat.succ_le_succ
def uG:=@Nat.mod_lt
def uH:=@List.any_eq_true
def uI:=@Nat.le_add_right
def uJ:=@Bool.xor_self
def uK:=@Nat.min_eq_left
def uL:=@List.take_left'
def uM:=@Nat.add_comm
def uN:=@Bool.or_true
def uO:=@Bool.xor_assoc
open PySem PySem.Spec in def uP:=@wpAny_bind
open PySem PySem.Spec in def uQ:=@wpAny_pure
def uR:=@decide_eq_false
def uS:=@decide_eq_true
def uT:=@decide_eq_true_eq
def uU:=@of_decide_eq_true
open PySem PySem.Spec in def uV:=@wpAny_truthy_bool
def uW:=@beq_self_eq_true
set_option bootstrap.genMatcherCode false
set_option compiler.extract_closed false
set_option genSizeOf false
set_option genSizeOfSpec false
set_option Elab.async false
set_option maxRecDepth 100000
namespace _L
open PySem PySem.Spec PyProof.Rows
noncomputable abbrev Key:=Sum Int Str
noncomputable def V4:Key->Value->Bool
 | .inl k,v=>Value.isInt k v
 | .inr x,v=>Value.isStrOf x v
noncomputable def qIf(w:World):Key->Int
 | .inl k=>hashInt k
 | .inr x=>hashStr w x
theorem qr:∀{k:Key}{v:Value},V4 k v=true->(∃i t,k=Sum.inl i/\v=Value.int i t)\/(∃x t,k=Sum.inr x/\v=Value.str x t)
 | .inl i,v,h=>by
  obtain⟨t,e⟩:=Value.isInt_shape (k:=i) (v:=v) h;exact .inl ⟨i,t,rfl,e⟩
 | .inr x,v,h=>by
  obtain⟨t,e⟩:=Value.isStrOf_shape (x:=x) (v:=v) h;exact .inr ⟨x,t,rfl,e⟩
theorem i9(i:Int)(t:Tok):V4 (.inl i) (.int i t)=true:=by simp[V4,Value.isInt]
theorem v5(x:Str)(t:Tok):V4 (.inr x) (.str x t)=true:=by simp[V4,Value.isStrOf]
theorem qFN(a b:Int):decide ((Sum.inl a:Key)=Sum.inl b)=(a==b):=by
 by_cases e:a=b
 ·subst e;simp
 ·have h:¬ (Sum.inl a:Key)=Sum.inl b:=λq=>e (Sum.inl.inj q);rw[uR h];exact(beq_eq_false_iff_ne.mpr e).symm
theorem qFL(a b:Str):decide ((Sum.inr a:Key)=Sum.inr b)=decide (a=b):=by
 by_cases e:a=b
 ·subst e;simp
 ·have h:¬ (Sum.inr a:Key)=Sum.inr b:=λq=>e (Sum.inr.inj q);rw[uR h,uR e]
theorem qFQ(a:Int)(b:Str):decide ((Sum.inl a:Key)=Sum.inr b)=false:=uR (λq=>nomatch q)
theorem qFI(a:Str)(b:Int):decide ((Sum.inr a:Key)=Sum.inl b)=false:=uR (λq=>nomatch q)
noncomputable def zM(prog:Program)(w:World):PySem.KeyKind prog w Key where
 is:=V4
 hash:=qIf w
 inj:=λv a b ha hb=>by
  rcases qr ha with⟨i,t,rfl,rfl⟩|⟨x,t,rfl,rfl⟩
  ·rcases qr hb with⟨j,u,rfl,e⟩|⟨y,u,rfl,e⟩
   ·injection e with e1 _;rw[e1]
   ·exact nomatch e
  ·rcases qr hb with⟨j,u,rfl,e⟩|⟨y,u,rfl,e⟩
   ·exact nomatch e
   ·injection e with e1 _;rw[e1]
 byValue:=λk v h=>by
  rcases qr h with⟨i,t,rfl,rfl⟩|⟨x,t,rfl,rfl⟩<;>rfl
 pyHash:=λhv h=>by
  rcases qr hv with⟨i,t,rfl,rfl⟩|⟨x,t,rfl,rfl⟩
  ·exact wpAny_pyHash_int h
  ·exact wpAny_pyHash_str h
 eqBool:=λhu hv h=>by
  rcases qr hu with⟨i,t,rfl,rfl⟩|⟨x,t,rfl,rfl⟩
  ·rcases qr hv with⟨j,u,rfl,rfl⟩|⟨y,u,rfl,rfl⟩
   ·rw[qFN]at h;exact wpAny_eqBool_int h
   ·rw[qFQ]at h;exact SeqAt.EqAt.int_str i t y u _ _ _ _ h
  ·rcases qr hv with⟨j,u,rfl,rfl⟩|⟨y,u,rfl,rfl⟩
   ·rw[qFI]at h;exact SeqAt.EqAt.str_int x t j u _ _ _ _ h
   ·rw[qFL]at h;exact wpAny_eqBool_str h
 «strs»:=λk x t v h=>by
  rcases qr h with⟨i,u,rfl,e⟩|⟨y,u,rfl,e⟩
  ·exact nomatch e
  ·injection e with e1 _;subst e1;cases v<;>rfl
theorem K0(prog:Program)(w:World)(i:Int)(t:Tok):(zM prog w).is (.inl i) (.int i t)=true:=i9 i t
theorem J2(prog:Program)(w:World)(x:Str)(t:Tok):(zM prog w).is (.inr x) (.str x t)=true:=v5 x t
inductive V where
 |non|bl (b:Bool)|int (i:Int)|str (x:Str)|byt (b:Array UInt8)|flt (b:UInt64)|ref (a:Addr)|ty (n:String)
 deriving DecidableEq
def RelV:V->Value->Prop
 | .non,u=>u=Value.none
 | .bl b,u=>u=Value.bool b
 | .int i,u=>∃t,u=Value.int i t
 | .str x,u=>∃t,u=Value.str x t
 | .byt b,u=>∃t,u=Value.bytes b t
 | .flt b,u=>∃t,u=Value.float b t
 | .ref a,u=>u=Value.ref a
 | .ty n,u=>u=Value.type n
abbrev Vals:List V->List Value->Prop:=Paired RelV
theorem Vals.length{xs:List V}{us:List Value}(r:Vals xs us):xs.length=us.length:=Paired.length r
theorem Vals.get:∀{xs:List V}{us:List Value}{i:Nat}{x:V},Vals xs us->xs[i]?=some x->∃u,us[i]?=some u/\RelV x u
 |_,_,_,_,.nil,e=>by simp at e
 |_,_,0,_,.cons r _,e=>by simp at e;subst e;exact⟨_,rfl,r⟩
 |_,_,i+1,x,.cons _ t,e=>by
  obtain⟨u,h1,h2⟩:=Vals.get (i:=i) (x:=x) t (by simpa using e);exact⟨u,by simpa using h1,h2⟩
theorem Vals.set{x:V}{u:Value}(r:RelV x u):∀{xs:List V}{us:List Value}(i:Nat),Vals xs us->Vals (xs.set i x) (us.set i u)
 |_,_,_,.nil=>.nil
 |_,_,0,.cons _ t=>.cons r t
 |_,_,i+1,.cons q t=>.cons q (Vals.set r i t)
theorem Vals.append:∀{xs ys:List V}{us ws:List Value},Vals xs us->Vals ys ws->Vals (xs++ys) (us++ws)
 |_,_,_,_,.nil,s=>s
 |_,_,_,_,.cons r t,s=>.cons r (Vals.append t s)
theorem Vals.take:∀{xs:List V}{us:List Value}(n:Nat),Vals xs us->Vals (xs.take n) (us.take n)
 |_,_,0,_=>.nil
 |_,_,_+1,.nil=>.nil
 |_,_,n+1,.cons r t=>.cons r (Vals.take n t)
theorem Vals.drop:∀{xs:List V}{us:List Value}(n:Nat),Vals xs us->Vals (xs.drop n) (us.drop n)
 |_,_,0,r=>r
 |_,_,_+1,.nil=>.nil
 |_,_,n+1,.cons _ t=>Vals.drop n t
def RelO:Option V->Option Value->Prop
 |some v,some u=>RelV v u
 |none,none=>True
 |_,_=>False
def KV{κ:Type}:List (κ×V)->List (κ×Value)->Prop:=Paired λ(p:κ×V) (q:κ×Value)=>p.1=q.1/\RelV p.2 q.2
noncomputable def kV:Key->V
 | .inl i=>.int i
 | .inr x=>.str x
inductive HO where
 |lst (xs:List V)
 |tup (xs:List V)
 |dK (kvs:List (Key×V))|dT (kvs:List (List Key×V))
 |set (S:Int->Bool) (n:Nat)
 |ins (C dx:Addr) (fs:List (Str×V))
 |own (x:Addr)
 |xd (fs:List (Str×V))
 |met (f x:Addr)
 |rng (lo hi:Int)
 |frz (o:Obj) (u:HO)
 |tbl (ps:Array Value)
 |ext (φ:Heap->Prop)
noncomputable abbrev Hp:=Addr->Option HO
noncomputable def upd(H:Hp)(a:Addr)(o:HO):Hp:=λb=>if b=a then some o else H b
theorem qE{H:Hp}{a:Addr}{o:HO}:upd H a o a=some o:=by unfold upd;rw[if_pos rfl]
theorem qG{H:Hp}{a b:Addr}{o:HO}(h:b≠a):upd H a o b=H b:=by unfold upd;rw[if_neg h]
theorem qGm{H:Hp}{a b:Addr}{o u:HO}(h:H a=some o)(h':H b=some u)(d:o≠u):a≠b:=by
 intro e;subst e;rw[h]at h';exact d (Option.some.inj h')
theorem ne_of_none{H:Hp}{a b:Addr}{o:HO}(h:H a=some o)(h':H b=none):a≠b:=by
 intro e;subst e;rw[h]at h';cases h'
section
variable (P:Program)(w:World)
def ObjOk(H:Hp)(h:Heap)(a:Addr):HO->Prop
 | .lst xs=>xs.length<=sizeLine/\∃(its:List Value) (n:Nat),Vals xs its/\h.get? a=some { cls:=.type "list",data:=.seq its.toArray n }
 | .tup xs=>xs.length<=sizeLine/\∃its:List Value,Vals xs its/\IsTup h a its.toArray
 | .dK kvs=>kvs.length<=sizeLine/\(a==sysModules)=false/\∃vs,KV kvs vs/\h.DictOf (zM P w) a vs
 | .dT kvs=>kvs.length<=sizeLine/\(a==sysModules)=false/\∃xs:List (List Key×Addr×Value),
   Paired (λ(p:List Key×V) (q:List Key×Addr×Value)=>p.1=q.1/\H q.2.1=some (.tup (p.1.map kV))/\RelV p.2 q.2.2) kvs xs/\
   ∃o es ep,h.get? a=some o/\o.ExactDict/\o.data=.dict es ep/\es.toList=xs.map (entryOfKey (tupleKind (zM P w)))/\(xs.map (·.1)).Nodup
 | .set S n=>h.SetOf (intKind P w) a S n
 | .ins C dx fs=>H dx=some (.own a)/\fs.length<=1000/\dx≠a/\h.get? a=some (PySem.W.instObj C dx)/\
   ∃mA,h.Ns1 dx mA/\(∀f,RelO (fs.lookup f) (mA f))/\PySem.Within mA (fs.map (·.1))
 | .own _=>∃o,h.get? a=some o
 | .xd fs=>∃mA,h.Ns1 a mA/\∀f,RelO (fs.lookup f) (mA f)
 | .rng lo hi=>∃t u v,h.get? a=some { cls:=.type "range",data:=.fields #[.int lo t,.int hi u,.int 1 v] }
 | .frz o u=>h.get? a=some o/\ObjOk H h a u
 | .tbl ps=>h.get? a=some { cls:=.none,data:=.fields ps }
 | .met f x=>h.get? a=some (PySem.W.methodObj (.ref f) (.ref x))
 | .ext φ=>φ h/\(∃o,h.get? a=some o)/\∀h1 h2:Heap,φ h1->(∀o,h1.get? a=some o->h2.get? a=some o)->φ h2
def HOk(H:Hp)(h:Heap):Prop:=∀a o,H a=some o->ObjOk P w H h a o
end
section
variable{P:Program}{w:World}{H H':Hp}{h h':Heap}{a:Addr}{o:HO}
theorem ObjOk.lt(x:ObjOk P w H h a o):a<h.objs.size:=by
 cases o with
 |lst xs=>obtain⟨_,_,_,_,e⟩:=x;exact Heap.lt_size e
 |tup xs=>obtain⟨_,_,_,p⟩:=x;exact p.lt
 |dK kvs=>obtain⟨_,_,_,_,o,_,_,e,_⟩:=x;exact Heap.lt_size e
 |dT kvs=>obtain⟨_,_,_,_,o,_,_,e,_⟩:=x;exact Heap.lt_size e
 |set S n=>obtain⟨o,_,_,_,e,_⟩:=x;exact Heap.lt_size e
 |ins C dx fs=>obtain⟨_,_,_,e,_⟩:=x;exact Heap.lt_size e
 |own y=>obtain⟨_,e⟩:=x;exact Heap.lt_size e
 |xd fs=>obtain⟨_,⟨_,_,_,e,_⟩,_⟩:=x;exact Heap.lt_size e
 |rng lo hi=>obtain⟨_,_,_,e⟩:=x;exact Heap.lt_size e
 |frz ob u=>obtain⟨e,_⟩:=x;exact Heap.lt_size e
 |tbl ps=>exact Heap.lt_size (show h.get? a=some _ from x)
 |met f y=>exact Heap.lt_size (show h.get? a=some _ from x)
 |ext φ=>obtain⟨_,⟨_,e⟩,_⟩:=x;exact Heap.lt_size e
theorem Paired.mapP{α β:Type}{F G:α->β->Prop}:∀{l₁:List α}{l₂:List β},Paired F l₁ l₂->(∀a b,F a b->G a b)->Paired G l₁ l₂
 |_,_,.nil,_=>.nil
 |_,_,.cons r t,f=>.cons (f _ _ r) (Paired.mapP t f)
theorem ObjOk.stay(x:ObjOk P w H h a o)(k:∀b u,(b=a\/H b=some (.own a))->h.get? b=some u->h'.get? b=some u)
  (ho:∀b,H b=some (.own a)->H' b=some (.own a)) (ht:∀b xs,H b=some (.tup xs)->H' b=some (.tup xs)):ObjOk P w H' h' a o:=by
 induction o with
 |lst xs=>obtain⟨z,its,n,r,e⟩:=x;exact⟨z,its,n,r,k _ _ (.inl rfl) e⟩
 |tup xs=>obtain⟨z,its,r,ob,e,c⟩:=x;exact⟨z,its,r,ob,k _ _ (.inl rfl) e,c⟩
 |dK kvs=>obtain⟨z,y,vs,r,ob,es,ep,e,c⟩:=x;exact⟨z,y,vs,r,ob,es,ep,k _ _ (.inl rfl) e,c⟩
 |dT kvs=>
  obtain⟨z,y,xs,r,ob,es,ep,e,c⟩:=x;exact⟨z,y,xs,Paired.mapP r λp q z=>⟨z.1,ht _ _ z.2.1,z.2.2⟩,ob,es,ep,k _ _ (.inl rfl) e,c⟩
 |set S n=>obtain⟨ob,es,ep,t,e,c⟩:=x;exact⟨ob,es,ep,t,k _ _ (.inl rfl) e,c⟩
 |ins C dx fs=>
  obtain⟨d,z,ne,e,mA,⟨od,es,ep,e2,c⟩,r⟩:=x;exact⟨ho _ d,z,ne,k _ _ (.inl rfl) e,mA,⟨od,es,ep,k _ _ (.inr d) e2,c⟩,r⟩
 |own y=>obtain⟨ob,e⟩:=x;exact⟨ob,k _ _ (.inl rfl) e⟩
 |xd fs=>obtain⟨mA,⟨od,es,ep,e,c⟩,r⟩:=x;exact⟨mA,⟨od,es,ep,k _ _ (.inl rfl) e,c⟩,r⟩
 |rng lo hi=>obtain⟨t,u,v,e⟩:=x;exact⟨t,u,v,k _ _ (.inl rfl) e⟩
 |frz ob u ih=>obtain⟨e,q⟩:=x;exact⟨k _ _ (.inl rfl) e,ih q⟩
 |tbl ps=>
  have e:h.get? a=some { cls:=.none,data:=.fields ps }:=x;show h'.get? a=some { cls:=.none,data:=.fields ps };exact k a _ (.inl rfl) e
 |met f y=>
  have e:h.get? a=some (PySem.W.methodObj (.ref f) (.ref y)):=x;show h'.get? a=some (PySem.W.methodObj (.ref f) (.ref y));exact k a _ (.inl rfl) e
 |ext φ=>obtain⟨p,⟨o,e⟩,st⟩:=x;exact⟨st _ _ p λo q=>k _ _ (.inl rfl) q,⟨o,k _ _ (.inl rfl) e⟩,st⟩
theorem HOk.lt(x:HOk P w H h)(e:H a=some o):a<h.objs.size:=(x a o e).lt
theorem HOk.fresh(x:HOk P w H h)(e:h.objs.size<=a):H a=none:=by
 cases q:H a with
 |none=>rfl
 |some u=>exact absurd (wK (x.lt q) e) (wn _)
theorem HOk.kept(x:HOk P w H h)(k:∀b u,h.get? b=some u->h'.get? b=some u):HOk P w H h':=λa o e=>
 (x a o e).stay (λb u _ q=>k b u q) (λ_ q=>q) λ_ _ q=>q
theorem HOk.laid(x:HOk P w H h)(k:∀b u,h.get? b=some u->h'.get? b=some u)(hp:h.objs.size<=a)(new:ObjOk P w (upd H a o) h' a o):HOk P w (upd H a o) h':=λb u e=>by
 have hn:=x.fresh hp;by_cases hb:b=a
 ·subst hb;rw[qE]at e;cases e;exact new
 ·rw[qG hb]at e;exact(x b u e).stay (λc v _ q=>k c v q) (λc q=>by rw[qG (ne_of_none q hn)];exact q) λc xs q=>by rw[qG (ne_of_none q hn)];exact q
end
def Rd(H:Hp)(a:Addr)(u:HO):Prop:=H a=some u\/∃o,H a=some (.frz o u)
theorem Rd.ok{P:Program}{w:World}{H:Hp}{h:Heap}{a:Addr}{u:HO}(r:Rd H a u)(x:HOk P w H h):ObjOk P w H h a u:=by
 rcases r with r|⟨o,r⟩
 ·exact x a u r
 ·obtain⟨_,q⟩:=x a _ r;exact q
def Mut:Option HO->Prop
 |some (.lst _)=>True
 |some (.dK _)=>True
 |some (.dT _)=>True
 |some (.set _ _)=>True
 |some (.ins _ _ _)=>True
 |some (.ext _)=>True
 |_=>False
section
variable{P:Program}{w:World}{H:Hp}{h h':Heap}{x e:Addr}{o':HO}
theorem HOk.write(ok:HOk P w H h)(mu:Mut (H x))(he:e=x\/H e=some (.own x))(k:∀b u,b≠e->h.get? b=some u->h'.get? b=some u)(heo:∃u,h'.get? e=some u)
  (new:ObjOk P w (upd H x o') h' x o'):HOk P w (upd H x o') h':=λb u q=>by
 have nown:∀c y,H c=some (.own y)->c≠x:=λc y r z=>by subst z;rw[r]at mu;exact mu
 have ntup:∀c xs,H c=some (.tup xs)->c≠x:=λc xs r z=>by subst z;rw[r]at mu;exact mu
 by_cases hb:b=x
 ·subst hb;rw[qE]at q;cases q;exact new
 ·rw[qG hb]at q;by_cases hbe:b=e
  ·have q':H b=some (.own x):=by
    rcases he with z|z
    ·exact absurd (hbe.trans z) hb
    ·rw[hbe];exact z
   rw[q]at q';cases q';obtain⟨v,hv⟩:=heo;exact⟨v,by rw[hbe];exact hv⟩
  ·refine(ok b u q).stay (λc v hc r=>k c v ?_ r) (λc r=>by rw[qG (nown c b r)];exact r) λc xs r=>by rw[qG (ntup c xs r)];exact r
   rcases hc with rfl|hc
   ·exact hbe
   ·rintro rfl;rcases he with z|z
    ·exact nown c b hc z
    ·rw[hc]at z;cases z;exact hb rfl
end
structure Un(fs ex:List Addr)(H H':Hp)(h h':Heap):Prop where
 keep:∀b o,h.get? b=some o->H b=none->b∉fs->b∉ex->h'.get? b=some o
 slot:∀b o,h.get? b=some o->H b=none->b∈fs->b∉ex->∃sl,h'.get? b=some { o with slots:=sl }
 free:∀b o,h.get? b=some o->H b=none->b∉ex->H' b=none
 there:∀b o,h.get? b=some o->b∉ex->∃o',h'.get? b=some o'
 tups:∀b xs,H b=some (.tup xs)->H' b=some (.tup xs)
 frzs:∀b o u,H b=some (.frz o u)->H' b=some (.frz o u)
 tbls:∀b ps,H b=some (.tbl ps)->∃more,H' b=some (.tbl (ps++more))
section
variable{fs fs' ex ex':List Addr}{H H1 H2:Hp}{h h1 h2 h':Heap}{a x e:Addr}{o:HO}
theorem Un.any(u:Un fs ex H H1 h h1){b:Addr}{ob:Obj}(q:h.get? b=some ob)(n:H b=none)(hx:b∉ex):∃sl,h1.get? b=some { ob with slots:=sl }:=by
 by_cases hb:b∈fs
 ·exact u.slot b ob q n hb hx
 ·exact⟨ob.slots,u.keep b ob q n hb hx⟩
theorem Un.kept(k:∀b u,h.get? b=some u->h'.get? b=some u):Un fs ex H H h h':=
 ⟨λb ob q _ _ _=>k b ob q,λb ob q _ _ _=>⟨ob.slots,k b ob q⟩,λ_ _ _ n _=>n,λb ob q _=>⟨ob,k b ob q⟩,λ_ _ q=>q,λ_ _ _ q=>q,λ_ ps q=>⟨#[],by rw[q];simp⟩⟩
theorem Un.refl:Un fs ex H H h h:=Un.kept λ_ _ q=>q
theorem Un.laid(k:∀b u,h.get? b=some u->h'.get? b=some u)(hp:h.objs.size<=a)(hn:H a=none):Un fs ex H (upd H a o) h h' where
 keep:=λb u q _ _ _=>k b u q
 slot:=λb u q _ _ _=>⟨u.slots,k b u q⟩
 free:=λb u q n _=>by rw[qG (wW (wK (Heap.lt_size q) hp))];exact n
 there:=λb u q _=>⟨u,k b u q⟩
 tups:=λb xs q=>by rw[qG (ne_of_none q hn)];exact q
 frzs:=λb u xs q=>by rw[qG (ne_of_none q hn)];exact q
 tbls:=λb ps q=>⟨#[],by rw[qG (ne_of_none q hn),q];simp⟩
theorem Un.write(mu:Mut (H x))(he:e=x\/H e=some (.own x))(k:∀b u,b≠e->h.get? b=some u->h'.get? b=some u)(heo:∃u,h'.get? e=some u):Un fs ex H (upd H x o) h h':=by
 have hx:∀b,H b=none->b≠x:=λb n z=>by subst z;rw[n]at mu;exact mu
 have hb:∀b,H b=none->b≠e:=λb n z=>by
  subst z;rcases he with r|r
  ·exact hx b n r
  ·rw[n]at r;cases r
 have hm:∀b u,H b=some u->¬ Mut (some u)->b≠x:=λb u q nm z=>by subst z;rw[q]at mu;exact nm mu
 refine⟨λb u q n _ _=>k b u (hb b n) q,λb u q n _ _=>⟨u.slots,k b u (hb b n) q⟩,λb u q n _=>by rw[qG (hx b n)];exact n,λb u q _=>?_,
  λb xs q=>by rw[qG (hm b _ q λz=>z)];exact q,λb u xs q=>by rw[qG (hm b _ q λz=>z)];exact q,λb ps q=>⟨#[],by rw[qG (hm b _ q λz=>z),q];simp⟩⟩
 by_cases hbe:b=e
 ·subst hbe;exact heo
 ·exact⟨u,k b u hbe q⟩
end
noncomputable def trk(h:Heap)(H:Hp):List Addr:=(List.range h.objs.size).filter λa=>(H a).isSome
noncomputable def qAj(h:Heap)(H:Hp):Heap:=PySem.W.hideAll h (trk h H)
theorem j0(h:Heap)(H:Hp):(qAj h H).objs.size=h.objs.size:=PySem.W.hideAll_size _ _
theorem qA7{h:Heap}{H:Hp}{b:Addr}{o:Obj}(e:h.get? b=some o)(n:H b=none):(qAj h H).get? b=some o:=
 PySem.W.hideAll_get _ e λhm=>by
  have q:(H b).isSome=true:=(List.mem_filter.mp hm).2;rw[n]at q;simp at q
theorem qCM{h:Heap}{H:Hp}{b:Addr}{o:Obj}(e:(qAj h H).get? b=some o):h.get? b=some o/\H b=none:=by
 have e':h.get? b=some o:=PySem.W.of_hideAll (trk h H) e;refine⟨e',?_⟩;cases q:H b with
 |none=>rfl
 |some x=>
  have hm:b∈trk h H:=List.mem_filter.mpr ⟨wT.mpr (Heap.lt_size e'),by simp[q]⟩;have z:(qAj h H).get? b=none:=PySem.W.hideAll_none (trk h H) hm;rw[z]at e;cases e
noncomputable def qCq(g h:Heap)(L:Addr):List (Addr×Obj):=(List.range h.objs.size).filterMap λa=>if a=L\/(g.get? a).isSome=true then none else (h.get? a).map λo=>(a,o)
noncomputable def ZE(g h:Heap)(L d:Addr):List (Addr×Obj):=(qCq g h L).filter λp=>decide (p.1≠d)
structure Mod(K:PySem.W.Frag)(mg:Str->Option Value)(base:Heap):Prop where
 kin:K.In base
 glob:base.Ns mainGlobals mg
 blt:∃mb,base.Ns builtinsNs mb/\∀x:Str,x≠"__name__" -> mb x=bootBuiltins x
 nolimit:base.NoLimit
set_option genInjectivity false in structure Cx where
 prog:Program
 w:World
 K:PySem.W.Frag
 mg:Str->Option Value
 base:Heap
 A:Around
 N:List Str
 s₀:Shared
 H₀:Hp
 env:Env
 outer:List Env
 stack:List Env
 ex:List Addr
 fn:Str->Bool
 calm:Bool
 pn:List (Addr×Obj)
 xe:Value->Shared->Prop
noncomputable def frs(l:List Env):List Addr:=l.filterMap (·.frame)
noncomputable abbrev Cx.fs(X:Cx):List Addr:=frs X.outer
def Vis(sc:Scope)(x:Str):Prop:=sc.names.lookup x=some .local\/sc.names.lookup x=some .cell\/sc.names.lookup x=some .free
def Loc(sc:Scope)(x:Str):Prop:=sc.names.lookup x=some .local\/sc.names.lookup x=some .cell
def qId(env:Env)(h:Heap)(m:Str->Option Value)(x:Str)(u:Value):Prop:=
 (env.kindOf x=some .local/\m x=some u)\/((env.kindOf x=some .cell\/env.kindOf x=some .free)/\∃c,env.cells.lookup x=some c/\h.IsCell c (some u))
structure Cx.Ok(X:Cx):Prop where
 mod:Mod X.K X.mg X.base
 kind:X.env.scope.kind=.function
 glob:X.env.globals=mainGlobals
 blt:X.env.builtins=builtinsNs
 above:X.s₀.heap.objs.size<=X.env.locals
 inj:∀x y c,X.env.cells.lookup x=some c->X.env.cells.lookup y=some c->x=y
 has:∀x,(X.env.kindOf x=some .cell\/X.env.kindOf x=some .free)->∃c,X.env.cells.lookup x=some c
 cab:∀x c,X.fn x=true->X.env.cells.lookup x=some c->X.s₀.heap.objs.size<=c
 hd:X.calm=true->X.A.handled=none
 frames:X.A.frames=some X.stack
 stk:X.stack=X.outer\/(X.stack=X.env::X.outer/\X.env.frame=some X.env.locals)
 exf:∀b∈X.ex,b≠X.env.locals/\∀x c,X.env.cells.lookup x=some c->c≠b
 bs:∀b o,X.base.get? b=some o->X.s₀.heap.get? b=some o/\X.H₀ b=none
 bsz:X.base.objs.size<=X.s₀.heap.objs.size
 noex:∀b o,X.base.get? b=some o->b∉X.ex
 exfs:∀b∈X.ex,b∉X.fs
 funs:X.s₀.heap.FunFrames X.base X.outer
 frf:∀b∈X.fs,X.H₀ b=none
structure Inv(X:Cx)(pins:List (Addr×Obj))(σ:List (Option V))(H:Hp)(s:Shared):Prop where
 ok:X.Ok
 os:s.os=X.s₀.os
 bare:AllBare s.gens
 base:Un X.fs X.ex X.H₀ H X.s₀.heap s.heap
 loc:∃m,s.heap.Ns X.env.locals m/\∀(i:Nat) (x:Str) (v:V),X.N[i]?=some x->σ[i]?=some (some v)->Vis X.env.scope x->∃u,RelV v u/\qId X.env s.heap m x u
 cell:∀x c,X.env.cells.lookup x=some c->∃v,s.heap.IsCell c v
 free:H X.env.locals=none
 freeC:∀x c,X.env.cells.lookup x=some c->H c=none
 pin:∀p∈X.pn++pins,s.heap.get? p.1=some p.2/\H p.1=none/\p.1≠X.env.locals/\p.1∉X.fs/\∀v,p.2.data≠.cell v
 hok:HOk X.prog X.w H s.heap
 len:σ.length=X.N.length
section
variable{X:Cx}{pins:List (Addr×Obj)}{σ:List (Option V)}{H H':Hp}{s:Shared}{h':Heap}
theorem Cx.Ok.nofr(ok:X.Ok){b:Addr}{o:Obj}(e:X.base.get? b=some o):b∉X.fs:=λhb=>by
 have:=(ok.funs.mem hb).1;rw[e]at this;cases this
theorem Inv.bs(I:Inv X pins σ H s):∀b o,X.base.get? b=some o->s.heap.get? b=some o/\H b=none:=λb o e=>
 ⟨I.base.keep b o (I.ok.bs b o e).1 (I.ok.bs b o e).2 (I.ok.nofr e) (I.ok.noex b o e),I.base.free b o (I.ok.bs b o e).1 (I.ok.bs b o e).2 (I.ok.noex b o e)⟩
theorem Inv.bk(I:Inv X pins σ H s):∀b o,X.base.get? b=some o->s.heap.get? b=some o:=λb o e=>(I.bs b o e).1
theorem Inv.mod(I:Inv X pins σ H s):Mod X.K X.mg X.base:=I.ok.mod
theorem Inv.kIn(I:Inv X pins σ H s):X.K.In s.heap:=I.ok.mod.kin.keeps I.bk
theorem Inv.lt(I:Inv X pins σ H s):X.env.locals<s.heap.objs.size:=let ⟨_,hn,_⟩:=I.loc;hn.lt
theorem Inv.sz(I:Inv X pins σ H s):X.s₀.heap.objs.size<=s.heap.objs.size:=wN I.ok.above (vD I.lt)
theorem Inv.nofs(I:Inv X pins σ H s){a:Addr}(h:s.heap.objs.size<=a):a∉X.fs:=λhb=>by
 obtain⟨_,o,ho,_⟩:=I.ok.funs.mem hb;exact absurd (wK (Heap.lt_size ho) (wN I.sz h)) (wn _)
theorem Inv.cne(I:Inv X pins σ H s):∀x c,X.env.cells.lookup x=some c->c≠X.env.locals:=λx c e z=>by
 obtain⟨v,o,ho,hd⟩:=I.cell x c e;obtain⟨m,⟨o',es,ep,ho',hd',_⟩,_⟩:=I.loc;rw[z,ho']at ho;cases ho;rw[hd']at hd;cases hd
theorem Inv.funs(I:Inv X pins σ H s):s.heap.FunFrames X.base X.outer:=by
 have all:∀(l:List Env),(∀b∈frs l,b∈X.fs)->X.s₀.heap.FunFrames X.base l->s.heap.FunFrames X.base l:=by
  intro l
  induction l with
  |nil=>intro _ _;trivial
  |cons env r ih=>
   intro hs hl;obtain⟨hk,⟨L,o,hf,hn,ho,hd⟩,hr⟩:=hl;have hL:L∈X.fs:=hs L (by unfold frs;rw[vp,hf];exact wO);obtain⟨sl,e⟩:=I.base.slot L o ho (I.ok.frf L hL) hL λz=>I.ok.exfs L z hL;exact⟨hk,⟨L,_,hf,hn,e,hd⟩,ih (λb hb=>hs b (by unfold frs;rw[vp,hf];exact wH _ hb)) hr⟩
 exact all X.outer (λ_ hb=>hb) I.ok.funs
theorem Inv.stack(I:Inv X pins σ H s):s.heap.FunFrames X.base X.stack:=by
 rcases I.ok.stk with e|⟨e,hf⟩
 ·rw[e];exact I.funs
 ·rw[e];obtain⟨m,hn,_⟩:=I.loc;refine .cons (by rw[I.ok.kind];decide) hf hn ?_ I.funs;exact Heap.get?_none_of_le (wN I.ok.bsz I.ok.above)
theorem Inv.stkSub(I:Inv X pins σ H s):∀b∈frs X.stack,b∈X.env.locals::X.fs:=λb hb=>by
 rcases I.ok.stk with e|⟨e,hf⟩
 ·rw[e]at hb;exact wH _ hb
 ·rw[e]at hb;unfold frs at hb;rw[vp,hf]at hb;exact hb
theorem Inv.stkFree(I:Inv X pins σ H s):∀b∈frs X.stack,H b=none:=λb hb=>by
 rcases wI.mp (I.stkSub b hb) with e|hb
 ·rw[e];exact I.free
 ·obtain⟨_,o,ho,_⟩:=I.ok.funs.mem hb;exact I.base.free b o ho (I.ok.frf b hb) λz=>I.ok.exfs b z hb
theorem Inv.step{g':Array GenState}{t':Nat}{d':Drawn}{ch:List Addr}(I:Inv X pins σ H s)
  (hch:∀b∈ch,(b∈X.ex\/X.s₀.heap.objs.size<=b)/\b≠X.env.locals/\(∀x c,X.env.cells.lookup x=some c->c≠b)/\∀p∈X.pn++pins,p.1≠b)
  (keep:∀b o,b≠X.env.locals->b∉X.fs->b∉ch->s.heap.get? b=some o->H b=none->h'.get? b=some o)
  (slot:∀b o,b≠X.env.locals->b∈X.fs->b∉ch->s.heap.get? b=some o->H b=none->∃sl,h'.get? b=some { o with slots:=sl }) (free:∀b o,b∉ch->s.heap.get? b=some o->H b=none->H' b=none)
  (there:∀b o,b∉ch->s.heap.get? b=some o->∃o',h'.get? b=some o')
  (tups:∀b xs,H b=some (.tup xs)->H' b=some (.tup xs)) (frzs:∀b o u,H b=some (.frz o u)->H' b=some (.frz o u)) (tbls:∀b ps,H b=some (.tbl ps)->∃more,H' b=some (.tbl (ps++more)))
  (ns:∀m,s.heap.Ns X.env.locals m->h'.Ns X.env.locals m) (hok:HOk X.prog X.w H' h') (hg:AllBare g'):
  Inv X pins σ H' { s with heap:=h',gens:=g',drawn:=d',toks:=t' }:=by
 have neL:∀b o,X.s₀.heap.get? b=some o->b≠X.env.locals:=λb o e=>wW (wK (Heap.lt_size e) I.ok.above);have neC:∀b o,X.s₀.heap.get? b=some o->b∉X.ex->b∉ch:=λb o e hx hb=>by
  rcases(hch b hb).1 with z|z
  ·exact hx z
  ·exact absurd (wK (Heap.lt_size e) z) (wn _)
 have cellK:∀x c,X.env.cells.lookup x=some c->∀v,s.heap.IsCell c v->h'.IsCell c v:=λx c e v ⟨o,ho,hd⟩=>by
  have nch:c∉ch:=λz=>(hch c z).2.2.1 x c e rfl;by_cases hc:c∈X.fs
  ·obtain⟨sl,q⟩:=slot c o (I.cne x c e) hc nch ho (I.freeC x c e);exact⟨_,q,hd⟩
  ·exact⟨o,keep c o (I.cne x c e) hc nch ho (I.freeC x c e),hd⟩
 refine⟨I.ok,I.os,hg,⟨λb o e n hb hx=>?_,λb o e n hb hx=>?_,λb o e n hx=>?_,λb o e hx=>?_,λb xs e=>tups b xs (I.base.tups b xs e),λb o xs e=>frzs b o xs (I.base.frzs b o xs e),λb ps e=>?_⟩,?_,λx c e=>?_,?_,λx c e=>?_,λp hp=>?_,hok,I.len⟩
 ·exact keep b o (neL b o e) hb (neC b o e hx) (I.base.keep b o e n hb hx) (I.base.free b o e n hx)
 ·obtain⟨sl,e1⟩:=I.base.slot b o e n hb hx;obtain⟨sl',e2⟩:=slot b _ (neL b o e) hb (neC b o e hx) e1 (I.base.free b o e n hx);exact⟨sl',e2⟩
 ·obtain⟨o',e1⟩:=I.base.there b o e hx;exact free b o' (neC b o e hx) e1 (I.base.free b o e n hx)
 ·obtain⟨o',e1⟩:=I.base.there b o e hx;exact there b o' (neC b o e hx) e1
 ·obtain⟨m1,e1⟩:=I.base.tbls b ps e;obtain⟨m2,e2⟩:=tbls b _ e1;exact⟨m1++m2,by rw[e2,Array.append_assoc]⟩
 ·obtain⟨m,hn,hl⟩:=I.loc;refine⟨m,ns m hn,λi x v e1 e2 e3=>?_⟩;obtain⟨u,r,l⟩:=hl i x v e1 e2 e3;refine⟨u,r,?_⟩;rcases l with l|⟨k,c,e,z⟩
  ·exact .inl l
  ·exact .inr ⟨k,c,e,cellK x c e _ z⟩
 ·obtain⟨v,z⟩:=I.cell x c e;exact⟨v,cellK x c e v z⟩
 ·obtain⟨m,⟨o,_,_,ho,_⟩,_⟩:=I.loc;exact free _ o (λz=>(hch _ z).2.1 rfl) ho I.free
 ·obtain⟨v,o,ho,hd⟩:=I.cell x c e;exact free c o (λz=>(hch c z).2.2.1 x c e rfl) ho (I.freeC x c e)
 ·obtain⟨e,n,ne,nf,d⟩:=I.pin p hp;have nch:p.1∉ch:=λz=>(hch p.1 z).2.2.2 p hp rfl;exact⟨keep p.1 p.2 ne nf nch e n,free p.1 p.2 nch e n,ne,nf,d⟩
theorem Inv.un{t':Nat}(I:Inv X pins σ H s)(u:Un X.fs [] H H' s.heap h')(hok:HOk X.prog X.w H' h'):Inv X pins σ H' { s with heap:=h',toks:=t' }:=by
 obtain⟨m,⟨o,es,ep,ho,r⟩,_⟩:=id I.loc;obtain⟨sl,hL⟩:=u.any ho I.free (by simp);exact I.step (g':=s.gens) (d':=s.drawn) (ch:=[]) (λ_ z=>nomatch z) (λb o _ hb _ e n=>u.keep b o e n hb (by simp)) (λb o _ hb _ e n=>u.slot b o e n hb (by simp)) (λb o _ e n=>u.free b o e n (by simp)) (λb o _ e=>u.there b o e (by simp)) u.tups u.frzs u.tbls (λm' hm=>by
  obtain⟨o',es',ep',ho',r'⟩:=hm;rw[ho]at ho';cases ho';exact⟨_,es',ep',hL,r'⟩) hok I.bare
theorem Inv.call{g':Array GenState}{t':Nat}{d':Drawn}{ch:List Addr}(I:Inv X pins σ H s)(u:Un (frs X.stack) ch H H' s.heap h')(hok:HOk X.prog X.w H' h')(hg:AllBare g')
  (hch:∀b∈ch,(b∈X.ex\/X.s₀.heap.objs.size<=b)/\b≠X.env.locals/\(∀x c,X.env.cells.lookup x=some c->c≠b)/\∀p∈X.pn++pins,p.1≠b):
  Inv X pins σ H' { s with heap:=h',gens:=g',drawn:=d',toks:=t' }:=by
 obtain⟨m,⟨o,es,ep,ho,r⟩,_⟩:=id I.loc;obtain⟨sl,hL⟩:=u.any ho I.free λz=>(hch _ z).2.1 rfl;exact I.step (ch:=ch) hch (λb o hL hb hc e n=>u.keep b o e n (λz=>(wI.mp (I.stkSub b z)).elim hL hb) hc) (λb o _ _ hc e n=>u.any e n hc) (λb o hc e n=>u.free b o e n hc) (λb o hc e=>u.there b o e hc) u.tups u.frzs u.tbls (λm' hm=>by
  obtain⟨o',es',ep',ho',r'⟩:=hm;rw[ho]at ho';cases ho';exact⟨_,es',ep',hL,r'⟩) hok hg
theorem Inv.turned{t':Nat}{it:Addr}(I:Inv X pins σ H s)(k:∀b o,b≠it->s.heap.get? b=some o->h'.get? b=some o)(hn:H it=none)(hL:it≠X.env.locals)
  (h1:it∈X.ex\/X.s₀.heap.objs.size<=it) (h2:∀x c,X.env.cells.lookup x=some c->c≠it) (h3:∀p∈X.pn++pins,p.1≠it):Inv X pins σ H { s with heap:=h',toks:=t' }:=by
 have nit:∀b u,H b=some u->b≠it:=λb u e z=>by rw[z,hn]at e;cases e
 refine I.step (g':=s.gens) (d':=s.drawn) (ch:=[it]) (λb hb=>?_) (λb o _ _ hc e _=>k b o (λz=>hc (by simp[z])) e) (λb o _ _ hc e _=>⟨o.slots,k b o (λz=>hc (by simp[z])) e⟩) (λ_ _ _ _ n=>n)
  (λb o hc e=>⟨o,k b o (λz=>hc (by simp[z])) e⟩) (λ_ _ e=>e) (λ_ _ _ e=>e) (λb ps e=>⟨#[],by rw[e];simp⟩) (λm hm=>?_) (λb u e=>?_) I.bare
 ·have e:b=it:=by simpa using hb
  subst e;exact⟨h1,hL,h2,h3⟩
 ·obtain⟨o,es,ep,ho,r⟩:=hm;exact⟨o,es,ep,k _ o (Ne.symm hL) ho,r⟩
 ·refine(I.hok b u e).stay (λc v hc q=>k c v ?_ q) (λ_ q=>q) λ_ _ q=>q;rcases hc with z|z
  ·rw[z];exact nit b u e
  ·exact nit c _ z
theorem Inv.tok(I:Inv X pins σ H s)(t:Nat):Inv X pins σ H { s with toks:=t }:=I.un (h':=s.heap) (t':=t) Un.refl I.hok
theorem Inv.kept{t':Nat}(I:Inv X pins σ H s)(k:∀b u,s.heap.get? b=some u->h'.get? b=some u):Inv X pins σ H { s with heap:=h',toks:=t' }:=I.un (Un.kept k) (I.hok.kept k)
theorem Inv.laid{a:Addr}{o:HO}{t':Nat}(I:Inv X pins σ H s)(k:∀b u,s.heap.get? b=some u->h'.get? b=some u)(hp:s.heap.objs.size<=a)(new:ObjOk X.prog X.w (upd H a o) h' a o):
  Inv X pins σ (upd H a o) { s with heap:=h',toks:=t' }:=I.un (Un.laid k hp (I.hok.fresh hp)) (I.hok.laid k hp new)
theorem Inv.write{x e:Addr}{o:HO}{t':Nat}(I:Inv X pins σ H s)(mu:Mut (H x))(he:e=x\/H e=some (.own x))(k:∀b u,b≠e->s.heap.get? b=some u->h'.get? b=some u)(heo:∃u,h'.get? e=some u)
  (new:ObjOk X.prog X.w (upd H x o) h' x o):Inv X pins σ (upd H x o) { s with heap:=h',toks:=t' }:=I.un (Un.write mu he k heo) (I.hok.write mu he k heo new)
theorem Inv.pins_of{pins':List (Addr×Obj)}(I:Inv X pins σ H s)(h:∀p∈pins',s.heap.get? p.1=some p.2/\H p.1=none/\p.1≠X.env.locals/\p.1∉X.fs/\∀v,p.2.data≠.cell v):Inv X pins' σ H s:=
 ⟨I.ok,I.os,I.bare,I.base,I.loc,I.cell,I.free,I.freeC,λp hp=>(wJ.mp hp).elim (λz=>I.pin p (wR _ z)) (h p),I.hok,I.len⟩
theorem T5{N:List Str}(hN:N.Nodup){i j:Nat}{x:Str}(a:N[i]?=some x)(b:N[j]?=some x):i=j:=by
 obtain⟨h1,e1⟩:=wC.mp a;obtain⟨h2,e2⟩:=wC.mp b;exact(List.getElem_inj hN).mp (e1.trans e2.symm)
theorem D2{M:Model}{A:Around}{E:Value->Shared->Prop}{i:Nat}{x:Str}{v:V}{u:Value}{Q:Unit->Shared->Prop}(I:Inv X pins σ H s)(hN:X.N.Nodup)(hi:X.N[i]?=some x)(hx:Loc X.env.scope x)(r:RelV v u)
  (h:∀s',Inv X pins (σ.set i (some v)) H s'->(∃a,Heap.SameBut a s.heap s'.heap/\(a=X.env.locals\/X.env.cells.lookup x=some a))->Q () s') (hf:X.fn x=true\/X.env.scope.names.lookup x=some .local:=by first|exact .inl rfl|exact .inr rfl|assumption):wpAny M A (storeName X.env x u) Q E s:=by
 obtain⟨m,hn,hl⟩:=id I.loc;have hcls:(X.env.scope.kind==.class||(X.env.scope.kind==.module&&X.env.locals != X.env.globals))=false:=by rw[I.ok.kind];rfl
 have hiσ:i<σ.length:=by rw[I.len];exact(wC.mp hi).1
 have cne:=I.cne;have tracked:∀{a:Addr}{h':Heap},(∃o,s.heap.get? a=some o/\H a=none)->Heap.SameBut a s.heap h'->HOk X.prog X.w H h':=λ{a h'} ha hs b ob e=>by
  obtain⟨_,_,hfree⟩:=ha;refine(I.hok b ob e).stay (λc w' hc q=>(hs.2 c ?_).trans q) (λ_ q=>q) λ_ _ q=>q;rintro rfl;rcases hc with rfl|hc
  ·rw[hfree]at e;cases e
  ·rw[hfree]at hc;cases hc
 rcases hx with hk|hk
 ·refine wpAny_storeName_local hk hn (λh' hn' hs=>?_) hcls;obtain⟨oL,_,_,hoL,_⟩:=id hn;refine h _ ⟨I.ok,I.os,I.bare,⟨λb o e n hb hx=>?_,λb o e n hb hx=>?_,I.base.free,λb o e hx=>?_,I.base.tups,I.base.frzs,I.base.tbls⟩,⟨_,hn',λj y v' e1 e2 e3=>?_⟩,λy c e=>?_,I.free,I.freeC,λp hp=>?_,tracked ⟨oL,hoL,I.free⟩ hs,by simpa using I.len⟩ ⟨_,hs,.inl rfl⟩
  ·exact(hs.2 b (wW (wK (Heap.lt_size e) I.ok.above))).trans (I.base.keep b o e n hb hx)
  ·obtain⟨sl,e1⟩:=I.base.slot b o e n hb hx;exact⟨sl,(hs.2 b (wW (wK (Heap.lt_size e) I.ok.above))).trans e1⟩
  ·obtain⟨o',e1⟩:=I.base.there b o e hx;exact⟨o',(hs.2 b (wW (wK (Heap.lt_size e) I.ok.above))).trans e1⟩
  ·by_cases hj:j=i
   ·subst hj;rw[hi]at e1;cases e1;rw[wv hiσ]at e2;cases e2;exact⟨u,r,.inl ⟨hk,by simp⟩⟩
   ·rw[wf (Ne.symm hj)]at e2;obtain⟨u',r',q⟩:=hl j y v' e1 e2 e3;refine⟨u',r',?_⟩;rcases q with⟨k,e⟩|⟨k,c,e,z⟩
    ·refine .inl ⟨k,?_⟩;have:y≠x:=λe=>hj (T5 hN e1 (e ▸ hi));simp[this,e]
    ·exact .inr ⟨k,c,e,z.sameBut hs (cne y c e)⟩
  ·obtain⟨w',z⟩:=I.cell y c e;exact⟨w',z.sameBut hs (cne y c e)⟩
  ·obtain⟨e,n,ne,nf,d⟩:=I.pin p hp;exact⟨(hs.2 p.1 ne).trans e,n,ne,nf,d⟩
 ·have hfn:X.fn x=true:=by
   rcases hf with z|z
   ·exact z
   ·rw[z]at hk;cases hk
  obtain⟨c,hc⟩:=I.ok.has x (.inl hk);obtain⟨w',z⟩:=I.cell x c hc;refine wpAny_storeName_cell I.ok.kind hk hc z (λh' hc' hs=>?_);obtain⟨oc,hoc,hocd⟩:=id z;refine h { s with heap:=h' } ⟨I.ok,I.os,I.bare,⟨λb o e n hb hx=>?_,λb o e n hb hx=>?_,I.base.free,λb o e hx=>?_,I.base.tups,I.base.frzs,I.base.tbls⟩,⟨m,hn.sameBut hs (Ne.symm (cne x c hc)),λj y v' e1 e2 e3=>?_⟩,λy c' e=>?_,I.free,I.freeC,λp hp=>?_,tracked ⟨oc,hoc,I.freeC x c hc⟩ hs,by simpa using I.len⟩ ⟨c,hs,.inr hc⟩
  ·exact(hs.2 b (wW (wK (Heap.lt_size e) (I.ok.cab x c hfn hc)))).trans (I.base.keep b o e n hb hx)
  ·obtain⟨sl,e1⟩:=I.base.slot b o e n hb hx;exact⟨sl,(hs.2 b (wW (wK (Heap.lt_size e) (I.ok.cab x c hfn hc)))).trans e1⟩
  ·obtain⟨o',e1⟩:=I.base.there b o e hx;exact⟨o',(hs.2 b (wW (wK (Heap.lt_size e) (I.ok.cab x c hfn hc)))).trans e1⟩
  ·by_cases hj:j=i
   ·subst hj;rw[hi]at e1;cases e1;rw[wv hiσ]at e2;cases e2;exact⟨u,r,.inr ⟨.inl hk,c,hc,hc'⟩⟩
   ·rw[wf (Ne.symm hj)]at e2;obtain⟨u',r',q⟩:=hl j y v' e1 e2 e3;refine⟨u',r',?_⟩;rcases q with q|⟨k,c',e,z'⟩
    ·exact .inl q
    ·refine .inr ⟨k,c',e,z'.sameBut hs ?_⟩;rintro rfl;exact hj (T5 hN e1 (I.ok.inj _ _ _ e hc ▸ hi))
  ·by_cases hcc:c'=c
   ·subst hcc;exact⟨_,hc'⟩
   ·obtain⟨w2,z2⟩:=I.cell y c' e;exact⟨w2,z2.sameBut hs hcc⟩
  ·obtain⟨e,n,ne,nf,d⟩:=I.pin p hp;refine⟨(hs.2 p.1 ?_).trans e,n,ne,nf,d⟩;intro q;rw[q,hoc]at e;have q':oc=p.2:=Option.some.inj e;exact d w' (by rw[<-q'];exact hocd)
theorem Qg{M:Model}{A:Around}{E:Value->Shared->Prop}{i:Nat}{x:Str}{v:V}{u:Value}{Q:Unit->Shared->Prop}(I:Inv X pins σ H s)(hN:X.N.Nodup)(hi:X.N[i]?=some x)(hx:Loc X.env.scope x)(r:RelV v u)
  (h:∀s',Inv X pins (σ.set i (some v)) H s'->Q () s') (hf:X.fn x=true\/X.env.scope.names.lookup x=some .local:=by first|exact .inl rfl|exact .inr rfl|assumption):wpAny M A (storeName X.env x u) Q E s:=
 D2 I hN hi hx r (λs' I' _=>h s' I') hf
theorem Inv.call'{s':Shared}{ch:List Addr}(I:Inv X pins σ H s)(ho:s'.os=s.os)(u:Un (frs X.stack) ch H H' s.heap s'.heap)(hok:HOk X.prog X.w H' s'.heap)(hg:AllBare s'.gens)
  (hch:∀b∈ch,(b∈X.ex\/X.s₀.heap.objs.size<=b)/\b≠X.env.locals/\(∀x c,X.env.cells.lookup x=some c->c≠b)/\∀p∈X.pn++pins,p.1≠b):Inv X pins σ H' s':=by
 obtain⟨h',g',d',t',o'⟩:=s';have e:o'=s.os:=ho;subst e;exact I.call (g':=g') (t':=t') (d':=d') u hok hg hch
end
noncomputable abbrev XK:=Value->Option Addr->Hp->Prop
noncomputable abbrev St:=List (Option V)
noncomputable abbrev VK:=V->Hp->Prop
noncomputable abbrev TE:=St->Hp->VK->Prop
noncomputable abbrev TT:=St->Hp->(Bool->Hp->Prop)->Prop
noncomputable abbrev TA:=St->Hp->(List V->Hp->Prop)->Prop
structure Y8 where
 nx:St->Hp->Prop
 rt:VK
 bk:St->Hp->Prop:=λ_ _=>False
 ct:St->Hp->Prop:=λ_ _=>False
noncomputable abbrev TS:=Y8->St->Hp->Prop
def EP(X:Cx)(pins:List (Addr×Obj))(σ:St)(Q:VK)(u:Value)(s':Shared):Prop:=∃v H',Inv X pins σ H' s'/\RelV v u/\Q v H'
def TP(X:Cx)(pins:List (Addr×Obj))(σ:St)(Q:Bool->Hp->Prop)(b:Bool)(s':Shared):Prop:=∃H',Inv X pins σ H' s'/\Q b H'
def AP(X:Cx)(pins:List (Addr×Obj))(σ:St)(Q:List V->Hp->Prop)(us:List Value)(s':Shared):Prop:=∃vs H',Inv X pins σ H' s'/\Vals vs us/\Q vs H'
def SP(X:Cx)(pins:List (Addr×Obj))(D:Y8)(f:Flow)(s':Shared):Prop:=
 match f with
 | .next=>∃σ' H',Inv X pins σ' H' s'/\D.nx σ' H'
 | .brk=>∃σ' H',Inv X pins σ' H' s'/\D.bk σ' H'
 | .cont=>∃σ' H',Inv X pins σ' H' s'/\D.ct σ' H'
 | .ret u=>∃v σ' H',Inv X pins σ' H' s'/\RelV v u/\D.rt v H'
def PE(X:Cx)(e:Expr)(t:TE):Prop:=
 ∀(pins:List (Addr×Obj)) (s:Shared) (σ:St) (H:Hp) (Q:VK),Inv X pins σ H s->t σ H Q->wpAny (model X.prog X.w) X.A (eval e X.env) (EP X pins σ Q) X.xe s
def PT(X:Cx)(e:Expr)(t:TT):Prop:=
 ∀(pins:List (Addr×Obj)) (s:Shared) (σ:St) (H:Hp) (Q:Bool->Hp->Prop),Inv X pins σ H s->t σ H Q->wpAny (model X.prog X.w) X.A (isTrue e X.env (eval e X.env)) (TP X pins σ Q) X.xe s
def PW(X:Cx)(e:Expr)(t:TT):Prop:=
 ∀(whole:Sem Value) (pins:List (Addr×Obj)) (s:Shared) (σ:St) (H:Hp) (Q:Bool->Hp->Prop),Inv X pins σ H s->t σ H Q->wpAny (model X.prog X.w) X.A (isTrue e X.env whole) (TP X pins σ Q) X.xe s
theorem PW.pt{X:Cx}{e:Expr}{t:TT}(h:PW X e t):PT X e t:=h _
def PA(X:Cx)(es:List Expr)(t:TA):Prop:=
 ∀(pos:Pos) (pins:List (Addr×Obj)) (s:Shared) (σ:St) (H:Hp) (Q:List V->Hp->Prop),Inv X pins σ H s->t σ H Q->wpAny (model X.prog X.w) X.A (spliced (backTo pos (starEach es X.env))) (AP X pins σ Q) X.xe s
def PS(X:Cx)(st:Stmt)(t:TS):Prop:=
 ∀(pins:List (Addr×Obj)) (s:Shared) (σ:St) (H:Hp) (D:Y8),Inv X pins σ H s->t D σ H->wpAny (model X.prog X.w) X.A (exec st X.env) (SP X pins D) X.xe s
def PSs(X:Cx)(st:List Stmt)(t:TS):Prop:=
 ∀(pins:List (Addr×Obj)) (s:Shared) (σ:St) (H:Hp) (D:Y8),Inv X pins σ H s->t D σ H->wpAny (model X.prog X.w) X.A (execs st X.env) (SP X pins D) X.xe s
theorem thn{α:Type}{t:Sem α}{Q Q':α->Shared->Prop}{M:Model}{A:Around}{E:Value->Shared->Prop}{s:Shared}(h:wpAny M A t Q E s)(hQ:∀a s,Q a s->Q' a s):wpAny M A t Q' E s:=wpAny_mono h hQ λ_ _ x=>x
section
variable{X:Cx}
theorem bin{a b:Expr}{ta tb:TE}(ha:PE X a ta)(hb:PE X b tb){pins:List (Addr×Obj)}{s:Shared}{σ:St}{H:Hp}{R:V->V->Hp->Prop}(I:Inv X pins σ H s)(h:ta σ H λx H1=>tb σ H1 λy H2=>R x y H2)
  {α:Type}{Q:α->Shared->Prop}{f:Value->Value->Sem α}
  (hf:∀v u s2 x y H2,Inv X pins σ H2 s2->RelV x v->RelV y u->R x y H2->wpAny (model X.prog X.w) X.A (f v u) Q X.xe s2):
  wpAny (model X.prog X.w) X.A (eval a X.env) (λv s₁=>wpAny (model X.prog X.w) X.A (eval b X.env) (λu s₂=>wpAny (model X.prog X.w) X.A (f v u) Q X.xe s₂) X.xe s₁) X.xe s:=by
 refine thn (ha pins s σ H _ I h) λv s1 ⟨x,H1,I1,r1,q1⟩=>?_;refine thn (hb pins s1 σ H1 _ I1 q1) λu s2 ⟨y,H2,I2,r2,q2⟩=>?_;exact hf v u s2 x y H2 I2 r1 r2 q2
noncomputable def qIt(i:Nat):TE:=λσ H Q=>∃v,σ[i]?=some (some v)/\Q v H
noncomputable def tC(v:V):TE:=λ_ H Q=>Q v H
theorem pe_var{i:Nat}{x:Str}{pos:Pos}(hN:X.N[i]?=some x)(hv:Vis X.env.scope x)(hd:(x==("__debug__":Str))=false:=by decide)(hcd:(x==("__classdict__":Str))=false:=by decide):PE X (.Name x pos) (qIt i):=by
 intro pins s σ H Q I h;obtain⟨v,e,h⟩:=h;obtain⟨m,hn,hl⟩:=I.loc;obtain⟨u,r,l⟩:=hl i x v hN e hv;have fin:EP X pins σ Q u s:=⟨v,H,I,r,h⟩
 rcases l with⟨hk,hm⟩|⟨hk,c,hc,hcell⟩
 ·exact wpAny_Name (wpAny_loadName_local I.ok.kind hk hn hm fin) hd
 ·rcases hk with hk|hk
  ·exact wpAny_Name (wpAny_loadName_cell I.ok.kind hk hc hcell fin) hd
  ·exact wpAny_Name (wpAny_loadName_free I.ok.kind hk hc hcell fin hcd) hd
theorem pe_int {i j pos}:PE X (.Constant (.int i) j pos) (tC (.int i)):=λ_ _ _ H _ I h=>wpAny_Constant_int ⟨.int i,H,I.tok _,⟨_,rfl⟩,h⟩
theorem pe_bl {b j pos}:PE X (.Constant (.bool b) j pos) (tC (.bl b)):=λ_ _ _ H _ I h=>Constant_bool ⟨.bl b,H,I,rfl,h⟩
theorem pe_non {j pos}:PE X (.Constant .none j pos) (tC .non):=λ_ _ _ H _ I h=>Constant_none ⟨.non,H,I,rfl,h⟩
theorem pe_str {x j pos}:PE X (.Constant (.str x) j pos) (tC (.str x)):=λ_ _ _ H _ I h=>Calls.Constant_str ⟨.str x,H,I.tok _,⟨_,rfl⟩,h⟩
def Gl(X:Cx)(x:Str):Prop:=X.env.kindOf x=some .globalImplicit
theorem G6{E:Value->Shared->Prop}{pins:List (Addr×Obj)}{s:Shared}{σ:St}{H:Hp}{x:Str}{u:Value}{pos:Pos}{Q:Value->Shared->Prop}(I:Inv X pins σ H s)(hg:Gl X x)(hm:X.mg x=some u)(h:Q u s)
  (hd:(x==("__debug__":Str))=false:=by decide):wpAny (model X.prog X.w) X.A (eval (.Name x pos) X.env) Q E s:=
 Calls.Name_function_global I.ok.kind hg (Calls.loadGlobal_global (by rw[I.ok.glob];exact I.mod.glob.keeps I.bk) hm h) hd
theorem ld_blt{E:Value->Shared->Prop}{pins:List (Addr×Obj)}{s:Shared}{σ:St}{H:Hp}{x:Str}{u:Value}{pos:Pos}{Q:Value->Shared->Prop}(I:Inv X pins σ H s)(hg:Gl X x)(hm:X.mg x=none)(hv:bootBuiltins x=some u)(h:Q u s)
  (hn:x≠"__name__":=by decide) (hd:(x==("__debug__":Str))=false:=by decide):wpAny (model X.prog X.w) X.A (eval (.Name x pos) X.env) Q E s:=by
 obtain⟨mb,h1,h2⟩:=I.mod.blt;exact Calls.Name_function_global I.ok.kind hg (Calls.loadGlobal_builtin (by rw[I.ok.glob];exact I.mod.glob.keeps I.bk) hm (by rw[I.ok.blt];exact h1.keeps I.bk) ((h2 x hn).trans hv) h) hd
theorem pe_glob{x:Str}{v:V}{u:Value}{pos:Pos}(hg:Gl X x)(hm:X.mg x=some u)(r:RelV v u)(hd:(x==("__debug__":Str))=false:=by decide):PE X (.Name x pos) (tC v):=
 λ_ _ _ H _ I h=>G6 I hg hm ⟨v,H,I,r,h⟩ hd
theorem pe_bltn{x:Str}{v:V}{u:Value}{pos:Pos}(hg:Gl X x)(hm:X.mg x=none)(hv:bootBuiltins x=some u)(r:RelV v u)(hn:x≠"__name__":=by decide)(hd:(x==("__debug__":Str))=false:=by decide):PE X (.Name x pos) (tC v):=
 λ_ _ _ H _ I h=>ld_blt I hg hm hv ⟨v,H,I,r,h⟩ hn hd
variable{a b:Expr}{ta tb:TE}{pos:Pos}
def PC(X:Cx)(op:CmpOp)(a b:Expr)(t:TE):Prop:=
 ∀(pins:List (Addr×Obj)) (s:Shared) (σ:St) (H:Hp) (Q:VK),Inv X pins σ H s->t σ H Q ->
  wpAny (model X.prog X.w) X.A (eval a X.env) (λv s₁=>wpAny (model X.prog X.w) X.A (eval b X.env) (λu s₂=>wpAny (model X.prog X.w) X.A (compareOp op v u) (EP X pins σ Q) X.xe s₂) X.xe s₁) X.xe s
noncomputable def tB(t:TE):TT:=λσ H Q=>t σ H λx H1=>∃c,x=.bl c/\Q c H1
theorem qBs{op:CmpOp}{t:TE}(h:PC X op a b t)(h1:behindInMarks op b=false:=by first|exact nobehind _ (by decide) (by decide)|rfl):PE X (.Compare a [op] [b] pos) t:=λpins s σ H Q I hw=>wpAny_Compare1 (h pins s σ H Q I hw) h1
theorem pt_val{e:Expr}{t:TE}(h:PE X e t)(he:∀whole,isTrue e X.env whole=(do let v <- whole;standAt e.pos;holding [v] (truthy v)):=by intro _;rfl):PT X e (tB t):=by
 intro pins s σ H Q I hw;refine isTrue_plain (thn (h pins s σ H _ I hw) λv s1 ⟨x,H1,I1,r1,q1⟩=>?_) (he _);obtain⟨d,rfl,q⟩:=q1;cases r1;exact uV ⟨H1,I1,q⟩
variable{tA tB':TT}{ZE:List Expr}
noncomputable def tAnd(t u:TT):TT:=λσ H Q=>t σ H λc H1=>if c=true then u σ H1 Q else Q false H1
noncomputable def tOr(t u:TT):TT:=λσ H Q=>t σ H λc H1=>if c=true then Q true H1 else u σ H1 Q
noncomputable def qIc(t:TT):TT:=λσ H Q=>t σ H λc H1=>Q (!c) H1
theorem pw_and1(ha:PT X a tA):PW X (.BoolOp .And [a] pos) tA:=by
 intro wh pins s σ H Q I h;refine isTrue_and (thn (ha pins s σ H Q I h) λc s1 e=>?_);cases c with
 |true=>exact isTrue_and_nil e
 |false=>exact e
theorem pw_or1(ha:PT X a tA):PW X (.BoolOp .Or [a] pos) tA:=by
 intro wh pins s σ H Q I h;refine isTrue_or (thn (ha pins s σ H Q I h) λc s1 e=>?_);cases c with
 |false=>exact isTrue_or_nil e
 |true=>exact e
theorem pw_and(ha:PT X a tA)(hb:PW X (.BoolOp .And (b::ZE) pos) tB'):PW X (.BoolOp .And (a::b::ZE) pos) (tAnd tA tB'):=by
 intro wh pins s σ H Q I h;refine isTrue_and (thn (ha pins s σ H _ I h) λc s1 ⟨H1,I1,q1⟩=>?_);cases c with
 |true=>exact hb wh pins s1 σ H1 Q I1 q1
 |false=>exact⟨H1,I1,q1⟩
theorem pw_or(ha:PT X a tA)(hb:PW X (.BoolOp .Or (b::ZE) pos) tB'):PW X (.BoolOp .Or (a::b::ZE) pos) (tOr tA tB'):=by
 intro wh pins s σ H Q I h;refine isTrue_or (thn (ha pins s σ H _ I h) λc s1 ⟨H1,I1,q1⟩=>?_);cases c with
 |true=>exact⟨H1,I1,q1⟩
 |false=>exact hb wh pins s1 σ H1 Q I1 q1
theorem pt_not(ha:PT X a tA):PT X (.UnaryOp .Not a pos) (qIc tA):=by
 intro pins s σ H Q I h;exact isTrue_not (ha pins s σ H (λc H1=>Q (!c) H1) I h)
noncomputable def tAndV(ta tb:TE):TE:=λσ H Q=>ta σ H λx H1=>∃c,x=.bl c/\if c=true then tb σ H1 Q else Q (.bl false) H1
noncomputable def tOrV(ta tb:TE):TE:=λσ H Q=>ta σ H λx H1=>∃c,x=.bl c/\if c=true then Q (.bl true) H1 else tb σ H1 Q
noncomputable def qGZ(ta:TE):TE:=λσ H Q=>ta σ H λx H1=>∃c,x=.bl c/\Q (.bl (!c)) H1
theorem pe_one {op}{t:TE}(h:PE X a t):PE X (.BoolOp op [a] pos) t:=λpins s σ H Q I hw=>BoolOp_one (h pins s σ H Q I hw)
theorem pe_and(ha:PE X a ta)(hb:PE X (.BoolOp .And (b::ZE) pos) tb):PE X (.BoolOp .And (a::b::ZE) pos) (tAndV ta tb):=by
 intro pins s σ H Q I h;refine BoolOp_and (thn (ha pins s σ H _ I h) λv s1 ⟨x,H1,I1,r1,q1⟩=>?_);obtain⟨c,rfl,q1⟩:=q1;cases r1;refine uV ?_;cases c with
 |true=>exact hb pins s1 σ H1 Q I1 q1
 |false=>exact⟨.bl false,H1,I1,rfl,q1⟩
theorem pe_or(ha:PE X a ta)(hb:PE X (.BoolOp .Or (b::ZE) pos) tb):PE X (.BoolOp .Or (a::b::ZE) pos) (tOrV ta tb):=by
 intro pins s σ H Q I h;refine BoolOp_or (thn (ha pins s σ H _ I h) λv s1 ⟨x,H1,I1,r1,q1⟩=>?_);obtain⟨c,rfl,q1⟩:=q1;cases r1;refine uV ?_;cases c with
 |false=>exact hb pins s1 σ H1 Q I1 q1
 |true=>exact⟨.bl true,H1,I1,rfl,q1⟩
theorem pe_not(ha:PE X a ta):PE X (.UnaryOp .Not a pos) (qGZ ta):=by
 intro pins s σ H Q I h;refine UnaryOp_ (thn (ha pins s σ H _ I h) λv s1 ⟨x,H1,I1,r1,q1⟩=>?_);obtain⟨c,rfl,q1⟩:=q1;cases r1;exact not_of (uV ⟨.bl (!c),H1,I1,rfl,q1⟩)
noncomputable def tIf(t:TT)(ta tb:TE):TE:=λσ H Q=>t σ H λc H1=>if c=true then ta σ H1 Q else tb σ H1 Q
theorem pe_ifExp{c:Expr}(hc:PT X c tA)(ha:PE X a ta)(hb:PE X b tb):PE X (.IfExp c a b pos) (tIf tA ta tb):=by
 intro pins s σ H Q I h;refine wpAny_IfExp (thn (hc pins s σ H _ I h) λd s1 ⟨H1,I1,q1⟩=>?_);cases d with
 |true=>exact ha pins s1 σ H1 Q I1 q1
 |false=>exact hb pins s1 σ H1 Q I1 q1
end
def SqL(K:PySem.W.Frag)(H:Hp)(a:Addr)(xs:List V):Prop:=
 Rd H a (.lst xs)\/
  ∃(o:Obj) (its:Array Value) (n:Nat),K.lookup a=some o/\o.cls=.type "list"/\o.dict=none/\o.data=.seq its n/\its.size<=sizeLine/\Vals xs its.toList
def SqT(K:PySem.W.Frag)(H:Hp)(a:Addr)(xs:List V):Prop:=
 Rd H a (.tup xs)\/
  ∃(o:Obj) (its:Array Value) (n:Nat),K.lookup a=some o/\o.cls=.type "tuple"/\o.data=.seq its n/\its.size<=sizeLine/\Vals xs its.toList
noncomputable def qH3:Value->Option V
 | .none=>some .non
 | .bool b=>some (.bl b)
 | .int i _=>some (.int i)
 | .str x _=>some (.str x)
 | .bytes b _=>some (.byt b)
 | .float b _=>some (.flt b)
 | .ref a=>some (.ref a)
 | .type n=>some (.ty n)
 |_=>none
theorem RelV.abs{x:V}{u:Value}(r:RelV x u):qH3 u=some x:=by
 cases x with
 |non=>cases r;rfl
 |bl _=>cases r;rfl
 |int _=>obtain⟨t,rfl⟩:=r;rfl
 |str _=>obtain⟨t,rfl⟩:=r;rfl
 |byt _=>obtain⟨t,rfl⟩:=r;rfl
 |flt _=>obtain⟨t,rfl⟩:=r;rfl
 |ref _=>cases r;rfl
 |ty _=>cases r;rfl
theorem RelV.inj{x y:V}{u:Value}(r:RelV x u)(q:RelV y u):x=y:=Option.some.inj (r.abs.symm.trans q.abs)
theorem Vals.inj:∀{xs ys:List V}{us:List Value},Vals xs us->Vals ys us->xs=ys
 |_,_,_,.nil,.nil=>rfl
 |_,_,_,.cons r t,.cons r' t'=>by rw[r.inj r',Vals.inj t t']
section
variable{X:Cx}{pins:List (Addr×Obj)}{σ:St}{H:Hp}{s:Shared}{a:Addr}{xs ys:List V}
theorem Inv.list(I:Inv X pins σ H s)(h:SqL X.K H a xs):∃its:List Value,Vals xs its/\PlainL s.heap a its.toArray/\xs.length<=sizeLine:=by
 rcases h with h|⟨o,its,n,hk,hc,hd,hs,hz,r⟩
 ·obtain⟨z,its,n,r,e⟩:=h.ok I.hok;exact⟨its,r,⟨_,n,e,rfl,rfl,rfl⟩,z⟩
 ·refine⟨its.toList,r,⟨o,n,I.kIn a o hk,hc,hd,by simpa using hs⟩,?_⟩;have e:=r.length;simp only[we]at e;omega
theorem Inv.tuple(I:Inv X pins σ H s)(h:SqT X.K H a xs):∃its:List Value,Vals xs its/\IsTup s.heap a its.toArray/\xs.length<=sizeLine:=by
 rcases h with h|⟨o,its,n,hk,hc,hs,hz,r⟩
 ·obtain⟨z,its,r,p⟩:=h.ok I.hok;exact⟨its,r,p,z⟩
 ·refine⟨its.toList,r,⟨o,I.kIn a o hk,hc,n,by simpa using hs⟩,?_⟩;have e:=r.length;simp only[we]at e;omega
theorem Inv.list_inj(I:Inv X pins σ H s)(h:SqL X.K H a xs)(h':SqL X.K H a ys):xs=ys:=by
 obtain⟨its,r,⟨o,n,e,_,_,d⟩,_⟩:=I.list h;obtain⟨its',r',⟨o',n',e',_,_,d'⟩,_⟩:=I.list h';rw[e]at e';cases e';rw[d]at d';injection d' with d1 _;have:its=its':=by simpa using congrArg Array.toList d1
 subst this;exact r.inj r'
theorem Inv.tuple_inj(I:Inv X pins σ H s)(h:SqT X.K H a xs)(h':SqT X.K H a ys):xs=ys:=by
 obtain⟨its,r,⟨o,e,_,n,d⟩,_⟩:=I.tuple h;obtain⟨its',r',⟨o',e',_,n',d'⟩,_⟩:=I.tuple h';rw[e]at e';cases e';rw[d]at d';injection d' with d1 _;have:its=its':=by simpa using congrArg Array.toList d1
 subst this;exact r.inj r'
end
noncomputable abbrev Cx.wish(X:Cx)(E:Value->Shared->Prop):Cx:={ X with xe:=E }
noncomputable abbrev Cx.nox(X:Cx):Cx:=X.wish λ_ _=>False
theorem Cx.Ok.wish{X:Cx}(ok:X.Ok)(E:Value->Shared->Prop):(X.wish E).Ok:=
 ⟨ok.mod,ok.kind,ok.glob,ok.blt,ok.above,ok.inj,ok.has,ok.cab,ok.hd,ok.frames,ok.stk,ok.exf,ok.bs,ok.bsz,ok.noex,ok.exfs,ok.funs,ok.frf⟩
theorem Cx.Ok.unwish{X:Cx}{E:Value->Shared->Prop}(ok:(X.wish E).Ok):X.Ok:=
 ⟨ok.mod,ok.kind,ok.glob,ok.blt,ok.above,ok.inj,ok.has,ok.cab,ok.hd,ok.frames,ok.stk,ok.exf,ok.bs,ok.bsz,ok.noex,ok.exfs,ok.funs,ok.frf⟩
section
variable{X:Cx}{pins:List (Addr×Obj)}{σ:St}{H:Hp}{s:Shared}{E:Value->Shared->Prop}
theorem Inv.wish(I:Inv X pins σ H s)(E:Value->Shared->Prop):Inv (X.wish E) pins σ H s:=⟨I.ok.wish E,I.os,I.bare,I.base,I.loc,I.cell,I.free,I.freeC,I.pin,I.hok,I.len⟩
theorem Inv.unwish(I:Inv (X.wish E) pins σ H s):Inv X pins σ H s:=⟨I.ok.unwish,I.os,I.bare,I.base,I.loc,I.cell,I.free,I.freeC,I.pin,I.hok,I.len⟩
theorem SP.unwish{D:Y8}{f:Flow}{s':Shared}(h:SP (X.wish E) pins D f s'):SP X pins D f s':=by
 cases f with
 |next=>obtain⟨σ',H',I,q⟩:=h;exact⟨σ',H',I.unwish,q⟩
 |brk=>obtain⟨σ',H',I,q⟩:=h;exact⟨σ',H',I.unwish,q⟩
 |cont=>obtain⟨σ',H',I,q⟩:=h;exact⟨σ',H',I.unwish,q⟩
 |ret u=>obtain⟨v,σ',H',I,r,q⟩:=h;exact⟨v,σ',H',I.unwish,r,q⟩
theorem PSs.nox{st:List Stmt}{t:TS}(h:PSs X.nox st t):PSs X st t:=λpins s σ H D I hw=>
 wpAny_mono (h pins s σ H D (I.wish _) hw) (λ_ _ q=>q.unwish) λ_ _ z=>False.elim z
end
section
variable{X:Cx}{st:Stmt}{ZE:List Stmt}{t u:TS}{e:Expr}{te:TE}{pos:Pos}
noncomputable def qGJ:TS:=λD σ H=>D.nx σ H
noncomputable def qIH(t u:TS):TS:=λD σ H=>t { D with nx:=u D } σ H
theorem pss_nil:PSs X [] qGJ:=λ_ _ σ H _ I h=>wpAny_execs_nil ⟨σ,H,I,h⟩
theorem pss_cons(h1:PS X st t)(h2:PSs X ZE u):PSs X (st::ZE) (qIH t u):=by
 intro pins s σ H D I h;refine wpAny_execs_cons (thn (h1 pins s σ H { D with nx:=u D } I h) λf s1 q=>?_);cases f with
 |next=>
  obtain⟨σ',H',I',q⟩:=q;exact h2 pins s1 σ' H' D I' q
 |ret v=>exact q
 |brk=>exact q
 |cont=>exact q
theorem Inv.quiet{pins:List (Addr×Obj)}{σ:St}{H:Hp}{s:Shared}(I:Inv X pins σ H s):interactive X.env=false:=by simp[interactive,I.ok.kind]
noncomputable def qG6(te:TE):TS:=λD σ H=>te σ H λ_ H1=>D.nx σ H1
theorem ps_expr(he:PE X e te)(hs:swapsWith e none pos.line X.env=pure false:=by rfl):PS X (.Expr e pos) (qG6 te):=by
 intro pins s σ H D I h;exact wpAny_Expr_any (thn (he pins s σ H _ I h) λv s1 ⟨x,H1,I1,r1,q1⟩=>⟨σ,H1,I1,q1⟩) I.quiet hs
noncomputable def qIa(te:TE):TS:=λD σ H=>te σ H D.rt
theorem ps_ret(he:PE X e te):PS X (.Return (some e) pos) (qIa te):=by
 intro pins s σ H D I h;exact wpAny_Return_some (thn (he pins s σ H _ I h) λv s1 ⟨x,H1,I1,r1,q1⟩=>⟨x,σ,H1,I1,r1,q1⟩)
noncomputable def qIs(c:TT)(t u:TS):TS:=λD σ H=>c σ H λb H1=>if b=true then t D σ H1 else u D σ H1
theorem ps_if{c:Expr}{a b:List Stmt}{tc:TT}(hc:PT X c tc)(ha:PSs X a t)(hb:PSs X b u):PS X (.If c a b pos) (qIs tc t u):=by
 intro pins s σ H D I h;refine wpAny_If (thn (hc pins s σ H _ I h) λd s1 ⟨H1,I1,q1⟩=>?_);cases d with
 |true=>exact ha pins s1 σ H1 D I1 q1
 |false=>exact hb pins s1 σ H1 D I1 q1
end
noncomputable abbrev TG:=V->St->Hp->(St->Hp->Prop)->Prop
noncomputable abbrev TGs:=List V->St->Hp->(St->Hp->Prop)->Prop
def PG(X:Cx)(target:Expr)(t:TG):Prop:=
 ∀(pins:List (Addr×Obj)) (s:Shared) (σ:St) (H:Hp) (v:V) (u:Value) (Q:St->Hp->Prop),Inv X pins σ H s->RelV v u->t v σ H Q ->
  wpAny (model X.prog X.w) X.A (assign target X.env u) (λ_ s'=>∃σ' H',Inv X pins σ' H' s'/\Q σ' H') X.xe s
def PGs(X:Cx)(ts:List Expr)(t:TGs):Prop:=
 ∀(pins:List (Addr×Obj)) (s:Shared) (σ:St) (H:Hp) (vs:List V) (us:List Value) (Q:St->Hp->Prop),Inv X pins σ H s->Vals vs us->t vs σ H Q ->
  wpAny (model X.prog X.w) X.A (assignInOrder ((assignEach ts X.env).map (·.2)) us) (λ_ s'=>∃σ' H',Inv X pins σ' H' s'/\Q σ' H') X.xe s
noncomputable abbrev TSet:=V->V->V->Hp->(Hp->Prop)->Prop
def PSet(X:Cx)(t:TSet):Prop:=
 ∀(pins:List (Addr×Obj)) (s:Shared) (σ:St) (H:Hp) (o i v:V) (ov iv u:Value) (Q:Hp->Prop),Inv X pins σ H s->RelV o ov->RelV i iv->RelV v u->t o i v H Q ->
  wpAny (model X.prog X.w) X.A (setItem ov iv u) (λ_ s'=>∃H',Inv X pins σ H' s'/\Q H') X.xe s
section
variable{X:Cx}{pos:Pos}
noncomputable def qD9(i:Nat):TG:=λv σ H Q=>Q (σ.set i (some v)) H
theorem pg_name{i:Nat}{x:Str}(hN:X.N.Nodup)(hi:X.N[i]?=some x)(hx:Loc X.env.scope x)(hf:X.fn x=true\/X.env.scope.names.lookup x=some .local:=by first|exact .inl rfl|exact .inr rfl|assumption):PG X (.Name x pos) (qD9 i):=by
 intro pins s σ H v u Q I r h;exact wpAny_assign_Name (Qg I hN hi hx r (λs' I'=>⟨_,H,I',h⟩) hf)
noncomputable def qIm:TGs:=λvs σ H Q=>vs=[]/\Q σ H
noncomputable def qG1(t:TG)(u:TGs):TGs:=λvs σ H Q=>∃v r,vs=v::r/\t v σ H λσ' H'=>u r σ' H' Q
theorem pgs_nil:PGs X [] qIm:=by
 intro pins s σ H vs us Q I r h;obtain⟨e,h⟩:=h;subst e;cases r;exact assignInOrder_nil ⟨σ,H,I,h⟩
theorem pgs_cons{e:Expr}{es:List Expr}{t:TG}{u:TGs}(h1:PG X e t)(h2:PGs X es u)
  (hs:(assignEach (e::es) X.env).map (·.2)=assign e X.env::(assignEach es X.env).map (·.2):=by rfl):PGs X (e::es) (qG1 t u):=by
 intro pins s σ H vs us Q I r h;obtain⟨v,vr,e1,h⟩:=h;subst e1;cases r with
 |cons r rr=>
  rw[hs];refine assignInOrder_cons (thn (h1 pins s σ H _ _ _ I r h) λ_ s1 ⟨σ1,H1,I1,q1⟩=>?_);exact h2 pins s1 σ1 H1 _ _ Q I1 rr q1
noncomputable def qIW(K:PySem.W.Frag)(n:Nat)(t:TGs):TG:=λv σ H Q=>∃a xs,v=.ref a/\SqT K H a xs/\xs.length=n/\t xs σ H Q
theorem pg_tup{es:List Expr}{k:Nat}{t:TGs}{n:Nat}(hc:X.calm=true)(h:PGs X es t)
  (hn:(assignEach es X.env).length=n:=by rfl) (hst:(assignEach es X.env).findIdx? (·.1)=none:=by rfl):PG X (.Tuple es k pos) (qIW X.K n t):=by
 intro pins s σ H v u Q I r hw;obtain⟨a,xs,e1,hq,hl,hw⟩:=hw;subst e1;cases r;obtain⟨its,rv,ht,hz⟩:=I.tuple hq;refine assign_Tuple_tuple (I.ok.hd hc) ht (by simp[hn,<-hl,rv.length]) hst λh' hx=>?_;have I1:Inv X pins σ H { s with heap:=h' }:=I.kept (t':=s.toks) λb o e=>hx b o (wW (Heap.lt_size e)) e;exact h pins _ σ H xs _ Q I1 (by simpa using rv) hw
noncomputable def qIR(to ti:TE)(t:TSet):TG:=λv σ H Q=>to σ H λo H1=>ti σ H1 λi H2=>t o i v H2 λH3=>Q σ H3
theorem pg_sub{o i:Expr}{to ti:TE}{t:TSet}(ho:PE X o to)(hi:PE X i ti)(hs:PSet X t)
  (ha:∀v,assign (.Subscript o i pos) X.env v=(do
   let ov <- holding [v] (eval o X.env)
   let iv <- holding [v,ov] (eval i X.env)
   standAt pos
   holding [v,ov,iv] (setItem ov iv v)
   release [v,ov,iv] []):=by intro _;rfl):PG X (.Subscript o i pos) (qIR to ti t):=by
 intro pins s σ H v u Q I r h;rw[ha];refine uP (wpAny_holding (thn (ho pins s σ H _ I h) λov s1 ⟨x,H1,I1,r1,q1⟩=>?_));refine uP (wpAny_holding (thn (hi pins s1 σ H1 _ I1 q1) λiv s2 ⟨y,H2,I2,r2,q2⟩=>?_));refine uP (wpAny_standAt (uP (wpAny_holding (thn (hs pins s2 σ H2 x y v ov iv u _ I2 r1 r2 r q2) λ_ s3 ⟨H3,I3,q3⟩=>?_))));exact wpAny_release ⟨σ,H3,I3,q3⟩
noncomputable def tAsg(te:TE)(g:TG):TS:=λD σ H=>te σ H λx H1=>g x σ H1 D.nx
theorem ps_asg{tg e:Expr}{te:TE}{g:TG}(he:PE X e te)(hg:PG X tg g)(hs:swapsWithSole [tg] e pos.line X.env=pure false:=by rfl)(hw:swappedStores [tg] e X.env=pure none:=by rfl)
  (h1:(assignEach [tg] X.env).map (·.2)=[assign tg X.env]:=by rfl):PS X (.Assign [tg] e pos) (tAsg te g):=by
 intro pins s σ H D I h;refine wpAny_Assign_stores (thn (he pins s σ H _ I h) λv s1 ⟨x,H1,I1,r1,q1⟩=>?_) hs hw;rw[h1];exact thn (hg pins s1 σ H1 x v _ I1 r1 q1) λ_ s2 q=>q
end
set_option genInjectivity false in structure It where
 go:Nat->Hp->Prop
 yld:Nat->Hp->V->Hp->Prop
 stop:Nat->Hp->Prop
def JB(X:Cx)(pins:List (Addr×Obj))(H:Hp)(b:Addr):Prop:=
 H b=none/\b≠X.env.locals/\b∉X.fs/\(b∈X.ex\/X.s₀.heap.objs.size<=b)/\(∀x c,X.env.cells.lookup x=some c->c≠b)/\∀p∈X.pn++pins,p.1≠b
theorem Inv.fpOk{X:Cx}{pins:List (Addr×Obj)}{σ:St}{H H':Hp}{s:Shared}{b:Addr}(I:Inv X pins σ H s)(hb:s.heap.objs.size<=b)(hn:H' b=none):JB X pins H' b:=by
 refine⟨hn,vy (wK I.lt hb),I.nofs hb,.inr (wN I.sz hb),λx c e z=>?_,λp hp z=>?_⟩
 ·obtain⟨v,q⟩:=I.cell x c e;exact absurd (wK q.lt (by rw[z];exact hb)) (wn _)
 ·exact absurd (wK (Heap.lt_size (I.pin p hp).1) (by rw[z];exact hb)) (wn _)
structure E5(P:Program)(w:World)(K:PySem.W.Frag)(tg:Expr)(J:It)(fp:List Addr)(it:Addr)(tn:Nat->Heap->Prop):Prop where
 mem:it∈fp
 obj:∀i h,tn i h->∀b∈fp,∃o,h.get? b=some o/\∀v,o.data≠.cell v
 keep:∀i h h',tn i h->(∀b∈fp,∀o,h.get? b=some o->h'.get? b=some o)->tn i h'
 item:∀(X:Cx),X.prog=P->X.w=w->X.K=K->X.calm=true->∀(i:Nat) (pins:List (Addr×Obj)) (s:Shared) (σ:St) (H:Hp) (E:Value->Shared->Prop),Inv X pins σ H s->(∀b∈fp,JB X pins H b)->tn i s.heap->J.go i H ->
  wpAny (model P w) X.A (pyNext (.ref it)) (λr s1=>∃u,r=some u/\
   wpAny (model P w) X.A (letOwnedTupleGo tg (.ref it) u) (λ_ s2=>∃x H',Inv X pins σ H' s2/\RelV x u/\J.yld i H x H'/\tn (i+1) s2.heap/\∀b∈fp,H' b=none) E s1) E s
 done:∀(X:Cx),X.prog=P->X.w=w->X.K=K->X.calm=true->∀(i:Nat) (pins:List (Addr×Obj)) (s:Shared) (σ:St) (H:Hp) (E:Value->Shared->Prop),Inv X pins σ H s->(∀b∈fp,JB X pins H b)->tn i s.heap->J.stop i H ->
  wpAny (model P w) X.A (pyNext (.ref it)) (λr s1=>r=none/\Inv X pins σ H s1) E s
 self:∀(A:Around) (i:Nat) (s:Shared) (Q:Value->Shared->Prop) (E:Value->Shared->Prop),tn i s.heap->Q (.ref it) s->wpAny (model P w) A (pyIter (.ref it)) Q E s
noncomputable abbrev TI:=St->Hp->(It->Hp->Prop)->Prop
def PIE(X:Cx)(pins:List (Addr×Obj))(σ:St)(tg:Expr)(R:It->Hp->Prop)(itv:Value)(s2:Shared):Prop:=
 ∃(it:Addr) (fp:List Addr) (tn:Nat->Heap->Prop) (J:It) (H':Hp),itv=.ref it/\Inv X pins σ H' s2/\E5 X.prog X.w X.K tg J fp it tn/\tn 0 s2.heap/\(∀b∈fp,JB X pins H' b)/\R J H'
def _P(X:Cx)(tg iter:Expr)(wi:TI):Prop:=
 ∀(pins:List (Addr×Obj)) (s:Shared) (σ:St) (H:Hp) (R:It->Hp->Prop),Inv X pins σ H s->wi σ H R ->
  wpAny (model X.prog X.w) X.A (eval iter X.env) (λv s1=>wpAny (model X.prog X.w) X.A (pyIter v) (PIE X pins σ tg R) X.xe s1) X.xe s
theorem qCY{M:Model}{A:Around}{E:Value->Shared->Prop}{s:Shared}{tg:Expr}{it:Addr}{u:Value}{o:Obj}{n:String}{vs:Array Value}{Q:Unit->Shared->Prop}(ho:s.heap.get? it=some o)(hc:o.cls=.type n)(hd:o.data=.fields vs)
  (hn:["enumerate","zip","dict_itemiterator","dict_reverseitemiterator","odict_iterator","itertools.zip_longest","itertools.pairwise"].contains n=false) (hQ:Q () s):wpAny M A (letOwnedTupleGo tg (.ref it) u) Q E s:=by
 unfold letOwnedTupleGo;cases tg<;>first
  |exact uQ hQ
  | (cases u<;>first
    |exact uQ hQ
    | (refine uP (wpAny_load ho ?_)
       rw[hc,hd];show wpAny M A (if (["enumerate","zip","dict_itemiterator","dict_reverseitemiterator","odict_iterator","itertools.zip_longest","itertools.pairwise"].contains n&&vs[0]?==some (rawInt _))=true then _ else _) Q E s;rw[if_neg (by intro h;rw[hn,vh]at h;cases h)];exact uQ hQ))
noncomputable def Itl(K:PySem.W.Frag)(a:Addr):It:=
 ⟨λi H=>∃xs x,SqL K H a xs/\xs[i]?=some x,λi H x H'=>H'=H/\∀xs,SqL K H a xs->xs[i]?=some x,λi H=>∃xs,SqL K H a xs/\xs.length<=i⟩
noncomputable def Itt(K:PySem.W.Frag)(a:Addr):It:=
 ⟨λi H=>∃xs x,SqT K H a xs/\xs[i]?=some x,λi H x H'=>H'=H/\∀xs,SqT K H a xs->xs[i]?=some x,λi H=>∃xs,SqT K H a xs/\xs.length<=i⟩
noncomputable def Itr(lo:Int)(n:Nat):It:=⟨λi _=>i<n,λi H x H'=>H'=H/\x=.int (lo+i),λi _=>n<=i⟩
theorem turn_list{P:Program}{w:World}{K:PySem.W.Frag}{tg:Expr}(a it:Addr):E5 P w K tg (Itl K a) [it] it (λi h=>h.IsListIter it a i) where
 mem:=by simp
 obj:=λi h st b hb=>by
  have e:b=it:=by simpa using hb
  subst e;obtain⟨o,e,c,d⟩:=st;exact⟨o,e,λv z=>by rw[d]at z;cases z⟩
 keep:=λi h h' st k=>st.at λo e=>k it (by simp) o e
 item:=by
  intro X hP hw hK hc i pins s σ H E I hf st hg;subst hP hw hK;obtain⟨xs,x,hq,hx⟩:=hg;obtain⟨its,rv,p,hz⟩:=I.list hq;obtain⟨u,hu,ru⟩:=rv.get hx;obtain⟨f0,f1,f2,f3,f4,f5⟩:=hf it (by simp);refine wpAny_pyNext_list_item st p.isList (x:=u) (by simpa using hu) λh' st' sb=>?_;have I1:Inv X pins σ H { s with heap:=h' }:=I.turned (t':=s.toks) (λb o hb e=>(sb.2 b hb).trans e) f0 f1 f3 f4 f5;obtain⟨o,e,c,d⟩:=id st';exact⟨u,rfl,qCY (s:={ s with heap:=h' }) e c d (by decide) ⟨x,H,I1,ru,⟨rfl,λys hy=>by rw[I.list_inj hy hq];exact hx⟩,st',λb hb=>(hf b hb).1⟩⟩
 done:=by
  intro X hP hw hK hc i pins s σ H E I hf st hg;subst hP hw hK;obtain⟨xs,hq,hx⟩:=hg;obtain⟨its,rv,p,hz⟩:=I.list hq;obtain⟨f0,f1,f2,f3,f4,f5⟩:=hf it (by simp);have hl:=rv.length;exact wpAny_pyNext_list_end (I.ok.hd hc) st p.isList (by simp;omega) λh' eb=>⟨rfl,I.turned (t':=s.toks) (λb o hb e=>eb b o hb e) f0 f1 f3 f4 f5⟩
 self:=λ_ _ _ _ _ st h=>wpAny_pyIter_listiter st h
theorem turn_tuple{P:Program}{w:World}{K:PySem.W.Frag}{tg:Expr}(a it:Addr):E5 P w K tg (Itt K a) [it] it (λi h=>h.IsTupleIter it a i) where
 mem:=by simp
 obj:=λi h st b hb=>by
  have e:b=it:=by simpa using hb
  subst e;obtain⟨o,e,c,d⟩:=st;exact⟨o,e,λv z=>by rw[d]at z;cases z⟩
 keep:=λi h h' st k=>st.at λo e=>k it (by simp) o e
 item:=by
  intro X hP hw hK hc i pins s σ H E I hf st hg;subst hP hw hK;obtain⟨xs,x,hq,hx⟩:=hg;obtain⟨its,rv,p,hz⟩:=I.tuple hq;obtain⟨u,hu,ru⟩:=rv.get hx;obtain⟨f0,f1,f2,f3,f4,f5⟩:=hf it (by simp);refine wpAny_pyNext_tuple_item st (show s.heap.IsTuple a its.toArray from p) (x:=u) (by simpa using hu) λh' st' sb=>?_;have I1:Inv X pins σ H { s with heap:=h' }:=I.turned (t':=s.toks) (λb o hb e=>(sb.2 b hb).trans e) f0 f1 f3 f4 f5;obtain⟨o,e,c,d⟩:=id st';exact⟨u,rfl,qCY (s:={ s with heap:=h' }) e c d (by decide) ⟨x,H,I1,ru,⟨rfl,λys hy=>by rw[I.tuple_inj hy hq];exact hx⟩,st',λb hb=>(hf b hb).1⟩⟩
 done:=by
  intro X hP hw hK hc i pins s σ H E I hf st hg;subst hP hw hK;obtain⟨xs,hq,hx⟩:=hg;obtain⟨its,rv,p,hz⟩:=I.tuple hq;obtain⟨f0,f1,f2,f3,f4,f5⟩:=hf it (by simp);have hl:=rv.length;exact wpAny_pyNext_tuple_end (I.ok.hd hc) st (show s.heap.IsTuple a its.toArray from p) (by simp;omega) λh' eb=>⟨rfl,I.turned (t':=s.toks) (λb o hb e=>eb b o hb e) f0 f1 f3 f4 f5⟩
 self:=λ_ _ _ _ _ st h=>wpAny_pyIter_tupleiter st h
theorem X2{P:Program}{w:World}{K:PySem.W.Frag}{tg:Expr}(it:Addr)(lo:Int)(n:Nat):E5 P w K tg (Itr lo n) [it] it (λi h=>IsRangeIter h it (lo+(i:Nat)*1) ((n:Int)-(i:Nat)) 1) where
 mem:=by simp
 obj:=λi h st b hb=>by
  have e:b=it:=by simpa using hb
  subst e;exact⟨_,st,λv z=>by
   have z':Data.fields _=Data.cell v:=z;cases z'⟩
 keep:=λi h h' st k=>k it (by simp) _ st
 item:=by
  intro X hP hw hK hc i pins s σ H E I hf st hg;subst hP hw hK;obtain⟨f0,f1,f2,f3,f4,f5⟩:=hf it (by simp);have W:=Walks.range (prog:=X.prog) (w:=X.w) (I.ok.hd hc) it lo 1 n;refine W.item i s _ _ hg st λv h' tk hv st' kk=>?_;obtain⟨t,rfl⟩:=hv;have I1:Inv X pins σ H { s with heap:=h',toks:=tk }:=I.turned (λb o hb e=>kk b o (by simpa using hb) e) f0 f1 f3 f4 f5;refine⟨_,rfl,qCY (s:={ s with heap:=h',toks:=tk }) (n:="range_iterator") st' rfl rfl (by decide) ⟨.int (lo+i),H,I1,⟨t,?_⟩,⟨rfl,rfl⟩,st',λb hb=>(hf b hb).1⟩⟩;rw[Int.mul_one]
 done:=by
  intro X hP hw hK hc i pins s σ H E I hf st hg;subst hP hw hK;obtain⟨f0,f1,f2,f3,f4,f5⟩:=hf it (by simp);exact wpAny_pyNext_range_end (I.ok.hd hc) st (by have:n<=i:=hg;omega) λh' eb=>⟨rfl,I.turned (t':=s.toks) (λb o hb e=>eb b o hb e) f0 f1 f3 f4 f5⟩
 self:=λ_ _ _ _ _ st h=>wpAny_pyIter_rangeiter st h
section
variable{X:Cx}{tg:Expr}
theorem T0{pins:List (Addr×Obj)}{σ:St}{H:Hp}{s:Shared}{R:It->Hp->Prop}{E:Value->Shared->Prop}{lo hi:Int}{t u v:Tok}{tk:Nat}(I:Inv X pins σ H s)(h1:-(2 ^ 62)<=lo)(h2:lo<2 ^ 62)(h3:-(2 ^ 62)<=hi)(h4:hi<2 ^ 62)
  (q:R (Itr lo (hi-lo).toNat) H):wpAny (model X.prog X.w) X.A (pyIter (.ref s.heap.objs.size)) (PIE X pins σ tg R) E { s with heap:=s.heap.push { cls:=.type "range",data:=.fields #[.int lo t,.int hi u,.int 1 v] },toks:=tk }:=by
 refine wpAny_pyIter_range (IsRange.new ..) (small_one h1 h2 h3 h4) ?_;have I1:Inv X pins σ H { s with heap:=s.heap.push { cls:=.type "range",data:=.fields #[.int lo t,.int hi u,.int 1 v] },toks:=tk }:=I.kept λb o e=>Heap.get?_push_of_some _ e;refine⟨(s.heap.push { cls:=.type "range",data:=.fields #[.int lo t,.int hi u,.int 1 v] }).objs.size,[(s.heap.push { cls:=.type "range",data:=.fields #[.int lo t,.int hi u,.int 1 v] }).objs.size],_,_,H,rfl,
  I1.kept (t':=tk) λb o e=>Heap.get?_push_of_some _ e,X2 _ lo (hi-lo).toNat,?_,λb hb=>?_,q⟩
 ·have e1:lo+((0:Nat):Int)*1=lo:=by simp
  have e2:(((hi-lo).toNat:Nat):Int)-((0:Nat):Int)=Builtin.Range.rangeSize lo hi 1:=by rw[rangeSize_one];split<;>omega
  show IsRangeIter _ _ (lo+((0:Nat):Int)*1) ((((hi-lo).toNat:Nat):Int)-((0:Nat):Int)) 1;rw[e1,e2];exact Heap.get?_push_size _ rfl
 ·have e:b=(s.heap.push { cls:=.type "range",data:=.fields #[.int lo t,.int hi u,.int 1 v] }).objs.size:=by simpa using hb
  subst e;exact I1.fpOk (wG _) (I1.hok.fresh (wG _))
noncomputable def qF3(ta:TA):TI:=λσ H R=>ta σ H λvs H1=>∃j:Int,vs=[.int j]/\-(2 ^ 62)<=j/\j<2 ^ 62/\R (Itr 0 j.toNat) H1
noncomputable def qGn(ta:TA):TI:=λσ H R=>ta σ H λvs H1=>∃i j:Int,vs=[.int i,.int j]/\(-(2 ^ 62)<=i/\i<2 ^ 62/\-(2 ^ 62)<=j/\j<2 ^ 62)/\R (Itr i (j-i).toNat) H1
theorem pi_range1{a:Expr}{ta:TA}{p pos:Pos}(hg:Gl X "range")(hm:X.mg "range"=none)(ha:PA X [a] ta)(hs:starEach [a] X.env=[(false,eval a X.env)]:=by rfl):_P X tg (.Call (.Name "range" p) [a] [] pos) (qF3 ta):=by
 intro pins s σ H R I h;refine Call_ (ld_blt I hg hm boot_range (PyProof.Rows.callWith_type1 (thn (ha pos pins s σ H _ I h) λus s1 ⟨vs,H1,I1,r1,q1⟩=>?_) hs rfl));obtain⟨j,e,q1,q2,q⟩:=q1;subst e;cases r1 with
 |cons r rr=>
  cases rr;obtain⟨t,rfl⟩:=r;exact call_range_1 (T0 I1 (by omega) (by omega) q1 q2 (by simpa using q))
theorem pi_range2{a b:Expr}{ta:TA}{p pos:Pos}(hg:Gl X "range")(hm:X.mg "range"=none)(ha:PA X [a,b] ta)(hs:starEach [a,b] X.env=[(false,eval a X.env),(false,eval b X.env)]:=by rfl)(hs2:starEach [b] X.env=[(false,eval b X.env)]:=by rfl):
  _P X tg (.Call (.Name "range" p) [a,b] [] pos) (qGn ta):=by
 intro pins s σ H R I h;refine Call_ (ld_blt I hg hm boot_range (PyProof.Rows.callWith_type1 (thn (ha pos pins s σ H _ I h) λus s1 ⟨vs,H1,I1,r1,q1⟩=>?_) (by rw[hs,hs2]) (by rw[hs2];rfl)));obtain⟨i,j,e,⟨q1,q2,q3,q4⟩,q⟩:=q1;subst e;cases r1 with
 |cons r rr=>
  cases rr with
  |cons r' rr=>
   cases rr;obtain⟨t,rfl⟩:=r;obtain⟨t',rfl⟩:=r';exact call_range_2 (T0 I1 q1 q2 q3 q4 q)
noncomputable def qIC(wi:TI)(g:TG)(tb:TS):TS:=λD σ H=>wi σ H λJ H1=>∃W:Nat->Nat->St->Hp->Prop,(∃m,W 0 m σ H1)/\∀i m σ H,W i m σ H ->
 (J.stop i H/\D.nx σ H)\/(J.go i H/\∃N:St->Hp->Prop,(∀σ' H',N σ' H'->∃m',m'<m/\W (i+1) m' σ' H')/\∀x H',J.yld i H x H'->g x σ H' λσ2 H2=>tb { D with nx:=N,ct:=N,bk:=D.nx } σ2 H2)
noncomputable def B3(fp:List Addr)(h:Heap):List (Addr×Obj):=fp.filterMap λb=>(h.get? b).map λo=>(b,o)
theorem jq{fp:List Addr}{h:Heap}{b:Addr}{o:Obj}(hb:b∈fp)(e:h.get? b=some o):(b,o)∈B3 fp h:=List.mem_filterMap.mpr ⟨b,hb,by rw[e];rfl⟩
theorem j7{fp:List Addr}{h:Heap}{p:Addr×Obj}(hp:p∈B3 fp h):p.1∈fp/\h.get? p.1=some p.2:=by
 obtain⟨b,hb,e⟩:=List.mem_filterMap.mp hp;cases q:h.get? b with
 |none=>rw[q]at e;cases e
 |some o=>
  rw[q]at e;have e':(b,o)=p:=Option.some.inj e;subst e';exact⟨hb,q⟩
theorem Inv.pinned{pins:List (Addr×Obj)}{σ:St}{H:Hp}{s:Shared}{fp:List Addr}(I:Inv X pins σ H s)(hf:∀b∈fp,JB X pins H b)(ho:∀b∈fp,∃o,s.heap.get? b=some o/\∀v,o.data≠.cell v):Inv X (pins++B3 fp s.heap) σ H s:=
 I.pins_of λp hp=>(wJ.mp hp).elim (λz=>I.pin p (wV _ z)) λz=>by
  obtain⟨hb,e⟩:=j7 z;obtain⟨f0,f1,f2,_⟩:=hf p.1 hb;obtain⟨o,e',d⟩:=ho p.1 hb;rw[e]at e';cases e';exact⟨e,f0,f1,f2,d⟩
theorem Inv.unpinned{pins pl:List (Addr×Obj)}{σ:St}{H:Hp}{s:Shared}(I:Inv X (pins++pl) σ H s):Inv X pins σ H s:=I.pins_of λp hp=>I.pin p (wV _ (wR _ hp))
theorem ps_for{iter:Expr}{body:List Stmt}{wi:TI}{g:TG}{tb:TS}{pos:Pos}(hp:PassesOwn (model X.prog X.w) X.A X.env X.xe)(hc:X.calm=true)(hi:_P X tg iter wi)(hg:PG X tg g)(hb:PSs X body tb)
  (hs:∀x,foldedSetIterable iter X.env x=pure x:=by intro _;rfl):PS X (.For tg iter body [] pos) (qIC wi g tb):=by
 intro pins s σ H D I h;refine wpAny_For (thn (hi pins s σ H _ I h) λv s1 h1=>thn h1 λitv s2 h2=>?_) hs;obtain⟨it,fp,tn,J,H2,e,I2,T,st2,f2,W,⟨m0,w0⟩,qFa⟩:=h2;subst e;have stat:∀{H':Hp},(∀b∈fp,H' b=none)->∀b∈fp,JB X pins H' b:=λhn b hb=>⟨hn b hb,(f2 b hb).2⟩
 refine codeAny_forLoop_any (λn s'=>∃i σ' H',Inv X pins σ' H' s'/\tn i s'.heap/\(∀b∈fp,H' b=none)/\W i n σ' H') ?_ m0 ⟨0,σ,H2,I2,st2,λb hb=>(f2 b hb).1,w0⟩;rintro n s3 ⟨i,σ3,H3,I3,st3,fr3,w3⟩;rcases qFa i n σ3 H3 w3 with⟨stop,qn⟩|⟨go,N,hN,step⟩
 ·refine wpAny_passesOwn hp (thn (T.done X rfl rfl rfl hc i pins s3 σ3 H3 X.xe I3 (stat fr3) st3 stop) λr s4 ⟨hr,I4⟩=>?_);subst hr;exact wpAny_execs_nil ⟨σ3,H3,I4,qn⟩
 ·refine wpAny_passesOwn hp (thn (T.item X rfl rfl rfl hc i pins s3 σ3 H3 X.xe I3 (stat fr3) st3 go) λr s4 ⟨u,hr,h4⟩=>?_);subst hr;refine wpAny_passesOwn hp (thn h4 λ_ s5 ⟨x,H5,I5,r5,y5,st5,fr5⟩=>?_);have I5':=I5.pinned (stat fr5) (T.obj _ _ st5);refine wpAny_passesOwn hp (thn (hg _ s5 σ3 H5 x u _ I5' r5 (step x H5 y5)) λ_ s6 ⟨σ6,H6,I6,q6⟩=>?_);refine wpAny_passesOwn hp (thn (hb _ s6 σ6 H6 _ I6 q6) λf s7 q7=>?_);have again:∀{σ7:St}{H7:Hp},Inv X (pins++B3 fp s5.heap) σ7 H7 s7->N σ7 H7->∃m,m<n/\∃i σ' H',Inv X pins σ' H' s7/\tn i s7.heap/\(∀b∈fp,H' b=none)/\W i m σ' H':=λ{σ7 H7} I7 n7=>by
   obtain⟨m',hm,w7⟩:=hN σ7 H7 n7;refine⟨m',hm,i+1,σ7,H7,I7.unpinned,T.keep _ _ _ st5 λb hb o e=>(I7.pin (b,o) (wV _ (wV _ (jq hb e)))).1,λb hb=>?_,w7⟩;obtain⟨o,e,d⟩:=T.obj _ _ st5 b hb;exact(I7.pin (b,o) (wV _ (wV _ (jq hb e)))).2.1
  cases f with
  |next=>obtain⟨σ7,H7,I7,n7⟩:=q7;exact again I7 n7
  |cont=>obtain⟨σ7,H7,I7,n7⟩:=q7;exact again I7 n7
  |brk=>obtain⟨σ7,H7,I7,q7⟩:=q7;exact⟨σ7,H7,I7.unpinned,q7⟩
  |ret v=>obtain⟨x7,σ7,H7,I7,r7,q7⟩:=q7;exact⟨x7,σ7,H7,I7.unpinned,r7,q7⟩
end
noncomputable abbrev R2:=V->V->Hp->VK->Prop
def OpR(X:Cx)(f:Value->Value->Sem Value)(r:R2):Prop:=
 ∀(pins:List (Addr×Obj)) (s:Shared) (σ:St) (H:Hp) (x y:V) (v u:Value) (Q:VK),Inv X pins σ H s->RelV x v->RelV y u->r x y H Q ->
  wpAny (model X.prog X.w) X.A (f v u) (EP X pins σ Q) X.xe s
def UnR(X:Cx)(f:Value->Sem Value)(r:V->Hp->VK->Prop):Prop:=
 ∀(pins:List (Addr×Obj)) (s:Shared) (σ:St) (H:Hp) (x:V) (v:Value) (Q:VK),Inv X pins σ H s->RelV x v->r x H Q ->
  wpAny (model X.prog X.w) X.A (f v) (EP X pins σ Q) X.xe s
def zI(X:Cx)(f:Value)(r:List V->Hp->VK->Prop):Prop:=
 ∀(pins:List (Addr×Obj)) (s:Shared) (σ:St) (H:Hp) (xs:List V) (us:List Value) (Q:VK),Inv X pins σ H s->Vals xs us->r xs H Q ->
  wpAny (model X.prog X.w) X.A (call f us) (EP X pins σ Q) X.xe s
noncomputable def tOp(r:R2)(ta tb:TE):TE:=λσ H Q=>ta σ H λx H1=>tb σ H1 λy H2=>r x y H2 Q
noncomputable def tUn(r:V->Hp->VK->Prop)(ta:TE):TE:=λσ H Q=>ta σ H λx H1=>r x H1 Q
noncomputable def rI(C:Int->Int->Prop)(g:Int->Int->V):R2:=λx y H Q=>∃i j,x=.int i/\y=.int j/\C i j/\Q (g i j) H
noncomputable def rI0(g:Int->Int->V):R2:=λx y H Q=>∃i j,x=.int i/\y=.int j/\Q (g i j) H
def rU(g:Int->V):V->Hp->VK->Prop:=λx H Q=>∃i,x=.int i/\Q (g i) H
section
variable{X:Cx}{a b c:Expr}{ta tb tc:TE}{pos:Pos}
theorem qx(ha:PE X a ta)(hb:PE X b tb){pins:List (Addr×Obj)}{s:Shared}{σ:St}{H:Hp}{R:V->V->Hp->Prop}(I:Inv X pins σ H s)
  (h:ta σ H λx H1=>tb σ H1 λy H2=>R x y H2){Q:Value->Shared->Prop}{f:Value->Value->Sem Value}
  (hf:∀v u s2 x y H2,Inv X pins σ H2 s2->RelV x v->RelV y u->R x y H2->wpAny (model X.prog X.w) X.A (f v u) Q X.xe s2):
  wpAny (model X.prog X.w) X.A (eval a X.env) (λv s₁=>wpAny (model X.prog X.w) X.A (eval b X.env) (λu s₂=>wpAny (model X.prog X.w) X.A (f v u) Q X.xe s₂) X.xe s₁) X.xe s:=by
 refine thn (ha pins s σ H _ I h) λv s1 ⟨x,H1,I1,r1,q1⟩=>?_;refine thn (hb pins s1 σ H1 _ I1 q1) λu s2 ⟨y,H2,I2,r2,q2⟩=>?_;exact hf v u s2 x y H2 I2 r1 r2 q2
theorem pe_op{op:Operator}{r:R2}(ho:OpR X (binaryOp op) r)(ha:PE X a ta)(hb:PE X b tb):PE X (.BinOp a op b pos) (tOp r ta tb):=by
 intro pins s σ H Q I h;exact wpAny_BinOp (qx ha hb I h λv u s2 x y H2 I2 rx ry q=>ho pins s2 σ H2 x y v u Q I2 rx ry q)
theorem pe_un{op:UnaryOp}{r:V->Hp->VK->Prop}(ho:UnR X (unaryOp op) r)(ha:PE X a ta):PE X (.UnaryOp op a pos) (tUn r ta):=by
 intro pins s σ H Q I h;exact UnaryOp_ (thn (ha pins s σ H _ I h) λv s1 ⟨x,H1,I1,r1,q1⟩=>ho pins s1 σ H1 x v Q I1 r1 q1)
theorem opI{f:Value->Value->Sem Value}{C:Int->Int->Prop}{g:Int->Int->Int}
  (rule:∀(i j:Int) (t u:Tok) (s:Shared) (Q:Value->Shared->Prop) (E:Value->Shared->Prop),C i j->Q (.int (g i j) s.toks) { s with toks:=s.toks+1 }->wpAny (model X.prog X.w) X.A (f (.int i t) (.int j u)) Q E s):
  OpR X f (rI C λi j=>.int (g i j)):=by
 intro pins s σ H x y v u Q I rx ry h;obtain⟨i,j,rfl,rfl,hc,q⟩:=h;obtain⟨t,rfl⟩:=rx;obtain⟨t',rfl⟩:=ry;exact rule i j t t' s _ _ hc ⟨.int (g i j),H,I.tok _,⟨_,rfl⟩,q⟩
theorem qGT{f:Value->Value->Sem Value}{g:Int->Int->Int}
  (rule:∀(i j:Int) (t u:Tok) (s:Shared) (Q:Value->Shared->Prop) (E:Value->Shared->Prop),Q (.int (g i j) s.toks) { s with toks:=s.toks+1 }->wpAny (model X.prog X.w) X.A (f (.int i t) (.int j u)) Q E s):
  OpR X f (rI0 λi j=>.int (g i j)):=by
 intro pins s σ H x y v u Q I rx ry h;obtain⟨i,j,rfl,rfl,q⟩:=h;obtain⟨t,rfl⟩:=rx;obtain⟨t',rfl⟩:=ry;exact rule i j t t' s _ _ ⟨.int (g i j),H,I.tok _,⟨_,rfl⟩,q⟩
theorem qFp{f:Value->Value->Sem Value}{g:Int->Int->Bool}
  (rule:∀(i j:Int) (t u:Tok) (s:Shared) (Q:Value->Shared->Prop) (E:Value->Shared->Prop),Q (.bool (g i j)) s->wpAny (model X.prog X.w) X.A (f (.int i t) (.int j u)) Q E s):
  OpR X f (rI0 λi j=>.bl (g i j)):=by
 intro pins s σ H x y v u Q I rx ry h;obtain⟨i,j,rfl,rfl,q⟩:=h;obtain⟨t,rfl⟩:=rx;obtain⟨t',rfl⟩:=ry;exact rule i j t t' s _ _ ⟨.bl (g i j),H,I,rfl,q⟩
def CDiv(i j:Int):Prop:=0<j/\j<1073741824
def CPow(i j:Int):Prop:=0<=j/\j<=1000000/\i.natAbs<2 ^ 64
def CMul(i j:Int):Prop:=(-(2 ^ 64)<i/\i<2 ^ 64)\/(-(2 ^ 64)<j/\j<2 ^ 64)
theorem CMul.ok{i j:Int}(h:CMul i j):IntMulOk i j:=by
 rcases h with⟨h1,h2⟩|⟨h1,h2⟩
 ·exact .of_left (intBits_le_64 h1 h2)
 ·exact .of_right (intBits_le_64 h1 h2)
theorem op_add:OpR X (binaryOp .Add) (rI0 λi j=>.int (i+j)):=qGT λ_ _ _ _ _ _ _ q=>add_int q
theorem op_sub:OpR X (binaryOp .Sub) (rI0 λi j=>.int (i-j)):=qGT λ_ _ _ _ _ _ _ q=>sub_int q
theorem op_mul:OpR X (binaryOp .Mult) (rI CMul λi j=>.int (i*j)):=opI λ_ _ _ _ _ _ _ hc q=>mul_int q hc.ok
theorem op_fdiv:OpR X (binaryOp .FloorDiv) (rI CDiv λi j=>.int (i / j)):=opI λi j _ _ _ _ _ hc q=>by
 have h1:(0:Int)<j:=hc.1;have h2:j<1073741824:=hc.2;exact floordiv_int (by omega) (by rw[Int.fdiv_eq_ediv_of_nonneg i (by omega)];exact q) (.inl (PyProof.noPylong_small (by omega)))
theorem op_mod:OpR X (binaryOp .Mod) (rI (λ_ j=>0<j) λi j=>.int (i % j)):=opI λi j _ _ _ _ _ hc q=>by
 have h1:(0:Int)<j:=hc;exact mod_int' (by omega) (by rw[Int.fmod_eq_emod_of_nonneg i (by omega)];exact q)
theorem op_modN:OpR X (binaryOp .Mod) (rI (λ_ j=>j≠0) λi j=>.int (i.fmod j)):=opI λ_ _ _ _ _ _ _ hc q=>mod_int' hc q
theorem op_pow:OpR X (binaryOp .Pow) (rI CPow λi j=>.int (i ^ j.toNat)):=opI λ_ _ _ _ _ _ _ hc q=>pow_int_small hc.1 hc.2.1 hc.2.2 q
theorem op_and:OpR X (binaryOp .BitAnd) (rI0 λi j=>.int (Builtin.bitAnd i j)):=qGT λ_ _ _ _ _ _ _ q=>and_int q
theorem unI{f:Value->Sem Value}{g:Int->Int}
  (rule:∀(i:Int) (t:Tok) (s:Shared) (Q:Value->Shared->Prop) (E:Value->Shared->Prop),Q (.int (g i) s.toks) { s with toks:=s.toks+1 }->wpAny (model X.prog X.w) X.A (f (.int i t)) Q E s):
  UnR X f (rU λi=>.int (g i)):=by
 intro pins s σ H x v Q I rx h;obtain⟨i,rfl,q⟩:=h;obtain⟨t,rfl⟩:=rx;exact rule i t s _ _ ⟨.int (g i),H,I.tok _,⟨_,rfl⟩,q⟩
theorem un_neg:UnR X (unaryOp .USub) (rU λi=>.int (-i)):=unI λ_ _ _ _ _ q=>neg_int q
end
section
variable{X:Cx}{a b c:Expr}{ta tb tc:TE}{pos:Pos}
theorem qBh{pins:List (Addr×Obj)}{σ:St}{H:Hp}{s:Shared}{Q:VK}{k k':Bool}(I:Inv X pins σ H s)(q:Q (.bl k) H)(e:k=k'):EP X pins σ Q (.bool k') s:=by
 subst e;exact⟨.bl k,H,I,rfl,q⟩
theorem op_lt:OpR X (compareOp .Lt) (rI0 λi j=>.bl (decide (i<j))):=qFp λ_ _ _ _ _ _ _ q=>lt_int q
theorem op_le:OpR X (compareOp .LtE) (rI0 λi j=>.bl (decide (i<=j))):=qFp λ_ _ _ _ _ _ _ q=>le_int q
theorem op_gt:OpR X (compareOp .Gt) (rI0 λi j=>.bl (decide (j<i))):=qFp λ_ _ _ _ _ _ _ q=>gt_int q
theorem op_ge:OpR X (compareOp .GtE) (rI0 λi j=>.bl (decide (j<=i))):=qFp λ_ _ _ _ _ _ _ q=>ge_int q
theorem op_isN:OpR X (compareOp .Is) (λx y H Q=>y=.non/\Q (.bl (decide (x=.non))) H):=by
 intro pins s σ H x y v u Q I rx ry h;obtain⟨rfl,q⟩:=h;cases ry;refine is_none_gen (qBh I q ?_);cases x<;>first
  | (cases rx;rfl)
  | (obtain⟨t,rfl⟩:=rx;rfl)
theorem op_notN:OpR X (compareOp .IsNot) (λx y H Q=>y=.non/\Q (.bl (!decide (x=.non))) H):=by
 intro pins s σ H x y v u Q I rx ry h;obtain⟨rfl,q⟩:=h;cases ry;refine isnot_none_gen (qBh I q ?_);cases x<;>first
  | (cases rx;rfl)
  | (obtain⟨t,rfl⟩:=rx;rfl)
theorem OpR.or{f:Value->Value->Sem Value}{r r':R2}(h:OpR X f r)(h':OpR X f r'):OpR X f (λx y H Q=>r x y H Q\/r' x y H Q):=by
 intro pins s σ H x y v u Q I rx ry q;rcases q with q|q
 ·exact h pins s σ H x y v u Q I rx ry q
 ·exact h' pins s σ H x y v u Q I rx ry q
theorem pe_cmpR{op:CmpOp}{r:R2}(ho:OpR X (compareOp op) r)(ha:PE X a ta)(hb:PE X b tb)(hm:behindInMarks op b=false):PE X (.Compare a [op] [b] pos) (tOp r ta tb):=by
 intro pins s σ H Q I h;exact wpAny_Compare1 (qx ha hb I h λv u s2 x y H2 I2 rx ry q=>ho pins s2 σ H2 x y v u Q I2 rx ry q) hm
noncomputable def qEU(t:TE):TT:=λσ H Q=>t σ H λx H'=>∃k,x=.bl k/\Q k H'
theorem pt_cmpR{op:CmpOp}{r:R2}(ho:OpR X (compareOp op) r)(ha:PE X a ta)(hb:PE X b tb)(hm:behindInMarks op b=false):PT X (.Compare a [op] [b] pos) (qEU (tOp r ta tb)):=by
 intro pins s σ H Q I h;refine wpAny_isTrue_Compare1 (thn (ha pins s σ H _ I h) λv s1 ⟨x,H1,I1,r1,q1⟩=>thn (hb pins s1 σ H1 _ I1 q1) λu s2 ⟨y,H2,I2,r2,q2⟩=>
  thn (ho pins s2 σ H2 x y v u _ I2 r1 r2 q2) λc s3 ⟨z,H3,I3,r3,k,e,q3⟩=>?_) hm
 subst e;cases r3;exact uV ⟨H3,I3,q3⟩
noncomputable def tChain(r r':R2)(ta tb tc:TE):TE:=λσ H Q=>ta σ H λx H1=>tb σ H1 λy H2=>r x y H2 λz H3=>∃k,z=.bl k/\
 (if k=true then tc σ H3 λw' H4=>r' y w' H4 Q else Q (.bl false) H3)
theorem pe_chain{op op':CmpOp}{r r':R2}(ho:OpR X (compareOp op) r)(ho':OpR X (compareOp op') r')(ha:PE X a ta)(hb:PE X b tb)(hc:PE X c tc)
  (hm:lastMarks [op,op'] [b,c]=false:=by with_unfolding_all rfl):PE X (.Compare a [op,op'] [b,c] pos) (tChain r r' ta tb tc):=by
 intro pins s σ H Q I h;refine Compare_chain (thn (ha pins s σ H _ I h) λv s1 ⟨x,H1,I1,r1,q1⟩=>chain_link (thn (hb pins s1 σ H1 _ I1 q1) λu s2 ⟨y,H2,I2,r2,q2⟩=>
  thn (ho pins s2 σ H2 x y v u _ I2 r1 r2 q2) λd s3 ⟨z,H3,I3,r3,k,e,q3⟩=>?_)) hm
 subst e;cases r3;refine uV ?_;cases k with
 |false=>exact ite_ff ⟨.bl false,H3,I3,rfl,q3⟩
 |true=>exact ite_tt (chain_last (thn (hc pins s3 σ H3 _ I3 q3) λw' s4 ⟨z',H4,I4,r4,q4⟩=>ho' pins s4 σ H4 y z' u w' Q I4 r2 r4 q4))
theorem pt_chain{op op':CmpOp}{r r':R2}(ho:OpR X (compareOp op) r)(ho':OpR X (compareOp op') r')(ha:PE X a ta)(hb:PE X b tb)(hc:PE X c tc)
  (hm:lastMarks [op,op'] [b,c]=false:=by with_unfolding_all rfl):PT X (.Compare a [op,op'] [b,c] pos) (qEU (tChain r r' ta tb tc)):=by
 intro pins s σ H Q I h;refine isTrue_chain (thn (ha pins s σ H _ I h) λv s1 ⟨x,H1,I1,r1,q1⟩=>test_link (thn (hb pins s1 σ H1 _ I1 q1) λu s2 ⟨y,H2,I2,r2,q2⟩=>
  thn (ho pins s2 σ H2 x y v u _ I2 r1 r2 q2) λd s3 ⟨z,H3,I3,r3,k,e,q3⟩=>?_)) hm
 subst e;cases r3;refine uV ?_;cases k with
 |false=>
  obtain⟨k',e',q'⟩:=q3;cases e';exact ite_ff ⟨H3,I3,q'⟩
 |true=>
  refine ite_tt (test_last (thn (hc pins s3 σ H3 _ I3 q3) λw' s4 ⟨z',H4,I4,r4,q4⟩=>thn (ho' pins s4 σ H4 y z' u w' _ I4 r2 r4 q4) λd' s5 ⟨z2,H5,I5,r5,k2,e2,q5⟩=>?_));subst e2;cases r5;exact uV ⟨H5,I5,q5⟩
theorem T3:(sizeLine:Nat)<2 ^ 63:=by rw[sizeLine_eq];decide
theorem vals1{x:V}{us:List Value}(r:Vals [x] us):∃u,us=[u]/\RelV x u:=by
 cases r with
 |cons r1 r2=>cases r2;exact⟨_,rfl,r1⟩
theorem vals2{x y:V}{us:List Value}(r:Vals [x,y] us):∃u w',us=[u,w']/\RelV x u/\RelV y w':=by
 cases r with
 |cons r1 r2=>
  cases r2 with
  |cons r3 r4=>cases r4;exact⟨_,_,rfl,r1,r3⟩
theorem call_max2(hc:X.calm=true):zI X (.builtin "max") (λxs H Q=>∃i j,xs=[.int i,.int j]/\Q (.int (if j>i then j else i)) H):=by
 intro pins s σ H xs us Q I r h;obtain⟨i,j,rfl,q⟩:=h;obtain⟨u,w',rfl,⟨t,rfl⟩,⟨t',rfl⟩⟩:=vals2 r;refine max_two_ints (I.ok.hd hc) λh' tk k=>⟨_,H,I.kept k,?_,q⟩
 by_cases hj:j>i
 ·rw[if_pos hj,if_pos hj];exact⟨_,rfl⟩
 ·rw[if_neg hj,if_neg hj];exact⟨_,rfl⟩
theorem call_min2(hc:X.calm=true):zI X (.builtin "min") (λxs H Q=>∃i j,xs=[.int i,.int j]/\Q (.int (if j<i then j else i)) H):=by
 intro pins s σ H xs us Q I r h;obtain⟨i,j,rfl,q⟩:=h;obtain⟨u,w',rfl,⟨t,rfl⟩,⟨t',rfl⟩⟩:=vals2 r;refine min_two_ints (I.ok.hd hc) λh' tk k=>⟨_,H,I.kept k,?_,q⟩
 by_cases hj:j<i
 ·rw[if_pos hj,if_pos hj];exact⟨_,rfl⟩
 ·rw[if_neg hj,if_neg hj];exact⟨_,rfl⟩
theorem call_int1:zI X (.type "int") (λxs H Q=>(∃i,xs=[.int i]/\Q (.int i) H)\/∃k,xs=[.bl k]/\Q (.int (if k then 1 else 0)) H):=by
 intro pins s σ H xs us Q I r h;rcases h with⟨i,rfl,q⟩|⟨k,rfl,q⟩
 ·obtain⟨u,rfl,t,rfl⟩:=vals1 r;exact call_int_int ⟨.int i,H,I,⟨_,rfl⟩,q⟩
 ·obtain⟨u,rfl,r1⟩:=vals1 r;cases r1;exact call_int_bool ⟨.int (if k then 1 else 0),H,I.tok _,⟨_,rfl⟩,q⟩
end
structure Room(k:Nat)(A:Around):Prop where
 hd:A.handled=none
 dp:A.depth+3*k+5<recursionLimit
 un:A.units+16*k+200<cLine
 gd:A.guards=some []
theorem Room.mono{j k:Nat}{A:Around}(r:Room k A)(h:j<=k):Room j A:=⟨r.hd,by have:=r.dp;omega,by have:=r.un;omega,r.gd⟩
theorem Room.deeper{k:Nat}{A:Around}(r:Room (k+1) A)(env:Env):Room k (A.deeper env):=
 ⟨r.hd,by have:=r.dp;show A.depth+1+3*k+5<_;omega,by have:=r.un;show A.units+3+16*k+200<_;omega,r.gd⟩
theorem Room.in1{k:Nat}{A:Around}(r:Room (k+1) A):Room k A.in1:=
 ⟨r.hd,by have:=r.dp;show A.depth+3*k+5<_;omega,by have:=r.un;show A.units+1+16*k+200<_;omega,r.gd⟩
theorem Room.depth{k:Nat}{A:Around}(r:Room k A):A.depth<recursionLimit:=by have:=r.dp;omega
theorem Room.units{k:Nat}{A:Around}(r:Room k A):A.units+64<cLine:=by have:=r.un;omega
noncomputable def qHl:TA:=λ_ H Q=>Q [] H
noncomputable def qGs(ta:TE)(tr:TA):TA:=λσ H Q=>ta σ H λx H1=>tr σ H1 λxs H2=>Q (x::xs) H2
section
variable{X:Cx}{e:Expr}{es:List Expr}{te:TE}{t:TA}{pos:Pos}
theorem pa_nil:PA X [] qHl:=λ_ _ _ _ H Q I h=>Calls.spliced_nil ⟨[],H,I,.nil,h⟩
theorem pa_cons(ha:PE X e te)(hr:PA X es t)(hs:starEach (e::es) X.env=(false,eval e X.env)::starEach es X.env:=by rfl):PA X (e::es) (qGs te t):=by
 intro pos pins s σ H Q I h;rw[hs];show wpAny _ _ (spliced ((false,eval e X.env)::backTo pos (starEach es X.env))) _ _ s;refine Calls.spliced_cons (thn (ha pins s σ H _ I h) λu s1 ⟨x,H1,I1,r1,q1⟩=>?_);exact thn (hr pos pins s1 σ H1 _ I1 q1) λus s2 ⟨xs,H2,I2,r2,q2⟩=>⟨x::xs,H2,I2,.cons r1 r2,q2⟩
noncomputable def qID(t:TA):TE:=λσ H Q=>t σ H λxs H1=>xs.length<=sizeLine/\∀p,H1 p=none->Q (.ref p) (upd H1 p (.tup xs))
noncomputable def qIN(t:TA):TE:=λσ H Q=>t σ H λxs H1=>xs.length<=sizeLine/\∀p,H1 p=none->Q (.ref p) (upd H1 p (.lst xs))
theorem pe_tup {x1}(h:PA X es t):PE X (.Tuple es x1 pos) (qID t):=by
 intro pins s σ H Q I hq;refine wpAny_Tuple_spliced (thn (h pos pins s σ H _ I hq) λus s1 ⟨xs,H1,I1,r,z,q⟩=>⟨by rw[<-r.length];exact z,?_⟩);have hf:H1 s1.heap.objs.size=none:=I1.hok.fresh (wG _);refine⟨.ref s1.heap.objs.size,upd H1 s1.heap.objs.size (.tup xs),I1.laid (t':=s1.toks) (λb u e=>Heap.get?_push_of_some _ e) (wG _) ?_,rfl,q _ hf⟩;exact⟨z,us,r,⟨_,Heap.get?_push_size _ rfl,rfl,_,rfl⟩⟩
theorem pe_lst(h:PA X es t):PE X (.List es pos) (qIN t):=by
 intro pins s σ H Q I hq;refine wpAny_List_spliced (thn (h pos pins s σ H _ I hq) λus s1 ⟨xs,H1,I1,r,z,q⟩=>⟨by rw[<-r.length];exact z,?_⟩);have hf:H1 s1.heap.objs.size=none:=I1.hok.fresh (wG _);refine⟨.ref s1.heap.objs.size,upd H1 s1.heap.objs.size (.lst xs),I1.laid (t':=s1.toks) (λb u e=>Heap.get?_push_of_some _ e) (wG _) ?_,rfl,q _ hf⟩;exact⟨z,us,0,r,Heap.get?_push_size _ rfl⟩
end
noncomputable abbrev Sp:=List V->Hp->VK->XK->Prop
noncomputable abbrev CXT:=List Env->Hp->Shared->XK->Value->Shared->Prop
structure Env0(P:Program)(w:World)(K:PySem.W.Frag)(mg:Str->Option Value)(base:Heap)(A:Around)(outer:List Env)(s:Shared)(H:Hp):Prop where
 frames:A.frames=some outer
 mod:Mod K mg base
 bs:∀b o,base.get? b=some o->s.heap.get? b=some o/\H b=none
 bsz:base.objs.size<=s.heap.objs.size
 funs:s.heap.FunFrames base outer
 frf:∀b∈frs outer,H b=none
 hok:HOk P w H s.heap
 bare:AllBare s.gens
def CE(outer:List Env)(P:Program)(w:World)(H:Hp)(s:Shared)(Q:VK)(u:Value)(s':Shared):Prop:=
 ∃v H',s'.os=s.os/\AllBare s'.gens/\Un (frs outer) [] H H' s.heap s'.heap/\HOk P w H' s'.heap/\RelV v u/\Q v H'
def CR(CX:CXT)(outer:List Env)(P:Program)(w:World)(H:Hp)(s:Shared)(Q:VK)(E:XK)(r:Result)(s':Shared):Prop:=
 match r with
 | .ok (.ret u)=>CE outer P w H s Q u s'
 | .ok _=>False
 | .error e=>CX outer H s E e s'
structure FnOk(P:Program)(w:World)(K:PySem.W.Frag)(mg:Str->Option Value)(base:Heap)(CX:CXT)(k:Nat)(f:Addr)(fd:FuncData)(ps:List Str)(sp:Sp):Prop where
 len:∀vs H Q E,sp vs H Q E->vs.length=ps.length
 run:∀(A:Around) (outer:List Env) (s:Shared) (H:Hp) (args:Args) (us:List Value) (vs:List V) (Q:VK) (E:XK),Room k A->Env0 P w K mg base A outer s H->BindsTo s fd args (ps.zip us)->Vals vs us->sp vs H Q E ->
  codeAny (model P w) A (.call (.ref f) args) (CR CX outer P w H s Q E) s
theorem Env0.in1{P:Program}{w:World}{K:PySem.W.Frag}{mg:Str->Option Value}{base:Heap}{A:Around}{outer:List Env}{s:Shared}{H:Hp}(e:Env0 P w K mg base A outer s H):
  Env0 P w K mg base A.in1 outer s H:=⟨e.frames,e.mod,e.bs,e.bsz,e.funs,e.frf,e.hok,e.bare⟩
section
variable{X:Cx}{pins:List (Addr×Obj)}{σ:St}{H:Hp}{s s':Shared}
theorem Inv.env0(I:Inv X pins σ H s):Env0 X.prog X.w X.K X.mg X.base X.A X.stack s H:=
 ⟨I.ok.frames,I.ok.mod,I.bs,wN I.ok.bsz I.sz,I.stack,I.stkFree,I.hok,I.bare⟩
theorem Inv.after{Q:VK}{u:Value}(I:Inv X pins σ H s)(h:CE X.stack X.prog X.w H s Q u s'):EP X pins σ Q u s':=by
 obtain⟨v,H',os,bare,un,hok,r,q⟩:=h;obtain⟨hh,g,d,t,os'⟩:=s';obtain rfl:os'=s.os:=os;exact⟨v,H',I.call (h':=hh) (g':=g) (d':=d) (t':=t) (ch:=[]) un hok bare (λb z=>absurd z (by simp)),r,q⟩
end
noncomputable def tCall(sp:Sp)(dvs:List V)(E:XK)(t:TA):TE:=λσ H Q=>t σ H λvs H1=>sp (vs++dvs) H1 Q E
def Binds(K:PySem.W.Frag)(fd:FuncData)(ps:List Str)(ds:List Value):Prop:=
 ∀(s:Shared) (us:List Value),K.In s.heap->(us++ds).length=ps.length->BindsTo s fd ⟨us,[]⟩ (ps.zip (us++ds))
theorem Binds.all{K:PySem.W.Frag}{fd:FuncData}{ps:List Str}(h:∀us:List Value,us.length=ps.length->bindArgs fd ⟨us,[]⟩=pure (ps.zip us)):Binds K fd ps []:=λs us _ hl=>by
 rw[wb]at hl ⊢;exact .of_eq (h us hl)
def P3(CX:CXT)(X:Cx)(E:XK):Prop:=∀(pins:List (Addr×Obj)) (σ:St) (H:Hp) (s:Shared) (e:Value) (s':Shared),Inv X pins σ H s->CX X.stack H s E e s'->X.xe e s'
section
variable{X:Cx}{CX:CXT}{k:Nat}{f C:Addr}{fd:FuncData}{ps:List Str}{sp:Sp}{dvs:List V}{ds:List Value}{E:XK}{x m:Str}{p pos apos:Pos}{e o:Expr}{es:List Expr}{ta:TE}{t:TA}
theorem qB3{pins:List (Addr×Obj)}{σ:St}{H:Hp}{s:Shared}{Q:VK}{us:List Value}{vs:List V}(F:FnOk X.prog X.w X.K X.mg X.base CX k f fd ps sp)(hr:Room k X.A)(hb:Binds X.K fd ps ds)(hd:Vals dvs ds)(hx:P3 CX X E)
  (I:Inv X pins σ H s) (r:Vals vs us) (h:sp (vs++dvs) H Q E):wpAny (model X.prog X.w) X.A (call (.ref f) us) (EP X pins σ Q) X.xe s:=by
 have r2:Vals (vs++dvs) (us++ds):=r.append hd;have hl:(us++ds).length=ps.length:=by rw[<-r2.length];exact F.len _ _ _ _ h
 refine wpAny_call (codeAny_mono (F.run X.A X.stack s H ⟨us,[]⟩ (us++ds) (vs++dvs) Q E hr I.env0 (hb s us I.kIn hl) r2 h) λr s' hq=>?_);cases r with
 |error e=>exact hx pins σ H s e s' I hq
 |ok fl=>
  cases fl with
  |ret u=>exact I.after hq
  |next=>exact False.elim hq
  |brk=>exact False.elim hq
  |cont=>exact False.elim hq
theorem pe_call(F:FnOk X.prog X.w X.K X.mg X.base CX k f fd ps sp)(hr:Room k X.A)(hg:Gl X x)(hm:X.mg x=some (.ref f))(hk:PySem.W.keepIn X.K (.ref f)=true)(hb:Binds X.K fd ps ds)(hd:Vals dvs ds)(hx:P3 CX X E)
  (ha:PA X (e::es) t) (hdb:(x==("__debug__":Str))=false:=by decide) (he:starEach (e::es) X.env=(false,eval e X.env)::starEach es X.env:=by rfl) (hpl:(backTo pos (starEach es X.env)).any (·.1)=false:=by rfl):
  PE X (.Call (.Name x p) (e::es) [] pos) (tCall sp dvs E t):=by
 intro pins s σ H Q I h;refine wpAny_Call_Name_kw (G6 I hg hm ?_ hdb);refine PySem.W.callWith_K (h₀:=X.base) I.ok.mod.kin hk (thn (ha pos pins s σ H _ I h) λus s1 ⟨vs,H1,I1,r,q⟩=>⟨I1.kIn,?_⟩) he hpl;exact qB3 F hr hb hd hx I1 r q
theorem pe_call0(F:FnOk X.prog X.w X.K X.mg X.base CX k f fd ps sp)(hr:Room k X.A)(hg:Gl X x)(hm:X.mg x=some (.ref f))(hk:PySem.W.keepIn X.K (.ref f)=true)(hb:Binds X.K fd ps ds)(hd:Vals dvs ds)(hx:P3 CX X E)
  (hdb:(x==("__debug__":Str))=false:=by decide):PE X (.Call (.Name x p) [] [] pos) (tCall sp dvs E qHl):=by
 intro pins s σ H Q I h;refine wpAny_Call_Name_kw (G6 I hg hm ?_ hdb);exact PySem.W.callWith_K0 I.kIn hk (qB3 (us:=[]) F hr hb hd hx I .nil h)
end
structure zV(N P:List Str)(sc:Scope):Prop where
 kind:sc.kind=.function
 co:sc.isCoroutine=false
 gen:sc.isGenerator=false
 nd:N.Nodup
 pre:N.take P.length=P
 par:∀x∈P,sc.names.lookup x=some .local\/sc.names.lookup x=some .cell
 nofree:∀y∈sc.names,y.2≠.free
theorem D1{kindOf:Str->Option NameKind}{x:Str}:∀{binds:List (Str×Value)}{m:Str->Option Value},(∀v,(x,v)∉binds)->bindL kindOf binds m x=m x
 | [],_,_=>rfl
 | (n,v)::r,m,h=>by
  unfold bindL;rw[D1 λw hw=>h w (wH _ hw)];split
  ·have:x≠n:=by rintro rfl;exact h v wO
   simp[this]
  ·rfl
theorem E9{kindOf:Str->Option NameKind}{x:Str}:∀{binds:List (Str×Value)}{m:Str->Option Value},(∀v,(x,v)∉binds)->bindC kindOf binds m x=m x
 | [],_,_=>rfl
 | (n,v)::r,m,h=>by
  unfold bindC;rw[E9 λw hw=>h w (wH _ hw)];split
  ·rfl
  ·have:x≠n:=by rintro rfl;exact h v wO
   simp[this]
theorem C9{kindOf:Str->Option NameKind}{x:Str}{v:Value}:∀{P:List Str}{vs:List Value}{i:Nat}{m:Str->Option Value},P.Nodup->P[i]?=some x->vs[i]?=some v->kindOf x=some .local ->
  bindL kindOf (P.zip vs) m x=some v
 | [],_,_,_,_,h,_,_=>by simp at h
 |_::_,[],_,_,_,_,h,_=>by simp at h
 |p::P,w::vs,0,m,nd,h1,h2,hk=>by
  simp at h1 h2;subst h1;subst h2;show bindL kindOf ((p,w)::P.zip vs) m p=_;unfold bindL;rw[D1 λv hv=>(vX.mp nd).1 (List.of_mem_zip hv).1,if_pos hk];simp
 |p::P,w::vs,i+1,m,nd,h1,h2,hk=>by
  show bindL kindOf ((p,w)::P.zip vs) m x=_;unfold bindL;exact C9 (i:=i) (vX.mp nd).2 (by simpa using h1) (by simpa using h2) hk
theorem D7{kindOf:Str->Option NameKind}{x:Str}{v:Value}:∀{P:List Str}{vs:List Value}{i:Nat}{m:Str->Option Value},P.Nodup->P[i]?=some x->vs[i]?=some v->kindOf x≠some .local ->
  bindC kindOf (P.zip vs) m x=some v
 | [],_,_,_,_,h,_,_=>by simp at h
 |_::_,[],_,_,_,_,h,_=>by simp at h
 |p::P,w::vs,0,m,nd,h1,h2,hk=>by
  simp at h1 h2;subst h1;subst h2;show bindC kindOf ((p,w)::P.zip vs) m p=_;unfold bindC;rw[E9 λv hv=>(vX.mp nd).1 (List.of_mem_zip hv).1,if_neg hk];simp
 |p::P,w::vs,i+1,m,nd,h1,h2,hk=>by
  show bindC kindOf ((p,w)::P.zip vs) m x=_;unfold bindC;exact D7 (i:=i) (vX.mp nd).2 (by simpa using h1) (by simpa using h2) hk
noncomputable def start(N:List Str)(vs:List V):St:=vs.map some++List.replicate (N.length-vs.length) none
noncomputable def cxOf(CX:CXT)(P:Program)(w:World)(K:PySem.W.Frag)(mg:Str->Option Value)(base:Heap)(N:List Str)(qual:Str)(scope:Scope)(f:Addr)(cd:Value)(A:Around)(outer:List Env)(s:Shared)(H:Hp)(E:XK):Cx where
 prog:=P
 w:=w
 K:=K
 mg:=mg
 base:=base
 A:=A.deeper (envOfC qual scope s.heap.objs.size f cd)
 N:=N
 s₀:=s
 H₀:=H
 env:=envOfC qual scope s.heap.objs.size f cd
 outer:=outer
 stack:=envOfC qual scope s.heap.objs.size f cd::outer
 ex:=[]
 calm:=true
 fn:=λ_=>true
 pn:=[]
 xe:=λe s'=>wpAny (model P w) (A.deeper (envOfC qual scope s.heap.objs.size f cd)) (leaving (envOfC qual scope s.heap.objs.size f cd) e) (λ_ s''=>CX outer H s E e s'') (λe' s''=>CX outer H s E e' s'') s'
theorem R7{sc:Scope}{n:Nat}{x:Str}(h:sc.names.lookup x=some .cell):∃c,(cellsFrom n sc.names []).lookup x=some c:=by
 have q:=PySem.W.cellsFrom_some sc.names n [] (.inl h);exact Option.isSome_iff_exists.mp q
theorem Z7{CX:CXT}{P:Program}{w:World}{K:PySem.W.Frag}{mg:Str->Option Value}{base:Heap}{N ps:List Str}{qual:Str}{scope:Scope}{f:Addr}{cd:Value}{A:Around}{outer:List Env}{s s1:Shared}{H:Hp}{E:XK}{us:List Value}{vs:List V}
  (S:zV N ps scope) (hd:A.handled=none) (e0:Env0 P w K mg base A outer s H) (hl:vs.length=ps.length) (r:Vals vs us)
  (x:InCallC s s.heap.objs.size (bindL (envOfC qual scope s.heap.objs.size f cd).kindOf (ps.zip us) λ_=>none) (cellsFrom (s.heap.objs.size+1) scope.names []) (bindC (envOfC qual scope s.heap.objs.size f cd).kindOf (ps.zip us) λ_=>none) s1):
  Inv (cxOf CX P w K mg base N qual scope f cd A outer s H E) [] (start N vs) H s1:=by
 have hpl:ps.length<=N.length:=by have:=congrArg List.length S.pre;rw[wl]at this;omega
 obtain⟨h1,tk,rfl,hk⟩:=x.done;have noA:∀b:Addr,b∉(cxOf CX P w K mg base N qual scope f cd A outer s H E).ex:=λb z=>absurd (show b∈([]:List Addr) from z) (by simp);refine⟨⟨e0.mod,S.kind,rfl,rfl,wG _,λy z c h1 h2=>?_,λy hy=>?_,λy c _ h=>?_,λ_=>hd,Around.frames_deeper e0.frames,.inr ⟨rfl,rfl⟩,λb z=>absurd z (noA b),e0.bs,e0.bsz,λb _ _=>noA b,λb z=>absurd z (noA b),e0.funs,e0.frf⟩,
  rfl,e0.bare,Un.kept hk,⟨_,x.toInCall.ns,λi y v h1 h2 h3=>?_⟩,λy c h=>⟨_,x.cell y c h⟩,e0.hok.fresh (wG _),λy c h=>?_,λp hp=>absurd (show p∈([]:List (Addr×Obj)) from hp) (by simp),e0.hok.kept hk,?_⟩
 ·exact name_of_addr x.apart (PySem.mem_of_lookup h1) (PySem.mem_of_lookup h2)
 ·have hy:scope.names.lookup y=some .cell\/scope.names.lookup y=some .free:=hy;rcases hy with hy|hy
  ·exact R7 hy
  ·exact absurd rfl (S.nofree _ (PySem.mem_of_lookup hy))
 ·exact vD (x.above y c (PySem.mem_of_lookup h))
 ·have hi:i<vs.length:=by
   unfold start at h2;by_cases hi:i<vs.length
   ·exact hi
   ·rw[wL (by simpa using hi)]at h2;rw[List.getElem?_replicate]at h2;split at h2<;>cases h2
  have ha:vs[i]?=some v:=by
   unfold start at h2;rw[wB (by simpa using hi),vB]at h2;cases e:vs[i]? with
   |none=>rw[e]at h2;cases h2
   |some a=>rw[e]at h2;cases h2;rfl
  obtain⟨u,hu,rv⟩:=r.get ha;have hp:ps[i]?=some y:=by
   rw[<-S.pre,wg (by omega)];exact h1
  have ndP:ps.Nodup:=by rw[<-S.pre];exact S.nd.sublist (List.take_sublist _ _)
  refine⟨u,rv,?_⟩;rcases S.par y (wZ hp) with k|k
  ·exact .inl ⟨k,C9 ndP hp hu k⟩
  ·obtain⟨c,e⟩:=R7 (n:=s.heap.objs.size+1) k;refine .inr ⟨.inl k,c,e,?_⟩;have q:=x.cell y c e;rw[D7 ndP hp hu (by show scope.names.lookup y≠_;rw[k];decide)]at q;exact q
 ·exact e0.hok.fresh (vD (x.above y c (PySem.mem_of_lookup h)))
 ·unfold start;show _=N.length;rw[wY,wQ,List.length_replicate];omega
theorem qGw{CX:CXT}{P:Program}{w:World}{K:PySem.W.Frag}{mg:Str->Option Value}{base:Heap}{k:Nat}{f:Addr}{name qual:Str}{params:Arguments}{body:List Stmt}{scope:Scope}{dV kV doc pm cdv ct oc:Value}{an od:Option Addr}
  {osl:Array (Option Value)}{N ps:List Str}{sp:Sp}(lk:K.lookup f=some ⟨oc,od,.func (PySem.W.fnOf name qual params body scope dV kV doc pm an cdv ct),osl⟩) (hcd:PySem.W.codeIn K cdv qual=true) (S:zV N ps scope)
  (len:∀vs H Q E,sp vs H Q E->vs.length=ps.length)
  (hbody:∀(A:Around) (outer:List Env) (s:Shared) (H:Hp) (vs:List V) (Q:VK) (E:XK),Room k (A.deeper (envOfC qual scope s.heap.objs.size f cdv))->sp vs H Q E ->
   ∃t,PSs (cxOf CX P w K mg base N qual scope f cdv A outer s H E) body t/\t { nx:=λ_ H'=>Q .non H',rt:=Q } (start N vs) H):
  FnOk P w K mg base CX (k+1) f (PySem.W.fnOf name qual params body scope dV kV doc pm an cdv ct) ps sp:=by
 refine⟨len,λA outer s H args us vs Q E hr e0 hb r hsp=>?_⟩;have hl:=len _ _ _ _ hsp;have KX:K.In s.heap:=e0.mod.kin.keeps λb o e=>(e0.bs b o e).1;have lim:s.heap.NoLimit:=e0.mod.nolimit.keeps λb o e=>(e0.bs b o e).1;have hkind:∀y∈ps.zip us,scope.names.lookup y.1=some .local\/(scope.names.lookup y.1=some .cell/\((cellsFrom (s.heap.objs.size+1) scope.names []).lookup y.1).isSome=true):=λ⟨n,v⟩ hy=>by
  rcases S.par n (List.of_mem_zip hy).1 with q|q
  ·exact .inl q
  ·exact .inr ⟨q,PySem.W.cellsFrom_some _ _ _ (.inl q)⟩
 refine codeAny_call_function hr.depth (KX _ _ lk) rfl S.co S.gen rfl (PySem.W.codeRec_of KX hcd) (hb _ _ _ _ ?_);refine wpAny_newFunctionEnv_cells S.kind hkind λenv he s1 x=>?_;subst he;refine⟨lim.keeps x.toInCall.keep,codeAny_func ?_⟩;obtain⟨t,ht,hq⟩:=hbody A outer s H vs Q E (hr.deeper _) hsp;have I:Inv (cxOf CX P w K mg base N qual scope f cdv A outer s H E) [] (start N vs) H s1:=Z7 S hr.hd e0 hl r x;refine wpAny_mono (ht [] s1 (start N vs) H _ I hq) (λfl s' hs=>?_) λe s' hs=>hs;have fin:∀{σ':St}{H':Hp}{v:V}{u:Value},Inv (cxOf CX P w K mg base N qual scope f cdv A outer s H E) [] σ' H' s'->RelV v u->Q v H'->CE outer P w H s Q u s':=
  λ{σ' H' v u} J rv q=>⟨v,H',J.os,J.bare,J.base,J.hok,rv,q⟩
 cases fl with
 |ret u=>
  obtain⟨v,σ',H',J,rv,q⟩:=hs;exact fin J rv q
 |next=>
  obtain⟨σ',H',J,q⟩:=hs;exact fin (v:=V.non) (u:=Value.none) J rfl q
 |brk=>
  obtain⟨_,_,_,q⟩:=hs;exact False.elim q
 |cont=>
  obtain⟨_,_,_,q⟩:=hs;exact False.elim q
section
variable{X:Cx}{x:Str}{p pos:Pos}{e:Expr}{es:List Expr}{t:TA}{id T:String}{r:List V->Hp->VK->Prop}
noncomputable def tCB(r:List V->Hp->VK->Prop)(t:TA):TE:=λσ H Q=>t σ H λvs H1=>r vs H1 Q
theorem pe_callB(hc:zI X (.builtin id) r)(hg:Gl X x)(hm:X.mg x=none)(hv:bootBuiltins x=some (.builtin id))(ha:PA X (e::es) t)(hn:x≠"__name__":=by decide)(hdb:(x==("__debug__":Str))=false:=by decide)
  (he:starEach (e::es) X.env=(false,eval e X.env)::starEach es X.env:=by rfl) (hpl:(backTo pos (starEach es X.env)).any (·.1)=false:=by rfl):PE X (.Call (.Name x p) (e::es) [] pos) (tCB r t):=by
 intro pins s σ H Q I h;refine wpAny_Call_Name_kw (ld_blt I hg hm hv ?_ hn hdb);exact PyProof.Rows.callWith_builtin1 (thn (ha pos pins s σ H _ I h) λus s1 ⟨vs,H1,I1,r1,q1⟩=>hc pins s1 σ H1 vs us Q I1 r1 q1) he hpl
theorem pe_callTy(hc:zI X (.type T) r)(hg:Gl X x)(hm:X.mg x=none)(hv:bootBuiltins x=some (.type T))(ha:PA X (e::es) t)(hn:x≠"__name__":=by decide)(hdb:(x==("__debug__":Str))=false:=by decide)
  (he:starEach (e::es) X.env=(false,eval e X.env)::starEach es X.env:=by rfl) (hpl:(backTo pos (starEach es X.env)).any (·.1)=false:=by rfl):PE X (.Call (.Name x p) (e::es) [] pos) (tCB r t):=by
 intro pins s σ H Q I h;refine wpAny_Call_Name_kw (ld_blt I hg hm hv ?_ hn hdb);exact PyProof.Rows.callWith_type1 (thn (ha pos pins s σ H _ I h) λus s1 ⟨vs,H1,I1,r1,q1⟩=>hc pins s1 σ H1 vs us Q I1 r1 q1) he hpl
end
end _L
namespace _H
open PySem PyProof.Rows
section
variable{prog:Program}{w:World}{A:Around}{E:Value->Shared->Prop}{s:Shared}
theorem cat_tup{t b:Addr}{vs ws:List Value}{Q:Value->Shared->Prop}(ht:IsTup s.heap t vs.toArray)(hb:IsTup s.heap b ws.toArray)(hv:vs≠[])
  (h1:ws=[]->Q (.ref t) s) (h2:ws≠[]->Q (.ref s.heap.objs.size) { s with heap:=s.heap.push { cls:=.type "tuple",data:=.seq (vs++ws).toArray } })
  (hsz:vs.length+ws.length<=sizeLine):wpAny (model prog w) A (binaryOp .Add (.ref t) (.ref b)) Q E s:=by
 obtain⟨⟨cls,dd,data,sl⟩,ho,hc,n,hd⟩:=id ht;obtain⟨⟨cls2,dd2,data2,sl2⟩,ho2,hc2,n2,hd2⟩:=id hb;simp only at hc hd hc2 hd2;subst hc hd hc2 hd2;have e:vs.toArray++ws.toArray=(vs++ws).toArray:=by simp
 by_cases hw:ws=[]
 ·exact concat_meets ⟨_,ho,rfl⟩ ⟨_,ho2,rfl⟩ noFill_tuple_add seq_tuple_add PySem.F.slot_tuple_add PySem.F.entry_tuple_add (PySem.F.args_tuple_add_2 _ _)
   (tuple_addW1 t b vs.toArray ws.toArray n n2 dd dd2 sl sl2 (by simpa using hv) (by simp[hw])) ⟨ho,ho2,h1 hw⟩
 ·refine concat_meets ⟨_,ho,rfl⟩ ⟨_,ho2,rfl⟩ noFill_tuple_add seq_tuple_add PySem.F.slot_tuple_add PySem.F.entry_tuple_add (PySem.F.args_tuple_add_2 _ _)
   (tuple_addW2 t b vs.toArray ws.toArray n n2 dd dd2 sl sl2 (by simpa using hv) (by simpa using hw) (by rw[wP,wP];exact hsz)) ⟨ho,ho2,?_⟩
  rw[e];exact h2 hw
noncomputable def sIx(n d:Nat):Option Int->Nat
 |none=>d
 |some v=>if v<0 then (v+(n:Int)).toNat else min v.toNat n
theorem sIx_none(n d:Nat):sIx n d none=d:=rfl
theorem sIx_nat(n d k:Nat):sIx n d (some (k:Int))=min k n:=by
 show (if (k:Int)<0 then ((k:Int)+(n:Int)).toNat else min (k:Int).toNat n)=min k n;rw[if_neg (by omega),wt]
theorem qFS(n d:Nat)(hd:d<=n)(o:Option Int):sIx n d o<=n:=by
 cases o with
 |none=>exact hd
 |some v=>
  show (if v<0 then (v+(n:Int)).toNat else min v.toNat n)<=n;by_cases hv:v<0
  ·rw[if_pos hv];omega
  ·rw[if_neg hv];exact Nat.min_le_right _ _
theorem l0(v:Int)(n d:Nat):(if v<0 then max (v+(n:Int)) 0 else min v (n:Int))=((sIx n d (some v):Nat):Int):=by
 show (if v<0 then max (v+(n:Int)) 0 else min v (n:Int))=(((if v<0 then (v+(n:Int)).toNat else min v.toNat n):Nat):Int);by_cases hv:v<0
 ·simp only[if_pos hv];omega
 ·simp only[if_neg hv];omega
theorem X8(lo hi:Option Int)(n:Nat):Builtin.Slice.sliceAdjust lo hi 1 (n:Int)=(((sIx n 0 lo:Nat):Int),((sIx n n hi:Nat):Int)):=by
 have h1:¬ ((1:Int)<0):=by omega
 unfold Builtin.Slice.sliceAdjust;simp only[h1,if_false];refine Prod.ext ?_ ?_
 ·cases lo with
  |none=>rfl
  |some v=>exact l0 v n 0
 ·cases hi with
  |none=>rfl
  |some v=>exact l0 v n n
theorem V9(i j:Nat):Builtin.Slice.slicePlaces (i:Int) (j:Int) 1=j-i:=by
 unfold Builtin.Slice.slicePlaces;have h1:(1:Int)>0:=by omega
 simp only[h1,if_true,Int.ediv_one];split<;>omega
theorem JQ{v:Value}{o:Option Int}{Q:Option Int->Shared->Prop}(p:IsPart v o)(h:Q o s):wpAny (model prog w) A (Builtin.Slice.slicePartIndex v) Q E s:=by
 cases p with
 |none=>exact slicePart_none h
 |int i t=>exact slicePart_int h
theorem ZL{sl:Addr}{vl vu:Value}{lo hi:Option Int}{n:Nat}{Q:Int×Int×Nat->Shared->Prop}(hs:s.heap.IsSliceOf sl vl vu .none)(pl:IsPart vl lo)(pu:IsPart vu hi)
  (h:Q (((sIx n 0 lo:Nat):Int),1,sIx n n hi-sIx n 0 lo) s):wpAny (model prog w) A (Builtin.Slice.sliceApplied (.ref sl) (pure (n:Int))) Q E s:=by
 obtain⟨os,hos,hcs,hds⟩:=id hs;unfold Builtin.Slice.sliceApplied Builtin.Slice.sliceFields;refine uP (uP (wpAny_field hos hds (x:=vl) rfl (uP (wpAny_field hos hds (x:=vu) rfl (uP (wpAny_field hos hds (x:=.none) rfl (uQ ?_)))))));refine uP (slicePart_none ?_);show wpAny _ _ (if ((1:Int)==0)=true then _ else _) _ _ s;rw[if_neg (by decide)];refine uP (JQ pl (uP (JQ pu (uP (uQ ?_)))));show wpAny _ _ (match Builtin.Slice.sliceAdjust lo hi 1 (n:Int) with|(lo,hi)=>pure (lo,(1:Int),Builtin.Slice.slicePlaces lo hi 1)) _ _ s;rw[X8 lo hi n];show wpAny _ _ (pure (((sIx n 0 lo:Nat):Int),(1:Int),Builtin.Slice.slicePlaces ((sIx n 0 lo:Nat):Int) ((sIx n n hi:Nat):Int) 1)) _ _ s;rw[V9];exact uQ h
theorem qBA(xs:Array Value)(i k:Nat):((List.range k).filterMap λ(m:Nat)=>xs[((i:Int)+(m:Int)*1).toNat]?).toArray=((xs.toList.drop i).take k).toArray:=by
 have e:(λ(m:Nat)=>xs[((i:Int)+(m:Int)*1).toNat]?)=λm=>xs[i+m]?:=by
  funext m
  have:((i:Int)+(m:Int)*1).toNat=i+m:=by omega
  rw[this]
 rw[e];have:=pick_run xs i k;rw[List.filterMap_map]at this;have e2:((λx=>xs[x]?)∘λx=>i+x)=λm=>xs[i+m]?:=rfl;rw[e2]at this;rw[this]
theorem getItem_tuple_cut{t sl:Addr}{items:Array Value}{vl vu:Value}{lo hi:Option Int}{Q:Value->Shared->Prop}(ht:IsTup s.heap t items)(hs:s.heap.IsSliceOf sl vl vu .none)(pl:IsPart vl lo)(pu:IsPart vu hi)
  (hw:¬ (sIx items.size 0 lo=0/\sIx items.size items.size hi=items.size))
  (h:Q (.ref s.heap.objs.size) { s with heap:=s.heap.push { cls:=.type "tuple",data:=.seq ((items.toList.drop (sIx items.size 0 lo)).take (sIx items.size items.size hi-sIx items.size 0 lo)).toArray } })
  (hsz:items.size<=sizeLine):wpAny (model prog w) A (getItem (.ref t) (.ref sl)) Q E s:=by
 have htake:sizeOk (.seq ((items.toList.drop (sIx items.size 0 lo)).take (sIx items.size items.size hi-sIx items.size 0 lo)).toArray):=by
  show ((items.toList.drop (sIx items.size 0 lo)).take (sIx items.size items.size hi-sIx items.size 0 lo)).toArray.size<=sizeLine;rw[wP,wl,wo,we];omega
 have hj:sIx items.size items.size hi<=items.size:=qFS _ _ (wG _) hi;obtain⟨os,hos,hcs,hds⟩:=id hs;have hTs:s.TypeIs (.ref sl) "slice":=⟨os,hos,hcs⟩
 unfold getItem
 try with_reducible refine wpAny_holding ?_
 first|refine uP (uQ ?_)|skip
 refine uP (wpAny_sequenceKey ht.typeIs (by decide) ?_);refine uP (wpAny_callSpecial?_slot (name:=Str.ofString "__getitem__") ht.typeIs PyProof.Rows.slot_tuple_getitem
  (wpAny_call_entry PyProof.Rows.slot_tuple_getitem ht.typeIs entry_tuple_getitem ?_ (args_tuple_getitem _ _)))
 show wpAny _ _ (Builtin.Tuple.tupleItemsOf (.ref t) >>=_) _ _ s;refine uP (tupleItemsOf_ ht ?_);refine uP (wpAny_typeOf hTs ?_);rw[if_pos (by decide)];refine uP (ZL hs pl pu ?_);have hno:¬ ((((sIx items.size 0 lo:Nat):Int)==0&&(1:Int)==1&&(sIx items.size items.size hi-sIx items.size 0 lo)==items.size)=true):=by
  intro q;rw[wF,wF]at q;have q1:((sIx items.size 0 lo:Nat):Int)=0:=eq_of_beq q.1.1;have q2:sIx items.size items.size hi-sIx items.size 0 lo=items.size:=eq_of_beq q.2;exact hw ⟨by omega,by omega⟩
 show wpAny _ _ (if (((sIx items.size 0 lo:Nat):Int)==0&&(1:Int)==1&&(sIx items.size items.size hi-sIx items.size 0 lo)==items.size)=true then _ else _) _ _ s;rw[if_neg hno,qBA]
 first
  |exact uP (m:=Builtin.Tuple.tupleExact _) (wpAny_newObj_type (uQ ⟨_,rfl,uQ h⟩) htake)
  |exact uP (m:=Builtin.Tuple.tupleExact _) (wpAny_newObj_type (uP (uQ (uQ ⟨_,rfl,uQ h⟩))) htake)
  |exact uP (uP (m:=Builtin.Tuple.tupleExact _) (wpAny_newObj_type (uQ (uQ ⟨_,rfl,uQ h⟩)) htake))
  |exact uP (uP (m:=Builtin.Tuple.tupleExact _) (wpAny_newObj_type (uQ ⟨_,rfl,uQ h⟩) htake))
end
end _H
namespace _L
open PySem PySem.Spec PyProof.Rows
noncomputable abbrev TO:=St->Hp->(Option Int->Hp->Prop)->Prop
def PO(X:Cx)(e:Option Expr)(t:TO):Prop:=
 ∀(pins:List (Addr×Obj)) (s:Shared) (σ:St) (H:Hp) (Q:Option Int->Hp->Prop),Inv X pins σ H s->t σ H Q ->
  wpAny (model X.prog X.w) X.A (evalPart e X.env) (λu s'=>∃o H',Inv X pins σ H' s'/\IsPart u o/\Q o H') X.xe s
noncomputable def qCG:TO:=λ_ H Q=>Q none H
noncomputable def qGP(t:TE):TO:=λσ H Q=>t σ H λx H1=>∃i,x=.int i/\Q (some i) H1
theorem intsAre_of{ns:List Int}:∀{us:List Value},Vals (ns.map V.int) us->IntsAre us ns:=by
 induction ns with
 |nil=>intro us r;rw[List.map_nil]at r;cases r;exact .nil
 |cons n ns ih=>
  intro us r;rw[List.map_cons]at r;cases r with
  |cons r1 r2=>
   obtain⟨t,e⟩:=r1;subst e;exact .cons n t (ih r2)
section
variable{X:Cx}{e:Expr}{te:TE}{lo hi:Option Expr}{tl th:TO}{pos p2:Pos}
theorem po_none:PO X none qCG:=by
 intro pins s σ H Q I h;rw[evalPart_none];exact uQ ⟨none,H,I,.none,h⟩
theorem po_some(h:PE X e te):PO X (some e) (qGP te):=by
 intro pins s σ H Q I hw;rw[evalPart_some];refine thn (h pins s σ H _ I hw) λu s1 ⟨x,H1,I1,r1,q1⟩=>?_;obtain⟨i,rfl,q⟩:=q1;obtain⟨t,rfl⟩:=r1;exact⟨some i,H1,I1,.int i t,q⟩
def SlR(X:Cx)(r:V->Option Int->Option Int->Hp->VK->Prop):Prop:=
 ∀(pins:List (Addr×Obj)) (s:Shared) (σ:St) (H:Hp) (x:V) (v vl vu:Value) (lo hi:Option Int) (sl:Addr) (Q:VK),Inv X pins σ H s->RelV x v->s.heap.IsSliceOf sl vl vu .none->IsPart vl lo->IsPart vu hi->r x lo hi H Q ->
  ∃T id,typeLookup (.type T) "__getitem__"=pure (some (.builtin id))/\s.TypeIs v T/\wpAny (model X.prog X.w) X.A (getItem v (.ref sl)) (EP X pins σ Q) X.xe s
theorem SlR.or{r r':V->Option Int->Option Int->Hp->VK->Prop}(h:SlR X r)(h':SlR X r'):SlR X (λx lo hi H Q=>r x lo hi H Q\/r' x lo hi H Q):=by
 intro pins s σ H x v vl vu lo hi sl Q I rx hs pl pu q;rcases q with q|q
 ·exact h pins s σ H x v vl vu lo hi sl Q I rx hs pl pu q
 ·exact h' pins s σ H x v vl vu lo hi sl Q I rx hs pl pu q
noncomputable def tSl(r:V->Option Int->Option Int->Hp->VK->Prop)(te:TE)(tl th:TO):TE:=λσ H Q=>te σ H λx H1=>tl σ H1 λl H2=>th σ H2 λu H3=>r x l u H3 Q
theorem pe_slice{r:V->Option Int->Option Int->Hp->VK->Prop}(hr:SlR X r)(he:PE X e te)(hl:PO X lo tl)(hu:PO X hi th):PE X (.Subscript e (.Slice lo hi none p2) pos) (tSl r te tl th):=by
 intro pins s σ H Q I h;refine Subscript_ (thn (he pins s σ H _ I h) λv s1 ⟨x,H1,I1,r1,q1⟩=>?_);refine wpAny_Slice (thn (hl pins s1 σ H1 _ I1 q1) λvl s2 ⟨l,H2,I2,pl,q2⟩=>thn (hu pins s2 σ H2 _ I2 q2) λvu s3 ⟨u,H3,I3,pu,q3⟩=>?_);rw[evalPart_none];refine uQ ?_;have I4:Inv X pins σ H3 { s3 with heap:=s3.heap.push { cls:=.type "slice",data:=.fields #[vl,vu,.none] } }:=I3.kept (t':=s3.toks) λb ob q=>Heap.get?_push_of_some _ q;obtain⟨T,id,hT,ht,hg⟩:=hr pins { s3 with heap:=s3.heap.push { cls:=.type "slice",data:=.fields #[vl,vu,.none] } } σ H3 x v vl vu l u s3.heap.objs.size Q I4 r1 (Heap.IsSliceOf.new ..) pl pu q3;show wpAny (model X.prog X.w) X.A (subscriptTail e (.Slice lo hi none p2) v (.ref s3.heap.objs.size)) (EP X pins σ Q) X.xe { s3 with heap:=s3.heap.push { cls:=.type "slice",data:=.fields #[vl,vu,.none] } };exact tail_any (ops:=[.ref s3.heap.objs.size,v]) ht hT hg (by with_unfolding_all rfl)
noncomputable def cutV(xs:List V)(lo hi:Option Int):List V:=(xs.drop (_H.sIx xs.length 0 lo)).take (_H.sIx xs.length xs.length hi-_H.sIx xs.length 0 lo)
theorem ZW(xs:List V)(lo hi:Option Int):(cutV xs lo hi).length<=xs.length:=by
 unfold cutV;rw[wl,wo];omega
def qIF(K:PySem.W.Frag):V->Option Int->Option Int->Hp->VK->Prop:=λx lo hi H Q=>∃a xs,x=.ref a/\SqT K H a xs/\
 ¬ (_H.sIx xs.length 0 lo=0/\_H.sIx xs.length xs.length hi=xs.length)/\∀p,H p=none->Q (.ref p) (upd H p (.tup (cutV xs lo hi)))
theorem sl_tup:SlR X (qIF X.K):=by
 intro pins s σ H x v vl vu lo hi sl Q I rx hs pl pu h;obtain⟨a,xs,rfl,hx,hw,q⟩:=h;cases rx;obtain⟨its,r,ht,hz⟩:=I.tuple hx;have hlen:its.toArray.size=xs.length:=by rw[wP];exact r.length.symm
 refine⟨"tuple",_,PyProof.Rows.slot_tuple_getitem.lookup,ht.typeIs,?_⟩;refine _H.getItem_tuple_cut ht hs pl pu (by rw[hlen];exact hw) ?_ (by rw[hlen];exact hz);rw[hlen];refine⟨.ref s.heap.objs.size,_,I.laid (t':=s.toks) (o:=.tup (cutV xs lo hi)) (λb ob q=>Heap.get?_push_of_some _ q) (wG _) ?_,rfl,q _ (I.hok.fresh (wG _))⟩;exact⟨wN (ZW xs lo hi) hz,_,(r.drop (_H.sIx xs.length 0 lo)).take (_H.sIx xs.length xs.length hi-_H.sIx xs.length 0 lo),IsTup.new _ _⟩
noncomputable def rCatT(K:PySem.W.Frag):R2:=λx y H Q=>∃a b xs ys,x=.ref a/\y=.ref b/\SqT K H a xs/\SqT K H b ys/\xs≠[]/\xs.length+ys.length<=sizeLine/\
 (ys=[]->Q (.ref a) H)/\(ys≠[]->∀p,H p=none->Q (.ref p) (upd H p (.tup (xs++ys))))
theorem Vals.nil_iff{xs:List V}{us:List Value}(r:Vals xs us):us=[]↔xs=[]:=by
 cases r with
 |nil=>simp
 |cons _ _=>simp
theorem op_catT:OpR X (binaryOp .Add) (rCatT X.K):=by
 intro pins s σ H x y v u Q I rx ry h;obtain⟨a,b,xs,ys,rfl,rfl,ha,hb,hx,hz,q1,q2⟩:=h;cases rx;cases ry;obtain⟨its,r1,p1,_⟩:=I.tuple ha;obtain⟨its2,r2,p2,_⟩:=I.tuple hb;refine _H.cat_tup p1 p2 (λz=>hx (r1.nil_iff.mp z)) (λz=>⟨.ref a,H,I,rfl,q1 (r2.nil_iff.mp z)⟩) (λz=>?_) (by rw[<-r1.length,<-r2.length];exact hz);refine⟨.ref s.heap.objs.size,_,I.laid (t':=s.toks) (o:=.tup (xs++ys)) (λb ob q=>Heap.get?_push_of_some _ q) (wG _) ?_,rfl,q2 (λw=>z (r2.nil_iff.mpr w)) _ (I.hok.fresh (wG _))⟩;exact⟨by rw[wY];exact hz,_,r1.append r2,IsTup.new _ _⟩
end
noncomputable def ixN(n:Nat)(i:Int):Option Nat:=if 0<=i then (if i<n then some i.toNat else none) else if -(n:Int)<=i then some (i+n).toNat else none
noncomputable def atI{α:Type}(xs:List α)(i:Int):Option α:=(ixN xs.length i).bind λj=>xs[j]?
theorem i4{n:Nat}{i:Int}{j:Nat}(h:ixN n i=some j):seqIndex? i n=some j/\j<n/\-(n:Int)<=i/\i<n:=by
 unfold ixN at h;by_cases h0:0<=i
 ·rw[if_pos h0]at h;by_cases h1:i<n
  ·rw[if_pos h1]at h;have e:i.toNat=j:=Option.some.inj h;exact⟨by rw[seqIndex_of h0 h1,e],by omega,by omega,h1⟩
  ·rw[if_neg h1]at h;cases h
 ·rw[if_neg h0]at h;by_cases h1:-(n:Int)<=i
  ·rw[if_pos h1]at h;have e:(i+n).toNat=j:=Option.some.inj h;exact⟨by rw[seqIndex_neg (by omega) h1,e],by omega,h1,by omega⟩
  ·rw[if_neg h1]at h;cases h
theorem j9{α:Type}{xs:List α}{i:Int}{v:α}(h:atI xs i=some v):∃j,seqIndex? i xs.length=some j/\xs[j]?=some v/\j<xs.length/\-(xs.length:Int)<=i/\i<xs.length:=by
 unfold atI at h;cases e:ixN xs.length i with
 |none=>rw[e]at h;cases h
 |some j=>
  rw[e]at h;obtain⟨h1,h2,h3,h4⟩:=i4 e;exact⟨j,h1,h,h2,h3,h4⟩
def PlainIx(b:Expr):Prop:=∀o i,subscripted b false o i=operate [o,i] (getItem o i)
def IxR(X:Cx)(r:R2):Prop:=
 ∀(value slice:Expr) (pins:List (Addr×Obj)) (s:Shared) (σ:St) (H:Hp) (x y:V) (v u:Value) (Q:VK),Inv X pins σ H s->RelV x v->RelV y u->r x y H Q ->
  subscripted slice false v u=operate [v,u] (getItem v u)->wpAny (model X.prog X.w) X.A (subscriptTail value slice v u) (EP X pins σ Q) X.xe s
def MtR(X:Cx)(id:String)(r:V->List V->Hp->VK->Prop):Prop:=
 ∀(pins:List (Addr×Obj)) (s:Shared) (σ:St) (H:Hp) (x:V) (xs:List V) (v:Value) (us:List Value) (Q:VK),Inv X pins σ H s->RelV x v->Vals xs us->r x xs H Q ->
  wpAny (model X.prog X.w) X.A (call (.builtin id) (v::us)) (EP X pins σ Q) X.xe s
section
variable{X:Cx}{a b:Expr}{ta tb:TE}{pos:Pos}
theorem IxR.or{r r':R2}(h:IxR X r)(h':IxR X r'):IxR X (λx y H Q=>r x y H Q\/r' x y H Q):=by
 intro value slice pins s σ H x y v u Q I rx ry q hs;rcases q with q|q
 ·exact h value slice pins s σ H x y v u Q I rx ry q hs
 ·exact h' value slice pins s σ H x y v u Q I rx ry q hs
theorem pe_ix{r:R2}(hr:IxR X r)(ha:PE X a ta)(hb:PE X b tb)(hs:PlainIx b):PE X (.Subscript a b pos) (tOp r ta tb):=by
 intro pins s σ H Q I h;exact Subscript_ (qx ha hb I h λv u s2 x y H2 I2 rx ry q=>hr a b pins s2 σ H2 x y v u Q I2 rx ry q (hs _ _))
noncomputable def qIk(K:PySem.W.Frag):R2:=λx y H Q=>∃p xs i v,x=.ref p/\y=.int i/\SqL K H p xs/\atI xs i=some v/\Q v H
noncomputable def qIK(K:PySem.W.Frag):R2:=λx y H Q=>∃p xs i v,x=.ref p/\y=.int i/\SqT K H p xs/\atI xs i=some v/\Q v H
theorem ix_list:IxR X (qIk X.K):=by
 intro value slice pins s σ H x y v u Q I rx ry h hs;obtain⟨p,xs,i,z,rfl,rfl,hq,he,q⟩:=h;cases rx;obtain⟨t,rfl⟩:=ry;obtain⟨its,r,pl,hz⟩:=I.list hq;obtain⟨j,h1,h2,h3,h4,h5⟩:=j9 he;obtain⟨w,ew,rw'⟩:=r.get h2;have hl:=r.length;have hn:=T3;have fin:EP X pins σ Q w s:=⟨z,H,I,rw',q⟩
 by_cases h0:0<=i
 ·have hj:i.toNat=j:=by
   rw[seqIndex_of h0 h5]at h1;exact Option.some.inj h1
  exact item_listR pl.isList h0 (by omega) (by rw[hj];simpa using ew) fin hs
 ·have hj:(i+(its.toArray.size:Int)).toNat=j:=by
   rw[seqIndex_neg (by omega) h4]at h1;rw[wP,<-hl];exact Option.some.inj h1
  exact subscriptTail_builtinR (x:=w) pl.isList.typeIs slot_list_getitem.lookup
   (wpAny_getItem_list_neg (Q:=λr s'=>r=w/\EP X pins σ Q r s') pl.isList (by omega) (by rw[wP]<;>omega) (by omega) (by rw[hj];simpa using ew) ⟨rfl,fin⟩) hs
theorem ix_tup:IxR X (qIK X.K):=by
 intro value slice pins s σ H x y v u Q I rx ry h hs;obtain⟨p,xs,i,z,rfl,rfl,hq,he,q⟩:=h;cases rx;obtain⟨t,rfl⟩:=ry;obtain⟨its,r,pl,hz⟩:=I.tuple hq;obtain⟨j,h1,h2,h3,h4,h5⟩:=j9 he;obtain⟨w,ew,rw'⟩:=r.get h2;have hl:=r.length;have hn:=T3;have fin:EP X pins σ Q w s:=⟨z,H,I,rw',q⟩
 exact subscriptTail_builtinR (x:=w) pl.typeIs slot_tuple_getitem.lookup
  (getItem_tuple (j:=j) (Q:=λr s'=>r=w/\EP X pins σ Q r s') pl (by omega) (by omega) (by rw[wP,<-hl];exact h1) (by simpa using ew) ⟨rfl,fin⟩) hs
theorem V8(its:List Value)(n j:Nat)(u:Value):Obj.mapSeq (·.setIfInBounds j u) { cls:=.type "list",data:=.seq its.toArray n }={ cls:=.type "list",data:=.seq (its.set j u).toArray n }:=by
 simp[Obj.mapSeq]
theorem Inv.lst{pins:List (Addr×Obj)}{σ:St}{H:Hp}{s:Shared}{p:Addr}{xs:List V}(I:Inv X pins σ H s)(h:H p=some (.lst xs)):
  ∃(its:List Value) (n:Nat),Vals xs its/\s.heap.get? p=some { cls:=.type "list",data:=.seq its.toArray n }/\xs.length<=sizeLine:=by
 obtain⟨z,its,n,r,e⟩:=I.hok p _ h;exact⟨its,n,r,e,z⟩
theorem Inv.lstUpd{pins:List (Addr×Obj)}{σ:St}{H:Hp}{s:Shared}{p:Addr}{xs ys:List V}{its its':List Value}{n n':Nat}{f:Obj->Obj}(I:Inv X pins σ H s)(h:H p=some (.lst xs))
  (ho:s.heap.get? p=some { cls:=.type "list",data:=.seq its.toArray n }) (hf:f { cls:=.type "list",data:=.seq its.toArray n }={ cls:=.type "list",data:=.seq its'.toArray n' }) (r:Vals ys its') (hz:ys.length<=sizeLine) (t:Nat):
  Inv X pins σ (upd H p (.lst ys)) { s with heap:=s.heap.update p f,toks:=t }:=by
 have e:(s.heap.update p f).get? p=some { cls:=.type "list",data:=.seq its'.toArray n' }:=by
  rw[Heap.get?_update_self f ho (by rw[hf]<;>rfl),hf]
 refine I.write (x:=p) (e:=p) (by rw[h];trivial) (.inl rfl) (λb u hb q=>(Heap.get?_update_other _ _ (Ne.symm hb)).trans q) ⟨_,e⟩ ?_;exact⟨hz,its',n',r,e⟩
def rSetL:V->V->V->Hp->(Hp->Prop)->Prop:=λo i v H Q=>∃p xs k j,o=.ref p/\i=.int k/\H p=some (.lst xs)/\ixN xs.length k=some j/\Q (upd H p (.lst (xs.set j v)))
theorem set_list:PSet X rSetL:=by
 intro pins s σ H o i v ov iv u Q I ro ri rv h;obtain⟨p,xs,k,j,rfl,rfl,hp,hj,q⟩:=h;cases ro;obtain⟨t,rfl⟩:=ri;obtain⟨its,n,r,ho,hz⟩:=I.lst hp;obtain⟨h1,h2,h3,h4⟩:=i4 hj;have hl:=r.length;have hn:=T3;have I':Inv X pins σ (upd H p (.lst (xs.set j v))) { s with heap:=s.heap.update p (Obj.mapSeq (·.setIfInBounds j u)) }:=
  I.lstUpd hp ho (V8 its n j u) (r.set rv j) (by rw[List.length_set];exact hz) s.toks
 by_cases h0:0<=k
 ·have hk:k.toNat=j:=by
   rw[seqIndex_of h0 h4]at h1;exact Option.some.inj h1
  exact PySem.W.ki_setAt ho h0 (by omega) (by rw[wP,<-hl];exact h4) (by rw[hk];exact⟨_,I',q⟩)
 ·have hk:(k+(its.toArray.size:Int)).toNat=j:=by
   rw[seqIndex_neg (by omega) h3]at h1;rw[wP,<-hl];exact Option.some.inj h1
  exact PySem.W.ki_setBack ho (by omega) (by rw[wP,<-hl];exact h3) (by omega) (by rw[hk];exact⟨_,I',q⟩)
theorem F6(lo hi:Option Int)(n:Nat):(sliceBounds lo hi none n).1=((_H.sIx n 0 lo:Nat):Int)/\(sliceBounds lo hi none n).2.1=((_H.sIx n n hi:Nat):Int)/\(sliceBounds lo hi none n).2.2=1:=by
 refine⟨?_,?_,rfl⟩
 ·cases lo with
  |none=>simp[sliceBounds,_H.sIx]
  |some i=>
   simp only[sliceBounds,_H.sIx,Option.getD_none,show (1:Int)>0 by decide,if_true];by_cases h:i<0
   ·simp only[h,if_true]<;>omega
   ·simp only[h,if_false]<;>omega
 ·cases hi with
  |none=>simp[sliceBounds,_H.sIx]
  |some i=>
   simp only[sliceBounds,_H.sIx,Option.getD_none,show (1:Int)>0 by decide,if_true];by_cases h:i<0
   ·simp only[h,if_true]<;>omega
   ·simp only[h,if_false]<;>omega
theorem A0(its:List Value)(lo hi:Option Int):slicePick its.toArray lo hi none=((its.drop (_H.sIx its.length 0 lo)).take (_H.sIx its.length its.length hi-_H.sIx its.length 0 lo)).toArray:=by
 obtain⟨h1,h2,h3⟩:=F6 lo hi its.toArray.size;unfold slicePick;rw[h1,h2,h3];simp only[sliceRange_one,pick_run,wP]<;>rfl
def qIr(K:PySem.W.Frag):V->Option Int->Option Int->Hp->VK->Prop:=λx lo hi H Q=>∃a xs,x=.ref a/\SqL K H a xs/\∀p,H p=none->Q (.ref p) (upd H p (.lst (cutV xs lo hi)))
theorem sl_list:SlR X (qIr X.K):=by
 intro pins s σ H x v vl vu lo hi sl Q I rx hs pl pu h;obtain⟨a,xs,rfl,hx,q⟩:=h;cases rx;obtain⟨its,r,ht,hz⟩:=I.list hx;have hlen:=r.length;refine⟨"list",_,slot_list_getitem.lookup,ht.isList.typeIs,?_⟩;refine wpAny_getItem_list_slice ht.isList hs pl pu .none (by simp) ?_ (by rw[wP]<;>omega);rw[A0,<-hlen];refine⟨.ref s.heap.objs.size,_,I.laid (t':=s.toks) (o:=.lst (cutV xs lo hi)) (λb ob q=>Heap.get?_push_of_some _ q) (wG _) ?_,rfl,q _ (I.hok.fresh (wG _))⟩;exact⟨wN (ZW xs lo hi) hz,_,0,(r.drop (_H.sIx xs.length 0 lo)).take (_H.sIx xs.length xs.length hi-_H.sIx xs.length 0 lo),Heap.get?_push_size _ rfl⟩
noncomputable def flatV:V->Bool
 | .non=>true
 | .bl _=>true
 | .int _=>true
 | .str _=>true
 |_=>false
noncomputable def eqV:V->V->Bool
 | .non,.non=>true
 | .bl a,.bl b=>a==b
 | .bl a,.int b=>(if a then 1 else 0)==b
 | .int a,.bl b=>a==(if b then 1 else 0)
 | .int a,.int b=>a==b
 | .str a,.str b=>a==b
 |_,_=>false
theorem qEZ{A:Around}{s:Shared}{y x:V}{u v:Value}(ry:RelV y u)(rx:RelV x v)(fy:flatV y=true)(fx:flatV x=true):SeqAt.EqAt A s u v (eqV y x):=by
 cases y with
 |non=>
  cases ry;cases x with
  |non=>cases rx;exact SeqAt.EqAt.same _
  |bl b=>cases rx;exact SeqAt.EqAt.none_bool b
  |int b=>obtain⟨t,rfl⟩:=rx;exact SeqAt.EqAt.none_int b t
  |str b=>obtain⟨t,rfl⟩:=rx;exact SeqAt.EqAt.none_str b t
  |_=>exact absurd (show false=true from fx) wa
 |bl a=>
  cases ry;cases x with
  |non=>cases rx;exact SeqAt.EqAt.bool_none a
  |bl b=>cases rx;exact SeqAt.EqAt.bool_bool a b
  |int b=>obtain⟨t,rfl⟩:=rx;exact SeqAt.EqAt.bool_int a b t
  |str b=>obtain⟨t,rfl⟩:=rx;exact SeqAt.EqAt.bool_str a b t
  |_=>exact absurd (show false=true from fx) wa
 |int a=>
  obtain⟨t',rfl⟩:=ry;cases x with
  |non=>cases rx;exact SeqAt.EqAt.int_none a t'
  |bl b=>cases rx;exact SeqAt.EqAt.int_bool a t' b
  |int b=>obtain⟨t,rfl⟩:=rx;exact SeqAt.EqAt.int_int a t' b t
  |str b=>obtain⟨t,rfl⟩:=rx;exact SeqAt.EqAt.int_str a t' b t
  |_=>exact absurd (show false=true from fx) wa
 |str a=>
  obtain⟨t',rfl⟩:=ry;cases x with
  |non=>cases rx;exact SeqAt.EqAt.str_none a t'
  |bl b=>cases rx;exact SeqAt.EqAt.str_bool a t' b
  |int b=>obtain⟨t,rfl⟩:=rx;exact SeqAt.EqAt.str_int a t' b t
  |str b=>obtain⟨t,rfl⟩:=rx;exact SeqAt.EqAt.str_str a t' b t
  |_=>exact absurd (show false=true from fx) wa
 |_=>exact absurd (show false=true from fy) wa
noncomputable def eqU(x:V)(u:Value):Bool:=match u with
 | .none=>eqV .non x
 | .bool b=>eqV (.bl b) x
 | .int i _=>eqV (.int i) x
 | .str z _=>eqV (.str z) x
 |_=>false
theorem qBc{x y:V}{u:Value}(r:RelV y u)(f:flatV y=true):eqU x u=eqV y x:=by
 cases y with
 |non=>cases r;rfl
 |bl b=>cases r;rfl
 |int i=>obtain⟨t,rfl⟩:=r;rfl
 |str z=>obtain⟨t,rfl⟩:=r;rfl
 |_=>exact absurd (show false=true from f) wa
theorem Zg{x:V}:∀{xs:List V}{us:List Value},Vals xs us->xs.all flatV=true->us.any (eqU x)=xs.any λy=>eqV y x
 |_,_,.nil,_=>rfl
 |y::xs,u::us,.cons r t,f=>by
  rw[List.all_cons,wF]at f;rw[List.any_cons,List.any_cons,qBc r f.1,Zg t f.2]
theorem QU{A:Around}{s:Shared}{x:V}{v:Value}(rx:RelV x v)(fx:flatV x=true):∀{xs:List V}{us:List Value},Vals xs us->xs.all flatV=true->∀u∈us,SeqAt.EqAt A s u v (eqU x u)
 |_,_,.nil,_=>λu hu=>by cases hu
 |y::xs,u::us,.cons r t,f=>λu' hu=>by
  rw[List.all_cons,wF]at f;rcases wI.mp hu with rfl|hu
  ·rw[qBc r f.1];exact qEZ r rx f.1 fx
  ·exact QU rx fx t f.2 u' hu
noncomputable def inV(x:V)(xs:List V):Bool:=xs.any λy=>eqV y x
noncomputable def rIn(K:PySem.W.Frag)(neg:Bool):R2:=λx y H Q=>∃p xs,y=.ref p/\(SqL K H p xs\/SqT K H p xs)/\flatV x=true/\xs.all flatV=true/\Q (.bl (if neg then !inV x xs else inV x xs)) H
theorem op_in_seq:OpR X (compareOp .In) (rIn X.K false):=by
 intro pins s σ H x y v u Q I rx ry h;obtain⟨p,xs,rfl,hq,fx,fs,q⟩:=h;cases ry;rcases hq with hq|hq
 ·obtain⟨its,r,pl,hz⟩:=I.list hq;refine SeqAt.in_listAt (eqU x) pl.isList (λw hw=>QU rx fx r fs w (by simpa using hw)) ⟨.bl _,H,I,rfl,?_⟩;rw[show its.toArray.any (eqU x)=its.any (eqU x) by simp,Zg r fs];exact q
 ·obtain⟨its,r,pl,hz⟩:=I.tuple hq;refine SeqAt.in_tupleAt (eqU x) pl (λw hw=>QU rx fx r fs w (by simpa using hw)) ⟨.bl _,H,I,rfl,?_⟩;rw[show its.toArray.any (eqU x)=its.any (eqU x) by simp,Zg r fs];exact q
theorem op_notIn_seq:OpR X (compareOp .NotIn) (rIn X.K true):=by
 intro pins s σ H x y v u Q I rx ry h;obtain⟨p,xs,rfl,hq,fx,fs,q⟩:=h;cases ry;rcases hq with hq|hq
 ·obtain⟨its,r,pl,hz⟩:=I.list hq;refine SeqAt.notIn_listAt (eqU x) pl.isList (λw hw=>QU rx fx r fs w (by simpa using hw)) ⟨.bl _,H,I,rfl,?_⟩;rw[show its.toArray.any (eqU x)=its.any (eqU x) by simp,Zg r fs];exact q
 ·obtain⟨its,r,pl,hz⟩:=I.tuple hq;refine SeqAt.notIn_tupleAt (eqU x) pl (λw hw=>QU rx fx r fs w (by simpa using hw)) ⟨.bl _,H,I,rfl,?_⟩;rw[show its.toArray.any (eqU x)=its.any (eqU x) by simp,Zg r fs];exact q
theorem call_len_seq:zI X (.builtin "len") (λxs H Q=>∃p ys,xs=[.ref p]/\(SqL X.K H p ys\/SqT X.K H p ys)/\Q (.int ys.length) H):=by
 intro pins s σ H xs us Q I r h;obtain⟨p,ys,rfl,hq,q⟩:=h;obtain⟨u,rfl,rx⟩:=vals1 r;cases rx;have hn:=T3;rcases hq with hq|hq
 ·obtain⟨its,r',pl,hz⟩:=I.list hq;have hlen:=r'.length;exact Calls.call_len_list pl.isList (by simp only[wP]<;>omega) ⟨.int ys.length,H,I.tok _,⟨s.toks+1,by rw[wP,hlen]⟩,q⟩
 ·obtain⟨its,r',pl,hz⟩:=I.tuple hq;have hlen:=r'.length;exact len_tuple pl (by simp only[wP]<;>omega) ⟨.int ys.length,H,I.tok _,⟨s.toks+1,by rw[wP,hlen]⟩,q⟩
theorem call_list_of:zI X (.type "list") (λxs H Q=>∃p ys,xs=[.ref p]/\(SqL X.K H p ys\/SqT X.K H p ys)/\∀l,H l=none->Q (.ref l) (upd H l (.lst ys))):=by
 intro pins s σ H xs us Q I r h;obtain⟨p,ys,rfl,hq,q⟩:=h;obtain⟨u,rfl,rx⟩:=vals1 r;cases rx;have fin:∀(its:List Value),Vals ys its->ys.length<=sizeLine->∀(h':Heap) (c':Nat),(∀b o',s.heap.get? b=some o'->h'.get? b=some o') ->
   h'.get? s.heap.objs.size=some { cls:=.type "list",dict:=none,data:=.seq its.toArray c',slots:=#[] }->EP X pins σ Q (.ref s.heap.objs.size) { s with heap:=h' }:=λits r' hz h' c' kp e=>
  ⟨.ref s.heap.objs.size,_,I.laid (t':=s.toks) kp (wG _) (show ObjOk X.prog X.w _ h' _ (.lst ys) from⟨hz,its,c',r',e⟩),rfl,q _ (I.hok.fresh (wG _))⟩
 rcases hq with hq|hq
 ·obtain⟨its,r',pl,hz⟩:=I.list hq;have hlen:=r'.length;obtain⟨o,ho,hc,n,hd⟩:=pl.isList;exact call_list_seq p (.inl rfl) ho hc hd (λh' c' kp e=>fin its r' hz h' c' kp e) (by simp only[wP]<;>omega)
 ·obtain⟨its,r',pl,hz⟩:=I.tuple hq;have hlen:=r'.length;obtain⟨o,ho,hc,n,hd⟩:=pl;exact call_list_seq p (.inr rfl) ho hc hd (λh' c' kp e=>fin its r' hz h' c' kp e) (by simp only[wP]<;>omega)
def tyV(K:PySem.W.Frag)(T:String)(x:V)(H:Hp):Prop:=match x with
 | .str _=>T="str"
 | .int _=>T="int"
 | .ref p=>(T="list"/\∃xs,SqL K H p xs)\/(T="tuple"/\∃o,K.lookup p=some o/\o.cls=.type "tuple"/\o.dict=none)\/
   (T="dict"/\((∃kvs,H p=some (.dK kvs))\/∃kvs,H p=some (.dT kvs)))\/(T="set"/\∃S n,H p=some (.set S n))
 |_=>False
theorem qBr{pins:List (Addr×Obj)}{σ:St}{H:Hp}{s:Shared}{T:String}{x:V}{v:Value}(I:Inv X pins σ H s)(r:RelV x v)(ty:tyV X.K T x H):
  s.TypeIs v T/\∀a,v=.ref a->∃ob,s.heap.get? a=some ob/\ob.dict=none:=by
 cases x with
 |str z=>
  obtain⟨t,rfl⟩:=r;cases (show T="str" from ty);exact⟨typeIs_str s z t,λ_ e=>nomatch e⟩
 |int i=>
  obtain⟨t,rfl⟩:=r;cases (show T="int" from ty);exact⟨typeIs_int s i t,λ_ e=>nomatch e⟩
 |ref p=>
  cases r;rcases ty with⟨rfl,xs,hq⟩|⟨rfl,o,hk,hc,hd⟩|⟨rfl,hk⟩|⟨rfl,S,n,hk⟩
  ·obtain⟨its,_,pl,_⟩:=I.list hq;refine⟨pl.isList.typeIs,λa e=>?_⟩;cases e;obtain⟨o,n,e,c,hd,_⟩:=pl;exact⟨o,e,hd⟩
  ·refine⟨⟨o,I.kIn p o hk,hc⟩,λa e=>?_⟩;cases e;exact⟨o,I.kIn _ o hk,hd⟩
  ·have z:∃o,s.heap.get? p=some o/\o.ExactDict:=by
    rcases hk with⟨kvs,hk⟩|⟨kvs,hk⟩
    ·obtain⟨_,_,_,_,o,_,_,e,ex,_⟩:=I.hok p _ hk;exact⟨o,e,ex⟩
    ·obtain⟨_,_,_,_,o,_,_,e,ex,_⟩:=I.hok p _ hk;exact⟨o,e,ex⟩
   obtain⟨o,e,ex⟩:=z;refine⟨⟨o,e,ex.1⟩,λa e2=>?_⟩;cases e2;exact⟨o,e,ex.2.1⟩
  ·obtain⟨o,_,_,_,e,ex,_⟩:=I.hok p _ hk;refine⟨⟨o,e,ex.1⟩,λa e2=>?_⟩;cases e2;exact⟨o,e,ex.2.1⟩
 |_=>exact False.elim ty
noncomputable def qIB(K:PySem.W.Frag)(T:String)(r:V->List V->Hp->VK->Prop)(to:TE):TE:=λσ H Q=>to σ H λx H1=>tyV K T x H1/\r x [] H1 Q
noncomputable def tBM(K:PySem.W.Frag)(T:String)(r:V->List V->Hp->VK->Prop)(to:TE)(t:TA):TE:=λσ H Q=>to σ H λx H1=>tyV K T x H1/\t σ H1 λxs H2=>r x xs H2 Q
variable{o e:Expr}{es:List Expr}{to:TE}{t:TA}{name:Str}{apos cpos:Pos}{T id:String}{r:V->List V->Hp->VK->Prop}
theorem pe_bm0(pa:PlainAttrs T)(slot:Slot T name id)(hty:typeOf (.builtin id)=pure (.type "method_descriptor"))(hm:MtR X id r)(ho:PE X o to)
  (hbase:attributeBase o name X.env (eval o X.env)=eval o X.env:=by rfl) (hline:(apos.endLine==cpos.line)=true:=by rfl):PE X (.Call (.Attribute o name apos) [] [] cpos) (qIB X.K T r to):=by
 intro pins s σ H Q I h;refine wpAny_Call_method0_late hbase hline (thn (ho pins s σ H _ I h) λv s1 ⟨x,H1,I1,r1,ty,q1⟩=>?_);obtain⟨h1,h2⟩:=qBr I1 r1 ty;exact⟨T,id,pa,slot,hty,h1,h2,Calls.callWith_builtin rfl (PySem.evalArgs_none (hm pins s1 σ H1 x [] v [] Q I1 r1 .nil q1))⟩
theorem pe_bm(pa:PlainAttrs T)(slot:Slot T name id)(hty:typeOf (.builtin id)=pure (.type "method_descriptor"))(hm:MtR X id r)(ho:PE X o to)(ha:PA X (e::es) t)
  (hbase:attributeBase o name X.env (eval o X.env)=eval o X.env:=by rfl)
  (hfew:((backTo cpos (starEach (e::es) X.env)).all (λx=>!x.1)&&(backToKw cpos (keywordEach [] X.env)).all (λx=>x.1.isSome)
   && decide ((e::es).length+([]:List Keyword).length+(if ([]:List Keyword).isEmpty then 0 else 1)<30))=true:=by rfl)
  (hline:(apos.endLine==cpos.line)=true:=by rfl) (hs:starEach (e::es) X.env=(false,eval e X.env)::starEach es X.env:=by rfl) (hplain:(backTo cpos (starEach es X.env)).any (·.1)=false:=by rfl):
  PE X (.Call (.Attribute o name apos) (e::es) [] cpos) (tBM X.K T r to t):=by
 intro pins s σ H Q I h;refine wpAny_Call_method_late hbase hfew hline rfl (thn (ho pins s σ H _ I h) λv s1 ⟨x,H1,I1,r1,ty,q1⟩=>?_);obtain⟨h1,h2⟩:=qBr I1 r1 ty;refine⟨T,id,pa,slot,hty,h1,h2,?_⟩;have hA:=ha cpos pins s1 σ H1 _ I1 q1;rw[hs]at hA ⊢;refine Calls.callWith_builtin (by show (false||(backTo cpos (starEach es X.env)).any (·.1))=false;rw[hplain]<;>rfl) (Calls.evalArgs_plain ?_);exact thn hA λus s2 ⟨vs,H2,I2,r2,q2⟩=>hm pins s2 σ H2 x vs v us Q I2 r1 r2 q2
end
def MtM(X:Cx)(id:String)(r:V->List V->Hp->VK->Prop):Prop:=
 ∀(pins:List (Addr×Obj)) (s:Shared) (σ:St) (H:Hp) (x:V) (xs:List V) (v:Value) (us:List Value) (Q:VK),Inv X pins σ H s->RelV x v->Vals xs us->r x xs H Q ->
  wpAny (model X.prog X.w) X.A (call (.builtin id) (v::us)) (EP X pins σ Q) X.xe s
theorem Vals.one:∀{x:V}{us:List Value},Vals [x] us->∃u,us=[u]/\RelV x u
 |_,_,.cons r .nil=>⟨_,rfl,r⟩
theorem Vals.zero:∀{us:List Value},Vals [] us->us=[]
 |_,.nil=>rfl
theorem Vals.dropLast{xs:List V}{us:List Value}(h:Vals xs us):Vals xs.dropLast us.dropLast:=by
 induction h with
 |nil=>exact .nil
 |cons r t ih=>
  cases t with
  |nil=>exact .nil
  |cons q t'=>exact .cons r ih
theorem Vals.eraseIdx:∀{xs:List V}{us:List Value}(i:Nat),Vals xs us->Vals (xs.eraseIdx i) (us.eraseIdx i)
 |_,_,_,.nil=>.nil
 |_,_,0,.cons _ t=>t
 |_,_,i+1,.cons r t=>.cons r (Vals.eraseIdx i t)
theorem Vals.reverse{xs:List V}{us:List Value}(h:Vals xs us):Vals xs.reverse us.reverse:=by
 induction h with
 |nil=>exact .nil
 |cons r t ih=>rw[vY,vY];exact Vals.append ih (.cons r .nil)
theorem Vals.rep{xs:List V}{us:List Value}(h:Vals xs us):∀k:Nat,Vals (List.replicate k xs).flatten (List.replicate k us).flatten
 | 0=>.nil
 |k+1=>by
  rw[List.replicate_succ,List.replicate_succ,List.flatten_cons,List.flatten_cons];exact Vals.append h (Vals.rep h k)
theorem E6(its:List Value):∀(k:Nat) (acc:List Value),
  List.foldl (λx1 x2=>x1++x2) acc.toArray (List.replicate k its.toArray)=(acc++(List.replicate k its).flatten).toArray
 | 0,acc=>by simp
 |k+1,acc=>by
  have e:acc.toArray++its.toArray=(acc++its).toArray:=by simp
  have e2:(acc++its)++(List.replicate k its).flatten=acc++(List.replicate (k+1) its).flatten:=by
   rw[List.replicate_succ,List.flatten_cons,wu]
  rw[<-e2,<-E6 its k (acc++its),<-e,List.replicate_succ,List.foldl_cons]
section
variable{X:Cx}{pins:List (Addr×Obj)}{σ:St}{H:Hp}{s:Shared}{l b:Addr}{xs ys zs:List V}
theorem Inv.lset{its its':List Value}{n:Nat}{f:Array Value->Array Value}{t':Nat}(I:Inv X pins σ H s)(hH:H l=some (.lst xs))
  (e:s.heap.get? l=some { cls:=.type "list",data:=.seq its.toArray n }) (hf:f its.toArray=its'.toArray) (hv:Vals ys its') (hz:ys.length<=sizeLine):
  Inv X pins σ (upd H l (.lst ys)) { s with heap:=s.heap.update l (Obj.mapSeq f),toks:=t' }:=by
 have q:=PySem.IsL.update e f;rw[hf]at q;refine I.write (x:=l) (e:=l) (by rw[hH];exact trivial) (.inl rfl) (λb' u hb hu=>(Heap.get?_update_other s.heap (Obj.mapSeq f) (Ne.symm hb)).trans hu) ⟨_,q⟩ ?_;exact⟨hz,its',_,hv,q⟩
theorem Inv.lnew{its:List Value}{t':Nat}(I:Inv X pins σ H s)(hv:Vals ys its)(hz:ys.length<=sizeLine):
  Inv X pins σ (upd H s.heap.objs.size (.lst ys)) { s with heap:=s.heap.push { cls:=.type "list",data:=.seq its.toArray },toks:=t' }:=
 I.laid (λ_ _ q=>Heap.get?_push_of_some _ q) (wG _) ⟨hz,its,0,hv,Heap.get?_push_size _ rfl⟩
theorem Inv.fresh(I:Inv X pins σ H s):H s.heap.objs.size=none:=I.hok.fresh (wG _)
theorem Inv.lstM(I:Inv X pins σ H s)(hH:H l=some (.lst xs)):xs.length<=sizeLine/\∃(its:List Value) (n:Nat),Vals xs its/\xs.length=its.length/\s.heap.get? l=some { cls:=.type "list",data:=.seq its.toArray n }:=by
 obtain⟨z,its,n,r,e⟩:=I.hok l _ hH;exact⟨z,its,n,r,r.length,e⟩
theorem qAk{n:Nat}(h:n<=sizeLine):Builtin.List.listTooLong n=false:=by
 unfold Builtin.List.listTooLong;exact uR (by omega)
end
section
variable{X:Cx}
def qC7:V->List V->Hp->VK->Prop:=λx vs H Q=>∃l xs y,x=.ref l/\vs=[y]/\H l=some (.lst xs)/\xs.length<sizeLine/\Q .non (upd H l (.lst (xs++[y])))
theorem mt_append:MtM X "list.append" qC7:=by
 intro pins s σ H x vs v us Q I rx rv h;obtain⟨l,xs,y,rfl,rfl,hH,hz,q⟩:=h;cases rx;obtain⟨u,rfl,ru⟩:=rv.one;obtain⟨z,its,n,r,hl,e⟩:=I.lstM hH;refine call_meets F.slot_list_append ⟨_,e,rfl⟩ F.entry_list_append (F.args_list_append_2 _ _) (PySem.list_append l its.toArray n u (by rw[wP];omega)) ⟨e,?_⟩;refine⟨.non,_,I.lset (its':=its++[u]) hH e (by simp) (r.append (.cons ru .nil)) ?_,rfl,q⟩;rw[wY,List.length_singleton];omega
noncomputable def rCat:R2:=λx y H Q=>∃l b xs zs,x=.ref l/\y=.ref b/\H l=some (.lst xs)/\H b=some (.lst zs)/\xs.length+zs.length<=sizeLine/\∀p,H p=none->Q (.ref p) (upd H p (.lst (xs++zs)))
theorem op_cat:OpR X (binaryOp .Add) rCat:=by
 intro pins s σ H x y v u Q I rx ry h;obtain⟨l,b,xs,zs,rfl,rfl,hH,hB,hz,q⟩:=h;cases rx;cases ry;obtain⟨z,its,n,r,hl,e⟩:=I.lstM hH;obtain⟨z2,its2,n2,r2,hl2,e2⟩:=I.lstM hB;refine PySem.P.add_list e e2 ?_ (by rw[wP,wP];omega);have ea:its.toArray++its2.toArray=(its++its2).toArray:=by simp
 rw[ea];exact⟨.ref _,_,I.lnew (t':=s.toks) (r.append r2) (by rw[wY];omega),rfl,q _ I.fresh⟩
noncomputable def rRep:R2:=λx y H Q=>∃l k xs,x=.ref l/\y=.int k/\H l=some (.lst xs)/\-(2 ^ 63)<=k/\k<2 ^ 63/\xs.length*k.toNat<=sizeLine/\
 ∀p,H p=none->Q (.ref p) (upd H p (.lst (List.replicate k.toNat xs).flatten))
theorem qCr{α:Type}(xs:List α)(k:Nat):(List.replicate k xs).flatten.length=k*xs.length:=by
 induction k with
 |zero=>simp
 |succ k ih=>rw[List.replicate_succ,List.flatten_cons,wY,ih,Nat.succ_mul,uM]
theorem op_rep:OpR X (binaryOp .Mult) rRep:=by
 intro pins s σ H x y v u Q I rx ry h;obtain⟨l,k,xs,rfl,rfl,hH,h1,h2,hz,q⟩:=h;cases rx;obtain⟨t,rfl⟩:=ry;obtain⟨z,its,n,r,hl,e⟩:=I.lstM hH;have hlen:its.toArray.size*k.toNat<=sizeLine:=by rw[wP,<-hl];exact hz
 have hcap:¬ its.toArray.size*k.toNat>(2 ^ 63-1) / 8:=by
  have:(sizeLine:Nat)<=(2 ^ 63-1) / 8:=by decide
  omega
 have hfit:¬ (!Builtin.List.listFitsIndex k)=true:=by
  rw[fitsIndex_both h1 h2];exact wa
 have hlong:¬ Builtin.List.listTooLong (its.toArray.size*k.toNat)=true:=by
  rw[qAk hlen];exact wa
 have hnew:List.foldl (λx1 x2=>x1++x2) #[] (List.replicate (if its.toArray.isEmpty=true then 0 else k.toNat) its.toArray)=(List.replicate k.toNat its).flatten.toArray:=by
  have f0:∀m:Nat,List.foldl (λx1 x2=>x1++x2) #[] (List.replicate m its.toArray)=(List.replicate m its).flatten.toArray:=λm=>by
   have:=E6 its m [];rw[List.nil_append]at this;exact this
  rw[f0];cases its with
  |nil=>simp
  |cons a r'=>rw[if_neg (by simp)]
 refine wpAny_binaryOp_repeat_ref (T:="list") (U:="int") (by decide) ⟨_,e,rfl⟩ (λs'=>typeIs_int s' k t) noFill_list_mul F.fills_int_mul F.slot_int_rmul repeat_list F.slot_int_index.lookup
  (call_meets F.slot_int_rmul (typeIs_int s k t) F.entry_int_rmul (F.args_int_rmul_2 _ _) (int___rmul___int_list k t l its.toArray n)
   ⟨e,rfl,⟨_,e,rfl⟩,call_meets F.slot_list_mul ⟨_,e,rfl⟩ F.entry_list_mul (F.args_list_mul_2 _ _) (AutoListH.list___mul___list_int_3 l its.toArray n k t hfit hcap hlong) ⟨e,?_⟩⟩)
 rw[hnew];exact⟨.ref _,_,I.lnew (t':=s.toks) (r.rep k.toNat) (by rw[qCr,Nat.mul_comm];exact hz),rfl,q _ I.fresh⟩
end
end _L
namespace Att
open PySem PySem.W PySem.Calls PyProof.Rows
theorem Zn{P:Params}{h:Heap}:∀(ns:List Int) (vs:List Value),WellAll P h vs (ns.map WData.int)->IntsAre vs ns:=by
 intro ns
 induction ns with
 |nil=>
  intro vs w;rw[List.map_nil]at w;cases w;exact .nil
 |cons n ns ih=>
  intro vs w;rw[List.map_cons]at w;cases w with
  |cons a b=>
   cases a;exact .cons _ _ (ih _ b)
theorem m5{l:OpenLaw}{n:Nat}(hn:l.most=some n){P:Params}{h:Heap}{args:List WData}{vals:List Value}
  (hpre:l.row.toRowW.claim.pre args=true) (hwl:WellAll P h vals args):
  ∃a vs ns,vals=[Value.ref a]/\args=[WData.list (ns.map WData.int)]/\h.get? a=some { cls:=.type "list",data:=.seq vs.toArray }/\IntsAre vs ns/\ns.length<=n:=by
 have hsh:WShape.hasAll [] args [.list .int]=true:=(pre_splitW hpre).1;have hc:l.pre.holds [] { args:=args }=true:=(pre_splitW hpre).2;obtain⟨d,r,rfl,h1,h2⟩:=hasAllW_cons hsh;obtain rfl:=hasAllW_nil h2;obtain⟨xs,rfl,h3⟩:=hasW_list h1;obtain⟨ns,rfl⟩:=items_int h3;have hlen:ns.length<=n:=by
  unfold OpenLaw.pre at hc;have h4:(WTm.not (.lt (.lit (.int (n:Int))) (.len (.arg 0)))).holds [] { args:=[.list (ns.map .int)] }=true:=by
   have h4:=(holds_andW hc).1;rw[hn]at h4;exact h4
  have h5:=condW_of h4 (w_not (w_lt w_lit (w_len_list (w_arg rfl))));rw[wQ]at h5;refine Nat.le_of_not_lt λq=>?_;have q':(n:Int)<((ns.length:Nat):Int):=by omega
  first
   | (rw[uS q']at h5;exact absurd h5 (by decide))
   | (simp at h5;omega)
 cases hwl with
 |cons w1 w2=>
  cases w2;cases w1 with
  |list ho hall=>exact⟨_,_,ns,rfl,rfl,ho,Zn ns _ hall,hlen⟩
theorem y3(l:OpenLaw)(args:List WData):l.row.toRowW.claim.post args (.bool true) args=true:=
 postW_of (r:=l.row.toRowW) (X:=(true==true))
  (show WShape.has [] (.bool true) .bool=true by first|rfl|decide|simp[WShape.has,WShape.arms,WShape.armsAll])
  (show (WTm.eq .res (.lit (.bool true))).value [] { args:=args,res:=some (.bool true),after:=args }=some (.bool (true==true)) from w_eq_bool (w_res rfl) w_lit) rfl
theorem attach_call{l:OpenLaw}{n:Nat}{q:Program}{loose:List Str}{XP:(Str->Option Value)->Heap->Prop}{YP:World->Heap->Prop}{d:DefRec}
  (hn:l.most=some n) (hdf:d.params.defaults=[])
  (call:∀(w:World) (s₀ s₁:Shared) (mg mb:Str->Option Value) (fa:Addr) (o:Obj) (pm cd doc:Value) (a:Addr) (vs:List Value) (ns:List Int),
   Ground q loose [] XP w s₀ mg mb s₁.heap->YP w s₁.heap ->
   s₁.heap.get? fa=some o->o.data=.func (docDef d.name d.params d.body d.scope pm cd doc)->s₁.heap.CodeRec cd d.name->mg d.name=some (.ref fa) ->
   s₁.heap.get? a=some { cls:=.type "list",data:=.seq vs.toArray }->IntsAre vs ns->ns.length<=n->s₁.gens=#[] ->
   codeAny (model l.prog w) callerA (.call (.ref fa) ⟨[.ref a],[]⟩) (λr s'=>r=.ok (.ret (.bool true))/\OldK s₁.heap s'.heap/\s'.os=s₁.os/\AllBare s'.gens) s₁):
  WalkO q loose XP YP l.row.toRowW d [] (λf vs=>PySem.call f vs):=by
 intro w s₀ s₁ mg mb G Y fa o pm cd doc dV kV ho hd hcd hD hmg hg args vals as hpre hlay hrd hwl hlo;obtain rfl:dV=.none:=Dflts.none hD hdf;obtain rfl:kV=.none:=Dflts.noKw hD;obtain⟨a,vs,ns,rfl,rfl,hobj,hints,hlen⟩:=m5 hn hpre hwl;refine enter_call (codeAny_mono (call w s₀ s₁ mg mb fa o pm cd doc a vs ns G Y ho (fd_plain hd) hcd hmg hobj hints hlen hg) λr s' hq=>?_);obtain⟨rfl,h2,h3,h4⟩:=hq;exact⟨.inl ⟨.bool true,.bool true,[],rfl,λ_=>rfl,.bool true,y3 l _,λ_=>⟨List.Pairwise.nil,λ_ hm=>(nomatch hm)⟩⟩,h2,h3,h4⟩
end Att
namespace _L
open PySem PySem.Spec PyProof.Rows
theorem jh:∀{vs:List Value}{ns:List Int},IntsAre vs ns->Vals (ns.map V.int) vs
 |_,_,.nil=>.nil
 |_,_,.cons n t h=>.cons ⟨t,rfl⟩ (jh h)
def Only(H:Hp):Prop:=∀b,H b=none\/∃o xs,H b=some (.frz o (.lst xs))
theorem qAt{P:Program}{w:World}{K:PySem.W.Frag}{mg mb:Str->Option Value}{CX:CXT}{k:Nat}{fa a:Addr}{fd:FuncData}{x:Str}{sp:Sp}{s₁:Shared}{vs:List Value}{ns:List Int}
  (KX:K.In s₁.heap) (hns:s₁.heap.Ns mainGlobals mg) (hb:s₁.heap.Ns builtinsNs mb) (hbb:∀x:Str,x≠"__name__" -> mb x=bootBuiltins x) (hlim:s₁.heap.NoLimit) (hg:s₁.gens=#[])
  (ha:s₁.heap.get? a=some { cls:=.type "list",data:=.seq vs.toArray }) (hi:IntsAre vs ns) (hl:ns.length<=sizeLine) (hr:Room k callerA)
  (F:∀base:Heap,K.In base->base.Ns mainGlobals mg->FnOk P w K mg base CX k fa fd [x] sp) (hbind:∀(s:Shared) (u:Value),BindsTo s fd ⟨[u],[]⟩ [(x,u)])
  (hsp:∀H:Hp,Only H->SqL K H a (ns.map V.int)->sp [.ref a] H (λv _=>v=.bl true) λ_ _ _=>False)
  (hCX:∀H e s',CX [] H s₁ (λ_ _ _=>False) e s'->False):
  codeAny (model P w) callerA (.call (.ref fa) ⟨[.ref a],[]⟩) (λr s'=>r=.ok (.ret (.bool true))/\OldK s₁.heap s'.heap/\s'.os=s₁.os/\AllBare s'.gens) s₁:=by
 have rv:=jh hi;have lenV:=hi.length;have qFx:∀H:Hp,Only H->SqL K H a (ns.map V.int)->HOk P w H s₁.heap->(∀b,H b≠none->b=a)->(H a≠none->K.lookup a=none) ->
   codeAny (model P w) callerA (.call (.ref fa) ⟨[.ref a],[]⟩) (λr s'=>r=.ok (.ret (.bool true))/\OldK s₁.heap s'.heap/\s'.os=s₁.os/\AllBare s'.gens) s₁:=by
  intro H hO hS hok hA hK;have base_of:∀{b:Addr}{o:Obj},s₁.heap.get? b=some o->H b=none->(qAj s₁.heap H).get? b=some o:=λe n=>qA7 e n;have noA:∀{b:Addr}{o:Obj}{es:Array DictEntry}{ep:Nat},s₁.heap.get? b=some o->o.data=.dict es ep->H b=none:=λ{b o es ep} e d=>by
   cases q:H b with
   |none=>rfl
   |some u=>
    have e':b=a:=hA b (by rw[q];simp);subst e';rw[ha]at e;cases e;have d':Data.seq vs.toArray _=Data.dict es ep:=d;cases d'
  have nsK:∀{b:Addr}{m:Str->Option Value},s₁.heap.Ns b m->(qAj s₁.heap H).Ns b m:=λ{b m} ⟨o,es,ep,e,d,r⟩=>⟨o,es,ep,base_of e (noA e d),d,r⟩
  have hKb:K.In (qAj s₁.heap H):=λb o e=>base_of (KX b o e) (by
   cases q:H b with
   |none=>rfl
   |some u=>
    have e':b=a:=hA b (by rw[q];simp);subst e';rw[hK (by rw[q];simp)]at e;cases e)
  have hM:Mod K mg (qAj s₁.heap H):=⟨hKb,nsK hns,⟨mb,nsK hb,hbb⟩,let ⟨mc,h1,h2⟩:=hlim;⟨mc,nsK h1,h2⟩⟩
  have e0:Env0 P w K mg (qAj s₁.heap H) callerA [] s₁ H:=⟨rfl,hM,λb o e=>qCM e,Nat.le_of_eq (j0 _ _),trivial,λb hb=>absurd (show b∈([]:List Addr) from hb) (by simp),hok,.of_eq hg⟩
  refine codeAny_mono ((F _ hKb (nsK hns)).run callerA [] s₁ H ⟨[.ref a],[]⟩ [.ref a] [.ref a] _ _ hr e0 (hbind s₁ (.ref a)) (.cons rfl .nil) (hsp H hO hS)) λr s' h=>?_;cases r with
  |error e=>exact(hCX H e s' h).elim
  |ok fl=>
   cases fl with
   |next=>exact False.elim h
   |brk=>exact False.elim h
   |cont=>exact False.elim h
   |ret u=>
    obtain⟨v,H',os,bare,un,hok',r',q⟩:=h;have q':v=.bl true:=q;subst q';obtain rfl:u=Value.bool true:=r';refine⟨rfl,OldK.of_keep λb o e=>?_,os,bare⟩;cases q:H b with
    |none=>exact un.keep b o e q (by intro z;exact absurd (show b∈([]:List Addr) from z) (by simp)) (by simp)
    |some u=>
     rcases hO b with z|⟨ob,xs,z⟩
     ·rw[q]at z;cases z
     ·have z2:=un.frzs b ob _ z;obtain⟨e1,_⟩:=hok b _ z;obtain⟨e2,_⟩:=hok' b _ z2;rw[e]at e1;cases e1;exact e2
 cases hk:K.lookup a with
 |some o=>
  have e:=KX a o hk;rw[ha]at e;cases e;refine qFx (λ_=>none) (λ_=>.inl rfl) (.inr ⟨_,vs.toArray,_,hk,rfl,rfl,rfl,by rw[wP,lenV];exact hl,by simpa using rv⟩) (λb u z=>by have z':(none:Option HO)=some u:=z;cases z') (λb z=>absurd rfl z) λz=>absurd rfl z
 |none=>
  refine qFx (λb=>if b=a then some (.frz { cls:=.type "list",data:=.seq vs.toArray } (.lst (ns.map V.int))) else none) (λb=>?_) (.inl (.inr ⟨{ cls:=.type "list",data:=.seq vs.toArray },if_pos rfl⟩)) (λb u z=>?_) (λb z=>?_) λ_=>hk
  ·by_cases hb:b=a
   ·exact .inr ⟨_,_,if_pos hb⟩
   ·exact .inl (if_neg hb)
  ·by_cases hb:b=a
   ·have z':=(if_pos hb).symm.trans z;cases z';subst hb;exact⟨ha,by rw[wQ];exact hl,vs,_,rv,ha⟩
   ·have z':=(if_neg hb).symm.trans z;cases z'
  ·by_cases hb:b=a
   ·exact hb
   ·exact absurd (if_neg hb) z
theorem walk_of{l:PySem.W.OpenLaw}{n k:Nat}{q:Program}{loose:List Str}{XP:(Str->Option Value)->Heap->Prop}{YP:World->Heap->Prop}{d:DefRec}{K:Params->PySem.W.Frag}{CX:World->CXT}{sp:World->Sp}{x:Str}
  (hn:l.most=some n) (hn2:n<=sizeLine) (hdf:d.params.defaults=[]) (hr:Room k callerA)
  (hY:∀(w:World) (h:Heap),YP w h->(K w.params).In h)
  (F:∀(w:World) (mg:Str->Option Value) (fa:Addr) (h:Heap),(K w.params).In h->h.Ns mainGlobals mg->mg d.name=some (.ref fa) ->
   ∃fd:FuncData,(∀(s:Shared) (u:Value),BindsTo s fd ⟨[u],[]⟩ [(x,u)])/\
    ∀base:Heap,(K w.params).In base->base.Ns mainGlobals mg->FnOk l.prog w (K w.params) mg base (CX w) k fa fd [x] (sp w))
  (hsp:∀(w:World) (H:Hp) (a:Addr) (ns:List Int),ns.length<=n->Only H->SqL (K w.params) H a (ns.map V.int)->sp w [.ref a] H (λv _=>v=.bl true) λ_ _ _=>False)
  (hCX:∀(w:World) (H:Hp) (s:Shared) (e:Value) (s':Shared),CX w [] H s (λ_ _ _=>False) e s'->False):
  PySem.W.WalkO q loose XP YP l.row.toRowW d [] (λf vs=>PySem.call f vs):=by
 refine Att.attach_call hn hdf λw s₀ s₁ mg mb fa o pm cd doc a vs ns G Y ho hd hcd hmg hobj hints hlen hg=>?_;have KX:=hY w _ Y;obtain⟨fd,hb,hF⟩:=F w mg fa _ KX G.T.g hmg;exact qAt KX G.T.g G.T.b G.T.builtins G.T.nolimit hg hobj hints (wN hlen hn2) hr hF hb (λH hO hS=>hsp w H a ns hlen hO hS) λH e s'=>hCX w H s₁ e s'
noncomputable def ze(s:Stmt):Arguments:=match s with
 | .FunctionDef _ a _ _ _ _ _ _ _ _=>a
 |_=>{ posonlyargs:=[],args:=[],vararg:=none,kwonlyargs:=[],kw_defaults:=[],kwarg:=none,defaults:=[] }
noncomputable def defBody(s:Stmt):List Stmt:=match s with
 | .FunctionDef _ _ b _ _ _ _ _ _ _=>b
 |_=>[]
noncomputable def defScope(s:Stmt):Scope:=match s with
 | .FunctionDef _ _ _ _ _ _ sc _ _ _=>sc
 |_=>{ kind:=.function,names:=[],isGenerator:=false,isCoroutine:=false }
noncomputable abbrev CX0:CXT:=λ_ _ _ _ _ _=>False
noncomputable abbrev E0:XK:=λ_ _ _=>False
theorem pass0{X:Cx}:P3 CX0 X E0:=λ_ _ _ _ _ _ _ h=>h.elim
structure Fun(K:PySem.W.Frag)(x qual:Str)(st:Stmt)(f:Addr)(fd:FuncData):Prop where
 ex:∃(oc:Value) (od:Option Addr) (kV doc pm:Value) (an:Option Addr) (cdv ct:Value) (osl:Array (Option Value)),
  fd=PySem.W.fnOf x qual (ze st) (defBody st) (defScope st) .none kV doc pm an cdv ct/\K.lookup f=some ⟨oc,od,.func fd,osl⟩/\PySem.W.codeIn K cdv qual=true
 kp:PySem.W.keepIn K (.ref f)=true
section
variable{P:Program}{w:World}{K:PySem.W.Frag}{mg:Str->Option Value}{base:Heap}
theorem Fun.ok{x qual:Str}{st:Stmt}{f:Addr}{fd:FuncData}{N ps:List Str}{k:Nat}{sp:Sp}(F:Fun K x qual st f fd)(S:zV N ps (defScope st))(len:∀vs H Q E,sp vs H Q E->vs.length=ps.length)
  (hbody:∀(cdv:Value) (A:Around) (outer:List Env) (s:Shared) (H:Hp) (vs:List V) (Q:VK) (E:XK),Room k (A.deeper (envOfC qual (defScope st) s.heap.objs.size f cdv))->sp vs H Q E ->
   ∃t,PSs (cxOf CX0 P w K mg base N qual (defScope st) f cdv A outer s H E).nox (defBody st) t/\t { nx:=λ_ H'=>Q .non H',rt:=Q } (start N vs) H):FnOk P w K mg base CX0 (k+1) f fd ps sp:=by
 obtain⟨oc,od,kV,doc,pm,an,cdv,ct,osl,rfl,lk,hcd⟩:=F.ex;refine qGw lk hcd S len λA outer s H vs Q E hr hsp=>?_;obtain⟨t,h,q⟩:=hbody cdv A outer s H vs Q E hr hsp;exact⟨t,h.nox,q⟩
theorem Fun.binds{x qual:Str}{st:Stmt}{f:Addr}{fd:FuncData}{ps:List Str}(F:Fun K x qual st f fd)
  (h:∀(kV doc pm:Value) (an:Option Addr) (cdv ct:Value) (us:List Value),us.length=ps.length->bindArgs (PySem.W.fnOf x qual (ze st) (defBody st) (defScope st) .none kV doc pm an cdv ct) ⟨us,[]⟩=pure (ps.zip us)):Binds K fd ps []:=by
 obtain⟨oc,od,kV,doc,pm,an,cdv,ct,osl,rfl,lk,hcd⟩:=F.ex;exact .all (h kV doc pm an cdv ct)
theorem qBg{x qual:Str}{st:Stmt}{f:Addr}{oc:Value}{od an:Option Addr}{osl:Array (Option Value)}{kV doc pm cdv ct:Value}(l:K.lookup f=some ⟨oc,od,.func (PySem.W.fnOf x qual (ze st) (defBody st) (defScope st) .none kV doc pm an cdv ct),osl⟩)
  (c:PySem.W.codeIn K cdv qual=true) (k:PySem.W.keepIn K (.ref f)=true):Fun K x qual st f (PySem.W.fnOf x qual (ze st) (defBody st) (defScope st) .none kV doc pm an cdv ct):=⟨⟨oc,od,kV,doc,pm,an,cdv,ct,osl,rfl,l,c⟩,k⟩
end
def Zv(H H':Hp):Prop:=∀b o,H b=some o->H' b=some o
section
variable{κ:Type}[DecidableEq κ]
noncomputable def valV(kvs:List (κ×V))(k:κ):Option V:=(kvs.find? λkv=>decide (kv.1=k)).map (·.2)
noncomputable def putK(kvs:List (κ×V))(k:κ)(v:V):List (κ×V):=
 if (kvs.any λkv=>decide (kv.1=k))=true then kvs.map (λkv=>if kv.1=k then (kv.1,v) else kv) else kvs++[(k,v)]
noncomputable def qEK(kvs:List (κ×V))(k:κ):List (κ×V):=kvs.filter λkv=>decide (kv.1≠k)
theorem Jp{p:κ×V}{r:List (κ×V)}{k:κ}(e:p.1=k):valV (p::r) k=some p.2:=by simp[valV,List.find?_cons,e]
theorem Jb{p:κ×V}{r:List (κ×V)}{k:κ}(e:¬ p.1=k):valV (p::r) k=valV r k:=by simp[valV,List.find?_cons,e]
theorem valV_any(k:κ):∀kvs:List (κ×V),(kvs.any λkv=>decide (kv.1=k))=(valV kvs k).isSome
 | []=>rfl
 |p::r=>by
  rw[List.any_cons];by_cases e:p.1=k
  ·simp only[Jp e,uS e,Bool.true_or,Option.isSome_some]
  ·rw[Jb e,uR e,Bool.false_or];exact valV_any k r
theorem Zx(kvs:List (κ×V))(k:κ)(v:V):(putK kvs k v).length<=kvs.length+1:=by
 unfold putK;split
 ·rw[wQ];omega
 ·rw[wY,List.length_cons,List.length_nil];omega
theorem RelO.isSome_eq{o:Option V}{u:Option Value}(r:RelO o u):o.isSome=u.isSome:=by
 cases o with
 |none=>cases u with
  |none=>rfl
  |some _=>exact(show False from r).elim
 |some _=>cases u with
  |none=>exact(show False from r).elim
  |some _=>rfl
theorem RelO.getD{o:Option V}{u:Option Value}{d:V}{d':Value}(r:RelO o u)(rd:RelV d d'):RelV (o.getD d) (u.getD d'):=by
 cases o with
 |none=>cases u with
  |none=>exact rd
  |some _=>exact(show False from r).elim
 |some _=>cases u with
  |none=>exact(show False from r).elim
  |some _=>exact r
theorem KV.val{kvs:List (κ×V)}{vs:List (κ×Value)}(r:KV kvs vs)(k:κ):RelO (valV kvs k) (valueAt vs k):=by
 unfold KV at r
 induction r with
 |nil=>exact True.intro
 | @cons p q ps qs h t ih=>
  obtain⟨h1,h2⟩:=h;by_cases e:p.1=k
  ·have e':q.1=k:=h1.symm.trans e;have b:valueAt (q::qs) k=some q.2:=by simp[valueAt,List.find?_cons,e']
   rw[Jp e,b];exact h2
  ·have e':¬ q.1=k:=λz=>e (h1.trans z);have b:valueAt (q::qs) k=valueAt qs k:=by simp[valueAt,List.find?_cons,e']
   rw[Jb e,b];exact ih
theorem KV.any{kvs:List (κ×V)}{vs:List (κ×Value)}(r:KV kvs vs)(k:κ):(kvs.any λkv=>decide (kv.1=k))=vs.any λkv=>decide (kv.1=k):=by
 unfold KV at r
 induction r with
 |nil=>rfl
 |cons h t ih=>rw[List.any_cons,List.any_cons,ih,h.1]
theorem KV.repl{kvs:List (κ×V)}{vs:List (κ×Value)}(r:KV kvs vs)(k:κ){y:V}{u:Value}(ry:RelV y u):
  KV (kvs.map λkv=>if kv.1=k then (kv.1,y) else kv) (vs.map λkv=>if kv.1=k then (kv.1,u) else kv):=by
 unfold KV at r ⊢
 induction r with
 |nil=>exact .nil
 | @cons p q ps qs h t ih=>
  rw[List.map_cons,List.map_cons];refine .cons ?_ ih;obtain⟨h1,h2⟩:=h;by_cases e:p.1=k
  ·rw[if_pos e,if_pos (h1.symm.trans e)];exact⟨h1,ry⟩
  ·rw[if_neg e,if_neg (λz=>e (h1.trans z))];exact⟨h1,h2⟩
theorem KV.put{kvs:List (κ×V)}{vs:List (κ×Value)}(r:KV kvs vs)(k:κ){y:V}{u:Value}(ry:RelV y u):KV (putK kvs k y) (stored vs k u):=by
 unfold putK stored;rw[r.any k];by_cases e:(vs.any λkv=>decide (kv.1=k))=true
 ·rw[if_pos e,if_pos e];exact r.repl k ry
 ·rw[if_neg e,if_neg e];exact Paired.snoc r ⟨rfl,ry⟩
theorem KV.drop{kvs:List (κ×V)}{vs:List (κ×Value)}(r:KV kvs vs)(k:κ):KV (qEK kvs k) (without vs k):=by
 unfold KV at r ⊢;unfold qEK without
 induction r with
 |nil=>exact .nil
 | @cons p q ps qs h t ih=>
  obtain⟨h1,h2⟩:=h;rw[List.filter_cons,List.filter_cons];by_cases e:p.1=k
  ·have a:¬ decide (p.1≠k)=true:=by simp[e]
   have b:¬ decide (q.1≠k)=true:=by simp[h1.symm.trans e]
   rw[if_neg a,if_neg b];exact ih
  ·have e':¬ q.1=k:=λz=>e (h1.trans z);have a:decide (p.1≠k)=true:=by simp[e]
   have b:decide (q.1≠k)=true:=by simp[e']
   rw[if_pos a,if_pos b];exact .cons ⟨h1,h2⟩ ih
theorem KV.length{kvs:List (κ×V)}{vs:List (κ×Value)}(r:KV kvs vs):kvs.length=vs.length:=Paired.length r
end
theorem qAu{P:Program}{w:World}{k:Key}{u:Value}(r:RelV (kV k) u):(zM P w).is k u=true:=by
 cases k with
 |inl i=>obtain⟨t,e⟩:=(show ∃t,u=Value.int i t from r);subst e;exact K0 P w i t
 |inr x=>obtain⟨t,e⟩:=(show ∃t,u=Value.str x t from r);subst e;exact J2 P w x t
theorem E8{P:Program}{w:World}:∀{ks:List Key}{us:List Value},Vals (ks.map kV) us->ItemsAre (zM P w) ks us
 | [],_,r=>by rw[List.map_nil]at r;cases r;exact .nil
 |k::ks,_,r=>by
  rw[List.map_cons]at r;cases r with
  |cons h t=>exact .cons (qAu h) (E8 t)
abbrev KT(H:Hp):List (List Key×V)->List (List Key×Addr×Value)->Prop:=Paired λp q=>p.1=q.1/\H q.2.1=some (.tup (p.1.map kV))/\RelV p.2 q.2.2
theorem KT.val{H:Hp}{kvs:List (List Key×V)}{xs:List (List Key×Addr×Value)}(r:KT H kvs xs)(k:List Key):RelO (valV kvs k) ((atKey xs k).map (·.2)):=by
 induction r with
 |nil=>exact True.intro
 | @cons p q ps qs h t ih=>
  obtain⟨h1,_,h2⟩:=h;by_cases e:p.1=k
  ·have e':q.1=k:=h1.symm.trans e;have b:atKey (q::qs) k=some q.2:=by simp[atKey,List.find?_cons,e']
   rw[Jp e,b];exact h2
  ·have e':¬ q.1=k:=λz=>e (h1.trans z);have b:atKey (q::qs) k=atKey qs k:=by simp[atKey,List.find?_cons,e']
   rw[Jb e,b];exact ih
theorem KT.repl{H:Hp}{kvs:List (List Key×V)}{xs:List (List Key×Addr×Value)}(r:KT H kvs xs)(k:List Key){y:V}{u:Value}(ry:RelV y u):
  KT H (kvs.map λkv=>if kv.1=k then (kv.1,y) else kv) (xs.map (putAt k u)):=by
 induction r with
 |nil=>exact .nil
 | @cons p q ps qs h t ih=>
  rw[List.map_cons,List.map_cons];refine .cons ?_ ih;obtain⟨h1,h2,h3⟩:=h;unfold putAt;by_cases e:p.1=k
  ·rw[if_pos e,if_pos (h1.symm.trans e)];exact⟨h1,h2,ry⟩
  ·rw[if_neg e,if_neg (λz=>e (h1.trans z))];exact⟨h1,h2,h3⟩
theorem KT.put{H:Hp}{kvs:List (List Key×V)}{xs:List (List Key×Addr×Value)}(r:KT H kvs xs)(k:List Key){b:Addr}{y:V}{u:Value}(hb:H b=some (.tup (k.map kV)))(ry:RelV y u):
  KT H (putK kvs k y) (storedH xs k b u):=by
 have e:(kvs.any λkv=>decide (kv.1=k))=(atKey xs k).isSome:=by
  rw[valV_any,(r.val k).isSome_eq,Option.isSome_map]
 unfold putK storedH;rw[e];by_cases q:(atKey xs k).isSome=true
 ·rw[if_pos q,if_pos q];exact r.repl k ry
 ·rw[if_neg q,if_neg q];exact Paired.snoc r ⟨rfl,hb,ry⟩
theorem KT.keeps{H H':Hp}{kvs:List (List Key×V)}{xs:List (List Key×Addr×Value)}(r:KT H kvs xs)(ht:∀b ys,H b=some (.tup ys)->H' b=some (.tup ys)):KT H' kvs xs:=
 Paired.mapP r λ_ _ z=>⟨z.1,ht _ _ z.2.1,z.2.2⟩
section
variable{P:Program}{w:World}{H:Hp}{h:Heap}{a:Addr}
theorem qEm{u:HO}(ok:HOk P w H h)(e:Rd H a u):ObjOk P w H h a u:=e.ok ok
theorem qCy{kvs:List (Key×V)}(ok:HOk P w H h)(e:Rd H a (.dK kvs)):kvs.length<=sizeLine/\(a==sysModules)=false/\∃vs,KV kvs vs/\h.DictOf (zM P w) a vs:=
 show ObjOk P w H h a (.dK kvs) from qEm ok e
theorem qGO{kvs:List (Key×V)}(ok:HOk P w H h)(e:H a=some (.dK kvs)):kvs.length<=sizeLine/\(a==sysModules)=false/\∃vs,KV kvs vs/\h.DictOf (zM P w) a vs:=qCy ok (.inl e)
theorem Q7{ks:List Key}(ok:HOk P w H h)(e:H a=some (.tup (ks.map kV))):(tupleKind (zM P w)).is h ks a:=by
 obtain⟨_,its,r,o,h1,h2,n,h3⟩:=(show ObjOk P w H h a (.tup (ks.map kV)) from ok a _ e)
 exact⟨o,its.toArray,n,h1,h2,h3,by simpa using E8 r⟩
theorem qCi{kvs:List (List Key×V)}(ok:HOk P w H h)(e:Rd H a (.dT kvs)):kvs.length<=sizeLine/\(a==sysModules)=false/\
  ∃xs,KT H kvs xs/\h.DictOfH (tupleKind (zM P w)) a xs:=by
 obtain⟨z,y,xs,r,o,es,ep,h1,h2,h3,h4,h5⟩:=(show ObjOk P w H h a (.dT kvs) from qEm ok e)
 refine⟨z,y,xs,r,o,es,ep,h1,h2,h3,h4,λx hx=>?_,h5⟩;have all:∀{l:List (List Key×V)}{m:List (List Key×Addr×Value)},KT H l m->∀x∈m,(tupleKind (zM P w)).is h x.1 x.2.1:=by
  intro l m q
  induction q with
  |nil=>intro x hx;exact nomatch hx
  | @cons p q ps qs hq t ih=>
   intro x hx;rcases wI.mp hx with e|hx
   ·subst e;exact Q7 ok (by rw[<-hq.1];exact hq.2.1)
   ·exact ih x hx
 exact all r x hx
theorem qF1{kvs:List (List Key×V)}(ok:HOk P w H h)(e:H a=some (.dT kvs)):kvs.length<=sizeLine/\(a==sysModules)=false/\
  ∃xs,KT H kvs xs/\h.DictOfH (tupleKind (zM P w)) a xs:=qCi ok (.inl e)
end
def DGet(H:Hp)(a:Addr)(y:V)(r:Option V):Prop:=
 (∃kvs k,Rd H a (.dK kvs)/\y=kV k/\r=valV kvs k)\/∃kvs k b,Rd H a (.dT kvs)/\y=.ref b/\H b=some (.tup (k.map kV))/\r=valV kvs k
def DPut(H:Hp)(a:Addr)(y v:V)(H':Hp):Prop:=
 (∃kvs k,H a=some (.dK kvs)/\y=kV k/\kvs.length<sizeLine/\H'=upd H a (.dK (putK kvs k v)))\/
 ∃kvs k b,H a=some (.dT kvs)/\y=.ref b/\H b=some (.tup (k.map kV))/\kvs.length<sizeLine/\H'=upd H a (.dT (putK kvs k v))
theorem DGet.k{H:Hp}{a:Addr}{kvs:List (Key×V)}{k:Key}(e:H a=some (.dK kvs)):DGet H a (kV k) (valV kvs k):=.inl ⟨kvs,k,.inl e,rfl,rfl⟩
theorem DGet.t{H:Hp}{a b:Addr}{kvs:List (List Key×V)}{k:List Key}(e:H a=some (.dT kvs))(eb:H b=some (.tup (k.map kV))):DGet H a (.ref b) (valV kvs k):=.inr ⟨kvs,k,b,.inl e,rfl,eb,rfl⟩
theorem DPut.k{H:Hp}{a:Addr}{kvs:List (Key×V)}{k:Key}{v:V}(e:H a=some (.dK kvs))(hl:kvs.length<sizeLine):DPut H a (kV k) v (upd H a (.dK (putK kvs k v))):=.inl ⟨kvs,k,e,rfl,hl,rfl⟩
theorem DPut.t{H:Hp}{a b:Addr}{kvs:List (List Key×V)}{k:List Key}{v:V}(e:H a=some (.dT kvs))(eb:H b=some (.tup (k.map kV)))(hl:kvs.length<sizeLine):
  DPut H a (.ref b) v (upd H a (.dT (putK kvs k v))):=.inr ⟨kvs,k,b,e,rfl,eb,hl,rfl⟩
section
variable{X:Cx}{pins:List (Addr×Obj)}{σ:St}{H:Hp}{s:Shared}{a:Addr}{y v:V}{u r:Value}{o:Option V}{A:Around}{E:Value->Shared->Prop}
theorem d_in{Q:Value->Shared->Prop}(hu:A.units+1<cLine)(I:Inv X pins σ H s)(g:DGet H a y o)(ry:RelV y u)(h:∀s',Inv X pins σ H s'->Q (.bool o.isSome) s'):
  wpAny (model X.prog X.w) A (compareOp .In u (.ref a)) Q E s:=by
 rcases g with⟨kvs,k,e,ey,l⟩|⟨kvs,k,b,e,ey,eb,l⟩
 ·subst ey;obtain⟨z,hd,vs,rel,dd⟩:=qCy I.hok e;refine wpAny_in_of (qAu ry) hd dd.mapOf ?_;rw[<-(rel.val k).isSome_eq,<-l];exact h _ (I.tok _)
 ·subst ey;cases (show u=Value.ref b from ry);obtain⟨z,hd,xs,rel,dd⟩:=qCi I.hok e;refine wpAny_in_heap (tupleKind_room_in1 hu) (Q7 I.hok eb) hd dd ?_;have q:=(rel.val k).isSome_eq;rw[Option.isSome_map]at q;rw[<-q,<-l];exact h _ (I.tok _)
theorem d_notIn{Q:Value->Shared->Prop}(hu:A.units+1<cLine)(I:Inv X pins σ H s)(g:DGet H a y o)(ry:RelV y u)(h:∀s',Inv X pins σ H s'->Q (.bool (!o.isSome)) s'):
  wpAny (model X.prog X.w) A (compareOp .NotIn u (.ref a)) Q E s:=by
 rcases g with⟨kvs,k,e,ey,l⟩|⟨kvs,k,b,e,ey,eb,l⟩
 ·subst ey;obtain⟨z,hd,vs,rel,dd⟩:=qCy I.hok e;refine wpAny_notIn_of (qAu ry) hd dd.mapOf ?_;rw[<-(rel.val k).isSome_eq,<-l];exact h _ (I.tok _)
 ·subst ey;cases (show u=Value.ref b from ry);obtain⟨z,hd,xs,rel,dd⟩:=qCi I.hok e;refine wpAny_notIn_heap (tupleKind_room_in1 hu) (Q7 I.hok eb) hd dd ?_;have q:=(rel.val k).isSome_eq;rw[Option.isSome_map]at q;rw[<-q,<-l];exact h _ (I.tok _)
theorem v7{h':Heap}{t':Nat}{ob:HO}(I:Inv X pins σ H s)(mu:Mut (H a))(hs:Heap.SameBut a s.heap h')(he:∃q,h'.get? a=some q)(new:ObjOk X.prog X.w (upd H a ob) h' a ob):
  Inv X pins σ (upd H a ob) { s with heap:=h',toks:=t' }:=
 I.write (x:=a) (e:=a) mu (.inl rfl) (λb q hb z=>(hs.2 b hb).trans z) he new
theorem qEQ{P:Program}{w:World}{H':Hp}{h':Heap}{kvs:List (Key×V)}{vs:List (Key×Value)}(z:kvs.length<=sizeLine)(hd:(a==sysModules)=false)(rel:KV kvs vs)(dd:h'.DictOf (zM P w) a vs):
  ObjOk P w H' h' a (.dK kvs):=⟨z,hd,vs,rel,dd⟩
theorem d_setItem{H':Hp}{Q:Unit->Shared->Prop}(hu:A.units+1<cLine)(I:Inv X pins σ H s)(g:DPut H a y v H')(ry:RelV y u)(rv:RelV v r)(h:∀s',Inv X pins σ H' s'->Q () s'):
  wpAny (model X.prog X.w) A (setItem (.ref a) u r) Q E s:=by
 rcases g with⟨kvs,k,e,ey,l,eH⟩|⟨kvs,k,b,e,ey,eb,l,eH⟩
 ·subst ey eH;obtain⟨z,hd,vs,rel,dd⟩:=qGO I.hok e;have hz:vs.length<=sizeLine:=by rw[<-rel.length];exact z
  have hl:(putK kvs k v).length<=sizeLine:=by have:=Zx kvs k v;omega
  refine wpAny_setItem_pairs (hsz:=hz) (qAu ry) dd λh' dd' hs=>h _ ?_;have he:∃q,h'.get? a=some q:=let ⟨q,_,_,hq,_⟩:=dd';⟨q,hq⟩
  exact v7 I (by rw[e];exact True.intro) hs he (qEQ hl hd (rel.put k rv) dd')
 ·subst ey eH;cases (show u=Value.ref b from ry);obtain⟨z,hd,xs,rel,dd⟩:=qF1 I.hok e;have hz:xs.length<=sizeLine:=by rw[<-Paired.length rel];exact z
  have hl:(putK kvs k v).length<=sizeLine:=by have:=Zx kvs k v;omega
  refine wpAny_setItem_heap (hsz:=hz) (tupleKind_room_in1 hu) (Q7 I.hok eb) dd λh' dd' hs=>h _ ?_;obtain⟨q,es,ep,hq,h2,h3,h4,_,h5⟩:=dd';refine v7 I (by rw[e];exact True.intro) hs ⟨q,hq⟩ ⟨hl,hd,_,(rel.put k eb rv).keeps λc ys ec=>?_,q,es,ep,hq,h2,h3,h4,h5⟩;rw[qG (qGm ec e (λz=>nomatch z))];exact ec
end
noncomputable def qE7(kvs more:List (Key×V)):List (Key×V):=more.foldl (λacc kv=>putK acc kv.1 kv.2) kvs
structure M1(X:Cx)(o:Expr)(m:Str)(apos:Pos)(e:Expr)(cpos:Pos):Prop where
 base:attributeBase o m X.env (eval o X.env)=eval o X.env
 few:((backTo cpos (starEach [e] X.env)).all (λx=>!x.1)&&(backToKw cpos (keywordEach [] X.env)).all (λx=>x.1.isSome)
  && decide (([e]:List Expr).length+([]:List Keyword).length+(if ([]:List Keyword).isEmpty then 0 else 1)<30))=true
 line:(apos.endLine==cpos.line)=true
 trees:backTo cpos (starEach [e] X.env)=[(false,eval e X.env)]
structure M2(X:Cx)(o:Expr)(m:Str)(apos:Pos)(e f:Expr)(cpos:Pos):Prop where
 base:attributeBase o m X.env (eval o X.env)=eval o X.env
 few:((backTo cpos (starEach [e,f] X.env)).all (λx=>!x.1)&&(backToKw cpos (keywordEach [] X.env)).all (λx=>x.1.isSome)
  && decide (([e,f]:List Expr).length+([]:List Keyword).length+(if ([]:List Keyword).isEmpty then 0 else 1)<30))=true
 line:(apos.endLine==cpos.line)=true
 trees:backTo cpos (starEach [e,f] X.env)=[(false,eval e X.env),(false,eval f X.env)]
end _L
set_option maxHeartbeats 4000000
namespace _L
open PySem PySem.Spec PyProof.Rows
theorem KV.len{kvs:List (Key×V)}{vs:List (Key×Value)}(r:KV kvs vs):vs.length=kvs.length:=(Paired.length r).symm
theorem KV.key{kvs:List (Key×V)}{vs:List (Key×Value)}(r:KV kvs vs){i:Nat}{k:Key×V}(e:kvs[i]?=some k):∃v,vs[i]?=some (k.1,v):=by
 induction r generalizing i with
 |nil=>simp at e
 |cons h t ih=>
  cases i with
  |zero=>cases e;exact⟨_,by rw[List.getElem?_cons_zero];congr 1;exact Prod.ext h.1.symm rfl⟩
  |succ i=>exact ih (by simpa using e)
noncomputable def Y7(cells:List (Str×Addr)):List (Str×NameKind)->List (Str×Addr)->List (Str×Addr)
 | [],cs=>cs
 | (n,k)::r,cs=>Y7 cells r (if k=.free then (match cells.lookup n with|some c=>(n,c)::cs|none=>cs) else cs)
theorem jU{scope:Scope}{env:Env}(h:∀y∈scope.names,y.2=.free->∃c,env.cells.lookup y.1=some c):closureFor scope env=pure (Y7 env.cells scope.names []):=by
 simp only[closureFor];generalize scope.names=names at h;have key:∀(names:List (Str×NameKind)) (cs:List (Str×Addr)),(∀y∈names,y.2=.free->∃c,env.cells.lookup y.1=some c) ->
   (forIn names cs λx r=>if (x.2==NameKind.free)=true then do let c <- cellOf env x.1;pure (ForInStep.yield ((x.1,c)::r)) else pure (ForInStep.yield r))=(pure (Y7 env.cells names cs):Sem _):=by
  intro names
  induction names with
  |nil=>intro cs _;rfl
  |cons y r ih=>
   intro cs hy;obtain⟨n,k⟩:=y;rw[List.forIn_cons];by_cases hk:k=.free
   ·subst hk;obtain⟨c,hc⟩:=hy (n,.free) wO rfl;have hc':List.lookup n env.cells=some c:=hc;have e:cellOf env n=pure c:=by unfold cellOf;rw[hc']
    simp only[uW,if_true,e,pure_bind,Y7,hc'];exact ih _ λy hm=>hy y (wH _ hm)
   ·have hb:(k==NameKind.free)=false:=by simpa using hk
    simp only[hb,vJ,if_false,pure_bind,Y7,if_neg hk];exact ih _ λy hm=>hy y (wH _ hm)
 rw[key names [] h];rfl
theorem qBi{cells:List (Str×Addr)}{x:Str}{c:Addr}:∀{names:List (Str×NameKind)}{cs:List (Str×Addr)},(Y7 cells names cs).lookup x=some c->cs.lookup x=some c\/cells.lookup x=some c
 | [],cs,h=>.inl h
 | (n,k)::r,cs,h=>by
  unfold Y7 at h;rcases qBi h with h2|h2
  ·clear h;by_cases hk:k=.free
   ·rw[if_pos hk]at h2;cases e:cells.lookup n with
    |none=>rw[e]at h2;exact .inl h2
    |some c'=>
     rw[e]at h2;simp only[List.lookup_cons]at h2;cases hx:x==n with
     |true=>
      have hx':x=n:=by simpa using hx
      rw[hx]at h2;subst hx';cases h2;exact .inr e
     |false=>
      rw[hx]at h2;exact .inl h2
   ·rw[if_neg hk]at h2;exact .inl h2
  ·exact .inr h2
theorem qBV{cells:List (Str×Addr)}{x:Str}{c:Addr}(hc:cells.lookup x=some c):∀{names:List (Str×NameKind)}{cs:List (Str×Addr)},((x,NameKind.free)∈names\/cs.lookup x=some c)->(∀c',cs.lookup x=some c'->c'=c)->(Y7 cells names cs).lookup x=some c
 | [],cs,h,_=>by
  rcases h with h|h
  ·exact nomatch h
  ·exact h
 | (n,k)::r,cs,h,hu=>by
  unfold Y7;refine qBV hc ?_ ?_
  ·rcases h with h|h
   ·rcases wI.mp h with h|h
    ·cases h;right;rw[if_pos rfl,hc];simp
    ·exact .inl h
   ·right;by_cases hk:k=.free
    ·rw[if_pos hk];cases e:cells.lookup n with
     |none=>exact h
     |some c'=>
      simp only[List.lookup_cons];cases hx:x==n with
      |true=>
       have hx':x=n:=by simpa using hx
       subst hx';rw[hc]at e;cases e;rfl
      |false=>exact h
    ·rw[if_neg hk];exact h
  ·intro c' h';by_cases hk:k=.free
   ·rw[if_pos hk]at h';cases e:cells.lookup n with
    |none=>rw[e]at h';exact hu c' h'
    |some c2=>
     rw[e]at h';simp only[List.lookup_cons]at h';cases hx:x==n with
     |true=>
      have hx':x=n:=by simpa using hx
      subst hx';rw[hx]at h';rw[hc]at e;cases e;cases h';rfl
     |false=>
      rw[hx]at h';exact hu c' h'
   ·rw[if_neg hk]at h';exact hu c' h'
theorem ZD{env:Env}:∀{names:List (Str×NameKind)}{x:Str},names.lookup x=some .free ->
  (names.map λ(n,k)=>if (k==NameKind.free&&env.scope.kind==.function&&env.kindOf n==some .cell) then (n,NameKind.cell) else (n,k)).lookup x=some .cell\/
  (names.map λ(n,k)=>if (k==NameKind.free&&env.scope.kind==.function&&env.kindOf n==some .cell) then (n,NameKind.cell) else (n,k)).lookup x=some .free
 | [],_,h=>by simp at h
 | (n,k)::r,x,h=>by
  have ih:=@ZD env r x;simp only[List.map_cons];cases hx:x==n with
  |true=>
   simp only[List.lookup_cons,hx]at h;cases h;by_cases hc:(NameKind.free==NameKind.free&&env.scope.kind==.function&&env.kindOf n==some .cell)=true
   ·rw[if_pos hc];left;simp[List.lookup_cons,hx]
   ·rw[if_neg hc];right;simp[List.lookup_cons,hx]
  |false=>
   simp only[List.lookup_cons,hx]at h;by_cases hc:(k==NameKind.free&&env.scope.kind==.function&&env.kindOf n==some .cell)=true
   ·rw[if_pos hc];simp only[List.lookup_cons,hx];exact ih h
   ·rw[if_neg hc];simp only[List.lookup_cons,hx];exact ih h
theorem jk{env:Env}:∀{names:List (Str×NameKind)}{x:Str},
  ((names.map λ(n,k)=>if (k==NameKind.free&&env.scope.kind==.function&&env.kindOf n==some .cell) then (n,NameKind.cell) else (n,k)).lookup x=some .cell\/
  (names.map λ(n,k)=>if (k==NameKind.free&&env.scope.kind==.function&&env.kindOf n==some .cell) then (n,NameKind.cell) else (n,k)).lookup x=some .free)->names.lookup x=some .free\/names.lookup x=some .cell
 | [],_,h=>by simp at h
 | (n,k)::r,x,h=>by
  have ih:=@jk env r x;simp only[List.map_cons]at h;cases hx:x==n with
  |true=>
   simp only[List.lookup_cons,hx];by_cases hc:(k==NameKind.free&&env.scope.kind==.function&&env.kindOf n==some .cell)=true
   ·rw[if_pos hc]at h;have hk:k=.free:=by
     cases k<;>first|rfl|(simp at hc)
    rw[hk];exact .inl rfl
   ·rw[if_neg hc]at h;simp only[List.lookup_cons,hx]at h;exact h.symm
  |false=>
   simp only[List.lookup_cons,hx];by_cases hc:(k==NameKind.free&&env.scope.kind==.function&&env.kindOf n==some .cell)=true
   ·rw[if_pos hc]at h;simp only[List.lookup_cons,hx]at h;exact ih h
   ·rw[if_neg hc]at h;simp only[List.lookup_cons,hx]at h;exact ih h
theorem QA:∀(names:List (Str×NameKind)) (a:Nat) (acc:List (Str×Addr)),cellsFrom a names acc=cellsFrom a names []++acc
 | [],a,acc=>rfl
 | (n,k)::r,a,acc=>by
  unfold cellsFrom;split
  ·rw[QA r (a+1) ((n,a)::acc),QA r (a+1) [(n,a)],wu];rfl
  ·exact QA r a acc
theorem A2{x:Str}{c:Addr}:∀{names:List (Str×NameKind)}{a:Nat},(x,c)∈cellsFrom a names []->(x,NameKind.cell)∈names
 | [],a,h=>nomatch h
 | (n,k)::r,a,h=>by
  unfold cellsFrom at h;split at h
  ·rename_i hk;rw[QA,wJ]at h;rcases h with h|h
   ·exact wH _ (A2 h)
   ·have:(x,c)=(n,a):=wU.mp h;cases this;rw[beq_iff_eq.mp hk];exact wO
  ·exact wH _ (A2 h)
theorem R9{x:Str}:∀{names:List (Str×NameKind)}{a:Nat},(x,NameKind.cell)∈names->∃c,(cellsFrom a names []).lookup x=some c
 | [],a,h=>nomatch h
 | (n,k)::r,a,h=>by
  unfold cellsFrom;rcases wI.mp h with h|h
  ·cases h;rw[if_pos (by decide),QA,vS];cases (cellsFrom (a+1) r []).lookup x with
   |none=>exact⟨a,by simp⟩
   |some c=>exact⟨c,rfl⟩
  ·split
   ·obtain⟨c,hc⟩:=R9 (a:=a+1) h;exact⟨c,by rw[QA,vS,hc];rfl⟩
   ·exact R9 h
noncomputable def jg(X:Cx)(scope:Scope)(C:Addr):List (Str×Addr):=cellsFrom (C+1) scope.names (Y7 X.env.cells scope.names [])
noncomputable def cxComp(X:Cx)(scope:Scope)(C:Addr)(fp:List Addr)(s₂:Shared)(H₂:Hp)(N:List Str):Cx:=
 { X with N:=N,s₀:=s₂,H₀:=H₂,env:=compEnvC scope (jg X scope C) C X.env,outer:=X.stack,ex:=fp,fn:=λx=>decide (scope.names.lookup x=some .cell),pn:=[],xe:=λ_ _=>False }
noncomputable def inner(src:List (Option Nat))(σ:St):St:=src.map λo=>match o with|none=>none|some j=>(σ[j]?).join
structure CompScope(X:Cx)(scope:Scope)(N:List Str)(src:List (Option Nat)):Prop where
 kind:scope.kind=.function
 uniq:∀y∈scope.names,scope.names.lookup y.1=some y.2
 frees:∀y∈scope.names,y.2=NameKind.free->X.env.kindOf y.1=some .cell\/X.env.kindOf y.1=some .free
 nd:N.Nodup
 len:src.length=N.length
 from_:∀(i:Nat) x j,N[i]?=some x->src[i]?=some (some j)->X.N[j]?=some x/\scope.names.lookup x=some .free
theorem qu{x:Str}{k:NameKind}:∀{names:List (Str×NameKind)},names.lookup x=some k->(x,k)∈names
 | [],h=>by simp at h
 | (n,k')::r,h=>by
  cases hx:x==n with
  |true=>
   simp only[List.lookup_cons,hx]at h;have hx':x=n:=by simpa using hx
   cases h;subst hx';exact wO
  |false=>
   simp only[List.lookup_cons,hx]at h;exact wH _ (qu h)
section
variable{X:Cx}{pins:List (Addr×Obj)}{σ:St}{H₂:Hp}{s₂:Shared}{scope:Scope}{N:List Str}{src:List (Option Nat)}{fp:List Addr}
theorem CompScope.cells(S:CompScope X scope N src)(ok:X.Ok):∀y∈scope.names,y.2=.free->∃c,X.env.cells.lookup y.1=some c:=λy hy hk=>ok.has y.1 (S.frees y hy hk)
theorem CompScope.names(S:CompScope X scope N src):∀y∈scope.names,y.2=NameKind.local->scope.names.lookup y.1=some .local:=λy hy hk=>by rw[<-hk];exact S.uniq y hy
theorem zX{C:Addr}{h₁:Heap}(ow:CellsOk h₁ (C+1) (cellsFrom (C+1) scope.names [])){x:Str}{c:Addr}(h:(jg X scope C).lookup x=some c):
  ((x,c)∈cellsFrom (C+1) scope.names []/\(x,NameKind.cell)∈scope.names/\h₁.IsCell c none/\C<c)\/X.env.cells.lookup x=some c:=by
 unfold jg at h;rw[QA,vS]at h;cases e:(cellsFrom (C+1) scope.names []).lookup x with
 |some c'=>
  rw[e]at h;cases h;have m:=PySem.mem_of_lookup e;exact .inl ⟨m,A2 m,(ow.empty x c m).1,(ow.empty x c m).2⟩
 |none=>
  rw[e]at h;rcases qBi (show (Y7 X.env.cells scope.names []).lookup x=some c by simpa using h) with h|h
  ·simp at h
  ·exact .inr h
theorem JT(S:CompScope X scope N src){C:Addr}{x:Str}{c:Addr}(hf:scope.names.lookup x=some .free)(h:X.env.cells.lookup x=some c):(jg X scope C).lookup x=some c:=by
 unfold jg;rw[QA,vS];have:(cellsFrom (C+1) scope.names []).lookup x=none:=by
  cases e:(cellsFrom (C+1) scope.names []).lookup x with
  |none=>rfl
  |some c'=>
   have:=S.uniq _ (A2 (PySem.mem_of_lookup e));rw[hf]at this;cases this
 rw[this,qBV h (.inl (qu hf)) (by intro c' h';simp at h')];rfl
theorem qCs(S:CompScope X scope N src)(I:Inv X pins σ H₂ s₂)(f2:∀b∈fp,JB X pins H₂ b)(ob:∀b∈fp,∃o,s₂.heap.get? b=some o/\∀v,o.data≠.cell v){C:Addr}(hC:s₂.heap.objs.size<=C){h₁:Heap}(ow:CellsOk h₁ (C+1) (cellsFrom (C+1) scope.names [])):
  (cxComp X scope C fp s₂ H₂ N).Ok:=by
 have lt:∀x c,X.env.cells.lookup x=some c->c<s₂.heap.objs.size:=λx c h=>let ⟨v,q⟩:=I.cell x c h;q.lt
 refine⟨I.ok.mod,S.kind,I.ok.glob,I.ok.blt,hC,λx y c h1 h2=>?_,λx hx=>?_,λx c hf h=>?_,I.ok.hd,I.ok.frames,.inl rfl,λb hb=>⟨?_,λx c h=>?_⟩,λb o e=>I.bs b o e,?_,λb o e hb=>?_,λb hb=>?_,I.stack,I.stkFree⟩
 ·rcases zX ow h1 with⟨m1,_,_,g1⟩|g1<;>rcases zX ow h2 with⟨m2,_,_,g2⟩|g2
  ·exact PySem.name_of_addr ow.apart m1 m2
  ·exact absurd (vL (wK (lt y c g2) hC) g1) (wn _)
  ·exact absurd (vL (wK (lt x c g1) hC) g2) (wn _)
  ·exact I.ok.inj x y c g1 g2
 ·rcases jk hx with hf|hf
  ·obtain⟨c,hc⟩:=S.cells I.ok (x,.free) (qu hf) rfl;exact⟨c,JT S hf hc⟩
  ·obtain⟨c,hc⟩:=R9 (a:=C+1) (qu hf);exact⟨c,by show (jg X scope C).lookup x=_;unfold jg;rw[QA,vS,hc];rfl⟩
 ·have hf':scope.names.lookup x=some .cell:=uU hf;rcases zX ow h with⟨_,_,_,g⟩|g
  ·exact vD (Nat.lt_of_le_of_lt hC g)
  ·unfold cxComp at h;have h:(jg X scope C).lookup x=some c:=h;obtain⟨c',hc'⟩:=R9 (a:=C+1) (qu hf');have e:(jg X scope C).lookup x=some c':=by unfold jg;rw[QA,vS,hc'];rfl
   rw[e]at h;cases h;have:=(ow.empty x c (PySem.mem_of_lookup hc')).2;exact wN hC (Nat.le_of_succ_le this)
 ·obtain⟨o,e,_⟩:=ob b hb;exact wW (wK (Heap.lt_size e) hC)
 ·rcases zX ow h with⟨_,_,_,g⟩|g
  ·obtain⟨o,e,_⟩:=ob b hb;exact vy (vL (wK (Heap.lt_size e) hC) g)
  ·exact(f2 b hb).2.2.2.2.1 x c g
 ·exact wN I.ok.bsz I.sz
 ·rcases(f2 b hb).2.2.2.1 with z|z
  ·exact I.ok.noex b o e z
  ·exact absurd (wK (Heap.lt_size e) (wN I.ok.bsz z)) (wn _)
 ·intro hz;rcases wI.mp (I.stkSub b hz) with e|e
  ·exact(f2 b hb).2.1 e
  ·exact(f2 b hb).2.2.1 e
theorem Jt(S:CompScope X scope N src)(I:Inv X pins σ H₂ s₂)(f2:∀b∈fp,JB X pins H₂ b)(ob:∀b∈fp,∃o,s₂.heap.get? b=some o/\∀v,o.data≠.cell v){C:Addr}{h₁:Heap}{m:Str->Option Value}{tk n:Nat}
  (hC:s₂.heap.objs.size<C) (keep:∀b o,s₂.heap.get? b=some o->h₁.get? b=some o) (hD:h₁.get? s₂.heap.objs.size=some { cls:=.type "list",data:=.seq #[] n }) (hn:h₁.Ns C m) (ow:CellsOk h₁ (C+1) (cellsFrom (C+1) scope.names [])):
  Inv (cxComp X scope C fp s₂ H₂ N) [] (inner src σ) (upd H₂ s₂.heap.objs.size (.lst [])) { s₂ with heap:=h₁,toks:=tk }:=by
 have lt:∀x c,X.env.cells.lookup x=some c->c<s₂.heap.objs.size:=λx c h=>let ⟨v,q⟩:=I.cell x c h;q.lt
 have hfr:H₂ s₂.heap.objs.size=none:=I.hok.fresh (wG _);refine⟨qCs S I f2 ob (vD hC) ow,rfl,I.bare,Un.laid keep (wG _) hfr,⟨m,hn,λi x v e1 e2 e3=>?_⟩,λx c h=>?_,?_,λx c h=>?_,λp hp=>absurd (show p∈([]:List (Addr×Obj)) from hp) (by simp),I.hok.laid keep (wG _) ⟨by simp,[],n,.nil,hD⟩,?_⟩
 ·have e2':(inner src σ)[i]?=some (some v):=e2;unfold inner at e2';rw[vB]at e2';cases q:src[i]? with
  |none=>rw[q]at e2';cases e2'
  |some o=>
   rw[q]at e2';cases o with
   |none=>cases e2'
   |some j=>
    have ej:(σ[j]?).join=some v:=Option.some.inj e2';have ej':σ[j]?=some (some v):=by
     cases z:σ[j]? with
     |none=>rw[z]at ej;cases ej
     |some w=>rw[z]at ej;exact congrArg some ej
    obtain⟨n1,n2⟩:=S.from_ i x j e1 q;obtain⟨m0,hn0,hl⟩:=I.loc;have hfr':=S.frees (x,.free) (qu n2) rfl;obtain⟨u,r,l⟩:=hl j x v n1 ej' (by rcases hfr' with z|z;exact .inr (.inl z);exact .inr (.inr z));refine⟨u,r,.inr ⟨ZD n2,?_⟩⟩;rcases l with⟨k,_⟩|⟨_,c,hc,o,ho,hd⟩
    ·have k':X.env.kindOf x=some .local:=k;rcases hfr' with z|z
     ·have z':X.env.kindOf x=some .cell:=z;rw[k']at z';cases z'
     ·have z':X.env.kindOf x=some .free:=z;rw[k']at z';cases z'
    ·exact⟨c,JT S n2 hc,o,keep c o ho,hd⟩
 ·rcases zX ow h with⟨_,_,g,_⟩|g
  ·exact⟨none,g⟩
  ·obtain⟨v,o,ho,hd⟩:=I.cell x c g;exact⟨v,o,keep c o ho,hd⟩
 ·show upd H₂ s₂.heap.objs.size (.lst []) C=none;rw[qG (vy hC)];exact I.hok.fresh (vD hC)
 ·rcases zX ow h with⟨_,_,_,g⟩|g
  ·rw[qG (vy (vL hC g))];exact I.hok.fresh (vD (vL hC g))
  ·rw[qG (wW (lt x c g))];exact I.freeC x c g
 ·show (inner src σ).length=N.length;unfold inner;rw[wQ,S.len]
theorem B5(I:Inv X pins σ H₂ s₂)(f2:∀b∈fp,JB X pins H₂ b){C:Addr}{pins':List (Addr×Obj)}{σ':St}{H':Hp}{s':Shared}{h':Heap}(hC:s₂.heap.objs.size<=C)(J:Inv (cxComp X scope C fp s₂ H₂ N) pins' σ' H' s')
  (kp:∀b o,b≠C->s'.heap.get? b=some o->h'.get? b=some o):Inv X pins σ H' { s' with heap:=h' }:=by
 have neC:∀b o,s₂.heap.get? b=some o->b≠C:=λb o e=>wW (wK (Heap.lt_size e) hC);have B:=J.base;refine I.call' (s':={ s' with heap:=h' }) (ch:=fp) J.os ⟨λb o e n hb hx=>kp b o (neC b o e) (B.keep b o e n hb hx),λb o e n hb hx=>?_,B.free,λb o e hx=>?_,B.tups,B.frzs,B.tbls⟩ (λa o e=>?_) J.bare λb hb=>⟨(f2 b hb).2.2.2.1,(f2 b hb).2.1,(f2 b hb).2.2.2.2⟩
 ·obtain⟨sl,q⟩:=B.slot b o e n hb hx;exact⟨sl,kp b _ (neC b o e) q⟩
 ·obtain⟨o',q⟩:=B.there b o e hx;exact⟨o',kp b o' (neC b o e) q⟩
 ·have nC:H' C=none:=J.free;have ne:∀b u,H' b=some u->b≠C:=λb u q z=>by rw[z,nC]at q;cases q
  refine(J.hok a o e).stay (λc v hc q=>kp c v ?_ q) (λ_ q=>q) λ_ _ q=>q;rcases hc with z|z
  ·rw[z];exact ne a o e
  ·exact ne c _ z
end
def PTs(X:Cx)(ifs:List Expr)(t:TT):Prop:=
 ∀(pins:List (Addr×Obj)) (s:Shared) (σ:St) (H:Hp) (Q:Bool->Hp->Prop),Inv X pins σ H s->t σ H Q ->
  wpAny (model X.prog X.w) X.A (forIn ifs true λc r=>if r=true then do let ok <- isTrue c X.env (eval c X.env);pure (ForInStep.yield ok) else pure (ForInStep.yield r)) (TP X pins σ Q) X.xe s
theorem pts_nil{X:Cx}:PTs X [] (λ_ H Q=>Q true H):=λpins s σ H Q I h=>uQ ⟨H,I,h⟩
theorem pts_one{X:Cx}{c:Expr}{t:TT}(hc:PT X c t):PTs X [c] t:=by
 intro pins s σ H Q I h;rw[List.forIn_cons];simp only[if_true];refine uP (uP (thn (hc pins s σ H Q I h) λb s1 q=>?_));exact uQ (uQ q)
noncomputable def tComp(wi:TI)(src:List (Option Nat))(g:TG)(tc:TT)(te:TE):TE:=λσ H Q=>wi σ H λJ H1=>∀D,H1 D=none ->
 ∃W:Nat->Nat->List V->St->Hp->Prop,(∃m,W 0 m [] (inner src σ) (upd H1 D (.lst [])))/\∀i m ys σ' H',W i m ys σ' H'->H' D=some (.lst ys) ->
  (J.stop i H'/\Q (.ref D) H')\/
  (J.go i H'/\∀x H2,J.yld i H' x H2->g x σ' H2 λσ3 H3=>tc σ3 H3 λb H4=>
   if b=true then te σ3 H4 λy H5=>H5 D=some (.lst ys)/\ys.length<sizeLine/\∃m',m'<m/\W (i+1) m' (ys++[y]) σ3 (upd H5 D (.lst (ys++[y])))
   else H4 D=some (.lst ys)/\∃m',m'<m/\W (i+1) m' ys σ3 H4)
section
variable{X:Cx}{pins:List (Addr×Obj)}{σ:St}{H₂:Hp}{s₂:Shared}{scope:Scope}{N:List Str}{src:List (Option Nat)}
theorem N7{M:Model}{A:Around}{E:Value->Shared->Prop}{s:Shared}{scope:Scope}{globals:Addr}{cl:List (Str×Addr)}{qual:Str}{env:Env}{Q:Env->Shared->Prop}
  (h:Q (newEnv scope s.heap.objs.size globals (cellsFrom (s.heap.objs.size+1) scope.names cl) qual none .none (some env) builtinsNs) { s with heap:=pushCells (s.heap.push { cls:=.type "dict",data:=.dict #[] }) scope.names }):
  wpAny M A (newFunctionEnv scope globals cl [] qual none .none (some env)) Q E s:=by
 simp only[newFunctionEnv,Option.isSome_some,if_true];refine uP (wpAny_alloc ?_);refine uP (wpAny_layCells _ (λname kind cells=>by cases hkc:kind==NameKind.cell<;>simp[hkc]) _ _ _ _ ?_);rw[show ({ s with heap:=s.heap.push { cls:=.type "dict",data:=.dict #[] } }:Shared).heap.objs.size=s.heap.objs.size+1 from Heap.size_push ..];refine uP ?_;rw[List.forIn_nil];exact uQ (uQ h)
theorem U2{elt tg iter:Expr}{ifs:List Expr}{pos:Pos}{g:TG}{tc:TT}{te:TE}{it:Addr}{fp:List Addr}{tn:Nat->Heap->Prop}{J:It}{Q:VK}{E:Value->Shared->Prop}{RR:Value->Addr->Result->Shared->Prop}
  (hc:X.calm=true) (S:CompScope X scope N src) (I2:Inv X pins σ H₂ s₂) (T:E5 X.prog X.w X.K tg J fp it tn) (st2:tn 0 s₂.heap) (f2:∀b∈fp,JB X pins H₂ b)
  (hg:∀C fp s H,PG (cxComp X scope C fp s H N) tg g) (ht:∀C fp s H,PTs (cxComp X scope C fp s H N) ifs tc) (he:∀C fp s H,PE (cxComp X scope C fp s H N) elt te)
  (h:∀D,H₂ D=none->∃W:Nat->Nat->List V->St->Hp->Prop,(∃m,W 0 m [] (inner src σ) (upd H₂ D (.lst [])))/\∀i m ys σ' H',W i m ys σ' H'->H' D=some (.lst ys) ->
   (J.stop i H'/\Q (.ref D) H')\/
   (J.go i H'/\∀x H2,J.yld i H' x H2->g x σ' H2 λσ3 H3=>tc σ3 H3 λb H4=>
    if b=true then te σ3 H4 λy H5=>H5 D=some (.lst ys)/\ys.length<sizeLine/\∃m',m'<m/\W (i+1) m' (ys++[y]) σ3 (upd H5 D (.lst (ys++[y])))
    else H4 D=some (.lst ys)/\∃m',m'<m/\W (i+1) m' ys σ3 H4))
  (hRR:∀(D C:Addr) (σ':St) (H':Hp) (s':Shared),s₂.heap.objs.size<=C->Inv (cxComp X scope C fp s₂ H₂ N) [] σ' H' s'->Q (.ref D) H'->RR (.ref D) C (.ok .next) s'):
  wpAny (model X.prog X.w) X.A (newList []) (λacc s₃=>wpAny (model X.prog X.w) X.A (newFunctionEnv scope X.env.globals (Y7 X.env.cells scope.names []) [] X.env.qual none .none (some X.env)) (λcenv s₄=>
   codeAny (model X.prog X.w) X.A (.compStart (.ListComp elt [⟨tg,iter,ifs,0⟩] scope pos) 0 (.ref it) acc { cenv with scope:=relabel scope X.env }) (RR acc cenv.locals) s₄) E s₃) E s₂:=by
 refine wpAny_newObj_type (N7 ?_);dsimp only;generalize hH2:s₂.heap.push { cls:=.type "list",dict:=none,data:=.seq ([]:List Value).toArray }=P2;have hC:P2.objs.size=s₂.heap.objs.size+1:=by rw[<-hH2,Heap.size_push]
 have ow:=cellsFrom_ok scope.names (P2.push { cls:=.type "dict",data:=.dict #[] }) (P2.objs.size+1) [] ⟨λ_ _ hm=>(nomatch hm),List.Pairwise.nil⟩ (by rw[Heap.size_push];exact wG _);rw[Heap.size_push]at ow;generalize hh1:pushCells (P2.push { cls:=.type "dict",data:=.dict #[] }) scope.names=h₁ at ow ⊢;have kp:∀b o,P2.get? b=some o->h₁.get? b=some o:=λb o e=>hh1 ▸ pushCells_keeps _ _ b o (Heap.get?_push_of_some _ e);have hns₁:h₁.Ns P2.objs.size (λ_=>none):=hh1 ▸ (Heap.Ns.new P2 (.type "dict")).keeps (pushCells_keeps _ _);have old:∀b o,s₂.heap.get? b=some o->h₁.get? b=some o:=λb o e=>kp b o (hH2 ▸ Heap.get?_push_of_some _ e);have hacc:h₁.get? s₂.heap.objs.size=some { cls:=.type "list",data:=.seq #[] }:=kp _ _ (hH2 ▸ Heap.get?_push_size _ rfl);have st1:tn 0 h₁:=T.keep _ _ _ st2 λb _ o e=>old b o e;have ob:=T.obj _ _ st2;have lt:s₂.heap.objs.size<P2.objs.size:=by rw[hC];exact vb _
 have I3:=Jt (tk:=s₂.toks) S I2 f2 ob lt old hacc hns₁ ow;obtain⟨W,⟨m0,w0⟩,step⟩:=h s₂.heap.objs.size I2.fresh;have fpn:∀b∈fp,b≠s₂.heap.objs.size:=λb hb=>by
  obtain⟨o,e,_⟩:=ob b hb;exact wW (Heap.lt_size e)
 have fok:∀{pins':List (Addr×Obj)}{H':Hp},(∀b∈fp,H' b=none)->(∀p∈pins',p.1∉fp)->∀b∈fp,JB (cxComp X scope P2.objs.size fp s₂ H₂ N) pins' H' b:=λ{pins' H'} hn hp b hb=>by
  have okc:=I3.ok;exact⟨hn b hb,(okc.exf b hb).1,okc.exfs b hb,.inl hb,(okc.exf b hb).2,λp hp' z=>hp p (by simpa [cxComp] using hp') (z ▸ hb)⟩
 have loop:∀s₃:Shared,s₃={ s₂ with heap:=h₁,toks:=s₂.toks } ->
   codeAny (model X.prog X.w) X.A (.compLoop (.ListComp elt [⟨tg,iter,ifs,0⟩] scope pos) 0 (.ref it) (.ref s₂.heap.objs.size) (compEnvC scope (jg X scope P2.objs.size) P2.objs.size X.env))
    (RR (.ref s₂.heap.objs.size) P2.objs.size) s₃:=by
  rintro s₃ rfl;refine codeAny_loop rfl (λn s'=>∃i ys σ' H',Inv (cxComp X scope P2.objs.size fp s₂ H₂ N) [] σ' H' s'/\tn i s'.heap/\(∀b∈fp,H' b=none)/\H' s₂.heap.objs.size=some (.lst ys)/\W i n ys σ' H') (λn s' hI=>?_) m0
   ⟨0,[],inner src σ,_,I3,st1,λb hb=>by rw[qG (fpn b hb)];exact(f2 b hb).1,qE,w0⟩
  obtain⟨i,ys,σ3,H3,J3,st3,fr3,hD3,w3⟩:=hI;show wpAny _ X.A ((compTurn (.ListComp elt [⟨tg,iter,ifs,0⟩] scope pos) 0 (.ref it) (.ref s₂.heap.objs.size) _).onRaise (λx=>do noteFrame x _;theTreesLotGoes x)) _ _ s';refine wpAny_noted ?_;rw[compTurn_list];have never:∀{α:Type}{t:Sem α}{Q1:α->Shared->Prop}{E1:Value->Shared->Prop}{s1:Shared},wpAny (model X.prog X.w) X.A t Q1 (λ_ _=>False) s1->wpAny (model X.prog X.w) X.A t Q1 E1 s1:=λh=>wpAny_mono h (λ_ _ q=>q) λ_ _ f=>f.elim;refine uP (wpAny_standAt (uP ?_));rcases step i n ys σ3 H3 w3 hD3 with⟨stop,qn⟩|⟨go,qFa⟩
  ·refine never (thn (T.done (cxComp X scope P2.objs.size fp s₂ H₂ N) rfl rfl rfl hc i [] s' σ3 H3 _ J3 (fok fr3 (by simp)) st3 stop) λr s4 ⟨hr,I4⟩=>?_);subst hr;exact uQ (hRR _ _ σ3 H3 s4 (vD lt) I4 qn)
  ·refine never (thn (T.item (cxComp X scope P2.objs.size fp s₂ H₂ N) rfl rfl rfl hc i [] s' σ3 H3 _ J3 (fok fr3 (by simp)) st3 go) λr s4 ⟨u,hr,h4⟩=>?_);subst hr;refine uP (never (thn h4 λ_ s5 ⟨x,H5,I5,r5,y5,st5,fr5⟩=>?_));have I5':=I5.pinned (fok fr5 (by simp)) (T.obj _ _ st5);have kept:∀{σ7:St}{H7:Hp}{s7:Shared},Inv (cxComp X scope P2.objs.size fp s₂ H₂ N) ([]++B3 fp s5.heap) σ7 H7 s7->Inv (cxComp X scope P2.objs.size fp s₂ H₂ N) [] σ7 H7 s7/\tn (i+1) s7.heap/\∀b∈fp,H7 b=none:=λ{σ7 H7 s7} I7=>by
    refine⟨I7.unpinned,T.keep _ _ _ st5 λb hb o e=>(I7.pin (b,o) (wV _ (wV _ (jq hb e)))).1,λb hb=>?_⟩;obtain⟨o,e,d⟩:=T.obj _ _ st5 b hb;exact(I7.pin (b,o) (wV _ (wV _ (jq hb e)))).2.1
   refine uP (never (thn (hg _ _ _ _ _ s5 σ3 H5 x u _ I5' r5 (qFa x H5 y5)) λ_ s6 ⟨σ6,H6,I6,q6⟩=>?_));refine uP (never (thn (ht _ _ _ _ _ s6 σ6 H6 _ I6 q6) λb s7 ⟨H7,I7,q7⟩=>?_));cases b with
   |false=>
    rw[if_neg (by decide)]at q7;obtain⟨hD7,m',hm,w7⟩:=q7;obtain⟨I7',st7,fr7⟩:=kept I7;exact uQ ⟨rfl,m',hm,i+1,ys,σ6,H7,I7',st7,fr7,hD7,w7⟩
   |true=>
    rw[if_pos rfl]at q7;refine uP (uP (never (thn (he _ _ _ _ _ s7 σ6 H7 _ I7 q7) λyv s8 ⟨y,H8,I8,r8,hD8,hz,m',hm,w8⟩=>?_)));refine uP (never (thn (mt_append (X:=cxComp X scope P2.objs.size fp s₂ H₂ N) _ s8 σ6 H8 (.ref s₂.heap.objs.size) [y] _ [yv] (λv H'=>v=.non/\H'=upd H8 s₂.heap.objs.size (.lst (ys++[y]))) I8 rfl (.cons r8 .nil) ⟨_,ys,y,rfl,rfl,hD8,hz,rfl,rfl⟩) λ_ s9 ⟨v9,H9,I9,_,_,e9⟩=>?_));subst e9;obtain⟨I9',st9,fr9⟩:=kept I9;exact uQ (uQ ⟨rfl,m',hm,i+1,_,σ6,_,I9',st9,fr9,qE,w8⟩)
 exact codeAny_compStart_list (loop _ rfl) (T.self _ 0 _ _ _ st1 (loop _ rfl))
end
section
variable{X:Cx}{scope:Scope}{N:List Str}{src:List (Option Nat)}{elt tg iter:Expr}{ifs:List Expr}{pos:Pos}{wi:TI}{g:TG}{tc:TT}{te:TE}
theorem pe_comp(hc:X.calm=true)(hi:_P X tg iter wi)(S:CompScope X scope N src)
  (hg:∀C fp s H,PG (cxComp X scope C fp s H N) tg g) (ht:∀C fp s H,PTs (cxComp X scope C fp s H N) ifs tc) (he:∀C fp s H,PE (cxComp X scope C fp s H N) elt te)
  (hs:∀x,foldedSetIterable iter X.env x=pure x:=by intro _;rfl):PE X (.ListComp elt [⟨tg,iter,ifs,0⟩] scope pos) (tComp wi src g tc te):=by
 intro pins s σ H Q I h;rw[eval_ListComp];refine wpAny_comprehension_free (use:=none) rfl hs (jU (S.cells I.ok)) S.kind S.names (thn (hi pins s σ H _ I h) λv s1 h1=>thn h1 λitv s2 h2=>?_);obtain⟨it,fp,tn,J,H2,rfl,I2,T,st2,f2,hW⟩:=h2;refine U2 (Q:=Q) (RR:=λacc C=>compPost (model X.prog X.w) X.A X.xe none (EP X pins σ Q) acc C) hc S I2 T st2 f2 hg ht he hW ?_;intro D C σ' H' s' hC J q;obtain⟨m,hn,_⟩:=id J.loc;exact⟨m,hn,λh' hs'=>⟨.ref D,H',B5 I2 f2 hC J (λb o hb e=>hs'.extBut b o hb e),rfl,q⟩⟩
theorem ps_setcomp{i:Nat}{x:Str}{pos' spos:Pos}(hc:X.calm=true)(hi:_P X tg iter wi)(S:CompScope X scope N src)
  (hg:∀C fp s H,PG (cxComp X scope C fp s H N) tg g) (ht:∀C fp s H,PTs (cxComp X scope C fp s H N) ifs tc) (he:∀C fp s H,PE (cxComp X scope C fp s H N) elt te)
  (hsw:swapsWith (.ListComp elt [⟨tg,iter,ifs,0⟩] scope pos) (some (.Name x pos')) spos.line X.env=pure true)
  (hN:X.N.Nodup) (hx:X.N[i]?=some x) (hl:X.env.scope.names.lookup x=some .local)
  (hs:∀x,foldedSetIterable iter X.env x=pure x:=by intro _;rfl):PS X (.Assign [.Name x pos'] (.ListComp elt [⟨tg,iter,ifs,0⟩] scope pos) spos) (tAsg (tComp wi src g tc te) (qD9 i)):=by
 intro pins s σ H D I h;rw[exec_Assign_Name_used _ _ _ _ hsw];refine uP (wpAny_standAt (uP ?_));show wpAny _ X.A (do let _ <- comprehension (.ListComp elt [⟨tg,iter,ifs,0⟩] scope pos) scope X.env _ (newList []) false (eval iter X.env) (some (assign (.Name x pos') X.env))) _ _ s;refine uP (wpAny_mono (wpAny_comprehension_free (use:=some (assign (.Name x pos') X.env)) (Q:=λ_ s'=>SP X pins D .next s') rfl hs (jU (S.cells I.ok)) S.kind S.names
  (thn (hi pins s σ H _ I h) λv s1 h1=>thn h1 λitv s2 h2=>?_)) (λ_ s' hq=>uQ (uQ hq)) λ_ _ e=>e)
 obtain⟨it,fp,tn,J,H2,rfl,I2,T,st2,f2,hW⟩:=h2;refine U2 (Q:=λv H'=>D.nx (σ.set i (some v)) H') (RR:=λacc C=>compPost (model X.prog X.w) X.A X.xe (some (assign (.Name x pos') X.env)) (λ_ s'=>SP X pins D .next s') acc C) hc S I2 T st2 f2 hg ht he hW ?_;intro L C σ' H' s' hC J q;obtain⟨m,hn,_⟩:=id J.loc;have I3:Inv X pins σ H' s':=B5 (h':=s'.heap) I2 f2 hC J (λb o hb e=>e);show wpAny _ X.A (assign (.Name x pos') X.env (.ref L)) _ _ _;have nL:X.env.locals≠C:=wW (wK I2.lt hC);refine wpAny_assign_Name (D2 I3 hN hx (.inl hl) (show RelV (.ref L) (.ref L) from rfl) (λs4 I4 hsb=>?_) (.inr hl));obtain⟨a,sb,ha⟩:=hsb;have ha':a≠C:=by
  rcases ha with z|z
  ·rw[z];exact nL
  ·obtain⟨v,hv⟩:=I2.cell x a z;exact wW (wK hv.lt hC)
 refine⟨m,hn.sameBut sb (Ne.symm ha'),λh5 sb5=>?_⟩;have I5:Inv X pins (σ.set i (some (V.ref L))) H' { s4 with heap:=h5,toks:=s4.toks }:=I4.turned (it:=C) (λb o hb e=>sb5.extBut b o hb e) J.free (Ne.symm nL) (.inr (wN I2.sz hC)) (λy c e z=>by
   obtain⟨v,hv⟩:=I2.cell y c e;exact absurd (wK hv.lt (by rw[z];exact hC)) (wn _)) λp hp z=>absurd (wK (Heap.lt_size (I2.pin p hp).1) (by rw[z];exact hC)) (wn _)
 exact⟨_,H',I5,q⟩
end
end _L
namespace _P
open _L (V Key)
open PySem (Str)
inductive BOp|add|sub|mul|fdiv|mod|pow|band
 deriving DecidableEq
inductive COp|lt|le|gt|ge|eq|ne|inn|notin|is|isnot
 deriving DecidableEq
inductive BF|len|sum|all|any|max|min|list|int|repr|bits|maxl
 deriving DecidableEq
inductive Mt|cnt
 deriving DecidableEq
inductive Tg|name(i:Nat)|tup(is:List Nat)
 deriving DecidableEq
set_option genInjectivity false
mutual
inductive E
 |var (i:Nat)|cst (v:V)|glob (g:Nat)
 |bin (op:BOp) (a b:E)|neg (a:E)
 |cmp (op:COp) (a b:E)|cmp2 (o1 o2:COp) (a b c:E)
 |and (a b:E)|or (a b:E)|not (a:E)|ite (c a b:E)
 |call (f:Nat) (as:Es)|blt (f:BF) (as:Es)|isi (a:E) (ts:List String)
 |idx (a b:E)|sl (a:E) (lo hi:Es)|rev (a:E)  | lst (as:Es)|tup (as:Es)
 |comp (it:Itr) (src:List (Option Nat)) (g:Tg) (c:Es) (e:E)
 |app (a b:E)|lrng (a:E)|dnew|meth (m:Mt) (a:E) (as:Es)     | nset (a:E)|sset (a:E)
inductive Es|nil|cons(a:E)(as:Es)
inductive Itr|list(a:E)|rng1(a:E)|rng2(a b:E)|zip(a b:E)
end
mutual
inductive S
 |asg (g:Tg) (e:E)  | put (o i v:E)
 |expr (e:E)|ret (e:E)  | ifs (c:E) (t u:Ss)
 |for_ (g:Tg) (it:Itr) (b:Ss)     | stop
inductive Ss|nil|cons(s:S)(r:Ss)
end
set_option genInjectivity true
noncomputable def Es.snoc:Es->E->Es
 | .nil,e=>.cons e .nil
 | .cons a as,e=>.cons a (Es.snoc as e)
inductive Ob|dct(kvs:List (Int×V))|exn(c:Str)
 deriving DecidableEq
inductive O|lst(fz:Bool)(xs:List V)|tup(xs:List V)|ob(o:Ob)
 deriving DecidableEq
noncomputable abbrev AH:=List O
noncomputable abbrev St:=List (Option V)
inductive Res(α:Type)|ok(a:α)|exc(c:Nat)(h:AH)|stuck
noncomputable def Res.bind{α β:Type}:Res α->(α->Res β)->Res β
 | .ok a,f=>f a
 | .exc c h,_=>.exc c h
 | .stuck,_=>.stuck
noncomputable def Res.nx{α:Type}:Res α->Res α
 | .ok a=>.ok a
 | .exc _ _=>.stuck
 | .stuck=>.stuck
@[simp] theorem tH{α β:Type}(a:α)(f:α->Res β):(Res.ok a).bind f=f a:=rfl
noncomputable abbrev RV:=Res (V×AH)
noncomputable def items(h:AH)(a:Nat):Option (List V):=match h[a]? with
 |some (.lst _ xs)=>some xs
 |some (.tup xs)=>some xs
 |_=>none
noncomputable def qN(h:AH)(a:Nat):Option (List V):=match h[a]? with
 |some (.lst _ xs)=>some xs
 |_=>none
noncomputable def qh(h:AH)(a:Nat):Option (List V):=match h[a]? with
 |some (.tup xs)=>some xs
 |_=>none
noncomputable def L7(h:AH)(a:Nat):Option (List (Int×V)):=match h[a]? with
 |some (.ob (.dct kvs))=>some kvs
 |_=>none
noncomputable def qDh(kvs:List (Int×V))(k:Int):Bool:=kvs.any λp=>decide (p.1=k)
noncomputable def qGU(kvs:List (Int×V))(k:Int)(v:V):List (Int×V):=if qDh kvs k=true then kvs.map (λp=>if p.1=k then (p.1,v) else p) else kvs++[(k,v)]
noncomputable def qFU(h:AH)(a:Nat):Option Str:=match h[a]? with
 |some (.ob (.exn c))=>some c
 |_=>none
noncomputable def zY(h:AH)(a:Nat):Option (List V):=match h[a]? with
 |some (.lst false xs)=>some xs
 |_=>none
noncomputable def lim:Nat:=100000
noncomputable def newL(xs:List V)(h:AH):RV:=.ok (.ref h.length,h++[.lst false xs])
noncomputable def newT(xs:List V)(h:AH):RV:=.ok (.ref h.length,h++[.tup xs])
noncomputable def flat:V->Bool
 | .non=>true | .bl _=>true | .int _=>true | .str _=>true|_=>false
noncomputable def eqF:V->V->Option Bool
 | .int i,.int j=>some (i==j)
 | .bl i,.bl j=>some (i==j)
 | .str i,.str j=>some (i==j)
 | .non,.non=>some true
 | .int i,.bl b=>some (i==(if b then 1 else 0))
 | .bl b,.int i=>some ((if b then 1 else 0)==i)
 | .non,.int _=>some false | .int _,.non=>some false
 | .non,.bl _=>some false | .bl _,.non=>some false
 | .non,.str _=>some false | .str _,.non=>some false
 | .int _,.str _=>some false | .str _,.int _=>some false
 | .bl _,.str _=>some false | .str _,.bl _=>some false
 |_,_=>none
noncomputable def JC(f:V->V->Option Bool):List V->List V->Option (List Bool)
 | [],[]=>some []
 |x::xs,y::ys=>match f x y,JC f xs ys with
  |some b,some bs=>some (b::bs)
  |_,_=>none
 |_,_=>none
noncomputable def eqD(h:AH):Nat->V->V->Option Bool
 | 0,x,y=>eqF x y
 |n+1,.ref a,.ref b=>match h[a]?,h[b]? with
  |some (.lst _ xs),some (.lst _ ys)=>if a=b then some true else if xs.length=ys.length then (JC (eqD h n) xs ys).map λbs=>bs.all id else some false
  |some (.tup xs),some (.tup ys)=>if a=b then some true else if xs.length=ys.length then (JC (eqD h n) xs ys).map λbs=>bs.all id else (JC (eqD h n) (xs.take ys.length) (ys.take xs.length)).map λ_=>false
  |some (.lst _ _),some (.tup _)=>some false
  |some (.tup _),some (.lst _ _)=>some false
  |_,_=>none
 |_+1,.ref a,y=>if (items h a).isSome&&flat y then some false else none
 |_+1,x,.ref b=>if flat x&&(items h b).isSome then some false else none
 |_+1,x,y=>eqF x y
noncomputable abbrev ixN(n:Nat)(i:Int):Option Nat:=_L.ixN n i
noncomputable abbrev cut(xs:List V)(lo hi:Option Int):List V:=_L.cutV xs lo hi
noncomputable def two64:Int:=18446744073709551616
noncomputable def ZK(i:Int):Bool:=decide (-two64<i/\i<two64)
noncomputable def mid(i:Int):Bool:=decide (i.natAbs.log2<9000)
noncomputable def qAI(x y:V)(f:Int->Int->RV):RV:=match x with
 | .int i=>(match y with | .int j=>f i j|_=>.stuck)
 |_=>.stuck
theorem zm{x y:V}{f:Int->Int->RV}{r:V×AH}(e:qAI x y f=.ok r):∃i j,x=.int i/\y=.int j/\f i j=.ok r:=by
 unfold qAI at e;split at e
 ·split at e
  ·exact⟨_,_,rfl,rfl,e⟩
  ·cases e
 ·cases e
noncomputable def qAR(x:V)(f:Nat->RV):RV:=match x with
 | .ref a=>f a
 |_=>.stuck
theorem jB{x:V}{f:Nat->RV}{r:V×AH}(e:qAR x f=.ok r):∃a,x=.ref a/\f a=.ok r:=by
 unfold qAR at e;split at e
 ·exact⟨_,rfl,e⟩
 ·cases e
noncomputable def qFc:BOp->V->V->AH->RV
 | .add,x,y,h=>(match x with
  | .ref a=>qAR y λb=>(match zY h a,zY h b with
   |some xs,some ys=>if xs.length+ys.length<=lim then newL (xs++ys) h else .stuck
   |_,_=>(match qh h a,qh h b with
    |some xs,some ys=>if xs≠[]/\xs.length+ys.length<=lim then (if ys=[] then .ok (.ref a,h) else newT (xs++ys) h) else .stuck
    |_,_=>.stuck))
  |x=>qAI x y λi j=>.ok (.int (i+j),h))
 | .sub,x,y,h=>qAI x y λi j=>.ok (.int (i-j),h)
 | .mul,x,y,h=>(match x with
  | .ref a=>(match y with
   | .int k=>(match zY h a with
    |some xs=>if 0<=k/\xs.length*k.toNat<=lim/\k<1000000 then newL (List.replicate k.toNat xs).flatten h else .stuck
    |none=>.stuck)
   |_=>.stuck)
  |x=>qAI x y λi j=>if ZK i||ZK j||(mid i&&mid j) then .ok (.int (i*j),h) else .stuck)
 | .fdiv,x,y,h=>qAI x y λi j=>if 0<j/\(j<1073741824\/mid j=true) then .ok (.int (i / j),h) else if j<0/\mid j=true then .ok (.int (i.fdiv j),h) else .stuck
 | .mod,x,y,h=>qAI x y λi j=>if 0<j then .ok (.int (i % j),h) else if j<0 then .ok (.int (i.fmod j),h) else .stuck
 | .pow,x,y,h=>qAI x y λi j=>if 0<=j/\j<=1000/\i.natAbs<18446744073709551616 then .ok (.int (i ^ j.toNat),h) else .stuck
 | .band,x,y,h=>qAI x y λi j=>.ok (.int (PySem.Builtin.bitAnd i j),h)
noncomputable def qDc(x y:V)(f:Int->Int->Bool):Option Bool:=match x with
 | .int i=>(match y with | .int j=>some (f i j)|_=>none)
 |_=>none
theorem ZM{x y:V}{f:Int->Int->Bool}{r:Bool}(e:qDc x y f=some r):∃i j,x=.int i/\y=.int j/\f i j=r:=by
 unfold qDc at e;split at e
 ·split at e
  ·exact⟨_,_,rfl,rfl,Option.some.inj e⟩
  ·cases e
 ·cases e
noncomputable def qBX(y:V)(f:Nat->Option Bool):Option Bool:=match y with
 | .ref a=>f a
 |_=>none
theorem P6{y:V}{f:Nat->Option Bool}{r:Bool}(e:qBX y f=some r):∃a,y=.ref a/\f a=some r:=by
 unfold qBX at e;split at e
 ·exact⟨_,rfl,e⟩
 ·cases e
noncomputable def isC(x y:V)(f:Bool->Bool):Option Bool:=match y with
 | .non=>some (f (decide (x=.non)))
 | .bl d=>(match x with | .bl c=>some (f (c==d))|_=>none)
 |_=>none
theorem u7{x y:V}{f:Bool->Bool}{r:Bool}(e:isC x y f=some r):(y=.non/\f (decide (x=.non))=r)\/∃c d,x=.bl c/\y=.bl d/\f (c==d)=r:=by
 unfold isC at e;split at e
 ·exact .inl ⟨rfl,Option.some.inj e⟩
 ·split at e
  ·exact .inr ⟨_,_,rfl,rfl,Option.some.inj e⟩
  ·cases e
 ·cases e
noncomputable def qAW:COp->V->V->AH->Option Bool
 | .lt,x,y,_=>qDc x y λi j=>decide (i<j)
 | .le,x,y,_=>qDc x y λi j=>decide (i<=j)
 | .gt,x,y,_=>qDc x y λi j=>decide (j<i)
 | .ge,x,y,_=>qDc x y λi j=>decide (j<=i)
 | .eq,x,y,h=>eqD h 4 x y
 | .ne,x,y,h=>(eqD h 4 x y).map (!·)
 | .inn,x,y,h=>qBX y λa=>(match items h a with
  |some xs=>if flat x&&xs.all flat then some (xs.any λy=>_L.eqV y x) else none
  |none=>match L7 h a with
   |some kvs=>(match x with | .int i=>some (qDh kvs i)|_=>none)
   |none=>none)
 | .notin,x,y,h=>qBX y λa=>(match items h a with
  |some xs=>if flat x&&xs.all flat then some (!(xs.any λy=>_L.eqV y x)) else none
  |none=>match L7 h a with
   |some kvs=>(match x with | .int i=>some (!qDh kvs i)|_=>none)
   |none=>none)
 | .is,x,y,_=>isC x y id
 | .isnot,x,y,_=>isC x y (!·)
noncomputable def qDe(op:COp)(x y:V)(h:AH):RV:=match qAW op x y h with
 |some b=>.ok (.bl b,h)
 |none=>.stuck
noncomputable def jN:List V->Option (List Int)
 | []=>some []
 | .int i::r=>(jN r).map (i::·)
 |_::_=>none
noncomputable def QD:List V->Option (List Bool)
 | []=>some []
 | .bl b::r=>(QD r).map (b::·)
 |_::_=>none
noncomputable def jm:List V->Option (List Int)
 | []=>some []
 | .int i::r=>(jm r).map (i::·)
 | .bl b::r=>(jm r).map ((if b=true then 1 else 0)::·)
 |_::_=>none
noncomputable def QB(lo:Int)(n:Nat):List V:=(List.range n).map λ(i:Nat)=>V.int (lo+(i:Int))
noncomputable def uniq(is:List Int):List Int:=is.foldl PyProof.Rows.step_dedup []
noncomputable def qBC(is:List Int):Nat:=(is.foldl PyProof.Rows.step_dedup []).length
noncomputable def ins(x:Int):List Int->List Int
 | []=>[x]
 |y::r=>if x<=y then x::y::r else y::ins x r
noncomputable def jy:List Int->List Int
 | []=>[]
 |x::r=>ins x (jy r)
theorem Jg(x:Int):∀l,(ins x l).Perm (x::l)
 | []=>.refl _
 |y::r=>by
  unfold ins;split
  ·exact .refl _
  ·exact((Jg x r).cons y).trans (.swap x y r)
theorem jL:∀l,(jy l).Perm l
 | []=>.refl _
 |x::r=>(Jg x _).trans ((jL r).cons x)
theorem qBU(x:Int):∀l:List Int,l.Pairwise (·<=·)->(ins x l).Pairwise (·<=·)
 | [],_=>List.pairwise_singleton _ _
 |y::r,h=>by
  obtain⟨h1,h2⟩:=vT.mp h;unfold ins;split
  ·rename_i q;refine vT.mpr ⟨λz hz=>?_,h⟩;rcases wI.mp hz with rfl|hz
   ·exact q
   ·exact Int.le_trans q (h1 z hz)
  ·rename_i q;refine vT.mpr ⟨λz hz=>?_,qBU x r h2⟩;rcases wI.mp ((Jg x r).mem_iff.mp hz) with rfl|hz
   ·omega
   ·exact h1 z hz
theorem Q0:∀l:List Int,(jy l).Pairwise (·<=·)
 | []=>.nil
 |x::r=>qBU x _ (Q0 r)
theorem O2:∀{a b:List Int},a.Pairwise (·<=·)->b.Pairwise (·<=·)->a.Perm b->a=b
 | [],b,_,_,p=>(List.Perm.eq_nil p.symm).symm
 |x::a,[],_,_,p=>absurd p.length_eq (by simp)
 |x::a,y::b,ha,hb,p=>by
  obtain⟨a1,a2⟩:=vT.mp ha;obtain⟨b1,b2⟩:=vT.mp hb;have e:x=y:=by
   have m1:x∈y::b:=p.mem_iff.mp (wO ..);have m2:y∈x::a:=p.mem_iff.mpr (wO ..);rcases wI.mp m1 with h|h
   ·exact h
   ·rcases wI.mp m2 with h' | h'
    ·exact h'.symm
    ·have:=a1 y h';have:=b1 x h;omega
  subst e;rw[O2 a2 b2 (List.Perm.cons_inv p)]
noncomputable def qDV:List Int->Option Int
 | []=>none
 |x::r=>match qDV r with|some y=>some (if x<=y then y else x)|none=>some x
theorem m6:∀{l:List Int}{k:Int},qDV l=some k->k∈l/\∀a∈l,a<=k
 | [],k,e=>by cases e
 |x::r,k,e=>by
  unfold qDV at e;split at e
  ·rename_i y ey;obtain⟨h1,h2⟩:=m6 ey;cases e;split
   ·rename_i q;exact⟨wH _ h1,λa ha=>by rcases wI.mp ha with rfl|ha;exact q;exact h2 a ha⟩
   ·rename_i q;exact⟨wO ..,λa ha=>by rcases wI.mp ha with rfl|ha;exact Int.le_refl _;have:=h2 a ha;omega⟩
  ·rename_i ey;cases e;cases r with
   |nil=>exact⟨wO ..,λa ha=>by rw[wU.mp ha];exact Int.le_refl _⟩
   |cons z r=>unfold qDV at ey;split at ey<;>cases ey
noncomputable def one(as:List V)(f:V->RV):RV:=match as with
 | [a]=>f a
 |_=>.stuck
theorem jQ{as:List V}{f:V->RV}{r:V×AH}(e:one as f=.ok r):∃a,as=[a]/\f a=.ok r:=by
 unfold one at e;split at e
 ·exact⟨_,rfl,e⟩
 ·cases e
noncomputable def two(as:List V)(f:V->V->RV):RV:=match as with
 | [a,b]=>f a b
 |_=>.stuck
theorem two_inv{as:List V}{f:V->V->RV}{r:V×AH}(e:two as f=.ok r):∃a b,as=[a,b]/\f a b=.ok r:=by
 unfold two at e;split at e
 ·exact⟨_,_,rfl,e⟩
 ·cases e
noncomputable def qBe:V->Option PySem.PyData
 | .non=>some .none
 | .bl b=>some (.bool b)
 | .int i=>some (.int i)
 | .str x=>some (.str x)
 |_=>none
noncomputable def U8(f:V->Option PySem.PyData):List V->Option (List PySem.PyData)
 | []=>some []
 |x::r=>(f x).bind λd=>(U8 f r).map λds=>d::ds
noncomputable def dat(h:AH):Nat->V->Option PySem.PyData
 | 0,x=>qBe x
 |n+1,x=>match x with
  | .ref a=>(match h[a]? with
   |some (.lst _ xs)=>(U8 (dat h n) xs).map .list
   |some (.tup xs)=>(U8 (dat h n) xs).map .tuple
   |some (.ob (.dct []))=>some (.dict [])
   |_=>none)
  |y=>qBe y
noncomputable def Y4(d:PySem.PyData):Option V:=if d.showable=true/\d.shown.length<=PySem.sizeLine then some (.str d.shown) else none
noncomputable def qGk(h:AH)(x:V):Option PySem.PyData:=dat h 5 x
noncomputable def qFn(h:AH)(x:V):RV:=match (qGk h x).bind Y4 with
 |some v=>.ok (v,h)
 |none=>.stuck
noncomputable def qFv:BF->List V->AH->RV
 | .len,as,h=>one as λx=>qAR x λa=>(match items h a with|some xs=>.ok (.int xs.length,h)|none=>.stuck)
 | .sum,as,h=>one as λx=>qAR x λa=>(match qN h a with
  |some xs=>match jm xs with|some is=>.ok (.int is.sum,h)|none=>.stuck
  |none=>.stuck)
 | .all,as,h=>one as λx=>qAR x λa=>(match qN h a with
  |some xs=>match QD xs with|some bs=>.ok (.bl (bs.all id),h)|none=>.stuck
  |none=>.stuck)
 | .any,as,h=>one as λx=>qAR x λa=>(match qN h a with
  |some xs=>match QD xs with|some bs=>.ok (.bl (bs.any id),h)|none=>.stuck
  |none=>.stuck)
 | .max,as,h=>two as λx y=>qAI x y λi j=>.ok (.int (if j>i then j else i),h)
 | .min,as,h=>two as λx y=>qAI x y λi j=>.ok (.int (if j<i then j else i),h)
 | .list,as,h=>one as λx=>qAR x λa=>(match items h a with|some xs=>newL xs h|none=>.stuck)
 | .int,as,h=>one as λx=>(match x with | .int i=>.ok (.int i,h) | .bl b=>.ok (.int (if b then 1 else 0),h)|_=>.stuck)
 | .maxl,as,h=>one as λx=>qAR x λa=>(match qN h a with
  |some xs=>match (jN xs).bind qDV with|some k=>.ok (.int k,h)|none=>.stuck
  |none=>.stuck)
 | .bits,as,h=>one as λx=>(match x with | .int i=>.ok (.int ((PySem.Builtin.Int.intBits i:Nat):Int),h)|_=>.stuck)
 | .repr,as,h=>one as λx=>qFn h x
noncomputable def qD8:Mt->Nat->List V->AH->RV
 | .cnt,p,[y],h=>match zY h p with
  |some xs=>if (flat y&&xs.all flat)=true then .ok (.int (xs.countP λz=>_L.eqV z y),h) else .stuck
  |none=>.stuck
 |_,_,_,_=>.stuck
noncomputable def jW(h:AH):V->Option String
 | .non=>some "NoneType"
 | .bl _=>some "bool"
 | .int _=>some "int"
 | .str _=>some "str"
 | .ref a=>match h[a]? with|some (.lst _ _)=>some "list" | some (.tup _)=>some "tuple" | some (.ob (.dct _))=>some "dict" | _=>none
 |_=>none
noncomputable def je(t c:String):Bool:=t==c||(t=="bool"&&c=="int")
inductive Src|list(a:Nat)|tupl(a:Nat)|rng(lo:Int)(n:Nat)|zip(a b:Nat)
noncomputable def qAM(h:AH):Src->Option Nat
 | .list a=>(qN h a).map List.length
 | .tupl a=>(qh h a).map List.length
 | .rng _ n=>some n
 | .zip a b=>match qN h a,qN h b with|some xs,some ys=>some (min xs.length ys.length)|_,_=>none
noncomputable def zU(h:AH)(i:Nat):Src->Option (V×AH)
 | .list a=>match qN h a with|some xs=>xs[i]?.map λx=>(x,h)|none=>none
 | .tupl a=>match qh h a with|some xs=>xs[i]?.map λx=>(x,h)|none=>none
 | .rng lo n=>if i<n then some (.int (lo+(i:Int)),h) else none
 | .zip a b=>match qN h a,qN h b with
  |some xs,some ys=>match xs[i]?,ys[i]? with|some x,some y=>some (.ref h.length,h++[.tup [x,y]])|_,_=>none
  |_,_=>none
noncomputable def QT(h:AH)(i:Nat):Src->Bool
 | .list a=>match qN h a with|some xs=>decide (xs.length<=i)|none=>false
 | .tupl a=>match qh h a with|some xs=>decide (xs.length<=i)|none=>false
 | .rng _ n=>decide (n<=i)
 | .zip a b=>match qN h a,qN h b with|some xs,some ys=>decide (xs.length<=i\/ys.length<=i)|_,_=>false
noncomputable def JI:List Nat->List V->St->Option St
 | [],[],σ=>some σ
 |i::is,x::xs,σ=>JI is xs (σ.set i (some x))
 |_,_,_=>none
noncomputable def store:Tg->V->St->AH->Option St
 | .name i,v,σ,_=>some (σ.set i (some v))
 | .tup is,.ref a,σ,h=>match qh h a with|some xs=>JI is xs σ | none=>none
 | .tup _,_,_,_=>none
noncomputable def F9(s:Src)(g:Tg)(c:St->AH->Res (Bool×AH))(e:St->AH->RV)(D:Nat):Nat->Nat->List V->St->AH->RV
 | 0,i,_,_,h=>if QT h i s then .ok (.ref D,h) else .stuck
 |n+1,i,ys,σ,h=>match zU h i s with
  |some (x,h1)=>match store g x σ h1 with
   |some σ1=>(c σ1 h1).bind λ(b,h2)=>
    if b then (e σ1 h2).bind λ(y,h3)=>if h3[D]?=some (.lst false ys)/\ys.length<lim then F9 s g c e D n (i+1) (ys++[y]) σ1 (h3.set D (.lst false (ys++[y]))) else .stuck
    else if h2[D]?=some (.lst false ys) then F9 s g c e D n (i+1) ys σ1 h2 else .stuck
   |none=>.stuck
  |none=>.stuck
noncomputable def asB(r:RV):Res (Bool×AH):=r.bind λ(v,h)=>match v with | .bl b=>.ok (b,h)|_=>.stuck
section
variable (F:Nat->List V->AH->RV)
mutual
noncomputable def ev:E->St->AH->RV
 | .var i=>λσ h=>match σ[i]? with|some (some v)=>.ok (v,h)|_=>.stuck
 | .cst v=>λ_ h=>.ok (v,h)
 | .glob g=>λ_ h=>.ok (.ref g,h)
 | .bin op a b=>λσ h=>(ev a σ h).bind λ(x,h1)=>(ev b σ h1).bind λ(y,h2)=>qFc op x y h2
 | .neg a=>λσ h=>(ev a σ h).bind λ(x,h1)=>match x with | .int i=>.ok (.int (-i),h1)|_=>.stuck
 | .cmp op a b=>λσ h=>(ev a σ h).bind λ(x,h1)=>(ev b σ h1).bind λ(y,h2)=>qDe op x y h2
 | .cmp2 o1 o2 a b c=>λσ h=>(ev a σ h).bind λ(x,h1)=>(ev b σ h1).bind λ(y,h2)=>match qAW o1 x y h2 with
  |some true=>(ev c σ h2).bind λ(z,h3)=>qDe o2 y z h3
  |some false=>.ok (.bl false,h2)
  |none=>.stuck
 | .and a b=>λσ h=>(asB (ev a σ h)).bind λ(x,h1)=>if x then ev b σ h1 else .ok (.bl false,h1)
 | .or a b=>λσ h=>(asB (ev a σ h)).bind λ(x,h1)=>if x then .ok (.bl true,h1) else ev b σ h1
 | .not a=>λσ h=>(asB (ev a σ h)).bind λ(x,h1)=>.ok (.bl (!x),h1)
 | .ite c a b=>λσ h=>(asB (ev c σ h)).bind λ(x,h1)=>if x then ev a σ h1 else ev b σ h1
 | .call f as=>λσ h=>(evs as σ h).bind λ(xs,h1)=>(F f xs h1).nx
 | .blt f as=>λσ h=>(evs as σ h).bind λ(xs,h1)=>qFv f xs h1
 | .isi a ts=>λσ h=>(ev a σ h).bind λ(x,h1)=>match jW h1 x with|some t=>.ok (.bl (ts.any (je t)),h1)|none=>.stuck
 | .idx a b=>λσ h=>(ev a σ h).bind λ(x,h1)=>(ev b σ h1).bind λ(y,h2)=>match x,y with
  | .ref p,.int i=>match items h2 p with
   |some xs=>match (ixN xs.length i).bind λj=>xs[j]? with|some v=>.ok (v,h2)|none=>.stuck
   |none=>.stuck
  |_,_=>.stuck
 | .rev a=>λσ h=>(ev a σ h).bind λ(x,h1)=>qAR x λp=>(match qN h1 p with|some xs=>newL xs.reverse h1|none=>.stuck)
 | .sl a lo hi=>λσ h=>(ev a σ h).bind λ(x,h1)=>(evs lo σ h1).bind λ(l,h2)=>(evs hi σ h2).bind λ(u,h3)=>
  match x,jN l,jN u with
  | .ref p,some l,some u=>match qN h3 p with
   |some xs=>newL (cut xs l.head? u.head?) h3
   |none=>match qh h3 p with
    |some xs=>if _H.sIx xs.length 0 l.head?=0/\_H.sIx xs.length xs.length u.head?=xs.length then .stuck else newT (cut xs l.head? u.head?) h3
    |none=>.stuck
  |_,_,_=>.stuck
 | .lst as=>λσ h=>(evs as σ h).bind λ(xs,h1)=>if xs.length<=lim then newL xs h1 else .stuck
 | .tup as=>λσ h=>(evs as σ h).bind λ(xs,h1)=>if xs.length<=lim then newT xs h1 else .stuck
 | .comp it src g c e=>λσ h=>(evi it σ h).bind λ(s,h1)=>match qAM (h1++[.lst false []]) s with
  |some n=>F9 s g (evc c) (ev e) h1.length n 0 [] (_L.inner src σ) (h1++[.lst false []])
  |none=>.stuck
 | .app a b=>λσ h=>(ev a σ h).bind λ(x,h1)=>match x with
  | .ref p=>(match qN h1 p with
   |some _=>(ev b σ h1).bind λ(y,h2)=>match zY h2 p with
    |some xs=>if xs.length<lim then .ok (.non,h2.set p (.lst false (xs++[y]))) else .stuck
    |none=>.stuck
   |none=>.stuck)
  |_=>.stuck
 | .sset a=>λσ h=>(ev a σ h).bind λ(x,h1)=>match x with | .ref p=>(match qN h1 p with|some ys=>(match jN ys with|some is=>if is.length<64 then newL ((jy (uniq is)).map V.int) h1 else .stuck|none=>.stuck)|none=>.stuck)|_=>.stuck
 | .nset a=>λσ h=>(ev a σ h).bind λ(x,h1)=>match x with | .ref p=>(match qN h1 p with|some ys=>(match jN ys with|some is=>if is.length<1000 then .ok (.int ((qBC is:Nat):Int),h1) else .stuck|none=>.stuck)|none=>.stuck)|_=>.stuck
 | .lrng a=>λσ h=>(ev a σ h).bind λ(x,h1)=>match x with | .int j=>if -1000000<=j/\j<=100000 then newL (QB 0 j.toNat) h1 else .stuck|_=>.stuck
 | .dnew=>λ_ h=>.ok (.ref h.length,h++[.ob (.dct [])])
 | .meth m a as=>λσ h=>(ev a σ h).bind λ(x,h1)=>match x with
  | .ref p=>(match qN h1 p with
   |some _=>(evs as σ h1).bind λ(ys,h2)=>qD8 m p ys h2
   |none=>.stuck)
  |_=>.stuck
noncomputable def evs:Es->St->AH->Res (List V×AH)
 | .nil=>λ_ h=>.ok ([],h)
 | .cons a as=>λσ h=>(ev a σ h).bind λ(x,h1)=>(evs as σ h1).bind λ(xs,h2)=>.ok (x::xs,h2)
noncomputable def evc:Es->St->AH->Res (Bool×AH)
 | .nil=>λ_ h=>.ok (true,h)
 | .cons a _=>λσ h=>asB (ev a σ h)
noncomputable def evi:Itr->St->AH->Res (Src×AH)
 | .list a=>λσ h=>(ev a σ h).bind λ(x,h1)=>match x with | .ref p=>(match h1[p]? with|some (.lst _ _)=>.ok (.list p,h1)|some (.tup _)=>.ok (.tupl p,h1)|_=>.stuck)|_=>.stuck
 | .rng1 a=>λσ h=>(ev a σ h).bind λ(x,h1)=>match x with | .int j=>if -1000000<=j/\j<=1000000 then .ok (.rng 0 j.toNat,h1) else .stuck|_=>.stuck
 | .rng2 a b=>λσ h=>(ev a σ h).bind λ(x,h1)=>(ev b σ h1).bind λ(y,h2)=>match x,y with
  | .int i,.int j=>if (-1000000<=i/\i<=1000000)/\-1000000<=j/\j<=1000000 then .ok (.rng i (j-i).toNat,h2) else .stuck
  |_,_=>.stuck
 | .zip a b=>λσ h=>(ev a σ h).bind λ(x,h1)=>(ev b σ h1).bind λ(y,h2)=>match x,y with
  | .ref p,.ref q=>match qN h2 p,qN h2 q with|some _,some _=>.ok (.zip p q,h2)|_,_=>.stuck
  |_,_=>.stuck
end
inductive Out|nx(σ:St)|rt(v:V)|bk(σ:St)|ct(σ:St)
noncomputable abbrev RS:=Res (Out×AH)
noncomputable def qAS(s:Src)(g:Tg)(b:St->AH->RS):Nat->Nat->St->AH->RS
 | 0,i,σ,h=>if QT h i s then .ok (.nx σ,h) else .stuck
 |n+1,i,σ,h=>match zU h i s with
  |some (x,h1)=>match store g x σ h1 with
   |some σ1=>(b σ1 h1).bind λ(o,h2)=>match o with
    | .nx σ2=>qAS s g b n (i+1) σ2 h2
    | .ct σ2=>qAS s g b n (i+1) σ2 h2
    | .bk σ2=>.ok (.nx σ2,h2)
    | .rt v=>.ok (.rt v,h2)
   |none=>.stuck
  |none=>.stuck
mutual
noncomputable def ex:S->St->AH->RS
 | .asg g e=>λσ h=>(ev F e σ h).bind λ(x,h1)=>match store g x σ h1 with|some σ1=>.ok (.nx σ1,h1)|none=>.stuck
 | .put o i v=>λσ h=>(ev F v σ h).bind λ(x,h1)=>(ev F o σ h1).bind λ(p,h2)=>(ev F i σ h2).bind λ(k,h3)=>match p,k with
  | .ref a,.int k=>match zY h3 a with
   |some xs=>match ixN xs.length k with|some j=>.ok (.nx σ,h3.set a (.lst false (xs.set j x)))|none=>.stuck
   |none=>match L7 h3 a with
    |some kvs=>if flat x=true/\kvs.length<lim then .ok (.nx σ,h3.set a (.ob (.dct (qGU kvs k x)))) else .stuck
    |none=>.stuck
  |_,_=>.stuck
 | .expr e=>λσ h=>(ev F e σ h).bind λ(_,h1)=>.ok (.nx σ,h1)
 | .ret e=>λσ h=>(ev F e σ h).bind λ(x,h1)=>.ok (.rt x,h1)
 | .ifs c t u=>λσ h=>(asB (ev F c σ h)).bind λ(x,h1)=>if x then exs t σ h1 else exs u σ h1
 | .for_ g it b=>λσ h=>(evi F it σ h).bind λ(s,h1)=>match qAM h1 s with
  |some n=>qAS s g (exs b) n 0 σ h1
  |none=>.stuck
 | .stop=>λ_ _=>.stuck
noncomputable def exs:Ss->St->AH->RS
 | .nil=>λσ h=>.ok (.nx σ,h)
 | .cons s r=>λσ h=>(ex s σ h).bind λ(o,h1)=>match o with
  | .nx σ1=>exs r σ1 h1
  |o=>.ok (o,h1)
end
end
structure Fn where
 npar:Nat
 nslot:Nat
 body:Ss
noncomputable def Fk(tb:List Fn):Nat->Nat->List V->AH->RV
 | 0,_,_,_=>.stuck
 |k+1,f,vs,h=>match tb[f]? with
  |some d=>if vs.length=d.npar/\d.npar<=d.nslot then (exs (Fk tb k) d.body (vs.map some++List.replicate (d.nslot-d.npar) none) h).bind λ(o,h1)=>match o with
    | .nx _=>.ok (.non,h1)
    | .rt v=>.ok (v,h1)
    |_=>.stuck
   else .stuck
  |none=>.stuck
open PySem PySem.Spec PyProof.Rows
open _L (Hp HO Cx PE PT PA PS PSs TE TT TA TS VK upd qE qG SqL SqT Zv)
def rv(φ:List Addr):V->V->Prop
 | .ref i,.ref a=>φ[i]?=some a
 | .non,.non=>True
 | .bl b,.bl c=>b=c
 | .int i,.int j=>i=j
 | .str x,.str y=>x=y
 |_,_=>False
abbrev rvs(φ:List Addr):List V->List V->Prop:=Paired (rv φ)
def ropt(φ:List Addr):Option V->Option V->Prop
 |some v,oc=>∃w,oc=some w/\rv φ v w
 |none,_=>True
abbrev rst(φ:List Addr):St->St->Prop:=Paired (ropt φ)
def Ext(φ φ':List Addr):Prop:=∃r,φ'=φ++r
theorem Ext.refl(φ:List Addr):Ext φ φ:=⟨[],by simp⟩
theorem Ext.trans{a b c:List Addr}(h:Ext a b)(g:Ext b c):Ext a c:=by
 obtain⟨r,rfl⟩:=h;obtain⟨q,rfl⟩:=g;exact⟨r++q,by simp⟩
theorem Ext.get{φ φ':List Addr}(x:Ext φ φ'){i:Nat}{a:Addr}(h:φ[i]?=some a):φ'[i]?=some a:=by
 obtain⟨r,rfl⟩:=x;rw[wB (wC.mp h).1];exact h
theorem rv.mono{φ φ':List Addr}(x:Ext φ φ'):∀{v w:V},rv φ v w->rv φ' v w
 | .ref i,.ref a,h=>x.get h
 | .non,.non,h=>h
 | .bl _,.bl _,h=>h
 | .int _,.int _,h=>h
 | .str _,.str _,h=>h
 | .byt _,_,h=>by cases h
 | .flt _,_,h=>by cases h
 | .ty _,_,h=>by cases h
theorem rvs.mono{φ φ':List Addr}(x:Ext φ φ'){vs ws:List V}(h:rvs φ vs ws):rvs φ' vs ws:=_L.Paired.mapP h λ_ _ r=>rv.mono x r
theorem ropt.mono{φ φ':List Addr}(x:Ext φ φ'):∀{v w:Option V},ropt φ v w->ropt φ' v w
 |some v,oc,h=>by obtain⟨w,e,r⟩:=h;exact⟨w,e,rv.mono x r⟩
 |none,_,_=>trivial
theorem rst.mono{φ φ':List Addr}(x:Ext φ φ'){σ τ:St}(h:rst φ σ τ):rst φ' σ τ:=_L.Paired.mapP h λ_ _ r=>ropt.mono x r
theorem qQ{α β:Type}{R:α->β->Prop}:∀{xs:List α}{ys:List β}{i:Nat}{x:α},Paired R xs ys->xs[i]?=some x->∃y,ys[i]?=some y/\R x y
 |_,_,_,_,.nil,e=>by simp at e
 |_,_,0,_,.cons r _,e=>by simp at e;subst e;exact⟨_,rfl,r⟩
 |_,_,i+1,x,.cons _ t,e=>by
  obtain⟨u,h1,h2⟩:=qQ (i:=i) (x:=x) t (by simpa using e);exact⟨u,by simpa using h1,h2⟩
theorem jI{α β:Type}{R:α->β->Prop}{x:α}{u:β}(r:R x u):∀{xs:List α}{us:List β}(i:Nat),Paired R xs us->Paired R (xs.set i x) (us.set i u)
 |_,_,_,.nil=>.nil
 |_,_,0,.cons _ t=>.cons r t
 |_,_,i+1,.cons q t=>.cons q (jI r i t)
theorem qU{α β:Type}{R:α->β->Prop}:∀{xs ys:List α}{us ws:List β},Paired R xs us->Paired R ys ws->Paired R (xs++ys) (us++ws)
 |_,_,_,_,.nil,s=>s
 |_,_,_,_,.cons r t,s=>.cons r (qU t s)
theorem jO{α β:Type}{R:α->β->Prop}:∀{xs:List α}{us:List β}(n:Nat),Paired R xs us->Paired R (xs.take n) (us.take n)
 |_,_,0,_=>.nil
 |_,_,_+1,.nil=>.nil
 |_,_,n+1,.cons r t=>.cons r (jO n t)
theorem Zi{α β:Type}{R:α->β->Prop}:∀{xs:List α}{us:List β}(n:Nat),Paired R xs us->Paired R (xs.drop n) (us.drop n)
 |_,_,0,r=>r
 |_,_,_+1,.nil=>.nil
 |_,_,n+1,.cons _ t=>Zi n t
theorem JS{α β:Type}{R:α->β->Prop}{xs:List α}{us:List β}(h:Paired R xs us):∀k:Nat,Paired R (List.replicate k xs).flatten (List.replicate k us).flatten
 | 0=>.nil
 |k+1=>by
  rw[List.replicate_succ,List.replicate_succ,List.flatten_cons,List.flatten_cons];exact qU h (JS h k)
noncomputable def kk(p:Int×V):_L.Key×V:=(.inl p.1,p.2)
noncomputable def O.mu:O->Bool
 | .lst false _=>true | .ob (.dct _)=>true|_=>false
def exP(a C:Addr):Heap->Prop:=λh=>∃o,h.get? a=some o/\o.cls=.ref C
def ro(K:PySem.W.Frag)(φ:List Addr)(H:Hp)(a:Addr):O->Prop
 | .lst false xs=>∃ys,H a=some (.lst ys)/\rvs φ xs ys
 | .lst true xs=>∃ys,((∃o,H a=some (.frz o (.lst ys)))\/SqL K (λ_=>none) a ys)/\rvs φ xs ys
 | .tup xs=>∃ys,SqT K H a ys/\rvs φ xs ys
 | .ob (.dct kvs)=>H a=some (.dK (kvs.map kk))
 | .ob (.exn x)=>∃C,PySem.W.nsIn K mainGlobals x=some (some (.ref C))/\H a=some (.ext (exP a C))
structure Rl(K:PySem.W.Frag)(G:List Addr)(φ:List Addr)(h:AH)(H:Hp):Prop where
 len:φ.length=h.length
 glob:Ext G φ
 obj:∀(i:Nat) o a,h[i]?=some o->φ[i]?=some a->ro K φ H a o
 inj:∀(i j:Nat) x y a,x.mu=true->y.mu=true->h[i]?=some x->h[j]?=some y->φ[i]?=some a->φ[j]?=some a->i=j
section
variable{K:PySem.W.Frag}{G φ φ':List Addr}{h:AH}{H H':Hp}{a b p:Addr}
theorem qBJ{xs:List V}(s:Zv H H')(q:SqT K H a xs):SqT K H' a xs:=by
 rcases q with(h|⟨o,h⟩)|h
 ·exact .inl (.inl (s _ _ h))
 ·exact .inl (.inr ⟨o,s _ _ h⟩)
 ·exact .inr h
theorem qAZ{xs:List V}(q:SqL K (λ_=>none) a xs):SqL K H a xs:=by
 rcases q with(h|⟨o,h⟩)|h
 ·cases h
 ·cases h
 ·exact .inr h
theorem QS{o:HO}(hp:H p=none):Zv H (upd H p o):=λb u e=>by rw[qG (_L.ne_of_none e hp)];exact e
theorem ro.keep{o:O}(x:Ext φ φ')(s:Zv H H')(r:ro K φ H a o):ro K φ' H' a o:=by
 match o,r with
 | .lst false xs,⟨ys,e,r⟩=>exact⟨ys,s _ _ e,rvs.mono x r⟩
 | .lst true xs,⟨ys,.inl ⟨o,e⟩,r⟩=>exact⟨ys,.inl ⟨o,s _ _ e⟩,rvs.mono x r⟩
 | .lst true xs,⟨ys,.inr e,r⟩=>exact⟨ys,.inr e,rvs.mono x r⟩
 | .tup xs,⟨ys,e,r⟩=>exact⟨ys,qBJ s e,rvs.mono x r⟩
 | .ob (.dct _),e=>exact s _ _ e
 | .ob (.exn _),⟨C,e1,e2⟩=>exact⟨C,e1,s _ _ e2⟩
def Wr(w:HO):Prop:=(∃zs,w=.lst zs)\/∃ks,w=.dK ks
theorem ro.wr{o:O}(m:o.mu=true)(r:ro K φ H a o):∃w,H a=some w/\Wr w:=by
 match o,m,r with
 | .lst false xs,_,⟨ys,e,r⟩=>exact⟨_,e,.inl ⟨_,rfl⟩⟩
 | .ob (.dct _),_,e=>exact⟨_,e,.inr ⟨_,rfl⟩⟩
theorem Wr.ne{w v:HO}(h:Wr w)(e:H a=some v)(hb:H b=some w)(h1:∀zs,v≠.lst zs)(h2:∀ks,v≠.dK ks):a≠b:=λz=>by
 subst z;rw[e]at hb;cases hb;rcases h with⟨zs,rfl⟩|⟨ks,rfl⟩
 ·exact h1 _ rfl
 ·exact h2 _ rfl
theorem ro.other{o:O}{w w':HO}(hw:Wr w)(hb:H b=some w)(hne:o.mu=true->a≠b)(r:ro K φ H a o):ro K φ (upd H b w') a o:=by
 match o,r with
 | .lst false xs,⟨ys,e,r⟩=>exact⟨ys,by rw[qG (hne rfl)];exact e,r⟩
 | .lst true xs,⟨ys,.inl ⟨o,e⟩,r⟩=>exact⟨ys,.inl ⟨o,by rw[qG (hw.ne e hb (λ_ z=>by cases z) (λ_ z=>by cases z))];exact e⟩,r⟩
 | .lst true xs,⟨ys,.inr e,r⟩=>exact⟨ys,.inr e,r⟩
 | .tup xs,⟨ys,e,r⟩=>
  refine⟨ys,?_,r⟩;rcases e with(h|⟨o,h⟩)|h
  ·exact .inl (.inl (by rw[qG (hw.ne h hb (λ_ z=>by cases z) (λ_ z=>by cases z))];exact h))
  ·exact .inl (.inr ⟨o,by rw[qG (hw.ne h hb (λ_ z=>by cases z) (λ_ z=>by cases z))];exact h⟩)
  ·exact .inr h
 | .ob (.dct _),e=>exact(by show upd H b _ a=_;rw[qG (hne rfl)];exact e)
 | .ob (.exn _),⟨C,e1,e2⟩=>exact⟨C,e1,by rw[qG (hw.ne e2 hb (λ_ z=>by cases z) (λ_ z=>by cases z))];exact e2⟩
theorem Rl.at(R:Rl K G φ h H){i:Nat}{o:O}(e:h[i]?=some o):∃a,φ[i]?=some a/\ro K φ H a o:=by
 have hi:i<φ.length:=by rw[R.len];exact(wC.mp e).1
 exact⟨φ[i],wD hi,R.obj i o _ e (wD hi)⟩
theorem Rl.new(R:Rl K G φ h H)(hp:H p=none){o:O}{ob:HO}(n:ro K (φ++[p]) (upd H p ob) p o):Rl K G (φ++[p]) (h++[o]) (upd H p ob):=by
 have x:Ext φ (φ++[p]):=⟨[p],rfl⟩
 refine⟨by simp[R.len],R.glob.trans x,λi u a e1 e2=>?_,λi j xs ys a m1 m2 e1 e2 e3 e4=>?_⟩
 ·by_cases hi:i<h.length
  ·rw[wB hi]at e1;rw[wB (by rw[R.len];exact hi)]at e2;exact(R.obj i u a e1 e2).keep x (QS hp)
  ·have hi':i=h.length:=by
    have:=(wC.mp e1).1;simp at this;omega
   subst hi';simp at e1;rw[<-R.len]at e2;simp at e2;subst e1 e2;exact n
 ·have lt:∀{k:Nat}{z:O},(h++[o])[k]?=some z->(h[k]?=some z/\k<h.length)\/k=h.length:=λ{k zs} e=>by
   by_cases hk:k<h.length
   ·rw[wB hk]at e;exact .inl ⟨e,hk⟩
   ·have:=(wC.mp e).1;simp at this;exact .inr (by omega)
  have old:∀{k:Nat}{b:Addr},k<h.length->(φ++[p])[k]?=some b->φ[k]?=some b:=λ{k b} hk e=>by
   rwa [wB (by rw[R.len];exact hk)]at e
  have newA:∀{b:Addr},(φ++[p])[h.length]?=some b->b=p:=λ{b} e=>by
   rw[<-R.len]at e;simp at e;exact e.symm
  rcases lt e1 with⟨e1,h1⟩|rfl<;>rcases lt e2 with⟨e2,h2⟩|rfl
  ·exact R.inj i j xs ys a m1 m2 e1 e2 (old h1 e3) (old h2 e4)
  ·have ea:=newA e4;subst ea;obtain⟨w,hz,_⟩:=(R.obj i _ a e1 (old h1 e3)).wr m1;rw[hp]at hz;cases hz
  ·have ea:=newA e3;subst ea;obtain⟨w,hz,_⟩:=(R.obj j _ a e2 (old h2 e4)).wr m2;rw[hp]at hz;cases hz
  ·rfl
theorem Rl.more(R:Rl K G φ h H)(hp:H p=none){ob:HO}:Rl K G φ h (upd H p ob):=
 ⟨R.len,R.glob,λi u a e1 e2=>(R.obj i u a e1 e2).keep (Ext.refl _) (QS hp),R.inj⟩
theorem Rl.exn(R:Rl K G φ h H){i:Nat}{x:Str}(e:qFU h i=some x):∃a C,φ[i]?=some a/\PySem.W.nsIn K mainGlobals x=some (some (.ref C))/\H a=some (.ext (exP a C)):=by
 unfold qFU at e;split at e
 ·rename_i c q;cases e;obtain⟨a,ea,C,r1,r2⟩:=R.at q;exact⟨a,C,ea,r1,r2⟩
 ·cases e
theorem Rl.newL(R:Rl K G φ h H)(hp:H p=none){xs ys:List V}(r:rvs φ xs ys):Rl K G (φ++[p]) (h++[.lst false xs]) (upd H p (.lst ys)):=
 R.new hp ⟨ys,qE,rvs.mono ⟨[p],rfl⟩ r⟩
theorem Rl.newT(R:Rl K G φ h H)(hp:H p=none){xs ys:List V}(r:rvs φ xs ys):Rl K G (φ++[p]) (h++[.tup xs]) (upd H p (.tup ys)):=
 R.new hp ⟨ys,.inl (.inl qE),rvs.mono ⟨[p],rfl⟩ r⟩
theorem Rl.lastRef(R:Rl K G φ h H):(φ++[p])[h.length]?=some p:=by rw[<-R.len];simp
theorem Rl.write(R:Rl K G φ h H){i:Nat}{x y:O}{w':HO}(mx:x.mu=true)(my:y.mu=true)(e:h[i]?=some x)(ea:φ[i]?=some a)(n:ro K φ (upd H a w') a y):Rl K G φ (h.set i y) (upd H a w'):=by
 have hi:=(wC.mp e).1;obtain⟨w,hw,ww⟩:=(R.obj i _ a e ea).wr mx;have lk:∀{k:Nat}{z:O},z.mu=true->(h.set i y)[k]?=some z->∃z',z'.mu=true/\h[k]?=some z':=λ{k zs} m q=>by
  by_cases hk:k=i
  ·subst hk;exact⟨x,mx,e⟩
  ·rw[wf (Ne.symm hk)]at q;exact⟨zs,m,q⟩
 refine⟨by simp[R.len],R.glob,λk u b e1 e2=>?_,λk l us vs b m1 m2 e1 e2 e3 e4=>?_⟩
 ·by_cases hk:k=i
  ·subst hk;rw[wv hi]at e1;rw[ea]at e2;cases e1;cases e2;exact n
  ·rw[wf (Ne.symm hk)]at e1;refine(R.obj k u b e1 e2).other ww hw λmu hb=>?_;subst hb;exact hk (R.inj k i u x b mu mx e1 e e2 ea)
 ·obtain⟨z1,n1,q1⟩:=lk m1 e1;obtain⟨z2,n2,q2⟩:=lk m2 e2;exact R.inj k l z1 z2 b n1 n2 q1 q2 e3 e4
theorem Rl.set(R:Rl K G φ h H){i:Nat}{xs ys zs:List V}(e:h[i]?=some (.lst false xs))(ea:φ[i]?=some a)(r:rvs φ ys zs):Rl K G φ (h.set i (.lst false ys)) (upd H a (.lst zs)):=
 R.write rfl rfl e ea ⟨zs,qE,r⟩
theorem Rl.dct(R:Rl K G φ h H){i:Nat}{kvs:List (Int×V)}(e:L7 h i=some kvs):∃a,φ[i]?=some a/\h[i]?=some (.ob (.dct kvs))/\H a=some (.dK (kvs.map kk)):=by
 unfold L7 at e;split at e
 ·rename_i zs q;cases e;obtain⟨a,ea,r⟩:=R.at q;exact⟨a,ea,q,r⟩
 ·cases e
theorem Rl.lst(R:Rl K G φ h H){i:Nat}{xs:List V}(e:qN h i=some xs):∃a ys,φ[i]?=some a/\SqL K H a ys/\rvs φ xs ys:=by
 unfold qN at e;split at e
 ·rename_i fz zs q;cases e;obtain⟨a,ea,r⟩:=R.at q;cases fz with
  |false=>obtain⟨ys,e,r⟩:=r;exact⟨a,ys,ea,.inl (.inl e),r⟩
  |true=>
   obtain⟨ys,e,r⟩:=r;rcases e with⟨o,e⟩|e
   ·exact⟨a,ys,ea,.inl (.inr ⟨o,e⟩),r⟩
   ·exact⟨a,ys,ea,qAZ e,r⟩
 ·cases e
theorem Rl.tup(R:Rl K G φ h H){i:Nat}{xs:List V}(e:qh h i=some xs):∃a ys,φ[i]?=some a/\SqT K H a ys/\rvs φ xs ys:=by
 unfold qh at e;split at e
 ·rename_i zs q;cases e;obtain⟨a,ea,ys,e,r⟩:=R.at q;exact⟨a,ys,ea,e,r⟩
 ·cases e
theorem Rl.mut(R:Rl K G φ h H){i:Nat}{xs:List V}(e:zY h i=some xs):h[i]?=some (.lst false xs)/\∃a ys,φ[i]?=some a/\H a=some (.lst ys)/\rvs φ xs ys:=by
 unfold zY at e;split at e
 ·rename_i zs q;cases e;obtain⟨a,ea,ys,e,r⟩:=R.at q;exact⟨q,a,ys,ea,e,r⟩
 ·cases e
theorem Rl.its(R:Rl K G φ h H){i:Nat}{xs:List V}(e:items h i=some xs):∃a ys,φ[i]?=some a/\(SqL K H a ys\/SqT K H a ys)/\rvs φ xs ys:=by
 unfold items at e;split at e
 ·rename_i fz zs q;cases e;obtain⟨a,ys,h1,h2,h3⟩:=R.lst (i:=i) (xs:=xs) (by unfold qN;rw[q]);exact⟨a,ys,h1,.inl h2,h3⟩
 ·rename_i zs q;cases e;obtain⟨a,ys,h1,h2,h3⟩:=R.tup (i:=i) (xs:=xs) (by unfold qh;rw[q]);exact⟨a,ys,h1,.inr h2,h3⟩
 ·cases e
end
open _L (PG Inv RelV Vals EP TP AP SP OpR zI R2)
theorem tM{α β:Type}{r:Res α}{f:α->Res β}{x:β}(h:r.bind f=.ok x):∃a,r=.ok a/\f a=.ok x:=by
 cases r with
 |ok a=>exact⟨a,rfl,h⟩
 |exc c h'=>cases h
 |stuck=>cases h
theorem qC{φ:List Addr}{i:Int}{w:V}(h:rv φ (.int i) w):w=.int i:=by
 cases w with
 |int j=>exact congrArg V.int (show i=j from h).symm
 |_=>exact False.elim h
theorem zb{φ:List Addr}{i:Bool}{w:V}(h:rv φ (.bl i) w):w=.bl i:=by
 cases w with
 |bl j=>exact congrArg V.bl (show i=j from h).symm
 |_=>exact False.elim h
theorem zh{φ:List Addr}{i:Str}{w:V}(h:rv φ (.str i) w):w=.str i:=by
 cases w with
 |str j=>exact congrArg V.str (show i=j from h).symm
 |_=>exact False.elim h
theorem zL{φ:List Addr}{w:V}(h:rv φ .non w):w=.non:=by
 cases w with
 |non=>rfl
 |_=>exact False.elim h
theorem qL{φ:List Addr}{i:Nat}{w:V}(h:rv φ (.ref i) w):∃a,w=.ref a/\φ[i]?=some a:=by
 cases w with
 |ref j=>exact⟨j,rfl,h⟩
 |_=>exact False.elim h
section
variable (K:PySem.W.Frag)(G:List Addr)(F:Nat->List V->AH->RV)
noncomputable def tE(e:E):TE:=λσc H Q=>∃φ h σ v h',Rl K G φ h H/\rst φ σ σc/\ev F e σ h=.ok (v,h')/\∀φ' H' w,Ext φ φ'->Rl K G φ' h' H'->rv φ' v w->Q w H'
noncomputable def tB(r:St->AH->Res (Bool×AH)):TT:=λσc H Q=>∃φ h σ b h',Rl K G φ h H/\rst φ σ σc/\r σ h=.ok (b,h')/\∀φ' H',Ext φ φ'->Rl K G φ' h' H'->Q b H'
noncomputable abbrev tT(e:E):TT:=tB K G (λσ h=>asB (ev F e σ h))
noncomputable def tL(as:Es):TA:=λσc H Q=>∃φ h σ vs h',Rl K G φ h H/\rst φ σ σc/\evs F as σ h=.ok (vs,h')/\∀φ' H' ws,Ext φ φ'->Rl K G φ' h' H'->rvs φ' vs ws->Q ws H'
end
section
variable{X:Cx}{G:List Addr}{F:Nat->List V->AH->RV}
theorem zG{e:Expr}{t t':TE}(h:PE X e t)(w:∀σ H Q,t' σ H Q->t σ H Q):PE X e t':=λpins s σ H Q I q=>h pins s σ H Q I (w σ H Q q)
theorem qAn{e:Expr}{t t':TT}(h:PT X e t)(w:∀σ H Q,t' σ H Q->t σ H Q):PT X e t':=λpins s σ H Q I q=>h pins s σ H Q I (w σ H Q q)
theorem qFC{e:List Expr}{t t':TA}(h:PA X e t)(w:∀σ H Q,t' σ H Q->t σ H Q):PA X e t':=λpos pins s σ H Q I q=>h pos pins s σ H Q I (w σ H Q q)
variable (X G F) in
abbrev SE(e:Expr)(a:E):Prop:=PE X e (tE X.K G F a)
variable (X G F) in
abbrev ST(e:Expr)(a:E):Prop:=PT X e (tT X.K G F a)
variable (X G F) in
abbrev SA(es:List Expr)(as:Es):Prop:=PA X es (tL X.K G F as)
variable{K:PySem.W.Frag}{φ φ':List Addr}{h h1 h2:AH}{H:Hp}{σ σc:St}{a b:E}{x y:V}
theorem Qz(R:Rl K G φ h H)(rs:rst φ σ σc)(ea:ev F a σ h=.ok (x,h1))(eb:ev F b σ h1=.ok (y,h2)){Rr:V->V->Hp->Prop}
  (k:∀φ2 H2 xc yc,Ext φ φ2->Rl K G φ2 h2 H2->rv φ2 x xc->rv φ2 y yc->Rr xc yc H2):tE K G F a σc H (λxc H1=>tE K G F b σc H1 (λyc H2=>Rr xc yc H2)):=
 ⟨φ,h,σ,x,h1,R,rs,ea,λφ1 H1 xc e1 R1 r1=>⟨φ1,h1,σ,y,h2,R1,rst.mono e1 rs,eb,λφ2 H2 yc e2 R2 r2=>k φ2 H2 xc yc (e1.trans e2) R2 (rv.mono e2 r1) r2⟩⟩
theorem qEu{i:Nat}{n:Str}{pos:Pos}(hN:X.N[i]?=some n)(hv:_L.Vis X.env.scope n)(hd:(n==("__debug__":Str))=false)(hcd:(n==("__classdict__":Str))=false):SE X G F (.Name n pos) (.var i):=by
 refine zG (_L.pe_var hN hv hd hcd) λσc H Q q=>?_;obtain⟨φ,h,σ,v,h',R,rs,e,k⟩:=q;unfold ev at e;split at e
 ·rename_i w q;cases e;obtain⟨oc,ec,r⟩:=qQ rs q;obtain⟨u,rfl,r⟩:=r;exact⟨u,ec,k φ H u (.refl _) R r⟩
 ·cases e
theorem h8{v:V}{w:V}{σc:St}{H:Hp}{Q:VK}(hr:∀φ,rv φ v w)(q:tE K G F (.cst v) σc H Q):_L.tC w σc H Q:=by
 obtain⟨φ,h,σ,v',h',R,rs,e,k⟩:=q;unfold ev at e;cases e;exact k φ H w (.refl _) R (hr φ)
theorem g8 {i j pos}:SE X G F (.Constant (.int i) j pos) (.cst (.int i)):=zG _L.pe_int λ_ _ _=>h8 λ_=>rfl
theorem qFK {i j pos}:SE X G F (.Constant (.bool i) j pos) (.cst (.bl i)):=zG _L.pe_bl λ_ _ _=>h8 λ_=>rfl
theorem qBv {j pos}:SE X G F (.Constant .none j pos) (.cst .non):=zG _L.pe_non λ_ _ _=>h8 λ_=>trivial
theorem qB1 {i j pos}:SE X G F (.Constant (.str i) j pos) (.cst (.str i)):=zG _L.pe_str λ_ _ _=>h8 λ_=>rfl
theorem qDG{n:Str}{v:V}{u:Value}{pos:Pos}(hg:_L.Gl X n)(hm:X.mg n=some u)(r:RelV v u)(hv:∀φ,rv φ v v)(hd:(n==("__debug__":Str))=false):SE X G F (.Name n pos) (.cst v):=
 zG (_L.pe_glob hg hm r hd) λ_ _ _=>h8 hv
theorem qCK{n:Str}{g:Nat}{a:Addr}{pos:Pos}(hg:_L.Gl X n)(hm:X.mg n=some (.ref a))(hG:G[g]?=some a)(hd:(n==("__debug__":Str))=false):SE X G F (.Name n pos) (.glob g):=by
 refine zG (_L.pe_glob (v:=.ref a) hg hm rfl hd) λσc H Q q=>?_;obtain⟨φ,h,σ,v',h',R,rs,e,k⟩:=q;unfold ev at e;cases e;exact k φ H (.ref a) (.refl _) R (R.glob.get hG)
noncomputable def opB:BOp->Operator
 | .add=>.Add | .sub=>.Sub | .mul=>.Mult | .fdiv=>.FloorDiv | .mod=>.Mod | .pow=>.Pow | .band=>.BitAnd
def qHP(i j:Int):Prop:=j≠0/\j.natAbs.log2<9000
theorem qAy:OpR X (binaryOp .FloorDiv) (_L.rI qHP λi j=>.int (i.fdiv j)):=_L.opI λ_ _ _ _ _ _ _ hc q=>floordiv_int hc.1 q (.inl (PyProof.noPylong_of_log2 hc.2))
def qHc(i j:Int):Prop:=i.natAbs.log2<9000/\j.natAbs.log2<9000
theorem S8{i:Int}(h:i.natAbs.log2<9000):Builtin.Int.intBits i<=2 ^ 20:=by
 unfold Builtin.Int.intBits;have e:(2:Nat) ^ 20=1048576:=by decide
 rw[e];split<;>omega
theorem qCp:OpR X (binaryOp .Mult) (_L.rI qHc λi j=>.int (i*j)):=_L.opI λ_ _ _ _ _ _ _ hc q=>mul_int q (IntMulOk.of_bits (S8 hc.1) (S8 hc.2))
theorem O4{i:Int}(h:mid i=true):i.natAbs.log2<9000:=uU h
noncomputable def qHY(K:PySem.W.Frag):BOp->R2
 | .add=>λx y H Q=>(_L.rI0 (λi j=>.int (i+j)) x y H Q\/_L.rCat x y H Q)\/_L.rCatT K x y H Q
 | .sub=>_L.rI0 λi j=>.int (i-j)
 | .mul=>λx y H Q=>(_L.rI _L.CMul (λi j=>.int (i*j)) x y H Q\/_L.rRep x y H Q)\/_L.rI qHc (λi j=>.int (i*j)) x y H Q
 | .fdiv=>λx y H Q=>_L.rI _L.CDiv (λi j=>.int (i / j)) x y H Q\/_L.rI qHP (λi j=>.int (i.fdiv j)) x y H Q
 | .mod=>λx y H Q=>_L.rI (λ_ j=>0<j) (λi j=>.int (i % j)) x y H Q\/_L.rI (λ_ j=>j≠0) (λi j=>.int (i.fmod j)) x y H Q
 | .pow=>_L.rI _L.CPow λi j=>.int (i ^ j.toNat)
 | .band=>_L.rI0 λi j=>.int (Builtin.bitAnd i j)
theorem qCQ:∀op,OpR X (binaryOp (opB op)) (qHY X.K op)
 | .add=>(_L.op_add.or _L.op_cat).or _L.op_catT
 | .sub=>_L.op_sub
 | .mul=>(_L.op_mul.or _L.op_rep).or qCp
 | .fdiv=>_L.op_fdiv.or qAy
 | .mod=>_L.op_mod.or _L.op_modN
 | .pow=>_L.op_pow
 | .band=>_L.op_and
theorem Zu:lim<=sizeLine:=by decide
theorem qBx:lim<sizeLine:=by decide
theorem Q4{i:Int}(h:ZK i=true):-(2 ^ 64)<i/\i<2 ^ 64:=by
 unfold ZK two64 at h;have:=uU h;omega
theorem qDC{op:BOp}{v xc yc:V}{h':AH}{Q:VK}(e:qFc op x y h=.ok (v,h'))(R:Rl K G φ h H)(rx:rv φ x xc)(ry:rv φ y yc)
  (k:∀φ' H' w,Ext φ φ'->Rl K G φ' h' H'->rv φ' v w->Q w H'):qHY K op xc yc H Q:=by
 cases op with
 |add=>
  dsimp only[qFc]at e;split at e
  ·replace e:=jB e;obtain⟨b,rfl,e⟩:=e;split at e
   ·rename_i xs ys e1 e2;split at e
    ·rename_i hl;cases e;obtain⟨q1,a1,ys1,ha1,hH1,r1⟩:=R.mut e1;obtain⟨q2,a2,ys2,ha2,hH2,r2⟩:=R.mut e2;obtain⟨b1,rfl,hb1⟩:=qL rx;obtain⟨b2,rfl,hb2⟩:=qL ry;rw[ha1]at hb1;cases hb1;rw[ha2]at hb2;cases hb2;refine .inl (.inr ⟨a1,a2,ys1,ys2,rfl,rfl,hH1,hH2,?_,λp hp=>k (φ++[p]) _ _ ⟨[p],rfl⟩ (R.newL hp (qU r1 r2)) R.lastRef⟩);have l1:=Paired.length r1;have l2:=Paired.length r2;have:=Zu;omega
    ·cases e
   ·split at e
    ·rename_i xs ys e1 e2;split at e
     ·rename_i hl;obtain⟨a1,ys1,ha1,hH1,r1⟩:=R.tup e1;obtain⟨a2,ys2,ha2,hH2,r2⟩:=R.tup e2;obtain⟨b1,rfl,hb1⟩:=qL rx;obtain⟨b2,rfl,hb2⟩:=qL ry;rw[ha1]at hb1;cases hb1;rw[ha2]at hb2;cases hb2;have l1:=Paired.length r1;have l2:=Paired.length r2;refine .inr ⟨a1,a2,ys1,ys2,rfl,rfl,hH1,hH2,?_,?_,λz=>?_,λz p hp=>?_⟩
      ·rintro rfl;exact hl.1 (wz.mp l1)
      ·have:=Zu;omega
      ·subst z;rw[if_pos (wz.mp l2)]at e;cases e;exact k φ H _ (.refl _) R ha1
      ·rw[if_neg (λq=>z (by subst q;exact wz.mp l2.symm))]at e;cases e;exact k (φ++[p]) _ _ ⟨[p],rfl⟩ (R.newT hp (qU r1 r2)) R.lastRef
     ·cases e
    ·cases e
  ·replace e:=zm e;obtain⟨i,j,rfl,rfl,e⟩:=e;cases e;cases qC rx;cases qC ry;exact .inl (.inl ⟨_,_,rfl,rfl,k φ H _ (.refl _) R rfl⟩)
 |sub=>
  replace e:=zm e;obtain⟨i,j,rfl,rfl,e⟩:=e;cases e;cases qC rx;cases qC ry;exact⟨_,_,rfl,rfl,k φ H _ (.refl _) R rfl⟩
 |mul=>
  dsimp only[qFc]at e;split at e
  ·split at e
   ·split at e
    ·rename_i xs e1;split at e
     ·rename_i hl;obtain⟨h0,hl,h3⟩:=hl;cases e;obtain⟨q1,a1,ys1,ha1,hH1,r1⟩:=R.mut e1;obtain⟨b1,rfl,hb1⟩:=qL rx;rw[ha1]at hb1;cases hb1;cases qC ry;refine .inl (.inr ⟨a1,_,ys1,rfl,rfl,hH1,by omega,by omega,?_,λp hp=>k (φ++[p]) _ _ ⟨[p],rfl⟩ (R.newL hp (JS r1 _)) R.lastRef⟩);have l1:=Paired.length r1;have:=Zu;rw[<-l1];omega
     ·cases e
    ·cases e
   ·cases e
  ·replace e:=zm e;obtain⟨i,j,rfl,rfl,e⟩:=e;split at e
   ·rename_i hs;cases e;cases qC rx;cases qC ry;rw[vw,vw,wF]at hs;rcases hs with(z|z)|z
    ·exact .inl (.inl ⟨_,_,rfl,rfl,.inl (Q4 z),k φ H _ (.refl _) R rfl⟩)
    ·exact .inl (.inl ⟨_,_,rfl,rfl,.inr (Q4 z),k φ H _ (.refl _) R rfl⟩)
    ·exact .inr ⟨_,_,rfl,rfl,⟨O4 z.1,O4 z.2⟩,k φ H _ (.refl _) R rfl⟩
   ·cases e
 |fdiv=>
  replace e:=zm e;obtain⟨i,j,rfl,rfl,e⟩:=e;split at e
  ·rename_i hc;cases e;cases qC rx;cases qC ry;rcases hc.2 with z|z
   ·exact .inl ⟨_,_,rfl,rfl,⟨hc.1,z⟩,k φ H _ (.refl _) R rfl⟩
   ·refine .inr ⟨_,_,rfl,rfl,⟨by omega,O4 z⟩,?_⟩;dsimp only;rw[Int.fdiv_eq_ediv_of_nonneg _ (by omega)];exact k φ H _ (.refl _) R rfl
  ·split at e
   ·rename_i hc;cases e;cases qC rx;cases qC ry;exact .inr ⟨_,_,rfl,rfl,⟨by omega,O4 hc.2⟩,k φ H _ (.refl _) R rfl⟩
   ·cases e
 |mod=>
  replace e:=zm e;obtain⟨i,j,rfl,rfl,e⟩:=e;split at e
  ·rename_i hc;cases e;cases qC rx;cases qC ry;exact .inl ⟨_,_,rfl,rfl,hc,k φ H _ (.refl _) R rfl⟩
  ·split at e
   ·rename_i hc;cases e;cases qC rx;cases qC ry;exact .inr ⟨_,_,rfl,rfl,(by omega),k φ H _ (.refl _) R rfl⟩
   ·cases e
 |pow=>
  replace e:=zm e;obtain⟨i,j,rfl,rfl,e⟩:=e;split at e
  ·rename_i hc;cases e;cases qC rx;cases qC ry;refine⟨_,_,rfl,rfl,⟨hc.1,by omega,by omega⟩,k φ H _ (.refl _) R rfl⟩
  ·cases e
 |band=>
  replace e:=zm e;obtain⟨i,j,rfl,rfl,e⟩:=e;cases e;cases qC rx;cases qC ry;exact⟨_,_,rfl,rfl,k φ H _ (.refl _) R rfl⟩
theorem qBo{op:BOp}{ea eb:Expr}{pos:Pos}(ha:SE X G F ea a)(hb:SE X G F eb b):SE X G F (.BinOp ea (opB op) eb pos) (.bin op a b):=by
 refine zG (_L.pe_op (qCQ op) ha hb) λσc H Q q=>?_;obtain⟨φ,h,σ,v,h',R,rs,e,k⟩:=q;unfold ev at e;obtain⟨⟨x,h1⟩,e1,e⟩:=tM e;obtain⟨⟨y,h2⟩,e2,e⟩:=tM e;exact Qz R rs e1 e2 λφ2 H2 xc yc x2 R2 r1 r2=>qDC e R2 r1 r2 λφ' H' w x' R' r'=>k φ' H' w (x2.trans x') R' r'
theorem qBp{ea:Expr}{pos:Pos}(ha:SE X G F ea a):SE X G F (.UnaryOp .USub ea pos) (.neg a):=by
 refine zG (_L.pe_un _L.un_neg ha) λσc H Q q=>?_;obtain⟨φ,h,σ,v,h',R,rs,e,k⟩:=q;unfold ev at e;obtain⟨⟨x,h1⟩,e1,e⟩:=tM e;refine⟨φ,h,σ,x,h1,R,rs,e1,λφ1 H1 xc x1 R1 r1=>?_⟩;dsimp only at e;split at e
 ·cases e;cases qC r1;exact⟨_,rfl,k φ1 H1 _ x1 R1 rfl⟩
 ·cases e
end
open PySem.SeqAt
structure Eq3(A:Around)(s:Shared)(u w:Value)(b:Bool):Prop where
 eq:EqAt A s u w b
 rc:RcAt A s u w b
 ne:RcNeAt A s u w (!b)
theorem D8{A:Around}{s:Shared}{φ:List Addr}:∀{x y xc yc:V}{u w:Value}{b:Bool},eqF x y=some b->rv φ x xc->rv φ y yc->RelV xc u->RelV yc w->Eq3 A s u w b:=by
 intro x y xc yc u w b e rx ry ru rw';cases x with
 |non=>
  cases zL rx;cases ru;cases y with
  |non=>cases zL ry;cases rw';cases e;exact⟨.same _,.none_none,.none_none⟩
  |bl j=>cases zb ry;cases rw';cases e;exact⟨.none_bool _,.none_bool _,.none_bool _⟩
  |int j=>cases qC ry;obtain⟨t,rfl⟩:=rw';cases e;exact⟨.none_int _ _,.none_int _ _,.none_int _ _⟩
  |str j=>cases zh ry;obtain⟨t,rfl⟩:=rw';cases e;exact⟨.none_str _ _,.none_str _ _,.none_str _ _⟩
  |_=>cases e
 |bl i=>
  cases zb rx;cases ru;cases y with
  |non=>cases zL ry;cases rw';cases e;exact⟨.bool_none _,.bool_none _,.bool_none _⟩
  |bl j=>cases zb ry;cases rw';cases e;exact⟨.bool_bool _ _,.bool_bool _ _,.bool_bool _ _⟩
  |int j=>cases qC ry;obtain⟨t,rfl⟩:=rw';cases e;exact⟨.bool_int _ _ _,.bool_int _ _ _,.bool_int _ _ _⟩
  |str j=>cases zh ry;obtain⟨t,rfl⟩:=rw';cases e;exact⟨.bool_str _ _ _,.bool_str _ _ _,.bool_str _ _ _⟩
  |_=>cases e
 |int i=>
  cases qC rx;obtain⟨t,rfl⟩:=ru;cases y with
  |non=>cases zL ry;cases rw';cases e;exact⟨.int_none _ _,.int_none _ _,.int_none _ _⟩
  |bl j=>cases zb ry;cases rw';cases e;exact⟨.int_bool _ _ _,.int_bool _ _ _,.int_bool _ _ _⟩
  |int j=>cases qC ry;obtain⟨t,rfl⟩:=rw';cases e;exact⟨.int_int _ _ _ _,.int_int _ _ _ _,.int_int _ _ _ _⟩
  |str j=>cases zh ry;obtain⟨t,rfl⟩:=rw';cases e;exact⟨.int_str _ _ _ _,.int_str _ _ _ _,.int_str _ _ _ _⟩
  |_=>cases e
 |str i=>
  cases zh rx;obtain⟨t,rfl⟩:=ru;cases y with
  |non=>cases zL ry;cases rw';cases e;exact⟨.str_none _ _,.str_none _ _,.str_none _ _⟩
  |bl j=>cases zb ry;cases rw';cases e;exact⟨.str_bool _ _ _,.str_bool _ _ _,.str_bool _ _ _⟩
  |int j=>cases qC ry;obtain⟨t,rfl⟩:=rw';cases e;exact⟨.str_int _ _ _ _,.str_int _ _ _ _,.str_int _ _ _ _⟩
  |str j=>cases zh ry;obtain⟨t,rfl⟩:=rw';cases e;exact⟨.str_str _ _ _ _,.str_str _ _ _ _,.str_str _ _ _ _⟩
  |_=>cases e
 |_=>cases y<;>cases e
theorem S4{φ:List Addr}{x y w:V}{b:Bool}(e:eqF x y=some b)(rx:rv φ x w)(ry:rv φ y w):b=true:=by
 cases x with
 |non=>cases zL rx;cases y<;>first|exact False.elim ry|(cases e;rfl)|cases e
 |bl i=>cases zb rx;cases y<;>first|exact False.elim ry|(rename_i j;cases (show j=i from ry);cases e;simp)|cases e
 |int i=>cases qC rx;cases y<;>first|exact False.elim ry|(rename_i j;cases (show j=i from ry);cases e;simp)|cases e
 |str i=>cases zh rx;cases y<;>first|exact False.elim ry|(rename_i j;cases (show j=i from ry);cases e;simp)|cases e
 |_=>cases y<;>cases e
theorem Zo{f:V->V->Option Bool}:∀{xs ys:List V}{bs:List Bool},JC f xs ys=some bs->bs.length=xs.length/\ys.length=xs.length/\∀(j:Nat) x y,xs[j]?=some x->ys[j]?=some y->∃b,bs[j]?=some b/\f x y=some b
 | [],[],bs,e=>by
  cases e;exact⟨rfl,rfl,λj x y h=>by simp at h⟩
 | [],_::_,_,e=>by cases e
 |_::_,[],_,e=>by cases e
 |x::xs,y::ys,bs,e=>by
  unfold JC at e;split at e
  ·rename_i b bs' e1 e2;cases e;obtain⟨l1,l2,k⟩:=Zo e2;refine⟨by simp[l1],by simp[l2],λj u v h1 h2=>?_⟩;cases j with
   |zero=>simp at h1 h2;subst h1 h2;exact⟨b,rfl,e1⟩
   |succ j=>obtain⟨b',h3,h4⟩:=k j u v (by simpa using h1) (by simpa using h2);exact⟨b',by simpa using h3,h4⟩
  ·cases e
theorem C5(bs:List Bool):(List.range bs.length).all (λj=>bs.getD j true)=bs.all id:=by
 rw[wk];simp only[wc,wT,id];constructor
 ·intro h b hb;obtain⟨j,hj,rfl⟩:=vF.mp hb;have:=h j hj;rw[wE,wD hj]at this;exact this
 ·intro h j hj;rw[wE,wD hj];exact h _ (vK hj)
section
variable{X:Cx}{G φ:List Addr}{h:AH}{H:Hp}{pins:List (Addr×Obj)}{σ:_L.St}{s:Shared}
theorem T7(I:Inv X pins σ H s)(R:Rl X.K G φ h H):∀(n:Nat){x y w:V}{b:Bool},eqD h n x y=some b->rv φ x w->rv φ y w->b=true
 | 0,x,y,w,b,e,rx,ry=>S4 e rx ry
 |n+1,x,y,w,b,e,rx,ry=>by
  have all:∀{xs ys zs:List V}{bs:List Bool},rvs φ xs zs->rvs φ ys zs->JC (eqD h n) xs ys=some bs->bs.all id=true:=λ{xs ys zs bs} r1 r2 e=>by
   obtain⟨l1,l2,k⟩:=Zo e;rw[wc];intro b hb;obtain⟨j,hj,rfl⟩:=vF.mp hb;have hx:j<xs.length:=by omega
   have hy:j<ys.length:=by omega
   obtain⟨b',hb',e'⟩:=k j _ _ (wD hx) (wD hy);rw[wD hj]at hb';cases hb';obtain⟨z,hz,q1⟩:=qQ r1 (wD hx);obtain⟨z',hz',q2⟩:=qQ r2 (wD hy);rw[hz]at hz';cases hz';exact T7 I R n e' q1 q2
  cases x with
  |ref a=>
   obtain⟨p,rfl,hp⟩:=qL rx;cases y with
   |ref c=>
    have hc:φ[c]?=some p:=ry;simp only[eqD]at e;split at e
    ·rename_i f1 xs f2 ys e1 e2;split at e
     ·cases e;rfl
     ·obtain⟨p1,z1,q1,s1,r1⟩:=R.lst (i:=a) (xs:=xs) (by unfold qN;rw[e1]);obtain⟨p2,z2,q2,s2,r2⟩:=R.lst (i:=c) (xs:=ys) (by unfold qN;rw[e2]);rw[hp]at q1;cases q1;rw[hc]at q2;cases q2;have:=I.list_inj s1 s2;subst this;split at e
      ·obtain⟨bs,e3,rfl⟩:=wA.mp e;exact all r1 r2 e3
      ·rename_i hne;exact absurd ((Paired.length r1).trans (Paired.length r2).symm) hne
    ·rename_i xs ys e1 e2;split at e
     ·cases e;rfl
     ·obtain⟨p1,z1,q1,s1,r1⟩:=R.tup (i:=a) (xs:=xs) (by unfold qh;rw[e1]);obtain⟨p2,z2,q2,s2,r2⟩:=R.tup (i:=c) (xs:=ys) (by unfold qh;rw[e2]);rw[hp]at q1;cases q1;rw[hc]at q2;cases q2;have:=I.tuple_inj s1 s2;subst this;split at e
      ·obtain⟨bs,e3,rfl⟩:=wA.mp e;exact all r1 r2 e3
      ·rename_i hne;exact absurd ((Paired.length r1).trans (Paired.length r2).symm) hne
    ·rename_i f1 xs ys e1 e2;obtain⟨p1,z1,q1,s1,r1⟩:=R.lst (i:=a) (xs:=xs) (by unfold qN;rw[e1]);obtain⟨p2,z2,q2,s2,r2⟩:=R.tup (i:=c) (xs:=ys) (by unfold qh;rw[e2]);rw[hp]at q1;cases q1;rw[hc]at q2;cases q2;obtain⟨i1,_,t1,_⟩:=I.list s1;obtain⟨i2,_,t2,_⟩:=I.tuple s2;exact absurd rfl (ne_of_list_tuple t1.isList t2)
    ·rename_i xs f1 ys e1 e2;obtain⟨p1,z1,q1,s1,r1⟩:=R.tup (i:=a) (xs:=xs) (by unfold qh;rw[e1]);obtain⟨p2,z2,q2,s2,r2⟩:=R.lst (i:=c) (xs:=ys) (by unfold qN;rw[e2]);rw[hp]at q1;cases q1;rw[hc]at q2;cases q2;obtain⟨i1,_,t1,_⟩:=I.tuple s1;obtain⟨i2,_,t2,_⟩:=I.list s2;exact absurd rfl (ne_of_list_tuple t2.isList t1)
    ·cases e
   |_=>exact False.elim ry
  |_=>
   cases y with
   |ref c=>
    obtain⟨p,rfl,hp⟩:=qL ry;exact False.elim rx
   |_=>exact S4 e rx ry
theorem qAH(I:Inv X pins σ H s)(R:Rl X.K G φ h H):∀(n:Nat){A:Around}{x y xc yc:V}{u w:Value}{b:Bool},A.units+n<cLine->eqD h n x y=some b->rv φ x xc->rv φ y yc->RelV xc u->RelV yc w->Eq3 A s u w b
 | 0,A,x,y,xc,yc,u,w,b,hu,e,rx,ry,ru,rw'=>D8 e rx ry ru rw'
 |n+1,A,x,y,xc,yc,u,w,b,hu,e,rx,ry,ru,rw'=>by
  have hu0:A.units<cLine:=by omega
  have hu1:A.in1.units+n<cLine:=by show A.units+1+n<cLine;omega
  have item:∀{xs ys zs ts:List V}{us ws:List Value}{bs:List Bool},rvs φ xs zs->rvs φ ys ts->Vals zs us->Vals ts ws->JC (eqD h n) xs ys=some bs->us.length=bs.length/\ws.length=bs.length/\
    ∀(j:Nat) (h1:j<us.toArray.size) (h2:j<ws.toArray.size),EqAt A.in1 s us.toArray[j] ws.toArray[j] (bs.getD j true):=λ{xs ys zs ts us ws bs} r1 r2 v1 v2 e=>by
   obtain⟨l1,l2,k⟩:=Zo e;have n1:=Paired.length r1;have n2:=Paired.length r2;have n3:=v1.length;have n4:=v2.length;refine⟨by omega,by omega,λj h1 h2=>?_⟩;have g1:j<us.length:=by simpa using h1
   have g2:j<ws.length:=by simpa using h2
   have hx:j<xs.length:=by omega
   have hy:j<ys.length:=by omega
   obtain⟨b',hb',e'⟩:=k j _ _ (wD hx) (wD hy);obtain⟨z,hz,q1⟩:=qQ r1 (wD hx);obtain⟨t,ht,q2⟩:=qQ r2 (wD hy);obtain⟨u',hu',q3⟩:=v1.get hz;obtain⟨w',hw',q4⟩:=v2.get ht;rw[wD g1]at hu';rw[wD g2]at hw';cases hu';cases hw';rw[wE,hb'];have:=(qAH I R n (A:=A.in1) hu1 e' q1 q2 q3 q4).eq;simpa using this
  have refs:∀{a:Nat}{p:Addr}{v:V}{b:Bool},φ[a]?=some p->(if (items h a).isSome&&flat v then some false else none)=some b->b=false/\∃its,s.heap.IsList p its\/s.heap.IsTuple p its:=λ{a p v b} hp e=>by
   cases ea:h[a]? with
   |none=>rw[show items h a=none from(by unfold items;rw[ea])]at e;cases e
   |some o=>
    have hb:b=false:=by
     split at e
     ·cases e;rfl
     ·cases e
    refine⟨hb,?_⟩;cases o with
    |lst f xs=>
     obtain⟨p1,z1,q1,s1,r1⟩:=R.lst (i:=a) (xs:=xs) (by unfold qN;rw[ea]);rw[hp]at q1;cases q1;obtain⟨i1,_,t1,_⟩:=I.list s1;exact⟨_,.inl t1.isList⟩
    |tup xs=>
     obtain⟨p1,z1,q1,s1,r1⟩:=R.tup (i:=a) (xs:=xs) (by unfold qh;rw[ea]);rw[hp]at q1;cases q1;obtain⟨i1,_,t1,_⟩:=I.tuple s1;exact⟨_,.inr t1⟩
    |ob ks=>rw[show items h a=none from(by unfold items;rw[ea])]at e;cases e
  cases x with
  |ref a=>
   obtain⟨p,rfl,hp⟩:=qL rx;cases ru;cases y with
   |ref c=>
    obtain⟨q,rfl,hq⟩:=qL ry;cases rw';have same:p=q->b=true:=λz=>by
     subst z;exact T7 I R (n+1) e rx (show rv φ (.ref c) (.ref p) from hq)
    simp only[eqD]at e;split at e
    ·rename_i f1 xs f2 ys e1 e2;obtain⟨p1,z1,q1,s1,r1⟩:=R.lst (i:=a) (xs:=xs) (by unfold qN;rw[e1]);obtain⟨p2,z2,q2,s2,r2⟩:=R.lst (i:=c) (xs:=ys) (by unfold qN;rw[e2]);rw[hp]at q1;cases q1;rw[hq]at q2;cases q2;obtain⟨i1,v1,t1,_⟩:=I.list s1;obtain⟨i2,v2,t2,_⟩:=I.list s2;split at e
     ·rename_i hac;subst hac;rw[hp]at hq;cases hq;cases e;have rc:=RcAt.lists (A:=A) (e:=λ_=>true) t1.isList t1.isList rfl hu0 λj _ _=>EqAt.same _;have ne:=RcNeAt.lists (A:=A) (e:=λ_=>true) t1.isList t1.isList rfl hu0 λj _ _=>EqAt.same _;have al:∀l:List Nat,(l.all λ_=>true)=true:=λl=>by simp
      rw[al]at rc ne;exact⟨.same _,rc,ne⟩
     ·split at e
      ·obtain⟨bs,e3,rfl⟩:=wA.mp e;obtain⟨m1,m2,he⟩:=item r1 r2 v1 v2 e3;have hsz:i1.toArray.size=i2.toArray.size:=by simp;omega
       have rc:=RcAt.lists (A:=A) (e:=λj=>bs.getD j true) t1.isList t2.isList hsz hu0 he;have ne:=RcNeAt.lists (A:=A) (e:=λj=>bs.getD j true) t1.isList t2.isList hsz hu0 he;have sz:i1.toArray.size=bs.length:=by simpa using m1
       rw[sz,C5]at rc ne;refine⟨?_,rc,ne⟩;by_cases hpq:p=q
       ·rw[same hpq];subst hpq;exact .same _
       ·exact .of_refs hpq rc
      ·rename_i hl;cases e;have n1:=Paired.length r1;have n2:=Paired.length r2;have n3:=v1.length;have n4:=v2.length;have hsz:(i1.toArray.size != i2.toArray.size)=true:=by simp;omega
       have rc:=RcAt.lists_lengths (A:=A) t1.isList t2.isList hsz hu0;have ne:=RcNeAt.lists_lengths (A:=A) t1.isList t2.isList hsz hu0;refine⟨?_,rc,ne⟩;by_cases hpq:p=q
       ·exact absurd (same hpq) (by decide)
       ·exact .of_refs hpq rc
    ·rename_i xs ys e1 e2;obtain⟨p1,z1,q1,s1,r1⟩:=R.tup (i:=a) (xs:=xs) (by unfold qh;rw[e1]);obtain⟨p2,z2,q2,s2,r2⟩:=R.tup (i:=c) (xs:=ys) (by unfold qh;rw[e2]);rw[hp]at q1;cases q1;rw[hq]at q2;cases q2;obtain⟨i1,v1,t1,_⟩:=I.tuple s1;obtain⟨i2,v2,t2,_⟩:=I.tuple s2;have t1':s.heap.IsTuple p i1.toArray:=t1;have t2':s.heap.IsTuple q i2.toArray:=t2;split at e
     ·rename_i hac;subst hac;rw[hp]at hq;cases hq;cases e;have rc:=RcAt.tuples (A:=A) (e:=λ_=>true) t1' t1' hu0 λj _ _=>EqAt.same _;have ne:=RcNeAt.tuples (A:=A) (e:=λ_=>true) t1' t1' hu0 λj _ _=>EqAt.same _;have al:∀l:List Nat,(l.all λ_=>true)=true:=λl=>by simp
      rw[al]at rc ne;simp only[uW,Bool.and_self]at rc ne;exact⟨.same _,rc,ne⟩
     ·split at e
      ·obtain⟨bs,e3,rfl⟩:=wA.mp e;obtain⟨m1,m2,he⟩:=item r1 r2 v1 v2 e3;have hsz:i1.toArray.size=i2.toArray.size:=by simp;omega
       have rc:=RcAt.tuples (A:=A) (e:=λj=>bs.getD j true) t1' t2' hu0 he;have ne:=RcNeAt.tuples (A:=A) (e:=λj=>bs.getD j true) t1' t2' hu0 he;have sz:i1.toArray.size=bs.length:=by simpa using m1
       have sz2:i2.toArray.size=bs.length:=by simpa using m2
       rw[sz,sz2,Nat.min_self,C5,uW,vG]at rc ne;refine⟨?_,rc,ne⟩;by_cases hpq:p=q
       ·rw[same hpq];subst hpq;exact .same _
       ·exact .of_refs hpq rc
      ·rename_i hl;have n1:=Paired.length r1;have n2:=Paired.length r2;have n3:=v1.length;have n4:=v2.length;obtain⟨bs,e3,hb⟩:=wA.mp e;subst hb;have hsz:(i1.toArray.size==i2.toArray.size)=false:=by simp;omega
       obtain⟨m1,m2,he⟩:=item (jO ys.length r1) (jO xs.length r2) (v1.take ys.length) (v2.take xs.length) e3;have he':∀(j:Nat) (h1:j<i1.toArray.size) (h2:j<i2.toArray.size),EqAt A.in1 s i1.toArray[j] i2.toArray[j] (bs.getD j true):=λj h1 h2=>by
        have g1:j<i1.length:=by simpa using h1
        have g2:j<i2.length:=by simpa using h2
        have:=he j (by simp;omega) (by simp;omega);simpa using this
       have rc:=RcAt.tuples (A:=A) (e:=λj=>bs.getD j true) t1' t2' hu0 he';have ne:=RcNeAt.tuples (A:=A) (e:=λj=>bs.getD j true) t1' t2' hu0 he';rw[hsz,wx]at rc ne;refine⟨?_,rc,ne⟩;by_cases hpq:p=q
       ·exact absurd (same hpq) (by decide)
       ·exact .of_refs hpq rc
    ·rename_i f1 xs ys e1 e2;cases e;obtain⟨p1,z1,q1,s1,r1⟩:=R.lst (i:=a) (xs:=xs) (by unfold qN;rw[e1]);obtain⟨p2,z2,q2,s2,r2⟩:=R.tup (i:=c) (xs:=ys) (by unfold qh;rw[e2]);rw[hp]at q1;cases q1;rw[hq]at q2;cases q2;obtain⟨i1,_,t1,_⟩:=I.list s1;obtain⟨i2,_,t2,_⟩:=I.tuple s2;exact⟨.list_tuple t1.isList t2 hu0,.list_tuple t1.isList t2 hu0,.list_tuple t1.isList t2 hu0⟩
    ·rename_i xs f1 ys e1 e2;cases e;obtain⟨p1,z1,q1,s1,r1⟩:=R.tup (i:=a) (xs:=xs) (by unfold qh;rw[e1]);obtain⟨p2,z2,q2,s2,r2⟩:=R.lst (i:=c) (xs:=ys) (by unfold qN;rw[e2]);rw[hp]at q1;cases q1;rw[hq]at q2;cases q2;obtain⟨i1,_,t1,_⟩:=I.tuple s1;obtain⟨i2,_,t2,_⟩:=I.list s2;exact⟨.tuple_list t1 t2.isList hu0,.tuple_list t1 t2.isList hu0,.tuple_list t1 t2.isList hu0⟩
    ·cases e
   |non=>
    cases zL ry;cases rw';rcases refs hp (show (if (items h a).isSome&&flat V.non then some false else none)=some b from e) with⟨rfl,its,t|t⟩
    ·exact⟨.list_none t hu0,.list_none t hu0,.list_none t hu0⟩
    ·exact⟨.tuple_none t hu0,.tuple_none t hu0,.tuple_none t hu0⟩
   |bl j=>
    cases zb ry;cases rw';rcases refs hp (show (if (items h a).isSome&&flat (V.bl j) then some false else none)=some b from e) with⟨rfl,its,t|t⟩
    ·exact⟨.list_bool _ t hu0,.list_bool _ t hu0,.list_bool _ t hu0⟩
    ·exact⟨.tuple_bool _ t hu0,.tuple_bool _ t hu0,.tuple_bool _ t hu0⟩
   |int j=>
    cases qC ry;obtain⟨t',rfl⟩:=rw';rcases refs hp (show (if (items h a).isSome&&flat (V.int j) then some false else none)=some b from e) with⟨rfl,its,t|t⟩
    ·exact⟨.list_int _ _ t hu0,.list_int _ _ t hu0,.list_int _ _ t hu0⟩
    ·exact⟨.tuple_int _ _ t hu0,.tuple_int _ _ t hu0,.tuple_int _ _ t hu0⟩
   |str j=>
    cases zh ry;obtain⟨t',rfl⟩:=rw';rcases refs hp (show (if (items h a).isSome&&flat (V.str j) then some false else none)=some b from e) with⟨rfl,its,t|t⟩
    ·exact⟨.list_str _ _ t hu0,.list_str _ _ t hu0,.list_str _ _ t hu0⟩
    ·exact⟨.tuple_str _ _ t hu0,.tuple_str _ _ t hu0,.tuple_str _ _ t hu0⟩
   |_=>exact False.elim ry
  |non=>
   cases y with
   |ref c=>
    obtain⟨p,rfl,hp⟩:=qL ry;cases rw';cases zL rx;cases ru;rcases refs hp (show (if (items h c).isSome&&flat V.non then some false else none)=some b from(Bool.and_comm _ _) ▸ e) with⟨rfl,its,t|t⟩
    ·exact⟨.none_list t hu0,.none_list t hu0,.none_list t hu0⟩
    ·exact⟨.none_tuple t hu0,.none_tuple t hu0,.none_tuple t hu0⟩
   |_=>exact D8 e rx ry ru rw'
  |bl i=>
   cases y with
   |ref c=>
    obtain⟨p,rfl,hp⟩:=qL ry;cases rw';cases zb rx;cases ru;rcases refs hp (show (if (items h c).isSome&&flat (V.bl i) then some false else none)=some b from(Bool.and_comm _ _) ▸ e) with⟨rfl,its,t|t⟩
    ·exact⟨.bool_list _ t hu0,.bool_list _ t hu0,.bool_list _ t hu0⟩
    ·exact⟨.bool_tuple _ t hu0,.bool_tuple _ t hu0,.bool_tuple _ t hu0⟩
   |_=>exact D8 e rx ry ru rw'
  |int i=>
   cases y with
   |ref c=>
    obtain⟨p,rfl,hp⟩:=qL ry;cases rw';cases qC rx;obtain⟨t',rfl⟩:=ru;rcases refs hp (show (if (items h c).isSome&&flat (V.int i) then some false else none)=some b from(Bool.and_comm _ _) ▸ e) with⟨rfl,its,t|t⟩
    ·exact⟨.int_list _ _ t hu0,.int_list _ _ t hu0,.int_list _ _ t hu0⟩
    ·exact⟨.int_tuple _ _ t hu0,.int_tuple _ _ t hu0,.int_tuple _ _ t hu0⟩
   |_=>exact D8 e rx ry ru rw'
  |str i=>
   cases y with
   |ref c=>
    obtain⟨p,rfl,hp⟩:=qL ry;cases rw';cases zh rx;obtain⟨t',rfl⟩:=ru;rcases refs hp (show (if (items h c).isSome&&flat (V.str i) then some false else none)=some b from(Bool.and_comm _ _) ▸ e) with⟨rfl,its,t|t⟩
    ·exact⟨.str_list _ _ t hu0,.str_list _ _ t hu0,.str_list _ _ t hu0⟩
    ·exact⟨.str_tuple _ _ t hu0,.str_tuple _ _ t hu0,.str_tuple _ _ t hu0⟩
   |_=>exact D8 e rx ry ru rw'
  |_=>cases xc<;>exact False.elim rx
end
theorem J1{φ:List Addr}:∀{x w:V},flat x=true->rv φ x w->w=x
 | .non,_,_,h=>zL h
 | .bl _,_,_,h=>zb h
 | .int _,_,_,h=>qC h
 | .str _,_,_,h=>zh h
 | .ref _,_,f,_=>by cases f
 | .byt _,_,f,_=>by cases f
 | .flt _,_,f,_=>by cases f
 | .ty _,_,f,_=>by cases f
theorem zu{φ:List Addr}:∀{xs ws:List V},xs.all flat=true->rvs φ xs ws->ws=xs
 |_,_,_,.nil=>rfl
 |x::xs,w::ws,f,.cons r t=>by
  simp only[List.all_cons,wF]at f;rw[J1 f.1 r,zu f.2 t]
theorem P7:∀x:V,_L.flatV x=flat x:=by intro x;cases x<;>rfl
theorem qAB(xs:List V):xs.all _L.flatV=xs.all flat:=by
 induction xs with
 |nil=>rfl
 |cons x xs ih=>rw[List.all_cons,List.all_cons,ih,P7]
section
variable{X:Cx}{G:List Addr}{F:Nat->List V->AH->RV}
noncomputable def opC:COp->CmpOp
 | .lt=>.Lt | .le=>.LtE | .gt=>.Gt | .ge=>.GtE | .eq=>.Eq | .ne=>.NotEq | .inn=>.In | .notin=>.NotIn | .is=>.Is | .isnot=>.IsNot
variable (X G) in
noncomputable def qFo(op:COp):R2:=λx y H Q=>∃φ h xa ya b,Rl X.K G φ h H/\rv φ xa x/\rv φ ya y/\qAW op xa ya h=some b/\Q (.bl b) H
theorem S3{φ:List Addr}{x y:V}(r:rv φ x y):decide (x=V.non)=decide (y=V.non):=by
 by_cases hx:x=V.non
 ·subst hx;cases zL r;rfl
 ·have hy:y≠V.non:=λhy=>by subst hy;cases x<;>first|exact hx rfl|exact False.elim r
  rw[uR hx,uR hy]
theorem L6(kvs:List (Int×V))(i:Int):((kvs.map kk).any λkv=>decide (kv.1=Sum.inl i))=qDh kvs i:=by
 unfold qDh;rw[List.any_map];congr 1
 funext p
 show decide ((Sum.inl p.1:_L.Key)=Sum.inl i)=_;rw[wk];simp
theorem qCj(kvs:List (Int×V))(i:Int)(v:V):_L.putK (kvs.map kk) (Sum.inl i:_L.Key) v=(qGU kvs i v).map kk:=by
 unfold _L.putK qGU;rw[L6];split
 ·rw[vQ,vQ];congr 1
  funext p
  show (if (Sum.inl p.1:_L.Key)=Sum.inl i then ((Sum.inl p.1:_L.Key),v) else kk p)=kk (if p.1=i then (p.1,v) else p);by_cases h:p.1=i
  ·rw[if_pos (by rw[h]),if_pos h];rfl
  ·rw[if_neg (λz=>h (Sum.inl.inj z)),if_neg h]
 ·rw[vE];rfl
theorem Qp(hu:X.A.units+8<cLine):∀op,OpR X (compareOp (opC op)) (qFo X G op):=by
 intro op pins s σ H x y v u Q I rx ry ⟨φ,h,xa,ya,b,R,r1,r2,e,q⟩;have hin:∀(neg:Bool){p:Nat}{ya':V}(e:(match items h p with|some xs=>if flat xa&&xs.all flat then some (if neg then !(xs.any λy=>_L.eqV y xa) else xs.any λy=>_L.eqV y xa) else none|none=>none)=some b),rv φ (.ref p) y->_L.rIn X.K neg x y H Q:=by
  intro neg p ya' e r2;split at e
  ·rename_i xs ex;split at e
   ·rename_i hf;simp only[wF]at hf;obtain⟨a,ys,ha,hs,rs⟩:=R.its ex;obtain⟨a',rfl,ha'⟩:=qL r2;rw[ha]at ha';cases ha';have e1:=J1 hf.1 r1;have e2:=zu hf.2 rs;subst e1 e2;refine⟨a,ys,rfl,hs,by rw[P7];exact hf.1,by rw[qAB];exact hf.2,?_⟩;cases e;exact q
   ·cases e
  ·cases e
 cases op with
 |lt=>
  replace e:=ZM e;obtain⟨i,j,rfl,rfl,rfl⟩:=e;cases qC r1;cases qC r2;exact _L.op_lt pins s σ H _ _ v u Q I rx ry ⟨_,_,rfl,rfl,q⟩
 |le=>
  replace e:=ZM e;obtain⟨i,j,rfl,rfl,rfl⟩:=e;cases qC r1;cases qC r2;exact _L.op_le pins s σ H _ _ v u Q I rx ry ⟨_,_,rfl,rfl,q⟩
 |gt=>
  replace e:=ZM e;obtain⟨i,j,rfl,rfl,rfl⟩:=e;cases qC r1;cases qC r2;exact _L.op_gt pins s σ H _ _ v u Q I rx ry ⟨_,_,rfl,rfl,q⟩
 |ge=>
  replace e:=ZM e;obtain⟨i,j,rfl,rfl,rfl⟩:=e;cases qC r1;cases qC r2;exact _L.op_ge pins s σ H _ _ v u Q I rx ry ⟨_,_,rfl,rfl,q⟩
 |eq=>exact(qAH I R 4 (by omega) (show eqD h 4 xa ya=some b from e) r1 r2 rx ry).rc _ _ _ _ ⟨.bl b,H,I,rfl,q⟩
 |ne=>
  have e':(eqD h 4 xa ya).map (!·)=some b:=e;obtain⟨c,e1,rfl⟩:=wA.mp e';exact(qAH I R 4 (by omega) e1 r1 r2 rx ry).ne _ _ _ _ ⟨.bl (!c),H,I,rfl,q⟩
 |inn=>
  replace e:=P6 e;obtain⟨p,rfl,e⟩:=e;cases ei:items h p with
  |some xs=>exact _L.op_in_seq pins s σ H x y v u Q I rx ry (hin false (ya':=.non) (by rw[ei]at e ⊢;exact e) r2)
  |none=>
   rw[ei]at e;dsimp only at e;split at e
   ·rename_i kvs ed;split at e
    ·rename_i i;cases e;obtain⟨a,ea,_,hH⟩:=R.dct ed;obtain⟨a',rfl,ha'⟩:=qL r2;rw[ea]at ha';cases ha';cases qC r1;cases ry;refine _L.d_in (by omega) I (_L.DGet.k (k:=.inl i) hH) rx λs' I'=>⟨.bl (_L.valV (kvs.map kk) (Sum.inl i)).isSome,H,I',rfl,?_⟩
     rw[<-_L.valV_any,L6];exact q
    ·cases e
   ·cases e
 |notin=>
  replace e:=P6 e;obtain⟨p,rfl,e⟩:=e;cases ei:items h p with
  |some xs=>exact _L.op_notIn_seq pins s σ H x y v u Q I rx ry (hin true (ya':=.non) (by rw[ei]at e ⊢;exact e) r2)
  |none=>
   rw[ei]at e;dsimp only at e;split at e
   ·rename_i kvs ed;split at e
    ·rename_i i;cases e;obtain⟨a,ea,_,hH⟩:=R.dct ed;obtain⟨a',rfl,ha'⟩:=qL r2;rw[ea]at ha';cases ha';cases qC r1;cases ry;refine _L.d_notIn (by omega) I (_L.DGet.k (k:=.inl i) hH) rx λs' I'=>⟨.bl (!(_L.valV (kvs.map kk) (Sum.inl i)).isSome),H,I',rfl,?_⟩
     rw[<-_L.valV_any,L6];exact q
    ·cases e
   ·cases e
 |is=>
  rcases u7 (show isC xa ya id=some b from e) with⟨rfl,rfl⟩|⟨c,d,rfl,rfl,rfl⟩
  ·cases zL r2;rw[S3 r1]at q;exact _L.op_isN pins s σ H x _ v u Q I rx ry ⟨rfl,q⟩
  ·cases zb r1;cases zb r2;cases (show v=Value.bool c from rx);cases (show u=Value.bool d from ry);exact PySem.wpAny_is_plain rfl ⟨.bl (c==d),H,I,(by cases c<;>cases d<;>rfl),q⟩
 |isnot=>
  rcases u7 (show isC xa ya (!·)=some b from e) with⟨rfl,rfl⟩|⟨c,d,rfl,rfl,rfl⟩
  ·cases zL r2;rw[S3 r1]at q;exact _L.op_notN pins s σ H x _ v u Q I rx ry ⟨rfl,q⟩
  ·cases zb r1;cases zb r2;cases (show v=Value.bool c from rx);cases (show u=Value.bool d from ry);exact PySem.wpAny_isNot_plain rfl ⟨.bl (!(c==d)),H,I,(by cases c<;>cases d<;>rfl),q⟩
theorem A5:∀{bs:List Bool}{us:List Value},Vals (bs.map V.bl) us->LSm.BoolsAre us bs
 | [],_,.nil=>.nil
 |b::bs,u::us,.cons r t=>by
  cases (show u=Value.bool b from r);exact .cons b (A5 t)
theorem Y5{A:Around}{E:Value->Shared->Prop}{prog:Program}{w:World}{s:Shared}{l:Addr}{vs:List Value}{bs:List Bool}{Q:Value->Shared->Prop}(hh:A.handled=none)(hl:s.heap.IsList l vs.toArray)(hb:LSm.BoolsAre vs bs)
  (h:∀h' tk,(∀b x,s.heap.get? b=some x->h'.get? b=some x)->Q (.bool (bs.all id)) { s with heap:=h',toks:=tk }):wpAny (model prog w) A (call (.builtin "all") [.ref l]) Q E s:=by
 have hlt:l<s.heap.objs.size:=by obtain⟨_,e,_⟩:=hl;exact Heap.lt_size e
 refine call_all_walk (wpAny_pyIter_list hl ?_);refine⟨s.heap.objs.size,[s.heap.objs.size,l],[s.heap.objs.size],vs.toArray.size,_,_,λi=>(bs[i]?).getD true,rfl,Walks.list (A:=A.in1) hh _ l (wW hlt) vs.toArray,
  ⟨⟨_,Heap.get?_push_size _ rfl,rfl,rfl⟩,hl.push _⟩,λi v s' Q' E' hP hQ=>?_,λh' tk hk=>?_⟩
 ·obtain⟨b,e,rfl⟩:=hb.get i v (by simpa using hP);simp only[e,vn]at hQ;exact uV hQ
 ·have e:((List.range vs.toArray.size).all λi=>(bs[i]?).getD true)=bs.all id:=by
   rw[wP,hb.length];exact LSm.range_all bs
  rw[e];exact h h' tk (LSm.kept_iter hk)
theorem G5{A:Around}{E:Value->Shared->Prop}{prog:Program}{w:World}{s:Shared}{l:Addr}{vs:List Value}{ns:List Int}{M:Int}{Q:Value->Shared->Prop}(hh:A.handled=none)(hl:s.heap.IsList l vs.toArray)(hi:IntsAre vs ns)(hM:qDV ns=some M)
  (h:∀h' tk (t:Tok),(∀b x,s.heap.get? b=some x->h'.get? b=some x)->Q (.int M t) { s with heap:=h',toks:=tk }):wpAny (model prog w) A (call (.builtin "max") [.ref l]) Q E s:=by
 obtain⟨m1,m2⟩:=m6 hM;obtain⟨xs,e⟩:=hi.allInts.items;have hns:ns=xs.toList.map (·.1):=by rw[<-hi.numsOf,<-nums_intItems,<-e]
 have hsz:0<xs.size:=by
  have h3:=List.length_pos_of_mem m1;rw[hns,wQ,we]at h3;exact h3
 rw[e]at hl;refine max_intList hh hl hsz λv h' tk hv hk=>?_;obtain⟨t,rfl⟩:=intItems_at hv;obtain⟨h1,h2⟩:=argBest_gt (numAt xs) (xs.size-1);have e1:numAt xs (argBest (λi j=>decide (numAt xs i>numAt xs j)) (xs.size-1))=M:=by
  refine Int.le_antisymm (m2 _ ?_) ?_
  ·rw[hns,numAt_eq];exact getD_mem (by rw[wQ,we];omega)
  ·have ha:=m1;rw[hns]at ha;obtain⟨j,hj,e2⟩:=mem_getD ha;rw[wQ,we]at hj;rw[<-e2,<-numAt_eq];exact h2 j (by omega)
 rw[e1];exact h h' tk t hk
theorem X7{A:Around}{E:Value->Shared->Prop}{prog:Program}{w:World}{s:Shared}{l:Addr}{vs:List Value}{bs:List Bool}{Q:Value->Shared->Prop}(hh:A.handled=none)(hl:s.heap.IsList l vs.toArray)(hb:LSm.BoolsAre vs bs)
  (h:∀h' tk,(∀b x,s.heap.get? b=some x->h'.get? b=some x)->Q (.bool (bs.any id)) { s with heap:=h',toks:=tk }):wpAny (model prog w) A (call (.builtin "any") [.ref l]) Q E s:=by
 have hlt:l<s.heap.objs.size:=by obtain⟨_,e,_⟩:=hl;exact Heap.lt_size e
 refine call_any_walk (wpAny_pyIter_list hl ?_);refine⟨s.heap.objs.size,[s.heap.objs.size,l],[s.heap.objs.size],vs.toArray.size,_,_,λi=>(bs[i]?).getD false,rfl,Walks.list (A:=A.in1) hh _ l (wW hlt) vs.toArray,
  ⟨⟨_,Heap.get?_push_size _ rfl,rfl,rfl⟩,hl.push _⟩,λi v s' Q' E' hP hQ=>?_,λh' tk hk=>?_⟩
 ·obtain⟨b,e,rfl⟩:=hb.get i v (by simpa using hP);simp only[e,vn]at hQ;exact uV hQ
 ·have e:((List.range vs.toArray.size).any λi=>(bs[i]?).getD false)=bs.any id:=by
   rw[wP,hb.length];exact LSm.range_any bs
  rw[e];exact h h' tk (LSm.kept_iter hk)
theorem K9:∀{xs:List V}{is:List Int}{us:List Value},jm xs=some is->Vals xs us->us.length=is.length/\∀i v,us[i]?=some v->NumOf (is.getD i 0) v
 | [],is,_,e,.nil=>by cases e;exact⟨rfl,λi v e=>by simp at e⟩
 |x::r,is,u::us,e,.cons a t=>by
  unfold jm at e;split at e
  ·rename_i e';cases e'
  ·rename_i e';cases e';obtain⟨js,e1,rfl⟩:=wA.mp e;obtain⟨l,g⟩:=K9 e1 t;refine⟨by simp[l],λi v q=>?_⟩;cases i with
   |zero=>
    cases q;obtain⟨w,rfl⟩:=a;exact .inl ⟨w,rfl⟩
   |succ i=>exact g i v q
  ·rename_i e';cases e';obtain⟨js,e1,rfl⟩:=wA.mp e;obtain⟨l,g⟩:=K9 e1 t;refine⟨by simp[l],λi v q=>?_⟩;cases i with
   |zero=>
    cases q;exact .inr ⟨_,a,rfl⟩
   |succ i=>exact g i v q
  ·cases e
theorem Za:∀{xs:List V}{is:List Int},jm xs=some is->xs.all flat=true
 | [],_,_=>rfl
 |x::r,is,e=>by
  unfold jm at e;split at e
  ·rename_i e';cases e'
  ·rename_i e';cases e';obtain⟨js,e1,rfl⟩:=wA.mp e;rw[List.all_cons,Za e1];rfl
  ·rename_i e';cases e';obtain⟨js,e1,rfl⟩:=wA.mp e;rw[List.all_cons,Za e1];rfl
  ·cases e
theorem X4{A:Around}{E:Value->Shared->Prop}{prog:Program}{w:World}{s:Shared}{l:Addr}{vs:List Value}{xs:List V}{is:List Int}{Q:Value->Shared->Prop}(hh:A.handled=none)(hl:s.heap.IsList l vs.toArray)(ei:jm xs=some is)(hb:Vals xs vs)
  (h:∀h' tk t',(∀b x,s.heap.get? b=some x->h'.get? b=some x)->Q (.int is.sum t') { s with heap:=h',toks:=tk }):wpAny (model prog w) A (call (.builtin "sum") [.ref l]) Q E s:=by
 have hlt:l<s.heap.objs.size:=by obtain⟨_,e,_⟩:=hl;exact Heap.lt_size e
 obtain⟨hlen,hn⟩:=K9 ei hb;refine call_sum_walkAnyB (wpAny_pyIter_list hl ?_);refine⟨s.heap.objs.size,_,_,_,_,_,_,λi=>is.getD i 0,rfl,(Walks.list (prog:=prog) (w:=w) (A:=A.in1) hh s.heap.objs.size l (wW hlt) vs.toArray).toS,
  ⟨⟨_,Heap.get?_push_size _ rfl,rfl,rfl⟩,hl.push _⟩,λb hb=>?_,λi v hP=>hn i v (by simpa using hP),λs' t' hm=>?_⟩
 ·rcases wI.mp hb with rfl|hb
  ·exact Heap.lt_size (Heap.get?_push_size _ rfl)
  ·obtain rfl:=wU.mp hb;obtain⟨_,e,_⟩:=hl;exact Heap.lt_size (Heap.get?_push_of_some _ e)
 ·obtain⟨h',g',d',tk',os'⟩:=s';have e1:g'=s.gens:=hm.gens;have e2:d'=s.drawn:=hm.drawn;have e3:os'=s.os:=hm.os;subst e1 e2 e3;have e:=preSum_getD is vs.toArray.size;rw[wP,hlen,List.take_of_length_le (wG _),<-hlen,<-wP]at e;rw[e];exact h h' tk' t' λb o e=>hm.heap b o (λhb=>absurd (Heap.lt_size e) ((wU.mp hb) ▸ wn _)) (Heap.get?_push_of_some _ e)
theorem jM:∀{xs:List V}{is:List Int},jN xs=some is->xs=is.map V.int
 | [],is,e=>by cases e;rfl
 | .int i::r,is,e=>by
  simp only[jN]at e;obtain⟨js,e1,rfl⟩:=wA.mp e;rw[jM e1];rfl
 | .non::_,_,e=>by cases e
 | .bl _::_,_,e=>by cases e
 | .str _::_,_,e=>by cases e
 | .ref _::_,_,e=>by cases e
 | .byt _::_,_,e=>by cases e
 | .flt _::_,_,e=>by cases e
 | .ty _::_,_,e=>by cases e
theorem QK:∀{xs:List V}{is:List Bool},QD xs=some is->xs=is.map V.bl
 | [],is,e=>by cases e;rfl
 | .bl i::r,is,e=>by
  simp only[QD]at e;obtain⟨js,e1,rfl⟩:=wA.mp e;rw[QK e1];rfl
 | .non::_,_,e=>by cases e
 | .int _::_,_,e=>by cases e
 | .str _::_,_,e=>by cases e
 | .ref _::_,_,e=>by cases e
 | .byt _::_,_,e=>by cases e
 | .flt _::_,_,e=>by cases e
 | .ty _::_,_,e=>by cases e
theorem E3{φ:List Addr}:∀{xs:List V},xs.all flat=true->rvs φ xs xs
 | [],_=>.nil
 |x::xs,h=>by
  simp only[List.all_cons,wF]at h;refine .cons ?_ (E3 h.2);cases x<;>first|rfl|exact trivial|(cases h.1)
theorem jh:∀{us:List Value}{ns:List Int},IntsAre us ns->Vals (ns.map V.int) us
 |_,_,.nil=>.nil
 |_,_,.cons n t r=>.cons ⟨_,rfl⟩ (jh r)
theorem ja(is:List Int):(is.map V.int).all flat=true:=by simp[flat]
theorem JF(is:List Bool):(is.map V.bl).all flat=true:=by simp[flat]
noncomputable def fnB:BF->Value
 | .len=>.builtin "len" | .sum=>.builtin "sum" | .all=>.builtin "all" | .any=>.builtin "any" | .max=>.builtin "max" | .min=>.builtin "min"
 | .list=>.type "list" | .int=>.type "int" | .repr=>.builtin "repr" | .bits=>.builtin "int.bit_length" | .maxl=>.builtin "max"
variable (X G) in
def qHB(f:BF):List V->Hp->VK->Prop:=λxs H Q=>∃φ h ws v h',Rl X.K G φ h H/\rvs φ ws xs/\qFv f ws h=.ok (v,h')/\∀φ' H' w,Ext φ φ'->Rl X.K G φ' h' H'->rv φ' v w->Q w H'
theorem Z8{φ:List Addr}{hp:Heap}{x v:V}{u:Value}{d:PyData}(e:qBe x=some d)(r:rv φ x v)(ru:RelV v u):(∃as,Reads hp u d as)/\d.hasDict=false/\d.depth<=0:=by
 unfold qBe at e;split at e
 ·cases e;cases zL r;cases (show u=Value.none from ru);exact⟨⟨_,.none⟩,rfl,wG _⟩
 ·cases e;cases zb r;cases (show u=Value.bool _ from ru);exact⟨⟨_,.bool _⟩,rfl,wG _⟩
 ·cases e;cases qC r;obtain⟨t,rfl⟩:=ru;exact⟨⟨_,.int _ _⟩,rfl,wG _⟩
 ·cases e;cases zh r;obtain⟨t,rfl⟩:=ru;exact⟨⟨_,.str _ _⟩,rfl,wG _⟩
 ·cases e
def DR(P:Program)(W:World)(h:Heap)(n:Nat)(u:Value)(d:PyData):Prop:=(∃as,Reads h u d as)/\d.depth<=n/\(d.showable=true->d.shown.length<=sizeLine->∃bs,ReadAtMost h d.depth bs/\ReprK P W bs h d.depth u d.shown)
def DRs(P:Program)(W:World)(h:Heap)(n:Nat)(us:List Value)(ds:List PyData):Prop:=(∃as,ReadsAll h us ds as)/\PyData.depthAll ds<=n/\(PyData.showableAll ds=true->(∀t∈PyData.shownAll ds,t.length<=sizeLine)->∃bs,ReadAtMost h (PyData.depthAll ds) bs/\ReprAllK P W bs h (PyData.depthAll ds) us (PyData.shownAll ds))
theorem DR.flat{P:Program}{W:World}{hp:Heap}{n:Nat}{u:Value}{d:PyData}(q:(∃as,Reads hp u d as)/\d.hasDict=false/\d.depth<=0):DR P W hp n u d:=by
 obtain⟨⟨as,q1⟩,q2,q3⟩:=q;exact⟨⟨as,q1⟩,by omega,λhs hz=>ReprK.of_reads q1 hs (λz=>by rw[q2]at z;cases z) hz⟩
theorem Zl{P:Program}{W:World}{φ:List Addr}{hp:Heap}{n:Nat}{f:V->Option PyData}(hf:∀x v u d,f x=some d->rv φ x v->RelV v u->DR P W hp n u d):∀(xs ys:List V) (us:List Value) (ds:List PyData),U8 f xs=some ds->rvs φ xs ys->Vals ys us->DRs P W hp n us ds
 | [],ys,us,ds,e,r,ru=>by
  cases e;cases r;cases ru;exact⟨⟨_,.nil⟩,vI _,λ_ _=>⟨[],(λ_ h=>nomatch h),by simp only[PyData.shownAll];exact .nil⟩⟩
 |x::xs,ys,us,ds,e,r,ru=>by
  unfold U8 at e;obtain⟨d,e1,e⟩:=wM.mp e;obtain⟨ds',e2,rfl⟩:=wA.mp e;cases r with
  |cons r1 r2=>
   cases ru with
   |cons u1 u2=>
    obtain⟨⟨as,q1⟩,q3,q2⟩:=hf _ _ _ _ e1 r1 u1;obtain⟨⟨bs,p1⟩,p2,p3⟩:=Zl hf xs _ _ ds' e2 r2 u2;refine⟨⟨_,.cons q1 p1⟩,Nat.max_le.mpr ⟨q3,p2⟩,λhs hz=>?_⟩;have hs':d.showable=true/\PyData.showableAll ds'=true:=by simpa [PyData.showableAll] using hs
    obtain⟨b1,hb1,k1⟩:=q2 hs'.1 (hz _ (by simp only[PyData.shownAll];exact wO ..));obtain⟨b2,hb2,k2⟩:=p3 hs'.2 (λt ht=>hz t (by simp only[PyData.shownAll];exact wH _ ht));refine⟨b1++b2,?_,?_⟩
    ·intro b hm;simp only[PyData.depthAll];rcases wJ.mp hm with hm|hm
     ·obtain⟨d',as',r',hd'⟩:=hb1 b hm;exact⟨d',as',r',wN hd' (Nat.le_max_left _ _)⟩
     ·obtain⟨d',as',r',hd'⟩:=hb2 b hm;exact⟨d',as',r',wN hd' (Nat.le_max_right _ _)⟩
    ·simp only[PyData.depthAll,PyData.shownAll];exact .cons ((k1.more λb hb=>wR _ hb).level_le (Nat.le_max_left _ _)) (k2.more_le (λb hb=>wV _ hb) (Nat.le_max_right _ _))
theorem DRs.list{P:Program}{W:World}{hp:Heap}{n m:Nat}{p:Addr}{o:Obj}{its:List Value}{ds:List PyData}(q:DRs P W hp n its ds)(ho:hp.get? p=some o)(hc:o.cls=.type "list")(hd:o.data=.seq its.toArray m)(hs:PyData.showableAll ds=true)(hz:(listText (PyData.shownAll ds)).length<=sizeLine):
  ∃bs,ReadAtMost hp (PyData.depthAll ds) bs/\ReprAllK P W bs hp (PyData.depthAll ds) its (PyData.shownAll ds)/\p∉bs:=by
 obtain⟨⟨as,q1⟩,q2,q3⟩:=q;obtain⟨bs,hb,hk⟩:=q3 hs (λt ht=>wN (listText_mem_le ht) hz);exact⟨bs,hb,hk,not_mem_of_deeper (Reads.list ho hc hd (by simpa using q1)) (by simp only[PyData.depth];omega) hb⟩
theorem DRs.tuple{P:Program}{W:World}{hp:Heap}{n m:Nat}{p:Addr}{o:Obj}{its:List Value}{ds:List PyData}(q:DRs P W hp n its ds)(ho:hp.get? p=some o)(hc:o.cls=.type "tuple")(hd:o.data=.seq its.toArray m)(hs:PyData.showableAll ds=true)(hz:(tupleText (PyData.shownAll ds)).length<=sizeLine):
  ∃bs,ReadAtMost hp (PyData.depthAll ds) bs/\ReprAllK P W bs hp (PyData.depthAll ds) its (PyData.shownAll ds)/\p∉bs:=by
 obtain⟨⟨as,q1⟩,q2,q3⟩:=q;obtain⟨bs,hb,hk⟩:=q3 hs (λt ht=>wN (tupleText_mem_le ht) hz);exact⟨bs,hb,hk,not_mem_of_deeper (Reads.tuple ho hc hd (by simpa using q1)) (by simp only[PyData.depth];omega) hb⟩
theorem qBw{pins:List (Addr×Obj)}{s:Shared}{σ:_L.St}{H:Hp}{φ:List Addr}{h:AH}(I:Inv X pins σ H s)(R:Rl X.K G φ h H){a:Nat}{p:Addr}(ey:h[a]?=some (.ob (.dct [])))(hp:φ[a]?=some p):∃as,Reads s.heap (.ref p) (.dict []) as/\sysModules∉as:=by
 obtain⟨p',hp',hs⟩:=R.at ey;rw[hp]at hp';cases hp';obtain⟨_,hne,vs,hkv,o,es,ep,h1,h2,h3,h4,h5,h6⟩:=(show _L.ObjOk X.prog X.w H s.heap p (.dK []) from I.hok p _ hs)
 cases hkv;have he:es.toList=[]:=by cases hh:es.toList with|nil=>rfl|cons a b=>rw[hh]at h5;cases h5
 refine⟨_,.dict (as:=[]) (bs:=[]) h1 h2.1 h3 (by rw[he];exact .nil) (by rw[he];exact .nil),λz=>?_⟩;simp at z;rw[<-z]at hne;simp at hne
theorem P5{pins:List (Addr×Obj)}{s:Shared}{σ:_L.St}{H:Hp}{φ:List Addr}{h:AH}(I:Inv X pins σ H s)(R:Rl X.K G φ h H):∀(n:Nat) (x v:V) (u:Value) (d:PyData),dat h n x=some d->rv φ x v->RelV v u->DR X.prog X.w s.heap n u d
 | 0,x,v,u,d,e,r,ru=>.flat (Z8 e r ru)
 |n+1,x,v,u,d,e,r,ru=>by
  unfold dat at e;split at e
  ·rename_i a;obtain⟨p,rfl,hp⟩:=qL r;cases (show u=Value.ref p from ru);split at e
   ·rename_i f xs ey;obtain⟨ds,e1,rfl⟩:=wA.mp e;obtain⟨p',zs,hp',hs,rs⟩:=R.lst (show qN h a=some xs by unfold qN;rw[ey]);rw[hp]at hp';cases hp';obtain⟨its,rv',pl,_⟩:=I.list hs;obtain⟨o,ho,hc,m,hd⟩:=pl.isList;have q:=Zl (P5 I R n) xs zs its ds e1 rs rv';obtain⟨⟨as,q1⟩,q2,_⟩:=id q;refine⟨⟨_,.list ho hc hd (by simpa using q1)⟩,uF q2,λhs' hz=>?_⟩;have hz':(listText (PyData.shownAll ds)).length<=sizeLine:=by simpa only[PyData.shown] using hz
    obtain⟨bs,hb,hk,hna⟩:=q.list ho hc hd (by simpa [PyData.showable] using hs') hz';refine⟨p::bs,ReadAtMost.cons (Reads.list ho hc hd (by simpa using q1)) (by simp only[PyData.depth];omega) hb,?_⟩;simp only[PyData.depth,PyData.shown];cases its with
    |nil=>
     cases q1;simp only[PyData.shownAll,listText_nil];exact ReprK.listEmpty ho hc hd
    |cons y l=>exact ReprK.list ho hc hd hna (by simpa using hk.length_eq) (λi y e=>hk.item i y (by simpa using e))
   ·rename_i xs ey;obtain⟨ds,e1,rfl⟩:=wA.mp e;obtain⟨p',zs,hp',hs,rs⟩:=R.tup (show qh h a=some xs by unfold qh;rw[ey]);rw[hp]at hp';cases hp';obtain⟨its,rv',pl,_⟩:=I.tuple hs;obtain⟨o,ho,hc,m,hd⟩:=pl;have q:=Zl (P5 I R n) xs zs its ds e1 rs rv';obtain⟨⟨as,q1⟩,q2,_⟩:=id q;refine⟨⟨_,.tuple ho hc hd (by simpa using q1)⟩,uF q2,λhs' hz=>?_⟩;have hz':(tupleText (PyData.shownAll ds)).length<=sizeLine:=by simpa only[PyData.shown] using hz
    obtain⟨bs,hb,hk,hna⟩:=q.tuple ho hc hd (by simpa [PyData.showable] using hs') hz';refine⟨p::bs,ReadAtMost.cons (Reads.tuple ho hc hd (by simpa using q1)) (by simp only[PyData.depth];omega) hb,?_⟩;simp only[PyData.depth,PyData.shown];exact ReprK.tuple ho hc hd hna (by simpa using hk)
   ·rename_i ey;cases e;obtain⟨as,q1,q2⟩:=qBw I R ey hp;exact⟨⟨as,q1⟩,uF (vI _),λhs hz=>ReprK.of_reads q1 hs (λ_=>q2) hz⟩
   ·cases e
  ·exact .flat (Z8 e r ru)
theorem D9(hc:X.calm=true)(hu:X.A.units+8<cLine)(hgd:X.A.guards=some []):∀f,zI X (fnB f) (qHB X G f):=by
 intro f pins s σ H xs us Q I r ⟨φ,h,ws,v,h',R,rw',e,k⟩;cases f with
 |len=>
  replace e:=jQ e;obtain⟨x0,rfl,e⟩:=e;replace e:=jB e;obtain⟨a,rfl,e⟩:=e;split at e
  ·rename_i ys ey;cases e;cases rw' with
   |cons r1 t=>
    cases t;obtain⟨p,rfl,hp⟩:=qL r1;obtain⟨p',zs,hp',hs,rs⟩:=R.its ey;rw[hp]at hp';cases hp';refine _L.call_len_seq pins s σ H _ us Q I r ⟨p,zs,rfl,hs,?_⟩;rw[<-Paired.length rs];exact k φ H _ (.refl _) R rfl
  ·cases e
 |sum=>
  replace e:=jQ e;obtain⟨x0,rfl,e⟩:=e;replace e:=jB e;obtain⟨a,rfl,e⟩:=e;split at e
  ·rename_i ys ey;split at e
   ·rename_i is ei;cases e;cases rw' with
    |cons r1 t=>
     cases t;obtain⟨p,rfl,hp⟩:=qL r1;obtain⟨p',zs,hp',hs,rs⟩:=R.lst ey;rw[hp]at hp';cases hp';have hz:=zu (Za ei) rs;subst hz;obtain⟨its,rv',pl,_⟩:=I.list hs;obtain⟨u,rfl,ru⟩:=_L.vals1 r;cases ru;exact X4 (I.ok.hd hc) pl.isList ei rv' λh1 tk t' hk=>⟨.int is.sum,H,I.kept hk,⟨_,rfl⟩,k φ H _ (.refl _) R rfl⟩
   ·cases e
  ·cases e
 |all=>
  replace e:=jQ e;obtain⟨x0,rfl,e⟩:=e;replace e:=jB e;obtain⟨a,rfl,e⟩:=e;split at e
  ·rename_i ys ey;split at e
   ·rename_i is ei;cases e;cases rw' with
    |cons r1 t=>
     cases t;obtain⟨p,rfl,hp⟩:=qL r1;obtain⟨p',zs,hp',hs,rs⟩:=R.lst ey;rw[hp]at hp';cases hp';have hm:=QK ei;subst hm;have hz:=zu (JF is) rs;subst hz;obtain⟨its,rv',pl,_⟩:=I.list hs;obtain⟨u,rfl,ru⟩:=_L.vals1 r;cases ru;exact Y5 (I.ok.hd hc) pl.isList (A5 rv') λh1 tk hk=>⟨.bl (is.all id),H,I.kept hk,rfl,k φ H _ (.refl _) R rfl⟩
   ·cases e
  ·cases e
 |any=>
  replace e:=jQ e;obtain⟨x0,rfl,e⟩:=e;replace e:=jB e;obtain⟨a,rfl,e⟩:=e;split at e
  ·rename_i ys ey;split at e
   ·rename_i is ei;cases e;cases rw' with
    |cons r1 t=>
     cases t;obtain⟨p,rfl,hp⟩:=qL r1;obtain⟨p',zs,hp',hs,rs⟩:=R.lst ey;rw[hp]at hp';cases hp';have hm:=QK ei;subst hm;have hz:=zu (JF is) rs;subst hz;obtain⟨its,rv',pl,_⟩:=I.list hs;obtain⟨u,rfl,ru⟩:=_L.vals1 r;cases ru;exact X7 (I.ok.hd hc) pl.isList (A5 rv') λh1 tk hk=>⟨.bl (is.any id),H,I.kept hk,rfl,k φ H _ (.refl _) R rfl⟩
   ·cases e
  ·cases e
 |max=>
  replace e:=two_inv e;obtain⟨x0,y0,rfl,e⟩:=e;replace e:=zm e;obtain⟨i,j,rfl,rfl,e⟩:=e;cases e;cases rw' with
  |cons r1 t=>
   cases t with
   |cons r2 t=>
    cases t;cases qC r1;cases qC r2;exact _L.call_max2 hc pins s σ H _ us Q I r ⟨_,_,rfl,k φ H _ (.refl _) R rfl⟩
 |min=>
  replace e:=two_inv e;obtain⟨x0,y0,rfl,e⟩:=e;replace e:=zm e;obtain⟨i,j,rfl,rfl,e⟩:=e;cases e;cases rw' with
  |cons r1 t=>
   cases t with
   |cons r2 t=>
    cases t;cases qC r1;cases qC r2;exact _L.call_min2 hc pins s σ H _ us Q I r ⟨_,_,rfl,k φ H _ (.refl _) R rfl⟩
 |maxl=>
  replace e:=jQ e;obtain⟨x0,rfl,e⟩:=e;replace e:=jB e;obtain⟨a,rfl,e⟩:=e;split at e
  ·rename_i ys ey;split at e
   ·rename_i M eM;cases e;obtain⟨is,ei,em⟩:=wM.mp eM;cases rw' with
    |cons r1 t=>
     cases t;obtain⟨p,rfl,hp⟩:=qL r1;obtain⟨p',zs,hp',hs,rs⟩:=R.lst ey;rw[hp]at hp';cases hp';have hm:=jM ei;subst hm;have hz:=zu (ja is) rs;subst hz;obtain⟨its,rv',pl,_⟩:=I.list hs;obtain⟨u,rfl,ru⟩:=_L.vals1 r;cases ru;exact G5 (I.ok.hd hc) pl.isList (_L.intsAre_of rv') em λh1 tk t' hk=>⟨.int M,H,I.kept hk,⟨_,rfl⟩,k φ H _ (.refl _) R rfl⟩
   ·cases e
  ·cases e
 |bits=>
  replace e:=jQ e;obtain⟨x0,rfl,e⟩:=e;split at e
  ·cases e;cases rw' with
   |cons r1 t=>
    cases t;cases qC r1;obtain⟨u,rfl,ru⟩:=_L.vals1 r;obtain⟨t,rfl⟩:=ru;rename_i j;exact call_int_bit_length ⟨.int ((Builtin.Int.intBits j:Nat):Int),H,I.tok _,⟨_,rfl⟩,k φ H _ (.refl _) R rfl⟩
  ·cases e
 |list=>
  replace e:=jQ e;obtain⟨x0,rfl,e⟩:=e;replace e:=jB e;obtain⟨a,rfl,e⟩:=e;split at e
  ·rename_i ys ey;cases e;cases rw' with
   |cons r1 t=>
    cases t;obtain⟨p,rfl,hp⟩:=qL r1;obtain⟨p',zs,hp',hs,rs⟩:=R.its ey;rw[hp]at hp';cases hp';exact _L.call_list_of pins s σ H _ us Q I r ⟨p,zs,rfl,hs,λl hl=>k (φ++[l]) _ _ ⟨[l],rfl⟩ (R.newL hl rs) R.lastRef⟩
  ·cases e
 |int=>
  replace e:=jQ e;obtain⟨x0,rfl,e⟩:=e;split at e
  ·cases e;cases rw' with
   |cons r1 t=>
    cases t;cases qC r1;exact _L.call_int1 pins s σ H _ us Q I r (.inl ⟨_,rfl,k φ H _ (.refl _) R rfl⟩)
  ·cases e;cases rw' with
   |cons r1 t=>
    cases t;cases zb r1;exact _L.call_int1 pins s σ H _ us Q I r (.inr ⟨_,rfl,k φ H _ (.refl _) R rfl⟩)
  ·cases e
 |repr=>
  replace e:=jQ e;obtain⟨x0,rfl,e⟩:=e;unfold qFn at e;split at e
  ·rename_i v0 ev0;cases e;obtain⟨d,e1,e2⟩:=wM.mp ev0;unfold Y4 at e2;split at e2
   ·rename_i hsh;cases e2;cases rw' with
    |cons r1 t=>
     cases t;obtain⟨u,rfl,ru⟩:=_L.vals1 r;cases x0 with
     |ref a=>
      obtain⟨p,rfl,hp⟩:=qL r1;cases (show u=Value.ref p from ru);unfold qGk dat at e1;dsimp only at e1;split at e1
      ·rename_i f xs ey;obtain⟨ds,e2,rfl⟩:=wA.mp e1;obtain⟨p',zs,hp',hs,rs⟩:=R.lst (show qN h a=some xs by unfold qN;rw[ey]);rw[hp]at hp';cases hp';obtain⟨its,rv',pl,_⟩:=I.list hs;obtain⟨o,ho,hc',m,hd⟩:=pl.isList;have q:=Zl (P5 I R 4) xs zs its ds e2 rs rv';have q2:=q.2.1;have hz':(listText (PyData.shownAll ds)).length<=sizeLine:=by simpa only[PyData.shown] using hsh.2
       obtain⟨bs,hb,hk,hna⟩:=q.list ho hc' hd (by simpa [PyData.showable] using hsh.1) hz';cases its with
       |nil=>
        obtain⟨⟨as,q1⟩,_,_⟩:=q;cases q1;refine call_repr_slot (by omega) ⟨o,ho,hc'⟩ F.slot_list_repr.toG (call_list_repr_empty ⟨o,ho,hc'⟩ ho hd ⟨_,_,rfl,?_⟩);exact⟨.str (PyData.shown (.list [])),H,I.tok _,⟨s.toks,by simp only[PyData.shown,PyData.shownAll,listText_nil]⟩,k φ H _ (.refl _) R rfl⟩
       |cons y l=>
        refine call_repr_slot (by omega) ⟨o,ho,hc'⟩ F.slot_list_repr.toG (call_list_reprK ho hc' hd hna (by simpa using hk.length_eq) (λi y e=>hk.item i y (by simpa using e)) hgd (λb _=>Clear.nil b) (by show X.A.units+1+_<cLine;omega) (λ_ _ e=>e) (λh1 u tk hk=>⟨_,_,rfl,?_⟩) hz');exact⟨.str (PyData.shown (.list ds)),H,I.kept hk,⟨u,by simp only[PyData.shown]⟩,k φ H _ (.refl _) R rfl⟩
      ·rename_i ws ey;obtain⟨ds,e2,rfl⟩:=wA.mp e1;obtain⟨p',zs,hp',hs,rs⟩:=R.tup (show qh h a=some ws by unfold qh;rw[ey]);rw[hp]at hp';cases hp';obtain⟨its,rv',pl,_⟩:=I.tuple hs;obtain⟨o,ho,hc',m,hd⟩:=pl;have q:=Zl (P5 I R 4) ws zs its ds e2 rs rv';have q2:=q.2.1;have hz':(tupleText (PyData.shownAll ds)).length<=sizeLine:=by simpa only[PyData.shown] using hsh.2
       obtain⟨bs,hb,hk,hna⟩:=q.tuple ho hc' hd (by simpa [PyData.showable] using hsh.1) hz';refine call_repr_slot (by omega) ⟨o,ho,hc'⟩ F.slot_tuple_repr (call_tuple_reprK ho hc' hd hna (by simpa using hk) hgd (λb _=>Clear.nil b) (by show X.A.units+1+_<cLine;omega) (λ_ _ e=>e) (λh1 u tk hk=>⟨_,_,rfl,?_⟩) hz');exact⟨.str (PyData.shown (.tuple ds)),H,I.kept hk,⟨u,by simp only[PyData.shown]⟩,k φ H _ (.refl _) R rfl⟩
      ·rename_i ey;cases e1;obtain⟨as,q1,q2⟩:=qBw I R ey hp;refine repr_of_reads' q1 hsh.1 (λ_=>q2) hgd (by show X.A.units+(1+1)<cLine;omega) (λb o e=>e) (λh1 u tk hk=>?_) hsh.2;exact⟨.str (PyData.shown (.dict [])),H,I.kept hk,⟨_,rfl⟩,k φ H _ (.refl _) R rfl⟩
      ·cases e1
     |non=>
      cases e1;cases zL r1;cases (show u=Value.none from ru);exact PySem.P.repr_of_none ⟨.str (PyData.shown .none),H,I.tok _,⟨_,rfl⟩,k φ H _ (.refl _) R rfl⟩
     |bl b=>
      cases e1;cases zb r1;cases (show u=Value.bool b from ru);exact PySem.P.repr_of_bool ⟨.str (PyData.shown (.bool b)),H,I.tok _,⟨_,by cases b<;>rfl⟩,k φ H _ (.refl _) R rfl⟩
     |int i=>
      cases e1;cases qC r1;obtain⟨tt,rfl⟩:=ru;exact PySem.P.repr_of_int (uU hsh.1) ⟨.str (PyData.shown (.int i)),H,I.tok _,⟨_,rfl⟩,k φ H _ (.refl _) R rfl⟩
     |str x=>
      cases e1;cases zh r1;obtain⟨tt,rfl⟩:=ru;exact PySem.P.repr_of_str ⟨.str (PyData.shown (.str x)),H,I.tok _,⟨_,rfl⟩,k φ H _ (.refl _) R rfl⟩ hsh.2
     |_=>cases e1
   ·cases e2
  ·cases e
end
open _L (PW)
theorem jY{r:RV}{b:Bool}{h:AH}(e:asB r=.ok (b,h)):r=.ok (.bl b,h):=by
 unfold asB at e;obtain⟨⟨v,h1⟩,e1,e2⟩:=tM e;dsimp only at e2;split at e2
 ·cases e2;exact e1
 ·cases e2
theorem O3{r:RV}{b:Bool}{h:AH}(e:r=.ok (.bl b,h)):asB r=.ok (b,h):=by
 subst e;rfl
section
variable{X:Cx}{G:List Addr}{F:Nat->List V->AH->RV}{a b c:E}{as:Es}{ea eb ec:Expr}{es:List Expr}{pos:Pos}
theorem JZ{K:PySem.W.Frag}{σ:St}{H:Hp}{Q:Bool->Hp->Prop}(q:tT K G F a σ H Q):tE K G F a σ H (λx H'=>∃k,x=.bl k/\Q k H'):=by
 obtain⟨φ,h,σa,b,h',R,rs,e,k⟩:=q;exact⟨φ,h,σa,.bl b,h',R,rs,jY e,λφ' H' w x' R' r'=>⟨b,zb r',k φ' H' x' R'⟩⟩
theorem qZ(h:SE X G F ea a)(he:∀whole,isTrue ea X.env whole=(do let v <- whole;standAt ea.pos;holding [v] (truthy v))):ST X G F ea a:=
 qAn (_L.pt_val h he) λ_ _ _ q=>JZ q
theorem qBn{op:COp}{σc:St}{H:Hp}{Q:VK}(q:tE X.K G F (.cmp op a b) σc H Q):_L.tOp (qFo X G op) (tE X.K G F a) (tE X.K G F b) σc H Q:=by
 obtain⟨φ,h,σ,v,h',R,rs,e,k⟩:=q;unfold ev at e;obtain⟨⟨x,h1⟩,e1,e⟩:=tM e;obtain⟨⟨y,h2⟩,e2,e⟩:=tM e;refine Qz R rs e1 e2 λφ2 H2 xc yc x2 R2 r1 r2=>?_;unfold qDe at e;dsimp only at e;split at e
 ·rename_i t et;cases e;exact⟨φ2,_,x,y,t,R2,r1,r2,et,k φ2 H2 _ x2 R2 rfl⟩
 ·cases e
theorem qE1{op:COp}(hu:X.A.units+8<cLine)(ha:SE X G F ea a)(hb:SE X G F eb b)(hm:behindInMarks (opC op) eb=false):SE X G F (.Compare ea [opC op] [eb] pos) (.cmp op a b):=
 zG (_L.pe_cmpR (Qp hu op) ha hb hm) λ_ _ _=>qBn
theorem qFT{op:COp}(hu:X.A.units+8<cLine)(ha:SE X G F ea a)(hb:SE X G F eb b)(hm:behindInMarks (opC op) eb=false):ST X G F (.Compare ea [opC op] [eb] pos) (.cmp op a b):=
 qAn (_L.pt_cmpR (Qp hu op) ha hb hm) λ_ _ _ q=>qBn (JZ q)
theorem U4{o1 o2:COp}{σc:St}{H:Hp}{Q:VK}(q:tE X.K G F (.cmp2 o1 o2 a b c) σc H Q):_L.tChain (qFo X G o1) (qFo X G o2) (tE X.K G F a) (tE X.K G F b) (tE X.K G F c) σc H Q:=by
 obtain⟨φ,h,σ,v,h',R,rs,e,k⟩:=q;unfold ev at e;obtain⟨⟨x,h1⟩,e1,e⟩:=tM e;obtain⟨⟨y,h2⟩,e2,e⟩:=tM e;refine Qz R rs e1 e2 λφ2 H2 xc yc x2 R2 r1 r2=>?_;dsimp only at e;split at e
 ·rename_i et;refine⟨φ2,_,x,y,true,R2,r1,r2,et,true,rfl,?_⟩;rw[if_pos rfl];obtain⟨⟨z,h3⟩,e3,e⟩:=tM e;refine⟨φ2,_,σ,z,h3,R2,rst.mono x2 rs,e3,λφ3 H3 zc x3 R3 r3=>?_⟩;unfold qDe at e;dsimp only at e;split at e
  ·rename_i t et;cases e;exact⟨φ3,_,y,z,t,R3,rv.mono x3 r2,r3,et,k φ3 H3 _ (x2.trans x3) R3 rfl⟩
  ·cases e
 ·rename_i et;cases e;refine⟨φ2,_,x,y,false,R2,r1,r2,et,false,rfl,?_⟩;rw[if_neg (by decide)];exact k φ2 H2 _ x2 R2 rfl
 ·cases e
theorem qAe{o1 o2:COp}(hu:X.A.units+8<cLine)(ha:SE X G F ea a)(hb:SE X G F eb b)(hc:SE X G F ec c)(hm:lastMarks [opC o1,opC o2] [eb,ec]=false):SE X G F (.Compare ea [opC o1,opC o2] [eb,ec] pos) (.cmp2 o1 o2 a b c):=
 zG (_L.pe_chain (Qp hu o1) (Qp hu o2) ha hb hc hm) λ_ _ _=>U4
theorem qAf{o1 o2:COp}(hu:X.A.units+8<cLine)(ha:SE X G F ea a)(hb:SE X G F eb b)(hc:SE X G F ec c)(hm:lastMarks [opC o1,opC o2] [eb,ec]=false):ST X G F (.Compare ea [opC o1,opC o2] [eb,ec] pos) (.cmp2 o1 o2 a b c):=
 qAn (_L.pt_chain (Qp hu o1) (Qp hu o2) ha hb hc hm) λ_ _ _ q=>U4 (JZ q)
theorem qDS{σc:St}{H:Hp}{Q:VK}(q:tE X.K G F (.and a b) σc H Q):_L.tAndV (tE X.K G F a) (tE X.K G F b) σc H Q:=by
 obtain⟨φ,h,σ,v,h',R,rs,e,k⟩:=q;unfold ev at e;obtain⟨⟨x,h1⟩,e1,e⟩:=tM e;refine⟨φ,h,σ,.bl x,h1,R,rs,jY e1,λφ1 H1 w x1 R1 r1=>⟨x,zb r1,?_⟩⟩;dsimp only at e;cases x with
 |true=>
  rw[if_pos rfl]at e ⊢;exact⟨φ1,h1,σ,v,h',R1,rst.mono x1 rs,e,λφ2 H2 w2 x2 R2 r2=>k φ2 H2 w2 (x1.trans x2) R2 r2⟩
 |false=>
  rw[if_neg (by decide)]at e ⊢;cases e;exact k φ1 H1 _ x1 R1 rfl
theorem qDy{σc:St}{H:Hp}{Q:VK}(q:tE X.K G F (.or a b) σc H Q):_L.tOrV (tE X.K G F a) (tE X.K G F b) σc H Q:=by
 obtain⟨φ,h,σ,v,h',R,rs,e,k⟩:=q;unfold ev at e;obtain⟨⟨x,h1⟩,e1,e⟩:=tM e;refine⟨φ,h,σ,.bl x,h1,R,rs,jY e1,λφ1 H1 w x1 R1 r1=>⟨x,zb r1,?_⟩⟩;dsimp only at e;cases x with
 |false=>
  rw[if_neg (by decide)]at e ⊢;exact⟨φ1,h1,σ,v,h',R1,rst.mono x1 rs,e,λφ2 H2 w2 x2 R2 r2=>k φ2 H2 w2 (x1.trans x2) R2 r2⟩
 |true=>
  rw[if_pos rfl]at e ⊢;cases e;exact k φ1 H1 _ x1 R1 rfl
theorem qDo{σc:St}{H:Hp}{Q:Bool->Hp->Prop}(q:tT X.K G F (.and a b) σc H Q):_L.tAnd (tT X.K G F a) (tT X.K G F b) σc H Q:=by
 obtain⟨φ,h,σ,t,h',R,rs,e,k⟩:=q;have e:=jY e;unfold ev at e;obtain⟨⟨x,h1⟩,e1,e⟩:=tM e;refine⟨φ,h,σ,x,h1,R,rs,e1,λφ1 H1 x1 R1=>?_⟩;dsimp only at e;cases x with
 |true=>
  rw[if_pos rfl]at e ⊢;exact⟨φ1,h1,σ,t,h',R1,rst.mono x1 rs,O3 e,λφ2 H2 x2 R2=>k φ2 H2 (x1.trans x2) R2⟩
 |false=>
  rw[if_neg (by decide)]at e ⊢;cases e;exact k φ1 H1 x1 R1
theorem qF8{σc:St}{H:Hp}{Q:Bool->Hp->Prop}(q:tT X.K G F (.or a b) σc H Q):_L.tOr (tT X.K G F a) (tT X.K G F b) σc H Q:=by
 obtain⟨φ,h,σ,t,h',R,rs,e,k⟩:=q;have e:=jY e;unfold ev at e;obtain⟨⟨x,h1⟩,e1,e⟩:=tM e;refine⟨φ,h,σ,x,h1,R,rs,e1,λφ1 H1 x1 R1=>?_⟩;dsimp only at e;cases x with
 |false=>
  rw[if_neg (by decide)]at e ⊢;exact⟨φ1,h1,σ,t,h',R1,rst.mono x1 rs,O3 e,λφ2 H2 x2 R2=>k φ2 H2 (x1.trans x2) R2⟩
 |true=>
  rw[if_pos rfl]at e ⊢;cases e;exact k φ1 H1 x1 R1
variable (X G F) in
abbrev SW(e:Expr)(a:E):Prop:=PW X e (tT X.K G F a)
theorem qEd{e:Expr}{t t':TT}(h:PW X e t)(w:∀σ H Q,t' σ H Q->t σ H Q):PW X e t':=λwh pins s σ H Q I q=>h wh pins s σ H Q I (w σ H Q q)
theorem qEY{ZE:List Expr}(ha:SE X G F ea a)(hb:SE X G F (.BoolOp .And (eb::ZE) pos) b):SE X G F (.BoolOp .And (ea::eb::ZE) pos) (.and a b):=zG (_L.pe_and ha hb) λ_ _ _=>qDS
theorem qGA{ZE:List Expr}(ha:SE X G F ea a)(hb:SE X G F (.BoolOp .Or (eb::ZE) pos) b):SE X G F (.BoolOp .Or (ea::eb::ZE) pos) (.or a b):=zG (_L.pe_or ha hb) λ_ _ _=>qDy
theorem qFW{ZE:List Expr}(ha:ST X G F ea a)(hb:SW X G F (.BoolOp .And (eb::ZE) pos) b):SW X G F (.BoolOp .And (ea::eb::ZE) pos) (.and a b):=qEd (_L.pw_and ha hb) λ_ _ _=>qDo
theorem qGV{ZE:List Expr}(ha:ST X G F ea a)(hb:SW X G F (.BoolOp .Or (eb::ZE) pos) b):SW X G F (.BoolOp .Or (ea::eb::ZE) pos) (.or a b):=qEd (_L.pw_or ha hb) λ_ _ _=>qF8
theorem qD4(ha:SE X G F ea a):SE X G F (.UnaryOp .Not ea pos) (.not a):=by
 refine zG (_L.pe_not ha) λσc H Q q=>?_;obtain⟨φ,h,σ,v,h',R,rs,e,k⟩:=q;unfold ev at e;obtain⟨⟨x,h1⟩,e1,e⟩:=tM e;cases e;exact⟨φ,h,σ,.bl x,_,R,rs,jY e1,λφ1 H1 w x1 R1 r1=>⟨x,zb r1,k φ1 H1 _ x1 R1 rfl⟩⟩
theorem qDq(ha:ST X G F ea a):ST X G F (.UnaryOp .Not ea pos) (.not a):=by
 refine qAn (_L.pt_not ha) λσc H Q q=>?_;obtain⟨φ,h,σ,t,h',R,rs,e,k⟩:=q;have e:=jY e;unfold ev at e;obtain⟨⟨x,h1⟩,e1,e⟩:=tM e;cases e;exact⟨φ,h,σ,x,_,R,rs,e1,λφ1 H1 x1 R1=>k φ1 H1 x1 R1⟩
theorem qFJ(hc:ST X G F ec c)(ha:SE X G F ea a)(hb:SE X G F eb b):SE X G F (.IfExp ec ea eb pos) (.ite c a b):=by
 refine zG (_L.pe_ifExp hc ha hb) λσc H Q q=>?_;obtain⟨φ,h,σ,v,h',R,rs,e,k⟩:=q;unfold ev at e;obtain⟨⟨x,h1⟩,e1,e⟩:=tM e;refine⟨φ,h,σ,x,h1,R,rs,e1,λφ1 H1 x1 R1=>?_⟩;dsimp only at e;cases x with
 |true=>
  rw[if_pos rfl]at e ⊢;exact⟨φ1,h1,σ,v,h',R1,rst.mono x1 rs,e,λφ2 H2 w2 x2 R2 r2=>k φ2 H2 w2 (x1.trans x2) R2 r2⟩
 |false=>
  rw[if_neg (by decide)]at e ⊢;exact⟨φ1,h1,σ,v,h',R1,rst.mono x1 rs,e,λφ2 H2 w2 x2 R2 r2=>k φ2 H2 w2 (x1.trans x2) R2 r2⟩
theorem qEn(hc:ST X G F ec c)(ha:ST X G F ea a)(hb:ST X G F eb b):ST X G F (.IfExp ec ea eb pos) (.ite c a b):=by
 intro pins s σc H Q I q;obtain⟨φ,h,σ,t,h',R,rs,e,k⟩:=q;have e:=jY e;unfold ev at e;obtain⟨⟨x,h1⟩,e1,e⟩:=tM e;refine isTrue_IfExp (_L.thn (hc pins s σc H (λz H1=>(z=true->tT X.K G F a σc H1 Q)/\(z=false->tT X.K G F b σc H1 Q)) I ⟨φ,h,σ,x,h1,R,rs,e1,λφ1 H1 x1 R1=>?_⟩) λz s1 ⟨H1,I1,q1,q2⟩=>?_)
 ·dsimp only at e;cases x with
  |true=>
   rw[if_pos rfl]at e;exact⟨λ_=>⟨φ1,h1,σ,t,h',R1,rst.mono x1 rs,O3 e,λφ2 H2 x2 R2=>k φ2 H2 (x1.trans x2) R2⟩,λz=>nomatch z⟩
  |false=>
   rw[if_neg (by decide)]at e;exact⟨(λz=>nomatch z),λ_=>⟨φ1,h1,σ,t,h',R1,rst.mono x1 rs,O3 e,λφ2 H2 x2 R2=>k φ2 H2 (x1.trans x2) R2⟩⟩
 ·cases z with
  |true=>exact ha pins s1 σc H1 Q I1 (q1 rfl)
  |false=>exact hb pins s1 σc H1 Q I1 (q2 rfl)
noncomputable def qf:Expr->Bool
 | .Starred ..=>false
 |_=>true
theorem qH{e:Expr}{env:Env}(h:qf e=true):starEach (e::es) env=(false,eval e env)::starEach es env:=by
 cases e<;>first|rfl|cases h
theorem Qa{env:Env}:∀{es:List Expr},es.all qf=true->(backTo pos (starEach es env)).any (·.1)=false
 | [],_=>rfl
 |e::es,h=>by
  simp only[List.all_cons,wF]at h;rw[qH h.1];show (false||(backTo pos (starEach es env)).any (·.1))=false;rw[Qa h.2];rfl
theorem qEc:SA X G F [] .nil:=by
 refine qFC _L.pa_nil λσc H Q q=>?_;obtain⟨φ,h,σ,v,h',R,rs,e,k⟩:=q;unfold evs at e;cases e;exact k φ H [] (.refl _) R .nil
theorem qCk(hn:qf ea=true)(ha:SE X G F ea a)(hr:SA X G F es as):SA X G F (ea::es) (.cons a as):=by
 refine qFC (_L.pa_cons ha hr (qH hn)) λσc H Q q=>?_;obtain⟨φ,h,σ,v,h',R,rs,e,k⟩:=q;unfold evs at e;obtain⟨⟨x,h1⟩,e1,e⟩:=tM e;obtain⟨⟨xs,h2⟩,e2,e⟩:=tM e;cases e;exact⟨φ,h,σ,x,h1,R,rs,e1,λφ1 H1 w x1 R1 r1=>⟨φ1,h1,σ,xs,_,R1,rst.mono x1 rs,e2,λφ2 H2 ws x2 R2 r2=>k φ2 H2 _ (x1.trans x2) R2 (.cons (rv.mono x2 r1) r2)⟩⟩
theorem qEt(h:SA X G F es as):SE X G F (.List es pos) (.lst as):=by
 refine zG (_L.pe_lst h) λσc H Q q=>?_;obtain⟨φ,h,σ,v,h',R,rs,e,k⟩:=q;unfold ev at e;obtain⟨⟨xs,h1⟩,e1,e⟩:=tM e;refine⟨φ,h,σ,xs,h1,R,rs,e1,λφ1 H1 ws x1 R1 r1=>?_⟩;dsimp only at e;split at e
 ·rename_i hl;cases e;refine⟨by rw[<-Paired.length r1];exact wN hl Zu,λp hp=>k (φ1++[p]) _ _ (x1.trans ⟨[p],rfl⟩) (R1.newL hp r1) R1.lastRef⟩
 ·cases e
theorem d8:SE X G F (.Dict [] [] pos) .dnew:=by
 intro pins s σc H Q I q;obtain⟨φ,h,σ,v,h',R,rs,e,k⟩:=q;unfold ev at e;cases e;have hbig:sysModules<s.heap.objs.size:=vL (by decide) (I.mod.glob.keeps I.bk).lt;have hn:=I.hok.fresh (wG s.heap.objs.size);exact wpAny_Dict_empty ⟨.ref s.heap.objs.size,_,I.laid (a:=s.heap.objs.size) (o:=.dK []) (t':=s.toks) (λ_ _ q=>Heap.get?_push_of_some _ q) (wG _)
  ⟨vI _,beq_eq_false_iff_ne.mpr (Ne.symm (wW hbig)),[],.nil,Heap.DictOf.new s.heap⟩,rfl,
  k (φ++[s.heap.objs.size]) _ _ ⟨[s.heap.objs.size],rfl⟩ (R.new hn (o:=.ob (.dct [])) qE) R.lastRef⟩
theorem qBj {x1}(h:SA X G F es as):SE X G F (.Tuple es x1 pos) (.tup as):=by
 refine zG (_L.pe_tup h) λσc H Q q=>?_;obtain⟨φ,h,σ,v,h',R,rs,e,k⟩:=q;unfold ev at e;obtain⟨⟨xs,h1⟩,e1,e⟩:=tM e;refine⟨φ,h,σ,xs,h1,R,rs,e1,λφ1 H1 ws x1 R1 r1=>?_⟩;dsimp only at e;split at e
 ·rename_i hl;cases e;refine⟨by rw[<-Paired.length r1];exact wN hl Zu,λp hp=>k (φ1++[p]) _ _ (x1.trans ⟨[p],rfl⟩) (R1.newT hp r1) R1.lastRef⟩
 ·cases e
variable (G F) in
noncomputable def spF(K:PySem.W.Frag)(f:Nat):_L.Sp:=λvs H Q _=>∃φ h ws v h',Rl K G φ h H/\rvs φ ws vs/\F f ws h=.ok (v,h')/\∀φ' H' w,Ext φ φ'->Rl K G φ' h' H'->rv φ' v w->Q w H'
variable (X G F) in
structure FnS(f:Nat)(x:Str):Prop where
 ex:∃k fa fd ps,_L.FnOk X.prog X.w X.K X.mg X.base _L.CX0 k fa fd ps (spF G F X.K f)/\_L.Room k X.A/\X.mg x=some (.ref fa)/\PySem.W.keepIn X.K (.ref fa)=true/\_L.Binds X.K fd ps []/\_L.Room k X.A.in1
theorem qAF{f:Nat}{σc:St}{H:Hp}{Q:VK}(q:tE X.K G F (.call f as) σc H Q):_L.tCall (spF G F X.K f) [] _L.E0 (tL X.K G F as) σc H Q:=by
 obtain⟨φ,h,σ,v,h',R,rs,e,k⟩:=q;unfold ev at e;obtain⟨⟨xs,h1⟩,e1,e⟩:=tM e;refine⟨φ,h,σ,xs,h1,R,rs,e1,λφ1 H1 ws x1 R1 r1=>?_⟩;have e:F f xs h1=.ok (v,h'):=by
  have e:(F f xs h1).nx=.ok (v,h'):=e;revert e;generalize F f xs h1=r;cases r<;>intro e<;>first|exact e|cases e
 refine⟨φ1,h1,xs,v,h',R1,by rw[wb];exact r1,e,λφ2 H2 w x2 R2 r2=>k φ2 H2 w (x1.trans x2) R2 r2⟩
theorem qDL{f:Nat}{x:Str}{p:Pos}(hf:FnS X G F f x)(hg:_L.Gl X x)(hd:(x==("__debug__":Str))=false)(hn:qf ea=true)(hs:es.all qf=true)(ha:SA X G F (ea::es) as):SE X G F (.Call (.Name x p) (ea::es) [] pos) (.call f as):=by
 obtain⟨k,fa,fd,ps,h1,h2,h3,h4,h5,_⟩:=hf.ex;exact zG (_L.pe_call h1 h2 hg h3 h4 h5 .nil _L.pass0 ha hd (qH hn) (Qa hs)) λ_ _ _=>qAF
theorem qBQ{f:Nat}{x:Str}{p:Pos}(hf:FnS X G F f x)(hg:_L.Gl X x)(hd:(x==("__debug__":Str))=false):SE X G F (.Call (.Name x p) [] [] pos) (.call f .nil):=by
 obtain⟨k,fa,fd,ps,h1,h2,h3,h4,h5,_⟩:=hf.ex;refine zG (_L.pe_call0 h1 h2 hg h3 h4 h5 .nil _L.pass0 hd) λσc H Q q=>?_;obtain⟨φ,h,σ,vs,h',R,rs,e,k⟩:=qAF q;unfold evs at e;cases e;exact k φ H [] (.refl _) R .nil
theorem qBf{f:BF}{σc:St}{H:Hp}{Q:VK}(q:tE X.K G F (.blt f as) σc H Q):_L.tCB (qHB X G f) (tL X.K G F as) σc H Q:=by
 obtain⟨φ,h,σ,v,h',R,rs,e,k⟩:=q;unfold ev at e;obtain⟨⟨xs,h1⟩,e1,e⟩:=tM e;exact⟨φ,h,σ,xs,h1,R,rs,e1,λφ1 H1 ws x1 R1 r1=>⟨φ1,h1,xs,v,h',R1,r1,e,λφ2 H2 w x2 R2 r2=>k φ2 H2 w (x1.trans x2) R2 r2⟩⟩
theorem qEN{f:BF}{x:Str}{p:Pos}(hc:X.calm=true)(hu:X.A.units+8<cLine)(hgd:X.A.guards=some [])(hg:_L.Gl X x)(hm:X.mg x=none)(hv:bootBuiltins x=some (fnB f))(hn:qf ea=true)(hs:es.all qf=true)(ha:SA X G F (ea::es) as)
  (h1:x≠"__name__") (h2:(x==("__debug__":Str))=false):SE X G F (.Call (.Name x p) (ea::es) [] pos) (.blt f as):=by
 have rule:=D9 (G:=G) hc hu hgd f;cases f
 all_goals first
  |exact zG (_L.pe_callB rule hg hm hv ha h1 h2 (qH hn) (Qa hs)) λ_ _ _=>qBf
  |exact zG (_L.pe_callTy rule hg hm hv ha h1 h2 (qH hn) (Qa hs)) λ_ _ _=>qBf
theorem qDI{apos cpos:Pos}(hc:X.calm=true)(hu:X.A.units+8<cLine)(hgd:X.A.guards=some [])(hbase:attributeBase ea "bit_length" X.env (eval ea X.env)=eval ea X.env)(hline:(apos.endLine==cpos.line)=true)(ha:SE X G F ea a):
  SE X G F (.Call (.Attribute ea "bit_length" apos) [] [] cpos) (.blt .bits (.cons a .nil)):=by
 have rule:_L.MtR X "int.bit_length" (λx xs H Q=>∃i,x=.int i/\xs=[]/\qHB X G .bits [.int i] H Q):=λpins s σ H x xs v us Q I rx rs q=>by
  obtain⟨i,rfl,rfl,q⟩:=q;cases rs;exact D9 (G:=G) hc hu hgd .bits pins s σ H [.int i] [v] Q I (.cons rx .nil) q
 refine zG (_L.pe_bm0 PySem.F.plainAttrs_int PyProof.Rows.slot_int_bit_length PyProof.Rows.type_int_bit_length rule ha hbase hline) λσc H Q q=>?_;obtain⟨φ,h,σ,v,h',R,rs,e,k⟩:=q;unfold ev at e;obtain⟨⟨xs,h1⟩,e1,e2⟩:=tM e;unfold evs evs at e1;obtain⟨⟨x,h2⟩,e3,e4⟩:=tM e1;cases e4;replace e2:qFv .bits [x] h1=.ok (v,h'):=e2;cases x with
 |int i=>exact⟨φ,h,σ,_,_,R,rs,e3,λφ1 H1 w x1 R1 r1=>by
   cases qC r1;exact⟨rfl,i,rfl,rfl,φ1,_,[.int i],v,h',R1,.cons rfl .nil,e2,λφ2 H2 w x2 R2 r2=>k φ2 H2 w (x1.trans x2) R2 r2⟩⟩
 |_=>cases e2
noncomputable def B4(t:String):Bool:=t=="int"||t=="bool"||t=="list"||t=="tuple"||t=="str"||t=="dict"
theorem Zw(K:PySem.W.Frag):∀{t c:String},(t="NoneType"\/t="bool"\/t="int"\/t="str"\/t="list"\/t="tuple"\/t="dict")->B4 c=true->PySem.W.kitOne K (.type t) (.type c)=some (je t c):=by
 intro t c ht hc;have hc':c="int"\/c="bool"\/c="list"\/c="tuple"\/c="str"\/c="dict":=by
  simp only[B4,vw,beq_iff_eq]at hc;rcases hc with((((h|h)|h)|h)|h)|h<;>simp[h]
 rcases ht with rfl|rfl|rfl|rfl|rfl|rfl|rfl<;>rcases hc' with rfl|rfl|rfl|rfl|rfl|rfl<;>kernel_rfl
variable (X G) in
def qIZ(c:String):List V->Hp->VK->Prop:=λxs H Q=>∃φ h xa x t,xs=[x,.ty c]/\Rl X.K G φ h H/\rv φ xa x/\jW h xa=some t/\Q (.bl (je t c)) H
theorem r9{c:String}(hc:B4 c=true):zI X (.builtin "isinstance") (qIZ X G c):=by
 intro pins s σ H xs us Q I r ⟨φ,h,xa,x,t,e,R,rx,ht,q⟩;subst e;obtain⟨u,u2,rfl,r1,r2⟩:=_L.vals2 r;cases (show u2=Value.type c from r2);have fin:∀tk,EP X pins σ Q (.bool (je t c)) { s with toks:=tk }:=λtk=>⟨.bl (je t c),H,I.tok tk,rfl,q⟩
 cases xa with
 |non=>cases zL rx;cases r1;cases ht;exact PySem.W.kia_one PySem.W.kitx_none I.kIn True.intro (Zw _ (by simp) hc) (λz=>nomatch z) fin
 |bl i=>cases zb rx;cases r1;cases ht;exact PySem.W.kia_one PySem.W.kitx_bool I.kIn True.intro (Zw _ (by simp) hc) (λz=>nomatch z) fin
 |int i=>cases qC rx;obtain⟨t',rfl⟩:=r1;cases ht;exact PySem.W.kia_one PySem.W.kitx_int I.kIn True.intro (Zw _ (by simp) hc) (λz=>nomatch z) fin
 |str i=>cases zh rx;obtain⟨t',rfl⟩:=r1;cases ht;exact PySem.W.kia_one PySem.W.kitx_str I.kIn True.intro (Zw _ (by simp) hc) (λz=>nomatch z) fin
 |ref i=>
  obtain⟨p,rfl,hp⟩:=qL rx;cases r1;cases ey:h[i]? with
  |none=>rw[show jW h (.ref i)=none by simp only[jW,ey]]at ht;cases ht
  |some o=>
   cases o with
   |lst fz ys=>
    rw[show jW h (.ref i)=some "list" by simp only[jW,ey]]at ht;cases ht;obtain⟨p',zs,hp',hs,rs⟩:=R.lst (i:=i) (xs:=ys) (by unfold qN;rw[ey]);rw[hp]at hp';cases hp';obtain⟨its,_,pl,_⟩:=I.list hs;obtain⟨o,ho,hcl,_⟩:=pl.isList;exact PySem.W.kia_one PySem.W.kitx_list I.kIn ⟨o,ho,hcl⟩ (Zw _ (by simp) hc) (λz=>nomatch z) fin
   |tup ys=>
    rw[show jW h (.ref i)=some "tuple" by simp only[jW,ey]]at ht;cases ht;obtain⟨p',zs,hp',hs,rs⟩:=R.tup (i:=i) (xs:=ys) (by unfold qh;rw[ey]);rw[hp]at hp';cases hp';obtain⟨its,_,pl,_⟩:=I.tuple hs;obtain⟨o,ho,hcl,_⟩:=pl;exact PySem.W.kia_one PySem.W.kitx_tuple I.kIn ⟨o,ho,hcl⟩ (Zw _ (by simp) hc) (λz=>nomatch z) fin
   |ob ks=>
    cases ks with
    |exn c=>rw[show jW h (.ref i)=none by simp only[jW,ey]]at ht;cases ht
    |dct kvs=>
     rw[show jW h (.ref i)=some "dict" by simp only[jW,ey]]at ht;cases ht;obtain⟨p',hp',hs⟩:=R.at ey;rw[hp]at hp';cases hp';obtain⟨_,_,vs,_,o,es,ep,h1,h2,_⟩:=(show _L.ObjOk X.prog X.w H s.heap p (.dK (kvs.map kk)) from I.hok p _ hs)
     exact PySem.W.kia_one PySem.W.kitx_dict I.kIn ⟨o,h1,h2.1⟩ (Zw _ (by simp) hc) (λz=>nomatch z) fin
 |_=>cases ht
theorem qEb{c:String}{xc:Str}{p pc:Pos}(hc:B4 c=true)(hg:_L.Gl X "isinstance")(hm:X.mg "isinstance"=none)(hgc:_L.Gl X xc)(hmc:X.mg xc=none)(hvc:bootBuiltins xc=some (.type c))(hn1:xc≠"__name__")(hn2:(xc==("__debug__":Str))=false)
  (hn:qf ea=true) (ha:SE X G F ea a):SE X G F (.Call (.Name "isinstance" p) [ea,.Name xc pc] [] pos) (.isi a [c]):=by
 refine zG (_L.pe_callB (r9 (G:=G) hc) hg hm PyProof.Rows.boot_isinstance (_L.pa_cons ha (_L.pa_cons (_L.pe_bltn (v:=.ty c) hgc hmc hvc rfl hn1 hn2) _L.pa_nil rfl) (qH hn)) (by decide) (by decide) (qH hn) rfl) λσc H Q q=>?_;obtain⟨φ,h,σ,v,h',R,rs,e,k⟩:=q;unfold ev at e;obtain⟨⟨x,h1⟩,e1,e⟩:=tM e;refine⟨φ,h,σ,x,h1,R,rs,e1,λφ1 H1 w x1 R1 r1=>?_⟩;dsimp only at e;split at e
 ·rename_i t et;cases e;refine⟨φ1,_,x,w,t,rfl,R1,r1,et,?_⟩;have:=k φ1 H1 (.bl ([c].any (je t))) x1 R1 rfl;simpa using this
 ·cases e
noncomputable def Zm:Expr->Bool
 | .Slice ..=>false
 |_=>true
theorem W6{e:Expr}(h:Zm e=true):_L.PlainIx e:=by
 intro o i;cases e<;>first|rfl|cases h
theorem qFf(hb':Zm eb=true)(ha:SE X G F ea a)(hb:SE X G F eb b):SE X G F (.Subscript ea eb pos) (.idx a b):=by
 refine zG (_L.pe_ix (_L.ix_list.or _L.ix_tup) ha hb (W6 hb')) λσc H Q q=>?_;obtain⟨φ,h,σ,v,h',R,rs,e,k⟩:=q;unfold ev at e;obtain⟨⟨x,h1⟩,e1,e⟩:=tM e;obtain⟨⟨y,h2⟩,e2,e⟩:=tM e;refine Qz R rs e1 e2 λφ2 H2 xc yc x2 R2 r1 r2=>?_;cases x with
 |ref p=>
  cases y with
  |int i=>
   dsimp only at e;split at e
   ·rename_i xs ex;split at e
    ·rename_i w ew;cases e;obtain⟨p',zs,hp',hs,rs'⟩:=R2.its ex;obtain⟨q,rfl,hq⟩:=qL r1;rw[hp']at hq;cases hq;cases qC r2;obtain⟨j,ej,ew⟩:=wM.mp ew;obtain⟨w',hw',rw'⟩:=qQ rs' ew;have hat:_L.atI zs i=some w':=by
      unfold _L.atI;rw[<-Paired.length rs'];exact wM.mpr ⟨j,ej,hw'⟩
     rcases hs with hs|hs
     ·exact .inl ⟨_,zs,i,w',rfl,rfl,hs,hat,k φ2 H2 w' x2 R2 rw'⟩
     ·exact .inr ⟨_,zs,i,w',rfl,rfl,hs,hat,k φ2 H2 w' x2 R2 rw'⟩
    ·cases e
   ·cases e
  |_=>cases e
 |_=>cases e
theorem JU{φ:List Addr}{xs ys:List V}(r:rvs φ xs ys)(lo hi:Option Int):rvs φ (_L.cutV xs lo hi) (_L.cutV ys lo hi):=by
 unfold _L.cutV;rw[Paired.length r];exact jO _ (Zi _ r)
variable (X G F) in
def SO(o:Option Expr)(as:Es):Prop:=_L.PO X o λσc H Q=>∃φ h σ is h',Rl X.K G φ h H/\rst φ σ σc/\(∃vs,evs F as σ h=.ok (vs,h')/\jN vs=some is)/\∀φ' H',Ext φ φ'->Rl X.K G φ' h' H'->Q is.head? H'
theorem qCU:SO X G F none .nil:=by
 intro pins s σc H Q I q;obtain⟨φ,h,σ,is,h',R,rs,⟨vs,e,ei⟩,k⟩:=q;unfold evs at e;cases e;cases ei;exact _L.po_none pins s σc H Q I (k φ H (.refl _) R)
theorem I0(ha:SE X G F ea a):SO X G F (some ea) (.cons a .nil):=by
 intro pins s σc H Q I q;obtain⟨φ,h,σ,is,h',R,rs,⟨vs,e,ei⟩,k⟩:=q;unfold evs at e;obtain⟨⟨x,h1⟩,e1,e⟩:=tM e;unfold evs at e;cases e;refine _L.po_some ha pins s σc H Q I ⟨φ,h,σ,x,_,R,rs,e1,λφ1 H1 w x1 R1 r1=>?_⟩;have hm:=jM ei;cases is with
 |nil=>cases hm
 |cons i r=>
  simp only[List.map_cons,List.cons.injEq]at hm;obtain⟨rfl,_⟩:=hm;cases qC r1;exact⟨i,rfl,k φ1 H1 x1 R1⟩
theorem qE9{lo hi:Option Expr}{al ah:Es}{p2:Pos}(ha:SE X G F ea a)(hl:SO X G F lo al)(hh:SO X G F hi ah):SE X G F (.Subscript ea (.Slice lo hi none p2) pos) (.sl a al ah):=by
 refine zG (_L.pe_slice (_L.SlR.or _L.sl_list _L.sl_tup) ha hl hh) λσc H Q q=>?_;obtain⟨φ,h,σ,v,h',R,rs,e,k⟩:=q;unfold ev at e;obtain⟨⟨x,h1⟩,e1,e⟩:=tM e;obtain⟨⟨l,h2⟩,e2,e⟩:=tM e;obtain⟨⟨u,h3⟩,e3,e⟩:=tM e;cases x with
 |ref p=>
  cases eil:jN l with
  |none=>dsimp only at e;rw[eil]at e;cases e
  |some il=>
   cases eiu:jN u with
   |none=>dsimp only at e;rw[eil,eiu]at e;cases e
   |some iu=>
    dsimp only at e;rw[eil,eiu]at e;dsimp only at e;split at e
    ·rename_i xs ex;cases e;refine⟨φ,h,σ,_,h1,R,rs,e1,λφ1 H1 w x1 R1 r1=>?_⟩;refine⟨φ1,h1,σ,il,h2,R1,rst.mono x1 rs,⟨l,e2,eil⟩,λφ2 H2 x2 R2=>?_⟩;refine⟨φ2,h2,σ,iu,h3,R2,rst.mono (x1.trans x2) rs,⟨u,e3,eiu⟩,λφ3 H3 x3 R3=>?_⟩;obtain⟨p',zs,hp',hs,rs'⟩:=R3.lst ex;obtain⟨q,rfl,hq⟩:=qL (rv.mono (x2.trans x3) r1);rw[hp']at hq;cases hq;exact .inl ⟨_,zs,rfl,hs,λm hm=>k (φ3++[m]) _ _ ((x1.trans (x2.trans x3)).trans ⟨[m],rfl⟩) (R3.newL hm (JU rs' _ _)) R3.lastRef⟩
    ·split at e
     ·rename_i xs ex;split at e
      ·cases e
      ·rename_i hw;cases e;refine⟨φ,h,σ,_,h1,R,rs,e1,λφ1 H1 w x1 R1 r1=>?_⟩;refine⟨φ1,h1,σ,il,h2,R1,rst.mono x1 rs,⟨l,e2,eil⟩,λφ2 H2 x2 R2=>?_⟩;refine⟨φ2,h2,σ,iu,h3,R2,rst.mono (x1.trans x2) rs,⟨u,e3,eiu⟩,λφ3 H3 x3 R3=>?_⟩;obtain⟨p',zs,hp',hs,rs'⟩:=R3.tup ex;obtain⟨q,rfl,hq⟩:=qL (rv.mono (x2.trans x3) r1);rw[hp']at hq;cases hq;exact .inr ⟨_,zs,rfl,hs,by rw[<-Paired.length rs'];exact hw,λm hm=>k (φ3++[m]) _ _ ((x1.trans (x2.trans x3)).trans ⟨[m],rfl⟩) (R3.newT hm (JU rs' _ _)) R3.lastRef⟩
     ·cases e
 |_=>cases e
section
open _L
theorem qCO{X:_L.Cx}{e ek:Expr}{te:_L.TE}{tk:_L.TO}{p2 pos:Pos}(he:PE X e te)(hk:PO X (some ek) tk):PE X (.Subscript e (.Slice none none (some ek) p2) pos) (λσ H Q=>te σ H λx H1=>tk σ H1 λo H2=>o=some (-1)/\∃a xs,x=.ref a/\SqL X.K H2 a xs/\∀p,H2 p=none->Q (.ref p) (upd H2 p (.lst xs.reverse))):=by
 intro pins s σ H Q I h;refine Subscript_ (thn (he pins s σ H _ I h) λv s1 ⟨x,H1,I1,r1,q1⟩=>?_);refine wpAny_Slice ?_;rw[evalPart_none];refine uQ (uQ (thn (hk pins s1 σ H1 _ I1 q1) λvk s3 ⟨o,H3,I3,pk,ho,a,xs,hxa,hx,q⟩=>?_));subst ho;subst hxa;cases r1;have I4:Inv X pins σ H3 { s3 with heap:=s3.heap.push { cls:=.type "slice",data:=.fields #[.none,.none,vk] } }:=I3.kept (t':=s3.toks) λb ob q=>Heap.get?_push_of_some _ q;obtain⟨its,r,ht,hz⟩:=I4.list hx;have hlen:=r.length;show wpAny (model X.prog X.w) X.A (subscriptTail e (.Slice none none (some ek) p2) (.ref a) (.ref s3.heap.objs.size)) (EP X pins σ Q) X.xe { s3 with heap:=s3.heap.push { cls:=.type "slice",data:=.fields #[.none,.none,vk] } };refine tail_any (ops:=[.ref a,.ref s3.heap.objs.size]) (T:="list") ht.isList.typeIs slot_list_getitem.lookup (wpAny_getItem_list_slice ht.isList (Heap.IsSliceOf.new ..) .none .none pk (by decide) ?_ (by rw[wP]<;>omega)) (by with_unfolding_all rfl);rw[PySem.W.krv_pick];refine⟨.ref _,_,I4.laid (t':=s3.toks) (o:=.lst xs.reverse) (λb ob q=>Heap.get?_push_of_some _ q) (wG _) ?_,rfl,q _ (I4.hok.fresh (wG _))⟩;exact⟨by rw[List.length_reverse];exact hz,_,0,r.reverse,Heap.get?_push_size _ rfl⟩
end
theorem JP{φ:List Addr}:∀{xs ys:List V},rvs φ xs ys->rvs φ xs.reverse ys.reverse
 |_,_,.nil=>.nil
 |_,_,.cons r t=>by rw[vY,vY];exact qU (JP t) (.cons r .nil)
theorem qBy{ek:Expr}{p2:Pos}(ha:SE X G F ea a)(hk:SO X G F (some ek) (.cons (.cst (.int (-1))) .nil)):SE X G F (.Subscript ea (.Slice none none (some ek) p2) pos) (.rev a):=by
 refine zG (qCO ha hk) λσc H Q q=>?_;obtain⟨φ,h,σ,v,h',R,rs,e,k⟩:=q;unfold ev at e;obtain⟨⟨x,h1⟩,e1,e⟩:=tM e;replace e:=jB e;obtain⟨p,rfl,e⟩:=e;split at e
 ·rename_i xs ex;cases e;refine⟨φ,h,σ,_,h1,R,rs,e1,λφ1 H1 w x1 R1 r1=>?_⟩;refine⟨φ1,h1,σ,[-1],h1,R1,rst.mono x1 rs,⟨[.int (-1)],by unfold evs ev;rfl,rfl⟩,λφ2 H2 x2 R2=>⟨rfl,?_⟩⟩;obtain⟨p',zs,hp',hs,rs'⟩:=R2.lst ex;obtain⟨q,rfl,hq⟩:=qL (rv.mono x2 r1);rw[hp']at hq;cases hq;exact⟨_,zs,rfl,hs,λm hm=>k (φ2++[m]) _ _ ((x1.trans x2).trans ⟨[m],rfl⟩) (R2.newL hm (JP rs')) R2.lastRef⟩
 ·cases e
theorem qEi{p p3:Pos}{n:Nat}:SE X G F (.UnaryOp .USub (.Constant (.int 1) n p) p3) (.cst (.int (-1))):=by
 refine zG (qBp (G:=G) (F:=F) (a:=.cst (.int 1)) g8) λσc H Q q=>?_;obtain⟨φ,h,σ,v,h',R,rs,e,k⟩:=q;refine⟨φ,h,σ,v,h',R,rs,?_,k⟩;unfold ev at e ⊢;unfold ev;exact e
theorem qES{apos cpos:Pos}(hbase:attributeBase ea "append" X.env (eval ea X.env)=eval ea X.env)(hline:(apos.endLine==cpos.line)=true)(hn:qf eb=true)(ha:SE X G F ea a)(hb:SE X G F eb b):
  SE X G F (.Call (.Attribute ea "append" apos) [eb] [] cpos) (.app a b):=by
 refine zG (_L.pe_bm PySem.F.plainAttrs_list PySem.F.slot_list_append PySem.F.type_list_append _L.mt_append ha (_L.pa_cons hb _L.pa_nil (qH hn)) hbase (by rw[qH hn];rfl) hline (qH hn) rfl) λσc H Q q=>?_;obtain⟨φ,h,σ,v,h',R,rs,e,k⟩:=q;unfold ev at e;obtain⟨⟨x,h1⟩,e1,e⟩:=tM e;dsimp only at e;split at e
 ·rename_i p;split at e
  ·rename_i ys ey;obtain⟨⟨y,h2⟩,e2,e⟩:=tM e;dsimp only at e;split at e
   ·rename_i xs ex;split at e
    ·rename_i hl;cases e;refine⟨φ,h,σ,_,h1,R,rs,e1,λφ1 H1 w x1 R1 r1=>?_⟩;obtain⟨p1,zs1,hp1,hs1,_⟩:=R1.lst ey;obtain⟨q,rfl,hq⟩:=qL r1;rw[hp1]at hq;cases hq;refine⟨.inl ⟨rfl,_,hs1⟩,φ1,h1,σ,y,h2,R1,rst.mono x1 rs,e2,λφ2 H2 yc x2 R2 r2=>?_⟩;obtain⟨q1,p2,zs2,hp2,hH2,rs2⟩:=R2.mut ex;have:=x2.get hp1;rw[hp2]at this;cases this;refine⟨_,zs2,yc,rfl,rfl,hH2,?_,k φ2 _ _ (x1.trans x2) (R2.set q1 hp2 (qU rs2 (.cons r2 .nil))) trivial⟩;rw[<-Paired.length rs2];exact vL hl qBx
    ·cases e
   ·cases e
  ·cases e
 ·cases e
theorem Rl.same{K:PySem.W.Frag}{G φ:List Addr}{h:AH}{H H':Hp}(R:Rl K G φ h H)(s:Zv H H'):Rl K G φ h H':=⟨R.len,R.glob,λi o a e1 e2=>(R.obj i o a e1 e2).keep (.refl _) s,R.inj⟩
theorem F4{φ:List Addr}:∀{xs:List V},xs.all flat=true->rvs φ xs xs
 | [],_=>.nil
 |x::xs,h=>by
  simp only[List.all_cons,wF]at h;refine .cons ?_ (F4 h.2);cases x<;>first|rfl|exact trivial|(cases h.1)
theorem v6:zI X (.type "range") (λxs H Q=>∃j:Int,xs=[.int j]/\∀p,H p=none->Q (.ref p) (upd H p (.rng 0 j))):=by
 intro pins s σ H xs us Q I r ⟨j,e,q⟩;subst e;obtain⟨u,rfl,ru⟩:=_L.vals1 r;obtain⟨t,rfl⟩:=ru;refine call_range_1 ⟨.ref s.heap.objs.size,_,I.laid (λ_ _ q=>Heap.get?_push_of_some _ q) (wG _) ?_,rfl,q _ (I.hok.fresh (wG _))⟩;exact⟨_,_,_,Heap.get?_push_size _ rfl⟩
theorem Jv{P:Nat->V}:∀{n:Nat}{acc:List Value},acc.length=n->(∀(j:Nat) v,acc[j]?=some v->RelV (P j) v)->Vals ((List.range n).map P) acc:=by
 intro n
 induction n with
 |zero=>intro acc hl _;cases acc with|nil=>exact .nil|cons _ _=>simp at hl
 |succ n ih=>
  intro acc hl ha;have hne:acc≠[]:=by intro z;subst z;simp at hl
  rw[List.range_succ,vE,<-List.dropLast_concat_getLast hne];have hd:acc.dropLast.length=n:=by rw[List.length_dropLast,hl];rfl
  refine qU (ih hd λj v e=>ha j v ?_) (.cons (ha n _ ?_) .nil)
  ·rw[<-List.dropLast_concat_getLast hne,wB (wC.mp e).1];exact e
  ·rw[wD (by omega),List.getLast_eq_getElem];congr 1;simp[hl]
theorem Je(hc:X.calm=true):zI X (.type "list") (λxs H Q=>∃p,∃j:Int,xs=[.ref p]/\H p=some (.rng 0 j)/\(-1000000<=j/\j<=100000)/\∀l,H l=none->Q (.ref l) (upd H l (.lst (QB 0 j.toNat)))):=by
 intro pins s σ H xs us Q I r ⟨p,j,e,hp,hj,q⟩;subst e;obtain⟨u,rfl,ru⟩:=_L.vals1 r;cases ru;obtain⟨t,u,v,hr⟩:=I.hok p _ hp;have hn:Builtin.Range.rangeSize 0 j 1=((j.toNat:Nat):Int):=by rw[rangeSize_one];split<;>omega
 refine call_list_range (I.ok.hd hc) hr (small_one (by omega) (by omega) (by omega) (by omega)) hn (by omega) λh' tk acc' c' hk hS hI=>?_;refine⟨.ref s.heap.objs.size,_,I.laid (t':=tk) hk (wG _) ?_,rfl,q _ (I.hok.fresh (wG _))⟩;obtain⟨i1,i2⟩:=hI;refine⟨?_,acc'.toList,c',Jv (by simpa using i1) λk v e=>?_,by simpa using hS⟩
 ·have:=Zu;unfold lim at this;rw[QB,wQ,List.length_range];omega
 ·obtain⟨t',rfl⟩:=i2 k v (by simpa using e);exact⟨t',by rw[Int.mul_one]⟩
theorem qCv{p p2 pos2:Pos}(hc:X.calm=true)(hg:_L.Gl X "list")(hm:X.mg "list"=none)(hg2:_L.Gl X "range")(hm2:X.mg "range"=none)(hn:qf ea=true)(ha:SE X G F ea a):
  SE X G F (.Call (.Name "list" p) [.Call (.Name "range" p2) [ea] [] pos2] [] pos) (.lrng a):=by
 refine zG (_L.pe_callTy (Je hc) hg hm PyProof.Rows.boot_list (_L.pa_cons (_L.pe_callTy v6 hg2 hm2 PyProof.Rows.boot_range (_L.pa_cons ha _L.pa_nil (qH hn)) (by decide) (by decide) (qH hn) rfl) _L.pa_nil rfl) (by decide) (by decide) rfl rfl) λσc H Q q=>?_;obtain⟨φ,h,σ,v,h',R,rs,e,k⟩:=q;unfold ev at e;obtain⟨⟨x,h1⟩,e1,e⟩:=tM e;refine⟨φ,h,σ,x,h1,R,rs,e1,λφ1 H1 w x1 R1 r1=>?_⟩;cases x with
 |int j=>
  dsimp only at e;split at e
  ·rename_i hj;cases e;cases qC r1;refine⟨j,rfl,λp hp=>⟨p,j,rfl,qE,hj,λl hl=>?_⟩⟩;have hlp:l≠p:=by rintro rfl;rw[qE]at hl;cases hl
   have R2:Rl X.K G φ1 h1 (upd H1 p (.rng 0 j)):=R1.same (QS hp);exact k (φ1++[l]) _ _ (x1.trans ⟨[l],rfl⟩) (R2.newL hl (F4 (by simp[QB,flat]))) R2.lastRef
  ·cases e
 |_=>cases e
end
theorem qCV{φ:List Addr}{v w w':V}(a:rv φ v w)(b:rv φ v w'):w=w':=by
 cases v with
 |ref i=>
  obtain⟨x,rfl,e1⟩:=qL a;obtain⟨y,rfl,e2⟩:=qL b;rw[e1]at e2;cases e2;rfl
 |int i=>rw[qC a,qC b]
 |bl i=>rw[zb a,zb b]
 |str i=>rw[zh a,zh b]
 |non=>rw[zL a,zL b]
 |_=>cases w<;>cases a
theorem ZP{φ:List Addr}:∀{vs ws ws':List V},rvs φ vs ws->rvs φ vs ws'->ws=ws'
 |_,_,_,.nil,.nil=>rfl
 |_,_,_,.cons a r,.cons b s=>by rw[qCV a b,ZP r s]
theorem Rl.pre{K:PySem.W.Frag}{G φ φ':List Addr}{h h2:AH}{H0 H1:Hp}(R0:Rl K G φ h H0)(R1:Rl K G φ' h2 H1)(x:Ext φ φ')(ht:h2.take h.length=h):Rl K G φ h H1:=by
 have up:∀{i:Nat}{o:O},h[i]?=some o->h2[i]?=some o:=λ{i o} e=>by
  have hi:=(wC.mp e).1;rw[<-ht,wg hi]at e;exact e
 refine⟨R0.len,R0.glob,λi o a e ea=>?_,λi j u y a m1 m2 e1 e2 e3 e4=>R1.inj i j u y a m1 m2 (up e1) (up e2) (x.get e3) (x.get e4)⟩;have r1:=R1.obj i o a (up e) (x.get ea);have r0:=R0.obj i o a e ea
 match o,r0,r1 with
 | .lst false xs,⟨ys,_,p⟩,⟨ys',e',p'⟩=>rw[ZP p' (rvs.mono x p)]at e';exact⟨ys,e',p⟩
 | .lst true xs,⟨ys,_,p⟩,⟨ys',e',p'⟩=>rw[ZP p' (rvs.mono x p)]at e';exact⟨ys,e',p⟩
 | .tup xs,⟨ys,_,p⟩,⟨ys',e',p'⟩=>rw[ZP p' (rvs.mono x p)]at e';exact⟨ys,e',p⟩
 | .ob (.dct _),_,e'=>exact e'
 | .ob (.exn _),_,e'=>exact e'
open _L (It E5 JB)
abbrev Zf(h:Heap)(z ti to:Addr)(f0 f1:Value):Prop:=
 h.get? z=some { cls:=.type "zip",dict:=none,data:=.fields #[f0,f1,.bool false,.ref ti,.ref to],slots:=#[] }
section
variable{P:Program}{w:World}{K:Type}[DecidableEq K]{knd:KeyKind P w K}{A:Around}{E:Value->Shared->Prop}{z ti to i1 i2 a b d:Addr}{xs ys:Array Value}
def Left(knd:KeyKind P w K)(xs ys:Array Value)(k:Nat)(L:List (K×Value)):Prop:=
 (∀j p,L[j]?=some p->∃x,xs[k+j]?=some x/\knd.is p.1 x=true/\ys[k+j]?=some p.2)/\(xs[k+L.length]?=none\/ys[k+L.length]?=none)
theorem Left.next{k:Nat}{p:K×Value}{L:List (K×Value)}(h:Left knd xs ys k (p::L)):(∃x,xs[k]?=some x/\knd.is p.1 x=true/\ys[k]?=some p.2)/\Left knd xs ys (k+1) L:=by
 refine⟨by simpa using h.1 0 p rfl,λj q e=>?_,?_⟩
 ·have:=h.1 (j+1) q (by simpa using e);rw[show k+(j+1)=k+1+j by omega]at this;exact this
 ·have:=h.2;rw[List.length_cons,show k+(L.length+1)=k+1+L.length by omega]at this;exact this
end
theorem N8(is:List Int):qBC is=(firstMet (λi=>is.getD i 0) is.length).length:=by
 unfold qBC firstMet;congr 2;apply vo
 ·simp
 ·intro i h1 h2;simp[wE,h1]
def qGL(P:Program)(w:World)(a:Addr)(n:Nat):Heap->Prop:=λh=>∃o,∃S:Int->Bool,h.get? a=some o/\o.SetObjOf (intKind P w) S n
section
variable{X:Cx}
theorem u9(hc:X.calm=true):zI X (.type "set") (λxs H Q=>∃p,∃is:List Int,xs=[.ref p]/\SqL X.K H p (is.map V.int)/\is.length<1000/\∀l,H l=none->Q (.ref l) (upd H l (.ext (qGL X.prog X.w l (qBC is))))):=by
 intro pins s σ H xs us Q I r ⟨p,is,e,hp,hj,q⟩;subst e;obtain⟨u,rfl,ru⟩:=_L.vals1 r;cases ru;obtain⟨its,rv',pl,_⟩:=I.list hp;have hi:IntsAre its is:=_L.intsAre_of rv';have hl:its.length=is.length:=IntsAre.length hi;refine call_set_list (items:=its.toArray) (ns:=is) (I.ok.hd hc) pl.isList (by simpa using hi) (by simp[scanBound];omega) λh' tk hS hk=>?_;obtain⟨o,ho,hso⟩:=hS.objOf;refine⟨.ref s.heap.objs.size,_,I.laid (t':=tk) (λb o' e=>hk b o' (Heap.lt_size e) e) (wG _) ?_,rfl,q _ (I.hok.fresh (wG _))⟩;have e:qBC is=(firstMet (λi=>is.getD i 0) its.toArray.size).length:=by rw[N8,wP,hl]
 rw[e];exact⟨⟨o,_,ho,hso⟩,⟨o,ho⟩,λh1 h2 ⟨o,S,q1,q2⟩ k=>⟨o,S,k _ q1,q2⟩⟩
theorem V0:zI X (.builtin "len") (λxs H Q=>∃p n,xs=[.ref p]/\H p=some (.ext (qGL X.prog X.w p n))/\n<1000/\Q (.int n) H):=by
 intro pins s σ H xs us Q I r ⟨p,n,e,hp,hn,q⟩;subst e;obtain⟨u,rfl,ru⟩:=_L.vals1 r;cases ru;obtain⟨⟨o,S,ho,hex,es,ep,t,hd,_,_,hz,hf⟩,_⟩:=I.hok p _ hp;subst hz;exact call_len_set ho hex hd hf (by omega) ⟨.int _,H,(I.tok _).tok _,⟨_,rfl⟩,q⟩
theorem qCt(is:List Int):qBC is<=is.length:=by rw[N8];exact firstMet_length_le _ _
end
section
variable{X:Cx}{G:List Addr}{F:Nat->List V->AH->RV}{a:E}{ea:Expr}{pos:Pos}
theorem qCP{p p2 pos2:Pos}(hc:X.calm=true)(hg:_L.Gl X "len")(hm:X.mg "len"=none)(hg2:_L.Gl X "set")(hm2:X.mg "set"=none)(hn:qf ea=true)(ha:SE X G F ea a):
  SE X G F (.Call (.Name "len" p) [.Call (.Name "set" p2) [ea] [] pos2] [] pos) (.nset a):=by
 refine zG (_L.pe_callB V0 hg hm PySem.boot_len (_L.pa_cons (_L.pe_callTy (u9 hc) hg2 hm2 PyProof.Rows.boot_set (_L.pa_cons ha _L.pa_nil (qH hn)) (by decide) (by decide) (qH hn) rfl) _L.pa_nil rfl) (by decide) (by decide) rfl rfl) λσc H Q q=>?_;obtain⟨φ,h,σ,v,h',R,rs,e,k⟩:=q;unfold ev at e;obtain⟨⟨x,h1⟩,e1,e⟩:=tM e;refine⟨φ,h,σ,x,h1,R,rs,e1,λφ1 H1 w x1 R1 r1=>?_⟩;dsimp only at e;split at e
 ·rename_i q0;split at e
  ·rename_i ys ey;split at e
   ·rename_i is ei;split at e
    ·rename_i hl;cases e;obtain⟨p',rfl,hp⟩:=qL r1;obtain⟨p'',zs,hp',hs,rs'⟩:=R1.lst ey;rw[hp]at hp';cases hp';have hm':=jM ei;subst hm';have hz:=zu (ja is) rs';subst hz;have:=qCt is;refine⟨p',is,rfl,hs,hl,λl hl'=>⟨l,qBC is,rfl,qE,by omega,?_⟩⟩;have R2:=R1.same (QS (o:=.ext (qGL X.prog X.w l (qBC is))) hl');exact k φ1 _ _ x1 R2 rfl
    ·cases e
   ·cases e
  ·cases e
 ·cases e
end
def ZJ(xs:Array Nat):Prop:=xs.toList.Pairwise (·<·)
def qFu(xs:Array Nat)(j r:Nat):Prop:=r<=xs.size/\(∀i,i<r->xs.getD i 0<j)/\∀i,r<=i->i<xs.size->j<=xs.getD i 0
theorem Qe{xs:Array Nat}(h:ZJ xs){i j:Nat}(hij:i<j)(hj:j<xs.size):xs.getD i 0<xs.getD j 0:=by
 have hi:i<xs.size:=by omega
 have:=List.pairwise_iff_getElem.mp h i j (by simpa using hi) (by simpa using hj) hij;simpa [Array.getD,hi,hj] using this
theorem qFX{xs:Array Nat}{j:Nat}(h:ZJ xs):∀(fuel lo hi:Nat),lo<=hi->hi<=xs.size->hi-lo<=fuel->(∀i,i<lo->xs.getD i 0<j)->(∀i,hi<=i->i<xs.size->j<=xs.getD i 0)->qFu xs j (SetTable.below.go xs j fuel lo hi):=by
 intro fuel
 induction fuel with
 |zero=>
  intro lo hi h1 h2 h3 h4 h5;have:lo=hi:=by omega
  subst this;exact⟨h2,h4,h5⟩
 |succ fuel ih=>
  intro lo hi h1 h2 h3 h4 h5;unfold SetTable.below.go;split
  ·rename_i hlt;dsimp only;have gd:xs.getD ((lo+hi) / 2) j=xs.getD ((lo+hi) / 2) 0:=by
    have:(lo+hi) / 2<xs.size:=by omega
    simp[Array.getD,this]
   rw[gd];split
   ·rename_i q;refine ih _ _ (by omega) h2 (by omega) (λi hi'=>?_) h5;rcases Nat.lt_or_ge i ((lo+hi) / 2) with z|z
    ·exact vL (Qe h z (by omega)) q
    ·have:i=(lo+hi) / 2:=by omega
     subst this;exact q
   ·rename_i q;refine ih _ _ (by omega) (by omega) (by omega) h4 (λi hi' hs=>?_);rcases Nat.lt_or_ge ((lo+hi) / 2) i with z|z
    ·exact wN (Nat.le_of_not_lt q) (vD (Qe h z hs))
    ·have:i=(lo+hi) / 2:=by omega
     subst this;exact Nat.le_of_not_lt q
  ·have:lo=hi:=by omega
   subst this;exact⟨h2,h4,h5⟩
theorem Zb{xs:Array Nat}{j:Nat}(h:ZJ xs):qFu xs j (SetTable.below xs j):=
 qFX h _ _ _ (vI _) (wG _) (by omega) (λi hi=>absurd hi (Nat.not_lt_zero _)) (λi h1 h2=>absurd h2 (by omega))
theorem U1{xs:Array Nat}{j r r':Nat}(a:qFu xs j r)(b:qFu xs j r'):r=r':=by
 rcases Nat.lt_trichotomy r r' with z|z|z
 ·have h1:=b.2.1 r z;have h2:=a.2.2 r (wG _) (by have:=b.1;omega);omega
 ·exact z
 ·have h1:=a.2.1 r' z;have h2:=b.2.2 r' (wG _) (by have:=a.1;omega);omega
theorem V7{xs:Array Nat}{i:Nat}(h:ZJ xs)(hi:i<xs.size):SetTable.below xs (xs.getD i 0+1)=i+1:=by
 refine U1 (Zb h) ⟨hi,λk hk=>?_,λk hk hs=>Qe h (by omega) hs⟩;rcases Nat.lt_or_ge k i with z|z
 ·have:=Qe h z hi;omega
 ·have:k=i:=by omega
  subst this;omega
theorem Y3{xs:Array Nat}(h:ZJ xs):SetTable.below xs 0=0:=U1 (Zb h) ⟨vI _,λi hi=>absurd hi (Nat.not_lt_zero _),λ_ _ _=>vI _⟩
theorem qAp{xs:Array Nat}{j:Nat}(h:ZJ xs)(hn:xs[SetTable.below xs j]?≠some j):ZJ (SetTable.insertAt xs (SetTable.below xs j) j):=by
 obtain⟨c1,c2,c3⟩:=Zb (j:=j) h;generalize SetTable.below xs j=p at *;unfold ZJ at *;rw[SetTable.toList_insertAt];have hg:∀i (hi:i<xs.size),xs.getD i 0=xs.toList[i]'(by simpa using hi):=λi hi=>by simp[Array.getD,hi]
 rw[<-uE p xs.toList,List.pairwise_append]at h;obtain⟨a1,a2,a3⟩:=h;have lo:∀x∈xs.toList.take p,x<j:=λx hx=>by
  obtain⟨i,hi,rfl⟩:=vF.mp hx;rw[wl]at hi;have:=c2 i (by omega);rw[hg i (by simp at hi;omega)]at this;simpa using this
 have hi:∀x∈xs.toList.drop p,j<x:=λx hx=>by
  obtain⟨i,hi,rfl⟩:=vF.mp hx;rw[wo]at hi;have hs:p+i<xs.size:=by simp at hi;omega
  have ge:∀i,p<=i->i<xs.size->j<=xs.getD i 0:=c3;have h0:xs.getD p 0≠j:=λe=>hn (by
   have hp:p<xs.size:=by omega
   rw[Array.getElem?_eq_getElem hp];rw[hg p hp]at e;simpa using e)
  have h1:j<xs.getD p 0:=Nat.lt_of_le_of_ne (ge p (wG _) (by omega)) (Ne.symm h0);have h2:j<xs.getD (p+i) 0:=by
   rcases Nat.eq_zero_or_pos i with z|z
   ·subst z;exact h1
   ·have q:=List.pairwise_iff_getElem.mp a2 0 i (by rw[wo];simp;omega) (by rw[wo];simp;omega) z;rw[hg (p+i) hs];rw[hg p (by omega)]at h1;simp at q h1 ⊢;omega
  rw[hg (p+i) hs]at h2;simpa using h2
 rw[List.pairwise_append];refine⟨a1,vT.mpr ⟨hi,a2⟩,λx hx y hy=>?_⟩;rcases wI.mp hy with rfl|hy
 ·exact lo x hx
 ·exact a3 x hx y hy
theorem W5(n:Nat):ZJ (Array.range n):=by
 unfold ZJ;rw[Array.toList_range];exact List.pairwise_lt_range
structure jf(t:SetTable)(b:Bool):Prop where
 rise:ZJ t.place
 dum:t.dummies=#[]
 led:b=false->t.led=true
theorem X6{b led:Bool}(h:b=false->led=true):jf (.fresh 0 0 led) b:=⟨.nil,rfl,h⟩
theorem Y2{t:SetTable}{b p:Bool}(g:jf t b):jf { t with plain:=p } b:=⟨g.rise,g.dum,g.led⟩
theorem zx{t:SetTable}{b:Bool}(g:jf t b)(n:Nat):jf (t.standIn n) b:=⟨W5 n,rfl,g.led⟩
theorem qCu{t:SetTable}{b:Bool}(g:jf t b)(n:Nat):jf (t.orStandIn n) b:=by
 unfold SetTable.orStandIn;split
 ·exact g
 ·exact zx g n
theorem i8{j:Nat}:SetTable.has #[] j=false:=by simp[SetTable.has]
theorem J9{t:SetTable}{f:Nat->Int}{h:Int}(hd:t.dummies=#[]):∀(fuel:Nat) (p:SetTable.Probe){j:Nat}{d:Option Nat},p.dummy=none->SetTable.probe.go t f h fuel p=some (.empty j d)->d=none/\t.slot j=.empty:=by
 intro fuel
 induction fuel with
 |zero=>intro p j d _ e;cases e
 |succ fuel ih=>
  intro p j d hp e;have ad:(t.advance p).dummy=none:=by
   unfold SetTable.advance;split
   ·exact hp
   ·exact hp
  unfold SetTable.probe.go at e;split at e
  ·rename_i q;cases e;exact⟨hp,q⟩
  ·rename_i q;unfold SetTable.slot at q;dsimp only at q;rw[hd,i8]at q;split at q
   ·cases q
   ·simp at q
  ·split at e
   ·cases e
   ·exact ih _ ad e
theorem J6{t:SetTable}{b:Bool}(g:jf t b)(es:Array (Int×Value))(h:Int)(x:Value):jf (layNew t es h x).2.1 b:=by
 unfold layNew;split
 ·rename_i slot wd e;dsimp only;refine qCu ?_ _;unfold SetTable.freeSlot at e;split at e
  ·rename_i j d ep;obtain⟨rfl,hs⟩:=J9 g.dum _ _ (by rfl) ep;cases e;unfold SetTable.put;dsimp only;refine⟨qAp g.rise λq=>?_,?_,g.led⟩
   ·unfold SetTable.slot at hs;dsimp only at hs;rw[show (none.getD j:Nat)=j from rfl]at q;rw[q]at hs;simp at hs
   ·dsimp only;rw[g.dum,i8];rfl
  ·cases e
 ·exact zx g _
theorem w9{mask finger moves:Nat}{led plain b:Bool}{hs:Array Int}{t:SetTable}{o:Array Nat}(hl:b=false->led=true)(e:SetTable.laid mask finger moves led plain hs=some (t,o)):jf t b:=by
 unfold SetTable.laid at e;obtain⟨ow,_,e⟩:=wM.mp e;cases e;refine⟨?_,rfl,hl⟩;unfold ZJ;dsimp only;rw[List.map_filterMap];have:List.Sublist (List.filterMap (λx=>Option.map (λx=>x.1) (Option.map (λk=>(x,k)) (ow.getD x none))) (List.range (mask+1))) (List.range (mask+1)):=by
  generalize List.range (mask+1)=l
  induction l with
  |nil=>exact .slnil
  |cons a l ih=>
   rw[vp];cases ow.getD a none with
   |none=>exact ih.cons a
   |some k=>exact ih.cons₂ a
 exact List.pairwise_lt_range.sublist this
theorem V5{t:SetTable}{b:Bool}(g:jf t b)(es:Array (Int×Value))(w:Nat):jf (relayAll t es w).2.1 b:=by
 unfold relayAll;split
 ·rename_i t' o e;dsimp only;split
  ·exact w9 g.led e
  ·exact zx g _
 ·exact zx g _
def SetG(P:Program)(w:World)(b:Bool)(h:Heap)(a:Addr)(S:Int->Bool)(n:Nat):Prop:=
 ∃o es ep t,h.get? a=some o/\o.ExactSet/\o.data=.set es ep t/\ElemsOf (intKind P w) es.toList/\(∀k,S k=true↔∃e∈es.toList,(intKind P w).is k e.2=true)/\es.size<scanBound/\t.fits es.size=true/\es.size=n/\jf t b
section
variable{P:Program}{w:World}{A:Around}{E:Value->Shared->Prop}{s:Shared}{b:Bool}{a:Addr}{S:Int->Bool}{n:Nat}
theorem SetG.eq{h:Heap}{S':Int->Bool}{n':Nat}(g:SetG P w b h a S n)(e:∀k,S k=S' k)(en:n=n'):SetG P w b h a S' n':=by
 have:S=S':=funext e;subst this;subst en;exact g
theorem qHR{h:Heap}{o:Obj}{es es':Array (Int×Value)}{ep:Nat}{t t':SetTable}(ho:h.get? a=some o)(hx:o.ExactSet)(hd:o.data=.set es ep t)(h1:ElemsOf (intKind P w) es'.toList)(h2:∀k,S k=true↔∃e∈es'.toList,(intKind P w).is k e.2=true)(h3:es'.size<scanBound)(h4:t'.fits es'.size=true)(g:jf t' b):
  (h.update a (Obj.putSet es' t')).get? a=some { o with data:=.set es' (ep+1) t' }/\SetG P w b (h.update a (Obj.putSet es' t')) a S es'.size:=by
 have z:=(SetOf_store (knd:=intKind P w) ho hx hd h1 h2 h3 h4).1;exact⟨z,_,es',ep+1,t',z,hx,rfl,h1,h2,h3,h4,rfl,g⟩
theorem i5{gw:Bool->Sem Unit}(hgw:∀(c:Bool) (s1:Shared) (Q':Unit->Shared->Prop),Q' () s1->wpAny (model P w) A (gw c) Q' E s1)
  {o:Obj}{es es1:Array (Int×Value)}{ep:Nat}{t t2:SetTable}(ho:s.heap.get? a=some o) (hx:o.ExactSet) (hd:o.data=.set es ep t)
  (h1:ElemsOf (intKind P w) es1.toList) (h2:∀k,S k=true↔∃e∈es1.toList,(intKind P w).is k e.2=true) (h3:es1.size<scanBound) (h4:t2.fits es1.size=true) (g:jf t2 b){dm:Bool}{R:Option Bool->Shared->Prop}
  (fin:∀h',Heap.SameBut a s.heap h'->SetG P w b h' a S es1.size->R (some true) { s with heap:=h' }):
  wpAny (model P w) A (do
    storeSet a es1 t2
    if (!dm&&t2.tooFull)=true then do
      gw (relayAll t2 es1 (SetTable.grown es1.size)).2.2
      storeSet a (relayAll t2 es1 (SetTable.grown es1.size)).1 (relayAll t2 es1 (SetTable.grown es1.size)).2.1
      pure (some true)
     else pure (some true)) R E s:=by
 obtain⟨g1,G1⟩:=qHR (P:=P) (w:=w) (b:=b) (S:=S) ho hx hd h1 h2 h3 h4 g;have k1:=Heap.SameBut.update s.heap a (Obj.putSet es1 t2);refine uP (wpAny_storeSet_of ho hd ?_ (fits_of_scanBound h3));split
 ·have pm:=relayAll_perm t2 es1 (SetTable.grown es1.size);have ft:=relayAll_fits t2 es1 (SetTable.grown es1.size);have gd:=V5 g es1 (SetTable.grown es1.size);generalize relayAll t2 es1 (SetTable.grown es1.size)=r at pm ft gd ⊢;obtain⟨es2,t3,gv⟩:=r;dsimp only at pm ft gd ⊢;have sz:es2.size=es1.size:=by rw[<-we,pm.length_eq,we]
  have h3':es2.size<scanBound:=by rw[sz];exact h3
  refine uP (hgw _ _ _ (uP (wpAny_storeSet_of g1 rfl ?_ (fits_of_scanBound h3'))));obtain⟨_,G2⟩:=qHR (P:=P) (w:=w) (b:=b) (S:=S) g1 hx rfl (h1.perm pm) (λk=>(h2 k).trans ⟨λ⟨e,q,z⟩=>⟨e,pm.mem_iff.mpr q,z⟩,λ⟨e,q,z⟩=>⟨e,pm.mem_iff.mp q,z⟩⟩) h3' ft gd;exact uQ (fin _ (k1.trans (Heap.SameBut.update _ a _)) (by rw[<-sz];exact G2))
 ·exact uQ (fin _ k1 G1)
theorem qAh{k:Int}{x:Value}{Q:Bool->Shared->Prop}(hkey:(intKind P w).is k x=true)(hsc:x.scannable=true)(g:SetG P w b s.heap a S n)(room:n+1<scanBound)
  (fin:∀h',Heap.SameBut a s.heap h'->SetG P w b h' a (λk'=>S k'||decide (k'=k)) (if S k then n else n+1)->Q (!S k) { s with heap:=h' }):
  wpAny (model P w) A (setAddHashed a x ((intKind P w).hash k)) Q E s:=by
 obtain⟨o,es,ep,t,ho,hx,hd,hel,hmem,hb,hf,hn,gd⟩:=g;unfold setAddHashed setAddHashedIn;refine wpAny_holding (uP (wpAny_setState_of ho hd hf ?_));dsimp only;rw[byScan_of hsc hb hel,if_pos rfl];unfold setAddByScan;refine uP (uP (wpAny_rule (uP (wpAny_setScan_of hkey ho hd hf hel ?_))));cases hr:List.findIdx? (λe=>(intKind P w).is k e.2) es.toList with
 |some j=>
  dsimp only;obtain⟨hj,pj,_⟩:=List.findIdx?_eq_some_iff_getElem.mp hr;have yes:S k=true:=(hmem k).mpr ⟨es.toList[j],vK hj,pj⟩;have f:=fin s.heap (Heap.SameBut.refl a s.heap) ⟨o,es,ep,t,ho,hx,hd,hel,λk'=>by
   rw[vw,uT,<-hmem k'];exact⟨λq=>q.elim id (λe=>e ▸ yes),.inl⟩,hb,hf,by rw[yes];exact hn,gd⟩
  rw[yes]at f;exact uQ (uQ (by cases s;exact f))
 |none=>
  dsimp only;have no:S k=false:=by
   cases q:S k with
   |false=>rfl
   |true=>
    obtain⟨e,he,z⟩:=(hmem k).mp q;have:=List.findIdx?_eq_none_iff.mp hr e he;rw[z]at this;cases this
  have pm:=layNew_perm t es ((intKind P w).hash k) x;have ft:=layNew_fits t es ((intKind P w).hash k) x;have gl:=J6 gd es ((intKind P w).hash k) x;generalize layNew t es ((intKind P w).hash k) x=r at pm ft gl ⊢;obtain⟨es1,t1,dm,gv⟩:=r;dsimp only at pm ft gl ⊢;rw[Array.toList_push]at pm;have sz:es1.size=n+1:=by rw[<-we,pm.length_eq,wY,we,hn];rfl
  have h3:es1.size<scanBound:=by rw[sz];exact room
  have gw:∀(c:Bool){s1:Shared}{Q':Unit->Shared->Prop},Q' () s1->wpAny (model P w) A (match c with|true=>rule "set.scan.the-table-gave-way" | false=>pure ()) Q' E s1:=λc s1 Q' q=>by
   cases c
   ·exact uQ q
   ·exact wpAny_rule q
  refine uP (gw _ ?_);have e1:=(hel.push hkey hsc).perm pm;have e2:=mem_push_iff hkey hmem pm;have ends:∀h',Heap.SameBut a s.heap h'->SetG P w b h' a (λk'=>S k'||decide (k'=k)) es1.size->Q true { s with heap:=h' }:=λh' k1 G=>by
   have:=fin h' k1;rw[no]at this;rw[sz]at G;exact this G
  split
  ·refine uP ?_;rw[hashByValue_scannable 8 hsc];refine uQ (i5 (P:=P) (w:=w) (b:=b) ?_ ho hx hd e1 e2 h3 ?_ ?_ λh' k1 G=>by dsimp only;exact uQ (ends h' k1 G))
   ·intro c s1 Q' q;cases c
    ·exact uQ q
    ·exact wpAny_rule q
   ·split
    ·exact ft
    ·exact SetTable.fits_plain_off ft
   ·split
    ·exact gl
    ·exact Y2 gl
  ·refine uP (uQ ?_);rw[if_pos rfl];refine i5 (P:=P) (w:=w) (b:=b) ?_ ho hx hd e1 e2 h3 ft gl λh' k1 G=>by dsimp only;exact uQ (ends h' k1 G)
   intro c s1 Q' q;cases c
   ·exact uQ q
   ·exact wpAny_rule q
end
noncomputable def QM(w:World):Bool:=w.params.followText "set-order"
section
variable{P:Program}{w:World}{A:Around}{E:Value->Shared->Prop}{s:Shared}{b:Bool}
theorem SetG.at{h h':Heap}{a:Addr}{S:Int->Bool}{n:Nat}(g:SetG P w b h a S n)(e:∀o,h.get? a=some o->h'.get? a=some o):SetG P w b h' a S n:=
 let ⟨o,es,ep,t,h1,r⟩:=g;⟨o,es,ep,t,e o h1,r⟩
noncomputable def qAU(val:Nat->Int)(i:Nat):Int->Bool:=λk=>(firstMet val i).any (·==k)
theorem N6{R:Result->Shared->Prop}{I:Addr}{fp wr:List Addr}{G:Array GenState->Array GenState->Prop}{n:Nat}{Pr:Nat->Value->Prop}{St:Nat->Shared->Prop}(W:WalksS P w A.in1 I fp wr G n Pr St)(a:Addr)(ha:a∉fp)
  (val:Nat->Int) (hval:∀i v,Pr i v->∃t,v=.int (val i) t) (hb:n+1<scanBound):
  ∀(k i:Nat) (s:Shared),n-i=k->i<=n->St i s->SetG P w b s.heap a (qAU val i) (firstMet val i).length ->
   (∀s',Moved (a::wr) G s s'->SetG P w b s'.heap a (qAU val n) (firstMet val n).length->R (.ok (.ret .none)) s') ->
   codeAny (model P w) A (.builtin "set.update.loop" ⟨[.ref a,.ref I],[]⟩) R s:=by
 have haw:a∉wr:=λh=>ha (W.sub _ h);have up:∀c∈wr,c∈a::wr:=λc hc=>wH _ hc;intro k
 induction k with
 |zero=>
  intro i s hk hi st g fin;have:i=n:=by omega
  subst this;refine codeAny_builtin F.entry_set_update_loop ?_;rw[Around.under_plainId F.plain_set_update_loop _];show wpAny _ A.in1 (pyNext (.ref I) >>=_) _ _ s;refine uP (W.done s _ _ st λs' hm=>?_);show wpAny _ A.in1 (ret Value.none) _ _ s';exact uQ (fin s' (hm.mono up) (g.at λo e=>hm.heap a o haw e))
 |succ k ih=>
  intro i s hk hi st g fin;have lt:i<n:=by omega
  refine codeAny_builtin F.entry_set_update_loop ?_;rw[Around.under_plainId F.plain_set_update_loop _];show wpAny _ A.in1 (pyNext (.ref I) >>=_) _ _ s;refine uP (W.item i s _ _ lt st λv s' hP st' hm=>?_);obtain⟨t,rfl⟩:=hval i v hP;have g':=g.at (h':=s'.heap) λo e=>hm.heap a o haw e;show wpAny _ A.in1 (holding [Value.int (val i) t] (setAdd a (.int (val i) t)) >>=_) _ _ s';refine uP (wpAny_holding ?_);unfold setAdd;refine wpAny_holding (uP ((intKind P w).pyHash (k:=val i) (intKind_is _ _ _ _) ?_));have le:=firstMet_length_le val i;refine qAh (s:={ s' with toks:=s'.toks+1 }) (intKind_is _ _ _ _) rfl g' (by omega) λh' sb g2=>?_;have g3:SetG P w b h' a (qAU val (i+1)) (firstMet val (i+1)).length:=by
   refine g2.eq (λc=>?_) ?_
   ·show _=(firstMet val (i+1)).any (·==c);rw[firstMet_succ,step_any];rfl
   ·rw[firstMet_succ,step_length];rfl
  refine uQ ⟨plainId_quiet F.plain_set_update_loop _,ih (i+1) _ (by omega) lt (W.frame _ s' _ _ st' (Nat.le_succ _) λc hc o e=>?_) g3 λs2 hm2 g4=>?_⟩
  ·rw[sb.2 c (λz:c=a=>ha (by rw[<-z];exact hc))];exact e
  ·refine fin s2 (Moved.trans W.gtrans ((hm.mono up).then_heap (Nat.le_succ _) λc o hc e=>?_) hm2) g4;rw[sb.2 c (λz:c=a=>hc (by rw[z];exact wO))];exact e
noncomputable abbrev jo(w:World):Obj:={ cls:=.type "set",dict:=none,data:=.set #[] 0 (.fresh 0 0 (!QM w)) }
theorem qAa(v:Value){Q:Value->Shared->Prop}(h:Q (.ref s.heap.objs.size) { s with heap:=s.heap.push (jo w) }):
  codeAny (model P w) A (.call (.builtin "set.__new__") ⟨[.type "set",v],[]⟩) (wants Q E) s:=by
 refine codeAny_of_tree ?_;show wpAny _ A.in1 (do checkBuiltinCall "set.__new__" ⟨[.type "set",v],[]⟩;again (.builtin "set.__new__" ⟨[.type "set",v],[]⟩)) _ _ s;refine uP (wpAny_of_eq (F.newCall_set_1 v) (uQ ⟨plainId_quiet F.plain_set_new _,codeAny_builtin F.entry_set_new ?_⟩));rw[Around.under_plainId F.plain_set_new _];unfold Builtin.«set.__new__» Builtin.Frozenset.newClass;have self:=sub_set_self;obtain⟨hp,g,d,tk,os⟩:=s;dsimp only
 wp_walk
 refine wpAny_askSetting (uQ ?_);dsimp only;simp only[newObj];refine uP (wpAny_alloc (uQ ?_));exact uQ h
theorem G7{l:Addr}{its:Array Value}{ns:List Int}{Q:Value->Shared->Prop}(hh:A.handled=none)(hl:s.heap.IsList l its)(hi:IntsAre its.toList ns)(hb:its.size+1<scanBound)
  (fin:∀(h':Heap) (tk:Nat),SetG P w (QM w) h' s.heap.objs.size (qAU (λi=>ns.getD i 0) its.size) (firstMet (λi=>ns.getD i 0) its.size).length ->
   (∀c o,c<s.heap.objs.size->s.heap.get? c=some o->h'.get? c=some o)->Q (.ref s.heap.objs.size) { s with heap:=h',toks:=tk }):
  wpAny (model P w) A (call (.type "set") [.ref l]) Q E s:=by
 obtain⟨c,tl,mro⟩:=F.called_set.mro;have made:=F.called_set.made;have sub:=F.called_set.sub;refine wpAny_call (codeAny_of_tree ?_);show wpAny _ _ (callAny (.type "set") _) _ _ _;refine uQ ⟨Code.quiet_builtin _ (by decide +kernel),codeAny_builtin F.entry_type_call ?_⟩;rw[Around.under_plain (weight_type_call_type "set" [.ref l] []) rfl];have t1:=F.called_set.notType;have t2:=F.called_set.canCreate;have t3:=F.typeCall_set_1 (.ref l)
 repeat (any_goals (first|assumption|wp_step))
 refine codeAny_mono (qAa (.ref l) (E:=E) (Q:=λv s1=>v=.ref s.heap.objs.size/\s1={ s with heap:=s.heap.push (jo w) }) ⟨rfl,rfl⟩) λr s1 hr=>?_;cases r with
 |error e=>exact hr
 |ok fl=>
  cases fl with
  |ret v=>
   obtain⟨rfl,rfl⟩:=hr;have g0:(s.heap.push (jo w)).get? s.heap.objs.size=some (jo w):=Heap.get?_push_size _ rfl;have ty:Shared.TypeIs { s with heap:=s.heap.push (jo w) } (.ref s.heap.objs.size) "set":=⟨_,g0,rfl⟩
   have li:=F.called_set.init.lookup;have bi:=F.called_set.init.bind (.ref s.heap.objs.size)
   repeat (any_goals (first|assumption|wp_step))
   refine codeAny_mono (codeAny_call_builtin (R:=wants (λr s2=>r=.none/\∃h' tk,s2={ s with heap:=h',toks:=tk }/\
     SetG P w (QM w) h' s.heap.objs.size (qAU (λi=>ns.getD i 0) its.size) (firstMet (λi=>ns.getD i 0) its.size).length/\
     (∀c o,c<s.heap.objs.size->s.heap.get? c=some o->h'.get? c=some o)) E) F.called_set.init.plain F.entry_set_init (check_set_init_1 ty ?_)) λr2 s2 hr2=>?_
   ·obtain⟨ol,hol,hcl,nl,hdl⟩:=hl;obtain⟨ocls,odict,odata,oslots⟩:=ol;simp only at hcl hdl;subst hcl;subst hdl;have hol':(s.heap.push (jo w)).get? l=some { cls:=.type "list",dict:=odict,data:=.seq its nl,slots:=oslots }:=Heap.get?_push_of_some _ hol;have n1:=F.sub_list_set;have n2:=F.sub_list_frozenset;have n3:(Value.type "list"==Value.type "dict")=false:=by decide
    have hl1:(s.heap.push (jo w)).IsList l its:=⟨_,hol',rfl,nl,rfl⟩
    unfold Builtin.«set.__init__» noKeywords Builtin.Frozenset.updateFrom;generalize hPI:pyIter=_P
    wp_walk
    subst hPI;refine wpAny_pyIter_list hl1 (uP (wpAny_runValue ?_));have lS:l<s.heap.objs.size:=Heap.lt_size hol;have hh3:A.in1.in1.in1.handled=none:=by simp[hh]
    have neI:l≠(s.heap.push (jo w)).objs.size:=by rw[Heap.size_push];exact wW (vz lS)
    have nf:s.heap.objs.size∉[(s.heap.push (jo w)).objs.size,l]:=by
     rw[Heap.size_push];simp only[wI,wU,wX,or_false,not_or];exact⟨wW (vb _),vy lS⟩
    have hv:∀(i:Nat) (v:Value),its[i]?=some v->∃t,v=.int ((λi=>ns.getD i 0) i) t:=λi v q=>
     IntsAre.int_at hi i v (by rw[Array.getElem?_toList];exact q)
    refine N6 (P:=P) (w:=w) (b:=QM w) ((Walks.list hh3 _ l neI its).toS) s.heap.objs.size nf (λi=>ns.getD i 0) hv hb (its.size-0) 0 _ (by omega) (vI _) ⟨⟨_,Heap.get?_push_size _ rfl,rfl,rfl⟩,(hl1.push _)⟩ ?zer ?fin
    case zer=>
     exact⟨jo w,#[],0,_,Heap.get?_push_of_some _ g0,⟨rfl,rfl,rfl⟩,rfl,λe he=>by simp at he,λk=>by simp[qAU,firstMet_zero],by decide,by rfl,rfl,X6 λz=>by rw[z];rfl⟩
    case fin=>
     intro s' hm g';obtain⟨h',g,d',tk',os'⟩:=s';have eg:g=s.gens:=hm.gens;have ed:d'=s.drawn:=hm.drawn;have eo:os'=s.os:=hm.os;subst eg;subst ed;subst eo;show wpAny _ _ _ _ _ _;refine uQ ?_;show wpAny _ _ (ret Value.none) _ _ _;refine uQ ⟨rfl,h',tk',rfl,g',λc o hc e=>?_⟩;have c1:c≠s.heap.objs.size:=wW hc;have c2:c≠(s.heap.push (jo w)).objs.size:=by rw[Heap.size_push];exact wW (vz hc)
     exact hm.heap c o (by simp only[wI,wU,wX,or_false,not_or];exact⟨c1,c2⟩) (Heap.get?_push_of_some _ (Heap.get?_push_of_some _ e))
   ·cases r2 with
    |error e=>exact hr2
    |ok fl2=>
     cases fl2 with
     |ret r=>
      obtain⟨rfl,h',tk,rfl,g',k'⟩:=hr2
      repeat (any_goals (first|assumption|wp_step))
      exact fin _ _ g' k'
     |_=>exact hr2.elim
  |_=>exact hr.elim
end
theorem slot_si_next:Slot "set_iterator" "__next__" "set_iterator.__next__":=
 .of (owner:="set_iterator") (n:="__next__") (by rw[typeLookup_type,builtinLookup_eq_fast];kernel_rfl) (by decide +kernel) (by decide +kernel) (by decide +kernel)
  (by first|exact .inl (by decide +kernel)|exact .inr (by decide +kernel)) (by rw[isSubtype_type];kernel_rfl)
theorem ZB:Slot "set_iterator" "__iter__" "set_iterator.__iter__":=
 .of (owner:="set_iterator") (n:="__iter__") (by rw[typeLookup_type,builtinLookup_eq_fast];kernel_rfl) (by decide +kernel) (by decide +kernel) (by decide +kernel)
  (by first|exact .inl (by decide +kernel)|exact .inr (by decide +kernel)) (by rw[isSubtype_type];kernel_rfl)
theorem zk:entryFor table "set_iterator.__next__"=some Builtin.«set_iterator.__next__»:=entryFor_of_tree (by kernel_rfl)
theorem Jz:entryFor table "set_iterator.__iter__"=some Builtin.«dict_keyiterator.__iter__»:=
 entryFor_alias (id':="dict_keyiterator.__iter__") (by kernel_rfl) rfl (by decide +kernel) (by kernel_rfl)
theorem C1:entryFor table "set.__iter__"=some Builtin.«frozenset.__iter__»:=
 entryFor_alias (id':="frozenset.__iter__") (by kernel_rfl) rfl (by decide +kernel) (by kernel_rfl)
theorem T2:Manifest.owners.lookup (String.ofList ['r','o','t','a','r','e','t','i','_','t','e','s'].reverse)=some Manifest.sig_set_iterator:=by kernel_rfl
theorem jA(a:Value):argsOk "set_iterator.__next__" ⟨[a],[]⟩:=by
 unfold argsOk;rw[signature?_of (id:="set_iterator.__next__") (n:=['_','_','t','x','e','n','_','_']) (o:=['r','o','t','a','r','e','t','i','_','t','e','s']) (by kernel_rfl) T2];kernel_rfl
theorem C8(a:Value):argsOk "set_iterator.__iter__" ⟨[a],[]⟩:=by
 unfold argsOk;rw[signature?_of (id:="set_iterator.__iter__") (n:=['_','_','r','e','t','i','_','_']) (o:=['r','o','t','a','r','e','t','i','_','t','e','s']) (by kernel_rfl) T2];kernel_rfl
def IterS(h:Heap)(I a:Addr)(first:Value)(i n ep:Nat):Prop:=
 ∃o,h.get? I=some o/\o.cls=.type "set_iterator"/\o.data=.fields #[first,.int i 0,.ref a,.int n 0,.int ep 0]
section
variable{P:Program}{w:World}{A:Around}{E:Value->Shared->Prop}{s:Shared}{I a:Addr}{first:Value}{i n ep:Nat}
theorem IterS.typeIs(x:IterS s.heap I a first i n ep):s.TypeIs (.ref I) "set_iterator":=let ⟨o,ho,hc,_⟩:=x;⟨o,ho,hc⟩
theorem IterS.at{h h':Heap}(x:IterS h I a first i n ep)(e:∀o,h.get? I=some o->h'.get? I=some o):IterS h' I a first i n ep:=let ⟨o,ho,r⟩:=x;⟨o,e _ ho,r⟩
theorem qAA{Q:Value->Shared->Prop}(hit:IterS s.heap I a first i n ep)(h:Q (.ref I) s):wpAny (model P w) A (pyIter (.ref I)) Q E s:=by
 refine wpAny_pyIter_slot hit.typeIs ZB (wpAny_call_entry ZB hit.typeIs Jz ?_ (C8 _));show wpAny _ _ (ret (.ref I)) _ _ s;exact uQ ⟨_,rfl,"set_iterator",_,hit.typeIs,slot_si_next.lookup,h⟩
theorem qC1{Q:Option Value->Shared->Prop}{o:Obj}{es:Array (Int×Value)}{t:SetTable}{x:Value}{sl:Nat}{nx:Nat}(hit:IterS s.heap I a (.int sl 0) i n ep)
  (ho:s.heap.get? a=some o) (hd:o.data=.set es ep t) (hf:t.fits es.size=true) (hn:es.size=n)
  (hx:∀(A:Around) (E:Value->Shared->Prop) (R:Option (Value×Nat)->Shared->Prop),R (some (x,nx)) s->wpAny (model P w) A (setNext a sl i ep) R E s)
  (hQ:∀h',IterS h' I a (.int nx 0) (i+1) n ep->(∀b o,b≠I->s.heap.get? b=some o->h'.get? b=some o)->Q (some x) { s with heap:=h' }):
  wpAny (model P w) A (pyNext (.ref I)) Q E s:=by
 obtain⟨oI,hoI,hcI,hdI⟩:=id hit;unfold pyNext;refine uP (wpAny_attempt (wpAny_callSpecial?_slot (name:=Str.ofString "__next__") hit.typeIs slot_si_next
  (wpAny_call_entry slot_si_next hit.typeIs zk ?_ (jA _))))
 unfold Builtin.«set_iterator.__next__»;refine uP (uQ ?_);refine uP (wpAny_fieldsOf hoI hdI ?_);dsimp only;refine uP (wpAny_setEntries_of ho hd hf ?_);rw[if_neg (by rw[hn];simp)];simp only[wt];refine uP (hx _ _ _ ?_);dsimp only;refine uP (wpAny_setField hoI hdI (by simp) ?_);have e1:=Heap.get?_update_self (Obj.mapFields (·.setIfInBounds 0 (rawInt (nx:Int)))) hoI (Obj.isFreed_of_fields (Obj.data_mapFields hdI _));have d1:(Obj.mapFields (·.setIfInBounds 0 (rawInt (nx:Int))) oI).data=.fields #[.int nx 0,.int i 0,.ref a,.int n 0,.int ep 0]:=by rw[Obj.data_mapFields hdI];simp[rawInt]
 refine uP (wpAny_setField e1 d1 (by simp) ?_);refine uQ ⟨_,rfl,uQ (hQ _ ⟨_,Heap.get?_update_self _ e1 (Obj.isFreed_of_fields (Obj.data_mapFields d1 _)),?_,?_⟩ λb o hb e=>?_)⟩
 ·rw[Obj.cls_mapFields,Obj.cls_mapFields];exact hcI
 ·rw[Obj.data_mapFields d1];simp[rawInt]
 ·exact(Heap.get?_update_other _ _ (Ne.symm hb)).trans ((Heap.get?_update_other _ _ (Ne.symm hb)).trans e)
theorem qEa{Q:Option Value->Shared->Prop}{o:Obj}{es:Array (Int×Value)}{t:SetTable}{sl:Nat}(hh:A.handled=none)(hit:IterS s.heap I a (.int sl 0) i n ep)
  (ho:s.heap.get? a=some o) (hd:o.data=.set es ep t) (hf:t.fits es.size=true) (hn:es.size=n)
  (hx:∀(A:Around) (E:Value->Shared->Prop) (R:Option (Value×Nat)->Shared->Prop),R none s->wpAny (model P w) A (setNext a sl i ep) R E s)
  (hQ:∀h',(∀b o,b≠I->s.heap.get? b=some o->h'.get? b=some o)->Q none { s with heap:=h' }):
  wpAny (model P w) A (pyNext (.ref I)) Q E s:=by
 obtain⟨oI,hoI,hcI,hdI⟩:=id hit;unfold pyNext;refine uP (wpAny_attempt (wpAny_callSpecial?_slot (name:=Str.ofString "__next__") hit.typeIs slot_si_next
  (wpAny_call_entry slot_si_next hit.typeIs zk ?_ (jA _))))
 unfold Builtin.«set_iterator.__next__»;refine uP (uQ ?_);refine uP (wpAny_fieldsOf hoI hdI ?_);dsimp only;refine uP (wpAny_setEntries_of ho hd hf ?_);rw[if_neg (by rw[hn];simp)];simp only[wt];refine uP (hx _ _ _ ?_);dsimp only;refine uP (wpAny_setField hoI hdI (by simp) ?_);refine uP ?_;simp only[newExc,newTuple];refine uP (wpAny_newObj_type ?_ (by size_fits));refine uP (m:=firstArgMember _ _) (wpAny_of_eq (a:=Value.none) (by first|rfl|(simp only[firstArgMember];rfl)) ?_);refine wpAny_newObj_type ?_ (by size_fits);simp only[raiseNew];refine uP (wpAny_handled ?_);rw[show A.in1.handled=none from hh];refine uP (uQ (wpAny_throw ?_));refine uP (wpAny_isInstance (T:="StopIteration") (b:=true) ⟨_,Heap.get?_push_size _ rfl,rfl⟩ isSubtype_stop ?_);exact uQ (hQ _ λb o hb e=>Heap.get?_push_of_some _ (Heap.get?_push_of_some _ ((Heap.get?_update_other _ _ (Ne.symm hb)).trans e)))
theorem qDM{Q:Option Value->Shared->Prop}{o ot:Obj}{es:Array (Int×Value)}{t:SetTable}{x:Value}{h0:Int}{T:Addr}{pl:Array Value}{nt j:Nat}(hit:IterS s.heap I a (.ref T) i n ep)
  (ho:s.heap.get? a=some o) (hd:o.data=.set es ep t) (hf:t.fits es.size=true) (hn:es.size=n)
  (hT:s.heap.get? T=some ot) (hdT:ot.data=.seq pl nt) (hj:pl[i]?=some (.int j 0)) (hx:es[j]?=some (h0,x))
  (hQ:∀h',IterS h' I a (.ref T) (i+1) n ep->(∀b o,b≠I->s.heap.get? b=some o->h'.get? b=some o)->Q (some x) { s with heap:=h' }):
  wpAny (model P w) A (pyNext (.ref I)) Q E s:=by
 obtain⟨oI,hoI,hcI,hdI⟩:=id hit;unfold pyNext;refine uP (wpAny_attempt (wpAny_callSpecial?_slot (name:=Str.ofString "__next__") hit.typeIs slot_si_next
  (wpAny_call_entry slot_si_next hit.typeIs zk ?_ (jA _))))
 unfold Builtin.«set_iterator.__next__»;refine uP (uQ ?_);refine uP (wpAny_fieldsOf hoI hdI ?_);dsimp only;refine uP (wpAny_setEntries_of ho hd hf ?_);rw[if_neg (by rw[hn];simp)];simp only[wt];refine uP (wpAny_seqItems hT hdT ?_);dsimp only;rw[hj];dsimp only;simp only[wt];unfold setNextDrawn;refine uP ?_;refine uP (wpAny_setState_of ho hd hf ?_);dsimp only;rw[if_neg (by simp)];rw[hx];refine uQ ?_;refine uP (wpAny_setField hoI hdI (by simp) ?_);refine uQ ⟨_,rfl,uQ (hQ _ ⟨_,Heap.get?_update_self _ hoI (Obj.isFreed_of_fields (Obj.data_mapFields hdI _)),?_,?_⟩ λb o hb e=>?_)⟩
 ·rw[Obj.cls_mapFields];exact hcI
 ·rw[Obj.data_mapFields hdI];simp[rawInt]
 ·exact(Heap.get?_update_other _ _ (Ne.symm hb)).trans e
theorem qEf{Q:Option Value->Shared->Prop}{o ot:Obj}{es:Array (Int×Value)}{t:SetTable}{T:Addr}{pl:Array Value}{nt:Nat}(hh:A.handled=none)(hit:IterS s.heap I a (.ref T) i n ep)
  (ho:s.heap.get? a=some o) (hd:o.data=.set es ep t) (hf:t.fits es.size=true) (hn:es.size=n)
  (hT:s.heap.get? T=some ot) (hdT:ot.data=.seq pl nt) (hj:pl[i]?=none)
  (hQ:∀h',(∀b o,b≠I->s.heap.get? b=some o->h'.get? b=some o)->Q none { s with heap:=h' }):
  wpAny (model P w) A (pyNext (.ref I)) Q E s:=by
 obtain⟨oI,hoI,hcI,hdI⟩:=id hit;unfold pyNext;refine uP (wpAny_attempt (wpAny_callSpecial?_slot (name:=Str.ofString "__next__") hit.typeIs slot_si_next
  (wpAny_call_entry slot_si_next hit.typeIs zk ?_ (jA _))))
 unfold Builtin.«set_iterator.__next__»;refine uP (uQ ?_);refine uP (wpAny_fieldsOf hoI hdI ?_);dsimp only;refine uP (wpAny_setEntries_of ho hd hf ?_);rw[if_neg (by rw[hn];simp)];simp only[wt];refine uP (wpAny_seqItems hT hdT ?_);dsimp only;rw[hj];dsimp only;refine uP (wpAny_setField hoI hdI (by simp) ?_);have e1:=Heap.get?_update_self (Obj.mapFields (·.setIfInBounds 0 (rawInt 0))) hoI (Obj.isFreed_of_fields (Obj.data_mapFields hdI _));have d1:(Obj.mapFields (·.setIfInBounds 0 (rawInt 0)) oI).data=.fields #[.int 0 0,.int i 0,.ref a,.int n 0,.int ep 0]:=by rw[Obj.data_mapFields hdI];simp[rawInt]
 refine uP (wpAny_setField e1 d1 (by simp) ?_);refine uP ?_;simp only[newExc,newTuple];refine uP (wpAny_newObj_type ?_ (by size_fits));refine uP (m:=firstArgMember _ _) (wpAny_of_eq (a:=Value.none) (by first|rfl|(simp only[firstArgMember];rfl)) ?_);refine wpAny_newObj_type ?_ (by size_fits);simp only[raiseNew];refine uP (wpAny_handled ?_);rw[show A.in1.handled=none from hh];refine uP (uQ (wpAny_throw ?_));refine uP (wpAny_isInstance (T:="StopIteration") (b:=true) ⟨_,Heap.get?_push_size _ rfl,rfl⟩ isSubtype_stop ?_);exact uQ (hQ _ λb o hb e=>Heap.get?_push_of_some _ (Heap.get?_push_of_some _ ((Heap.get?_update_other _ _ (Ne.symm hb)).trans ((Heap.get?_update_other _ _ (Ne.symm hb)).trans e))))
end
theorem N9{α:Type}{l:List α}{i:Nat}(hi:i<l.length):(l[i]::l.eraseIdx i).Perm l:=by
 rw[List.eraseIdx_eq_take_drop_succ];refine List.perm_middle.symm.trans ?_;rw[List.getElem_cons_drop,uE]
theorem qDT{α:Type}(next:Nat->Nat):∀(fuel k:Nat) (left:List α) (out:Array α),left.length<=fuel->(pickOrder.go next fuel k left out).toList.Perm (out.toList++left):=by
 intro fuel
 induction fuel with
 |zero=>
  intro k left out h;have:left=[]:=vc (by omega);subst this;simp[pickOrder.go]
 |succ fuel ih=>
  intro k left out h;unfold pickOrder.go;split
  ·rename_i x e;obtain⟨hi,rfl⟩:=wC.mp e;refine(ih _ _ _ (by rw[List.length_eraseIdx_of_lt hi];omega)).trans ?_;rw[Array.toList_push,wu];exact List.Perm.append_left _ (N9 hi)
  ·rename_i e;have:left=[]:=by
    rcases left with _|⟨x,left⟩
    ·rfl
    ·have:=List.getElem?_eq_none_iff.mp e;have:=uG (next k) (show 0<(x::left).length by simp);omega
   subst this;simp
theorem Z9{α:Type}(next:Nat->Nat)(xs:Array α):(pickOrder next xs).toList.Perm xs.toList:=by
 unfold pickOrder;simpa using qDT next xs.size 0 xs.toList #[] (by simp)
section
variable{P:Program}{w:World}{A:Around}{E:Value->Shared->Prop}{s:Shared}{I a:Addr}{first:Value}{i n ep:Nat}
theorem qCT{α:Type}:∀(n:Nat) (xs:List α) (s:Shared){Q:List α->Shared->Prop},xs.length=n->(∀ys d,ys.Perm xs->Q ys { s with drawn:=d })->wpAny (model P w) A (drawOrder n xs) Q E s:=by
 intro n
 induction n with
 |zero=>
  intro xs s Q hl h;have:xs=[]:=vc hl;subst this;exact uQ (h [] s.drawn .nil)
 |succ n ih=>
  intro xs s Q hl h;rcases xs with _|⟨x0,xs⟩
  ·simp at hl
  ·unfold drawOrder;refine uP ?_;have ch:∀(R:Nat->Shared->Prop),(∀j d,j<(x0::xs).length->R j { s with drawn:=d })->wpAny (model P w) A (choose .order (x0::xs).length) R E s:=by
    intro R hR Γ p hΓ;show Sem.wp _ _ (.choose _ _ _) _ _ _ _;rw[Sem.wp_choose];exact⟨by simp,hR _ _ (uG _ (by simp))⟩
   refine ch _ λj d hj=>?_;rw[wD hj];dsimp only;refine uP (ih _ _ (by rw[List.length_eraseIdx_of_lt hj];simp at hl ⊢;omega) λys d' hp=>uQ ?_);exact h _ d' ((hp.cons _).trans (N9 hj))
variable{o:Obj}{es:Array (Int×Value)}{t:SetTable}{sl:Nat}{R:Option (Value×Nat)->Shared->Prop}
theorem B7(hb:QM w=true)(ho:s.heap.get? a=some o)(hd:o.data=.set es ep t)(hf:t.fits es.size=true)
  (h:R (((pickOrder (w.params.setOrder a ep) es)[i]?).map λe=>(e.2,sl)) s):wpAny (model P w) A (setNext a sl i ep) R E s:=by
 have by_:∀(R:Bool->Shared->Prop),R true s->wpAny (model P w) A setsByText R E s:=λR h=>by
  unfold setsByText;refine uP (wpAny_askSetting (uQ ?_));show R (QM w) s;rw[hb];exact h
 unfold setNext;refine uP (wpAny_setState_of ho hd hf ?_);dsimp only;refine uP (by_ _ ?_);rw[if_pos rfl,if_neg (by simp)];unfold setWalk;refine uP ?_;refine uP (wpAny_setState_of ho hd hf ?_);dsimp only;refine uP (by_ _ ?_);rw[if_pos rfl];refine uP (wpAny_askSetting (uQ ?_));exact uQ h
theorem JG(hb:QM w=false)(ho:s.heap.get? a=some o)(hd:o.data=.set es ep t)(hf:t.fits es.size=true)(hl:t.led=true)(hp:(!t.plain&&decide (es.size>1))=false)
  (h:R (match es[SetTable.below t.place sl]?,t.place[SetTable.below t.place sl]? with|some (_,x),some j=>some (x,j+1)|_,_=>none) s):wpAny (model P w) A (setNext a sl i ep) R E s:=by
 have by_:∀(R:Bool->Shared->Prop),R false s->wpAny (model P w) A setsByText R E s:=λR h=>by
  unfold setsByText;refine uP (wpAny_askSetting (uQ ?_));show R (QM w) s;rw[hb];exact h
 unfold setNext;refine uP (wpAny_setState_of ho hd hf ?_);dsimp only;refine uP (by_ _ ?_);rw[if_neg (by decide)];show wpAny _ _ (if (!t.plain&&decide (es.size>1))=true then _ else _) _ _ _;rw[hp,if_neg (by decide)];refine uP (m:=ite ((!t.led&&!es.isEmpty)=true) _ _) ?_;rw[hl,if_neg (by simp)];refine uQ ?_;exact uQ h
end
open PySem.W
section
variable{P:Program}{w:World}{A:Around}{E:Value->Shared->Prop}{s:Shared}{I a:Addr}{n ep:Nat}
variable{o:Obj}{es:Array (Int×Value)}{t:SetTable}
theorem C2(hh:A.handled=none)(hne:a≠I)(hd:o.data=.set es ep t)(hf:t.fits es.size=true)(hn:es.size=n)(vs:List Value)(sl:Nat->Nat)
  (nx:∀(i:Nat) (hi:i<vs.length) (s:Shared),s.heap.get? a=some o->∀(A:Around) (E:Value->Shared->Prop) (R:Option (Value×Nat)->Shared->Prop),R (some (vs[i],sl (i+1))) s->wpAny (model P w) A (setNext a (sl i) i ep) R E s)
  (en:∀(s:Shared),s.heap.get? a=some o->∀(A:Around) (E:Value->Shared->Prop) (R:Option (Value×Nat)->Shared->Prop),R none s->wpAny (model P w) A (setNext a (sl vs.length) vs.length ep) R E s):
  WalksS P w A I [I,a] [I] (λa b=>b=a) vs.length (λi v=>vs[i]?=some v) (λi s=>IterS s.heap I a (.int (sl i) 0) i n ep/\s.heap.get? a=some o) where
 sub:=λb hb=>by simp at hb;simp[hb]
 grefl:=λ_=>rfl
 gtrans:=λ_ _ _ x y=>y.trans x
 frame:=λi s h' tk st _ hk=>⟨st.1.at λo e=>hk I (by simp) o e,hk a (by simp) o st.2⟩
 item:=λi s Q E hi st hQ=>by
  refine qC1 st.1 st.2 hd hf hn (λA E R hR=>nx i hi s st.2 A E R hR) λh' it k=>?_;exact hQ _ _ (by simp[hi]) ⟨it,k a o hne st.2⟩ ⟨λb o hb e=>k b o (λz=>hb (by simp[z])) e,rfl,rfl,rfl,wG _⟩
 done:=λs Q E st hQ=>by
  refine qEa hh st.1 st.2 hd hf hn (λA E R hR=>en s st.2 A E R hR) λh' k=>?_;exact hQ _ ⟨λb o hb e=>k b o (λz=>hb (by simp[z])) e,rfl,rfl,rfl,wG _⟩
 self:=λ_ _ _ _ st hQ=>qAA st.1 hQ
theorem N5{T:Addr}{ot:Obj}{pl:Array Value}{nt:Nat}(hh:A.handled=none)(hne:a≠I)(hT:T≠I)(hd:o.data=.set es ep t)(hf:t.fits es.size=true)(hn:es.size=n)(hdT:ot.data=.seq pl nt)(vs:List Value)
  (hv:∀i (hi:i<vs.length),∃(j:Nat) (h0:Int),pl[i]?=some (.int j 0)/\es[j]?=some (h0,vs[i])) (he:pl[vs.length]?=none):
  WalksS P w A I [I,a,T] [I] (λa b=>b=a) vs.length (λi v=>vs[i]?=some v) (λi s=>IterS s.heap I a (.ref T) i n ep/\s.heap.get? a=some o/\s.heap.get? T=some ot) where
 sub:=λb hb=>by simp at hb;simp[hb]
 grefl:=λ_=>rfl
 gtrans:=λ_ _ _ x y=>y.trans x
 frame:=λi s h' tk st _ hk=>⟨st.1.at λo e=>hk I (by simp) o e,hk a (by simp) o st.2.1,hk T (by simp) ot st.2.2⟩
 item:=λi s Q E hi st hQ=>by
  obtain⟨j,h0,e1,e2⟩:=hv i hi;refine qDM st.1 st.2.1 hd hf hn st.2.2 hdT e1 e2 λh' it k=>?_;exact hQ _ _ (by simp[hi]) ⟨it,k a o hne st.2.1,k T ot hT st.2.2⟩ ⟨λb o hb e=>k b o (λz=>hb (by simp[z])) e,rfl,rfl,rfl,wG _⟩
 done:=λs Q E st hQ=>by
  refine qEf hh st.1 st.2.1 hd hf hn st.2.2 hdT he λh' k=>?_;exact hQ _ ⟨λb o hb e=>k b o (λz=>hb (by simp[z])) e,rfl,rfl,rfl,wG _⟩
 self:=λ_ _ _ _ st hQ=>qAA st.1 hQ
def qEG(P:Program)(w:World)(A:Around)(s s1:Shared)(a I:Addr)(vs:List Value):Prop:=
 ∃(fp:List Addr) (St:Nat->Shared->Prop),WalksS P w A I fp [I] (λa b=>b=a) vs.length (λi v=>vs[i]?=some v) St/\St 0 s1/\s.heap.objs.size<=I/\(∀b∈fp,b=a\/s.heap.objs.size<=b)
  /\ (∀b o,s.heap.get? b=some o->s1.heap.get? b=some o)/\s1={ s with heap:=s1.heap,drawn:=s1.drawn }
theorem qA0{Q:Value->Shared->Prop}(A':Around)(hh:A'.handled=none)(ho:s.heap.get? a=some o)(hx:o.ExactSet)(hd:o.data=.set es ep t)(hf:t.fits es.size=true)(hb:es.size<scanBound)(gd:jf t (QM w))
  (fin:∀(I:Addr) (vs:List Value) (s1:Shared),vs.Perm (es.toList.map (·.2))->qEG P w A' s s1 a I vs->Q (.ref I) s1):
  wpAny (model P w) A (pyIter (.ref a)) Q E s:=by
 have hT:s.TypeIs (.ref a) "set":=⟨o,ho,hx.1⟩
 have la:a<s.heap.objs.size:=Heap.lt_size ho;refine wpAny_pyIter_slot hT F.slot_set_iter (wpAny_call_entry F.slot_set_iter hT C1 ?_ (F.args_set_iter_1 _));unfold Builtin.«frozenset.__iter__» Builtin.Frozenset.slot0 slotArgs;simp only[List.isEmpty_nil,vR,vJ,↓reduceIte,bind_assoc,List.length_nil,bne_self_eq_false];unfold Builtin.Frozenset.addrOf Builtin.Frozenset.sizeOf setDrawn setsByText;refine uP (uQ ?_)
 try dsimp only
 refine uP (uQ ?_);refine uP (uP (wpAny_setEntries_of ho hd hf (uQ ?_)));refine uP (uP (wpAny_setState_of ho hd hf ?_));refine uP (uP (wpAny_askSetting (uQ ?_)));refine uQ ?_;show wpAny _ _ (if (!QM w&&(!t.plain&&decide (es.size>1)))=true then _ else _) _ _ _;by_cases c:(!QM w&&(!t.plain&&decide (es.size>1)))=true
 ·rw[if_pos c];refine uP (qCT _ _ _ (by simp) λys d hp=>?_);have hys:ys.length=es.size:=by rw[hp.length_eq];simp
  refine uP (wpAny_newTuple ?_ (by rw[wQ,hys];exact wN (vD hb) (by decide)));have ho1:(s.heap.push { cls:=.type "tuple",data:=.seq (ys.map λ(i:Nat)=>rawInt i).toArray }).get? a=some o:=Heap.get?_push_of_some _ ho;refine uP (wpAny_setEpoch_of (o:=o) ho1 hd hf ?_);refine uP (wpAny_newObj_type (uQ ⟨_,rfl,"set_iterator",_,⟨_,Heap.get?_push_size _ rfl,rfl⟩,slot_si_next.lookup,?_⟩));have hT0:(s.heap.push { cls:=.type "tuple",data:=.seq (ys.map λ(i:Nat)=>rawInt i).toArray }).get? s.heap.objs.size=some { cls:=.type "tuple",data:=.seq (ys.map λ(i:Nat)=>rawInt i).toArray }:=Heap.get?_push_size _ rfl;have sz:(s.heap.push { cls:=.type "tuple",data:=.seq (ys.map λ(i:Nat)=>rawInt i).toArray }).objs.size=s.heap.objs.size+1:=size_push' _ _;have mem:∀j∈ys,j<es.size:=λj hj=>by have:=hp.mem_iff.mp hj;simpa using this
  refine fin _ (ys.map λj=>(es.toList.map (·.2)).getD j .none) _ ?_ ⟨_,_,N5 (T:=s.heap.objs.size) (o:=o) hh ?_ ?_ hd hf rfl rfl _ ?_ ?_,⟨⟨_,Heap.get?_push_size _ rfl,rfl,?_⟩,Heap.get?_push_of_some _ ho1,Heap.get?_push_of_some _ hT0⟩,?_,?_,?_,rfl⟩
  ·refine(hp.map _).trans (List.Perm.of_eq ?_);apply vo
   ·simp
   ·intro i h1 h2;simp at h1;simp[h1]
  ·rw[sz];exact wW (vz la)
  ·rw[sz];exact wW (vb _)
  ·intro i hi;simp at hi;have hj:=mem ys[i] (vK hi);refine⟨ys[i],es[ys[i]].1,?_,?_⟩
   ·simp[hi,rawInt]
   ·simp[hj]
  ·simp
  ·rfl
  ·rw[sz];omega
  ·intro b hb';simp[sz]at hb';rcases hb' with rfl|rfl|rfl
   ·exact .inr (Nat.le_succ _)
   ·exact .inl rfl
   ·exact .inr (wG _)
  ·exact λb o e=>Heap.get?_push_of_some _ (Heap.get?_push_of_some _ e)
 ·rw[if_neg c];refine uP (uQ ?_);refine uP (wpAny_setEpoch_of (o:=o) ho hd hf ?_);refine uP (wpAny_newObj_type (uQ ⟨_,rfl,"set_iterator",_,⟨_,Heap.get?_push_size _ rfl,rfl⟩,slot_si_next.lookup,?_⟩));have pl:t.place.size=es.size:=by
   simp only[SetTable.fits,wF,beq_iff_eq]at hf;exact hf.1
  cases hm:QM w with
  |true=>
   have pm:=Z9 (w.params.setOrder a ep) es;refine fin _ ((pickOrder (w.params.setOrder a ep) es).toList.map (·.2)) _ (pm.map _) ⟨_,_,C2 (o:=o) hh (wW la) hd hf rfl _ (λ_=>0) ?_ ?_,⟨⟨_,Heap.get?_push_size _ rfl,rfl,rfl⟩,Heap.get?_push_of_some _ ho⟩,wG _,?_,?_,rfl⟩
   ·intro i hi s ho A E R hR;refine B7 hm ho hd hf ?_;simp at hi;simpa [hi] using hR
   ·intro s ho A E R hR;refine B7 hm ho hd hf ?_;simpa using hR
   ·intro b hb';simp at hb';rcases hb' with rfl|rfl
    ·exact .inr (wG _)
    ·exact .inl rfl
   ·exact λb o e=>Heap.get?_push_of_some _ e
  |false=>
   rw[hm]at c gd;have c':(!t.plain&&decide (es.size>1))=false:=by simpa using c
   have gl:=gd.led rfl;have hsl:∀i,i<=es.size->SetTable.below t.place (if i=0 then 0 else t.place.getD (i-1) 0+1)=i:=by
    intro i hi;split
    ·rename_i e;rw[e];exact Y3 gd.rise
    ·rw[V7 gd.rise (by omega)];omega
   refine fin _ (es.toList.map (·.2)) _ (.refl _) ⟨_,_,C2 (o:=o) hh (wW la) hd hf rfl _ (λi=>if i=0 then 0 else t.place.getD (i-1) 0+1) ?_ ?_,⟨⟨_,Heap.get?_push_size _ rfl,rfl,rfl⟩,Heap.get?_push_of_some _ ho⟩,wG _,?_,?_,rfl⟩
   ·intro i hi s ho A E R hR;refine JG hm ho hd hf gl c' ?_;simp at hi;rw[hsl i (by omega)];have:i<t.place.size:=by omega
    simpa [hi,this] using hR
   ·intro s ho A E R hR;refine JG hm ho hd hf gl c' ?_;rw[hsl _ (by simp)];simpa using hR
   ·intro b hb';simp at hb';rcases hb' with rfl|rfl
    ·exact .inr (wG _)
    ·exact .inl rfl
   ·exact λb o e=>Heap.get?_push_of_some _ e
theorem qA2{Q:Bool->Shared->Prop}(hT:s.TypeIs (.ref a) "set")(h:Q false s):wpAny (model P w) A (Builtin.List.listLengthHint (.ref a)) Q E s:=by
 unfold Builtin.List.listLengthHint;refine uP (wpAny_specialOf hT F.slot_set_len.lookup ?_);generalize hid:("set.__len__":String)=id0
 wp_delta
 rw[show splitId id0=some ("set","__len__") from by subst hid;decide +kernel];subst hid;refine uP (wpAny_isInstance (T:="set") (b:=true) hT (by rw[isSubtype_type];kernel_rfl) ?_);refine wpAny_ite_split (λhab=>absurd hab (by decide)) (λ_=>?_);refine wpAny_ite_split (λ_=>?_) (λhab=>absurd (by decide +kernel) hab);refine uP (wpAny_typeOf hT ?_);exact uQ h
theorem qBK{acc:Array Value}{vs:List Value}(h:ItemsOf (λi v=>vs[i]?=some v) acc vs.length):acc.toList=vs:=by
 apply vo
 ·rw[we];exact h.1
 ·intro i h1 h2;have:=h.2 i acc.toList[i] (by rw[<-Array.getElem?_toList];exact wD h1);exact Option.some.inj ((this:vs[i]?=_).symm.trans (wD h2))
theorem K8{R:List Value->Shared->Prop}(hh:A.handled=none)(ho:s.heap.get? a=some o)(hx:o.ExactSet)(hd:o.data=.set es ep t)(hf:t.fits es.size=true)(hb:es.size<scanBound)(gd:jf t (QM w))
  (h:∀(h':Heap) (tk:Nat) (d:Drawn) (vs:List Value),(∀b o,s.heap.get? b=some o->h'.get? b=some o)->s.heap.objs.size<h'.objs.size->vs.Perm (es.toList.map (·.2))->R vs { s with heap:=h',toks:=tk,drawn:=d }):
  wpAny (model P w) A (collect (.ref a)) R E s:=by
 have la:=Heap.lt_size ho;unfold collect;refine uP (wpAny_runValue (codeAny_builtin entry_proto_collect' ?_));rw[Around.under_plainId F.plain_proto_collect _];show wpAny _ A.in1 (newList [] >>=λl=>again (.builtin "list.__iadd__" ⟨[l,.ref a],[]⟩)) _ _ s;refine uP (wpAny_newObj_type ?_);refine uQ ⟨plainId_quiet F.plain_list_iadd _,codeAny_builtin entry_list_iadd' ?_⟩;rw[Around.under_plainId F.plain_list_iadd _];have hS₁:(s.heap.push { cls:=.type "list",data:=.seq ([]:List Value).toArray }).get? s.heap.objs.size=some { cls:=.type "list",data:=.seq #[] }:=Heap.get?_push_size _ rfl;have ho1:(s.heap.push { cls:=.type "list",data:=.seq ([]:List Value).toArray }).get? a=some o:=Heap.get?_push_of_some _ ho;show wpAny _ A.in1 (Builtin.List.listExtendWith (.ref s.heap.objs.size) (.ref a) (.ref s.heap.objs.size)) _ _ _;have hT:Shared.TypeIs { s with heap:=s.heap.push { cls:=.type "list",data:=.seq ([]:List Value).toArray } } (.ref a) "set":=⟨o,ho1,hx.1⟩
 have neS:s.heap.objs.size≠a:=vy la;have zS:=size_push' s.heap { cls:=.type "list",data:=.seq ([]:List Value).toArray };have old:∀b o,s.heap.get? b=some o->(s.heap.push { cls:=.type "list",data:=.seq ([]:List Value).toArray }).get? b=some o/\b≠s.heap.objs.size:=λb o e=>⟨Heap.get?_push_of_some _ e,wW (Heap.lt_size e)⟩
 generalize s.heap.objs.size=S at *;unfold Builtin.List.listExtendWith;refine uP (wpAny_typeOf hT ?_);have h1:Builtin.List.listSameRef (.ref S) (.ref a)=false:=by simp[Builtin.List.listSameRef,neS]
 simp only[h1,show (Value.type "set"==Value.type "list")=false by decide,show (Value.type "set"==Value.type "tuple")=false by decide,Bool.or_false,vJ,if_false];refine uP (qA0 A.in1 hh ho1 hx hd hf hb gd λI vs s1 pm way=>?_);obtain⟨fp,St,W,st,hI,hfp,k1,e1⟩:=way;have hSf:S∉fp:=λz=>(hfp S z).elim neS λq=>by
  have:S+1<=S:=by rw[<-zS];exact q
  exact absurd this (Nat.not_succ_le_self _)
 have hSI:S≠I:=λz=>by
  have:S+1<=S:=by rw[<-zS];exact z ▸ hI
  exact absurd this (Nat.not_succ_le_self _)
 have hT1:s1.TypeIs (.ref a) "set":=⟨o,k1 _ _ ho1,hx.1⟩
 have S1:=k1 _ _ hS₁;have hn:vs.length<=sizeLine:=by rw[pm.length_eq,wQ,we];exact wN (vD hb) (by decide)
 refine uP (wpAny_holding (qA2 hT1 ?_));have key:∀(s2:Shared) (c₁:Nat),St 0 s2->(∀b o,b≠S->s1.heap.get? b=some o->s2.heap.get? b=some o)->s2={ s1 with heap:=s2.heap } ->
   s2.heap.get? S=some { cls:=.type "list",data:=.seq #[] c₁ } ->
   codeAny (model P w) A (.builtin "list.extend.loop" ⟨[.ref S,.ref I,.ref S],[]⟩) (λq s'=>q=.ok (.ret (.ref S))/\∃(h':Heap) (tk:Nat) (d:Drawn) (c':Nat),s'={ s with heap:=h',toks:=tk,drawn:=d }/\(∀b o,s.heap.get? b=some o->h'.get? b=some o)/\h'.get? S=some { cls:=.type "list",dict:=none,data:=.seq vs.toArray c',slots:=#[] }) s2:=by
  intro s2 c₁ hst hk es2 hS2;refine codeAny_extend_loopS W hn S hSf (.ref S) vs.length 0 _ #[] c₁ rfl (vI _) hst hS2 (ItemsOf.nil _) λs' acc' c' hm hS' hacc=>⟨rfl,s'.heap,s'.toks,s'.drawn,c',?_,λb o e=>?_,?_⟩
  ·rw[Moved.eq_with hm,es2,e1]
  ·refine hm.heap b o (λz=>?_) (hk b o (old b o e).2 (k1 b o (old b o e).1));rcases wI.mp z with z|z
   ·exact(old b o e).2 z
   ·have z:=wU.mp z;subst z;exact absurd (wK (Heap.lt_size (old _ o e).1) hI) (wn _)
  ·rw[<-qBK hacc];simpa using hS'
 refine wpAny_ite_split (λ_=>?_) (λ_=>?_)
 ·refine uP (wpAny_rule ?_);refine uP ?_;show wpAny _ _ (updateSeq S (·.push .none) >>=λ_=>updateSeq S (·.pop)) _ _ _;refine uP (wpAny_updateSeq S1 rfl ?_);have hS₂:=Heap.get?_update_self (Obj.mapSeq (·.push Value.none)) S1 rfl;refine wpAny_updateSeq (hz:=by seq_fits) hS₂ rfl ?_;have hS₃:=Heap.get?_update_self (Obj.mapSeq (·.pop)) hS₂ rfl;have up:∀b o,b≠S->s1.heap.get? b=some o->((s1.heap.update S (Obj.mapSeq (·.push Value.none))).update S (Obj.mapSeq (·.pop))).get? b=some o:=
   λb o hbS e=>(Heap.get?_update_other _ _ (Ne.symm hbS)).trans ((Heap.get?_update_other _ _ (Ne.symm hbS)).trans e)
  refine uQ ⟨plainId_quiet F.plain_extend_loop _,codeAny_mono (key _ _ (W.frame 0 s1 _ s1.toks st (wG _) λb hb' o e=>up b o (λh=>hSf (h ▸ hb')) e) up rfl hS₃) λq s' x=>?_⟩;obtain⟨rfl,h',tk,d,c',rfl,hk,hS'⟩:=x;show wpAny _ A (load S >>=_) _ _ _;refine uP (wpAny_load hS' ?_);exact uQ (h h' tk d vs hk (Heap.lt_size hS') pm)
 ·refine uQ ⟨plainId_quiet F.plain_extend_loop _,codeAny_mono (key _ 0 st (λb o _ e=>e) rfl S1) λq s' x=>?_⟩;obtain⟨rfl,h',tk,d,c',rfl,hk,hS'⟩:=x;show wpAny _ A (load S >>=_) _ _ _;refine uP (wpAny_load hS' ?_);exact uQ (h h' tk d vs hk (Heap.lt_size hS') pm)
theorem y4(k:Int):∀(L acc:List Int),k∈L.foldl step_dedup acc↔k∈acc\/k∈L:=by
 intro L
 induction L with
 |nil=>intro acc;simp
 |cons x L ih=>
  intro acc;rw[List.foldl_cons,ih];unfold step_dedup;split
  ·rename_i q;obtain⟨y,hy,e⟩:=uH.mp q;have:y=x:=by simpa using e
   subst this;simp only[wI];exact⟨λz=>z.elim .inl λz=>.inr (.inr z),λz=>z.elim .inl λz=>z.elim (λz=>.inl (z ▸ hy)) .inr⟩
  ·simp only[wJ,wI,wX,or_false,or_assoc]
theorem J0:∀(L acc:List Int),acc.Nodup->(L.foldl step_dedup acc).Nodup:=by
 intro L
 induction L with
 |nil=>intro acc h;exact h
 |cons x L ih=>
  intro acc h;rw[List.foldl_cons];refine ih _ ?_;unfold step_dedup;split
  ·exact h
  ·rename_i q;rw[vH];refine⟨h,by simp,λy hy z hz=>?_⟩;have hz:z=x:=by simpa using hz
   subst hz;intro e;exact q (uH.mpr ⟨y,hy,by simp[e]⟩)
theorem uniq_mem{k:Int}{L:List Int}:k∈uniq L↔k∈L:=by unfold uniq;rw[y4];simp
theorem W7(L:List Int):(uniq L).Nodup:=J0 L [] vi
theorem Qi(L:List Int):firstMet (λi=>L.getD i 0) L.length=uniq L:=by
 unfold firstMet uniq;congr 1;apply vo
 ·simp
 ·intro i h1 h2;simp at h1;simp[h1]
theorem G9{α:Type}[DecidableEq α]{l k:List α}(hl:l.Nodup)(hs:∀x∈l,x∈k)(hn:k.length<=l.length):k.Perm l:=by
 induction l generalizing k with
 |nil=>
  have:k=[]:=vc (by simpa using hn);subst this;exact .nil
 |cons x l ih=>
  obtain⟨h1,h2⟩:=vX.mp hl;have hx:=hs x (wO);have p:=List.perm_cons_erase hx;refine p.trans (List.Perm.cons x (ih h2 (λy hy=>?_) ?_))
  ·have:y≠x:=λe=>h1 (e ▸ hy);exact(List.mem_erase_of_ne this).mpr (hs y (wH _ hy))
  ·rw[List.length_erase_of_mem hx];simp at hn;omega
theorem U9{L:List Int}{Q:Value->Shared->Prop}(hh:A.handled=none)(g:SetG P w (QM w) s.heap a (qAU (λi=>L.getD i 0) L.length) (uniq L).length)(h64:L.length<64)
  (h:∀(D:Addr) (h':Heap) (tk:Nat) (d:Drawn) (out:Array Value) (ns:List Int) (e:Nat),IntsAre out.toList ns->ns.Perm (uniq L)->ns.Pairwise (·<=·)->s.heap.objs.size<=D->h'.get? D=some (seqObj "list" out e) ->
   (∀b o,s.heap.get? b=some o->h'.get? b=some o)->Q (.ref D) { s with heap:=h',toks:=tk,drawn:=d }):
  wpAny (model P w) A (call (.builtin "sorted") [.ref a]) Q E s:=by
 obtain⟨o,es,ep,t,ho,hx,hd,hel,hmem,hb,hf,hn,gd⟩:=g;refine Calls.call_function_entry kind_sorted plain_sorted entry_sorted (args_sorted1 _) ?_;unfold Builtin.«sorted»;refine uP (m:=checkCount "sorted" 1 1 _) (uQ ?_);refine uP (K8 (A:=A.in1) hh ho hx hd hf hb gd λh' tk d vs hk hlt pm=>?_);have un:(uniq L).length<=L.length:=by rw[<-Qi];exact firstMet_length_le _ _
 have hvl:vs.length=(uniq L).length:=by rw[pm.length_eq,wQ,we,hn]
 have intv:∀v∈vs,∃k tt,v=Value.int k tt:=λv hv=>by
  obtain⟨e,he,rfl⟩:=vM.mp (pm.mem_iff.mp hv);obtain⟨⟨k,hk,_⟩,_⟩:=hel e he;obtain⟨tt,q⟩:=Value.isInt_shape hk;exact⟨k,tt,q⟩
 have ex:∃zs:List Int,IntsAre vs zs/\∀k tt,Value.int k tt∈vs->k∈zs:=by
  clear pm hvl
  induction vs with
  |nil=>exact⟨[],.nil,λ_ _ z=>by simp at z⟩
  |cons v vs ih=>
   obtain⟨k,tt,rfl⟩:=intv _ (wO);obtain⟨zs,z1,z2⟩:=ih λv hv=>intv v (wH _ hv);exact⟨k::zs,.cons k tt z1,λk' tt' z=>(wI.mp z).elim (λz=>by cases z;exact wO) λz=>wH _ (z2 _ _ z)⟩
 obtain⟨zs,hI,hz⟩:=ex;have pz:zs.Perm (uniq L):=by
  refine G9 (W7 L) (λk hk=>?_) (by rw[<-IntsAre.length hI,hvl];exact wG _);have:qAU (λi=>L.getD i 0) L.length k=true:=by
   unfold qAU;rw[Qi];exact uH.mpr ⟨k,hk,by simp⟩
  obtain⟨e,he,q⟩:=(hmem k).mp this;obtain⟨tt,q⟩:=Value.isInt_shape q;exact hz k tt (pm.mem_iff.mpr (vM.mpr ⟨e,he,q⟩))
 refine uP (wpAny_newList ?_ (by rw[hvl,sizeLine_eq];omega));have hoL:(h'.push (seqObj "list" vs.toArray 0)).get? h'.objs.size=some (seqObj "list" vs.toArray 0):=Heap.get?_push_size _ rfl;refine uP (wpAny_holding (wpAny_call_entry slot_list_sort ⟨_,hoL,rfl⟩ entry_list_sort (list_sort_tree hoL hI (by rw[hvl];omega) λout ns' a1 a2 a3=>⟨_,rfl,?_⟩) (args_list_sort _)));refine uQ ⟨_,rfl,?_⟩;obtain⟨e,he⟩:=sortedHeap_at (vs:=vs) (out:=out) hoL;refine h _ _ tk d out ns' e a1 (a2.trans pz) a3 (vD hlt) he λb o e=>?_;have lb:=Heap.lt_size (hk b o e);rw[sortedHeap_old (wW lb) (by rw[size_push'];exact vz lb)];exact Heap.get?_push_of_some _ (hk b o e)
end
def qAD(P:Program)(w:World)(a:Addr)(L:List Int):Heap->Prop:=λh=>SetG P w (QM w) h a (qAU (λi=>L.getD i 0) L.length) (uniq L).length
theorem g7{X:Cx}{pins:List (Addr×Obj)}{σ:List (Option V)}{H:Hp}{s:Shared}(I:Inv X pins σ H s)(d:Drawn):Inv X pins σ H { s with drawn:=d }:=
 ⟨I.ok,I.os,I.bare,I.base,I.loc,I.cell,I.free,I.freeC,I.pin,I.hok,I.len⟩
section
variable{X:Cx}
theorem V3(hc:X.calm=true):zI X (.type "set") (λxs H Q=>∃p,∃is:List Int,xs=[.ref p]/\SqL X.K H p (is.map V.int)/\is.length<64/\∀l,H l=none->Q (.ref l) (upd H l (.ext (qAD X.prog X.w l is)))):=by
 intro pins s σ H xs us Q I r ⟨p,is,e,hp,hj,q⟩;subst e;obtain⟨u,rfl,ru⟩:=_L.vals1 r;cases ru;obtain⟨its,rv',pl,_⟩:=I.list hp;have hi:IntsAre its is:=_L.intsAre_of rv';have hl:its.length=is.length:=IntsAre.length hi;refine G7 (its:=its.toArray) (ns:=is) (I.ok.hd hc) pl.isList (by simpa using hi) (by simp[scanBound];omega) λh' tk hS hk=>?_;obtain⟨o,es,ep,t,ho,rst⟩:=id hS;refine⟨.ref s.heap.objs.size,_,I.laid (t':=tk) (λb o' e=>hk b o' (Heap.lt_size e) e) (wG _) ?_,rfl,q _ (I.hok.fresh (wG _))⟩;refine⟨?_,⟨o,ho⟩,λh1 h2 g k=>?_⟩
 ·unfold qAD;rw[<-Qi,<-hl];simpa using hS
 ·exact SetG.at g λo e=>k o e
theorem J8(hc:X.calm=true):zI X (.builtin "sorted") (λxs H Q=>∃p,∃L:List Int,xs=[.ref p]/\H p=some (.ext (qAD X.prog X.w p L))/\L.length<64/\∀l,H l=none->Q (.ref l) (upd H l (.lst ((jy (uniq L)).map V.int)))):=by
 intro pins s σ H xs us Q I r ⟨p,L,e,hp,hj,q⟩;subst e;obtain⟨u,rfl,ru⟩:=_L.vals1 r;cases ru;have g:qAD X.prog X.w p L s.heap:=(I.hok p _ hp).1;have un:(uniq L).length<=L.length:=by rw[<-Qi];exact firstMet_length_le _ _
 refine U9 (I.ok.hd hc) g hj λD h' tk d out ns e a1 a2 a3 hD hat hk=>?_;have e1:ns=jy (uniq L):=O2 a3 (Q0 _) (a2.trans (jL _).symm);subst e1;have hl:=(jL (uniq L)).length_eq;refine⟨.ref D,_,(g7 I d).laid (t':=tk) (o:=.lst ((jy (uniq L)).map V.int)) (λb o q=>hk b o q) hD ?_,rfl,q _ (I.hok.fresh hD)⟩;refine⟨by rw[wQ,hl,sizeLine_eq];omega,out.toList,e,jh a1,?_⟩;rw[Array.toArray_toList];exact hat
end
section
variable{X:Cx}{G:List Addr}{F:Nat->List V->AH->RV}{a:E}{ea:Expr}{pos:Pos}
theorem qCF{p p2 pos2:Pos}(hc:X.calm=true)(hg:_L.Gl X "sorted")(hm:X.mg "sorted"=none)(hg2:_L.Gl X "set")(hm2:X.mg "set"=none)(hn:qf ea=true)(ha:SE X G F ea a):
  SE X G F (.Call (.Name "sorted" p) [.Call (.Name "set" p2) [ea] [] pos2] [] pos) (.sset a):=by
 refine zG (_L.pe_callB (J8 hc) hg hm PyProof.Rows.boot_sorted (_L.pa_cons (_L.pe_callTy (V3 hc) hg2 hm2 PyProof.Rows.boot_set (_L.pa_cons ha _L.pa_nil (qH hn)) (by decide) (by decide) (qH hn) rfl) _L.pa_nil rfl) (by decide) (by decide) rfl rfl) λσc H Q q=>?_;obtain⟨φ,h,σ,v,h',R,rs,e,k⟩:=q;unfold ev at e;obtain⟨⟨x,h1⟩,e1,e⟩:=tM e;refine⟨φ,h,σ,x,h1,R,rs,e1,λφ1 H1 w x1 R1 r1=>?_⟩;dsimp only at e;split at e
 ·rename_i q0;split at e
  ·rename_i ys ey;split at e
   ·rename_i is ei;split at e
    ·rename_i hl;cases e;obtain⟨p',rfl,hp⟩:=qL r1;obtain⟨p'',zs,hp',hs,rs'⟩:=R1.lst ey;rw[hp]at hp';cases hp';have hm':=jM ei;subst hm';have hz:=zu (ja is) rs';subst hz;refine⟨p',is,rfl,hs,hl,λl hl'=>⟨l,is,rfl,qE,hl,λl2 hl2=>?_⟩⟩;have R2:=R1.same (QS (o:=.ext (qAD X.prog X.w l is)) hl');exact k (φ1++[l2]) _ _ (x1.trans ⟨[_],rfl⟩) (R2.newL hl2 (E3 (ja _))) R2.lastRef
    ·cases e
   ·cases e
  ·cases e
 ·cases e
end
noncomputable def Itz(K:PySem.W.Frag)(a b:Addr):It:=
 ⟨λi H=>∃xs ys x y,SqL K H a xs/\SqL K H b ys/\xs[i]?=some x/\ys[i]?=some y,
  λi H v H'=>∃p x y,H p=none/\v=.ref p/\H'=upd H p (.tup [x,y])/\(∀xs,SqL K H a xs->xs[i]?=some x)/\∀ys,SqL K H b ys->ys[i]?=some y,
  λi H=>∃xs ys,SqL K H a xs/\SqL K H b ys/\(xs.length<=i\/ys.length<=i)⟩
theorem qDZ{X:Cx}{pins:List (Addr×Obj)}{σ:_L.St}{H:Hp}{s:Shared}{h':Heap}{T:Addr}{xs:List V}{its:List Value}{ch:List Addr}{t':Nat}(I:Inv X pins σ H s)(hf:∀b∈ch,JB X pins H b)
  (hT:s.heap.objs.size<=T) (k:∀b o,b∉ch->s.heap.get? b=some o->h'.get? b=some o) (hp:IsTup h' T its.toArray) (hv:Vals xs its) (hz:xs.length<=sizeLine) (hTc:T∉ch):
  Inv X pins σ (upd H T (.tup xs)) { s with heap:=h',toks:=t' }:=by
 have hn:H T=none:=I.hok.fresh hT;have neT:∀b o,s.heap.get? b=some o->b≠T:=λb o e=>wW (wK (Heap.lt_size e) hT);refine I.step (g':=s.gens) (d':=s.drawn) (ch:=ch) (λb hb=>⟨(hf b hb).2.2.2.1,(hf b hb).2.1,(hf b hb).2.2.2.2.1,(hf b hb).2.2.2.2.2⟩) (λb o _ _ hc e _=>k b o hc e) (λb o _ _ hc e _=>⟨o.slots,k b o hc e⟩)
  (λb o _ e n=>by rw[qG (neT b o e)];exact n) (λb o hc e=>⟨o,k b o hc e⟩) (λb ys e=>by rw[qG (_L.ne_of_none e hn)];exact e) (λb o u e=>by rw[qG (_L.ne_of_none e hn)];exact e)
  (λb ps e=>⟨#[],by rw[qG (_L.ne_of_none e hn),e];simp⟩) (λm hm=>?_) (λb u e=>?_) I.bare
 ·obtain⟨o,es,ep,ho,r⟩:=hm;exact⟨o,es,ep,k _ o (λz=>(hf _ z).2.1 rfl) ho,r⟩
 ·by_cases hb:b=T
  ·subst hb;rw[qE]at e;cases e;exact⟨hz,its,hv,hp⟩
  ·rw[qG hb]at e;have nc:∀c u,H c=some u->c∉ch:=λc u q z=>by rw[(hf c z).1]at q;cases q
   refine(I.hok b u e).stay (λc v hc q=>k c v ?_ q) (λc q=>by rw[qG (_L.ne_of_none q hn)];exact q) λc ys q=>by rw[qG (_L.ne_of_none q hn)];exact q
   rcases hc with z|z
   ·rw[z];exact nc b u e
   ·exact nc c _ z
theorem qAl{P:Program}{w:World}{K:PySem.W.Frag}{elts:List Expr}{kk:Nat}{tpos:Pos}(z TI TO i1 i2 a b:Addr)(D:ZipApart z TI TO i1 i2 a b):
  E5 P w K (.Tuple elts kk tpos) (Itz K a b) [z,TI,TO,i1,i2] z (λi h=>IsZip h z TI TO .none/\IsPair h TI (.ref i1) (.ref i2)/\(∃x y,IsPair h TO x y)/\h.IsListIter i1 a i/\h.IsListIter i2 b i) where
 mem:=by simp
 obj:=λi h st c hc=>by
  obtain⟨h1,h2,⟨x,y,h3⟩,⟨o4,e4,c4,d4⟩,⟨o5,e5,c5,d5⟩⟩:=st;simp only[wI,wX,or_false]at hc;rcases hc with rfl|rfl|rfl|rfl|rfl
  ·exact⟨_,h1,λv q=>by have q':Data.fields _=Data.cell v:=q;cases q'⟩
  ·exact⟨_,h2,λv q=>by have q':Data.seq _ _=Data.cell v:=q;cases q'⟩
  ·exact⟨_,h3,λv q=>by have q':Data.seq _ _=Data.cell v:=q;cases q'⟩
  ·exact⟨o4,e4,λv q=>by rw[d4]at q;cases q⟩
  ·exact⟨o5,e5,λv q=>by rw[d5]at q;cases q⟩
 keep:=λi h h' st k=>by
  obtain⟨h1,h2,⟨x,y,h3⟩,h4,h5⟩:=st;exact⟨k z (by simp) _ h1,k TI (by simp) _ h2,⟨x,y,k TO (by simp) _ h3⟩,h4.at λo e=>k i1 (by simp) o e,h5.at λo e=>k i2 (by simp) o e⟩
 item:=by
  intro X hP hw hK hc i pins s σ H E I hf st hg;subst hP hw hK;obtain⟨xs,ys,x,y,hq1,hq2,hx,hy⟩:=hg;obtain⟨its1,rv1,p1,_⟩:=I.list hq1;obtain⟨its2,rv2,p2,_⟩:=I.list hq2;obtain⟨u,hu,ru⟩:=rv1.get hx;obtain⟨w',hw',rw'⟩:=rv2.get hy;obtain⟨h1,h2,⟨ta,tb,h3⟩,h4,h5⟩:=st;refine wpAny_pyNext_zip_item D h1 h2 h3 h4 h5 p1.isList p2.isList (x:=u) (y:=w') (by simpa using hu) (by simpa using hw') λh' z1 z2 z3 z4 z5 z6 z7=>?_;refine⟨_,rfl,wpAny_letOwnedTupleGo_zip z1 λh'' g1 gs=>?_⟩;have lt:∀c∈[z,TI,TO,i1,i2],c≠s.heap.objs.size:=λc hc=>by
   have ex:∃o,s.heap.get? c=some o:=by
    simp only[wI,wX,or_false]at hc;rcases hc with rfl|rfl|rfl|rfl|rfl
    ·exact⟨_,h1⟩
    ·exact⟨_,h2⟩
    ·exact⟨_,h3⟩
    ·obtain⟨o,e,_⟩:=h4;exact⟨o,e⟩
    ·obtain⟨o,e,_⟩:=h5;exact⟨o,e⟩
   obtain⟨o,e⟩:=ex;exact wW (Heap.lt_size e)
  have up:∀c o,c≠z->h'.get? c=some o->h''.get? c=some o:=λc o hz e=>gs.extBut c o hz e;have kp:∀c o,c∉[z,TI,TO,i1,i2]->s.heap.get? c=some o->h''.get? c=some o:=λc o hn e=>by
   simp only[wI,wX,or_false,not_or]at hn;exact up c o hn.1 (z7 c o hn.1 hn.2.2.1 hn.2.2.2.1 hn.2.2.2.2 e)
  have ht:IsTup h'' s.heap.objs.size #[u,w']:=⟨_,up _ _ (Ne.symm (lt z (by simp))) z5,rfl,_,rfl⟩
  have I1:=qDZ (t':=s.toks) (xs:=[x,y]) (its:=[u,w']) I hf (wG _) kp ht (.cons ru (.cons rw' .nil)) (by show 2<=sizeLine;decide) (λq=>lt _ q rfl);refine⟨.ref s.heap.objs.size,_,I1,rfl,⟨s.heap.objs.size,x,y,I.hok.fresh (wG _),rfl,rfl,λzs hz=>by rw[I.list_inj hz hq1];exact hx,λzs hz=>by rw[I.list_inj hz hq2];exact hy⟩,
   ⟨g1,up _ _ D.TIz (z7 TI _ D.TIz D.TITO D.TIi1 D.TIi2 h2),⟨_,_,up _ _ D.TOz z2⟩,z3.at λo e=>up _ o D.i1z e,z4.at λo e=>up _ o D.i2z e⟩,λc hc=>?_⟩
  rw[qG (lt c hc)];exact(hf c hc).1
 done:=by
  intro X hP hw hK hc i pins s σ H E I hf st hg;subst hP hw hK;obtain⟨xs,ys,hq1,hq2,hl⟩:=hg;obtain⟨its1,rv1,p1,_⟩:=I.list hq1;obtain⟨its2,rv2,p2,_⟩:=I.list hq2;obtain⟨h1,h2,⟨ta,tb,h3⟩,h4,h5⟩:=st;have n1:=rv1.length;have n2:=rv2.length;refine wpAny_pyNext_zip_end (I.ok.hd hc) D h1 h2 h3 h4 h5 p1.isList p2.isList ?_ λh' z7=>⟨rfl,?_⟩
  ·rcases hl with hl|hl
   ·left;simp;omega
   ·right;simp;omega
  ·have kp:∀c o,c∉[z,TI,TO,i1,i2]->s.heap.get? c=some o->h'.get? c=some o:=λc o hn e=>by
    simp only[wI,wX,or_false,not_or]at hn;exact z7 c o hn.1 hn.2.2.1 hn.2.2.2.1 hn.2.2.2.2 e
   refine I.step (g':=s.gens) (d':=s.drawn) (t':=s.toks) (ch:=[z,TI,TO,i1,i2]) (λb hb=>⟨(hf b hb).2.2.2.1,(hf b hb).2.1,(hf b hb).2.2.2.2.1,(hf b hb).2.2.2.2.2⟩) (λb o _ _ hc e _=>kp b o hc e) (λb o _ _ hc e _=>⟨o.slots,kp b o hc e⟩)
    (λb o _ e n=>n) (λb o hc e=>⟨o,kp b o hc e⟩) (λb ys e=>e) (λb o u e=>e) (λb ps e=>⟨#[],by rw[e];simp⟩) (λm hm=>?_) (λb u e=>?_) I.bare
   ·obtain⟨o,es,ep,ho,r⟩:=hm;exact⟨o,es,ep,kp _ o (λz=>(hf _ z).2.1 rfl) ho,r⟩
   ·have nc:∀c u,H c=some u->c∉[z,TI,TO,i1,i2]:=λc u q z=>by rw[(hf c z).1]at q;cases q
    refine(I.hok b u e).stay (λc v hc q=>kp c v ?_ q) (λc q=>q) λc ys q=>q;rcases hc with z|z
    ·rw[z];exact nc b u e
    ·exact nc c _ z
 self:=λ_ _ _ _ _ st h=>wpAny_pyIter_zip st.1 h
noncomputable def qIi(K:PySem.W.Frag)(ta:TA):_L.TI:=λσ H R=>ta σ H λvs H1=>∃a b,vs=[.ref a,.ref b]/\(∃xs,SqL K H1 a xs)/\(∃ys,SqL K H1 b ys)/\R (Itz K a b) H1
theorem qEw{X:Cx}{ea eb:Expr}{ta:TA}{p pos tpos:Pos}{elts:List Expr}{kk:Nat}(hg:_L.Gl X "zip")(hm:X.mg "zip"=none)(ha:PA X [ea,eb] ta)(h1:qf ea=true)(h2:qf eb=true):
  _L._P X (.Tuple elts kk tpos) (.Call (.Name "zip" p) [ea,eb] [] pos) (qIi X.K ta):=by
 intro pins s σ H R I h;refine Call_ (_L.ld_blt I hg hm PyProof.Rows.boot_zip (PyProof.Rows.callWith_type1 (_L.thn (ha pos pins s σ H _ I h) λus s1 ⟨vs,H1,I1,r1,q1⟩=>?_) (qH h1) (Qa (by simp[h2]))));obtain⟨a,b,e,⟨xs,hq1⟩,⟨ys,hq2⟩,q⟩:=q1;subst e;cases r1 with
 |cons r rr=>
  cases rr with
  |cons r' rr=>
   cases rr;cases r;cases r';obtain⟨its1,rv1,p1,_⟩:=I1.list hq1;obtain⟨its2,rv2,p2,_⟩:=I1.list hq2;have a1:a<s1.heap.objs.size:=by obtain⟨_,e,_⟩:=p1.isList;exact Heap.lt_size e
   have a2:b<s1.heap.objs.size:=by obtain⟨_,e,_⟩:=p2.isList;exact Heap.lt_size e
   refine call_zip_2 p1.isList p2.isList λh' hz hTI hTO hi1 hi2 _ hk=>?_;refine wpAny_pyIter_zip hz ?_;have I2:Inv X pins σ H1 { s1 with heap:=h' }:=I1.kept (t':=s1.toks) hk;refine⟨_,_,_,_,H1,rfl,I2,qAl _ _ _ _ _ a b (zipApart_new a1 a2),⟨hz,hTI,⟨_,_,hTO⟩,hi1,hi2⟩,λc hc=>?_,q⟩;have hge:s1.heap.objs.size<=c:=by
    simp only[wI,wX,or_false]at hc;rcases hc with rfl|rfl|rfl|rfl|rfl
    ·exact uI _ 4
    ·exact uI _ 2
    ·exact uI _ 3
    ·exact wG _
    ·exact uI _ 1
   exact I1.fpOk hge (I1.hok.fresh hge)
abbrev Tu(h:Heap)(T:Addr)(vs:Array Value):Prop:=h.get? T=some { cls:=.type "tuple",data:=.seq vs }
section
variable{P:Program}{w:World}{A:Around}{E:Value->Shared->Prop}{s:Shared}{z ti to i1 i2 i3 a b c:Addr}{f0:Value}{k1 k2 k3:Nat}{xs ys us:Array Value}{p q r:Value}
def Kp(z to i1 i2 i3:Addr)(h g:Heap):Prop:=g.objs.size=h.objs.size/\∀c o,c∉[z,to,i1,i2,i3]->h.get? c=some o->g.get? c=some o
theorem Kp.step{h g g':Heap}{d:Addr}(k:Kp z to i1 i2 i3 h g)(hd:d∈[z,to,i1,i2,i3])(e:Heap.SameBut d g g'):Kp z to i1 i2 i3 h g':=
 ⟨by rw[e.1,k.1],λc o hc ho=>e.extBut c o (λx=>hc (x ▸ hd)) (k.2 c o hc ho)⟩
end
noncomputable def zz(ti to:Addr):Obj:={ cls:=.type "zip",data:=.fields #[.none,.bool false,.bool false,.ref ti,.ref to] }
open _L (PGs TG TGs Itl Itt Y8)
section
variable (K:PySem.W.Frag)(G:List Addr)
noncomputable def tG(g:Tg):TG:=λv σc H Q=>∃φ h σ w σ',Rl K G φ h H/\rst φ σ σc/\rv φ w v/\store g w σ h=some σ'/\∀σc',rst φ σ' σc'->Q σc' H
noncomputable def tGs(is:List Nat):TGs:=λvs σc H Q=>∃φ σ ws σ',rst φ σ σc/\rvs φ ws vs/\JI is ws σ=some σ'/\∀σc',rst φ σ' σc'->Q σc' H
end
section
variable{X:Cx}{G:List Addr}{F:Nat->List V->AH->RV}
theorem qDu{e:Expr}{t t':TG}(h:PG X e t)(w:∀v σ H Q,t' v σ H Q->t v σ H Q):PG X e t':=λpins s σ H v u Q I r q=>h pins s σ H v u Q I r (w v σ H Q q)
theorem qBW{e:List Expr}{t t':TGs}(h:PGs X e t)(w:∀v σ H Q,t' v σ H Q->t v σ H Q):PGs X e t':=λpins s σ H v u Q I r q=>h pins s σ H v u Q I r (w v σ H Q q)
variable (X G) in
abbrev SG(e:Expr)(g:Tg):Prop:=PG X e (tG X.K G g)
theorem i7{i:Nat}{x:Str}{pos:Pos}(hN:X.N.Nodup)(hi:X.N[i]?=some x)(hx:_L.Loc X.env.scope x)(hf:X.fn x=true\/X.env.scope.names.lookup x=some .local):SG X G (.Name x pos) (.name i):=by
 refine qDu (_L.pg_name hN hi hx hf) λv σc H Q q=>?_;obtain⟨φ,h,σ,w,σ',R,rs,r,e,k⟩:=q;unfold store at e;cases e;exact k _ (jI (R:=ropt φ) (show ropt φ (some w) (some v) from⟨v,rfl,r⟩) i rs)
theorem qCH:PGs X [] (tGs []):=by
 refine qBW _L.pgs_nil λvs σc H Q q=>?_;obtain⟨φ,σ,ws,σ',rs,r,e,k⟩:=q;cases ws with
 |nil=>
  cases r;cases e;exact⟨rfl,k _ rs⟩
 |cons _ _=>cases e
theorem qA1{i:Nat}{is:List Nat}{x:Str}{pos:Pos}{es:List Expr}(hN:X.N.Nodup)(hi:X.N[i]?=some x)(hx:_L.Loc X.env.scope x)(hf:X.fn x=true\/X.env.scope.names.lookup x=some .local)(hs:PGs X es (tGs is)):
  PGs X (.Name x pos::es) (tGs (i::is)):=by
 refine qBW (_L.pgs_cons (_L.pg_name hN hi hx hf) hs rfl) λvs σc H Q q=>?_;obtain⟨φ,σ,ws,σ',rs,r,e,k⟩:=q;cases ws with
 |nil=>cases e
 |cons w ws=>
  cases r with
  |cons r1 rr=>exact⟨_,_,rfl,φ,_,ws,σ',jI (R:=ropt φ) (show ropt φ (some w) (some _) from⟨_,rfl,r1⟩) i rs,rr,e,k⟩
theorem JR:∀{is:List Nat}{xs:List V}{σ σ':St},JI is xs σ=some σ'->xs.length=is.length
 | [],[],_,_,_=>rfl
 | [],_::_,_,_,e=>by cases e
 |_::_,[],_,_,e=>by cases e
 |i::is,x::xs,σ,σ',e=>by
  have:=JR (show JI is xs _=some σ' from e);simp[this]
theorem qE4{is:List Nat}{es:List Expr}{k:Nat}{pos:Pos}(hc:X.calm=true)(h:PGs X es (tGs is))(hn:(assignEach es X.env).length=is.length)(hst:(assignEach es X.env).findIdx? (·.1)=none):SG X G (.Tuple es k pos) (.tup is):=by
 refine qDu (_L.pg_tup hc h hn hst) λv σc H Q q=>?_;obtain⟨φ,h,σ,w,σ',R,rs,r,e,k⟩:=q;cases w with
 |ref a=>
  unfold store at e;dsimp only at e;split at e
  ·rename_i xs ex;obtain⟨p,zs,hp,hs,rz⟩:=R.tup ex;obtain⟨q,rfl,hq⟩:=qL r;rw[hp]at hq;cases hq;exact⟨_,zs,rfl,hs,by rw[<-Paired.length rz];exact JR e,φ,σ,xs,σ',rs,rz,e,k⟩
  ·cases e
 |_=>cases e
def IsJ(K:PySem.W.Frag)(φ:List Addr):Src->It->Prop
 | .list p,J=>∃a,φ[p]?=some a/\J=Itl K a
 | .tupl p,J=>∃a,φ[p]?=some a/\J=Itt K a
 | .rng lo n,J=>J=_L.Itr lo n
 | .zip p q,J=>∃a b,φ[p]?=some a/\φ[q]?=some b/\J=Itz K a b
theorem IsJ.mono{K:PySem.W.Frag}{φ φ':List Addr}(x:Ext φ φ'):∀{s:Src}{J:It},IsJ K φ s J->IsJ K φ' s J
 | .list _,_,⟨a,h,e⟩=>⟨a,x.get h,e⟩
 | .tupl _,_,⟨a,h,e⟩=>⟨a,x.get h,e⟩
 | .rng _ _,_,e=>e
 | .zip _ _,_,⟨a,b,h,g,e⟩=>⟨a,b,x.get h,x.get g,e⟩
section
variable{K:PySem.W.Frag}{φ:List Addr}{h h1:AH}{H H':Hp}{s:Src}{J:It}{i:Nat}{x v:V}
theorem IsJ.stop(j:IsJ K φ s J)(R:Rl K G φ h H)(e:QT h i s=true):J.stop i H:=by
 cases s with
 |list p=>
  obtain⟨a,ha,rfl⟩:=j;unfold QT at e;dsimp only at e;split at e
  ·rename_i xs ex;obtain⟨q,zs,hq,hs,rz⟩:=R.lst ex;rw[ha]at hq;cases hq;exact⟨zs,hs,by rw[<-Paired.length rz];exact uU e⟩
  ·cases e
 |tupl p=>
  obtain⟨a,ha,rfl⟩:=j;unfold QT at e;dsimp only at e;split at e
  ·rename_i xs ex;obtain⟨q,zs,hq,hs,rz⟩:=R.tup ex;rw[ha]at hq;cases hq;exact⟨zs,hs,by rw[<-Paired.length rz];exact uU e⟩
  ·cases e
 |rng lo n=>
  cases j;show n<=i;exact uU e
 |zip p q=>
  obtain⟨a,b,ha,hb,rfl⟩:=j;unfold QT at e;dsimp only at e;split at e
  ·rename_i xs ys ex ey;obtain⟨a',zs,hq,hs,rz⟩:=R.lst ex;obtain⟨b',ws,hq',hs',rz'⟩:=R.lst ey;rw[ha]at hq;cases hq;rw[hb]at hq';cases hq';exact⟨zs,ws,hs,hs',by rw[<-Paired.length rz,<-Paired.length rz'];exact uU e⟩
  ·cases e
theorem IsJ.go(j:IsJ K φ s J)(R:Rl K G φ h H)(e:zU h i s=some (x,h1)):J.go i H:=by
 cases s with
 |list p=>
  obtain⟨a,ha,rfl⟩:=j;unfold zU at e;dsimp only at e;split at e
  ·rename_i xs ex;obtain⟨y,ey,e2⟩:=wA.mp e;obtain⟨q,zs,hq,hs,rz⟩:=R.lst ex;rw[ha]at hq;cases hq;obtain⟨z,hz,_⟩:=qQ rz ey;exact⟨zs,z,hs,hz⟩
  ·cases e
 |tupl p=>
  obtain⟨a,ha,rfl⟩:=j;unfold zU at e;dsimp only at e;split at e
  ·rename_i xs ex;obtain⟨y,ey,e2⟩:=wA.mp e;obtain⟨q,zs,hq,hs,rz⟩:=R.tup ex;rw[ha]at hq;cases hq;obtain⟨z,hz,_⟩:=qQ rz ey;exact⟨zs,z,hs,hz⟩
  ·cases e
 |rng lo n=>
  cases j;unfold zU at e;dsimp only at e;split at e
  ·rename_i hl;exact hl
  ·cases e
 |zip p q=>
  obtain⟨a,b,ha,hb,rfl⟩:=j;unfold zU at e;dsimp only at e;split at e
  ·rename_i xs ys ex ey;split at e
   ·rename_i u w eu ew;obtain⟨a',zs,hq,hs,rz⟩:=R.lst ex;obtain⟨b',ws,hq',hs',rz'⟩:=R.lst ey;rw[ha]at hq;cases hq;rw[hb]at hq';cases hq';obtain⟨z,hz,_⟩:=qQ rz eu;obtain⟨z',hz',_⟩:=qQ rz' ew;exact⟨zs,ws,z,z',hs,hs',hz,hz'⟩
   ·cases e
  ·cases e
theorem IsJ.yld(j:IsJ K φ s J)(R:Rl K G φ h H)(e:zU h i s=some (x,h1))(y:J.yld i H v H'):∃φ',Ext φ φ'/\Rl K G φ' h1 H'/\rv φ' x v:=by
 cases s with
 |list p=>
  obtain⟨a,ha,rfl⟩:=j;unfold zU at e;dsimp only at e;split at e
  ·rename_i xs ex;obtain⟨y',ey,e2⟩:=wA.mp e;cases e2;obtain⟨q,zs,hq,hs,rz⟩:=R.lst ex;rw[ha]at hq;cases hq;obtain⟨z,hz,rz'⟩:=qQ rz ey;obtain⟨rfl,k⟩:=y;have:=k zs hs;rw[hz]at this;cases this;exact⟨φ,.refl _,R,rz'⟩
  ·cases e
 |tupl p=>
  obtain⟨a,ha,rfl⟩:=j;unfold zU at e;dsimp only at e;split at e
  ·rename_i xs ex;obtain⟨y',ey,e2⟩:=wA.mp e;cases e2;obtain⟨q,zs,hq,hs,rz⟩:=R.tup ex;rw[ha]at hq;cases hq;obtain⟨z,hz,rz'⟩:=qQ rz ey;obtain⟨rfl,k⟩:=y;have:=k zs hs;rw[hz]at this;cases this;exact⟨φ,.refl _,R,rz'⟩
  ·cases e
 |rng lo n=>
  cases j;unfold zU at e;dsimp only at e;split at e
  ·cases e;obtain⟨rfl,rfl⟩:=y;exact⟨φ,.refl _,R,rfl⟩
  ·cases e
 |zip p q=>
  obtain⟨a,b,ha,hb,rfl⟩:=j;unfold zU at e;dsimp only at e;split at e
  ·rename_i xs ys ex ey;split at e
   ·rename_i u w eu ew;cases e;obtain⟨a',zs,hq,hs,rz⟩:=R.lst ex;obtain⟨b',ws,hq',hs',rz'⟩:=R.lst ey;rw[ha]at hq;cases hq;rw[hb]at hq';cases hq';obtain⟨z,hz,r1⟩:=qQ rz eu;obtain⟨z',hz',r2⟩:=qQ rz' ew;obtain⟨p',x',y',hn,rfl,rfl,k1,k2⟩:=y;have t1:=k1 zs hs;have t2:=k2 ws hs';rw[hz]at t1;cases t1;rw[hz']at t2;cases t2;exact⟨φ++[p'],⟨[p'],rfl⟩,R.newT hn (.cons r1 (.cons r2 .nil)),R.lastRef⟩
   ·cases e
  ·cases e
end
variable (G F) in
noncomputable def tI(K:PySem.W.Frag)(it:Itr):_L.TI:=λσc H R=>∃φ h σ s h',Rl K G φ h H/\rst φ σ σc/\evi F it σ h=.ok (s,h')/\∀φ' H' J,Ext φ φ'->Rl K G φ' h' H'->IsJ K φ' s J->R J H'
variable (X G F) in
abbrev SI(tg iter:Expr)(it:Itr):Prop:=_L._P X tg iter (tI G F X.K it)
theorem qA3{tg e:Expr}{t t':_L.TI}(h:_L._P X tg e t)(w:∀σ H Q,t' σ H Q->t σ H Q):_L._P X tg e t':=λpins s σ H Q I q=>h pins s σ H Q I (w σ H Q q)
variable{a b:E}{ea eb tg:Expr}{pos p:Pos}
noncomputable def qIQ(K:PySem.W.Frag)(tl:TE):_L.TI:=λσ H R=>tl σ H λx H1=>∃a,x=.ref a/\(((∃xs,SqL K H1 a xs)/\R (Itl K a) H1)\/((∃xs,SqT K H1 a xs)/\R (Itt K a) H1))
theorem qD3{l:Expr}{tl:TE}(hl:PE X l tl):_L._P X tg l (qIQ X.K tl):=by
 intro pins s σ H R I h;refine _L.thn (hl pins s σ H _ I h) λv s1 ⟨x,H1,I1,r1,q1⟩=>?_;obtain⟨a,e,q⟩:=q1;subst e;cases r1;rcases q with⟨⟨xs,hq⟩,q⟩|⟨⟨xs,hq⟩,q⟩
 ·obtain⟨its,rv,p,hz⟩:=I1.list hq;refine wpAny_pyIter_list p.isList ?_;refine⟨s1.heap.objs.size,[s1.heap.objs.size],_,_,H1,rfl,I1.kept (t':=s1.toks) λb o e=>Heap.get?_push_of_some _ e,_L.turn_list a _,⟨_,Heap.get?_push_size _ rfl,rfl,rfl⟩,λb hb=>?_,q⟩;have e:b=s1.heap.objs.size:=by simpa using hb
  subst e;exact I1.fpOk (wG _) (I1.hok.fresh (wG _))
 ·obtain⟨its,rv,p,hz⟩:=I1.tuple hq;refine wpAny_pyIter_tuple (show s1.heap.IsTuple a its.toArray from p) ?_;refine⟨s1.heap.objs.size,[s1.heap.objs.size],_,_,H1,rfl,I1.kept (t':=s1.toks) λb o e=>Heap.get?_push_of_some _ e,_L.turn_tuple a _,⟨_,Heap.get?_push_size _ rfl,rfl,rfl⟩,λb hb=>?_,q⟩;have e:b=s1.heap.objs.size:=by simpa using hb
  subst e;exact I1.fpOk (wG _) (I1.hok.fresh (wG _))
theorem w5(ha:SE X G F ea a):SI X G F tg ea (.list a):=by
 refine qA3 (qD3 ha) λσc H Q q=>?_;obtain⟨φ,h,σ,s,h',R,rs,e,k⟩:=q;unfold evi at e;obtain⟨⟨x,h1⟩,e1,e⟩:=tM e;refine⟨φ,h,σ,x,h1,R,rs,e1,λφ1 H1 w x1 R1 r1=>?_⟩;cases x with
 |ref p=>
  dsimp only at e;cases ey:h1[p]? with
  |none=>rw[ey]at e;cases e
  |some o=>
   cases o with
   |lst fz ys=>
    rw[ey]at e;cases e;obtain⟨q,zs,hq,hs,rz⟩:=R1.lst (i:=p) (xs:=ys) (by unfold qN;rw[ey]);obtain⟨q',rfl,hq'⟩:=qL r1;rw[hq]at hq';cases hq';exact⟨_,rfl,.inl ⟨⟨zs,hs⟩,k φ1 H1 _ x1 R1 ⟨_,hq,rfl⟩⟩⟩
   |tup ys=>
    rw[ey]at e;cases e;obtain⟨q,zs,hq,hs,rz⟩:=R1.tup (i:=p) (xs:=ys) (by unfold qh;rw[ey]);obtain⟨q',rfl,hq'⟩:=qL r1;rw[hq]at hq';cases hq';exact⟨_,rfl,.inr ⟨⟨zs,hs⟩,k φ1 H1 _ x1 R1 ⟨_,hq,rfl⟩⟩⟩
   |ob ks=>rw[ey]at e;cases e
 |_=>cases e
theorem qDF(hg:_L.Gl X "range")(hm:X.mg "range"=none)(hn:qf ea=true)(ha:SE X G F ea a):SI X G F tg (.Call (.Name "range" p) [ea] [] pos) (.rng1 a):=by
 refine qA3 (_L.pi_range1 hg hm (_L.pa_cons ha _L.pa_nil (qH hn)) (qH hn)) λσc H Q q=>?_;obtain⟨φ,h,σ,s,h',R,rs,e,k⟩:=q;unfold evi at e;obtain⟨⟨x,h1⟩,e1,e⟩:=tM e;refine⟨φ,h,σ,x,h1,R,rs,e1,λφ1 H1 w x1 R1 r1=>?_⟩;cases x with
 |int j=>
  dsimp only at e;split at e
  ·rename_i hj;cases e;cases qC r1;exact⟨j,rfl,by omega,by omega,k φ1 H1 _ x1 R1 rfl⟩
  ·cases e
 |_=>cases e
theorem qCX(hg:_L.Gl X "range")(hm:X.mg "range"=none)(hn:qf ea=true)(hn2:qf eb=true)(ha:SE X G F ea a)(hb:SE X G F eb b):SI X G F tg (.Call (.Name "range" p) [ea,eb] [] pos) (.rng2 a b):=by
 refine qA3 (_L.pi_range2 hg hm (_L.pa_cons ha (_L.pa_cons hb _L.pa_nil (qH hn2)) (qH hn)) (by rw[qH hn,qH hn2];rfl) (qH hn2)) λσc H Q q=>?_;obtain⟨φ,h,σ,s,h',R,rs,e,k⟩:=q;unfold evi at e;obtain⟨⟨x,h1⟩,e1,e⟩:=tM e;obtain⟨⟨y,h2⟩,e2,e⟩:=tM e;refine Qz R rs e1 e2 λφ2 H2 xc yc x2 R2 r1 r2=>?_;cases x with
 |int i=>
  cases y with
  |int j=>
   dsimp only at e;split at e
   ·rename_i hj;cases e;cases qC r1;cases qC r2;exact⟨i,j,rfl,⟨by omega,by omega,by omega,by omega⟩,k φ2 H2 _ x2 R2 rfl⟩
   ·cases e
  |_=>cases e
 |_=>cases e
theorem qED{elts:List Expr}{kk:Nat}{tpos:Pos}(hg:_L.Gl X "zip")(hm:X.mg "zip"=none)(hn:qf ea=true)(hn2:qf eb=true)(ha:SE X G F ea a)(hb:SE X G F eb b):
  SI X G F (.Tuple elts kk tpos) (.Call (.Name "zip" p) [ea,eb] [] pos) (.zip a b):=by
 refine qA3 (qEw hg hm (_L.pa_cons ha (_L.pa_cons hb _L.pa_nil (qH hn2)) (qH hn)) hn hn2) λσc H Q q=>?_;obtain⟨φ,h,σ,s,h',R,rs,e,k⟩:=q;unfold evi at e;obtain⟨⟨x,h1⟩,e1,e⟩:=tM e;obtain⟨⟨y,h2⟩,e2,e⟩:=tM e;refine Qz R rs e1 e2 λφ2 H2 xc yc x2 R2 r1 r2=>?_;cases x with
 |ref i=>
  cases y with
  |ref j=>
   dsimp only at e;split at e
   ·rename_i xs ys ex ey;cases e;obtain⟨a',zs,hq,hs,rz⟩:=R2.lst ex;obtain⟨b',ws,hq',hs',rz'⟩:=R2.lst ey;obtain⟨a2,rfl,ha2⟩:=qL r1;obtain⟨b2,rfl,hb2⟩:=qL r2;rw[hq]at ha2;cases ha2;rw[hq']at hb2;cases hb2;exact⟨_,_,rfl,⟨zs,hs⟩,⟨ws,hs'⟩,k φ2 H2 _ x2 R2 ⟨_,_,hq,hq',rfl⟩⟩
   ·cases e
  |_=>cases e
 |_=>cases e
end
section
variable{X:Cx}{G:List Addr}{F:Nat->List V->AH->RV}
theorem qFF{φ:List Addr}:∀{v w w':V},rv φ v w->rv φ v w'->w=w'
 | .ref _,w,w',h,g=>by
  obtain⟨a,e1,h1⟩:=qL h;obtain⟨b,e2,g1⟩:=qL g;rw[h1]at g1;cases g1;rw[e1,e2]
 | .non,_,_,h,g=>by rw[zL h,zL g]
 | .bl _,_,_,h,g=>by rw[zb h,zb g]
 | .int _,_,_,h,g=>by rw[qC h,qC g]
 | .str _,_,_,h,g=>by rw[zh h,zh g]
 | .byt _,w,_,h,_=>by cases w<;>exact False.elim h
 | .flt _,w,_,h,_=>by cases w<;>exact False.elim h
 | .ty _,w,_,h,_=>by cases w<;>exact False.elim h
theorem K4{φ:List Addr}:∀{vs ws us:List V},rvs φ vs ws->rvs φ vs us->ws=us
 |_,_,_,.nil,.nil=>rfl
 |_,_,_,.cons r t,.cons r' t'=>by rw[qFF r r',K4 t t']
theorem Zh{φ:List Addr}{σ σc:St}(r:rst φ σ σc):∀src,rst φ (_L.inner src σ) (_L.inner src σc)
 | []=>.nil
 |none::src=>.cons trivial (Zh r src)
 |some j::src=>by
  refine .cons ?_ (Zh r src);show ropt φ (σ[j]?).join (σc[j]?).join;cases e:σ[j]? with
  |none=>exact trivial
  |some o=>
   cases o with
   |none=>exact trivial
   |some v=>
    obtain⟨oc,ec,r'⟩:=qQ r e;obtain⟨w,rfl,r'⟩:=r';rw[ec];exact⟨w,rfl,r'⟩
variable (X G F) in
abbrev SC(ifs:List Expr)(c:Es):Prop:=_L.PTs X ifs (tB X.K G (evc F c))
theorem qFE:SC X G F [] .nil:=by
 intro pins s σ H Q I q;obtain⟨φ,h,σa,b,h',R,rs,e,k⟩:=q;unfold evc at e;cases e;exact _L.pts_nil pins s σ H Q I (k φ H (.refl _) R)
theorem qFg{c:Expr}{a:E}(hc:ST X G F c a):SC X G F [c] (.cons a .nil):=by
 intro pins s σ H Q I q;obtain⟨φ,h,σa,b,h',R,rs,e,k⟩:=q;unfold evc at e;exact _L.pts_one hc pins s σ H Q I ⟨φ,h,σa,b,h',R,rs,e,k⟩
theorem qAK{it:Itr}{src:List (Option Nat)}{g:Tg}{c:Es}{e:E}{σc:St}{H:Hp}{Q:VK}(q:tE X.K G F (.comp it src g c e) σc H Q):
  _L.tComp (tI G F X.K it) src (tG X.K G g) (tB X.K G (evc F c)) (tE X.K G F e) σc H Q:=by
 obtain⟨φ,h,σ,v,h',R,rs,ee,k⟩:=q;unfold ev at ee;obtain⟨⟨s,h1⟩,e1,ee⟩:=tM ee;refine⟨φ,h,σ,s,h1,R,rs,e1,λφ1 H1 J x1 R1 j1=>?_⟩;dsimp only at ee;split at ee
 ·rename_i n hn;intro D hD;have R2:Rl X.K G (φ1++[D]) (h1++[.lst false []]) (upd H1 D (.lst [])):=R1.newL hD .nil;have hDφ:(φ1++[D])[h1.length]?=some D:=R1.lastRef;refine⟨λi m ys σ' H'=>∃φ' h2 σa ya,Ext (φ1++[D]) φ'/\Rl X.K G φ' h2 H'/\rst φ' σa σ'/\rvs φ' ya ys/\h2[h1.length]?=some (.lst false ya)/\F9 s g (evc F c) (ev F e) h1.length m i ya σa h2=.ok (v,h'),
   ⟨n,φ1++[D],_,_,[],.refl _,R2,Zh (rst.mono (x1.trans ⟨[D],rfl⟩) rs) src,.nil,by simp,ee⟩,?_⟩
  rintro i m ys σ' H' ⟨φ',h2,σa,ya,x2,Ra,rsa,rya,hya,ec⟩ hys;have jj:IsJ X.K φ' s J:=j1.mono (Ext.trans ⟨[D],rfl⟩ x2);have hDφ':=x2.get hDφ;cases m with
  |zero=>
   unfold F9 at ec;split at ec
   ·rename_i hst;cases ec;exact .inl ⟨jj.stop Ra hst,k φ' H' _ ((x1.trans ⟨[D],rfl⟩).trans x2) Ra hDφ'⟩
   ·cases ec
  |succ m=>
   unfold F9 at ec;split at ec
   ·rename_i x h3 hy;split at ec
    ·rename_i σ3 hst;refine .inr ⟨jj.go Ra hy,λxv H2 hyl=>?_⟩;obtain⟨φ3,x3,R3,rx⟩:=jj.yld Ra hy hyl;refine⟨φ3,h3,σa,x,σ3,R3,rst.mono x3 rsa,rx,hst,λσc3 rs3=>?_⟩;obtain⟨⟨t,h4⟩,e4,ec⟩:=tM ec;refine⟨φ3,h3,σ3,t,h4,R3,rs3,e4,λφ4 H4 x4 R4=>?_⟩;dsimp only at ec;cases t with
     |true=>
      rw[if_pos rfl]at ec ⊢;obtain⟨⟨y,h5⟩,e5,ec⟩:=tM ec;refine⟨φ4,h4,σ3,y,h5,R4,rst.mono x4 rs3,e5,λφ5 H5 yc x5 R5 r5=>?_⟩;dsimp only at ec;split at ec
      ·rename_i hc5;have xx:Ext φ' φ5:=x3.trans (x4.trans x5);have hD5:=xx.get hDφ';obtain⟨zs,hz,rz⟩:=R5.obj _ _ D hc5.1 hD5;have ez:zs=ys:=K4 rz (rvs.mono xx rya);subst ez;refine⟨hz,by rw[<-Paired.length rz];exact vL hc5.2 qBx,m,vb _,φ5,_,σ3,_,x2.trans xx,R5.set hc5.1 hD5 (qU rz (.cons r5 .nil)),rst.mono (x4.trans x5) rs3,qU rz (.cons r5 .nil),?_,ec⟩;rw[wv (wC.mp hc5.1).1]
      ·cases ec
     |false=>
      rw[if_neg (by decide)]at ec ⊢;split at ec
      ·rename_i hc4;have xx:Ext φ' φ4:=x3.trans x4;have hD4:=xx.get hDφ';obtain⟨zs,hz,rz⟩:=R4.obj _ _ D hc4 hD4;have ez:zs=ys:=K4 rz (rvs.mono xx rya);subst ez;exact⟨hz,m,vb _,φ4,_,σ3,_,x2.trans xx,R4,rst.mono x4 rs3,rz,hc4,ec⟩
      ·cases ec
    ·cases ec
   ·cases ec
 ·cases ee
end
section
variable{X:Cx}{G:List Addr}{F:Nat->List V->AH->RV}{a b c:E}{ea eb ec tg:Expr}{pos:Pos}
theorem a7{iter elt:Expr}{ifs:List Expr}{scope:Scope}{N:List Str}{it:Itr}{src:List (Option Nat)}{g:Tg}{cs:Es}{e:E}(hc:X.calm=true)(hi:SI X G F tg iter it)(S:_L.CompScope X scope N src)
  (hg:∀C fp s H,SG (_L.cxComp X scope C fp s H N) G tg g) (ht:∀C fp s H,SC (_L.cxComp X scope C fp s H N) G F ifs cs) (he:∀C fp s H,SE (_L.cxComp X scope C fp s H N) G F elt e)
  (hs:∀x,foldedSetIterable iter X.env x=pure x):SE X G F (.ListComp elt [⟨tg,iter,ifs,0⟩] scope pos) (.comp it src g cs e):=
 zG (_L.pe_comp hc hi S hg ht he hs) λ_ _ _=>qAK
def Post(K:PySem.W.Frag)(G:List Addr)(D:Y8)(φ:List Addr)(o:Out)(h':AH):Prop:=∀φ' H',Ext φ φ'->Rl K G φ' h' H'->match o with
 | .nx σ=>∀σc,rst φ' σ σc->D.nx σc H'
 | .rt v=>∀w,rv φ' v w->D.rt w H'
 | .bk σ=>∀σc,rst φ' σ σc->D.bk σc H'
 | .ct σ=>∀σc,rst φ' σ σc->D.ct σc H'
theorem Post.mono{K:PySem.W.Frag}{D:Y8}{φ φ1:List Addr}{o:Out}{h':AH}(x:Ext φ φ1)(p:Post K G D φ o h'):Post K G D φ1 o h':=λφ' H' x' R=>p φ' H' (x.trans x') R
noncomputable def tS(K:PySem.W.Frag)(G:List Addr)(r:St->AH->RS):TS:=λD σc H=>∃φ h σ o h',Rl K G φ h H/\rst φ σ σc/\r σ h=.ok (o,h')/\Post K G D φ o h'
variable (X G F) in
abbrev SS(st:Stmt)(s:S):Prop:=PS X st (tS X.K G (ex F s))
variable (X G F) in
abbrev SSs(st:List Stmt)(s:Ss):Prop:=PSs X st (tS X.K G (exs F s))
theorem Ju{e:Stmt}{t t':TS}(h:PS X e t)(w:∀D σ H,t' D σ H->t D σ H):PS X e t':=λpins s σ H D I q=>h pins s σ H D I (w D σ H q)
theorem qB2{e:List Stmt}{t t':TS}(h:PSs X e t)(w:∀D σ H,t' D σ H->t D σ H):PSs X e t':=λpins s σ H D I q=>h pins s σ H D I (w D σ H q)
theorem qq{st:Stmt}:SS X G F st .stop:=by
 intro pins s σ H D I q;obtain⟨φ,h,σa,o,h',R,rs,e,k⟩:=q;unfold ex at e;cases e
noncomputable def QV:Expr->Bool
 | .ListComp ..=>false
 | .SetComp ..=>false
 | .DictComp ..=>false
 |_=>true
noncomputable def qFe:Expr->Bool
 | .Tuple ..=>false
 |_=>true
theorem JA{e:Expr}{t:Option Expr}{l:Nat}{env:Env}(h:QV e=true):swapsWith e t l env=pure false:=by
 cases e<;>first|rfl|cases h
theorem Qo{e t:Expr}{l:Nat}{env:Env}(h:QV e=true):swapsWithSole [t] e l env=pure false:=JA h
theorem qCL{K:PySem.W.Frag}{σ:St}{H:Hp}{Q Q':VK}(q:tE K G F a σ H Q)(w:∀v H,Q v H->Q' v H):tE K G F a σ H Q':=by
 obtain⟨φ,h,σa,v,h',R,rs,e,k⟩:=q;exact⟨φ,h,σa,v,h',R,rs,e,λφ' H' u x' R' r'=>w u H' (k φ' H' u x' R' r')⟩
theorem Q3{g:Tg}{D:Y8}{σc:St}{H:Hp}(q:tS X.K G (ex F (.asg g a)) D σc H):_L.tAsg (tE X.K G F a) (tG X.K G g) D σc H:=by
 obtain⟨φ,h,σ,o,h',R,rs,e,k⟩:=q;unfold ex at e;obtain⟨⟨x,h1⟩,e1,e⟩:=tM e;dsimp only at e;split at e
 ·rename_i σ1 es;cases e;exact⟨φ,h,σ,x,_,R,rs,e1,λφ1 H1 w x1 R1 r1=>⟨φ1,_,σ,x,σ1,R1,rst.mono x1 rs,r1,es,λσc' rs'=>k φ1 H1 x1 R1 σc' rs'⟩⟩
 ·cases e
theorem qEM{is:List Nat}{es:List Expr}{kk:Nat}{p:Pos}(hg:SG X G (.Tuple es kk p) (.tup is))(ha:SE X G F ea a)(hc:QV ea=true)(ht:qFe ea=true):
  SS X G F (.Assign [.Tuple es kk p] ea pos) (.asg (.tup is) a):=
 Ju (_L.ps_asg ha hg (Qo hc) (by cases ea<;>first|rfl|cases ht) rfl) λ_ _ _=>Q3
theorem qDH{iter elt:Expr}{ifs:List Expr}{scope:Scope}{N:List Str}{it:Itr}{src:List (Option Nat)}{g:Tg}{cs:Es}{e:E}{i:Nat}{n:Str}{p cpos:Pos}(hc:X.calm=true)(hi:SI X G F tg iter it)(S:_L.CompScope X scope N src)
  (hg:∀C fp s H,SG (_L.cxComp X scope C fp s H N) G tg g) (ht:∀C fp s H,SC (_L.cxComp X scope C fp s H N) G F ifs cs) (he:∀C fp s H,SE (_L.cxComp X scope C fp s H N) G F elt e)
  (hs:∀x,foldedSetIterable iter X.env x=pure x) (hN:X.N.Nodup) (hn:X.N[i]?=some n) (hx:_L.Loc X.env.scope n) (hf:X.fn n=true\/X.env.scope.names.lookup n=some .local):
  SS X G F (.Assign [.Name n p] (.ListComp elt [⟨tg,iter,ifs,0⟩] scope cpos) pos) (.asg (.name i) (.comp it src g cs e)):=by
 have hsw:swapsWith (.ListComp elt [⟨tg,iter,ifs,0⟩] scope cpos) (some (.Name n p)) pos.line X.env=pure (X.env.blockKind==.function&&X.env.kindOf n==some .local&&p.line==(Expr.ListComp elt [⟨tg,iter,ifs,0⟩] scope cpos).pos.line
   && !(scope.names.any λ(m,k)=>m==n&&(k==.local||k==.cell))):=rfl
 generalize hb:(X.env.blockKind==.function&&X.env.kindOf n==some .local&&p.line==(Expr.ListComp elt [⟨tg,iter,ifs,0⟩] scope cpos).pos.line
   && !(scope.names.any λ(m,k)=>m==n&&(k==.local||k==.cell)))=bb at hsw
 cases bb with
 |true=>
  have hl:X.env.scope.names.lookup n=some .local:=by
   simp only[wF]at hb;have z:X.env.kindOf n=some .local:=by simpa using hb.1.1.2
   exact z
  refine Ju (_L.ps_setcomp (i:=i) (g:=tG X.K G g) (tc:=tB X.K G (evc F cs)) (te:=tE X.K G F e) hc hi S hg ht he hsw hN hn hl hs) λD σc H q=>?_;refine qAK (qCL (Q3 q) λv H1 z=>?_);obtain⟨φ,h,σ,w,σ',R,rs,r,es,k⟩:=z;unfold store at es;cases es;exact k _ (jI (R:=ropt φ) (show ropt φ (some w) (some v) from⟨v,rfl,r⟩) i rs)
 |false=>exact Ju (_L.ps_asg (a7 hc hi S hg ht he hs) (i7 hN hn hx hf) hsw rfl rfl) λ_ _ _=>Q3
noncomputable def qGh:_L.TSet:=λo i v H Q=>_L.rSetL o i v H Q\/∃p H',o=.ref p/\_L.DPut H p i v H'/\Q H'
theorem qCA(hu:X.A.units+8<cLine):_L.PSet X qGh:=by
 intro pins s σ H o i v ov iv u Q I ro ri rv h;rcases h with h|⟨p,H',rfl,g,q⟩
 ·exact _L.set_list pins s σ H o i v ov iv u Q I ro ri rv h
 ·cases ro;exact _L.d_setItem (by omega) I g ri rv λs' I'=>⟨H',I',q⟩
theorem qD7(hu:X.A.units+8<cLine){eo ei:Expr}{o i:E}{p:Pos}(ho:SE X G F eo o)(hi:SE X G F ei i)(ha:SE X G F ea a)(hc:QV ea=true)(hsl:Zm ei=true):SS X G F (.Assign [.Subscript eo ei p] ea pos) (.put o i a):=by
 refine Ju (_L.ps_asg ha (_L.pg_sub ho hi (qCA hu) (λv=>by cases ei<;>first|rfl|cases hsl)) (Qo hc) (by cases ea<;>rfl) rfl) λD σc H q=>?_;obtain⟨φ,h,σ,out,h',R,rs,e,k⟩:=q;unfold ex at e;obtain⟨⟨x,h1⟩,e1,e⟩:=tM e;obtain⟨⟨p1,h2⟩,e2,e⟩:=tM e;obtain⟨⟨k1,h3⟩,e3,e⟩:=tM e;refine⟨φ,h,σ,x,h1,R,rs,e1,λφ1 H1 w x1 R1 r1=>?_⟩;refine⟨φ1,h1,σ,p1,h2,R1,rst.mono x1 rs,e2,λφ2 H2 w2 x2 R2 r2=>?_⟩;refine⟨φ2,h2,σ,k1,h3,R2,rst.mono (x1.trans x2) rs,e3,λφ3 H3 w3 x3 R3 r3=>?_⟩;cases p1 with
 |ref q=>
  cases k1 with
  |int j=>
   dsimp only at e;split at e
   ·rename_i xs ex1;split at e
    ·rename_i jj ej;cases e;obtain⟨q1,a',zs,ha',hH,rz⟩:=R3.mut ex1;obtain⟨a2,rfl,ha2⟩:=qL (rv.mono x3 r2);rw[ha']at ha2;cases ha2;cases qC r3;refine .inl ⟨_,zs,j,jj,rfl,rfl,hH,by rw[<-Paired.length rz];exact ej,?_⟩;have xx:Ext φ φ3:=x1.trans (x2.trans x3);exact k φ3 _ xx (R3.set q1 ha' (jI (rv.mono (x2.trans x3) r1) jj rz)) σc (rst.mono xx rs)
    ·cases e
   ·split at e
    ·rename_i kvs ed;split at e
     ·rename_i hf;cases e;obtain⟨a',ea,eh,hH⟩:=R3.dct ed;obtain⟨a2,rfl,ha2⟩:=qL (rv.mono x3 r2);rw[ea]at ha2;cases ha2;cases qC r3;have hl:(kvs.map kk).length<sizeLine:=by rw[wQ];exact wK hf.2 Zu
      have xx:Ext φ φ3:=x1.trans (x2.trans x3);have fw:=J1 hf.1 r1;subst fw;refine .inr ⟨_,_,rfl,_L.DPut.k (k:=.inl j) hH hl,?_⟩;rw[qCj];exact k φ3 _ xx (R3.write rfl rfl eh ea qE) σc (rst.mono xx rs)
     ·cases e
    ·cases e
  |_=>cases e
 |_=>cases e
theorem qDJ(ha:SE X G F ea a)(hc:QV ea=true):SS X G F (.Expr ea pos) (.expr a):=by
 refine Ju (_L.ps_expr ha (JA hc)) λD σc H q=>?_;obtain⟨φ,h,σ,out,h',R,rs,e,k⟩:=q;unfold ex at e;obtain⟨⟨x,h1⟩,e1,e⟩:=tM e;cases e;exact⟨φ,h,σ,x,_,R,rs,e1,λφ1 H1 w x1 R1 r1=>k φ1 H1 x1 R1 σc (rst.mono x1 rs)⟩
theorem qEl(ha:SE X G F ea a):SS X G F (.Return (some ea) pos) (.ret a):=by
 refine Ju (_L.ps_ret ha) λD σc H q=>?_;obtain⟨φ,h,σ,out,h',R,rs,e,k⟩:=q;unfold ex at e;obtain⟨⟨x,h1⟩,e1,e⟩:=tM e;cases e;exact⟨φ,h,σ,x,_,R,rs,e1,λφ1 H1 w x1 R1 r1=>k φ1 H1 x1 R1 w r1⟩
theorem qCg:SSs X G F [] .nil:=by
 refine qB2 _L.pss_nil λD σc H q=>?_;obtain⟨φ,h,σ,out,h',R,rs,e,k⟩:=q;unfold exs at e;cases e;exact k φ H (.refl _) R σc rs
theorem qBM{st:Stmt}{sts:List Stmt}{s:S}{ss:Ss}(h1:SS X G F st s)(h2:SSs X G F sts ss):SSs X G F (st::sts) (.cons s ss):=by
 refine qB2 (_L.pss_cons h1 h2) λD σc H q=>?_;obtain⟨φ,h,σ,out,h',R,rs,e,k⟩:=q;unfold exs at e;obtain⟨⟨o,h1⟩,e1,e⟩:=tM e;refine⟨φ,h,σ,o,h1,R,rs,e1,λφ1 H1 x1 R1=>?_⟩;cases o with
 |nx σ1=>exact λσc1 rs1=>⟨φ1,h1,σ1,out,h',R1,rs1,e,k.mono x1⟩
 |rt v=>cases e;exact k φ1 H1 x1 R1
 |bk σ1=>cases e;exact k φ1 H1 x1 R1
 |ct σ1=>cases e;exact k φ1 H1 x1 R1
theorem qFh{t u:List Stmt}{st su:Ss}(hc:ST X G F ec c)(ht:SSs X G F t st)(hu:SSs X G F u su):SS X G F (.If ec t u pos) (.ifs c st su):=by
 refine Ju (_L.ps_if hc ht hu) λD σc H q=>?_;obtain⟨φ,h,σ,out,h',R,rs,e,k⟩:=q;unfold ex at e;obtain⟨⟨x,h1⟩,e1,e⟩:=tM e;refine⟨φ,h,σ,x,h1,R,rs,e1,λφ1 H1 x1 R1=>?_⟩;dsimp only at e;cases x with
 |true=>
  rw[if_pos rfl]at e ⊢;exact⟨φ1,h1,σ,out,h',R1,rst.mono x1 rs,e,k.mono x1⟩
 |false=>
  rw[if_neg (by decide)]at e ⊢;exact⟨φ1,h1,σ,out,h',R1,rst.mono x1 rs,e,k.mono x1⟩
theorem qEp{iter:Expr}{body:List Stmt}{it:Itr}{g:Tg}{sb:Ss}(hx:X.xe=λ_ _=>False)(hc:X.calm=true)(hi:SI X G F tg iter it)(hg:SG X G tg g)(hb:SSs X G F body sb)
  (hs:∀x,foldedSetIterable iter X.env x=pure x):SS X G F (.For tg iter body [] pos) (.for_ g it sb):=by
 refine Ju (_L.ps_for (by rw[hx];exact PassesOwn.never) hc hi hg hb hs) λD σc H q=>?_;obtain⟨φ,h,σ,out,h',R,rs,e,k⟩:=q;unfold ex at e;obtain⟨⟨s,h1⟩,e1,e⟩:=tM e;refine⟨φ,h,σ,s,h1,R,rs,e1,λφ1 H1 J x1 R1 j1=>?_⟩;dsimp only at e;split at e
 ·rename_i n hn;refine⟨λi m σ' H'=>∃φ' h2 σa,Ext φ1 φ'/\Rl X.K G φ' h2 H'/\rst φ' σa σ'/\qAS s g (exs F sb) m i σa h2=.ok (out,h'),⟨n,φ1,h1,σ,.refl _,R1,rst.mono x1 rs,e⟩,?_⟩;rintro i m σ' H' ⟨φ',h2,σa,x2,Ra,rsa,ef⟩;have jj:IsJ X.K φ' s J:=j1.mono x2;cases m with
  |zero=>
   unfold qAS at ef;split at ef
   ·rename_i hst;cases ef;exact .inl ⟨jj.stop Ra hst,k φ' H' (x1.trans x2) Ra σ' rsa⟩
   ·cases ef
  |succ m=>
   unfold qAS at ef;split at ef
   ·rename_i x h3 hy;split at ef
    ·rename_i σ3 hst;refine .inr ⟨jj.go Ra hy,λσ' H'=>∃φ' h2 σa,Ext φ1 φ'/\Rl X.K G φ' h2 H'/\rst φ' σa σ'/\qAS s g (exs F sb) m (i+1) σa h2=.ok (out,h'),λσ2 H2 w=>⟨m,vb _,w⟩,λxv H2 hyl=>?_⟩;obtain⟨φ3,x3,R3,rx⟩:=jj.yld Ra hy hyl;refine⟨φ3,h3,σa,x,σ3,R3,rst.mono x3 rsa,rx,hst,λσc3 rs3=>?_⟩;obtain⟨⟨o,h4⟩,e4,ef⟩:=tM ef;refine⟨φ3,h3,σ3,o,h4,R3,rs3,e4,λφ4 H4 x4 R4=>?_⟩;dsimp only at ef;cases o with
     |nx σ4=>exact λσc4 rs4=>⟨φ4,h4,σ4,x2.trans (x3.trans x4),R4,rs4,ef⟩
     |ct σ4=>exact λσc4 rs4=>⟨φ4,h4,σ4,x2.trans (x3.trans x4),R4,rs4,ef⟩
     |bk σ4=>cases ef;exact k φ4 H4 (x1.trans (x2.trans (x3.trans x4))) R4
     |rt v=>cases ef;exact k φ4 H4 (x1.trans (x2.trans (x3.trans x4))) R4
    ·cases ef
   ·cases ef
 ·cases e
end
set_option genInjectivity false in structure Gam where
 N:List Str
 sc:Scope
 fns:List Str
 gl:List (Str×E)
 bl:List Str
 own:Str->Bool
 cls:List Str:=[]
 xr:Bool:=false
noncomputable def slot(N:List Str)(x:Str):Option Nat:=(List.range N.length).find? λi=>N[i]?==some x
theorem Qx{N:List Str}{x:Str}{i:Nat}(h:slot N x=some i):N[i]?=some x:=by
 unfold slot at h;simpa using List.find?_some h
noncomputable def qG4(sc:Scope)(x:Str):Bool:=match sc.names.lookup x with|some .local=>true|some .cell=>true|some .free=>true|_=>false
theorem qDX{sc:Scope}{x:Str}(h:qG4 sc x=true):_L.Vis sc x:=by
 unfold qG4 at h;unfold _L.Vis;split at h<;>first|(rename_i e;simp[e])|cases h
noncomputable def glB(sc:Scope)(x:Str):Bool:=sc.names.lookup x==some .globalImplicit
noncomputable def okN(x:Str):Bool:=!(x==("__debug__":Str))&&!(x==("__classdict__":Str))&&!decide (x="__name__")
noncomputable def qHf:Operator->Option BOp
 | .Add=>some .add | .Sub=>some .sub | .Mult=>some .mul | .FloorDiv=>some .fdiv | .Mod=>some .mod | .Pow=>some .pow | .BitAnd=>some .band|_=>none
theorem qC0{o:Operator}{b:BOp}(h:qHf o=some b):o=opB b:=by
 cases o<;>cases h<;>rfl
noncomputable def W4:CmpOp->COp
 | .Lt=>.lt | .LtE=>.le | .Gt=>.gt | .GtE=>.ge | .Eq=>.eq | .NotEq=>.ne | .In=>.inn | .NotIn=>.notin | .Is=>.is | .IsNot=>.isnot
theorem J5(o:CmpOp):o=opC (W4 o):=by cases o<;>rfl
noncomputable def L4:Expr->Bool
 | .Set ..=>false
 |_=>true
noncomputable def qAL:Expr->Bool
 | .Call ..=>false
 |_=>true
noncomputable def bfL:List (Str×BF):=[("len",.len),("sum",.sum),("all",.all),("any",.any),("max",.max),("min",.min),("list",.list),("int",.int),("repr",.repr)]
noncomputable def qGI(x:Str):Option BF:=bfL.lookup x
theorem JK{x:Str}{f:BF}:∀{l:List (Str×BF)},l.lookup x=some f->(x,f)∈l
 | [],h=>by cases h
 | (a,b)::l,h=>by
  rw[List.lookup_cons]at h;split at h
  ·rename_i e;cases h;rw[eq_of_beq e];exact wO ..
  ·exact wH _ (JK h)
theorem qEs:∀p∈bfL,bootBuiltins p.1=some (fnB p.2):=
 wj.mpr ⟨PySem.boot_len,wj.mpr ⟨PyProof.Rows.boot_sum,wj.mpr ⟨PyProof.Rows.boot_all,wj.mpr ⟨PyProof.Rows.boot_any,wj.mpr ⟨PyProof.Rows.boot_max,wj.mpr ⟨PyProof.Rows.boot_min,wj.mpr ⟨PyProof.Rows.boot_list,wj.mpr ⟨PyProof.Rows.boot_int,wj.mpr ⟨PyProof.Rows.boot_repr,(λ_ h=>absurd h wX)⟩⟩⟩⟩⟩⟩⟩⟩⟩
theorem c6{x:Str}{f:BF}(h:qGI x=some f):bootBuiltins x=some (fnB f):=qEs _ (JK h)
noncomputable def mxA(b:BF)(as:List Expr):BF:=if decide (b=.max)&&decide (as.length=1) then .maxl else b
theorem qFd{x:Str}{f:BF}{as:List Expr}(h:qGI x=some f):bootBuiltins x=some (fnB (mxA f as)):=by
 unfold mxA;split
 ·rename_i c;rw[wF,uT]at c;rw[c6 h,c.1];rfl
 ·exact c6 h
noncomputable def qGp(x:Str):Option String:=
 if x="int" then some "int" else if x="bool" then some "bool" else if x="list" then some "list" else if x="tuple" then some "tuple" else if x="str" then some "str" else if x="dict" then some "dict" else none
theorem qCl{x:Str}{t:String}(h:qGp x=some t):bootBuiltins x=some (.type t)/\B4 t=true:=by
 unfold qGp at h
 repeat' split at h
 all_goals first|cases h|skip
 all_goals (rename_i hx;subst hx)
 ·exact⟨PyProof.Rows.boot_int,by decide⟩
 ·exact⟨PyProof.Rows.boot_bool,by decide⟩
 ·exact⟨PyProof.Rows.boot_list,by decide⟩
 ·exact⟨PyProof.Rows.boot_tuple,by decide⟩
 ·exact⟨PyProof.Rows.boot_str,by decide⟩
 ·exact⟨PyProof.Rows.boot_dict,by decide⟩
noncomputable def qFl(scope sc:Scope):Scope:=
 { scope with names:=scope.names.map λ(n,k)=>if (k==.free&&sc.kind==.function&&sc.names.lookup n==some .cell) then (n,.cell) else (n,k) }
noncomputable def l9:Expr->List Str
 | .Name x _=>[x]
 | .Tuple es _ _=>es.filterMap λe:Expr=>match e with | .Name x _=>some x|_=>none
 |_=>[]
noncomputable def qEh(scope:Scope):List Str:=scope.names.filterMap λy=>if y.2=.free then some y.1 else none
noncomputable def JV(Γ:Gam)(scope:Scope)(N:List Str)(src:List (Option Nat)):Bool:=
 decide (scope.kind=.function)&&scope.names.all (λy=>decide (scope.names.lookup y.1=some y.2))
 && scope.names.all (λy=>decide (y.2=.free->(Γ.sc.names.lookup y.1=some .cell\/Γ.sc.names.lookup y.1=some .free)))&&decide N.Nodup&&decide (src.length=N.length)
 && (List.range N.length).all (λi=>match N[i]?,src[i]? with|some x,some (some j)=>decide (Γ.N[j]?=some x/\scope.names.lookup x=some .free)|_,_=>true)
noncomputable def Q5(Γ:Gam)(x:Str):Bool:=match Γ.sc.names.lookup x with|some .local=>true|some .cell=>Γ.own x|_=>false
noncomputable def qFq(Γ:Gam):List Expr->Option (List Nat)
 | []=>some []
 | .Name x _::r=>if Q5 Γ x then (match slot Γ.N x,qFq Γ r with|some i,some is=>some (i::is)|_,_=>none) else none
 |_=>none
noncomputable def trT(Γ:Gam):Expr->Option Tg
 | .Name x _=>if Q5 Γ x then (slot Γ.N x).map .name else none
 | .Tuple es _ _=>(qFq Γ es).map .tup
 |_=>none
noncomputable def qBT:List Expr->Bool
 | [.Call (.Name r _) [_] [] _]=>decide (r="set")
 |_=>false
noncomputable def qF2:List Expr->Bool
 | [.Call (.Name r _) [_] [] _]=>decide (r="range")
 | [.Call (.Name r _) [_,_] [] _]=>decide (r="range")
 |_=>false
noncomputable def qHS:E->Bool
 |_=>true
mutual
noncomputable def trE:Nat->Gam->Expr->Option E
 | 0,_,_=>none
 |n+1,Γ,e=>match e with
  | .Constant c _ _=>(match c with
   | .int i=>some (.cst (.int i))
   | .bool i=>some (.cst (.bl i))
   | .none=>some (.cst .non)
   | .str i=>some (.cst (.str i))
   |_=>none)
  | .Name x _=>if okN x then (if qG4 Γ.sc x then (slot Γ.N x).map .var else if glB Γ.sc x then Γ.gl.lookup x else none) else none
  | .BinOp a op b _=>match qHf op,trE n Γ a,trE n Γ b with|some o,some a',some b'=>some (.bin o a' b')|_,_,_=>none
  | .UnaryOp op a _=>(match op with
   | .USub=>(trE n Γ a).map .neg
   | .Not=>(trE n Γ a).map .not
   |_=>none)
  | .BoolOp op vs p=>trB n Γ op p vs
  | .IfExp c a b _=>match trE n Γ c,trE n Γ a,trE n Γ b with|some c',some a',some b'=>some (.ite c' a' b')|_,_,_=>none
  | .Compare a ops bs _=>(match ops,bs with
   | [op],[b]=>if L4 b then (match trE n Γ a,trE n Γ b with|some a',some b'=>some (.cmp (W4 op) a' b')|_,_=>none) else none
   | [o1,o2],[b,c]=>if L4 c then (match trE n Γ a,trE n Γ b,trE n Γ c with|some a',some b',some c'=>some (.cmp2 (W4 o1) (W4 o2) a' b' c')|_,_,_=>none) else none
   |_,_=>none)
  | .Call fn args kws cpos=>(match kws with
   | []=>(match fn with
    | .Name f _=>if okN f&&glB Γ.sc f&&args.all qf then trC n Γ f args else none
    | .Attribute o m apos=>(match args with
     | [x]=>if m="append"/\qAL o=true/\qf x=true/\(apos.endLine==cpos.line)=true then (match trE n Γ o,trE n Γ x with|some o',some x'=>some (.app o' x')|_,_=>none) else none
     | []=>if m="bit_length" then (if qAL o=true/\(apos.endLine==cpos.line)=true then (trE n Γ o).map (λo'=>.blt .bits (.cons o' .nil)) else none) else none
     |_=>none)
    |_=>none)
   |_=>none)
  | .Subscript a b _=>(match b with
   | .Slice lo hi st _=>(match st with
    |none=>(match trE n Γ a,trO n Γ lo,trO n Γ hi with|some a',some l,some h=>some (.sl a' l h)|_,_,_=>none)
    |some k=>(match lo,hi,k with
     |none,none,.UnaryOp .USub (.Constant (.int 1) _ _) _=>(trE n Γ a).map .rev
     |_,_,_=>none))
   |b=>if Zm b then (match trE n Γ a,trE n Γ b with|some a',some b'=>some (.idx a' b')|_,_=>none) else none)
  | .List es _=>if es.all qf then (trA n Γ es).map .lst else none
  | .Tuple es _ _=>if es.all qf then (trA n Γ es).map .tup else none
  | .Dict ks vs _=>(match ks,vs with|[],[]=>some .dnew|_,_=>none)
  | .ListComp elt gens scope _=>(match gens with
   | [gen]=>(match gen with
    | ⟨tg,iter,ifs,asy⟩=>(match asy with
     | 0=>
      let N:=l9 tg++qEh scope
      let src:=(l9 tg).map (λ_=>none)++(qEh scope).map (slot Γ.N)
      let Γ':Gam:={ Γ with N:=N,sc:=qFl scope Γ.sc,own:=λx=>decide (scope.names.lookup x=some .cell) }
      if JV Γ scope N src&&L4 iter then (match trI n Γ tg iter,trT Γ' tg,qDj n Γ' ifs,trE n Γ' elt with|some it,some g,some c,some e'=>some (.comp it src g c e')|_,_,_,_=>none) else none
     |_=>none))
   |_=>none)
  |_=>none
noncomputable def trA:Nat->Gam->List Expr->Option Es
 | 0,_,_=>none
 |_+1,_,[]=>some .nil
 |n+1,Γ,e::es=>match trE n Γ e,trA n Γ es with|some a,some as=>some (.cons a as)|_,_=>none
noncomputable def trB:Nat->Gam->BoolOp->Pos->List Expr->Option E
 | 0,_,_,_,_=>none
 |_+1,_,_,_,[]=>none
 |n+1,Γ,_,_,[a]=>trE n Γ a
 |n+1,Γ,op,p,a::b::r=>match trE n Γ a,trB n Γ op p (b::r) with|some a',some b'=>some (match op with | .And=>.and a' b' | .Or=>.or a' b')|_,_=>none
noncomputable def trC:Nat->Gam->Str->List Expr->Option E
 | 0,_,_,_=>none
 |n+1,Γ,f,args=>match slot Γ.fns f with
  |some i=>(trA n Γ args).map (.call i)
  |none=>if Γ.bl.contains f then
    (if f="isinstance" then (match args with
     | [a,.Name t _]=>if okN t&&glB Γ.sc t&&Γ.bl.contains t then (match trE n Γ a,qGp t with|some a',some t'=>some (.isi a' [t'])|_,_=>none) else none
     |_=>none)
    else if f="list"/\qF2 args=true then (match args with
     | [.Call (.Name r _) [a] [] _]=>if okN r&&glB Γ.sc r&&Γ.bl.contains r&&qf a&&decide (r="range") then (trE n Γ a).map .lrng else none
     |_=>none)
    else if f="len"/\qBT args=true then (match args with
     | [.Call (.Name r _) [a] [] _]=>if okN r&&glB Γ.sc r&&Γ.bl.contains r&&qf a&&decide (r="set") then (trE n Γ a).map .nset else none
     |_=>none)
    else if f="sorted"/\qBT args=true then (match args with
     | [.Call (.Name r _) [a] [] _]=>if okN r&&glB Γ.sc r&&Γ.bl.contains r&&qf a&&decide (r="set") then (trE n Γ a).map .sset else none
     |_=>none)
    else match qGI f,args with
     |some b,_::_=>(trA n Γ args).map (.blt (mxA b args))
     |_,_=>none)
   else none
noncomputable def trO:Nat->Gam->Option Expr->Option Es
 | 0,_,_=>none
 |_+1,_,none=>some .nil
 |n+1,Γ,some e=>(trE n Γ e).map λa=>.cons a .nil
noncomputable def qDj:Nat->Gam->List Expr->Option Es
 | 0,_,_=>none
 |_+1,_,[]=>some .nil
 |n+1,Γ,[c]=>(trE n Γ c).map λa=>.cons a .nil
 |_,_,_=>none
noncomputable def trI:Nat->Gam->Expr->Expr->Option Itr
 | 0,_,_,_=>none
 |n+1,Γ,tg,iter=>match iter with
  | .Call (.Name f _) args [] _=>
   if f="range" then (if glB Γ.sc f&&Γ.bl.contains f&&args.all qf then (match args with
    | [a]=>(trE n Γ a).map .rng1
    | [a,b]=>match trE n Γ a,trE n Γ b with|some a',some b'=>some (.rng2 a' b')|_,_=>none
    |_=>none) else none)
   else if f="zip" then (if glB Γ.sc f&&Γ.bl.contains f&&args.all qf then (match tg,args with
    | .Tuple ..,[a,b]=>match trE n Γ a,trE n Γ b with|some a',some b'=>some (.zip a' b')|_,_=>none
    |_,_=>none) else none)
   else (trE n Γ iter).map .list
  |_=>(trE n Γ iter).map .list
end
mutual
noncomputable def trS:Nat->Gam->Stmt->S
 | 0,_,_=>.stop
 |n+1,Γ,st=>match st with
  | .Assign ts v _=>(match ts with
   | [tgt]=>(match tgt with
    | .Name x _=>(match trT Γ (.Name x ⟨0,0,0,0⟩),trE 60 Γ v with|some g,some a=>if qHS a then .asg g a else .stop|_,_=>.stop)
    | .Tuple es k p=>(match es,v with
     | [.Name _ _,.Name _ _],.Tuple [_,_] _ _=>.stop
     |es,v=>if QV v&&qFe v then (match trT Γ (.Tuple es k p),trE 60 Γ v with|some g,some a=>.asg g a|_,_=>.stop) else .stop)
    | .Subscript o i _=>if QV v&&Zm i then (match trE 60 Γ o,trE 60 Γ i,trE 60 Γ v with|some o',some i',some v'=>.put o' i' v' | _,_,_=>.stop) else .stop
    |_=>.stop)
   |_=>.stop)
  | .Expr e _=>if QV e then (match trE 60 Γ e with|some a=>.expr a|none=>.stop) else .stop
  | .Return r _=>(match r with
   |some e=>(match trE 60 Γ e with|some a=>.ret a|none=>.stop)
   |none=>.stop)
  | .If c t u _=>match trE 60 Γ c with|some c'=>.ifs c' (r6 n Γ t) (r6 n Γ u)|none=>.stop
  | .For tg iter b els _=>(match els with
   | []=>if L4 iter then (match trI 60 Γ tg iter,trT Γ tg with|some it,some g=>.for_ g it (r6 n Γ b)|_,_=>.stop) else .stop
   |_=>.stop)
  |_=>.stop
noncomputable def r6:Nat->Gam->List Stmt->Ss
 | 0,_,_=>.cons .stop .nil
 |_+1,_,[]=>.nil
 |n+1,Γ,s::r=>.cons (trS n Γ s) (r6 n Γ r)
end
structure Fit(Γ:Gam)(X:Cx)(G:List Addr)(F:Nat->List V->AH->RV):Prop where
 hN:X.N=Γ.N
 nd:Γ.N.Nodup
 sc:X.env.scope=Γ.sc
 calm:X.calm=true
 fn:∀x,Γ.own x=true->X.fn x=true
 fns:∀(f:Nat) x,Γ.fns[f]?=some x->FnS X G F f x
 gls:∀x e,Γ.gl.lookup x=some e->(∃v u,e=.cst v/\X.mg x=some u/\RelV v u/\∀φ,rv φ v v)\/(∃g a,e=.glob g/\X.mg x=some (.ref a)/\G[g]?=some a)
 blt:∀x,Γ.bl.contains x=true->X.mg x=none
 hu:X.A.units+8<cLine
 gd:X.A.guards=some []
 gtu:∀a∈G,∃o,X.K.lookup a=some o/\o.cls=.type "tuple"/\o.dict=none
section
variable{Γ:Gam}{X:Cx}{G:List Addr}{F:Nat->List V->AH->RV}
theorem a6{x:Str}(h:okN x=true):(x==("__debug__":Str))=false/\(x==("__classdict__":Str))=false/\x≠"__name__":=by
 unfold okN at h;simp only[wF,Bool.not_eq_true',decide_eq_false_iff_not]at h;exact⟨h.1.1,h.1.2,h.2⟩
theorem Fit.gl'(f:Fit Γ X G F){x:Str}(h:glB Γ.sc x=true):_L.Gl X x:=by
 unfold _L.Gl Env.kindOf;rw[f.sc];simpa [glB] using h
theorem Fit.store(f:Fit Γ X G F){x:Str}(h:Q5 Γ x=true):_L.Loc X.env.scope x/\(X.fn x=true\/X.env.scope.names.lookup x=some .local):=by
 rw[f.sc];unfold Q5 at h;unfold _L.Loc;split at h
 ·rename_i e;exact⟨.inl e,.inr e⟩
 ·rename_i e;exact⟨.inr e,.inl (f.fn x h)⟩
 ·cases h
theorem qBk(f:Fit Γ X G F):∀{es:List Expr}{is:List Nat},qFq Γ es=some is->PGs X es (tGs is)/\(assignEach es X.env).length=is.length/\(assignEach es X.env).findIdx? (·.1)=none
 | [],is,h=>by
  cases h;exact⟨qCH,rfl,rfl⟩
 |e::es,is,h=>by
  unfold qFq at h;split at h
  ·rename_i e1;cases e1
  ·rename_i x p r e1;cases e1;split at h
   ·rename_i hs;split at h
    ·rename_i i is' ei eis;cases h;obtain⟨h1,h2⟩:=f.store hs;obtain⟨g1,g2,g3⟩:=qBk f eis;refine⟨qA1 (by rw[f.hN];exact f.nd) (by rw[f.hN];exact Qx ei) h1 h2 g1,?_,?_⟩
     ·show (assignEach es X.env).length+1=_;rw[g2];rfl
     ·show (((false,assign (.Name x p) X.env)::assignEach es X.env).findIdx? (·.1))=none;rw[List.findIdx?_cons,g3];rfl
    ·cases h
   ·cases h
  ·cases h
theorem h9(f:Fit Γ X G F){tg:Expr}{g:Tg}(h:trT Γ tg=some g):SG X G tg g:=by
 unfold trT at h;split at h
 ·rename_i x p;split at h
  ·rename_i hs;obtain⟨i,ei,rfl⟩:=wA.mp h;obtain⟨h1,h2⟩:=f.store hs;exact i7 (by rw[f.hN];exact f.nd) (by rw[f.hN];exact Qx ei) h1 h2
  ·cases h
 ·obtain⟨is,ei,rfl⟩:=wA.mp h;obtain⟨g1,g2,g3⟩:=qBk f ei;exact qE4 f.calm g1 g2 g3
 ·cases h
theorem j2{op:CmpOp}{e:Expr}(h:L4 e=true):behindInMarks op e=false:=by
 cases e<;>first|rfl|cases h
theorem qAJ{o1 o2:CmpOp}{b c:Expr}(h:L4 c=true):lastMarks [o1,o2] [b,c]=false:=by
 show behindInMarks o2 c=false;exact j2 h
theorem v8{iter:Expr}{env:Env}(h:L4 iter=true):∀x,foldedSetIterable iter env x=pure x:=by
 intro x;cases iter<;>first|rfl|cases h
theorem qB0{o:Expr}{n:Str}{env:Env}{w:Sem Value}(h:qAL o=true):attributeBase o n env w=w:=by
 cases o<;>first|rfl|cases h
theorem Ql(f:Fit Γ X G F){scope:Scope}{N:List Str}{src:List (Option Nat)}(h:JV Γ scope N src=true):_L.CompScope X scope N src:=by
 unfold JV at h;simp only[wF,wc,uT]at h;obtain⟨⟨⟨⟨⟨h1,h2⟩,h4⟩,h5⟩,h6⟩,h7⟩:=h;refine⟨h1,h2,λy hy hk=>?_,h5,h6,λi x j e1 e2=>?_⟩
 ·unfold Env.kindOf;rw[f.sc];exact h4 y hy hk
 ·have hi:i<N.length:=(wC.mp e1).1;have:=h7 i (wT.mpr hi);rw[e1,e2]at this;rw[f.hN];simpa using this
theorem jw(f:Fit Γ X G F){scope:Scope}{N:List Str}{src:List (Option Nat)}(h:JV Γ scope N src=true)(C:Addr)(fp:List Addr)(s:Shared)(H:Hp):
  Fit { Γ with N:=N,sc:=qFl scope Γ.sc,own:=λx=>decide (scope.names.lookup x=some .cell) } (_L.cxComp X scope C fp s H N) G F:=by
 have S:=Ql f h;refine⟨rfl,S.nd,?_,f.calm,λx z=>z,λg x e=>?_,f.gls,f.blt,f.hu,f.gd,f.gtu⟩
 ·show relabel scope X.env=qFl scope Γ.sc;unfold relabel qFl Env.kindOf;rw[f.sc]
 ·exact⟨(f.fns g x e).ex⟩
theorem O8(n:Nat):
  (∀ Γ e a,trE n Γ e=some a->∀X:Cx,Fit Γ X G F->SE X G F e a/\ST X G F e a)/\
  (∀ Γ es as,trA n Γ es=some as->es.all qf=true->∀X:Cx,Fit Γ X G F->SA X G F es as)/\
  (∀ Γ op p vs a,trB n Γ op p vs=some a->∀X:Cx,Fit Γ X G F->SE X G F (.BoolOp op vs p) a/\SW X G F (.BoolOp op vs p) a)/\
  (∀ Γ f args a,trC n Γ f args=some a->okN f=true->glB Γ.sc f=true->args.all qf=true->∀X:Cx,Fit Γ X G F->∀p pos,SE X G F (.Call (.Name f p) args [] pos) a)/\
  (∀ Γ o as,trO n Γ o=some as->∀X:Cx,Fit Γ X G F->SO X G F o as)/\
  (∀ Γ ifs as,qDj n Γ ifs=some as->∀X:Cx,Fit Γ X G F->SC X G F ifs as)/\
  (∀ Γ tg iter it,trI n Γ tg iter=some it->∀X:Cx,Fit Γ X G F->SI X G F tg iter it):=by
 induction n with
 |zero=>exact⟨(λ_ _ _ h=>by unfold trE at h;cases h),(λ_ _ _ h=>by unfold trA at h;cases h),(λ_ _ _ _ _ h=>by unfold trB at h;cases h),(λ_ _ _ _ h=>by unfold trC at h;cases h),(λ_ _ _ h=>by unfold trO at h;cases h),(λ_ _ _ h=>by unfold qDj at h;cases h),(λ_ _ _ _ h=>by unfold trI at h;cases h)⟩
 |succ n ih=>
  obtain⟨iE,iA,iB,iC,iO,iIf,iI⟩:=ih;refine⟨?_,?_,?_,?_,?_,?_,?_⟩
  ·intro Γ e a h X f;unfold trE at h;split at h
   ·split at h
    ·cases h;exact⟨g8,qZ g8 λ_=>rfl⟩
    ·cases h;exact⟨qFK,qZ qFK λ_=>rfl⟩
    ·cases h;exact⟨qBv,qZ qBv λ_=>rfl⟩
    ·cases h;exact⟨qB1,qZ qB1 λ_=>rfl⟩
    ·cases h
   ·rename_i x p;split at h
    ·rename_i ho;obtain⟨o1,o2,o3⟩:=a6 ho;split at h
     ·rename_i hv;obtain⟨i,ei,rfl⟩:=wA.mp h;have s1:SE X G F (.Name x p) (.var i):=qEu (by rw[f.hN];exact Qx ei) (by rw[f.sc];exact qDX hv) o1 o2;exact⟨s1,qZ s1 λ_=>rfl⟩
     ·split at h
      ·rename_i hg;rcases f.gls x a h with⟨v,u,rfl,e1,e2,e3⟩|⟨g,ad,rfl,e1,e2⟩
       ·have s1:SE X G F (.Name x p) (.cst v):=qDG (f.gl' hg) e1 e2 e3 o1;exact⟨s1,qZ s1 λ_=>rfl⟩
       ·have s1:SE X G F (.Name x p) (.glob g):=qCK (f.gl' hg) e1 e2 o1;exact⟨s1,qZ s1 λ_=>rfl⟩
      ·cases h
    ·cases h
   ·split at h
    ·rename_i o a' b' eo ea eb;cases h;rw[qC0 eo];exact⟨qBo (iE _ _ _ ea X f).1 (iE _ _ _ eb X f).1,qZ (qBo (iE _ _ _ ea X f).1 (iE _ _ _ eb X f).1) λ_=>rfl⟩
    ·cases h
   ·split at h
    ·obtain⟨a',ea,rfl⟩:=wA.mp h;have s1:=qBp (pos:=‹Pos›) (iE _ _ _ ea X f).1;exact⟨s1,qZ s1 λ_=>rfl⟩
    ·obtain⟨a',ea,rfl⟩:=wA.mp h;exact⟨qD4 (iE _ _ _ ea X f).1,qDq (iE _ _ _ ea X f).2⟩
    ·cases h
   ·obtain⟨s1,s2⟩:=iB _ _ _ _ _ h X f;exact⟨s1,s2.pt⟩
   ·split at h
    ·rename_i c' a' b' ec ea eb;cases h;exact⟨qFJ (iE _ _ _ ec X f).2 (iE _ _ _ ea X f).1 (iE _ _ _ eb X f).1,qEn (iE _ _ _ ec X f).2 (iE _ _ _ ea X f).2 (iE _ _ _ eb X f).2⟩
    ·cases h
   ·split at h
    ·rename_i op b0;split at h
     ·rename_i hs;split at h
      ·rename_i a' b' ea eb;cases h;rw[J5 op];have e1:W4 (opC (W4 op))=W4 op:=by cases op<;>rfl
       rw[e1];exact⟨qE1 f.hu (iE _ _ _ ea X f).1 (iE _ _ _ eb X f).1 (j2 hs),qFT f.hu (iE _ _ _ ea X f).1 (iE _ _ _ eb X f).1 (j2 hs)⟩
      ·cases h
     ·cases h
    ·rename_i o1 o2 b0 c0;split at h
     ·rename_i hs;split at h
      ·rename_i a' b' c' ea eb ec;cases h;rw[J5 o1,J5 o2];have e1:W4 (opC (W4 o1))=W4 o1:=by cases o1<;>rfl
       have e2:W4 (opC (W4 o2))=W4 o2:=by cases o2<;>rfl
       rw[e1,e2];exact⟨qAe f.hu (iE _ _ _ ea X f).1 (iE _ _ _ eb X f).1 (iE _ _ _ ec X f).1 (qAJ hs),qAf f.hu (iE _ _ _ ea X f).1 (iE _ _ _ eb X f).1 (iE _ _ _ ec X f).1 (qAJ hs)⟩
      ·cases h
     ·cases h
    ·cases h
   ·split at h
    ·split at h
     ·split at h
      ·rename_i hc;simp only[wF]at hc;have s1:=iC _ _ _ _ h hc.1.1 hc.1.2 hc.2 X f;exact⟨s1 _ _,qZ (s1 _ _) λ_=>rfl⟩
      ·cases h
     ·split at h
      ·split at h
       ·rename_i hc;obtain⟨rfl,hc1,hc2,hc3⟩:=hc;split at h
        ·rename_i o' x' eo ex;cases h;have s1:=qES (qB0 hc1) hc3 hc2 (iE _ _ _ eo X f).1 (iE _ _ _ ex X f).1;exact⟨s1,qZ s1 λ_=>rfl⟩
        ·cases h
       ·cases h
      ·split at h
       ·rename_i hm;subst hm;split at h
        ·rename_i hc;obtain⟨o',eo,rfl⟩:=wA.mp h;have s1:=qDI f.calm f.hu f.gd (qB0 hc.1) hc.2 (iE _ _ _ eo X f).1;exact⟨s1,qZ s1 λ_=>rfl⟩
        ·cases h
       cases h
      ·cases h
     ·cases h
    ·cases h
   ·split at h
    ·split at h
     ·split at h
      ·rename_i a' l h' ea el eh;cases h;exact⟨qE9 (iE _ _ _ ea X f).1 (iO _ _ _ el X f) (iO _ _ _ eh X f),qZ (qE9 (iE _ _ _ ea X f).1 (iO _ _ _ el X f) (iO _ _ _ eh X f)) λ_=>rfl⟩
      ·cases h
     ·split at h
      ·obtain⟨a',ea,rfl⟩:=wA.mp h;exact⟨qBy (iE _ _ _ ea X f).1 (I0 qEi),qZ (qBy (iE _ _ _ ea X f).1 (I0 qEi)) λ_=>rfl⟩
      ·cases h
    ·split at h
     ·rename_i hs;split at h
      ·rename_i a' b' ea eb;cases h;have s1:=qFf (pos:=‹Pos›) hs (iE _ _ _ ea X f).1 (iE _ _ _ eb X f).1;exact⟨s1,qZ s1 λ_=>rfl⟩
      ·cases h
     ·cases h
   ·split at h
    ·rename_i hs;obtain⟨a',ea,rfl⟩:=wA.mp h;have s1:=qEt (pos:=‹Pos›) (iA _ _ _ ea hs X f);exact⟨s1,qZ s1 λ_=>rfl⟩
    ·cases h
   ·split at h
    ·rename_i hs;obtain⟨a',ea,rfl⟩:=wA.mp h;exact⟨qBj (iA _ _ _ ea hs X f),qZ (qBj (iA _ _ _ ea hs X f)) λ_=>rfl⟩
    ·cases h
   ·split at h
    ·cases h;exact⟨d8,qZ d8 λ_=>rfl⟩
    ·cases h
   ·split at h
    ·split at h;split at h
     ·dsimp only at h;split at h
      ·rename_i hc;simp only[wF]at hc;split at h
       ·rename_i it g c e' ei eg ec ee;cases h;have s1:=a7 (pos:=‹Pos›) f.calm (iI _ _ _ _ ei X f) (Ql f hc.1) (λC fp s H=>h9 (jw f hc.1 C fp s H) eg) (λC fp s H=>iIf _ _ _ ec _ (jw f hc.1 C fp s H)) (λC fp s H=>(iE _ _ _ ee _ (jw f hc.1 C fp s H)).1) (v8 hc.2);exact⟨s1,qZ s1 λ_=>rfl⟩
       ·cases h
      ·cases h
     ·cases h
    ·cases h
   ·cases h
  ·intro Γ es as h hs X f;cases es with
   |nil=>simp only[trA]at h;cases h;exact qEc
   |cons e es=>
    simp only[trA]at h;simp only[List.all_cons,wF]at hs;split at h
    ·rename_i a as ea eas;cases h;exact qCk hs.1 (iE _ _ _ ea X f).1 (iA _ _ _ eas hs.2 X f)
    ·cases h
  ·intro Γ op p vs a h X f;cases vs with
   |nil=>simp only[trB]at h;cases h
   |cons e r=>
    cases r with
    |nil=>
     simp only[trB]at h;obtain⟨s1,s2⟩:=iE _ _ _ h X f;refine⟨_L.pe_one s1,?_⟩;cases op with
     |And=>exact _L.pw_and1 s2
     |Or=>exact _L.pw_or1 s2
    |cons b r=>
     simp only[trB]at h;split at h
     ·rename_i a' b' ea eb;cases h;obtain⟨s1,s2⟩:=iE _ _ _ ea X f;obtain⟨s3,s4⟩:=iB _ _ _ _ _ eb X f;cases op with
      |And=>exact⟨qEY s1 s3,qFW s2 s4⟩
      |Or=>exact⟨qGA s1 s3,qGV s2 s4⟩
     ·cases h
  ·intro Γ g args a h ho hg hs X f p pos;obtain⟨o1,o2,o3⟩:=a6 ho;unfold trC at h;split at h
   ·rename_i i ei;obtain⟨as,ea,rfl⟩:=wA.mp h;have sA:=iA _ _ _ ea hs X f;cases args with
    |nil=>
     have:as=.nil:=by
      cases n with
      |zero=>simp only[trA]at ea;cases ea
      |succ m=>simp only[trA]at ea;cases ea;rfl
     subst this;exact qBQ (f.fns i g (Qx ei)) (f.gl' hg) o1
    |cons e es=>
     simp only[List.all_cons,wF]at hs;exact qDL (f.fns i g (Qx ei)) (f.gl' hg) o1 hs.1 hs.2 sA
   ·split at h
    ·rename_i hb;split at h
     ·rename_i hi;subst hi;split at h
      ·rename_i e0 t pt;split at h
       ·rename_i hc;simp only[wF]at hc;obtain⟨t1,t2,t3⟩:=a6 hc.1.1;split at h
        ·rename_i a' t' ea et;cases h;obtain⟨b1,b2⟩:=qCl et;simp only[List.all_cons,wF]at hs;exact qEb b2 (f.gl' hg) (f.blt _ hb) (f.gl' hc.1.2) (f.blt _ hc.2) b1 t3 t1 hs.1 (iE _ _ _ ea X f).1
        ·cases h
       ·cases h
      ·cases h
     ·split at h
      ·rename_i hl;obtain⟨rfl,_⟩:=hl;split at h
       ·rename_i r pr e0 pc;split at h
        ·rename_i hc;simp only[wF,uT]at hc;obtain⟨⟨⟨⟨c1,c2⟩,c3⟩,c4⟩,rfl⟩:=hc;obtain⟨a',ea,rfl⟩:=wA.mp h;exact qCv f.calm (f.gl' hg) (f.blt _ hb) (f.gl' c2) (f.blt _ c3) c4 (iE _ _ _ ea X f).1
        ·cases h
       ·cases h
      rename_i hneg;clear hneg;split at h
      ·rename_i hl;obtain⟨rfl,_⟩:=hl;split at h
       ·rename_i r pr e0 pc;split at h
        ·rename_i hc;simp only[wF,uT]at hc;obtain⟨⟨⟨⟨c1,c2⟩,c3⟩,c4⟩,rfl⟩:=hc;obtain⟨a',ea,rfl⟩:=wA.mp h;exact qCP f.calm (f.gl' hg) (f.blt _ hb) (f.gl' c2) (f.blt _ c3) c4 (iE _ _ _ ea X f).1
        ·cases h
       ·cases h
      rename_i hneg;clear hneg;split at h
      ·rename_i hl;obtain⟨rfl,_⟩:=hl;split at h
       ·rename_i r pr e0 pc;split at h
        ·rename_i hc;simp only[wF,uT]at hc;obtain⟨⟨⟨⟨c1,c2⟩,c3⟩,c4⟩,rfl⟩:=hc;obtain⟨a',ea,rfl⟩:=wA.mp h;exact qCF f.calm (f.gl' hg) (f.blt _ hb) (f.gl' c2) (f.blt _ c3) c4 (iE _ _ _ ea X f).1
        ·cases h
       ·cases h
      rename_i hneg;clear hneg;split at h
      ·rename_i b e es eb;obtain⟨as,ea,rfl⟩:=wA.mp h;have sA:=iA _ _ _ ea hs X f;simp only[List.all_cons,wF]at hs;exact qEN f.calm f.hu f.gd (f.gl' hg) (f.blt _ hb) (qFd eb) hs.1 hs.2 sA o3 o1
      ·cases h
    ·cases h
  ·intro Γ o as h X f;cases o with
   |none=>simp only[trO]at h;cases h;exact qCU
   |some e=>
    simp only[trO]at h;obtain⟨a,ea,rfl⟩:=wA.mp h;exact I0 (iE _ _ _ ea X f).1
  ·intro Γ ifs as h X f;cases ifs with
   |nil=>simp only[qDj]at h;cases h;exact qFE
   |cons e r=>
    cases r with
    |nil=>
     simp only[qDj]at h;obtain⟨a,ea,rfl⟩:=wA.mp h;exact qFg (iE _ _ _ ea X f).2
    |cons b r=>simp only[qDj]at h;cases h
  ·intro Γ tg iter it h X f;unfold trI at h;split at h
   ·rename_i fn p args pos;split at h
    ·rename_i hf;subst hf;split at h
     ·rename_i hc;simp only[wF]at hc;split at h
      ·rename_i e;obtain⟨a,ea,rfl⟩:=wA.mp h;have hs:=hc.2;simp only[List.all_cons,wF]at hs;exact qDF (f.gl' hc.1.1) (f.blt _ hc.1.2) hs.1 (iE _ _ _ ea X f).1
      ·rename_i e e2;split at h
       ·rename_i a' b' ea eb;cases h;have hs:=hc.2;simp only[List.all_cons,wF]at hs;exact qCX (f.gl' hc.1.1) (f.blt _ hc.1.2) hs.1 hs.2.1 (iE _ _ _ ea X f).1 (iE _ _ _ eb X f).1
       ·cases h
      ·cases h
     ·cases h
    ·split at h
     ·rename_i hf;subst hf;split at h
      ·rename_i hc;simp only[wF]at hc;split at h
       ·split at h
        ·rename_i a' b' ea eb;cases h;have hs:=hc.2;simp only[List.all_cons,wF]at hs;exact qED (f.gl' hc.1.1) (f.blt _ hc.1.2) hs.1 hs.2.1 (iE _ _ _ ea X f).1 (iE _ _ _ eb X f).1
        ·cases h
       ·cases h
      ·cases h
     ·obtain⟨a,ea,rfl⟩:=wA.mp h;exact w5 (iE _ _ _ ea X f).1
   ·obtain⟨a,ea,rfl⟩:=wA.mp h;exact w5 (iE _ _ _ ea X f).1
end
open _L (FnOk Fun zV Binds Room)
section
variable{G:List Addr}{F:Nat->List V->AH->RV}
theorem Jt{Γ:Gam}{X:Cx}(f:Fit Γ X G F)(hx:∀x,Γ.own x=true){n:Nat}{elt:Expr}{gens:List Comprehension}{scope:Scope}{cpos p pos:Pos}{a:E}{x:Str}{g:Tg}(hd:qHS a=true)(h:trE n Γ (.ListComp elt gens scope cpos)=some a)
  (hg:trT Γ (.Name x ⟨0,0,0,0⟩)=some g):SS X G F (.Assign [.Name x p] (.ListComp elt gens scope cpos) pos) (.asg g a):=by
 cases n with
 |zero=>unfold trE at h;cases h
 |succ n=>
  unfold trT at hg;dsimp only at hg;split at hg
  ·rename_i hs;obtain⟨i,ei,rfl⟩:=wA.mp hg;obtain⟨h1,h2⟩:=f.store hs;obtain⟨iE,iA,iB,iC,iO,iIf,iI⟩:=O8 (G:=G) (F:=F) n;unfold trE at h;dsimp only at h;split at h
   ·split at h;split at h
    ·split at h
     ·rename_i hc;simp only[wF]at hc;split at h
      ·rename_i it g c e' ei' eg ec ee;cases h;exact qDH f.calm (iI _ _ _ _ ei' X f) (Ql f hc.1) (λC fp s H=>h9 (jw f hc.1 C fp s H) eg) (λC fp s H=>iIf _ _ _ ec _ (jw f hc.1 C fp s H)) (λC fp s H=>(iE _ _ _ ee _ (jw f hc.1 C fp s H)).1) (v8 hc.2) (by rw[f.hN];exact f.nd) (by rw[f.hN];exact Qx ei) h1 h2
      ·cases h
     ·cases h
    ·cases h
   ·cases h
  ·cases hg
theorem u5(n:Nat):(∀ Γ st (X:Cx),Fit Γ X G F->(∀x,Γ.own x=true)->X.xe=(λ_ _=>False)->SS X G F st (trS n Γ st))/\(∀ Γ sts (X:Cx),Fit Γ X G F->(∀x,Γ.own x=true)->X.xe=(λ_ _=>False)->SSs X G F sts (r6 n Γ sts)):=by
 induction n with
 |zero=>
  refine⟨fun Γ st X f ho hx=>?_,fun Γ sts X f ho hx=>?_⟩
  ·unfold trS;exact qq
  ·unfold r6;intro pins s σ H D I q;obtain⟨φ,h,σa,o,h',R,rs,e,k⟩:=q;unfold exs ex at e;cases e
 |succ n ih=>
  obtain⟨i1,i2⟩:=ih;obtain⟨iE,iA,iB,iC,iO,iIf,iI⟩:=O8 (G:=G) (F:=F) 60;refine⟨fun Γ st X f ho hx=>?_,fun Γ sts X f ho hx=>?_⟩
  ·unfold trS;split
   ·split
    ·split
     ·rename_i v pos _ _ x p;split
      ·rename_i g a eg ea;split
       ·rename_i hd;by_cases hc:QV v=true
        ·refine Ju (_L.ps_asg (iE _ _ _ ea X f).1 (h9 f (tg:=.Name x p) eg) (Qo hc) (by cases v<;>rfl) rfl) λ_ _ _=>Q3
        ·cases v with
         |ListComp elt gens scope cpos=>exact Jt f ho hd ea eg
         |SetComp elt gens scope cpos=>unfold trE at ea;cases ea
         |DictComp k elt gens scope cpos=>unfold trE at ea;cases ea
         |_=>exact absurd rfl hc
       ·exact qq
      ·exact qq
     ·split
      ·exact qq
      ·split
       ·rename_i hc;simp only[wF]at hc;split
        ·rename_i g a eg ea;have hg:=eg;unfold trT at hg;obtain⟨is,ei,rfl⟩:=wA.mp hg;exact qEM (h9 f eg) (iE _ _ _ ea X f).1 hc.1 hc.2
        ·exact qq
       ·exact qq
     ·split
      ·rename_i hc;simp only[wF]at hc;split
       ·rename_i o' i' v' eo ei ev;exact qD7 f.hu (iE _ _ _ eo X f).1 (iE _ _ _ ei X f).1 (iE _ _ _ ev X f).1 hc.1 hc.2
       ·exact qq
      ·exact qq
     ·exact qq
    ·exact qq
   ·split
    ·rename_i hc;split
     ·rename_i a ea;exact qDJ (iE _ _ _ ea X f).1 hc
     ·exact qq
    ·exact qq
   ·split
    ·split
     ·rename_i a ea;exact qEl (iE _ _ _ ea X f).1
     ·exact qq
    ·exact qq
   ·split
    ·rename_i a ea;exact qFh (iE _ _ _ ea X f).2 (i2 _ _ X f ho hx) (i2 _ _ X f ho hx)
    ·exact qq
   ·split
    ·split
     ·rename_i hs;split
      ·rename_i it g ei eg;exact qEp hx f.calm (iI _ _ _ _ ei X f) (h9 f eg) (i2 _ _ X f ho hx) (v8 hs)
      ·exact qq
     ·exact qq
    ·exact qq
   ·exact qq
  ·cases sts with
   |nil=>unfold r6;exact qCg
   |cons s r=>unfold r6;exact qBM (i1 _ _ X f ho hx) (i2 _ _ X f ho hx)
end
theorem len1{α:Type}{us:List α}(h:us.length=1):∃a,us=[a]:=List.length_eq_one_iff.mp h
theorem len2{α:Type}{us:List α}(h:us.length=2):∃a b,us=[a,b]:=by
 cases us with
 |nil=>cases h
 |cons a r=>obtain⟨b,rfl⟩:=len1 (us:=r) (by simpa using h);exact⟨a,b,rfl⟩
theorem len3{α:Type}{us:List α}(h:us.length=3):∃a b c,us=[a,b,c]:=by
 cases us with
 |nil=>cases h
 |cons a r=>obtain⟨b,c,rfl⟩:=len2 (us:=r) (by simpa using h);exact⟨a,b,c,rfl⟩
theorem len4{α:Type}{us:List α}(h:us.length=4):∃a b c d,us=[a,b,c,d]:=by
 cases us with
 |nil=>cases h
 |cons a r=>obtain⟨b,c,d,rfl⟩:=len3 (us:=r) (by simpa using h);exact⟨a,b,c,d,rfl⟩
theorem len5{α:Type}{us:List α}(h:us.length=5):∃a b c d e,us=[a,b,c,d,e]:=by
 cases us with
 |nil=>cases h
 |cons a r=>obtain⟨b,c,d,e,rfl⟩:=len4 (us:=r) (by simpa using h);exact⟨a,b,c,d,e,rfl⟩
structure L5 where
 x:Str
 st:Stmt
 ps:List Str
 N:List Str
set_option genInjectivity false in structure Tbl where
 ds:List L5
 gl:List (Str×E)
 bl:List Str
 cls:List Str:=[]
 xr:List Str:=[]
noncomputable def Tbl.gam(T:Tbl)(d:L5):Gam:=⟨d.N,_L.defScope d.st,T.ds.map (·.x),T.gl,T.bl,λ_=>true,T.cls,T.xr.contains d.x⟩
noncomputable def Tbl.fn(T:Tbl)(d:L5):Fn:=⟨d.ps.length,d.N.length,r6 60 (T.gam d) (_L.defBody d.st)⟩
noncomputable def Tbl.fns(T:Tbl):List Fn:=T.ds.map T.fn
structure qBI(K:PySem.W.Frag)(mg:Str->Option Value)(G:List Addr)(T:Tbl)(fa:List Addr)(fd:List FuncData):Prop where
 def_:∀(i:Nat) d,T.ds[i]?=some d->∃a f,fa[i]?=some a/\fd[i]?=some f/\Fun K d.x d.x d.st a f/\zV d.N d.ps (_L.defScope d.st)/\mg d.x=some (.ref a)/\Binds K f d.ps []
 gls:∀x e,T.gl.lookup x=some e->(∃v u,e=.cst v/\mg x=some u/\RelV v u/\∀φ,rv φ v v)\/(∃g a,e=.glob g/\mg x=some (.ref a)/\G[g]?=some a)
 blt:∀x,T.bl.contains x=true->mg x=none
 gtu:∀a∈G,∃o,K.lookup a=some o/\o.cls=.type "tuple"/\o.dict=none
theorem y9{φ:List Addr}{ws vs:List V}(r:rvs φ ws vs)(n:Nat):rst φ (ws.map some++List.replicate n none) (vs.map some++List.replicate n none):=by
 refine qU ?_ ?_
 ·induction r with
  |nil=>exact .nil
  |cons h t ih=>exact .cons ⟨_,rfl,h⟩ ih
 ·induction n with
  |zero=>exact .nil
  |succ n ih=>exact .cons trivial ih
section
variable{P:Program}{w:World}{K:PySem.W.Frag}{mg:Str->Option Value}{base:Heap}{G:List Addr}{T:Tbl}{fa:List Addr}{fd:List FuncData}
theorem qFR{k i:Nat}{d:L5}(h1:T.ds[i]?=some d){ws:List V}{h h':AH}{v:V}(e:Fk T.fns (k+1) i ws h=.ok (v,h')):ws.length=d.ps.length/\d.ps.length<=d.N.length/\∃o,exs (Fk T.fns k) (r6 60 (T.gam d) (_L.defBody d.st)) (ws.map some++List.replicate (d.N.length-d.ps.length) none) h=.ok (o,h')/\
  ((∃σ,o=.nx σ/\v=.non)\/o=.rt v):=by
 unfold Fk at e;have ht:T.fns[i]?=some (T.fn d):=by unfold Tbl.fns;rw[vB,h1];rfl
 rw[ht]at e;dsimp only at e;split at e
 ·rename_i hc;obtain⟨⟨o,h2⟩,e2,e⟩:=tM e;have e4:exs (Fk T.fns k) (r6 60 (T.gam d) (_L.defBody d.st)) (ws.map some++List.replicate (d.N.length-d.ps.length) none) h=.ok (o,h2):=e2;refine⟨hc.1,hc.2,o,?_,?_⟩
  ·cases o<;>cases e<;>exact e4
  ·cases o with
   |nx σ=>cases e;exact .inl ⟨σ,rfl,rfl⟩
   |rt u=>cases e;exact .inr rfl
   |bk σ=>cases e
   |ct σ=>cases e
 ·cases e
theorem qDn(O:qBI K mg G T fa fd){k:Nat}{d:L5}(f0:∀(i:Nat) d a f,T.ds[i]?=some d->fa[i]?=some a->fd[i]?=some f->FnOk P w K mg base _L.CX0 (2*k) a f d.ps (spF G (Fk T.fns k) K i))
  (hS:zV d.N d.ps (_L.defScope d.st)) (CX:_L.CXT) (a:Addr) (cdv:Value) (A:Around) (outer:List Env) (s:Shared) (H:Hp) (E:_L.XK) (E2:Value->Shared->Prop) (hr:Room (2*k+1) (A.deeper (envOfC d.x (_L.defScope d.st) s.heap.objs.size a cdv))):
  Fit (T.gam d) ((_L.cxOf CX P w K mg base d.N d.x (_L.defScope d.st) a cdv A outer s H E).wish E2) G (Fk T.fns k):=by
 have get:∀(g:Nat) x,(T.gam d).fns[g]?=some x->∃d2 a2 f2,T.ds[g]?=some d2/\d2.x=x/\fa[g]?=some a2/\fd[g]?=some f2/\mg x=some (.ref a2)/\PySem.W.keepIn K (.ref a2)=true/\Binds K f2 d2.ps []:=λg x eg=>by
  have eg':(T.ds.map (·.x))[g]?=some x:=eg;rw[vB]at eg';cases hd:T.ds[g]? with
  |none=>rw[hd]at eg';cases eg'
  |some d2=>
   rw[hd]at eg';cases eg';obtain⟨a2,f2,q1,q2,q3,q4,q5,q6⟩:=O.def_ g d2 hd;exact⟨d2,a2,f2,rfl,rfl,q1,q2,q5,q3.kp,q6⟩
 refine⟨rfl,hS.nd,rfl,rfl,λ_ _=>rfl,λg x eg=>?_,O.gls,O.blt,?_,hr.gd,O.gtu⟩
 ·obtain⟨d2,a2,f2,q1,rfl,q2,q3,q4,q5,q6⟩:=get g x eg;exact⟨2*k,a2,f2,d2.ps,f0 g d2 a2 f2 q1 q2 q3,hr.mono (Nat.le_succ _),q4,q5,q6,hr.in1⟩
 ·have:=hr.units;show (A.deeper (envOfC d.x (_L.defScope d.st) s.heap.objs.size a cdv)).units+8<cLine;omega
theorem P8(O:qBI K mg G T fa fd):∀(k:Nat) (i:Nat) d a f,T.ds[i]?=some d->fa[i]?=some a->fd[i]?=some f->FnOk P w K mg base _L.CX0 (2*k) a f d.ps (spF G (Fk T.fns k) K i)
 | 0=>λi d a f h1 h2 h3=>⟨(λvs H Q E h=>by obtain⟨_,_,_,_,_,_,_,e,_⟩:=h;unfold Fk at e;cases e),(λA outer s H args us vs Q E hr e0 hb r h=>by obtain⟨_,_,_,_,_,_,_,e,_⟩:=h;unfold Fk at e;cases e)⟩
 |k+1=>by
  have f0:=P8 O k;refine λi d a f h1 h2 h3=>?_;obtain⟨a',f',e1,e2,hF,hS,hm,hB⟩:=O.def_ i d h1;rw[h2]at e1;cases e1;rw[h3]at e2;cases e2;refine hF.ok hS (λvs H Q E h=>?_) (λcdv A outer s H vs Q E hr h=>?_)
  ·obtain⟨φ,h0,ws,v,h',R,r,e,_⟩:=h;rw[<-Paired.length r];exact(qFR h1 e).1
  ·obtain⟨φ,h0,ws,v,h',R,r,e,kk⟩:=h;obtain⟨l1,l2,o,eo,ho⟩:=qFR h1 e;have fit:=qDn O f0 hS _L.CX0 a cdv A outer s H E (λ_ _=>False) hr;refine⟨_,(u5 (G:=G) (F:=Fk T.fns k) 60).2 (T.gam d) (_L.defBody d.st) _ fit (λ_=>rfl) rfl,φ,h0,_,o,h',R,?_,eo,λφ' H' x' R'=>?_⟩
   ·unfold _L.start;rw[<-Paired.length r,l1];exact y9 r _
   ·rcases ho with⟨σ,rfl,rfl⟩|rfl
    ·exact λσc _=>kk φ' H' .non x' R' trivial
    ·exact λu ru=>kk φ' H' u x' R' ru
end
noncomputable def qBH(K:PySem.W.Frag):_L.Sp:=λvs H Q _=>∃(a:Addr) (ns:List Int),vs=[.ref a]/\_L.Only H/\SqL K H a (ns.map V.int)/\ns.length<=63/\∀H',Q (.bl true) H'
noncomputable def D5(gs:List O)(ns:List Int):AH:=gs++[.lst true (ns.map V.int)]
def O0(K:PySem.W.Frag):List Addr->List O->Prop
 | [],[]=>True
 |a::as,.tup xs::os=>(SqT K (λ_=>none) a xs/\xs.all flat=true)/\O0 K as os
 |_,_=>False
theorem Jq{φ:List Addr}:∀{xs:List V},xs.all flat=true->rvs φ xs xs
 | [],_=>.nil
 |x::xs,h=>by
  simp only[List.all_cons,wF]at h;refine .cons ?_ (Jq h.2);cases x<;>first|rfl|exact trivial|(cases h.1)
theorem qBN{K:PySem.W.Frag}{H:Hp}{a:Addr}{xs:List V}(q:SqT K (λ_=>none) a xs):SqT K H a xs:=by
 rcases q with(h|⟨o,h⟩)|h
 ·cases h
 ·cases h
 ·exact .inr h
theorem JN{K:PySem.W.Frag}:∀{as:List Addr}{os:List O},O0 K as os->as.length=os.length/\∀(i:Nat) o a,os[i]?=some o->as[i]?=some a->∃xs,o=.tup xs/\SqT K (λ_=>none) a xs/\xs.all flat=true
 | [],[],_=>⟨rfl,λi o a h=>by simp at h⟩
 | [],_::_,h=>False.elim h
 |_::_,[],h=>False.elim h
 |a::as,.lst _ _::os,h=>False.elim h
 |a::as,.tup xs::os,h=>by
  obtain⟨h1,h2⟩:=h;obtain⟨l,k⟩:=JN h2;refine⟨by simp[l],λi o b e1 e2=>?_⟩;cases i with
  |zero=>simp at e1 e2;subst e1 e2;exact⟨xs,rfl,h1⟩
  |succ i=>exact k i o b (by simpa using e1) (by simpa using e2)
theorem c8{P:Program}{w:World}{K:PySem.W.Frag}{mg:Str->Option Value}{base:Heap}{G:List Addr}{gs:List O}{T:Tbl}{fa:List Addr}{fd:List FuncData}(O:qBI K mg G T fa fd)(hG:O0 K G gs){k i:Nat}{d:L5}{a:Addr}{f:FuncData}
  (h1:T.ds[i]?=some d) (h2:fa[i]?=some a) (h3:fd[i]?=some f) (hp:d.ps=(["_law_script"]:List Str)) (main:∀ns:List Int,ns.length<=63->∃h',Fk T.fns k i [.ref gs.length] (D5 gs ns)=.ok (.bl true,h')):
  FnOk P w K mg base _L.CX0 (2*k) a f (["_law_script"]:List Str) (qBH K):=by
 have F:=P8 (P:=P) (w:=w) (base:=base) O k i d a f h1 h2 h3;rw[hp]at F;refine⟨λvs H Q E h=>by obtain⟨b,ns,rfl,_⟩:=h;rfl,λA outer s H args us vs Q E hr e0 hb r h=>?_⟩;obtain⟨b,ns,rfl,hO,hS,hl,q⟩:=h;obtain⟨h',e⟩:=main ns hl;obtain⟨lg,kg⟩:=JN hG;refine F.run A outer s H args us _ Q E hr e0 hb r ⟨G++[b],D5 gs ns,[.ref gs.length],.bl true,h',⟨by unfold D5;simp[lg],⟨[b],rfl⟩,λj o c e1 e2=>?_,λj l xs ys c e1 e2 e3 e4=>?_⟩,.cons (by show (G++[b])[gs.length]?=some b;rw[<-lg];simp) .nil,e,λφ' H' u x' R' ru=>by rw[zb ru];exact q H'⟩
 ·unfold D5 at e1;by_cases hj:j<gs.length
  ·rw[wB hj]at e1;rw[wB (by omega)]at e2;obtain⟨xs,rfl,h5,h6⟩:=kg j o c e1 e2;exact⟨xs,qBN h5,Jq h6⟩
  ·have hj':j=gs.length:=by
    have:=(wC.mp e1).1;simp at this;omega
   subst hj';simp at e1;rw[<-lg]at e2;simp at e2;subst e1 e2;refine⟨ns.map V.int,?_,Jq (ja ns)⟩;rcases hS with(z|⟨ob,z⟩)|z
   ·rcases hO b with y|⟨ob,xs,y⟩<;>(rw[y]at z;cases z)
   ·exact .inl ⟨ob,z⟩
   ·exact .inr (.inr z)
 ·have no:∀{m:Nat}{z:_P.O},z.mu=true->(D5 gs ns)[m]?=some z->False:=λ{m zs} mz em=>by
   unfold D5 at em;by_cases hj:m<gs.length
   ·rw[wB hj]at em;obtain⟨xs,ex,_⟩:=kg m _ (G[m]'(by omega)) em (wD (by omega));subst ex;cases mz
   ·have hj':m=gs.length:=by
     have:=(wC.mp em).1;simp at this;omega
    subst hj';simp at em;subst em;cases mz
  exact(no ‹_› ‹_›).elim
open _L
abbrev qFZ(K:PySem.W.Frag)(d:L5):Prop:=∃(f:Addr) (oc:Value) (od an:Option Addr) (sl:Array (Option Value)) (kV dc pm cd ct:Value),PySem.W.nsIn K mainGlobals d.x=some (some (.ref f))/\K.lookup f=some ⟨oc,od,.func (PySem.W.fnOf d.x d.x (ze d.st) (defBody d.st) (defScope d.st) .none kV dc pm an cd ct),sl⟩/\PySem.W.codeIn K cd d.x=true/\PySem.W.keepIn K (.ref f)=true
structure qBZ(d:L5):Prop where
 sc:zV d.N d.ps (defScope d.st)
 bd:∀(kV doc pm:Value) (an:Option Addr) (cdv ct:Value) (us:List Value),us.length=d.ps.length->bindArgs (PySem.W.fnOf d.x d.x (ze d.st) (defBody d.st) (defScope d.st) .none kV doc pm an cdv ct) ⟨us,[]⟩=pure (d.ps.zip us)
theorem qBd{K:PySem.W.Frag}{h:Heap}{mg:Str->Option Value}(X:K.In h)(G:h.Ns mainGlobals mg):∀(ds:List L5),(∀d∈ds,qFZ K d)->(∀d∈ds,qBZ d)->∃(fa:List Addr) (fd:List FuncData),∀(i:Nat) d,ds[i]?=some d->∃a f,fa[i]?=some a/\fd[i]?=some f/\Fun K d.x d.x d.st a f/\zV d.N d.ps (_L.defScope d.st)/\mg d.x=some (.ref a)/\Binds K f d.ps []
 | [],_,_=>⟨[],[],λi d h=>by simp at h⟩
 |d::ds,h,hk=>by
  obtain⟨fa,fd,k⟩:=qBd X G ds (λx hx=>h x (by simp[hx])) λx hx=>hk x (by simp[hx]);obtain⟨f,oc,od,an,sl,kV,dc,pm,cd,ct,h1,h2,h3,h4⟩:=h d (by simp);have hd:=hk d (by simp);refine⟨f::fa,PySem.W.fnOf d.x d.x (ze d.st) (defBody d.st) (defScope d.st) .none kV dc pm an cd ct::fd,λi e he=>?_⟩;cases i with
  |zero=>cases he;exact⟨_,_,rfl,rfl,qBg h2 h3 h4,hd.sc,PySem.W.mg_of X G h1,(qBg h2 h3 h4).binds hd.bd⟩
  |succ i=>exact k i e he
theorem qGN{K:PySem.W.Frag}{d:L5}{a:Addr}{f:FuncData}{x:Str}(F:Fun K d.x d.x d.st a f)(h:qBZ d)(hp:d.ps=[x])(s:Shared)(v:Value):BindsTo s f ⟨[v],[]⟩ [(x,v)]:=by
 obtain⟨oc,od,kV,doc,pm,an,cdv,ct,osl,rfl,lk,hcd⟩:=F.ex;refine .of_eq ?_;rw[h.bd kV doc pm an cdv ct [v] (by rw[hp];rfl),hp];rfl
inductive T where
 |v (x:V)|cell (n:Nat)|fz (xs:List T)|lst (xs:List T)|tup (xs:List T)|ob (o:Ob)
noncomputable abbrev Mem:=List (List T)
noncomputable abbrev TS:=List (Option T)
inductive PR(α:Type)|ok(a:α)|exc(c:Nat)(M:Mem)|stuck
noncomputable def PR.bind{α β:Type}:PR α->(α->PR β)->PR β
 | .ok a,f=>f a
 | .exc c M,_=>.exc c M
 | .stuck,_=>.stuck
@[simp] theorem tD{α β:Type}(a:α)(f:α->PR β):(PR.ok a).bind f=f a:=Eq.trans rfl rfl
@[simp] theorem PR.bind_stuck{α β:Type}(f:α->PR β):(PR.stuck:PR α).bind f=.stuck:=Eq.trans rfl rfl
noncomputable def PR.nx{α:Type}:PR α->PR α
 | .ok a=>.ok a
 | .exc _ _=>.stuck
 | .stuck=>.stuck
@[simp] theorem PR.nx_ok{α:Type}(a:α):(PR.ok a).nx=.ok a:=Eq.trans rfl rfl
@[simp] theorem PR.nx_stuck{α:Type}:(PR.stuck:PR α).nx=.stuck:=Eq.trans rfl rfl
noncomputable def tJ{α:Type}:Option α->PR α
 |some a=>.ok a
 |none=>.stuck
@[simp] theorem PR.ofO_some{α:Type}(a:α):tJ (some a)=.ok a:=Eq.trans rfl rfl
mutual
noncomputable def T.lf:T->Bool
 | .v _=>true
 | .ob (.exn _)=>true
 | .tup ts=>T.lfs ts
 |_=>false
noncomputable def T.lfs:List T->Bool
 | []=>true
 |t::ts=>T.lf t&&T.lfs ts
end
mutual
noncomputable def T.und(n:Nat):T->Bool
 | .v _=>true
 | .ob _=>true
 | .cell k=>decide (k<n)
 | .fz ts=>T.unds n ts
 | .lst ts=>T.unds n ts
 | .tup ts=>T.unds n ts
noncomputable def T.unds(n:Nat):List T->Bool
 | []=>true
 |t::ts=>T.und n t&&T.unds n ts
end
mutual
noncomputable def T.beq:T->T->Bool
 | .v x,.v y=>decide (x=y)
 | .cell x,.cell y=>decide (x=y)
 | .fz x,.fz y=>T.beqs x y
 | .lst x,.lst y=>T.beqs x y
 | .tup x,.tup y=>T.beqs x y
 | .ob x,.ob y=>decide (x=y)
 |_,_=>false
noncomputable def T.beqs:List T->List T->Bool
 | [],[]=>true
 |x::xs,y::ys=>T.beq x y&&T.beqs xs ys
 |_,_=>false
end
noncomputable abbrev ZG:=List (Nat×List T)
noncomputable def qy(d:ZG)(M:Mem):Bool:=d.all λp=>match M[p.1]? with|some ts=>T.beqs ts p.2|none=>false
noncomputable def T.its(M:Mem):T->Option (List T)
 | .lst xs=>some xs | .tup xs=>some xs | .fz xs=>some xs | .cell n=>M[n]? | _=>none
noncomputable def T.lis(M:Mem):T->Option (List T)
 | .lst xs=>some xs | .fz xs=>some xs | .cell n=>M[n]? | _=>none
noncomputable def T.mu(M:Mem):T->Option (List T)
 | .lst xs=>some xs | .cell n=>M[n]? | _=>none
noncomputable def qi:List T->Option (List Int)
 | []=>some []
 | .v (.int i)::r=>(qi r).map (i::·)
 |_::_=>none
noncomputable def QI:List T->Option (List Int)
 | []=>some []
 | .v (.int i)::r=>(QI r).map (i::·)
 | .v (.bl b)::r=>(QI r).map ((if b=true then 1 else 0)::·)
 |_=>none
noncomputable def zj:List T->Option (List Bool)
 | []=>some []
 | .v (.bl i)::r=>(zj r).map (i::·)
 |_::_=>none
noncomputable def jn:List T->Option (List V)
 | []=>some []
 | .v x::r=>(jn r).map (x::·)
 |_::_=>none
noncomputable def jS(f:T->T->Option Bool):List T->List T->Option (List Bool)
 | [],[]=>some []
 |x::xs,y::ys=>match f x y,jS f xs ys with
  |some b,some bs=>some (b::bs)
  |_,_=>none
 |_,_=>none
noncomputable def T.isV:T->Option V | .v x=>some x|_=>none
noncomputable def eqT(M:Mem):Nat->T->T->Option Bool
 | 0,s,t=>match s.isV,t.isV with|some x,some y=>eqF x y|_,_=>none
 |n+1,s,t=>match s.isV,t.isV with
  |some x,some y=>eqF x y
  |some _,none=>if (t.its M).isSome then some false else none
  |none,some _=>if (s.its M).isSome then some false else none
  |none,none=>match s.lis M,t.lis M with
   |some xs,some ys=>if xs.length=ys.length then (jS (eqT M n) xs ys).map λbs=>bs.all id else some false
   |some _,none=>if (t.its M).isSome then some false else none
   |none,some _=>if (s.its M).isSome then some false else none
   |none,none=>match s.its M,t.its M with
    |some xs,some ys=>if xs.length=ys.length then (jS (eqT M n) xs ys).map λbs=>bs.all id else (jS (eqT M n) (xs.take ys.length) (ys.take xs.length)).map λ_=>false
    |_,_=>none
noncomputable def jx(xs:List T)(lo hi:Option Int):List T:=(xs.drop (_H.sIx xs.length 0 lo)).take (_H.sIx xs.length xs.length hi-_H.sIx xs.length 0 lo)
noncomputable abbrev TB:=T×Bool
noncomputable def iT(i:Int):TB:=(.v (.int i),true)
noncomputable def bT(b:Bool):TB:=(.v (.bl b),true)
noncomputable def lT(xs:List T):TB:=(.lst xs,T.lfs xs)
noncomputable def Jd(x:T)(xs:List T)(lo hi:Option Int):Option TB:=match x with
 | .tup _=>if _H.sIx xs.length 0 lo=0/\_H.sIx xs.length xs.length hi=xs.length then none else some (.tup (jx xs lo hi),T.lfs (jx xs lo hi))
 |_=>some (lT (jx xs lo hi))
noncomputable def qx(M:Mem)(op:BOp)(x y:T):Option TB:=match x.isV,y.isV with
 |some (.int i),some (.int j)=>match op with
  | .add=>some (iT (i+j))
  | .sub=>some (iT (i-j))
  | .mul=>if ZK i||ZK j||(mid i&&mid j) then some (iT (i*j)) else none
  | .fdiv=>if 0<j/\(j<1073741824\/mid j=true) then some (iT (i / j)) else if j<0/\mid j=true then some (iT (i.fdiv j)) else none
  | .mod=>if 0<j then some (iT (i % j)) else if j<0 then some (iT (i.fmod j)) else none
  | .pow=>if 0<=j/\j<=1000/\i.natAbs<18446744073709551616 then some (iT (i ^ j.toNat)) else none
  | .band=>some (iT (PySem.Builtin.bitAnd i j))
 |none,some (.int k)=>match op with
  | .mul=>(x.mu M).bind λxs=>if 0<=k/\xs.length*k.toNat<=lim/\k<1000000 then some (lT (List.replicate k.toNat xs).flatten) else none
  |_=>none
 |none,none=>match op with
  | .add=>(match x,y with
   | .tup xs,.tup ys=>if xs≠[]/\xs.length+ys.length<=lim then some (.tup (xs++ys),T.lfs (xs++ys)) else none
   |x,y=>(x.mu M).bind λxs=>(y.mu M).bind λys=>if xs.length+ys.length<=lim then some (lT (xs++ys)) else none)
  |_=>none
 |_,_=>none
noncomputable def T.dct:T->Option (List (Int×V))
 | .ob (.dct kvs)=>some kvs
 |_=>none
noncomputable def inT(M:Mem)(x y:T):Option Bool:=match y.dct with
 |some kvs=>(match x with | .v (.int i)=>some (qDh kvs i)|_=>none)
 |none=>x.isV.bind λa=>(y.its M).bind λts=>(jn ts).map λxs=>xs.any λz=>_L.eqV z a
noncomputable def qa(M:Mem)(op:COp)(x y:T):Option Bool:=match op with
 | .eq=>eqT M 4 x y
 | .ne=>(eqT M 4 x y).map (!·)
 | .inn=>inT M x y
 | .notin=>(inT M x y).map (!·)
 | .is=>match y.isV with|some .non=>some (match x.isV with|some .non=>true|_=>false)|some (.bl d)=>(match x.isV with|some (.bl c)=>some (c==d)|_=>none)|_=>none
 | .isnot=>match y.isV with|some .non=>some (match x.isV with|some .non=>false|_=>true)|some (.bl d)=>(match x.isV with|some (.bl c)=>some (!(c==d))|_=>none)|_=>none
 | .lt=>match x.isV,y.isV with|some (.int i),some (.int j)=>some (decide (i<j))|_,_=>none
 | .le=>match x.isV,y.isV with|some (.int i),some (.int j)=>some (decide (i<=j))|_,_=>none
 | .gt=>match x.isV,y.isV with|some (.int i),some (.int j)=>some (decide (j<i))|_,_=>none
 | .ge=>match x.isV,y.isV with|some (.int i),some (.int j)=>some (decide (j<=i))|_,_=>none
noncomputable def qAP(as:List T)(f:T->Option TB):Option TB:=match as with
 | [a]=>f a
 |_=>none
theorem zn{as:List T}{f:T->Option TB}{r:TB}(e:qAP as f=some r):∃a,as=[a]/\f a=some r:=by
 unfold qAP at e;split at e
 ·exact⟨_,rfl,e⟩
 ·cases e
noncomputable def twoT(as:List T)(f:Int->Int->Option TB):Option TB:=match as with
 | [a,b]=>(match a with
  | .v (.int i)=>(match b with | .v (.int j)=>f i j|_=>none)
  |_=>none)
 |_=>none
theorem twoT_inv{as:List T}{f:Int->Int->Option TB}{r:TB}(e:twoT as f=some r):∃i j,as=[.v (.int i),.v (.int j)]/\f i j=some r:=by
 unfold twoT at e;split at e
 ·split at e
  ·split at e
   ·exact⟨_,_,rfl,e⟩
   ·cases e
  ·cases e
 ·cases e
noncomputable def ZH(f:T->Option PySem.PyData):List T->Option (List PySem.PyData)
 | []=>some []
 |x::r=>(f x).bind λd=>(ZH f r).map λds=>d::ds
noncomputable def Q9(M:Mem):Nat->T->Option PySem.PyData
 | 0,t=>match t with | .v x=>qBe x|_=>none
 |n+1,t=>match t with
  | .v x=>qBe x
  | .tup ts=>(ZH (Q9 M n) ts).map .tuple
  | .lst ts=>(ZH (Q9 M n) ts).map .list
  | .fz ts=>(ZH (Q9 M n) ts).map .list
  | .cell k=>(M[k]?).bind λts=>(ZH (Q9 M n) ts).map .list
  | .ob (.dct [])=>some (.dict [])
  | .ob _=>none
noncomputable def qBL(M:Mem)(t:T):Option PySem.PyData:=Q9 M 5 t
noncomputable def jE(M:Mem):BF->List T->Option TB
 | .len,as=>qAP as λa=>(a.its M).map λxs=>iT xs.length
 | .sum,as=>qAP as λa=>(a.lis M).bind λxs=>(QI xs).map λis=>iT is.sum
 | .all,as=>qAP as λa=>(a.lis M).bind λxs=>(zj xs).map λbs=>bT (bs.all id)
 | .any,as=>qAP as λa=>(a.lis M).bind λxs=>(zj xs).map λbs=>bT (bs.any id)
 | .max,as=>twoT as λi j=>some (iT (if j>i then j else i))
 | .min,as=>twoT as λi j=>some (iT (if j<i then j else i))
 | .list,as=>qAP as λa=>(a.its M).map lT
 | .int,as=>qAP as λa=>(match a with | .v (.int i)=>some (iT i) | .v (.bl b)=>some (iT (if b then 1 else 0))|_=>none)
 | .maxl,as=>qAP as λa=>(a.lis M).bind λxs=>(qi xs).bind λis=>(qDV is).map iT
 | .bits,as=>qAP as λa=>(match a with | .v (.int i)=>some (iT ((PySem.Builtin.Int.intBits i:Nat):Int))|_=>none)
 | .repr,as=>qAP as λa=>((qBL M a).bind Y4).map λv=>(.v v,true)
noncomputable def T.isC(n:Nat):T->Bool | .cell k=>decide (k=n)|_=>false
noncomputable def y6:Mt->Nat->List T->Mem->Option (TB×Mem)
 | .cnt,n,[.v y],M=>(M[n]?).bind λxs=>(jn xs).map λvs=>(iT (vs.countP λz=>_L.eqV z y:Nat),M)
 |_,_,_,_=>none
noncomputable def zt(M:Mem):T->Option String
 | .v .non=>some "NoneType"
 | .v (.bl _)=>some "bool"
 | .v (.int _)=>some "int"
 | .v (.str _)=>some "str"
 | .v _=>none
 | .tup _=>some "tuple"
 | .cell n=>(M[n]?).map λ_=>"list"
 | .ob (.dct _)=>some "dict"
 | .ob _=>none
 |_=>some "list"
noncomputable def T.tx:T->Option PySem.Str
 | .v (.str y)=>some y
 |_=>none
noncomputable def jl(M:Mem)(x y:T):Option TB:=match y with
 | .v (.int i)=>(x.its M).bind λxs=>(ixN xs.length i).bind λj=>(xs[j]?).map λt=>(t,t.lf)
 |_=>none
noncomputable def qEJ:List Nat->List T->TS->Option TS
 | [],[],σ=>some σ
 |i::is,x::xs,σ=>qEJ is xs (σ.set i (some x))
 |_,_,_=>none
noncomputable def zv:Tg->T->TS->Option TS
 | .name i,t,σ=>some (σ.set i (some t))
 | .tup is,.tup ts,σ=>qEJ is ts σ
 | .tup _,_,_=>none
noncomputable def jb(src:List (Option Nat))(σ:TS):TS:=src.map λo=>match o with|none=>none|some j=>(σ[j]?).join
noncomputable def zA(lo:Int)(n:Nat):List T:=(List.range n).map λ(i:Nat)=>.v (.int (lo+(i:Int)))
noncomputable def A9(M:Mem):T->Option (List T×ZG)
 | .lst ts=>some (ts,[])
 | .fz ts=>some (ts,[])
 | .tup ts=>some (ts,[])
 | .cell n=>(M[n]?).map λts=>(ts,[(n,ts)])
 |_=>none
noncomputable def qAT(M:Mem):T->Option (List T×ZG)
 | .lst ts=>some (ts,[])
 | .fz ts=>some (ts,[])
 | .cell n=>(M[n]?).map λts=>(ts,[(n,ts)])
 |_=>none
noncomputable def qg(d:ZG)(g:Tg)(c:TS->Mem->PR (Bool×Mem))(e:TS->Mem->PR (TB×Mem)):List T->List T->Bool->TS->Mem->PR (TB×Mem)
 | [],ys,f,_,M=>.ok ((.lst ys,f),M)
 |x::r,ys,f,σ,M=>match zv g x σ with
  |some σ1=>(c σ1 M).bind λ(b,M2)=>
   if b then (e σ1 M2).bind λ(y,M3)=>if ys.length<lim/\qy d M3=true then qg d g c e r (ys++[y.1]) (f&&y.2) σ1 M3 else .stuck
   else if qy d M2=true then qg d g c e r ys f σ1 M2 else .stuck
  |none=>.stuck
noncomputable def pB(r:PR (TB×Mem)):PR (Bool×Mem):=r.bind λ(x,M)=>match x.1 with | .v (.bl b)=>.ok (b,M)|_=>.stuck
section
variable (gl:List T)(P:Nat->List T->Mem->PR (TB×Mem))
mutual
noncomputable def pe:E->TS->Mem->PR (TB×Mem)
 | .var i=>λσ M=>match σ[i]? with|some (some t)=>.ok ((t,t.lf),M)|_=>.stuck
 | .cst v=>λ_ M=>if flat v then .ok ((.v v,true),M) else .stuck
 | .glob g=>λ_ M=>match gl[g]? with|some t=>.ok ((t,t.lf),M)|none=>.stuck
 | .bin op a b=>λσ M=>(pe a σ M).bind λ(x,M1)=>(pe b σ M1).bind λ(y,M2)=>(tJ (qx M2 op x.1 y.1)).bind λr=>.ok (r,M2)
 | .neg a=>λσ M=>(pe a σ M).bind λ(x,M1)=>match x.1 with | .v (.int i)=>.ok (iT (-i),M1)|_=>.stuck
 | .cmp op a b=>λσ M=>(pe a σ M).bind λ(x,M1)=>(pe b σ M1).bind λ(y,M2)=>(tJ (qa M2 op x.1 y.1)).bind λr=>.ok (bT r,M2)
 | .cmp2 o1 o2 a b c=>λσ M=>(pe a σ M).bind λ(x,M1)=>(pe b σ M1).bind λ(y,M2)=>(tJ (qa M2 o1 x.1 y.1)).bind λr=>
  if r then (pe c σ M2).bind λ(z,M3)=>(tJ (qa M3 o2 y.1 z.1)).bind λr=>.ok (bT r,M3) else .ok (bT false,M2)
 | .and a b=>λσ M=>(pB (pe a σ M)).bind λ(x,M1)=>if x then pe b σ M1 else .ok (bT false,M1)
 | .or a b=>λσ M=>(pB (pe a σ M)).bind λ(x,M1)=>if x then .ok (bT true,M1) else pe b σ M1
 | .not a=>λσ M=>(pB (pe a σ M)).bind λ(x,M1)=>.ok (bT (!x),M1)
 | .ite c a b=>λσ M=>(pB (pe c σ M)).bind λ(x,M1)=>if x then pe a σ M1 else pe b σ M1
 | .call f as=>λσ M=>(pes as σ M).bind λ(xs,M1)=>(P f (xs.map (·.1)) M1).nx
 | .blt f as=>λσ M=>(pes as σ M).bind λ(xs,M1)=>(tJ (jE M1 f (xs.map (·.1)))).bind λr=>.ok (r,M1)
 | .isi a ts=>λσ M=>(pe a σ M).bind λ(x,M1)=>(tJ (zt M1 x.1)).bind λt=>.ok (bT (ts.any (je t)),M1)
 | .idx a b=>λσ M=>(pe a σ M).bind λ(x,M1)=>(pe b σ M1).bind λ(y,M2)=>(tJ (jl M2 x.1 y.1)).bind λr=>.ok (r,M2)
 | .rev a=>λσ M=>(pe a σ M).bind λ(x,M1)=>(tJ (x.1.lis M1)).bind λxs=>.ok (lT xs.reverse,M1)
 | .sl a lo hi=>λσ M=>(pe a σ M).bind λ(x,M1)=>(pes lo σ M1).bind λ(l,M2)=>(pes hi σ M2).bind λ(u,M3)=>
  (tJ (x.1.its M3)).bind λxs=>(tJ (qi (l.map (·.1)))).bind λl=>(tJ (qi (u.map (·.1)))).bind λu=>(tJ (Jd x.1 xs l.head? u.head?)).bind λr=>.ok (r,M3)
 | .lst as=>λσ M=>(pes as σ M).bind λ(xs,M1)=>if xs.length<=lim then .ok ((.lst (xs.map (·.1)),xs.all (·.2)),M1) else .stuck
 | .tup as=>λσ M=>(pes as σ M).bind λ(xs,M1)=>if xs.length<=lim then .ok ((.tup (xs.map (·.1)),xs.all (·.2)),M1) else .stuck
 | .comp it src g c e=>λσ M=>(pei it σ M).bind λ(s,M1)=>qg s.2 g (pec c) (pe e) s.1 [] true (jb src σ) M1
 | .app a b=>λσ M=>(pe a σ M).bind λ(x,M1)=>match x.1 with
  | .cell n=>(pe b σ M1).bind λ(y,M2)=>match M2[n]? with
   |some xs=>if xs.length<lim then .ok ((.v .non,true),M2.set n (xs++[y.1])) else .stuck
   |none=>.stuck
  |_=>.stuck
 | .sset a=>λσ M=>(pe a σ M).bind λ(x,M1)=>match (x.1.lis M1).bind qi with|some is=>if is.length<64 then .ok ((.lst ((jy (uniq is)).map λi=>.v (.int i)),true),M1) else .stuck|none=>.stuck
 | .nset a=>λσ M=>(pe a σ M).bind λ(x,M1)=>match (x.1.lis M1).bind qi with|some is=>if is.length<1000 then .ok ((.v (.int ((qBC is:Nat):Int)),true),M1) else .stuck|none=>.stuck
 | .lrng a=>λσ M=>(pe a σ M).bind λ(x,M1)=>match x.1 with | .v (.int j)=>if -1000000<=j/\j<=100000 then .ok ((.lst (zA 0 j.toNat),true),M1) else .stuck|_=>.stuck
 | .dnew=>λ_ M=>.ok ((.ob (.dct []),true),M)
 | .meth m a as=>λσ M=>(pe a σ M).bind λ(x,M1)=>match x.1 with
  | .cell n=>(pes as σ M1).bind λ(ys,M2)=>tJ (y6 m n (ys.map (·.1)) M2)
  |_=>.stuck
noncomputable def pes:Es->TS->Mem->PR (List TB×Mem)
 | .nil=>λ_ M=>.ok ([],M)
 | .cons a as=>λσ M=>(pe a σ M).bind λ(x,M1)=>(pes as σ M1).bind λ(xs,M2)=>.ok (x::xs,M2)
noncomputable def pec:Es->TS->Mem->PR (Bool×Mem)
 | .nil=>λ_ M=>.ok (true,M)
 | .cons a _=>λσ M=>pB (pe a σ M)
noncomputable def pei:Itr->TS->Mem->PR ((List T×ZG)×Mem)
 | .list a=>λσ M=>(pe a σ M).bind λ(x,M1)=>(tJ (A9 M1 x.1)).bind λs=>.ok (s,M1)
 | .rng1 a=>λσ M=>(pe a σ M).bind λ(x,M1)=>match x.1 with | .v (.int j)=>if -1000000<=j/\j<=1000000 then .ok ((zA 0 j.toNat,[]),M1) else .stuck|_=>.stuck
 | .rng2 a b=>λσ M=>(pe a σ M).bind λ(x,M1)=>(pe b σ M1).bind λ(y,M2)=>match x.1,y.1 with
  | .v (.int i),.v (.int j)=>if (-1000000<=i/\i<=1000000)/\-1000000<=j/\j<=1000000 then .ok ((zA i (j-i).toNat,[]),M2) else .stuck
  |_,_=>.stuck
 | .zip a b=>λσ M=>(pe a σ M).bind λ(x,M1)=>(pe b σ M1).bind λ(y,M2)=>(tJ (qAT M2 x.1)).bind λs=>(tJ (qAT M2 y.1)).bind λt=>
  .ok ((List.zipWith (λa b=>T.tup [a,b]) s.1 t.1,s.2++t.2),M2)
end
inductive PO|nx(σ:TS)|rt(t:TB)|bk(σ:TS)|ct(σ:TS)
noncomputable abbrev RSt:=PR (PO×Mem)
noncomputable def jJ(d:ZG)(g:Tg)(b:TS->Mem->RSt):List T->TS->Mem->RSt
 | [],σ,M=>.ok (.nx σ,M)
 |x::r,σ,M=>match zv g x σ with
  |some σ1=>(b σ1 M).bind λ(o,M2)=>match o with
   | .nx σ2=>if qy d M2=true then jJ d g b r σ2 M2 else .stuck
   | .ct σ2=>if qy d M2=true then jJ d g b r σ2 M2 else .stuck
   | .bk σ2=>.ok (.nx σ2,M2)
   | .rt t=>.ok (.rt t,M2)
  |none=>.stuck
mutual
noncomputable def thaw(n:Nat):T->T×Mem
 | .lst ts=>let r:=Qq n ts;(.cell (n+r.2.length),r.2++[r.1])
 | .tup ts=>let r:=Qq n ts;(.tup r.1,r.2)
 |t=>(t,[])
noncomputable def Qq(n:Nat):List T->List T×Mem
 | []=>([],[])
 |t::ts=>let r:=thaw n t;let q:=Qq (n+r.2.length) ts;(r.1::q.1,r.2++q.2)
end
noncomputable def qDb:E->Bool
 | .bin .add _ _=>true
 | .lst _=>true
 |_=>false
variable (C:List Nat)
mutual
noncomputable def px:S->TS->Mem->RSt
 | .asg g e=>λσ M=>(pe gl P e σ M).bind λ(x,M1)=>match g with
  | .name i=>if C.contains i&&x.2 then .ok (.nx (σ.set i (some (thaw M1.length x.1).1)),M1++(thaw M1.length x.1).2) else if C.contains (i+1000)&&qDb e then (match x.1 with | .lst ts=>.ok (.nx (σ.set i (some (.cell M1.length))),M1++[ts])|_=>.stuck) else .ok (.nx (σ.set i (some x.1)),M1)
  |g=>match zv g x.1 σ with|some σ1=>.ok (.nx σ1,M1)|none=>.stuck
 | .put o i v=>λσ M=>(pe gl P v σ M).bind λ(x,M1)=>(pe gl P o σ M1).bind λ(p,M2)=>(pe gl P i σ M2).bind λ(k,M3)=>match p.1,k.1 with
  | .cell n,.v (.int k)=>match M3[n]? with
   |some xs=>match ixN xs.length k with|some j=>.ok (.nx σ,M3.set n (xs.set j x.1))|none=>.stuck
   |none=>.stuck
  |_,_=>.stuck
 | .expr e=>λσ M=>(pe gl P e σ M).bind λ(_,M1)=>.ok (.nx σ,M1)
 | .ret e=>λσ M=>(pe gl P e σ M).bind λ(x,M1)=>.ok (.rt x,M1)
 | .ifs c t u=>λσ M=>(pB (pe gl P c σ M)).bind λ(x,M1)=>if x then pxs t σ M1 else pxs u σ M1
 | .for_ g it b=>λσ M=>(pei gl P it σ M).bind λ(s,M1)=>jJ s.2 g (pxs b) s.1 σ M1
 | .stop=>λ_ _=>.stuck
noncomputable def pxs:Ss->TS->Mem->RSt
 | .nil=>λσ M=>.ok (.nx σ,M)
 | .cons s r=>λσ M=>(px s σ M).bind λ(o,M1)=>match o with
  | .nx σ1=>pxs r σ1 M1
  |o=>.ok (o,M1)
end
end
noncomputable def qJ(M:Mem)(n0:Nat):Nat->T->Option T
 | 0,t=>if t.und n0 then some t else none
 |d+1,t=>if t.und n0 then some t else match t with
  | .lst ts=>(ts.mapM (qJ M n0 d)).map .lst
  | .tup ts=>(ts.mapM (qJ M n0 d)).map .tup
  | .cell n=>(M[n]?).bind λts=>(ts.mapM (qJ M n0 d)).map .lst
  |_=>none
noncomputable def jz(M:Mem)(n0:Nat):Nat->T->Option (List Nat)
 | 0,t=>if t.lf then some [] else none
 |d+1,t=>if t.lf then some [] else match t with
  | .tup ts=>(ts.mapM (jz M n0 d)).map List.flatten
  | .cell n=>if n0<=n then (M[n]?).bind λts=>(ts.mapM (jz M n0 d)).map λl=>l.flatten++[n] else none
  |_=>none
noncomputable def frR(M:Mem)(n0:Nat)(t:T):Bool:=match jz M n0 6 t with|some l=>decide l.Nodup|none=>false
noncomputable def finish(n0:Nat)(x:TB)(M:Mem):PR (TB×Mem):=
 if M.length=n0 then .ok (x,M) else if (M.take n0).all (T.unds n0) then (tJ (qJ M n0 6 x.1)).bind λt=>.ok ((t,x.2||frR M n0 x.1),M.take n0) else .stuck
noncomputable def jp(n0:Nat):RSt->PR (TB×Mem)
 | .ok (.nx _,M1)=>finish n0 (.v .non,true) M1
 | .ok (.rt t,M1)=>finish n0 t M1
 | .ok (_,_)=>.stuck
 | .exc c M1=>if M1.length=n0 then .exc c M1 else if (M1.take n0).all (T.unds n0) then .exc c (M1.take n0) else .stuck
 | .stuck=>.stuck
noncomputable def Pk(gl:List T)(tb:List Fn)(Cs:List (List Nat)):Nat->Nat->List T->Mem->PR (TB×Mem)
 | 0,_,_,_=>.stuck
 |k+1,f,vs,M=>match tb[f]? with
  |some d=>if vs.length=d.npar/\d.npar<=d.nslot then jp M.length (pxs gl (Pk gl tb Cs k) (Cs.getD f []) d.body (vs.map some++List.replicate (d.nslot-d.npar) none) M)
   else .stuck
  |none=>.stuck
def Qj{α β:Type}(R:α->β->Prop):List α->List β->Prop
 | [],vs=>vs=[]
 |t::ts,vs=>∃v vs',vs=v::vs'/\R t v/\Qj R ts vs'
section
variable{α β:Type}{R:α->β->Prop}
theorem qF:∀{xs:List α}{ys:List β},Qj R xs ys->xs.length=ys.length
 | [],_,h=>by cases h;rfl
 |x::xs,_,⟨v,vs,rfl,_,h⟩=>by simp[qF h]
theorem zy:∀{xs:List α}{ys:List β}{i:Nat}{x:α},Qj R xs ys->xs[i]?=some x->∃y,ys[i]?=some y/\R x y
 | [],_,i,x,h,e=>by simp at e
 |x::xs,_,0,x',⟨v,vs,rfl,r,h⟩,e=>⟨v,rfl,by simp at e;subst e;exact r⟩
 |x::xs,_,i+1,x',⟨v,vs,rfl,r,h⟩,e=>by
  obtain⟨y,e1,r1⟩:=zy (i:=i) h (by simpa using e);exact⟨y,by simpa using e1,r1⟩
theorem zw:∀{xs:List α}{ys:List β}{xs':List α}{ys':List β},Qj R xs ys->Qj R xs' ys'->Qj R (xs++xs') (ys++ys')
 | [],_,_,_,h,k=>by cases h;exact k
 |x::xs,_,_,_,⟨v,vs,rfl,r,h⟩,k=>⟨v,vs++_,rfl,r,zw h k⟩
theorem QW:∀(n:Nat){xs:List α}{ys:List β},Qj R xs ys->Qj R (xs.take n) (ys.take n)
 | 0,_,_,_=>by simp[Qj]
 |n+1,[],_,h=>by cases h;simp[Qj]
 |n+1,x::xs,_,⟨v,vs,rfl,r,h⟩=>⟨v,vs.take n,rfl,r,QW n h⟩
theorem F0:∀(n:Nat){xs:List α}{ys:List β},Qj R xs ys->Qj R (xs.drop n) (ys.drop n)
 | 0,_,_,h=>h
 |n+1,[],_,h=>by cases h;simp[Qj]
 |n+1,x::xs,_,⟨v,vs,rfl,r,h⟩=>F0 n h
theorem jr:∀{xs:List α}{ys:List β}(j:Nat){x:α}{y:β},Qj R xs ys->R x y->Qj R (xs.set j x) (ys.set j y)
 | [],_,j,_,_,h,r=>by cases h;simp[Qj]
 |x::xs,_,0,_,_,⟨v,vs,rfl,r0,h⟩,r=>⟨_,vs,rfl,r,h⟩
 |x::xs,_,j+1,_,_,⟨v,vs,rfl,r0,h⟩,r=>⟨v,vs.set j _,rfl,r0,jr j h r⟩
theorem qBF(n:Nat){xs:List α}{ys:List β}(h:Qj R xs ys):Qj R (List.replicate n xs).flatten (List.replicate n ys).flatten:=by
 induction n with
 |zero=>simp[Qj]
 |succ n ih=>simp only[List.replicate_succ,List.flatten_cons];exact zw h ih
theorem G0{S:α->β->Prop}(f:∀x y,R x y->S x y):∀{xs:List α}{ys:List β},Qj R xs ys->Qj S xs ys
 | [],_,h=>h
 |x::xs,_,⟨v,vs,rfl,r,h⟩=>⟨v,vs,rfl,f _ _ r,G0 f h⟩
end
mutual
def Rep(A X:List Nat)(h:AH):T->V->Prop
 | .v x,w=>w=x/\flat x=true
 | .cell n,w=>∃a:Nat,A[n]?=some a/\w=.ref a
 | .fz ts,w=>∃a vs,w=.ref a/\a∉X/\h[a]?=some (.lst true vs)/\qR A X h ts vs
 | .lst ts,w=>∃a vs,w=.ref a/\a∉X/\h[a]?=some (.lst false vs)/\qR A X h ts vs
 | .tup ts,w=>∃a vs,w=.ref a/\a∉X/\h[a]?=some (.tup vs)/\qR A X h ts vs
 | .ob o,w=>∃a,w=.ref a/\a∉X/\h[a]?=some (.ob o)
def qR(A X:List Nat)(h:AH):List T->List V->Prop
 | [],vs=>vs=[]
 |t::ts,vs=>∃v vs',vs=v::vs'/\Rep A X h t v/\qR A X h ts vs'
end
theorem reps_iff{A X:List Nat}{h:AH}:∀{ts:List T}{vs:List V},qR A X h ts vs↔Qj (Rep A X h) ts vs
 | [],vs=>by unfold qR Qj;rfl
 |t::ts,vs=>by
  unfold qR Qj;constructor
  ·rintro⟨v,vs',e,r,k⟩;exact⟨v,vs',e,r,reps_iff.mp k⟩
  ·rintro⟨v,vs',e,r,k⟩;exact⟨v,vs',e,r,reps_iff.mpr k⟩
mutual
def FP(X:List Nat)(h:AH):T->V->List Nat->Prop
 | .v x,w,fp=>(w=x/\flat x=true)/\fp=[]
 | .lst ts,w,fp=>∃a vs f,w=.ref a/\a∉X/\h[a]?=some (.lst false vs)/\FPs X h ts vs f/\fp=f++[a]
 | .tup ts,w,fp=>∃a vs,w=.ref a/\a∉X/\h[a]?=some (.tup vs)/\FPs X h ts vs fp
 | .ob o,w,fp=>(∃a,w=.ref a/\a∉X/\h[a]?=some (.ob o))/\fp=[]
 | .fz _,_,_=>False
 | .cell _,_,_=>False
def FPs(X:List Nat)(h:AH):List T->List V->List Nat->Prop
 | [],vs,fp=>vs=[]/\fp=[]
 |t::ts,vs,fp=>∃v vs' f1 f2,vs=v::vs'/\FP X h t v f1/\FPs X h ts vs' f2/\fp=f1++f2
end
mutual
theorem zr{A X A' X':List Nat}{h h':AH}(hc:∀(n:Nat) a,A[n]?=some a->A'[n]?=some a)(hn:∀a o,a∉X->h[a]?=some o->a∉X'/\h'[a]?=some o):∀(t:T){w:V},Rep A X h t w->Rep A' X' h' t w
 | .v x,w,r=>by unfold Rep at r ⊢;exact r
 | .cell n,w,r=>by unfold Rep at r ⊢;obtain⟨a,e,q⟩:=r;exact⟨a,hc _ _ e,q⟩
 | .fz ts,w,r=>by unfold Rep at r ⊢;obtain⟨a,vs,e,q1,q2,q3⟩:=r;exact⟨a,vs,e,(hn _ _ q1 q2).1,(hn _ _ q1 q2).2,qT hc hn ts q3⟩
 | .lst ts,w,r=>by unfold Rep at r ⊢;obtain⟨a,vs,e,q1,q2,q3⟩:=r;exact⟨a,vs,e,(hn _ _ q1 q2).1,(hn _ _ q1 q2).2,qT hc hn ts q3⟩
 | .tup ts,w,r=>by unfold Rep at r ⊢;obtain⟨a,vs,e,q1,q2,q3⟩:=r;exact⟨a,vs,e,(hn _ _ q1 q2).1,(hn _ _ q1 q2).2,qT hc hn ts q3⟩
 | .ob o,w,r=>by unfold Rep at r ⊢;obtain⟨a,e,q1,q2⟩:=r;exact⟨a,e,(hn _ _ q1 q2).1,(hn _ _ q1 q2).2⟩
theorem qT{A X A' X':List Nat}{h h':AH}(hc:∀(n:Nat) a,A[n]?=some a->A'[n]?=some a)(hn:∀a o,a∉X->h[a]?=some o->a∉X'/\h'[a]?=some o):∀(ts:List T){ws:List V},qR A X h ts ws->qR A' X' h' ts ws
 | [],w,r=>by unfold qR at r ⊢;exact r
 |t::ts,w,r=>by unfold qR at r ⊢;obtain⟨v,vs,e,q1,q2⟩:=r;exact⟨v,vs,e,zr hc hn t q1,qT hc hn ts q2⟩
end
mutual
theorem JJ{X X':List Nat}{h h':AH}(hn:∀a o,a∉X->h[a]?=some o->a∉X'/\h'[a]?=some o):∀(t:T){w:V}{fp:List Nat},FP X h t w fp->FP X' h' t w fp
 | .v x,w,_,r=>by unfold FP at r ⊢;exact r
 | .cell n,w,_,r=>by unfold FP at r;exact r.elim
 | .fz ts,w,_,r=>by unfold FP at r;exact r.elim
 | .lst ts,w,_,r=>by unfold FP at r ⊢;obtain⟨a,vs,f,e,q1,q2,q3,q4⟩:=r;exact⟨a,vs,f,e,(hn _ _ q1 q2).1,(hn _ _ q1 q2).2,jR hn ts q3,q4⟩
 | .tup ts,w,_,r=>by unfold FP at r ⊢;obtain⟨a,vs,e,q1,q2,q3⟩:=r;exact⟨a,vs,e,(hn _ _ q1 q2).1,(hn _ _ q1 q2).2,jR hn ts q3⟩
 | .ob o,w,_,r=>by unfold FP at r ⊢;obtain⟨⟨a,e,q1,q2⟩,q3⟩:=r;exact⟨⟨a,e,(hn _ _ q1 q2).1,(hn _ _ q1 q2).2⟩,q3⟩
theorem jR{X X':List Nat}{h h':AH}(hn:∀a o,a∉X->h[a]?=some o->a∉X'/\h'[a]?=some o):∀(ts:List T){ws:List V}{fp:List Nat},FPs X h ts ws fp->FPs X' h' ts ws fp
 | [],w,_,r=>by unfold FPs at r ⊢;exact r
 |t::ts,w,_,r=>by unfold FPs at r ⊢;obtain⟨v,vs,f1,f2,e,q1,q2,q3⟩:=r;exact⟨v,vs,f1,f2,e,JJ hn t q1,jR hn ts q2,q3⟩
end
mutual
theorem qEg{A X:List Nat}{h:AH}:∀(t:T){w:V}{fp:List Nat},FP X h t w fp->Rep A X h t w
 | .v x,w,_,r=>by unfold FP at r;unfold Rep;exact r.1
 | .cell n,w,_,r=>by unfold FP at r;exact r.elim
 | .fz ts,w,_,r=>by unfold FP at r;exact r.elim
 | .lst ts,w,_,r=>by unfold FP at r;unfold Rep;obtain⟨a,vs,f,e,q1,q2,q3,q4⟩:=r;exact⟨a,vs,e,q1,q2,L8 ts q3⟩
 | .tup ts,w,_,r=>by unfold FP at r;unfold Rep;obtain⟨a,vs,e,q1,q2,q3⟩:=r;exact⟨a,vs,e,q1,q2,L8 ts q3⟩
 | .ob o,w,_,r=>by unfold FP at r;unfold Rep;exact r.1
theorem L8{A X:List Nat}{h:AH}:∀(ts:List T){ws:List V}{fp:List Nat},FPs X h ts ws fp->qR A X h ts ws
 | [],w,_,r=>by unfold FPs at r;unfold qR;exact r.1
 |t::ts,w,_,r=>by unfold FPs at r;unfold qR;obtain⟨v,vs,f1,f2,e,q1,q2,q3⟩:=r;exact⟨v,vs,e,qEg t q1,L8 ts q2⟩
end
mutual
theorem qBu{X:List Nat}{h:AH}(n:Nat):∀(t:T){w:V}{fp:List Nat},FP X h t w fp->t.und n=true
 | .v x,w,_,r=>rfl
 | .cell n,w,_,r=>by unfold FP at r;exact r.elim
 | .fz ts,w,_,r=>by unfold FP at r;exact r.elim
 | .lst ts,w,_,r=>by unfold FP at r;obtain⟨a,vs,f,e,q1,q2,q3,q4⟩:=r;exact L1 n ts q3
 | .tup ts,w,_,r=>by unfold FP at r;obtain⟨a,vs,e,q1,q2,q3⟩:=r;exact L1 n ts q3
 | .ob o,w,_,r=>rfl
theorem L1{X:List Nat}{h:AH}(n:Nat):∀(ts:List T){ws:List V}{fp:List Nat},FPs X h ts ws fp->T.unds n ts=true
 | [],w,_,r=>rfl
 |t::ts,w,_,r=>by unfold FPs at r;obtain⟨v,vs,f1,f2,e,q1,q2,q3⟩:=r;unfold T.unds;rw[qBu n t q1,L1 n ts q2];rfl
end
mutual
theorem U3{X:List Nat}{h:AH}:∀(t:T){w:V}{fp:List Nat},FP X h t w fp->∀a∈fp,a∉X/\∃vs,h[a]?=some (.lst false vs)
 | .v x,w,_,r=>by unfold FP at r;obtain⟨_,rfl⟩:=r;intro a ha;simp at ha
 | .cell n,w,_,r=>by unfold FP at r;exact r.elim
 | .fz ts,w,_,r=>by unfold FP at r;exact r.elim
 | .lst ts,w,_,r=>by
  unfold FP at r;obtain⟨a,vs,f,e,q1,q2,q3,rfl⟩:=r;intro b hb;rcases wJ.mp hb with hb|hb
  ·exact Qt ts q3 b hb
  ·simp at hb;subst hb;exact⟨q1,vs,q2⟩
 | .tup ts,w,_,r=>by unfold FP at r;obtain⟨a,vs,e,q1,q2,q3⟩:=r;exact Qt ts q3
 | .ob o,w,_,r=>by unfold FP at r;obtain⟨_,rfl⟩:=r;intro a ha;simp at ha
theorem Qt{X:List Nat}{h:AH}:∀(ts:List T){ws:List V}{fp:List Nat},FPs X h ts ws fp->∀a∈fp,a∉X/\∃vs,h[a]?=some (.lst false vs)
 | [],w,_,r=>by unfold FPs at r;obtain⟨_,rfl⟩:=r;intro a ha;simp at ha
 |t::ts,w,_,r=>by
  unfold FPs at r;obtain⟨v,vs,f1,f2,e,q1,q2,rfl⟩:=r;intro b hb;rcases wJ.mp hb with hb|hb
  ·exact U3 t q1 b hb
  ·exact Qt ts q2 b hb
end
mutual
theorem qCE{A X:List Nat}{h:AH}:∀(t:T){w:V},Rep A X h t w->t.lf=true->FP X h t w []
 | .v x,w,r,l=>by unfold Rep at r;unfold FP;exact⟨r,rfl⟩
 | .cell n,w,r,l=>by unfold T.lf at l;cases l
 | .fz ts,w,r,l=>by unfold T.lf at l;cases l
 | .lst ts,w,r,l=>by unfold T.lf at l;cases l
 | .tup ts,w,r,l=>by unfold Rep at r;unfold FP;obtain⟨a,vs,e,q1,q2,q3⟩:=r;exact⟨a,vs,e,q1,q2,a5 ts q3 (by unfold T.lf at l;exact l)⟩
 | .ob o,w,r,l=>by unfold Rep at r;unfold FP;exact⟨r,rfl⟩
theorem a5{A X:List Nat}{h:AH}:∀(ts:List T){ws:List V},qR A X h ts ws->T.lfs ts=true->FPs X h ts ws []
 | [],w,r,l=>by unfold qR at r;unfold FPs;exact⟨r,rfl⟩
 |t::ts,w,r,l=>by
  unfold qR at r;unfold FPs;obtain⟨v,vs,e,q1,q2⟩:=r;unfold T.lfs at l;simp only[wF]at l;exact⟨v,vs,[],[],e,qCE t q1 l.1,a5 ts q2 l.2,rfl⟩
end
mutual
theorem g5{A X A1 X1:List Nat}{h:AH}{n0:Nat}(hc:∀n,n<n0->A1[n]?=A[n]?)(hX:∀a∈X,a∈X1):∀(t:T){w:V},Rep A1 X1 h t w->t.und n0=true->Rep A X h t w
 | .v x,w,r,u=>by unfold Rep at r ⊢;exact r
 | .cell n,w,r,u=>by
  unfold Rep at r ⊢;obtain⟨a,e,q⟩:=r;unfold T.und at u;exact⟨a,(hc n (by simpa using u)).symm.trans e,q⟩
 | .fz ts,w,r,u=>by unfold Rep at r ⊢;obtain⟨a,vs,e,q1,q2,q3⟩:=r;exact⟨a,vs,e,λz=>q1 (hX _ z),q2,Qb hc hX ts q3 (by unfold T.und at u;exact u)⟩
 | .lst ts,w,r,u=>by unfold Rep at r ⊢;obtain⟨a,vs,e,q1,q2,q3⟩:=r;exact⟨a,vs,e,λz=>q1 (hX _ z),q2,Qb hc hX ts q3 (by unfold T.und at u;exact u)⟩
 | .tup ts,w,r,u=>by unfold Rep at r ⊢;obtain⟨a,vs,e,q1,q2,q3⟩:=r;exact⟨a,vs,e,λz=>q1 (hX _ z),q2,Qb hc hX ts q3 (by unfold T.und at u;exact u)⟩
 | .ob o,w,r,u=>by unfold Rep at r ⊢;obtain⟨a,e,q1,q2⟩:=r;exact⟨a,e,λz=>q1 (hX _ z),q2⟩
theorem Qb{A X A1 X1:List Nat}{h:AH}{n0:Nat}(hc:∀n,n<n0->A1[n]?=A[n]?)(hX:∀a∈X,a∈X1):∀(ts:List T){ws:List V},qR A1 X1 h ts ws->T.unds n0 ts=true->qR A X h ts ws
 | [],w,r,u=>by unfold qR at r ⊢;exact r
 |t::ts,w,r,u=>by
  unfold qR at r ⊢;obtain⟨v,vs,e,q1,q2⟩:=r;unfold T.unds at u;simp only[wF]at u;exact⟨v,vs,e,g5 hc hX t q1 u.1,Qb hc hX ts q2 u.2⟩
end
theorem jv{x:V}{a:Nat}(h:flat x=true)(e:V.ref a=x):False:=by subst e;cases h
mutual
theorem j5{A X:List Nat}{h:AH}(nd:A.Nodup)(hs:∀a∈A,a∈X):∀(s t:T){w:V},Rep A X h s w->Rep A X h t w->s=t
 | .v x,t,w,r,q=>by
  unfold Rep at r;obtain⟨rfl,f⟩:=r;cases t with
  |v y=>unfold Rep at q;obtain⟨rfl,_⟩:=q;rfl
  |cell n=>unfold Rep at q;obtain⟨a,_,e⟩:=q;subst e;cases f
  |fz ts=>unfold Rep at q;obtain⟨a,vs,e,_⟩:=q;subst e;cases f
  |lst ts=>unfold Rep at q;obtain⟨a,vs,e,_⟩:=q;subst e;cases f
  |tup ts=>unfold Rep at q;obtain⟨a,vs,e,_⟩:=q;subst e;cases f
  |ob o=>unfold Rep at q;obtain⟨a,e,_⟩:=q;subst e;cases f
 | .cell n,t,w,r,q=>by
  unfold Rep at r;obtain⟨a,ea,rfl⟩:=r;have am:a∈X:=hs _ (wZ ea);cases t with
  |v y=>unfold Rep at q;obtain⟨e,f⟩:=q;exact(jv f e).elim
  |cell m=>
   unfold Rep at q;obtain⟨b,eb,e⟩:=q;cases e;have:n=m:=(List.getElem?_inj (by exact(wC.mp ea).1) nd).mp (ea.trans eb.symm);rw[this]
  |fz ts=>unfold Rep at q;obtain⟨b,vs,e,k,_⟩:=q;cases e;exact(k am).elim
  |lst ts=>unfold Rep at q;obtain⟨b,vs,e,k,_⟩:=q;cases e;exact(k am).elim
  |tup ts=>unfold Rep at q;obtain⟨b,vs,e,k,_⟩:=q;cases e;exact(k am).elim
  |ob o=>unfold Rep at q;obtain⟨b,e,k,_⟩:=q;cases e;exact(k am).elim
 | .fz ss,t,w,r,q=>by
  unfold Rep at r;obtain⟨a,vs,rfl,k1,k2,k3⟩:=r;cases t with
  |v y=>unfold Rep at q;obtain⟨e,f⟩:=q;exact(jv f e).elim
  |cell m=>unfold Rep at q;obtain⟨b,eb,e⟩:=q;cases e;exact(k1 (hs _ (wZ eb))).elim
  |fz ts=>unfold Rep at q;obtain⟨b,vs',e,z1,z2,z3⟩:=q;cases e;rw[k2]at z2;cases z2;rw[ZO nd hs ss ts k3 z3]
  |lst ts=>unfold Rep at q;obtain⟨b,vs',e,z1,z2,z3⟩:=q;cases e;rw[k2]at z2;cases z2
  |tup ts=>unfold Rep at q;obtain⟨b,vs',e,z1,z2,z3⟩:=q;cases e;rw[k2]at z2;cases z2
  |ob o=>unfold Rep at q;obtain⟨b,e,z1,z2⟩:=q;cases e;rw[k2]at z2;cases z2
 | .lst ss,t,w,r,q=>by
  unfold Rep at r;obtain⟨a,vs,rfl,k1,k2,k3⟩:=r;cases t with
  |v y=>unfold Rep at q;obtain⟨e,f⟩:=q;exact(jv f e).elim
  |cell m=>unfold Rep at q;obtain⟨b,eb,e⟩:=q;cases e;exact(k1 (hs _ (wZ eb))).elim
  |lst ts=>unfold Rep at q;obtain⟨b,vs',e,z1,z2,z3⟩:=q;cases e;rw[k2]at z2;cases z2;rw[ZO nd hs ss ts k3 z3]
  |fz ts=>unfold Rep at q;obtain⟨b,vs',e,z1,z2,z3⟩:=q;cases e;rw[k2]at z2;cases z2
  |tup ts=>unfold Rep at q;obtain⟨b,vs',e,z1,z2,z3⟩:=q;cases e;rw[k2]at z2;cases z2
  |ob o=>unfold Rep at q;obtain⟨b,e,z1,z2⟩:=q;cases e;rw[k2]at z2;cases z2
 | .tup ss,t,w,r,q=>by
  unfold Rep at r;obtain⟨a,vs,rfl,k1,k2,k3⟩:=r;cases t with
  |v y=>unfold Rep at q;obtain⟨e,f⟩:=q;exact(jv f e).elim
  |cell m=>unfold Rep at q;obtain⟨b,eb,e⟩:=q;cases e;exact(k1 (hs _ (wZ eb))).elim
  |tup ts=>unfold Rep at q;obtain⟨b,vs',e,z1,z2,z3⟩:=q;cases e;rw[k2]at z2;cases z2;rw[ZO nd hs ss ts k3 z3]
  |fz ts=>unfold Rep at q;obtain⟨b,vs',e,z1,z2,z3⟩:=q;cases e;rw[k2]at z2;cases z2
  |lst ts=>unfold Rep at q;obtain⟨b,vs',e,z1,z2,z3⟩:=q;cases e;rw[k2]at z2;cases z2
  |ob o=>unfold Rep at q;obtain⟨b,e,z1,z2⟩:=q;cases e;rw[k2]at z2;cases z2
 | .ob o,t,w,r,q=>by
  unfold Rep at r;obtain⟨a,rfl,k1,k2⟩:=r;cases t with
  |v y=>unfold Rep at q;obtain⟨e,f⟩:=q;exact(jv f e).elim
  |cell m=>unfold Rep at q;obtain⟨b,eb,e⟩:=q;cases e;exact(k1 (hs _ (wZ eb))).elim
  |fz ts=>unfold Rep at q;obtain⟨b,vs',e,z1,z2,z3⟩:=q;cases e;rw[k2]at z2;cases z2
  |lst ts=>unfold Rep at q;obtain⟨b,vs',e,z1,z2,z3⟩:=q;cases e;rw[k2]at z2;cases z2
  |tup ts=>unfold Rep at q;obtain⟨b,vs',e,z1,z2,z3⟩:=q;cases e;rw[k2]at z2;cases z2
  |ob o'=>unfold Rep at q;obtain⟨b,e,z1,z2⟩:=q;cases e;rw[k2]at z2;cases z2;rfl
theorem ZO{A X:List Nat}{h:AH}(nd:A.Nodup)(hs:∀a∈A,a∈X):∀(ss ts:List T){ws:List V},qR A X h ss ws->qR A X h ts ws->ss=ts
 | [],[],w,r,q=>rfl
 | [],t::ts,w,r,q=>by unfold qR at r q;obtain⟨v,vs,e,_⟩:=q;subst r;cases e
 |s::ss,[],w,r,q=>by unfold qR at r q;obtain⟨v,vs,e,_⟩:=r;subst q;cases e
 |s::ss,t::ts,w,r,q=>by
  unfold qR at r q;obtain⟨v,vs,rfl,k1,k2⟩:=r;obtain⟨v',vs',e,z1,z2⟩:=q;cases e;rw[j5 nd hs s t k1 z1,ZO nd hs ss ts k2 z2]
end
mutual
theorem qFY:∀(s t:T),T.beq s t=true->s=t
 | .v x,.v y,h=>by unfold T.beq at h;simp at h;rw[h]
 | .cell x,.cell y,h=>by unfold T.beq at h;simp at h;rw[h]
 | .fz x,.fz y,h=>by unfold T.beq at h;rw[Qu x y h]
 | .lst x,.lst y,h=>by unfold T.beq at h;rw[Qu x y h]
 | .tup x,.tup y,h=>by unfold T.beq at h;rw[Qu x y h]
 | .ob x,.ob y,h=>by unfold T.beq at h;simp at h;rw[h]
 | .ob _,.v _,h | .ob _,.cell _,h | .ob _,.fz _,h | .ob _,.lst _,h | .ob _,.tup _,h=>by simp[T.beq]at h
 | .v _,.ob _,h | .cell _,.ob _,h | .fz _,.ob _,h | .lst _,.ob _,h | .tup _,.ob _,h=>by simp[T.beq]at h
 | .v _,.cell _,h | .v _,.fz _,h | .v _,.lst _,h | .v _,.tup _,h=>by simp[T.beq]at h
 | .cell _,.v _,h | .cell _,.fz _,h | .cell _,.lst _,h | .cell _,.tup _,h=>by simp[T.beq]at h
 | .fz _,.v _,h | .fz _,.cell _,h | .fz _,.lst _,h | .fz _,.tup _,h=>by simp[T.beq]at h
 | .lst _,.v _,h | .lst _,.cell _,h | .lst _,.fz _,h | .lst _,.tup _,h=>by simp[T.beq]at h
 | .tup _,.v _,h | .tup _,.cell _,h | .tup _,.fz _,h | .tup _,.lst _,h=>by simp[T.beq]at h
theorem Qu:∀(ss ts:List T),T.beqs ss ts=true->ss=ts
 | [],[],h=>rfl
 | [],_::_,h=>by simp[T.beqs]at h
 |_::_,[],h=>by simp[T.beqs]at h
 |s::ss,t::ts,h=>by unfold T.beqs at h;simp only[wF]at h;rw[qFY s t h.1,Qu ss ts h.2]
end
def Frm(A:List Nat)(h h':AH):Prop:=h.length<=h'.length/\∀j,j<h.length->j∉A->h'[j]?=h[j]?
theorem Frm.refl(A:List Nat)(h:AH):Frm A h h:=⟨wG _,λ_ _ _=>rfl⟩
theorem Frm.trans{A:List Nat}{a b c:AH}(x:Frm A a b)(y:Frm A b c):Frm A a c:=⟨wN x.1 y.1,λj hj hA=>(y.2 j (wK hj x.1) hA).trans (x.2 j hj hA)⟩
theorem Frm.trans2{A B:List Nat}{a b c:AH}(x:Frm A a b)(hB:∀k∈B,a.length<=k)(y:Frm (A++B) b c):Frm A a c:=
 ⟨wN x.1 y.1,λj hj hA=>(y.2 j (wK hj x.1) (by rw[wJ];rintro(z|z);exact hA z;have:=hB _ z;omega)).trans (x.2 j hj hA)⟩
theorem Frm.app(A:List Nat)(h e:AH):Frm A h (h++e):=⟨by simp,λj hj _=>by rw[wB hj]⟩
theorem Frm.set{A:List Nat}{h h':AH}(f:Frm A h h'){a:Nat}(ha:a∈A\/h.length<=a)(o:O):Frm A h (h'.set a o):=⟨by simpa using f.1,λj hj hA=>by
 rw[wf (by rintro rfl;rcases ha with z|z;exact hA z;omega)];exact f.2 j hj hA⟩
theorem qO{h:AH}{a:Nat}{o:O}(e:h[a]?=some o):a<h.length:=(wC.mp e).1
structure RelM(gl:List T)(A X:List Nat)(h:AH)(M:Mem):Prop where
 len:A.length=M.length
 nd:A.Nodup
 sub:∀a∈A,a∈X
 lt:∀a∈X,a<h.length
 at_:∀(n:Nat) a,A[n]?=some a->∃ts vs,M[n]?=some ts/\h[a]?=some (.lst false vs)/\qR A X h ts vs
 glo:∀(g:Nat) t,gl[g]?=some t->Rep A X h t (.ref g)
section
variable{gl:List T}{A X:List Nat}{h h':AH}{M:Mem}
theorem RelM.keepN(R:RelM gl A X h M)(f:Frm A h h'):∀a o,a∉X->h[a]?=some o->a∉X/\h'[a]?=some o:=λa o hx e=>⟨hx,(f.2 a (qO e) λz=>hx (R.sub _ z)).trans e⟩
theorem RelM.keep(R:RelM gl A X h M)(f:Frm A h h'){t:T}{w:V}(r:Rep A X h t w):Rep A X h' t w:=zr (λ_ _ e=>e) (R.keepN f) t r
theorem RelM.keeps(R:RelM gl A X h M)(f:Frm A h h'){t:List T}{w:List V}(r:qR A X h t w):qR A X h' t w:=qT (λ_ _ e=>e) (R.keepN f) t r
theorem RelM.up(R:RelM gl A X h M)(e:AH):RelM gl A X (h++e) M:=by
 have f:Frm A h (h++e):=Frm.app A h e;refine⟨R.len,R.nd,R.sub,λa ha=>wK (R.lt a ha) f.1,λn a ea=>?_,λg t eg=>R.keep f (R.glo g t eg)⟩;obtain⟨ts,vs,e1,e2,e3⟩:=R.at_ n a ea;exact⟨ts,vs,e1,by rw[wB (qO e2)];exact e2,R.keeps f e3⟩
theorem RelM.put(R:RelM gl A X h M){n a:Nat}(ea:A[n]?=some a){ts:List T}{vs:List V}(r:qR A X h ts vs):RelM gl A X (h.set a (.lst false vs)) (M.set n ts)/\Frm A h (h.set a (.lst false vs)):=by
 have am:a∈A:=wZ ea;have f:Frm A h (h.set a (.lst false vs)):=(Frm.refl A h).set (.inl am) _;have al:a<h.length:=R.lt a (R.sub a am);refine⟨⟨by simpa using R.len,R.nd,R.sub,λb hb=>by simpa using R.lt b hb,λm b eb=>?_,λg t eg=>R.keep f (R.glo g t eg)⟩,f⟩;by_cases hm:n=m
 ·subst hm;rw[ea]at eb;cases eb;have nl:n<M.length:=by rw[<-R.len];exact(wC.mp ea).1
  exact⟨ts,vs,by rw[wv nl],by rw[wv al],R.keeps f r⟩
 ·obtain⟨ts',vs',e1,e2,e3⟩:=R.at_ m b eb;have hab:a≠b:=by
   rintro rfl;exact hm ((List.getElem?_inj (wC.mp ea).1 R.nd).mp (ea.trans eb.symm))
  exact⟨ts',vs',by rw[wf hm];exact e1,by rw[wf hab];exact e2,R.keeps f e3⟩
end
def New(gl:List T)(A X:List Nat)(n:Nat)(h:AH)(M:Mem)(t:T)(w:V):Prop:=∀kvs,t=.ob (.dct kvs)->∃a,w=.ref a/\n<=a/\RelM gl A (X++[a]) h M
theorem New.of_lf{gl:List T}{A X:List Nat}{n:Nat}{h:AH}{M:Mem}{t:T}{w:V}(l:t.lf=true):New gl A X n h M t w:=λkvs e=>by subst e;cases l
theorem New.lst{gl:List T}{A X:List Nat}{n:Nat}{h:AH}{M:Mem}{ts:List T}{w:V}:New gl A X n h M (.lst ts) w:=λkvs e=>by cases e
theorem New.tup{gl:List T}{A X:List Nat}{n:Nat}{h:AH}{M:Mem}{ts:List T}{w:V}:New gl A X n h M (.tup ts) w:=λkvs e=>by cases e
def Frs(gl:List T)(A X:List Nat)(n:Nat)(h:AH)(M:Mem)(t:T)(w:V):Prop:=∃fp,FP X h t w fp/\fp.Nodup/\(∀a∈fp,n<=a)/\RelM gl A (X++fp) h M/\New gl A X n h M t w
def Frss(gl:List T)(A X:List Nat)(n:Nat)(h:AH)(M:Mem)(t:List T)(w:List V):Prop:=∃fp,FPs X h t w fp/\fp.Nodup/\(∀a∈fp,n<=a)/\RelM gl A (X++fp) h M
theorem Frs.of_lf{gl:List T}{A X:List Nat}{n:Nat}{h:AH}{M:Mem}{t:T}{w:V}(R:RelM gl A X h M)(r:Rep A X h t w)(l:t.lf=true):Frs gl A X n h M t w:=⟨[],qCE t r l,vi,λa ha=>by simp at ha,by rw[wb];exact R,New.of_lf l⟩
theorem Frss.of_lf{gl:List T}{A X:List Nat}{n:Nat}{h:AH}{M:Mem}{t:List T}{w:List V}(R:RelM gl A X h M)(r:qR A X h t w)(l:T.lfs t=true):Frss gl A X n h M t w:=⟨[],a5 t r l,vi,λa ha=>by simp at ha,by rw[wb];exact R⟩
def Sim{α β:Type}(gl:List T)(A X:List Nat)(h:AH)(Q:α->β->AH->Mem->Prop):PR (α×Mem)->Res (β×AH)->Prop
 | .ok (x,M'),r=>∃y h',r=.ok (y,h')/\Frm A h h'/\RelM gl A X h' M'/\Q x y h' M'
 | .exc c M',r=>∃h',r=.exc c h'/\Frm A h h'/\RelM gl A X h' M'
 | .stuck,_=>True
theorem Sim.bind{α β α2 β2:Type}{gl:List T}{A X:List Nat}{h:AH}{Q:α->β->AH->Mem->Prop}{Q2:α2->β2->AH->Mem->Prop}{r:PR (α×Mem)}{rh:Res (β×AH)}{f:α×Mem->PR (α2×Mem)}{g:β×AH->Res (β2×AH)}
  (s:Sim gl A X h Q r rh) (k:∀x M' y h',Frm A h h'->RelM gl A X h' M'->Q x y h' M'->Sim gl A X h' Q2 (f (x,M')) (g (y,h'))):Sim gl A X h Q2 (r.bind f) (rh.bind g):=by
 cases r with
 |ok p=>
  obtain⟨x,M'⟩:=p;obtain⟨y,h',rfl,f1,R1,q⟩:=s;have:=k x M' y h' f1 R1 q;rw[tD,tH];revert this;generalize f (x,M')=r2;generalize g (y,h')=rh2;intro s2;cases r2 with
  |ok p2=>
   obtain⟨x2,M2⟩:=p2;obtain⟨y2,h2,e2,f2,R2,q2⟩:=s2;exact⟨y2,h2,e2,f1.trans f2,R2,q2⟩
  |exc c M2=>
   obtain⟨h2,e2,f2,R2⟩:=s2;exact⟨h2,e2,f1.trans f2,R2⟩
  |stuck=>trivial
 |exc c M'=>
  obtain⟨h',rfl,f1,R1⟩:=s;exact⟨h',rfl,f1,R1⟩
 |stuck=>trivial
theorem Sim.nx{α β:Type}{gl:List T}{A X:List Nat}{h:AH}{Q:α->β->AH->Mem->Prop}{r:PR (α×Mem)}{rh:Res (β×AH)}(s:Sim gl A X h Q r rh):Sim gl A X h Q r.nx rh.nx:=by
 cases r with
 |ok p=>obtain⟨x,M'⟩:=p;obtain⟨y,h',rfl,a,b,c⟩:=s;exact⟨y,h',rfl,a,b,c⟩
 |exc c M'=>trivial
 |stuck=>trivial
theorem Sim.stuck{α β:Type}{gl:List T}{A X:List Nat}{h:AH}{Q:α->β->AH->Mem->Prop}{r:Res (β×AH)}:Sim gl A X h Q (.stuck:PR (α×Mem)) r:=trivial
theorem tK{α β α2:Type}{gl:List T}{A X:List Nat}{h:AH}{Q:α->β->AH->Mem->Prop}{o:Option α2}{f:α2->PR (α×Mem)}{r:Res (β×AH)}(k:∀x,o=some x->Sim gl A X h Q (f x) r):Sim gl A X h Q ((tJ o).bind f) r:=by
 cases o with
 |none=>trivial
 |some x=>exact k x rfl
def QE(gl:List T)(A X:List Nat)(n:Nat):TB->V->AH->Mem->Prop:=λx w h M=>Rep A X h x.1 w/\(x.2=true->Frs gl A X n h M x.1 w)
def QEs(gl:List T)(A X:List Nat)(n:Nat):List TB->List V->AH->Mem->Prop:=λx w h M=>qR A X h (x.map (·.1)) w/\(x.all (·.2)=true->Frss gl A X n h M (x.map (·.1)) w)
theorem QE.le{gl:List T}{A X:List Nat}{n m:Nat}{x:TB}{w:V}{h:AH}{M:Mem}(q:QE gl A X n x w h M)(l:m<=n):QE gl A X m x w h M:=⟨q.1,λe=>by obtain⟨fp,a,b,c,d,nw⟩:=q.2 e;exact⟨fp,a,b,λz hz=>wN l (c z hz),d,λkvs e=>by obtain⟨z,q1,q2,q3⟩:=nw kvs e;exact⟨z,q1,wN l q2,q3⟩⟩⟩
theorem Sim.le{gl:List T}{A X:List Nat}{h:AH}{n m:Nat}{r:PR (TB×Mem)}{rh:RV}(s:Sim gl A X h (QE gl A X n) r rh)(l:m<=n):Sim gl A X h (QE gl A X m) r rh:=by
 cases r with
 |ok p=>obtain⟨y,h',e,f,R,q⟩:=s;exact⟨y,h',e,f,R,q.le l⟩
 |exc c M=>exact s
 |stuck=>trivial
theorem RelM.weak{gl:List T}{A X X':List Nat}{h:AH}{M:Mem}(R:RelM gl A X' h M)(hX:∀a∈X,a∈X')(hA:∀a∈A,a∈X):RelM gl A X h M:=by
 have hn:∀a o,a∉X'->h[a]?=some o->a∉X/\h[a]?=some o:=λa o x y=>⟨λz=>x (hX _ z),y⟩
 refine⟨R.len,R.nd,hA,λa ha=>R.lt a (hX a ha),λn a e=>?_,λg t e=>zr (λ_ _ e=>e) hn t (R.glo g t e)⟩;obtain⟨ts,vs,e1,e2,e3⟩:=R.at_ n a e;exact⟨ts,vs,e1,e2,qT (λ_ _ e=>e) hn ts e3⟩
theorem RelM.addX{gl:List T}{A X X':List Nat}{h:AH}{M:Mem}(R:RelM gl A X h M){o:O}(h1:∀a,a∈X'↔a=h.length\/a∈X):RelM gl A X' (h++[o]) M:=by
 have hn:∀a o',a∉X->h[a]?=some o'->a∉X'/\(h++[o])[a]?=some o':=λa o' x y=>⟨by
  rw[h1];rintro(z|z)
  ·have:=qO y;omega
  ·exact x z,by rw[wB (qO y)];exact y⟩
 refine⟨R.len,R.nd,λa ha=>(h1 a).mpr (.inr (R.sub a ha)),λa ha=>?_,λn a e=>?_,λg t e=>zr (λ_ _ e=>e) hn t (R.glo g t e)⟩
 ·rcases(h1 a).mp ha with z|z
  ·simp[z]
  ·have:=R.lt a z;simp;omega
 ·obtain⟨ts,vs,e1,e2,e3⟩:=R.at_ n a e;exact⟨ts,vs,e1,by rw[wB (qO e2)];exact e2,qT (λ_ _ e=>e) hn ts e3⟩
section
variable{gl:List T}{A X:List Nat}{h:AH}{M:Mem}
theorem Q8(R:RelM gl A X h M){t:T}{w:V}{ts:List T}(r:Rep A X h t w)(e:t.its M=some ts):∃a vs,w=.ref a/\items h a=some vs/\qR A X h ts vs:=by
 cases t with
 |v x=>cases e
 |cell n=>
  unfold Rep at r;obtain⟨a,ea,rfl⟩:=r;obtain⟨ts',vs,e1,e2,e3⟩:=R.at_ n a ea;have:M[n]?=some ts:=e;rw[e1]at this;cases this;exact⟨a,vs,rfl,by unfold items;rw[e2],e3⟩
 |fz xs=>unfold Rep at r;obtain⟨a,vs,rfl,_,q,k⟩:=r;cases e;exact⟨a,vs,rfl,by unfold items;rw[q],k⟩
 |lst xs=>unfold Rep at r;obtain⟨a,vs,rfl,_,q,k⟩:=r;cases e;exact⟨a,vs,rfl,by unfold items;rw[q],k⟩
 |tup xs=>unfold Rep at r;obtain⟨a,vs,rfl,_,q,k⟩:=r;cases e;exact⟨a,vs,rfl,by unfold items;rw[q],k⟩
 |ob o=>cases e
theorem zq(R:RelM gl A X h M){t:T}{w:V}{ts:List T}(r:Rep A X h t w)(e:t.lis M=some ts):∃a vs f,w=.ref a/\h[a]?=some (.lst f vs)/\qR A X h ts vs:=by
 cases t with
 |v x=>cases e
 |cell n=>
  unfold Rep at r;obtain⟨a,ea,rfl⟩:=r;obtain⟨ts',vs,e1,e2,e3⟩:=R.at_ n a ea;have:M[n]?=some ts:=e;rw[e1]at this;cases this;exact⟨a,vs,false,rfl,e2,e3⟩
 |fz xs=>unfold Rep at r;obtain⟨a,vs,rfl,_,q,k⟩:=r;cases e;exact⟨a,vs,true,rfl,q,k⟩
 |lst xs=>unfold Rep at r;obtain⟨a,vs,rfl,_,q,k⟩:=r;cases e;exact⟨a,vs,false,rfl,q,k⟩
 |tup xs=>cases e
 |ob o=>cases e
theorem u8(R:RelM gl A X h M){t:T}{w:V}{ts:List T}(r:Rep A X h t w)(e:t.mu M=some ts):∃a vs,w=.ref a/\zY h a=some vs/\qR A X h ts vs:=by
 cases t with
 |v x=>cases e
 |cell n=>
  unfold Rep at r;obtain⟨a,ea,rfl⟩:=r;obtain⟨ts',vs,e1,e2,e3⟩:=R.at_ n a ea;have:M[n]?=some ts:=e;rw[e1]at this;cases this;exact⟨a,vs,rfl,by unfold zY;rw[e2],e3⟩
 |fz xs=>cases e
 |lst xs=>unfold Rep at r;obtain⟨a,vs,rfl,_,q,k⟩:=r;cases e;exact⟨a,vs,rfl,by unfold zY;rw[q],k⟩
 |tup xs=>cases e
 |ob o=>cases e
theorem qo{t:T}{x:V}(e:t.isV=some x):t=.v x:=by cases t<;>cases e;rfl
theorem Qh{t:T}{w:V}(e:t.isV=none)(r:Rep A X h t w):∃a:Nat,w=.ref a:=by
 cases t with
 |v x=>cases e
 |cell n=>unfold Rep at r;obtain⟨a,_,e⟩:=r;exact⟨a,e⟩
 |fz xs=>unfold Rep at r;obtain⟨a,vs,e,_⟩:=r;exact⟨a,e⟩
 |lst xs=>unfold Rep at r;obtain⟨a,vs,e,_⟩:=r;exact⟨a,e⟩
 |tup xs=>unfold Rep at r;obtain⟨a,vs,e,_⟩:=r;exact⟨a,e⟩
 |ob o=>unfold Rep at r;obtain⟨a,e,_⟩:=r;exact⟨a,e⟩
theorem Jn(R:RelM gl A X h M){ts:List T}{vs:List V}{n:Nat}{f:Bool}(r:qR A X h ts vs)(hn:n<=h.length)(hf:f=true->Frss gl A X n h M ts vs):Sim gl A X h (QE gl A X n) (.ok ((.lst ts,f),M)) (newL vs h):=by
 have fm:Frm A h (h++[O.lst false vs]):=Frm.app A h _;have hx:h.length∉X:=λz=>wn _ (R.lt _ z);have ha:(h++[O.lst false vs])[h.length]?=some (.lst false vs):=by simp
 refine⟨.ref h.length,_,rfl,fm,R.up _,?_,λe=>?_⟩
 ·show Rep A X _ (.lst ts) _;unfold Rep;exact⟨_,vs,rfl,hx,ha,R.keeps fm r⟩
 ·obtain⟨fp,p,nd,l,R'⟩:=hf e;refine⟨fp++[h.length],?_,?_,?_,R'.addX λa=>by simp only[wJ,wU];grind,New.lst⟩
  ·show FP X _ (.lst ts) _ _;unfold FP;exact⟨_,vs,fp,rfl,hx,ha,jR (R.keepN fm) ts p,rfl⟩
  ·rw[vH];refine⟨nd,by simp,?_⟩;rintro a ha b hb rfl;obtain⟨_,vs',q⟩:=Qt ts p a ha;simp at hb;have:=qO q;omega
  ·intro a ha;rcases wJ.mp ha with z|z
   ·exact l a z
   ·simp at z;omega
theorem J4(R:RelM gl A X h M){ts:List T}{vs:List V}{n:Nat}{f:Bool}(r:qR A X h ts vs)(hf:f=true->Frss gl A X n h M ts vs):Sim gl A X h (QE gl A X n) (.ok ((.tup ts,f),M)) (newT vs h):=by
 have fm:Frm A h (h++[O.tup vs]):=Frm.app A h _;have hx:h.length∉X:=λz=>wn _ (R.lt _ z);have ha:(h++[O.tup vs])[h.length]?=some (.tup vs):=by simp
 refine⟨.ref h.length,_,rfl,fm,R.up _,?_,λe=>?_⟩
 ·show Rep A X _ (.tup ts) _;unfold Rep;exact⟨_,vs,rfl,hx,ha,R.keeps fm r⟩
 ·obtain⟨fp,p,nd,l,R'⟩:=hf e;refine⟨fp,?_,nd,l,R'.up _,New.tup⟩;show FP X _ (.tup ts) _ _;unfold FP;exact⟨_,vs,rfl,hx,ha,jR (R.keepN fm) ts p⟩
theorem N1(R:RelM gl A X h M){ts:List T}{vs:List V}(r:qR A X h ts vs):Sim gl A X h (QE gl A X h.length) (.ok (lT ts,M)) (newL vs h):=
 Jn R r (wG _) λe=>Frss.of_lf R r e
theorem qI(R:RelM gl A X h M){x:V}(fx:flat x=true){n:Nat}:Sim gl A X h (QE gl A X n) (.ok ((.v x,true),M)) (.ok (x,h)):=
 have r:Rep A X h (.v x) x:=by unfold Rep;exact⟨rfl,fx⟩
 ⟨x,h,rfl,Frm.refl A h,R,r,λ_=>Frs.of_lf R r rfl⟩
theorem zd{x w:V}(r:Rep A X h (.v x) w):w=x:=by unfold Rep at r;exact r.1
theorem qB8(xs:List T):T.lf (.tup xs)=T.lfs xs:=by rw[T.lf]
theorem qCb(R:RelM gl A X h M){op:BOp}{s t:T}{x y:V}{r:TB}(e:qx M op s t=some r)(r1:Rep A X h s x)(r2:Rep A X h t y):Sim gl A X h (QE gl A X h.length) (.ok (r,M)) (qFc op x y h):=by
 unfold qx at e;split at e
 ·rename_i i j e1 e2;cases qo e1;cases qo e2;cases zd r1;cases zd r2;cases op with
  |add=>cases e;exact qI R rfl
  |sub=>cases e;exact qI R rfl
  |mul=>dsimp only at e;split at e<;>cases e;rename_i c;show Sim _ _ _ _ _ _ (if _ then _ else _);rw[if_pos c];exact qI R rfl
  |fdiv=>
   dsimp only at e;show Sim _ _ _ _ _ _ (if _ then _ else _);split at e
   ·rename_i c;cases e;rw[if_pos c];exact qI R rfl
   ·rename_i c;rw[if_neg c];split at e
    ·rename_i c;cases e;rw[if_pos c];exact qI R rfl
    ·cases e
  |mod=>
   dsimp only at e;show Sim _ _ _ _ _ _ (if _ then _ else _);split at e
   ·rename_i c;cases e;rw[if_pos c];exact qI R rfl
   ·rename_i c;rw[if_neg c];split at e
    ·rename_i c;cases e;rw[if_pos c];exact qI R rfl
    ·cases e
  |pow=>dsimp only at e;split at e<;>cases e;rename_i c;show Sim _ _ _ _ _ _ (if _ then _ else _);rw[if_pos c];exact qI R rfl
  |band=>cases e;exact qI R rfl
 ·rename_i k e1 e2;cases qo e2;cases zd r2;obtain⟨a,rfl⟩:=Qh e1 r1;cases op<;>first|cases e|skip
  dsimp only at e;cases em:s.mu M with
  |none=>rw[em]at e;cases e
  |some xs=>
   rw[em]at e;dsimp only[Option.bind_some]at e;split at e<;>cases e;rename_i c;obtain⟨a',vs,ea,m,rs⟩:=u8 R r1 em;cases ea;have lv:vs.length=xs.length:=(qF (reps_iff.mp rs)).symm;show Sim _ _ _ _ _ _ (match zY h a with|some xs=>_|none=>_);rw[m];dsimp only;rw[if_pos (by rw[lv];exact c)];exact N1 R (reps_iff.mpr (qBF _ (reps_iff.mp rs)))
 ·rename_i e1 e2;obtain⟨a,rfl⟩:=Qh e1 r1;obtain⟨b,rfl⟩:=Qh e2 r2;cases op<;>first|cases e|skip
  dsimp only at e;split at e
  ·rename_i xs ys;split at e<;>cases e;rename_i c;unfold Rep at r1 r2;obtain⟨a1,vs,ea,n1,k1,q1⟩:=r1;cases ea;obtain⟨b1,us,eb,n2,k2,q2⟩:=r2;cases eb;have lv:vs.length=xs.length:=(qF (reps_iff.mp q1)).symm;have lu:us.length=ys.length:=(qF (reps_iff.mp q2)).symm;have m1:zY h a=none:=by unfold zY;rw[k1]
   have t1:qh h a=some vs:=by unfold qh;rw[k1]
   have t2:qh h b=some us:=by unfold qh;rw[k2]
   have q3:=reps_iff.mpr (zw (reps_iff.mp q1) (reps_iff.mp q2));show Sim _ _ _ _ _ _ (match zY h a,zY h b with|some xs,some ys=>_|_,_=>_);rw[m1];show Sim _ _ _ _ _ _ (match qh h a,qh h b with|some xs,some ys=>_|_,_=>_);rw[t1,t2];dsimp only;rw[if_pos ⟨λz=>c.1 (by subst z;exact wz.mp lv.symm),by rw[lv,lu];exact c.2⟩];split
   ·rename_i z;subst z;have y0:ys=[]:=wz.mp lu.symm;subst y0;have r:Rep A X h (.tup (xs++[])) (.ref a):=by
     rw[wb];unfold Rep;exact⟨a,vs,rfl,n1,k1,q1⟩
    exact⟨_,h,rfl,Frm.refl A h,R,r,λe=>Frs.of_lf R r (by rw[qB8];exact e)⟩
   ·exact J4 R q3 λe=>Frss.of_lf R q3 e
  cases em:s.mu M with
  |none=>rw[em]at e;cases e
  |some xs=>
   rw[em]at e;dsimp only[Option.bind_some]at e;cases en:t.mu M with
   |none=>rw[en]at e;cases e
   |some ys=>
    rw[en]at e;dsimp only[Option.bind_some]at e;split at e<;>cases e;rename_i c;obtain⟨a',vs,ea,m,rs⟩:=u8 R r1 em;cases ea;obtain⟨b',us,eb,m2,rs2⟩:=u8 R r2 en;cases eb;have lv:vs.length=xs.length:=(qF (reps_iff.mp rs)).symm;have lu:us.length=ys.length:=(qF (reps_iff.mp rs2)).symm;show Sim _ _ _ _ _ _ (match zY h a,zY h b with|some xs,some ys=>_|_,_=>_);rw[m,m2];dsimp only;rw[if_pos (by rw[lv,lu];exact c)];exact N1 R (reps_iff.mpr (zw (reps_iff.mp rs) (reps_iff.mp rs2)))
 ·cases e
theorem P9{x:V}{b:Bool}(e:eqF x x=some b):b=true:=by
 cases x with
 |int i=>cases e;exact uW i
 |bl i=>cases e;exact uW i
 |str i=>cases e;exact uW i
 |non=>cases e;rfl
 |_=>cases e
theorem QJ{f:T->T->Option Bool}(hf:∀t b,f t t=some b->b=true):∀(ts:List T) bs,jS f ts ts=some bs->bs.all id=true
 | [],bs,e=>by cases e;rfl
 |t::ts,bs,e=>by
  unfold jS at e;split at e
  ·rename_i b bs' e1 e2;cases e;rw[List.all_cons,hf t b e1,QJ hf ts bs' e2];rfl
  ·cases e
theorem Jf:∀(n:Nat) (t:T) (b:Bool),eqT M n t t=some b->b=true
 | 0,t,b,e=>by
  unfold eqT at e;split at e
  ·rename_i x y e1 e2;rw[e1]at e2;cases e2;exact P9 e
  ·cases e
 |n+1,t,b,e=>by
  unfold eqT at e;split at e
  ·rename_i x y e1 e2;rw[e1]at e2;cases e2;exact P9 e
  ·rename_i e1 e2;rw[e1]at e2;cases e2
  ·rename_i e1 e2;rw[e1]at e2;cases e2
  ·split at e
   ·rename_i xs ys e1 e2;rw[e1]at e2;cases e2;rw[if_pos rfl]at e;obtain⟨bs,eb,rfl⟩:=wA.mp e;exact QJ (Jf n) xs bs eb
   ·rename_i e1 e2;rw[e1]at e2;cases e2
   ·rename_i e1 e2;rw[e1]at e2;cases e2
   ·split at e
    ·rename_i xs ys e1 e2;rw[e1]at e2;cases e2;rw[if_pos rfl]at e;obtain⟨bs,eb,rfl⟩:=wA.mp e;exact QJ (Jf n) xs bs eb
    ·cases e
theorem ZU{f:T->T->Option Bool}{g:V->V->Option Bool}(hf:∀s t x y b,Rep A X h s x->Rep A X h t y->f s t=some b->g x y=some b):∀{ss ts:List T}{xs ys:List V}{bs:List Bool},qR A X h ss xs->qR A X h ts ys->jS f ss ts=some bs->JC g xs ys=some bs
 | [],[],xs,ys,bs,r1,r2,e=>by unfold qR at r1 r2;subst r1 r2;exact e
 | [],t::ts,xs,ys,bs,r1,r2,e=>by cases e
 |s::ss,[],xs,ys,bs,r1,r2,e=>by cases e
 |s::ss,t::ts,xs,ys,bs,r1,r2,e=>by
  unfold qR at r1 r2;obtain⟨x,xs',rfl,a1,a2⟩:=r1;obtain⟨y,ys',rfl,b1,b2⟩:=r2;unfold jS at e;split at e
  ·rename_i b bs' e1 e2;cases e;unfold JC;rw[hf s t x y b a1 b1 e1,ZU hf a2 b2 e2]
  ·cases e
theorem QG{x w:V}(r:Rep A X h (.v x) w):flat x=true:=by unfold Rep at r;exact r.2
theorem T1(R:RelM gl A X h M){t:T}{a:Nat}(r:Rep A X h t (.ref a))(hs:(t.its M).isSome=true):(items h a).isSome=true:=by
 cases t with
 |v x=>unfold Rep at r;exact(jv r.2 r.1).elim
 |cell n=>unfold Rep at r;obtain⟨b,eb,e⟩:=r;cases e;obtain⟨_,_,_,q,_⟩:=R.at_ n _ eb;unfold items;rw[q];rfl
 |fz xs=>unfold Rep at r;obtain⟨b,vs,e,_,q,_⟩:=r;cases e;unfold items;rw[q];rfl
 |lst xs=>unfold Rep at r;obtain⟨b,vs,e,_,q,_⟩:=r;cases e;unfold items;rw[q];rfl
 |tup xs=>unfold Rep at r;obtain⟨b,vs,e,_,q,_⟩:=r;cases e;unfold items;rw[q];rfl
 |ob o=>cases hs
theorem S2{t:T}{w:V}{ts:List T}(r:Rep A X h t w)(e1:t.isV=none)(e2:t.lis M=none)(e:t.its M=some ts):∃a vs,w=.ref a/\h[a]?=some (.tup vs)/\qR A X h ts vs:=by
 cases t with
 |v x=>cases e1
 |cell n=>have z:M[n]?=some ts:=e;have z2:M[n]?=none:=e2;rw[z]at z2;cases z2
 |fz xs=>cases e2
 |lst xs=>cases e2
 |tup xs=>unfold Rep at r;obtain⟨b,vs,e',_,q,k⟩:=r;cases e;exact⟨b,vs,e',q,k⟩
 |ob o=>cases e
theorem qAx{n:Nat}{x y:V}(fx:flat x=true)(fy:flat y=true):eqD h (n+1) x y=eqF x y:=by
 cases x<;>cases y<;>first|rfl|(simp[flat]at fx;done)|(simp[flat]at fy;done)
theorem F5(R:RelM gl A X h M):∀(n:Nat) (s t:T) (x y:V) (b:Bool),Rep A X h s x->Rep A X h t y->eqT M n s t=some b->eqD h n x y=some b
 | 0,s,t,x,y,b,r1,r2,e=>by
  unfold eqT at e;split at e
  ·rename_i x' y' e1 e2;cases qo e1;cases qo e2;cases zd r1;cases zd r2;unfold eqD;exact e
  ·cases e
 |n+1,s,t,x,y,b,r1,r2,e=>by
  unfold eqT at e;split at e
  ·rename_i x' y' e1 e2;cases qo e1;cases qo e2;cases zd r1;cases zd r2;rw[qAx (QG r1) (QG r2)];exact e
  ·rename_i x' e1 e2;cases qo e1;cases zd r1;obtain⟨c,rfl⟩:=Qh e2 r2;have fx:=QG r1;split at e<;>cases e;rename_i hz;have:=T1 R r2 hz;cases x<;>first|(unfold eqD;simp[flat,this];done)|(simp[flat]at fx;done)
  ·rename_i y' e1 e2;cases qo e2;cases zd r2;obtain⟨c,rfl⟩:=Qh e1 r1;have fx:=QG r2;split at e<;>cases e;rename_i hz;have:=T1 R r1 hz;cases y<;>first|(unfold eqD;simp[flat,this];done)|(simp[flat]at fx;done)
  ·rename_i e1 e2;obtain⟨c,rfl⟩:=Qh e1 r1;obtain⟨d,rfl⟩:=Qh e2 r2;have same:c=d->b=true:=by
    rintro rfl;have:=j5 R.nd R.sub s t r1 r2;subst this;refine Jf (M:=M) (n+1) s b ?_;unfold eqT;rw[e1];exact e
   split at e
   ·rename_i xs ys l1 l2;obtain⟨_,vs,f1,q1,k1,m1⟩:=zq R r1 l1;cases q1;obtain⟨_,us,f2,q2,k2,m2⟩:=zq R r2 l2;cases q2;unfold eqD;rw[k1,k2];dsimp only;by_cases hcd:c=d
    ·rw[if_pos hcd,same hcd]
    ·rw[if_neg hcd,<-qF (reps_iff.mp m1),<-qF (reps_iff.mp m2)];split at e
     ·rename_i hl;rw[if_pos hl];obtain⟨bs,eb,rfl⟩:=wA.mp e;rw[ZU (λs t x y b a1 a2 a3=>F5 R n s t x y b a1 a2 a3) m1 m2 eb];rfl
     ·rename_i hl;rw[if_neg hl];exact e
   ·rename_i l1 l2;obtain⟨_,vs,f1,q1,k1,m1⟩:=zq R r1 l1;cases q1;split at e<;>cases e;rename_i z;cases ei:t.its M with
    |none=>rw[ei]at z;cases z
    |some ys=>
     obtain⟨_,us,q2,k2,m2⟩:=S2 r2 e2 l2 ei;cases q2;unfold eqD;rw[k1,k2]
   ·rename_i l1 l2;obtain⟨_,vs,f1,q1,k1,m1⟩:=zq R r2 l2;cases q1;split at e<;>cases e;rename_i z;cases ei:s.its M with
    |none=>rw[ei]at z;cases z
    |some ys=>
     obtain⟨_,us,q2,k2,m2⟩:=S2 r1 e1 l1 ei;cases q2;unfold eqD;rw[k1,k2]
   ·rename_i l1 l2;split at e
    ·rename_i xs ys i1 i2;obtain⟨_,vs,q1,k1,m1⟩:=S2 r1 e1 l1 i1;cases q1;obtain⟨_,us,q2,k2,m2⟩:=S2 r2 e2 l2 i2;cases q2;unfold eqD;rw[k1,k2];dsimp only;by_cases hcd:c=d
     ·rw[if_pos hcd,same hcd]
     ·rw[if_neg hcd,<-qF (reps_iff.mp m1),<-qF (reps_iff.mp m2)];split at e
      ·rename_i hl;rw[if_pos hl];obtain⟨bs,eb,rfl⟩:=wA.mp e;rw[ZU (λs t x y b a1 a2 a3=>F5 R n s t x y b a1 a2 a3) m1 m2 eb];rfl
      ·rename_i hl;rw[if_neg hl];obtain⟨bs,eb,rfl⟩:=wA.mp e;rw[ZU (λs t x y b a1 a2 a3=>F5 R n s t x y b a1 a2 a3) (reps_iff.mpr (QW _ (reps_iff.mp m1))) (reps_iff.mpr (QW _ (reps_iff.mp m2))) eb];rfl
    ·cases e
theorem Jk:∀{ts:List T}{vs xs:List V},qR A X h ts vs->jn ts=some xs->vs=xs/\xs.all flat=true
 | [],vs,xs,r,e=>by unfold qR at r;subst r;cases e;exact⟨rfl,rfl⟩
 |t::ts,vs,xs,r,e=>by
  unfold qR at r;obtain⟨v,vs',rfl,a,b⟩:=r;cases t with
  |v x=>
   unfold jn at e;obtain⟨xs',e',rfl⟩:=wA.mp e;obtain⟨rfl,k⟩:=Jk b e';cases zd a;exact⟨rfl,by rw[List.all_cons,QG a,k];rfl⟩
  |_=>cases e
theorem qDB{t:T}{kvs:List (Int×V)}{w:V}(e:t.dct=some kvs)(r:Rep A X h t w):∃p:Nat,w=.ref p/\p∉X/\h[p]?=some (.ob (.dct kvs)):=by
 cases t with
 |ob o=>
  cases o with
  |dct k=>cases e;unfold Rep at r;exact r
  |exn c=>cases e
 |_=>cases e
theorem qBY(R:RelM gl A X h M){s t:T}{x y:V}{b:Bool}(r1:Rep A X h s x)(r2:Rep A X h t y)(e:inT M s t=some b):qAW .inn x y h=some b/\qAW .notin x y h=some (!b):=by
 unfold inT at e;cases hd:t.dct with
 |some kvs=>
  rw[hd]at e;obtain⟨p,rfl,q1,q2⟩:=qDB hd r2;have i0:items h p=none:=by unfold items;rw[q2]
  have d0:L7 h p=some kvs:=by unfold L7;rw[q2]
  dsimp only at e;split at e
  ·cases e;cases zd r1;constructor
   ·dsimp only[qAW,qBX];rw[i0];dsimp only;rw[d0]
   ·dsimp only[qAW,qBX];rw[i0];dsimp only;rw[d0]
  ·cases e
 |none=>
 rw[hd]at e;dsimp only at e;obtain⟨a,ea,e⟩:=wM.mp e;obtain⟨ts,et,e⟩:=wM.mp e;obtain⟨xs,ex,rfl⟩:=wA.mp e;cases qo ea;cases zd r1;obtain⟨p,vs,rfl,q1,q2⟩:=Q8 R r2 et;obtain⟨rfl,k⟩:=Jk q2 ex;have fx:=QG r1;constructor
 ·dsimp only[qAW,qBX];rw[q1];dsimp only;rw[if_pos (by rw[fx,k];rfl)]
 ·dsimp only[qAW,qBX];rw[q1];dsimp only;rw[if_pos (by rw[fx,k];rfl)]
theorem K6(R:RelM gl A X h M){op:COp}{s t:T}{x y:V}{b:Bool}(r1:Rep A X h s x)(r2:Rep A X h t y)(e:qa M op s t=some b):qAW op x y h=some b:=by
 cases op with
 |eq=>exact F5 R 4 s t x y b r1 r2 e
 |ne=>
  obtain⟨c,ec,rfl⟩:=wA.mp (show (eqT M 4 s t).map (!·)=some b from e);show (eqD h 4 x y).map (!·)=_;rw[F5 R 4 s t x y c r1 r2 ec];rfl
 |inn=>exact(qBY R r1 r2 e).1
 |notin=>
  obtain⟨c,ec,rfl⟩:=wA.mp (show (inT M s t).map (!·)=some b from e);exact(qBY R r1 r2 ec).2
 |is=>
  unfold qa at e;dsimp only at e;split at e
  ·rename_i e2;cases qo e2;cases zd r2;cases e;show some (decide (x=V.non))=_;cases hs:s.isV with
   |none=>obtain⟨a,rfl⟩:=Qh hs r1;rfl
   |some z=>cases qo hs;cases zd r1;cases x<;>rfl
  ·rename_i e2;cases qo e2;cases zd r2;split at e
   ·rename_i e3;cases qo e3;cases zd r1;exact e
   ·cases e
  ·cases e
 |isnot=>
  unfold qa at e;dsimp only at e;split at e
  ·rename_i e2;cases qo e2;cases zd r2;cases e;show some (!decide (x=V.non))=_;cases hs:s.isV with
   |none=>obtain⟨a,rfl⟩:=Qh hs r1;rfl
   |some z=>cases qo hs;cases zd r1;cases x<;>rfl
  ·rename_i e2;cases qo e2;cases zd r2;split at e
   ·rename_i e3;cases qo e3;cases zd r1;exact e
   ·cases e
  ·cases e
 |lt=>unfold qa at e;dsimp only at e;split at e<;>first|(rename_i e1 e2;cases qo e1;cases qo e2;cases zd r1;cases zd r2;exact e)|cases e
 |le=>unfold qa at e;dsimp only at e;split at e<;>first|(rename_i e1 e2;cases qo e1;cases qo e2;cases zd r1;cases zd r2;exact e)|cases e
 |gt=>unfold qa at e;dsimp only at e;split at e<;>first|(rename_i e1 e2;cases qo e1;cases qo e2;cases zd r1;cases zd r2;exact e)|cases e
 |ge=>unfold qa at e;dsimp only at e;split at e<;>first|(rename_i e1 e2;cases qo e1;cases qo e2;cases zd r1;cases zd r2;exact e)|cases e
theorem Qm:∀{ts:List T}{vs:List V}{is:List Int},qR A X h ts vs->qi ts=some is->jN vs=some is
 | [],vs,xs,r,e=>by unfold qR at r;subst r;cases e;rfl
 |t::ts,vs,xs,r,e=>by
  unfold qR at r;obtain⟨v,vs',rfl,a,b⟩:=r;unfold qi at e;split at e
  ·rename_i e';cases e'
  ·rename_i e';cases e';obtain⟨xs',e',rfl⟩:=wA.mp e;cases zd a;show (jN vs').map _=_;rw[Qm b e'];rfl
  ·cases e
theorem L0:∀{ts:List T}{vs:List V}{is:List Int},qR A X h ts vs->QI ts=some is->jm vs=some is
 | [],vs,xs,r,e=>by unfold qR at r;subst r;cases e;rfl
 |t::ts,vs,xs,r,e=>by
  unfold qR at r;obtain⟨v,vs',rfl,a,b⟩:=r;unfold QI at e;split at e
  ·rename_i e';cases e'
  ·rename_i e';cases e';obtain⟨xs',e',rfl⟩:=wA.mp e;cases zd a;show (jm vs').map _=_;rw[L0 b e'];rfl
  ·rename_i e';cases e';obtain⟨xs',e',rfl⟩:=wA.mp e;cases zd a;show (jm vs').map _=_;rw[L0 b e'];rfl
  ·cases e
theorem Jh:∀{ts:List T}{vs:List V}{is:List Bool},qR A X h ts vs->zj ts=some is->QD vs=some is
 | [],vs,xs,r,e=>by unfold qR at r;subst r;cases e;rfl
 |t::ts,vs,xs,r,e=>by
  unfold qR at r;obtain⟨v,vs',rfl,a,b⟩:=r;unfold zj at e;split at e
  ·rename_i e';cases e'
  ·rename_i e';cases e';obtain⟨xs',e',rfl⟩:=wA.mp e;cases zd a;show (QD vs').map _=_;rw[Jh b e'];rfl
  ·cases e
theorem ZI{t:T}{ws:List V}(r:qR A X h [t] ws):∃w,ws=[w]/\Rep A X h t w:=by
 unfold qR at r;obtain⟨v,vs,rfl,a,b⟩:=r;unfold qR at b;subst b;exact⟨v,rfl,a⟩
theorem qFO{s t:T}{ws:List V}(r:qR A X h [s,t] ws):∃w u,ws=[w,u]/\Rep A X h s w/\Rep A X h t u:=by
 unfold qR at r;obtain⟨v,vs,rfl,a,b⟩:=r;obtain⟨u,rfl,c⟩:=ZI b;exact⟨v,u,rfl,a,c⟩
theorem qP{a:Nat}{f:Bool}{vs:List V}(e:h[a]?=some (.lst f vs)):qN h a=some vs:=by unfold qN;rw[e]
theorem M0(R:RelM gl A X h M){t:T}{w:V}{n:Nat}(r:Rep A X h t w):Sim gl A X h (QE gl A X n) (.ok ((t,t.lf),M)) (.ok (w,h)):=
 ⟨w,h,rfl,Frm.refl A h,R,r,λe=>Frs.of_lf R r e⟩
theorem U6:∀l:List Int,T.lfs (l.map λi=>T.v (.int i))=true
 | []=>by rw[List.map_nil,T.lfs]
 |x::r=>by rw[List.map_cons,T.lfs,U6 r];rfl
theorem F8{A X:List Nat}{h:AH}:∀l:List Int,qR A X h (l.map λi=>T.v (.int i)) (l.map V.int)
 | []=>by rw[List.map_nil,List.map_nil];unfold qR;rfl
 |x::r=>by
  rw[List.map_cons,List.map_cons];unfold qR;exact⟨_,_,rfl,by unfold Rep;exact⟨rfl,rfl⟩,F8 r⟩
theorem JW{f:T->Option PySem.PyData}{g:V->Option PySem.PyData}(hf:∀t w d,f t=some d->Rep A X h t w->g w=some d):∀(ts:List T) (ws:List V) (ds:List PySem.PyData),ZH f ts=some ds->qR A X h ts ws->U8 g ws=some ds
 | [],ws,ds,e,r=>by
  unfold qR at r;subst r;exact e
 |t::ts,ws,ds,e,r=>by
  unfold qR at r;obtain⟨w,ws',rfl,r1,r2⟩:=r;unfold ZH at e;obtain⟨d,e1,e⟩:=wM.mp e;obtain⟨ds',e2,rfl⟩:=wA.mp e;unfold U8;rw[hf t w d e1 r1,Option.bind_some,JW hf ts ws' ds' e2 r2];rfl
theorem T4{h:AH}{n:Nat}{x:V}{d:PySem.PyData}(e:qBe x=some d):dat h n x=some d:=by
 cases n with
 |zero=>exact e
 |succ n=>cases x<;>first|exact e|cases e
theorem L3(R:RelM gl A X h M):∀(n:Nat) (t:T) (w:V) (d:PySem.PyData),Q9 M n t=some d->Rep A X h t w->dat h n w=some d
 | 0,t,w,d,e,r=>by
  unfold Q9 at e;split at e
  ·cases zd r;exact T4 e
  ·cases e
 |n+1,t,w,d,e,r=>by
  have ls:∀(ts:List T),t.lis M=some ts->(ZH (Q9 M n) ts).map PySem.PyData.list=some d->dat h (n+1) w=some d:=λts hl e=>by
   obtain⟨ds,e1,rfl⟩:=wA.mp e;obtain⟨a,vs,f,rfl,q1,q2⟩:=zq R r hl;show (match h[a]? with|some (.lst _ xs)=>(U8 (dat h n) xs).map PySem.PyData.list|some (.tup xs)=>(U8 (dat h n) xs).map PySem.PyData.tuple|some (.ob (.dct []))=>some (PySem.PyData.dict [])|_=>none)=_;rw[q1];dsimp only;rw[JW (L3 R n) ts vs ds e1 q2];rfl
  unfold Q9 at e;split at e
  ·cases zd r;exact T4 e
  ·rename_i ts;obtain⟨ds,e1,rfl⟩:=wA.mp e;unfold Rep at r;obtain⟨a,vs,rfl,q1,q2,q3⟩:=r;show (match h[a]? with|some (.lst _ xs)=>(U8 (dat h n) xs).map PySem.PyData.list|some (.tup xs)=>(U8 (dat h n) xs).map PySem.PyData.tuple|some (.ob (.dct []))=>some (PySem.PyData.dict [])|_=>none)=_;rw[q2];dsimp only;rw[JW (L3 R n) ts vs ds e1 q3];rfl
  ·exact ls _ rfl e
  ·exact ls _ rfl e
  ·obtain⟨ts,e1,e2⟩:=wM.mp e;exact ls ts e1 e2
  ·cases e;unfold Rep at r;obtain⟨a,rfl,_,q⟩:=r;show (match h[a]? with|some (.lst _ xs)=>(U8 (dat h n) xs).map PySem.PyData.list|some (.tup xs)=>(U8 (dat h n) xs).map PySem.PyData.tuple|some (.ob (.dct []))=>some (PySem.PyData.dict [])|_=>none)=_;rw[q]
  ·cases e
theorem qBP(R:RelM gl A X h M)(t:T)(w:V)(d:PySem.PyData)(e:qBL M t=some d)(r:Rep A X h t w):qGk h w=some d:=L3 R 5 t w d e r
theorem qCN(R:RelM gl A X h M){f:BF}{ts:List T}{ws:List V}{r:TB}(rs:qR A X h ts ws)(e:jE M f ts=some r):Sim gl A X h (QE gl A X h.length) (.ok (r,M)) (qFv f ws h):=by
 cases f with
 |len=>
  replace e:=zn e;obtain⟨t0,rfl,e⟩:=e;obtain⟨w,rfl,rw_⟩:=ZI rs;obtain⟨xs,ex,rfl⟩:=wA.mp e;obtain⟨a,vs,rfl,q1,q2⟩:=Q8 R rw_ ex;show Sim _ _ _ _ _ _ (match items h a with|some xs=>_|none=>_);rw[q1,qF (reps_iff.mp q2)];exact qI R rfl
 |sum=>
  replace e:=zn e;obtain⟨t0,rfl,e⟩:=e;obtain⟨w,rfl,rw_⟩:=ZI rs;obtain⟨xs,ex,e⟩:=wM.mp e;obtain⟨is,ei,rfl⟩:=wA.mp e;obtain⟨a,vs,f,rfl,q1,q2⟩:=zq R rw_ ex;show Sim _ _ _ _ _ _ (match qN h a with|some xs=>_|none=>_);rw[qP q1];dsimp only;rw[L0 q2 ei];exact qI R rfl
 |all=>
  replace e:=zn e;obtain⟨t0,rfl,e⟩:=e;obtain⟨w,rfl,rw_⟩:=ZI rs;obtain⟨xs,ex,e⟩:=wM.mp e;obtain⟨is,ei,rfl⟩:=wA.mp e;obtain⟨a,vs,f,rfl,q1,q2⟩:=zq R rw_ ex;show Sim _ _ _ _ _ _ (match qN h a with|some xs=>_|none=>_);rw[qP q1];dsimp only;rw[Jh q2 ei];exact qI R rfl
 |any=>
  replace e:=zn e;obtain⟨t0,rfl,e⟩:=e;obtain⟨w,rfl,rw_⟩:=ZI rs;obtain⟨xs,ex,e⟩:=wM.mp e;obtain⟨is,ei,rfl⟩:=wA.mp e;obtain⟨a,vs,f,rfl,q1,q2⟩:=zq R rw_ ex;show Sim _ _ _ _ _ _ (match qN h a with|some xs=>_|none=>_);rw[qP q1];dsimp only;rw[Jh q2 ei];exact qI R rfl
 |max=>
  replace e:=twoT_inv e;obtain⟨i,j,rfl,e⟩:=e;obtain⟨w,u,rfl,a,b⟩:=qFO rs;cases zd a;cases zd b;cases e;exact qI R rfl
 |min=>
  replace e:=twoT_inv e;obtain⟨i,j,rfl,e⟩:=e;obtain⟨w,u,rfl,a,b⟩:=qFO rs;cases zd a;cases zd b;cases e;exact qI R rfl
 |maxl=>
  replace e:=zn e;obtain⟨t0,rfl,e⟩:=e;obtain⟨w,rfl,rw_⟩:=ZI rs;obtain⟨xs,ex,e⟩:=wM.mp e;obtain⟨is,ei,e⟩:=wM.mp e;obtain⟨M,eM,rfl⟩:=wA.mp e;obtain⟨a,vs,f,rfl,q1,q2⟩:=zq R rw_ ex;show Sim _ _ _ _ _ _ (match qN h a with|some xs=>_|none=>_);rw[qP q1];dsimp only;rw[Qm q2 ei,Option.bind_some,eM];exact qI R rfl
 |bits=>
  replace e:=zn e;obtain⟨t0,rfl,e⟩:=e;split at e
  ·obtain⟨w,rfl,a⟩:=ZI rs;cases zd a;cases e;exact qI R rfl
  ·cases e
 |list=>
  replace e:=zn e;obtain⟨t0,rfl,e⟩:=e;obtain⟨w,rfl,rw_⟩:=ZI rs;obtain⟨xs,ex,rfl⟩:=wA.mp e;obtain⟨a,vs,rfl,q1,q2⟩:=Q8 R rw_ ex;show Sim _ _ _ _ _ _ (match items h a with|some xs=>_|none=>_);rw[q1];exact N1 R q2
 |int=>
  replace e:=zn e;obtain⟨t0,rfl,e⟩:=e;split at e
  ·obtain⟨w,rfl,a⟩:=ZI rs;cases zd a;cases e;exact qI R rfl
  ·obtain⟨w,rfl,a⟩:=ZI rs;cases zd a;cases e;exact qI R rfl
  ·cases e
 |repr=>
  replace e:=zn e;obtain⟨t0,rfl,e⟩:=e;obtain⟨w,rfl,rw_⟩:=ZI rs;obtain⟨v,e0,rfl⟩:=wA.mp e;obtain⟨d,e1,e2⟩:=wM.mp e0;have e3:=qBP R t0 w d e1 rw_;show Sim _ _ _ _ _ _ (qFn h w);unfold qFn;rw[e3,Option.bind_some,e2];unfold Y4 at e2;split at e2
  ·cases e2;exact qI R rfl
  ·cases e2
theorem qA5(R:RelM gl A X h M){t:T}{w:V}{s:String}(r:Rep A X h t w)(e:zt M t=some s):jW h w=some s:=by
 cases t with
 |v x=>cases zd r;cases w<;>first|exact e|(cases e;done)
 |cell n=>unfold Rep at r;obtain⟨a,ea,rfl⟩:=r;obtain⟨ts,vs,e1,e2,_⟩:=R.at_ n a ea;unfold zt at e;dsimp only at e;rw[e1]at e;cases e;unfold jW;dsimp only;rw[e2]
 |fz xs=>unfold Rep at r;obtain⟨a,vs,rfl,_,q,_⟩:=r;cases e;unfold jW;dsimp only;rw[q]
 |lst xs=>unfold Rep at r;obtain⟨a,vs,rfl,_,q,_⟩:=r;cases e;unfold jW;dsimp only;rw[q]
 |tup xs=>unfold Rep at r;obtain⟨a,vs,rfl,_,q,_⟩:=r;cases e;unfold jW;dsimp only;rw[q]
 |ob o=>cases o with
  |dct=>unfold Rep at r;obtain⟨a,rfl,_,q⟩:=r;cases e;unfold jW;dsimp only;rw[q]
  |exn c=>cases e
theorem E4{ts:List T}{vs:List V}{lo hi:Option Int}(r:qR A X h ts vs):qR A X h (jx ts lo hi) (_L.cutV vs lo hi):=by
 have l:=qF (reps_iff.mp r);unfold jx _L.cutV;rw[l];exact reps_iff.mpr (QW _ (F0 _ (reps_iff.mp r)))
end
def qDd(A X:List Nat)(h:AH):Option T->Option V->Prop
 |none,_=>True
 |some t,some w=>Rep A X h t w
 |some _,none=>False
abbrev QQ(A X:List Nat)(h:AH):TS->List (Option V)->Prop:=Qj (qDd A X h)
section
variable{gl:List T}{A X:List Nat}{h h':AH}{M M':Mem}{σ:TS}{σh:List (Option V)}
theorem U7{i:Nat}{t:T}(r:QQ A X h σ σh)(e:σ[i]?=some (some t)):∃w,σh[i]?=some (some w)/\Rep A X h t w:=by
 obtain⟨o,e1,q⟩:=zy r e;cases o with
 |none=>exact q.elim
 |some w=>exact⟨w,e1,q⟩
theorem jt{A' X':List Nat}(hc:∀(n:Nat) a,A[n]?=some a->A'[n]?=some a)(hn:∀a o,a∉X->h[a]?=some o->a∉X'/\h'[a]?=some o)(r:QQ A X h σ σh):QQ A' X' h' σ σh:=
 G0 (λx y q=>by
  cases x with
  |none=>trivial
  |some t=>cases y with
   |none=>exact q.elim
   |some w=>exact zr hc hn t q) r
theorem RelM.keepS(R:RelM gl A X h M)(f:Frm A h h')(r:QQ A X h σ σh):QQ A X h' σ σh:=jt (λ_ _ e=>e) (R.keepN f) r
theorem Qs(r:QQ A X h σ σh):∀src:List (Option Nat),QQ A X h (jb src σ) (_L.inner src σh)
 | []=>rfl
 |none::src=>⟨none,_,rfl,trivial,Qs r src⟩
 |some j::src=>by
  refine⟨(σh[j]?).join,_,rfl,?_,Qs r src⟩;show qDd A X h (σ[j]?).join _;cases hj:σ[j]? with
  |none=>trivial
  |some o=>cases o with
   |none=>trivial
   |some t=>
    obtain⟨w,e1,q⟩:=U7 r hj;rw[e1];exact q
theorem a4:∀{is:List Nat}{ts:List T}{ws:List V}{σ σ1:TS}{σh:List (Option V)},qEJ is ts σ=some σ1->qR A X h ts ws->QQ A X h σ σh->∃σh1,JI is ws σh=some σh1/\QQ A X h σ1 σh1
 | [],[],ws,σ,σ1,σh,e,r,rs=>by unfold qR at r;subst r;cases e;exact⟨σh,rfl,rs⟩
 | [],t::ts,ws,σ,σ1,σh,e,r,rs=>by cases e
 |i::is,[],ws,σ,σ1,σh,e,r,rs=>by cases e
 |i::is,t::ts,ws,σ,σ1,σh,e,r,rs=>by
  unfold qR at r;obtain⟨w,ws',rfl,a,b⟩:=r;exact a4 (is:=is) (show qEJ is ts (σ.set i (some t))=some σ1 from e) b (jr i rs (show qDd A X h (some t) (some w) from a))
theorem Qg{g:Tg}{t:T}{w:V}{σ1:TS}(e:zv g t σ=some σ1)(r:Rep A X h t w)(rs:QQ A X h σ σh):∃σh1,store g w σh h=some σh1/\QQ A X h σ1 σh1:=by
 cases g with
 |name i=>cases e;exact⟨σh.set i (some w),rfl,jr i rs (show qDd A X h (some t) (some w) from r)⟩
 |tup is=>
  cases t with
  |tup ts=>
   unfold Rep at r;obtain⟨a,vs,rfl,_,q,k⟩:=r;obtain⟨σh1,e1,r1⟩:=a4 (show qEJ is ts σ=some σ1 from e) k rs;refine⟨σh1,?_,r1⟩;show (match qh h a with|some xs=>_|none=>_)=_;rw[show qh h a=some vs by unfold qh;rw[q]];exact e1
  |_=>cases e
inductive Zz(A X:List Nat)(h:AH):Src->List T->ZG->Prop
 |list (a f vs ts):a∉X->h[a]?=some (.lst f vs)->qR A X h ts vs->Zz A X h (.list a) ts []
 |cell (n a vs ts):A[n]?=some a->h[a]?=some (.lst false vs)->qR A X h ts vs->Zz A X h (.list a) ts [(n,ts)]
 |tupl (a vs ts):a∉X->h[a]?=some (.tup vs)->qR A X h ts vs->Zz A X h (.tupl a) ts []
 |rng (lo n):Zz A X h (.rng lo n) (zA lo n) []
 |zip (a b ts us d1 d2):Zz A X h (.list a) ts d1->Zz A X h (.list b) us d2->Zz A X h (.zip a b) (List.zipWith (λx y=>T.tup [x,y]) ts us) (d1++d2)
theorem ju{d1 d2:ZG}(e:qy (d1++d2) M=true):qy d1 M=true/\qy d2 M=true:=by
 unfold qy at e ⊢;rw[List.all_append,wF]at e;exact e
theorem y8{s:Src}{ts:List T}{d:ZG}(r:Zz A X h s ts d)(hn:∀a o,a∉X->h[a]?=some o->h'[a]?=some o)(R:RelM gl A X h' M')(hd:qy d M'=true):Zz A X h' s ts d:=by
 induction r with
 |list a f vs ts q1 q2 q3=>exact .list a f vs ts q1 (hn _ _ q1 q2) (qT (λ_ _ e=>e) (λa o x y=>⟨x,hn a o x y⟩) ts q3)
 |cell n a vs ts q1 q2 q3=>
  obtain⟨ts',vs',e1,e2,e3⟩:=R.at_ n a q1;unfold qy at hd;simp only[List.all_cons,List.all_nil,vG]at hd;rw[e1]at hd;have:=Qu _ _ hd;subst this;exact .cell n a vs' ts' q1 e2 e3
 |tupl a vs ts q1 q2 q3=>exact .tupl a vs ts q1 (hn _ _ q1 q2) (qT (λ_ _ e=>e) (λa o x y=>⟨x,hn a o x y⟩) ts q3)
 |rng lo n=>exact .rng lo n
 |zip a b ts us d1 d2 _ _ i1 i2=>exact .zip a b ts us d1 d2 (i1 (ju hd).1) (i2 (ju hd).2)
theorem JM{A' X':List Nat}{s:Src}{ts:List T}{d:ZG}(r:Zz A X h s ts d)(hn:∀a o,a∉X->h[a]?=some o->a∉X'/\h'[a]?=some o)(R:RelM gl A' X' h' M')(hd:qy d M'=true)(hA:∀(n:Nat) a,A[n]?=some a->A'[n]?=some a:=by exact λ_ _ e=>e):Zz A' X' h' s ts d:=by
 induction r with
 |list a f vs ts q1 q2 q3=>exact .list a f vs ts (hn _ _ q1 q2).1 (hn _ _ q1 q2).2 (qT hA hn ts q3)
 |cell n a vs ts q1 q2 q3=>
  obtain⟨ts',vs',e1,e2,e3⟩:=R.at_ n a (hA _ _ q1);unfold qy at hd;simp only[List.all_cons,List.all_nil,vG]at hd;rw[e1]at hd;have:=Qu _ _ hd;subst this;exact .cell n a vs' ts' (hA _ _ q1) e2 e3
 |tupl a vs ts q1 q2 q3=>exact .tupl a vs ts (hn _ _ q1 q2).1 (hn _ _ q1 q2).2 (qT hA hn ts q3)
 |rng lo n=>exact .rng lo n
 |zip a b ts us d1 d2 _ _ i1 i2=>exact .zip a b ts us d1 d2 (i1 (ju hd).1) (i2 (ju hd).2)
theorem jH{a:Nat}{ts:List T}{d:ZG}(r:Zz A X h (.list a) ts d):∃vs,qN h a=some vs/\qR A X h ts vs:=by
 cases r with
 |list _ f vs _ q1 q2 q3=>exact⟨vs,qP q2,q3⟩
 |cell n _ vs _ q1 q2 q3=>exact⟨vs,qP q2,q3⟩
theorem S6{s:Src}{ts:List T}{d:ZG}(r:Zz A X h s ts d):qAM h s=some ts.length:=by
 cases r with
 |list a f vs ts q1 q2 q3=>show (qN h a).map _=_;rw[qP q2,Option.map_some,qF (reps_iff.mp q3)]
 |cell n a vs ts q1 q2 q3=>show (qN h a).map _=_;rw[qP q2,Option.map_some,qF (reps_iff.mp q3)]
 |tupl a vs ts q1 q2 q3=>show (qh h a).map _=_;rw[show qh h a=some vs by unfold qh;rw[q2],Option.map_some,qF (reps_iff.mp q3)]
 |rng lo n=>show some n=_;simp[zA]
 |zip a b ts us d1 d2 r1 r2=>
  obtain⟨vs,e1,k1⟩:=jH r1;obtain⟨ws,e2,k2⟩:=jH r2;show (match qN h a,qN h b with|some xs,some ys=>_|_,_=>_)=_;rw[e1,e2,vq,qF (reps_iff.mp k1),qF (reps_iff.mp k2)]
theorem B6{s:Src}{ts:List T}{d:ZG}(r:Zz A X h s ts d):QT h ts.length s=true:=by
 cases r with
 |list a f vs ts q1 q2 q3=>show (match qN h a with|some xs=>_|none=>_)=_;rw[qP q2,qF (reps_iff.mp q3)];simp
 |cell n a vs ts q1 q2 q3=>show (match qN h a with|some xs=>_|none=>_)=_;rw[qP q2,qF (reps_iff.mp q3)];simp
 |tupl a vs ts q1 q2 q3=>show (match qh h a with|some xs=>_|none=>_)=_;rw[show qh h a=some vs by unfold qh;rw[q2],qF (reps_iff.mp q3)];simp
 |rng lo n=>show decide _=_;simp[zA]
 |zip a b ts us d1 d2 r1 r2=>
  obtain⟨vs,e1,k1⟩:=jH r1;obtain⟨ws,e2,k2⟩:=jH r2;show (match qN h a,qN h b with|some xs,some ys=>_|_,_=>_)=_;rw[e1,e2,vq,qF (reps_iff.mp k1),qF (reps_iff.mp k2)];simp;omega
theorem JL(R:RelM gl A X h M){s:Src}{ts:List T}{d:ZG}(r:Zz A X h s ts d){i:Nat}{t:T}(ei:ts[i]?=some t):
  ∃w e,zU h i s=some (w,h++e)/\Rep A X (h++e) t w:=by
 cases r with
 |list a f vs ts q1 q2 q3=>
  obtain⟨w,ew,q⟩:=zy (reps_iff.mp q3) ei;refine⟨w,[],?_,by rw[wb];exact q⟩;show (match qN h a with|some xs=>_|none=>_)=_;rw[qP q2];dsimp only;rw[ew,wb];rfl
 |cell n a vs ts q1 q2 q3=>
  obtain⟨w,ew,q⟩:=zy (reps_iff.mp q3) ei;refine⟨w,[],?_,by rw[wb];exact q⟩;show (match qN h a with|some xs=>_|none=>_)=_;rw[qP q2];dsimp only;rw[ew,wb];rfl
 |tupl a vs ts q1 q2 q3=>
  obtain⟨w,ew,q⟩:=zy (reps_iff.mp q3) ei;refine⟨w,[],?_,by rw[wb];exact q⟩;show (match qh h a with|some xs=>_|none=>_)=_;rw[show qh h a=some vs by unfold qh;rw[q2]];dsimp only;rw[ew,wb];rfl
 |rng lo n=>
  have hi:i<n:=by have:=(wC.mp ei).1;simpa [zA] using this
  refine⟨.int (lo+(i:Int)),[],?_,?_⟩
  ·show (if i<n then _ else _)=_;rw[if_pos hi,wb]
  ·have:t=.v (.int (lo+(i:Int))):=by
    simp only[zA,vB,List.getElem?_range hi,Option.map_some,Option.some.injEq]at ei;exact ei.symm
   rw[this];unfold Rep;exact⟨rfl,rfl⟩
 |zip a b ts us d1 d2 r1 r2=>
  obtain⟨vs,e1,k1⟩:=jH r1;obtain⟨ws,e2,k2⟩:=jH r2;rw[List.getElem?_zipWith]at ei;cases et:ts[i]? with
  |none=>rw[et]at ei;cases ei
  |some x=>
   cases eu:us[i]? with
   |none=>rw[et,eu]at ei;cases ei
   |some y=>
    rw[et,eu]at ei;cases ei;obtain⟨v,ev,qv⟩:=zy (reps_iff.mp k1) et;obtain⟨w,ew,qw⟩:=zy (reps_iff.mp k2) eu;refine⟨.ref h.length,[.tup [v,w]],?_,?_⟩
    ·show (match qN h a,qN h b with|some xs,some ys=>_|_,_=>_)=_;rw[e1,e2];dsimp only;rw[ev,ew]
    ·have f:=Frm.app A h [O.tup [v,w]];unfold Rep;refine⟨_,[v,w],rfl,λz=>wn _ (R.lt _ z),by simp,?_⟩;unfold qR;refine⟨v,[w],rfl,R.keep f qv,?_⟩;unfold qR;exact⟨w,[],rfl,R.keep f qw,by unfold qR;rfl⟩
theorem Frs.ofD(R:RelM gl A X h M){kvs:List (Int×V)}(r:Rep A X (h++[O.ob (.dct kvs)]) (.ob (.dct kvs)) (.ref h.length)):Frs gl A X h.length (h++[O.ob (.dct kvs)]) M (.ob (.dct kvs)) (.ref h.length):=
 ⟨[],by unfold Rep at r;unfold FP;exact⟨r,rfl⟩,vi,λa ha=>by simp at ha,by rw[wb];exact R.up _,λ_ _=>⟨h.length,rfl,wG _,R.addX λa=>by simp only[wJ,wU];grind⟩⟩
theorem RelM.setX(R:RelM gl A X h M){D:Nat}(hD:D∈X)(hA:D∉A)(o:O):RelM gl A X (h.set D o) M:=by
 have hn:∀a o',a∉X->h[a]?=some o'->a∉X/\(h.set D o)[a]?=some o':=λa o' x y=>⟨x,by rw[wf (by rintro rfl;exact x hD)];exact y⟩
 refine⟨R.len,R.nd,R.sub,λa ha=>by simpa using R.lt a ha,λn a e=>?_,λg t e=>zr (λ_ _ e=>e) hn t (R.glo g t e)⟩;obtain⟨ts,vs,e1,e2,e3⟩:=R.at_ n a e;exact⟨ts,vs,e1,by rw[wf (by rintro rfl;exact hA (wZ e))];exact e2,qT (λ_ _ e=>e) hn ts e3⟩
theorem Sim.bindW{α β α2 β2:Type}{X':List Nat}{h1:AH}{Q:α->β->AH->Mem->Prop}{Q2:α2->β2->AH->Mem->Prop}{r:PR (α×Mem)}{rh:Res (β×AH)}{f:α×Mem->PR (α2×Mem)}{g:β×AH->Res (β2×AH)}
  (hX:∀a∈X,a∈X') (hA:∀a∈A,a∈X) (f0:Frm A h1 h)
  (s:Sim gl A X' h Q r rh) (k:∀x M' y h',Frm A h h'->RelM gl A X' h' M'->Q x y h' M'->Sim gl A X h1 Q2 (f (x,M')) (g (y,h'))):Sim gl A X h1 Q2 (r.bind f) (rh.bind g):=by
 cases r with
 |ok p=>
  obtain⟨x,M'⟩:=p;obtain⟨y,h',rfl,f1,R1,q⟩:=s;exact k x M' y h' f1 R1 q
 |exc c M'=>
  obtain⟨h',rfl,f1,R1⟩:=s;exact⟨h',rfl,f0.trans f1,R1.weak hX hA⟩
 |stuck=>trivial
mutual
theorem qD5{X X':List Nat}{h:AH}:∀(t:T){w:V}{f g:List Nat},FP X h t w f->FP X' h t w g->f=g
 | .v x,w,f,g,p,q=>by unfold FP at p q;rw[p.2,q.2]
 | .cell n,w,f,g,p,q=>by unfold FP at p;exact p.elim
 | .fz ts,w,f,g,p,q=>by unfold FP at p;exact p.elim
 | .ob o,w,f,g,p,q=>by unfold FP at p q;rw[p.2,q.2]
 | .lst ts,w,f,g,p,q=>by
  unfold FP at p q;obtain⟨a,vs,f',rfl,_,e1,k1,rfl⟩:=p;obtain⟨b,us,g',e,_,e2,k2,rfl⟩:=q;cases e;rw[e1]at e2;cases e2;rw[JX ts k1 k2]
 | .tup ts,w,f,g,p,q=>by
  unfold FP at p q;obtain⟨a,vs,rfl,_,e1,k1⟩:=p;obtain⟨b,us,e,_,e2,k2⟩:=q;cases e;rw[e1]at e2;cases e2;exact JX ts k1 k2
theorem JX{X X':List Nat}{h:AH}:∀(ts:List T){ws:List V}{f g:List Nat},FPs X h ts ws f->FPs X' h ts ws g->f=g
 | [],w,f,g,p,q=>by unfold FPs at p q;rw[p.2,q.2]
 |t::ts,w,f,g,p,q=>by
  unfold FPs at p q;obtain⟨v,vs,f1,f2,rfl,a,b,rfl⟩:=p;obtain⟨v',vs',g1,g2,e,a',b',rfl⟩:=q;cases e;rw[qD5 t a a',JX ts b b']
end
theorem P0:∀{ts:List T}{ws:List V}{fp f:List Nat}{t:T}{w:V},FPs X h ts ws fp->FP X h t w f->FPs X h (ts++[t]) (ws++[w]) (fp++f)
 | [],ws,fp,f,t,w,p,q=>by
  unfold FPs at p;obtain⟨rfl,rfl⟩:=p;show FPs X h [t] [w] f;unfold FPs;exact⟨w,[],f,[],rfl,q,by unfold FPs;exact⟨rfl,rfl⟩,by simp⟩
 |s::ts,ws,fp,f,t,w,p,q=>by
  unfold FPs at p;obtain⟨v,vs,f1,f2,rfl,a,b,rfl⟩:=p;show FPs X h (s::(ts++[t])) (v::(vs++[w])) _;unfold FPs;exact⟨v,vs++[w],f1,f2++f,rfl,a,P0 b q,by rw[wu]⟩
end
section
variable{gl:List T}{A X:List Nat}
theorem A7{s:Src}{its:List T}{d:ZG}{g:Tg}{c:TS->Mem->PR (Bool×Mem)}{c':List (Option V)->AH->Res (Bool×AH)}{e:TS->Mem->PR (TB×Mem)}{e':List (Option V)->AH->RV}{D:Nat}{h1:AH}
  (hc:∀X h M σ σh,RelM gl A X h M->QQ A X h σ σh->Sim gl A X h (λb b' _ _=>b=b') (c σ M) (c' σh h))
  (he:∀X h M σ σh,RelM gl A X h M->QQ A X h σ σh->Sim gl A X h (QE gl A X h.length) (e σ M) (e' σh h))
  (hD:h1.length<=D) (hDX:D∉X) (hA:∀a∈A,a∈X):∀(r:List T) (i:Nat) (ys:List T) (ws:List V) (f:Bool) (fp:List Nat) (Y:List Nat) (σ:TS) (σh:List (Option V)) (M:Mem) (h:AH),
   its.drop i=r->i<=its.length->Y=D::X++fp->Frm A h1 h->RelM gl A Y h M->Zz A Y h s its d->h[D]?=some (.lst false ws)->qR A (D::X) h ys ws ->
   (f=true->FPs (D::X) h ys ws fp/\fp.Nodup/\∀a∈fp,h1.length<=a)->QQ A Y h σ σh ->
   Sim gl A X h1 (QE gl A X h1.length) (qg d g c e r ys f σ M) (F9 s g c' e' D r.length i ws σh h)
 | [],i,ys,ws,f,fp,Y,σ,σh,M,h,hr,hi,hY,fm,R,sr,eD,ry,hf,rs=>by
  have hi':i=its.length:=by
   have:=List.drop_eq_nil_iff.mp hr;omega
  subst hi';have hX:∀a∈X,a∈D::X:=λa z=>wH _ z;have hXY:∀a∈X,a∈Y:=λa z=>by rw[hY];simp[z]
  have hn:∀a o,a∉D::X->h[a]?=some o->a∉X/\h[a]?=some o:=λa o x y=>⟨λz=>x (hX _ z),y⟩
  refine⟨.ref D,h,?_,fm,R.weak hXY hA,?_,λe=>?_⟩
  ·show (if QT h its.length s then _ else _)=_;rw[if_pos (B6 sr)]
  ·show Rep A X h (.lst ys) _;unfold Rep;exact⟨D,ws,rfl,hDX,eD,qT (λ_ _ e=>e) hn ys ry⟩
  ·obtain⟨p,nd,l⟩:=hf e;refine⟨fp++[D],?_,?_,?_,?_⟩
   ·show FP X h (.lst ys) _ _;unfold FP;exact⟨D,ws,fp,rfl,hDX,eD,jR hn ys p,rfl⟩
   ·rw[vH];refine⟨nd,by simp,?_⟩;rintro a ha b hb rfl;simp at hb;exact(Qt ys p a ha).1 (by rw[hb];exact wO ..)
   ·intro a ha;rcases wJ.mp ha with z|z
    ·exact l a z
    ·simp at z;omega
   ·refine⟨R.weak (λa z=>?_) λa z=>wR _ (hA a z),New.lst⟩;rw[hY];simp only[wJ,wI,wU]at z ⊢
    grind
 |x::r,i,ys,ws,f,fp,Y,σ,σh,M,h,hr,hi,hY,fm,R,sr,eD,ry,hf,rs=>by
  have hXY:∀a∈X,a∈Y:=λa z=>by rw[hY];simp[z]
  have hDY:D∈Y:=by rw[hY];simp
  have hDXY:∀a∈D::X,a∈Y:=λa z=>by rw[hY];exact wR _ z
  have hDA:D∉A:=λz=>hDX (hA D z);have ex:its[i]?=some x:=by
   have:(its.drop i)[0]?=some x:=by rw[hr];rfl
   rwa [vd,uA]at this
  have hi2:i+1<=its.length:=(wC.mp ex).1;have hr2:its.drop (i+1)=r:=by
   rw[<-List.drop_drop,hr];rfl
  obtain⟨w,ext,ey,rx⟩:=JL R sr ex;have fy:Frm A h (h++ext):=Frm.app A h ext;rw[List.length_cons];unfold qg F9;rw[ey];dsimp only;cases es:zv g x σ with
  |none=>exact Sim.stuck
  |some σ1=>
   obtain⟨σh1,esh,rs1⟩:=Qg es rx (R.keepS fy rs);rw[esh];dsimp only;refine Sim.bindW hXY hA (fm.trans fy) (hc _ _ _ _ _ (R.up ext) rs1) ?_;rintro b M2 b' h2 f2 R2 rfl;have k2:Frm A h h2:=fy.trans f2;have eD2:h2[D]?=some (.lst false ws):=(k2.2 D (qO eD) hDA).trans eD;have kN:∀{h':AH},Frm A h h'->∀a o,a∉D::X->h[a]?=some o->a∉D::X/\h'[a]?=some o:=λf' a o x y=>⟨x,(f'.2 a (qO y) λz=>x (wH _ (hA _ z))).trans y⟩
   cases b with
   |true=>
    simp only[if_true];refine Sim.bindW hXY hA (fm.trans k2) (he _ _ _ _ _ R2 ((R.up ext).keepS f2 rs1)) ?_;intro y M3 w3 h3 f3 R3 q3;have k3:Frm A h h3:=k2.trans f3;have eD3:h3[D]?=some (.lst false ws):=(k3.2 D (qO eD) hDA).trans eD;have lw:ys.length=ws.length:=qF (reps_iff.mp ry);dsimp only;by_cases hl:ys.length<lim/\qy d M3=true
    ·rw[if_pos hl,if_pos ⟨eD3,by rw[<-lw];exact hl.1⟩];have hs:∀(Z:List Nat),D∈Z->∀a o,a∉Z->h3[a]?=some o->a∉Z/\(h3.set D (.lst false (ws++[w3])))[a]?=some o:=λZ hZ a o x y=>⟨x,by rw[wf (by rintro rfl;exact x hZ)];exact y⟩
     have hnD:∀a o,a∉D::X->h[a]?=some o->a∉D::X/\(h3.set D (.lst false (ws++[w3])))[a]?=some o:=λa o x y=>hs _ (wO ..) a o x (kN k3 a o x y).2;have ry4:qR A (D::X) (h3.set D (.lst false (ws++[w3]))) (ys++[y.1]) (ws++[w3]):=
      reps_iff.mpr (zw (reps_iff.mp (qT (λ_ _ e=>e) hnD ys ry)) ⟨w3,[],rfl,zr (λ_ _ e=>e) (λa o x y=>hs _ (wO ..) a o x y) _ (zr (λ_ _ e=>e) (λa o x y=>⟨λz=>x (hDXY _ z),y⟩) _ q3.1),rfl⟩)
     obtain⟨fp2,hp2,R3',hlt2⟩:∃fp2:List Nat,(y.2=true->FP Y h3 y.1 w3 fp2/\fp2.Nodup)/\RelM gl A (Y++fp2) h3 M3/\∀a∈fp2,h2.length<=a:=by
      cases hy2:y.2 with
      |true=>
       obtain⟨fp2,a,b,c,d,_⟩:=q3.2 hy2;exact⟨fp2,λ_=>⟨a,b⟩,d,c⟩
      |false=>exact⟨[],(λz=>by cases z),by rw[wb];exact R3,λa ha=>by simp at ha⟩
     have old:∀{Z:List Nat}(_:∀a∈Y,a∈Z) (a:Nat) o,a∉Y->h2[a]?=some o->a∉Y++fp2:=λ_ a o x y=>by
      rw[wJ];rintro(z|z)
      ·exact x z
      ·have:=hlt2 a z;have:=qO y;omega
     have R4:=R3'.setX (wR _ hDY) hDA (.lst false (ws++[w3]));have hnY:∀a o,a∉Y->h[a]?=some o->a∉Y++fp2/\(h3.set D (.lst false (ws++[w3])))[a]?=some o:=λa o x y=>⟨old (λ_ z=>z) a o x (R.keepN k2 a o x y).2,(hs Y hDY a o x (R.keepN k3 a o x y).2).2⟩
     have hn2:∀a o,a∉Y->h2[a]?=some o->a∉Y++fp2/\(h3.set D (.lst false (ws++[w3])))[a]?=some o:=λa o x y=>⟨old (λ_ z=>z) a o x y,(hs Y hDY a o x (R2.keepN f3 a o x y).2).2⟩
     refine A7 hc he hD hDX hA r (i+1) (ys++[y.1]) (ws++[w3]) (f&&y.2) (fp++fp2) (Y++fp2) σ1 σh1 M3 _ hr2 hi2 (by rw[hY,wu]) ((fm.trans k3).set (.inr hD) _) R4 ?_ ?_ ry4 ?_ ?_
     ·exact JM sr hnY R4 hl.2
     ·rw[wv (qO eD3)]
     ·intro ef;rw[wF]at ef;obtain⟨p1,nd1,l1⟩:=hf ef.1;obtain⟨p2,nd2⟩:=hp2 ef.2;refine⟨P0 (jR hnD ys p1) (JJ (λa o x y=>hs _ (wO ..) a o x y) _ (JJ (λa o x y=>⟨λz=>x (hDXY _ z),y⟩) _ p2)),?_,?_⟩
      ·rw[vH];refine⟨nd1,nd2,?_⟩;rintro a ha b hb rfl;exact(U3 y.1 p2 a hb).1 (by rw[hY];exact wV _ ha)
      ·intro a ha;rcases wJ.mp ha with z|z
       ·exact l1 a z
       ·have:=hlt2 a z;have:=(fm.trans k2).1;omega
     ·exact jt (λ_ _ e=>e) hn2 ((R.up ext).keepS f2 rs1)
    ·rw[if_neg hl];exact Sim.stuck
   |false=>
    dsimp only;simp only[vJ,if_false];by_cases hl:qy d M2=true
    ·rw[if_pos hl,if_pos eD2];exact A7 hc he hD hDX hA r (i+1) ys ws f fp Y σ1 σh1 M2 h2 hr2 hi2 hY (fm.trans k2) R2 (y8 sr (λa o x y=>(R.keepN k2 a o x y).2) R2 hl) eD2 (qT (λ_ _ e=>e) (kN k2) ys ry)
      (λef=>by obtain⟨a,b,c⟩:=hf ef;exact⟨jR (kN k2) ys a,b,c⟩) ((R.up ext).keepS f2 rs1)
    ·rw[if_neg hl];exact Sim.stuck
end
section
variable{gl:List T}{A X:List Nat}{h h':AH}{M M':Mem}
theorem qAi{X':List Nat}{s:Src}{ts:List T}{d:ZG}(r:Zz A X h s ts d)(hn:∀a o,a∉X->h[a]?=some o->a∉X'/\h'[a]?=some o)(hc:∀(n:Nat) a o,A[n]?=some a->h[a]?=some o->h'[a]?=some o):Zz A X' h' s ts d:=by
 induction r with
 |list a f vs ts q1 q2 q3=>exact .list a f vs ts (hn _ _ q1 q2).1 (hn _ _ q1 q2).2 (qT (λ_ _ e=>e) hn ts q3)
 |cell n a vs ts q1 q2 q3=>exact .cell n a vs ts q1 (hc n a _ q1 q2) (qT (λ_ _ e=>e) hn ts q3)
 |tupl a vs ts q1 q2 q3=>exact .tupl a vs ts (hn _ _ q1 q2).1 (hn _ _ q1 q2).2 (qT (λ_ _ e=>e) hn ts q3)
 |rng lo n=>exact .rng lo n
 |zip a b ts us d1 d2 _ _ i1 i2=>exact .zip a b ts us d1 d2 i1 i2
theorem X5{n:Nat}{r:PR (TB×Mem)}{rh:RV}(s:Sim gl A X h (QE gl A X n) r rh):Sim gl A X h (λb b' _ _=>b=b') (pB r) (asB rh):=by
 refine Sim.bind s ?_;intro x M1 w h1 f1 R1 q1;obtain⟨t,fr⟩:=x;dsimp only;split
 ·rename_i b;cases zd q1.1;exact⟨_,h1,rfl,Frm.refl A h1,R1,rfl⟩
 ·exact Sim.stuck
theorem D6:∀(xs:List V),T.lfs (xs.map .v)=true
 | []=>rfl
 |x::xs=>by show (T.lf (.v x)&&T.lfs (xs.map .v))=true;rw[D6 xs];rfl
theorem Y6(lo:Int)(n:Nat):T.lfs (zA lo n)=true:=by
 have e:zA lo n=(QB lo n).map .v:=by unfold zA QB;rw[vQ];rfl
 rw[e];exact D6 _
theorem Qc{A X:List Nat}{h:AH}:∀{xs:List V},xs.all flat=true->qR A X h (xs.map .v) xs
 | [],_=>by show qR A X h [] [];unfold qR;rfl
 |x::xs,f=>by
  rw[List.all_cons,wF]at f;show qR A X h (.v x::xs.map .v) _;unfold qR;exact⟨x,xs,rfl,by unfold Rep;exact⟨rfl,f.1⟩,Qc f.2⟩
theorem U0{α β:Type}{R:α->β->Prop}:∀{xs:List α}{ys:List β},Qj R xs ys->Qj R xs.reverse ys.reverse
 | [],_,h=>by cases h;rfl
 |x::xs,_,⟨v,vs,rfl,r,h⟩=>by
  rw[vY,vY];exact zw (U0 h) ⟨v,[],rfl,r,rfl⟩
theorem qBG(R:RelM gl A X h M){m:Mt}{n p:Nat}{ts:List T}{ws:List V}(ep:A[n]?=some p)(rs:qR A X h ts ws):Sim gl A X h (QE gl A X h.length) (tJ (y6 m n ts M)) (qD8 m p ws h):=by
 obtain⟨ts2,vs2,g1,g2,g3⟩:=R.at_ n p ep;have hm:zY h p=some vs2:=by unfold zY;rw[g2]
 have l:=qF (reps_iff.mp g3);cases em:y6 m n ts M with
 |none=>exact Sim.stuck
 |some r=>
  unfold y6 at em;split at em
  ·rename_i y;obtain⟨w,rfl,a⟩:=ZI rs;have fy:=QG a;cases zd a;rw[g1]at em;dsimp only[Option.bind_some]at em;obtain⟨zs,ez,rfl⟩:=wA.mp em;obtain⟨rfl,kk⟩:=Jk g3 ez;show Sim _ _ _ _ _ _ (match zY h p with|some xs=>_|none=>_);rw[hm];dsimp only;rw[if_pos (by rw[fy,kk];rfl)];exact qI R rfl
  ·cases em
theorem qCD(R:RelM gl A X h M){t:T}{w:V}{s:List T×ZG}(r:Rep A X h t w)(e:A9 M t=some s):∃p sh,w=.ref p/\(match h[p]? with|some (.lst _ _)=>Res.ok (Src.list p,h)|some (.tup _)=>.ok (.tupl p,h)|_=>.stuck)=.ok (sh,h)/\Zz A X h sh s.1 s.2:=by
 cases t with
 |v x=>cases e
 |cell n=>
  unfold Rep at r;obtain⟨a,ea,rfl⟩:=r;obtain⟨ts,vs,e1,e2,e3⟩:=R.at_ n a ea;unfold A9 at e;dsimp only at e;rw[e1]at e;cases e;exact⟨a,_,rfl,by rw[e2],.cell n a vs ts ea e2 e3⟩
 |fz xs=>unfold Rep at r;obtain⟨a,vs,rfl,q,k,z⟩:=r;cases e;exact⟨a,_,rfl,by rw[k],.list a true vs xs q k z⟩
 |lst xs=>unfold Rep at r;obtain⟨a,vs,rfl,q,k,z⟩:=r;cases e;exact⟨a,_,rfl,by rw[k],.list a false vs xs q k z⟩
 |tup xs=>unfold Rep at r;obtain⟨a,vs,rfl,q,k,z⟩:=r;cases e;exact⟨a,_,rfl,by rw[k],.tupl a vs xs q k z⟩
 |ob o=>cases e
theorem g6(R:RelM gl A X h M){t:T}{w:V}{s:List T×ZG}(r:Rep A X h t w)(e:qAT M t=some s):∃p vs,w=.ref p/\qN h p=some vs/\Zz A X h (.list p) s.1 s.2:=by
 cases t with
 |v x=>cases e
 |cell n=>
  unfold Rep at r;obtain⟨a,ea,rfl⟩:=r;obtain⟨ts,vs,e1,e2,e3⟩:=R.at_ n a ea;unfold qAT at e;dsimp only at e;rw[e1]at e;cases e;exact⟨a,_,rfl,qP e2,.cell n a vs ts ea e2 e3⟩
 |fz xs=>unfold Rep at r;obtain⟨a,vs,rfl,q,k,z⟩:=r;cases e;exact⟨a,_,rfl,qP k,.list a true vs xs q k z⟩
 |lst xs=>unfold Rep at r;obtain⟨a,vs,rfl,q,k,z⟩:=r;cases e;exact⟨a,_,rfl,qP k,.list a false vs xs q k z⟩
 |tup xs=>cases e
 |ob o=>cases e
theorem QEs.len{n:Nat}{xs:List TB}{ws:List V}(q:QEs gl A X n xs ws h M):xs.length=ws.length:=by
 have:=qF (reps_iff.mp q.1);simpa using this
end
section
variable{gl:List T}{P:Nat->List T->Mem->PR (TB×Mem)}{F:Nat->List V->AH->RV}
variable (hF:∀f ts ws A X h M,RelM gl A X h M->qR A X h ts ws->Sim gl A X h (QE gl A X h.length) (P f ts M) (F f ws h))
include hF
mutual
theorem qk:∀(e:E) (A X:List Nat) (h:AH) (M:Mem) (σ:TS) (σh:List (Option V)),RelM gl A X h M->QQ A X h σ σh->Sim gl A X h (QE gl A X h.length) (pe gl P e σ M) (ev F e σh h)
 | .var i,A,X,h,M,σ,σh,R,rs=>by
  rw[pe,ev];dsimp only;split
  ·rename_i t e;obtain⟨w,ew,r⟩:=U7 rs e;rw[ew];exact M0 R r
  ·exact Sim.stuck
 | .dnew,A,X,h,M,σ,σh,R,rs=>by
  unfold pe ev;have r:Rep A X (h++[O.ob (.dct [])]) (.ob (.dct [])) (.ref h.length):=by
   unfold Rep;exact⟨h.length,rfl,λz=>by have:=R.lt _ z;omega,by simp⟩
  exact⟨_,_,rfl,Frm.app A h _,R.up _,r,λ_=>Frs.ofD R r⟩
 | .cst v,A,X,h,M,σ,σh,R,rs=>by
  rw[pe,ev];dsimp only;split
  ·rename_i e;exact qI R e
  ·exact Sim.stuck
 | .glob g,A,X,h,M,σ,σh,R,rs=>by
  rw[pe,ev];dsimp only;split
  ·rename_i t e;exact M0 R (R.glo g t e)
  ·exact Sim.stuck
 | .bin op a b,A,X,h,M,σ,σh,R,rs=>by
  rw[pe,ev];dsimp only;refine Sim.bind (qk a A X h M σ σh R rs) ?_;intro x M1 v h1 f1 R1 q1;dsimp only;refine Sim.bind (qk b A X h1 M1 σ σh R1 (R.keepS f1 rs)) ?_;intro y M2 w h2 f2 R2 q2;dsimp only;exact tK λr er=>(qCb R2 er (R1.keep f2 q1.1) q2.1).le (wN f1.1 f2.1)
 | .neg a,A,X,h,M,σ,σh,R,rs=>by
  rw[pe,ev];dsimp only;refine Sim.bind (qk a A X h M σ σh R rs) ?_;intro x M1 v h1 f1 R1 q1;dsimp only;obtain⟨t,fr⟩:=x;dsimp only;split
  ·cases zd q1.1;exact qI R1 rfl
  ·exact Sim.stuck
 | .cmp op a b,A,X,h,M,σ,σh,R,rs=>by
  rw[pe,ev];dsimp only;refine Sim.bind (qk a A X h M σ σh R rs) ?_;intro x M1 v h1 f1 R1 q1;dsimp only;refine Sim.bind (qk b A X h1 M1 σ σh R1 (R.keepS f1 rs)) ?_;intro y M2 w h2 f2 R2 q2;dsimp only;refine tK λr er=>?_;unfold qDe;rw[K6 R2 (R1.keep f2 q1.1) q2.1 er];exact qI R2 rfl
 | .cmp2 o1 o2 a b c,A,X,h,M,σ,σh,R,rs=>by
  rw[pe,ev];dsimp only;refine Sim.bind (qk a A X h M σ σh R rs) ?_;intro x M1 v h1 f1 R1 q1;dsimp only;refine Sim.bind (qk b A X h1 M1 σ σh R1 (R.keepS f1 rs)) ?_;intro y M2 w h2 f2 R2 q2;dsimp only;refine tK λr er=>?_;rw[K6 R2 (R1.keep f2 q1.1) q2.1 er];cases r with
  |true=>
   simp only[if_true];refine Sim.bind (qk c A X h2 M2 σ σh R2 (R1.keepS f2 (R.keepS f1 rs))) ?_;intro z M3 u h3 f3 R3 q3;dsimp only;refine tK λr er=>?_;unfold qDe;rw[K6 R3 (R2.keep f3 q2.1) q3.1 er];exact qI R3 rfl
  |false=>exact qI R2 rfl
 | .and a b,A,X,h,M,σ,σh,R,rs=>by
  rw[pe,ev];dsimp only;refine Sim.bind (X5 (qk a A X h M σ σh R rs)) ?_;rintro x M1 v h1 f1 R1 rfl;dsimp only;cases x with
  |true=>simp only[if_true];exact(qk b A X h1 M1 σ σh R1 (R.keepS f1 rs)).le f1.1
  |false=>exact qI R1 rfl
 | .or a b,A,X,h,M,σ,σh,R,rs=>by
  rw[pe,ev];dsimp only;refine Sim.bind (X5 (qk a A X h M σ σh R rs)) ?_;rintro x M1 v h1 f1 R1 rfl;dsimp only;cases x with
  |false=>simp only[vJ,if_false];exact(qk b A X h1 M1 σ σh R1 (R.keepS f1 rs)).le f1.1
  |true=>exact qI R1 rfl
 | .not a,A,X,h,M,σ,σh,R,rs=>by
  rw[pe,ev];dsimp only;refine Sim.bind (X5 (qk a A X h M σ σh R rs)) ?_;rintro x M1 v h1 f1 R1 rfl;dsimp only;exact qI R1 rfl
 | .ite c a b,A,X,h,M,σ,σh,R,rs=>by
  rw[pe,ev];dsimp only;refine Sim.bind (X5 (qk c A X h M σ σh R rs)) ?_;rintro x M1 v h1 f1 R1 rfl;dsimp only;cases x with
  |true=>simp only[if_true];exact(qk a A X h1 M1 σ σh R1 (R.keepS f1 rs)).le f1.1
  |false=>simp only[vJ,if_false];exact(qk b A X h1 M1 σ σh R1 (R.keepS f1 rs)).le f1.1
 | .call f as,A,X,h,M,σ,σh,R,rs=>by
  rw[pe,ev];dsimp only;refine Sim.bind (Qd as A X h M σ σh R rs) ?_;intro x M1 v h1 f1 R1 q1;dsimp only;exact(hF f _ _ A X h1 M1 R1 q1.1).nx.le f1.1
 | .blt f as,A,X,h,M,σ,σh,R,rs=>by
  rw[pe,ev];dsimp only;refine Sim.bind (Qd as A X h M σ σh R rs) ?_;intro x M1 v h1 f1 R1 q1;dsimp only;exact tK λr er=>(qCN R1 q1.1 er).le f1.1
 | .isi a ts,A,X,h,M,σ,σh,R,rs=>by
  rw[pe,ev];dsimp only;refine Sim.bind (qk a A X h M σ σh R rs) ?_;intro x M1 v h1 f1 R1 q1;dsimp only;refine tK λr er=>?_;rw[qA5 R1 q1.1 er];exact qI R1 rfl
 | .idx a b,A,X,h,M,σ,σh,R,rs=>by
  rw[pe,ev];dsimp only;refine Sim.bind (qk a A X h M σ σh R rs) ?_;intro x M1 v h1 f1 R1 q1;dsimp only;refine Sim.bind (qk b A X h1 M1 σ σh R1 (R.keepS f1 rs)) ?_;intro y M2 w h2 f2 R2 q2;dsimp only;refine tK λr er=>?_;obtain⟨ty,fy⟩:=y;unfold jl at er;dsimp only at er;split at er
  ·rename_i i;cases zd q2.1;obtain⟨xs,e1,er⟩:=wM.mp er;obtain⟨j,e2,er⟩:=wM.mp er;obtain⟨t,e3,rfl⟩:=wA.mp er;obtain⟨p,vs,rfl,k1,k2⟩:=Q8 R2 (R1.keep f2 q1.1) e1;obtain⟨u,e4,k3⟩:=zy (reps_iff.mp k2) e3;dsimp only;rw[k1];dsimp only;rw[<-qF (reps_iff.mp k2),e2];dsimp only[Option.bind_some];rw[e4];exact M0 R2 k3
  ·cases er
 | .rev a,A,X,h,M,σ,σh,R,rs=>by
  rw[pe,ev];dsimp only;refine Sim.bind (qk a A X h M σ σh R rs) ?_;intro x M1 v h1 f1 R1 q1;dsimp only;refine tK λxs ex=>?_;obtain⟨p,vs,f,rfl,k1,k2⟩:=zq R1 q1.1 ex;show Sim _ _ _ _ _ _ (match qN h1 p with|some xs=>_|none=>_);rw[qP k1];exact(N1 R1 (reps_iff.mpr (U0 (reps_iff.mp k2)))).le f1.1
 | .sl a lo hi,A,X,h,M,σ,σh,R,rs=>by
  rw[pe,ev];dsimp only;refine Sim.bind (qk a A X h M σ σh R rs) ?_;intro x M1 v h1 f1 R1 q1;dsimp only;refine Sim.bind (Qd lo A X h1 M1 σ σh R1 (R.keepS f1 rs)) ?_;intro y M2 w h2 f2 R2 q2;dsimp only;refine Sim.bind (Qd hi A X h2 M2 σ σh R2 (R1.keepS f2 (R.keepS f1 rs))) ?_;intro z M3 u h3 f3 R3 q3;dsimp only;refine tK λxs ex=>tK λl el=>tK λm em=>?_;rw[Qm (R2.keeps f3 q2.1) el,Qm q3.1 em];have rp:=R2.keep f3 (R1.keep f2 q1.1);refine tK λr er=>?_;refine Sim.le ?_ (wN f1.1 (wN f2.1 f3.1));obtain⟨x1,x2⟩:=x;dsimp only at ex er rp ⊢;cases x1 with
  |v x=>cases ex
  |ob o=>cases ex
  |cell n=>cases er;obtain⟨p,vs,f,rfl,k1,k2⟩:=zq R3 rp ex;dsimp only;rw[qP k1];exact N1 R3 (E4 k2)
  |fz xs=>cases er;obtain⟨p,vs,f,rfl,k1,k2⟩:=zq R3 rp ex;dsimp only;rw[qP k1];exact N1 R3 (E4 k2)
  |lst xs=>cases er;obtain⟨p,vs,f,rfl,k1,k2⟩:=zq R3 rp ex;dsimp only;rw[qP k1];exact N1 R3 (E4 k2)
  |tup ts=>
   cases ex;unfold Rep at rp;obtain⟨a,vs,rfl,_,q,kk⟩:=rp;have ln:=qF (reps_iff.mp kk);dsimp only;rw[show qN h3 a=none by unfold qN;rw[q],show qh h3 a=some vs by unfold qh;rw[q]];dsimp only;unfold Jd at er;dsimp only at er;rw[ln]at er;split at er
   ·cases er
   ·rename_i hw;cases er;rw[if_neg hw];exact J4 R3 (E4 kk) λe=>Frss.of_lf R3 (E4 kk) e
 | .lst as,A,X,h,M,σ,σh,R,rs=>by
  rw[pe,ev];dsimp only;refine Sim.bind (Qd as A X h M σ σh R rs) ?_;intro x M1 v h1 f1 R1 q1;dsimp only;rw[<-q1.len];split
  ·exact Jn R1 q1.1 f1.1 q1.2
  ·exact Sim.stuck
 | .tup as,A,X,h,M,σ,σh,R,rs=>by
  rw[pe,ev];dsimp only;refine Sim.bind (Qd as A X h M σ σh R rs) ?_;intro x M1 v h1 f1 R1 q1;dsimp only;rw[<-q1.len];split
  ·exact J4 R1 q1.1 q1.2
  ·exact Sim.stuck
 | .comp it src g c e,A,X,h,M,σ,σh,R,rs=>by
  rw[pe,ev];dsimp only;refine Sim.bind (qBl it A X h M σ σh R rs) ?_;intro s M1 sh h1 f1 R1 q1;dsimp only;have hn:∀a o,a∉X->h1[a]?=some o->a∉h1.length::X/\(h1++[O.lst false []])[a]?=some o:=λa o x y=>⟨by
   rw[wI];rintro(z|z)
   ·have:=qO y;omega
   ·exact x z,by rw[wB (qO y)];exact y⟩
  have sr:Zz A (h1.length::X) (h1++[O.lst false []]) sh s.1 s.2:=qAi q1 hn λn a o _ y=>by rw[wB (qO y)];exact y
  rw[S6 sr];dsimp only;refine(A7 (its:=s.1) (λX h M σ σh R rs=>qFB c A X h M σ σh R rs) (λX h M σ σh R rs=>qk e A X h M σ σh R rs) (wG h1.length) (λz=>wn _ (R1.lt _ z)) R1.sub s.1 0 [] [] true [] (h1.length::X) _ _ M1 _ rfl (vI _) (by simp) (Frm.app A h1 _) (R1.addX λa=>wI) sr (by simp) (by unfold qR;rfl) ?_ ?_).le f1.1
  ·exact λ_=>⟨by unfold FPs;exact⟨rfl,rfl⟩,vi,λa ha=>by simp at ha⟩
  ·exact jt (λ_ _ e=>e) hn (Qs (R.keepS f1 rs) src)
 | .app a b,A,X,h,M,σ,σh,R,rs=>by
  rw[pe,ev];dsimp only;refine Sim.bind (qk a A X h M σ σh R rs) ?_;intro x M1 v h1 f1 R1 q1;dsimp only;obtain⟨t,fr⟩:=x;dsimp only;split
  ·rename_i n;have q:=q1.1;unfold Rep at q;obtain⟨p,ep,rfl⟩:=q;obtain⟨ts,vs,e1,e2,e3⟩:=R1.at_ n p ep;dsimp only;rw[qP e2];dsimp only;refine Sim.bind (qk b A X h1 M1 σ σh R1 (R.keepS f1 rs)) ?_;intro y M2 w h2 f2 R2 q2;dsimp only;obtain⟨ts2,vs2,g1,g2,g3⟩:=R2.at_ n p ep;rw[g1,show zY h2 p=some vs2 by unfold zY;rw[g2]];dsimp only;rw[<-qF (reps_iff.mp g3)];split
   ·have r1:Qj (Rep A X h2) [y.1] [w]:=⟨w,[],rfl,q2.1,rfl⟩
    obtain⟨R4,f4⟩:=R2.put ep (reps_iff.mpr (zw (reps_iff.mp g3) r1));have r:Rep A X (h2.set p (.lst false (vs2++[w]))) (.v .non) .non:=by unfold Rep;exact⟨rfl,rfl⟩
    exact⟨.non,_,rfl,f4,R4,r,λ_=>Frs.of_lf R4 r rfl⟩
   ·exact Sim.stuck
  ·exact Sim.stuck
 | .sset a,A,X,h,M,σ,σh,R,rs=>by
  rw[pe,ev];dsimp only;refine Sim.bind (qk a A X h M σ σh R rs) ?_;intro x M1 v h1 f1 R1 q1;dsimp only;obtain⟨t,fr⟩:=x;dsimp only;split
  ·rename_i is eis;obtain⟨xs,ex,ei⟩:=wM.mp eis;obtain⟨b,vs,f,rfl,g1,g2⟩:=zq R1 q1.1 ex;dsimp only;rw[qP g1];dsimp only;rw[Qm g2 ei];dsimp only;split
   ·have rr:=F8 (A:=A) (X:=X) (h:=h1) (jy (uniq is));exact Jn R1 rr f1.1 λe=>Frss.of_lf R1 rr (U6 _)
   ·exact Sim.stuck
  ·exact Sim.stuck
 | .nset a,A,X,h,M,σ,σh,R,rs=>by
  rw[pe,ev];dsimp only;refine Sim.bind (qk a A X h M σ σh R rs) ?_;intro x M1 v h1 f1 R1 q1;dsimp only;obtain⟨t,fr⟩:=x;dsimp only;split
  ·rename_i is eis;obtain⟨xs,ex,ei⟩:=wM.mp eis;obtain⟨b,vs,f,rfl,g1,g2⟩:=zq R1 q1.1 ex;dsimp only;rw[qP g1];dsimp only;rw[Qm g2 ei];dsimp only;split
   ·exact(qI R1 rfl).le f1.1
   ·exact Sim.stuck
  ·exact Sim.stuck
 | .lrng a,A,X,h,M,σ,σh,R,rs=>by
  rw[pe,ev];dsimp only;refine Sim.bind (qk a A X h M σ σh R rs) ?_;intro x M1 v h1 f1 R1 q1;dsimp only;obtain⟨t,fr⟩:=x;dsimp only;split
  ·rename_i j;cases zd q1.1;dsimp only;split
   ·have r:qR A X h1 (zA 0 j.toNat) (QB 0 j.toNat):=by
     have e:zA 0 j.toNat=(QB 0 j.toNat).map .v:=by unfold zA QB;rw[vQ];rfl
     rw[e];exact Qc (by simp[QB,flat])
    exact(Jn (f:=true) R1 r (wG _) λ_=>Frss.of_lf R1 r (Y6 0 _)).le f1.1
   ·exact Sim.stuck
  ·exact Sim.stuck
 | .meth m a as,A,X,h,M,σ,σh,R,rs=>by
  rw[pe,ev];dsimp only;refine Sim.bind (qk a A X h M σ σh R rs) ?_;intro x M1 v h1 f1 R1 q1;dsimp only;obtain⟨t,fr⟩:=x;dsimp only;split
  ·rename_i n;have q:=q1.1;unfold Rep at q;obtain⟨p,ep,rfl⟩:=q;obtain⟨ts,vs,e1,e2,e3⟩:=R1.at_ n p ep;dsimp only;rw[qP e2];dsimp only;refine Sim.bind (Qd as A X h1 M1 σ σh R1 (R.keepS f1 rs)) ?_;intro y M2 w h2 f2 R2 q2;dsimp only;exact(qBG R2 ep q2.1).le (wN f1.1 f2.1)
  ·exact Sim.stuck
theorem Qd:∀(e:Es) (A X:List Nat) (h:AH) (M:Mem) (σ:TS) (σh:List (Option V)),RelM gl A X h M->QQ A X h σ σh->Sim gl A X h (QEs gl A X h.length) (pes gl P e σ M) (evs F e σh h)
 | .nil,A,X,h,M,σ,σh,R,rs=>by
  rw[pes,evs];have r:qR A X h [] []:=by unfold qR;rfl
  exact⟨[],h,rfl,Frm.refl A h,R,r,λ_=>Frss.of_lf R r rfl⟩
 | .cons a as,A,X,h,M,σ,σh,R,rs=>by
  rw[pes,evs];dsimp only;refine Sim.bind (qk a A X h M σ σh R rs) ?_;intro x M1 v h1 f1 R1 q1;dsimp only;obtain⟨fp1,hp1,R1',hlt1⟩:∃fp1:List Nat,(x.2=true->FP X h1 x.1 v fp1/\fp1.Nodup)/\RelM gl A (X++fp1) h1 M1/\∀a∈fp1,h.length<=a:=by
   cases hx2:x.2 with
   |true=>
    obtain⟨fp2,a,b,c,d,_⟩:=q1.2 hx2;exact⟨fp2,λ_=>⟨a,b⟩,d,c⟩
   |false=>exact⟨[],(λz=>by cases z),by rw[wb];exact R1,λa ha=>by simp at ha⟩
  have hX:∀a∈X,a∈X++fp1:=λa z=>wR _ z;have hn:∀a o,a∉X->h[a]?=some o->a∉X++fp1/\h1[a]?=some o:=λa o x y=>⟨by
   rw[wJ];rintro(z|z)
   ·exact x z
   ·have:=hlt1 a z;have:=qO y;omega,(R.keepN f1 a o x y).2⟩
  refine Sim.bindW hX R.sub (Frm.refl A h1) (Qd as A (X++fp1) h1 M1 σ σh R1' (jt (λ_ _ e=>e) hn rs)) ?_;intro y M2 w h2 f2 R2 q2;dsimp only;refine⟨_,h2,rfl,f2,R2.weak hX R.sub,?_,λe=>?_⟩
  ·show qR A X h2 (x.1::y.map (·.1)) (v::w);unfold qR;exact⟨v,w,rfl,R1.keep f2 q1.1,qT (λ_ _ e=>e) (λa o x y=>⟨λz=>x (hX _ z),y⟩) _ q2.1⟩
  ·rw[List.all_cons,wF]at e;obtain⟨a1,b1⟩:=hp1 e.1;obtain⟨fp2,a2,b2,c2,d2⟩:=q2.2 e.2;refine⟨fp1++fp2,?_,?_,?_,by rw[<-wu];exact d2⟩
   ·show FPs X h2 (x.1::y.map (·.1)) (v::w) _;unfold FPs;exact⟨v,w,fp1,fp2,rfl,JJ (R1.keepN f2) _ a1,jR (λa o x y=>⟨λz=>x (hX _ z),y⟩) _ a2,rfl⟩
   ·rw[vH];refine⟨b1,b2,?_⟩;rintro a ha b hb rfl;exact(Qt _ a2 a hb).1 (wV _ ha)
   ·intro a ha;rcases wJ.mp ha with z|z
    ·exact hlt1 a z
    ·exact wN f1.1 (c2 a z)
theorem qFB:∀(e:Es) (A X:List Nat) (h:AH) (M:Mem) (σ:TS) (σh:List (Option V)),RelM gl A X h M->QQ A X h σ σh->Sim gl A X h (λb b' _ _=>b=b') (pec gl P e σ M) (evc F e σh h)
 | .nil,A,X,h,M,σ,σh,R,rs=>by
  rw[pec,evc];exact⟨true,h,rfl,Frm.refl A h,R,rfl⟩
 | .cons a as,A,X,h,M,σ,σh,R,rs=>by
  rw[pec,evc];exact X5 (qk a A X h M σ σh R rs)
theorem qBl:∀(e:Itr) (A X:List Nat) (h:AH) (M:Mem) (σ:TS) (σh:List (Option V)),RelM gl A X h M->QQ A X h σ σh->Sim gl A X h (λs sh h' _=>Zz A X h' sh s.1 s.2) (pei gl P e σ M) (evi F e σh h)
 | .list a,A,X,h,M,σ,σh,R,rs=>by
  rw[pei,evi];dsimp only;refine Sim.bind (qk a A X h M σ σh R rs) ?_;intro x M1 v h1 f1 R1 q1;dsimp only;refine tK λs es=>?_;obtain⟨p,sh,rfl,e1,e2⟩:=qCD R1 q1.1 es;exact⟨sh,h1,e1,Frm.refl A h1,R1,e2⟩
 | .rng1 a,A,X,h,M,σ,σh,R,rs=>by
  rw[pei,evi];dsimp only;refine Sim.bind (qk a A X h M σ σh R rs) ?_;intro x M1 v h1 f1 R1 q1;dsimp only;obtain⟨t,fr⟩:=x;dsimp only;split
  ·cases zd q1.1;dsimp only;split
   ·exact⟨_,h1,rfl,Frm.refl A h1,R1,.rng 0 _⟩
   ·exact Sim.stuck
  ·exact Sim.stuck
 | .rng2 a b,A,X,h,M,σ,σh,R,rs=>by
  rw[pei,evi];dsimp only;refine Sim.bind (qk a A X h M σ σh R rs) ?_;intro x M1 v h1 f1 R1 q1;dsimp only;refine Sim.bind (qk b A X h1 M1 σ σh R1 (R.keepS f1 rs)) ?_;intro y M2 w h2 f2 R2 q2;dsimp only;obtain⟨t,fr⟩:=x;obtain⟨u,fu⟩:=y;dsimp only;split
  ·cases zd q1.1;cases zd q2.1;dsimp only;split
   ·exact⟨_,h2,rfl,Frm.refl A h2,R2,.rng _ _⟩
   ·exact Sim.stuck
  ·exact Sim.stuck
 | .zip a b,A,X,h,M,σ,σh,R,rs=>by
  rw[pei,evi];dsimp only;refine Sim.bind (qk a A X h M σ σh R rs) ?_;intro x M1 v h1 f1 R1 q1;dsimp only;refine Sim.bind (qk b A X h1 M1 σ σh R1 (R.keepS f1 rs)) ?_;intro y M2 w h2 f2 R2 q2;dsimp only;refine tK λs es=>tK λt et=>?_;obtain⟨p,vs,rfl,e1,e2⟩:=g6 R2 (R1.keep f2 q1.1) es;obtain⟨q,us,rfl,e3,e4⟩:=g6 R2 q2.1 et;dsimp only;rw[e1,e3];exact⟨_,h2,rfl,Frm.refl A h2,R2,.zip p q _ _ _ _ e2 e4⟩
end
end
mutual
theorem a8{X Af Xf:List Nat}{h:AH}(hX:∀a o,(∀vs,o≠O.lst false vs)->h[a]?=some o->a∉X->a∉Xf):∀(t:T) (n:Nat){w:V}{fp:List Nat},FP X h t w fp->(∀(k:Nat) a,fp[k]?=some a->Af[n+k]?=some a) ->
  (thaw n t).2.length=fp.length/\Rep Af Xf h (thaw n t).1 w/\∀(k:Nat) ts',(thaw n t).2[k]?=some ts'->∃a vs,fp[k]?=some a/\h[a]?=some (.lst false vs)/\qR Af Xf h ts' vs
 | .v x,n,w,fp,p,ha=>by unfold FP at p;obtain⟨p1,rfl⟩:=p;rw[show thaw n (.v x)=(.v x,[]) by simp[thaw]];exact⟨rfl,by unfold Rep;exact p1,λk ts' e=>by simp at e⟩
 | .cell _,n,w,fp,p,ha=>by unfold FP at p;exact p.elim
 | .ob o,n,w,fp,p,ha=>by unfold FP at p;obtain⟨⟨a,rfl,q1,q2⟩,rfl⟩:=p;rw[show thaw n (.ob o)=(.ob o,[]) by simp[thaw]];exact⟨rfl,by unfold Rep;exact⟨a,rfl,hX a _ (by intro _ z;cases z) q2 q1,q2⟩,λk ts' e=>by simp at e⟩
 | .fz _,n,w,fp,p,ha=>by unfold FP at p;exact p.elim
 | .lst ts,n,w,fp,p,ha=>by
  unfold FP at p;obtain⟨a,vs,f,rfl,q1,q2,q3,rfl⟩:=p;obtain⟨l,r,c⟩:=Jc hX ts n q3 (λk a e=>ha k a (by rw[wB (wC.mp e).1];exact e));rw[thaw];refine⟨by simp[l],?_,λk ts' e=>?_⟩
  ·show Rep Af Xf h (.cell _) _;unfold Rep;refine⟨a,ha _ a ?_,rfl⟩;rw[l,wL (wG _),Nat.sub_self];rfl
  ·dsimp only at e;by_cases hk:k<f.length
   ·rw[wB (by rw[l];exact hk)]at e;obtain⟨b,us,e1,e2,e3⟩:=c k ts' e;exact⟨b,us,by rw[wB hk];exact e1,e2,e3⟩
   ·rw[wL (by rw[l];omega),l]at e;have hk2:k-f.length=0:=by
     have:=(wC.mp e).1;simp at this;omega
    rw[hk2]at e;simp at e;subst e;exact⟨a,vs,by rw[wL (by omega),hk2];rfl,q2,r⟩
 | .tup ts,n,w,fp,p,ha=>by
  unfold FP at p;obtain⟨a,vs,rfl,q1,q2,q3⟩:=p;obtain⟨l,r,c⟩:=Jc hX ts n q3 ha;rw[thaw];refine⟨l,?_,c⟩;show Rep Af Xf h (.tup _) _;unfold Rep;exact⟨a,vs,rfl,hX a _ (by intro _ z;cases z) q2 q1,q2,r⟩
theorem Jc{X Af Xf:List Nat}{h:AH}(hX:∀a o,(∀vs,o≠O.lst false vs)->h[a]?=some o->a∉X->a∉Xf):∀(ts:List T) (n:Nat){ws:List V}{fp:List Nat},FPs X h ts ws fp->(∀(k:Nat) a,fp[k]?=some a->Af[n+k]?=some a) ->
  (Qq n ts).2.length=fp.length/\qR Af Xf h (Qq n ts).1 ws/\∀(k:Nat) ts',(Qq n ts).2[k]?=some ts'->∃a vs,fp[k]?=some a/\h[a]?=some (.lst false vs)/\qR Af Xf h ts' vs
 | [],n,ws,fp,p,ha=>by unfold FPs at p;obtain⟨rfl,rfl⟩:=p;rw[Qq];exact⟨rfl,by unfold qR;rfl,λk ts' e=>by simp at e⟩
 |t::ts,n,ws,fp,p,ha=>by
  unfold FPs at p;obtain⟨v,vs,f1,f2,rfl,q1,q2,rfl⟩:=p;obtain⟨l1,r1,c1⟩:=a8 hX t n q1 (λk a e=>ha k a (by rw[wB (wC.mp e).1];exact e));obtain⟨l2,r2,c2⟩:=Jc hX ts (n+(thaw n t).2.length) q2 (λk a e=>by
   have:=ha (f1.length+k) a (by rw[wL (by omega),wS];exact e);rw[l1,Nat.add_assoc];exact this)
  rw[Qq];refine⟨by dsimp only;rw[wY,wY,l2,l1],?_,λk ts' e=>?_⟩
  ·show qR Af Xf h (_::_) _;unfold qR;exact⟨v,vs,rfl,r1,r2⟩
  ·dsimp only at e;by_cases hk:k<f1.length
   ·rw[wB (by rw[l1];exact hk)]at e;obtain⟨b,us,e1,e2,e3⟩:=c1 k ts' e;exact⟨b,us,by rw[wB hk];exact e1,e2,e3⟩
   ·rw[wL (by rw[l1];omega)]at e;obtain⟨b,us,e1,e2,e3⟩:=c2 _ ts' e;rw[l1]at e1;exact⟨b,us,by rw[wL (by omega)];exact e1,e2,e3⟩
end
theorem RelM.thaw{gl:List T}{A X fp:List Nat}{h:AH}{M:Mem}{t:T}{w:V}(R:RelM gl A (X++fp) h M)(hA:∀a∈A,a∈X)(p:FP X h t w fp)(nd:fp.Nodup):
  RelM gl (A++fp) (X++fp) h (M++(_P.thaw M.length t).2)/\Rep (A++fp) (X++fp) h (_P.thaw M.length t).1 w:=by
 have hX:∀a o,(∀vs,o≠O.lst false vs)->h[a]?=some o->a∉X->a∉X++fp:=λa o hno e x=>by
  rw[wJ];rintro(z|z)
  ·exact x z
  ·obtain⟨_,us,e2⟩:=U3 t p a z;rw[e]at e2;cases e2;exact hno _ rfl
 obtain⟨l,r,c⟩:=a8 (Af:=A++fp) hX t M.length p (λk a e=>by rw[<-R.len,wL (by omega),wS];exact e);refine⟨⟨by simp[R.len,l],?_,?_,R.lt,λn a e=>?_,λg t e=>?_⟩,r⟩
 ·rw[vH];exact⟨R.nd,nd,by rintro a ha b hb rfl;exact(U3 t p a hb).1 (hA a ha)⟩
 ·intro a ha;rcases wJ.mp ha with z|z
  ·exact wR _ (hA a z)
  ·exact wV _ z
 ·by_cases hn:n<A.length
  ·rw[wB hn]at e;obtain⟨ts,vs,e1,e2,e3⟩:=R.at_ n a e;exact⟨ts,vs,by rw[wB (by rw[<-R.len];exact hn)];exact e1,e2,qT (λk b eb=>by rw[wB (wC.mp eb).1];exact eb) (λa o x y=>⟨x,y⟩) ts e3⟩
  ·rw[wL (by omega)]at e;have hk:n-A.length<(_P.thaw M.length t).2.length:=by rw[l];exact(wC.mp e).1
   obtain⟨b,us,e1,e2,e3⟩:=c (n-A.length) _ (wD hk);rw[e]at e1;cases e1;have hnm:n-M.length=n-A.length:=by rw[R.len]
   exact⟨_,us,by rw[wL (by rw[<-R.len];omega),hnm];exact wD hk,e2,e3⟩
 ·exact zr (λk b eb=>by rw[wB (wC.mp eb).1];exact eb) (λa o x y=>⟨x,y⟩) t (R.glo g t e)
theorem F7{A X:List Nat}{h:AH}(n:Nat):∀{ts:List T}{ws:List V},qR A X h ts ws->QQ A X h (ts.map some++List.replicate n none) (ws.map some++List.replicate n none)
 | [],ws,r=>by
  unfold qR at r;subst r;show QQ A X h (List.replicate n none) (List.replicate n none)
  induction n with
  |zero=>rfl
  |succ n ih=>exact⟨none,_,rfl,trivial,ih⟩
 |t::ts,ws,r=>by
  unfold qR at r;obtain⟨v,vs,rfl,a,b⟩:=r;exact⟨some v,_,rfl,a,F7 n b⟩
def RelO(gl:List T)(A X:List Nat)(n:Nat)(h:AH)(M:Mem):PO->Out->Prop
 | .nx σ,.nx σh=>QQ A X h σ σh
 | .bk σ,.bk σh=>QQ A X h σ σh
 | .ct σ,.ct σh=>QQ A X h σ σh
 | .rt t,.rt w=>QE gl A X n t w h M
 |_,_=>False
theorem RelO.le{gl:List T}{A X:List Nat}{n m:Nat}{h:AH}{M:Mem}{o:PO}{oh:Out}(r:RelO gl A X n h M o oh)(l:m<=n):RelO gl A X m h M o oh:=by
 cases o<;>cases oh<;>first|exact r|exact QE.le r l
def SimS(gl:List T)(A X:List Nat)(h:AH):RSt->RS->Prop
 | .ok (o,M'),r=>∃oh h' B,r=.ok (oh,h')/\Frm A h h'/\(∀b∈B,h.length<=b)/\RelM gl (A++B) (X++B) h' M'/\RelO gl (A++B) (X++B) h.length h' M' o oh
 | .exc c M',r=>∃h' B,r=.exc c h'/\Frm A h h'/\(∀b∈B,h.length<=b)/\RelM gl (A++B) (X++B) h' M'
 | .stuck,_=>True
theorem SimS.stuck{gl:List T}{A X:List Nat}{h:AH}{r:RS}:SimS gl A X h .stuck r:=trivial
theorem SimS.mk{gl:List T}{A X:List Nat}{h:AH}{M:Mem}{o:PO}{oh:Out}(R:RelM gl A X h M)(ro:RelO gl A X h.length h M o oh):SimS gl A X h (.ok (o,M)) (.ok (oh,h)):=
 ⟨oh,h,[],rfl,Frm.refl A h,λb hb=>by simp at hb,by simpa using R,by simpa using ro⟩
theorem SimS.pre{gl:List T}{A X:List Nat}{h h1:AH}{r:RSt}{rh:RS}(s:SimS gl A X h1 r rh)(f:Frm A h h1):SimS gl A X h r rh:=by
 cases r with
 |ok p=>
  obtain⟨o,M'⟩:=p;obtain⟨oh,h',B,e,f1,hB,R,ro⟩:=s;exact⟨oh,h',B,e,f.trans f1,λb hb=>wN f.1 (hB b hb),R,ro.le f.1⟩
 |exc c M'=>
  obtain⟨h',B,e,f1,hB,R⟩:=s;exact⟨h',B,e,f.trans f1,λb hb=>wN f.1 (hB b hb),R⟩
 |stuck=>trivial
theorem Sim.bindS{α β:Type}{gl:List T}{A X:List Nat}{h:AH}{Q:α->β->AH->Mem->Prop}{r:PR (α×Mem)}{rh:Res (β×AH)}{f:α×Mem->RSt}{g:β×AH->RS}
  (s:Sim gl A X h Q r rh) (k:∀x M' y h',Frm A h h'->RelM gl A X h' M'->Q x y h' M'->SimS gl A X h' (f (x,M')) (g (y,h'))):SimS gl A X h (r.bind f) (rh.bind g):=by
 cases r with
 |ok p=>
  obtain⟨x,M'⟩:=p;obtain⟨y,h',rfl,f1,R1,q⟩:=s;exact(k x M' y h' f1 R1 q).pre f1
 |exc c M'=>
  obtain⟨h',rfl,f1,R1⟩:=s;exact⟨h',[],rfl,f1,λb hb=>by simp at hb,by simpa using R1⟩
 |stuck=>trivial
theorem SimS.bind{gl:List T}{A X:List Nat}{h:AH}{r:RSt}{rh:RS}{f:PO×Mem->RSt}{g:Out×AH->RS}
  (s:SimS gl A X h r rh) (k:∀o M' oh h' B,Frm A h h'->(∀b∈B,h.length<=b)->RelM gl (A++B) (X++B) h' M'->RelO gl (A++B) (X++B) h.length h' M' o oh->SimS gl (A++B) (X++B) h' (f (o,M')) (g (oh,h'))\/(f (o,M')=.ok (o,M')/\g (oh,h')=.ok (oh,h'))):SimS gl A X h (r.bind f) (rh.bind g):=by
 cases r with
 |ok p=>
  obtain⟨o,M'⟩:=p;obtain⟨oh,h',B,rfl,f1,hB,R,ro⟩:=s;rw[tD,tH];rcases k o M' oh h' B f1 hB R ro with s2|⟨e1,e2⟩
  ·revert s2;generalize f (o,M')=r2;generalize g (oh,h')=rh2;intro s2;cases r2 with
   |ok p2=>
    obtain⟨o2,M2⟩:=p2;obtain⟨oh2,h2,B2,rfl,f2,hB2,R2,ro2⟩:=s2;rw[wu,wu]at R2 ro2;exact⟨oh2,h2,B++B2,rfl,f1.trans2 hB f2,λb hb=>by
     rcases wJ.mp hb with z|z
     ·exact hB b z
     ·exact wN f1.1 (hB2 b z),R2,ro2.le f1.1⟩
   |exc c M2=>
    obtain⟨h2,B2,rfl,f2,hB2,R2⟩:=s2;rw[wu,wu]at R2;exact⟨h2,B++B2,rfl,f1.trans2 hB f2,λb hb=>by
     rcases wJ.mp hb with z|z
     ·exact hB b z
     ·exact wN f1.1 (hB2 b z),R2⟩
   |stuck=>trivial
  ·rw[e1,e2];exact⟨oh,h',B,rfl,f1,hB,R,ro⟩
 |exc c M'=>
  obtain⟨h',B,rfl,f1,hB,R⟩:=s;exact⟨h',B,rfl,f1,hB,R⟩
 |stuck=>trivial
theorem O9{A X B:List Nat}{h h':AH}(hs:∀a∈A,a∈X)(f:Frm A h h')(hB:∀b∈B,h.length<=b):∀a o,a∉X->h[a]?=some o->a∉X++B/\h'[a]?=some o:=λa o x y=>⟨by
 rw[wJ];rintro(z|z)
 ·exact x z
 ·have:=hB a z;have:=qO y;omega,(f.2 a (qO y) λz=>x (hs _ z)).trans y⟩
theorem QN{A B:List Nat}:∀(n:Nat) a,A[n]?=some a->(A++B)[n]?=some a:=λn a e=>by rw[wB (wC.mp e).1];exact e
theorem g9{gl:List T}{s:Src}{its:List T}{d:ZG}{g:Tg}{b:TS->Mem->RSt}{b':List (Option V)->AH->RS}
  (hb:∀A X h M σ σh,RelM gl A X h M->QQ A X h σ σh->SimS gl A X h (b σ M) (b' σh h)):∀(r:List T) (i:Nat) (σ:TS) (σh:List (Option V)) (M:Mem) (h:AH) (A X:List Nat),
   its.drop i=r->i<=its.length->RelM gl A X h M->Zz A X h s its d->QQ A X h σ σh->SimS gl A X h (jJ d g b r σ M) (qAS s g b' r.length i σh h)
 | [],i,σ,σh,M,h,A,X,hr,hi,R,sr,rs=>by
  have hi':i=its.length:=by
   have:=List.drop_eq_nil_iff.mp hr;omega
  subst hi';show SimS gl A X h (.ok (.nx σ,M)) (if QT h its.length s then _ else _);rw[if_pos (B6 sr)];exact SimS.mk R rs
 |x::r,i,σ,σh,M,h,A,X,hr,hi,R,sr,rs=>by
  have ex:its[i]?=some x:=by
   have:(its.drop i)[0]?=some x:=by rw[hr];rfl
   rwa [vd,uA]at this
  have hi2:i+1<=its.length:=(wC.mp ex).1;have hr2:its.drop (i+1)=r:=by
   rw[<-List.drop_drop,hr];rfl
  obtain⟨w,ext,ey,rx⟩:=JL R sr ex;have fy:Frm A h (h++ext):=Frm.app A h ext;rw[List.length_cons];unfold jJ qAS;rw[ey];dsimp only;cases es:zv g x σ with
  |none=>exact SimS.stuck
  |some σ1=>
   obtain⟨σh1,esh,rs1⟩:=Qg es rx (R.keepS fy rs);rw[esh];dsimp only;refine SimS.bind ((hb A X _ M σ1 σh1 (R.up ext) rs1).pre fy) ?_;intro o M2 oh h2 B f2 hB R2 ro;have nxt:∀σ2 σh2,QQ (A++B) (X++B) h2 σ2 σh2->SimS gl (A++B) (X++B) h2 (if qy d M2=true then jJ d g b r σ2 M2 else .stuck) (qAS s g b' r.length (i+1) σh2 h2):=λσ2 σh2 rs2=>by
    split
    ·rename_i hd;exact g9 hb r (i+1) σ2 σh2 M2 h2 _ _ hr2 hi2 R2 (JM sr (O9 R.sub f2 hB) R2 hd QN) rs2
    ·exact SimS.stuck
   cases o with
   |nx σ2=>cases oh<;>first|exact .inl (nxt _ _ ro)|exact ro.elim
   |ct σ2=>cases oh<;>first|exact .inl (nxt _ _ ro)|exact ro.elim
   |bk σ2=>cases oh<;>first|exact .inl (SimS.mk R2 ro)|exact ro.elim
   |rt t=>cases oh<;>first|exact .inr ⟨rfl,rfl⟩|exact ro.elim
section
variable{gl:List T}{P:Nat->List T->Mem->PR (TB×Mem)}{F:Nat->List V->AH->RV}(C:List Nat)
variable (hF:∀f ts ws A X h M,RelM gl A X h M->qR A X h ts ws->Sim gl A X h (QE gl A X h.length) (P f ts M) (F f ws h))
include hF
omit hF in
theorem Res.bind_assoc{α β γ:Type}(r:Res α)(f:α->Res β)(g:β->Res γ):(r.bind f).bind g=r.bind λa=>(f a).bind g:=by cases r<;>rfl
omit hF in
def qIO(gl:List T)(A X:List Nat)(h:AH):PR (TB×Mem)->RV->Prop
 | .ok ((.lst ts,_),M1),r=>∃h1 vs,r=.ok (.ref h1.length,h1++[.lst false vs])/\Frm A h h1/\RelM gl A X h1 M1/\qR A X h1 ts vs
 |_,_=>True
omit hF in
theorem RelM.cellN{gl:List T}{A X:List Nat}{h:AH}{M:Mem}{ts:List T}{vs:List V}(R:RelM gl A X h M)(r:qR A X h ts vs):RelM gl (A++[h.length]) (X++[h.length]) (h++[.lst false vs]) (M++[ts]):=by
 have hn:∀a o,a∉X->h[a]?=some o->a∉X++[h.length]/\(h++[O.lst false vs])[a]?=some o:=O9 R.sub (Frm.app A h _) (λb hb=>by simp at hb;omega);refine⟨by simp[R.len],?_,λa ha=>?_,λa ha=>?_,λn a e=>?_,λg t e=>zr QN hn t (R.glo g t e)⟩
 ·rw[vH];refine⟨R.nd,by simp,λa ha b hb=>?_⟩;have:=R.lt a (R.sub a ha);simp at hb;omega
 ·rcases wJ.mp ha with z|z
  ·exact wR _ (R.sub a z)
  ·exact wV _ z
 ·rcases wJ.mp ha with z|z
  ·have:=R.lt a z;simp;omega
  ·simp at z;simp[z]
 ·by_cases hlt:n<A.length
  ·rw[wB hlt]at e;obtain⟨us,ws,e1,e2,e3⟩:=R.at_ n a e;exact⟨us,ws,by rw[wB (by rw[<-R.len];exact hlt)];exact e1,by rw[wB (qO e2)];exact e2,qT QN hn us e3⟩
  ·have hl:=(wC.mp e).1;have hnn:n=A.length:=by simp at hl;omega
   subst hnn;simp at e;subst e;exact⟨ts,vs,by rw[R.len];simp,by simp,qT QN hn ts r⟩
omit hF in
theorem m4{e:E}(h:qDb e=true):(∃as,e=.lst as)\/∃a b,e=.bin .add a b:=by
 unfold qDb at h;split at h
 ·exact .inr ⟨_,_,rfl⟩
 ·exact .inl ⟨_,rfl⟩
 ·cases h
theorem qDO(e:E)(he:qDb e=true)(A X:List Nat)(h:AH)(M:Mem)(σ:TS)(σh:List (Option V))(R:RelM gl A X h M)(rs:QQ A X h σ σh):qIO gl A X h (pe gl P e σ M) (ev F e σh h):=by
 rcases m4 he with⟨as,rfl⟩|⟨a,b,rfl⟩
 ·rw[pe,ev];dsimp only;have s1:=Qd hF as A X h M σ σh R rs;revert s1;generalize pes gl P as σ M=r;generalize evs F as σh h=rh;intro s1;cases r with
  |stuck=>trivial
  |exc c M'=>trivial
  |ok p=>
   obtain⟨x,M1⟩:=p;obtain⟨w,h1,rfl,f1,R1,q⟩:=s1;rw[tD,tH];dsimp only;rw[<-q.len];split
   ·exact⟨h1,w,rfl,f1,R1,q.1⟩
   ·trivial
 ·rw[pe,ev];dsimp only;have s1:=qk hF a A X h M σ σh R rs;revert s1;generalize pe gl P a σ M=r;generalize ev F a σh h=rh;intro s1;cases r with
  |stuck=>trivial
  |exc c M'=>trivial
  |ok p=>
   obtain⟨x,M1⟩:=p;obtain⟨v,h1,rfl,f1,R1,q1⟩:=s1;rw[tD,tH];dsimp only;have s2:=qk hF b A X h1 M1 σ σh R1 (R.keepS f1 rs);revert s2;generalize pe gl P b σ M1=r;generalize ev F b σh h1=rh;intro s2;cases r with
   |stuck=>trivial
   |exc c M'=>trivial
   |ok p=>
    obtain⟨y,M2⟩:=p;obtain⟨w,h2,rfl,f2,R2,q2⟩:=s2;rw[tD,tH];dsimp only;have rx:=R1.keep f2 q1.1;cases eb:qx M2 .add x.1 y.1 with
    |none=>trivial
    |some r=>
     rw[PR.ofO_some,tD];unfold qx at eb;split at eb
     ·cases eb;trivial
     ·cases eb
     ·rename_i e1 e2;dsimp only at eb;split at eb
      ·split at eb
       ·cases eb;trivial
       ·cases eb
      rename_i u0 u1 u2;clear u2;obtain⟨xs,m1,eb⟩:=wM.mp eb;obtain⟨ys,m2,eb⟩:=wM.mp eb;split at eb
      ·rename_i hl;cases eb;obtain⟨a1,vs,rfl,g1,k1⟩:=u8 R2 rx m1;obtain⟨a2,us,rfl,g2,k2⟩:=u8 R2 q2.1 m2;refine⟨h2,vs++us,?_,f1.trans f2,R2,reps_iff.mpr (zw (reps_iff.mp k1) (reps_iff.mp k2))⟩;show (match zY h2 a1,zY h2 a2 with|some xs,some ys=>if xs.length+ys.length<=lim then newL (xs++ys) h2 else .stuck|_,_=>_)=_;rw[g1,g2];dsimp only;rw[<-qF (reps_iff.mp k1),<-qF (reps_iff.mp k2),if_pos hl];rfl
      ·cases eb
     ·cases eb
omit hF in
omit hF in
omit hF in
omit hF in
omit hF in
omit hF in
omit hF in
omit hF in
def SimN(gl:List T)(A X:List Nat)(D n0:Nat)(h:AH):RSt->RS->Prop
 | .ok (o,M'),r=>∃oh h',r=.ok (oh,h')/\Frm (A++[D]) h h'/\RelM gl A X h' M'/\RelO gl A X n0 h' M' o oh
 | .exc _ _,_=>False
 | .stuck,_=>True
omit hF in
theorem SimN.pre{A X:List Nat}{D n0:Nat}{h h1:AH}{r:RSt}{rh:RS}(s:SimN gl A X D n0 h1 r rh)(f:Frm (A++[D]) h h1):SimN gl A X D n0 h r rh:=by
 match r,s with
 | .ok (o,M'),⟨oh,h',e,f1,R,ro⟩=>exact⟨oh,h',e,f.trans f1,R,ro⟩
 | .exc _ _,z=>exact z.elim
 | .stuck,_=>trivial
omit hF in
theorem Frm.more{A:List Nat}{D:Nat}{h h':AH}(f:Frm A h h'):Frm (A++[D]) h h':=⟨f.1,λj hj hA=>f.2 j hj λz=>hA (wR _ z)⟩
mutual
theorem qF9:∀(s:S) (A X:List Nat) (h:AH) (M:Mem) (σ:TS) (σh:List (Option V)),RelM gl A X h M->QQ A X h σ σh->SimS gl A X h (px gl P C s σ M) (ex F s σh h)
 | .asg g e,A,X,h,M,σ,σh,R,rs=>by
  rw[px,ex];dsimp only;have se:=qk hF e A X h M σ σh R rs;have tp:=λhe=>qDO hF e he A X h M σ σh R rs;revert se tp;generalize pe gl P e σ M=r;generalize ev F e σh h=rh;intro se tp;cases r with
  |stuck=>trivial
  |exc c M'=>
   obtain⟨h',rfl,f1,R1⟩:=se;exact⟨h',[],rfl,f1,λb hb=>by simp at hb,by simpa using R1⟩
  |ok p=>
   obtain⟨x,M1⟩:=p;obtain⟨w,h1,rfl,f1,R1,q⟩:=se;rw[tD,tH];dsimp only;have gen:∀{g:Tg}{σ1:TS},zv g x.1 σ=some σ1->SimS gl A X h (.ok (.nx σ1,M1)) (match store g w σh h1 with|some σ1=>.ok (.nx σ1,h1)|none=>.stuck):=λe=>by
    obtain⟨σh1,e2,rs2⟩:=Qg e q.1 (R.keepS f1 rs);rw[e2];exact(SimS.mk (o:=.nx _) (oh:=.nx _) R1 rs2).pre f1
   cases g with
   |name i=>
    dsimp only;split
    ·rename_i hc;rw[wF]at hc;obtain⟨fp,p,nd,l,R',_⟩:=q.2 hc.2;obtain⟨R2,r2⟩:=R'.thaw R.sub p nd;refine⟨.nx (σh.set i (some w)),h1,fp,rfl,f1,l,R2,?_⟩;exact jr i (jt QN (O9 R.sub f1 l) rs) (show qDd _ _ h1 (some _) (some w) from r2)
    ·split
     ·rename_i hc;rw[wF]at hc;have tp:=tp hc.2;obtain⟨x1,x2⟩:=x;dsimp only;split
      ·rename_i ts;obtain⟨h0,vs,e0,f0,R0,r0⟩:=tp;cases e0;refine⟨.nx (σh.set i (some (.ref h0.length))),_,[h0.length],rfl,f0.trans (Frm.app A h0 _),λb hb=>by simp at hb;have:=f0.1;omega,R0.cellN r0,?_⟩;refine jr i (jt QN (O9 R0.sub (Frm.app A h0 _) (λb hb=>by simp at hb;omega)) (R.keepS f0 rs)) (show qDd _ _ _ (some _) (some _) from ?_);have rc:Rep (A++[h0.length]) (X++[h0.length]) (h0++[O.lst false vs]) (.cell M1.length) (.ref h0.length):=by
        unfold Rep;exact⟨h0.length,by rw[<-R0.len];simp,rfl⟩
       exact rc
      ·exact SimS.stuck
     ·exact gen (g:=.name i) rfl
   |tup is=>
    dsimp only;split
    ·rename_i σ1 e;exact gen e
    ·exact SimS.stuck
 | .put o i v,A,X,h,M,σ,σh,R,rs=>by
  rw[px,ex];dsimp only;refine Sim.bindS (qk hF v A X h M σ σh R rs) ?_;intro x M1 vx h1 f1 R1 q1;dsimp only;refine Sim.bindS (qk hF o A X h1 M1 σ σh R1 (R.keepS f1 rs)) ?_;intro y M2 w h2 f2 R2 q2;dsimp only;refine Sim.bindS (qk hF i A X h2 M2 σ σh R2 (R1.keepS f2 (R.keepS f1 rs))) ?_;intro z M3 u h3 f3 R3 q3;dsimp only;obtain⟨ty,fy⟩:=y;obtain⟨tz,fz⟩:=z;dsimp only;split
  ·rename_i n k;cases zd q3.1;have q:=R2.keep f3 q2.1;unfold Rep at q;obtain⟨p,ep,rfl⟩:=q;obtain⟨ts2,vs2,g1,g2,g3⟩:=R3.at_ n p ep;rw[g1];dsimp only;rw[show zY h3 p=some vs2 by unfold zY;rw[g2]];dsimp only;rw[<-qF (reps_iff.mp g3)];split
   ·rename_i j ej
    try simp only[ej]
    obtain⟨R4,f4⟩:=R3.put ep (reps_iff.mpr (jr j (reps_iff.mp g3) (R2.keep f3 (R1.keep f2 q1.1))));exact(SimS.mk (o:=.nx σ) (oh:=.nx σh) R4 (R3.keepS f4 (R2.keepS f3 (R1.keepS f2 (R.keepS f1 rs))))).pre f4
   ·exact SimS.stuck
  ·exact SimS.stuck
 | .expr e,A,X,h,M,σ,σh,R,rs=>by
  rw[px,ex];dsimp only;refine Sim.bindS (qk hF e A X h M σ σh R rs) ?_;intro x M1 v h1 f1 R1 q1;dsimp only;exact SimS.mk (o:=.nx σ) (oh:=.nx σh) R1 (R.keepS f1 rs)
 | .ret e,A,X,h,M,σ,σh,R,rs=>by
  rw[px,ex];dsimp only;have se:=qk hF e A X h M σ σh R rs;revert se;generalize pe gl P e σ M=r;generalize ev F e σh h=rh;intro se;cases r with
  |stuck=>trivial
  |exc c M'=>
   obtain⟨h',rfl,f1,R1⟩:=se;exact⟨h',[],rfl,f1,λb hb=>by simp at hb,by simpa using R1⟩
  |ok p=>
   obtain⟨x,M1⟩:=p;obtain⟨w,h1,rfl,f1,R1,q⟩:=se;exact⟨.rt w,h1,[],rfl,f1,λb hb=>by simp at hb,by simpa using R1,by simpa using (show RelO gl A X h.length h1 M1 (.rt x) (.rt w) from q)⟩
 | .ifs c t u,A,X,h,M,σ,σh,R,rs=>by
  rw[px,ex];dsimp only;refine Sim.bindS (X5 (qk hF c A X h M σ σh R rs)) ?_;rintro x M1 v h1 f1 R1 rfl;dsimp only;cases x with
  |true=>simp only[if_true];exact E7 t A X h1 M1 σ σh R1 (R.keepS f1 rs)
  |false=>simp only[vJ,if_false];exact E7 u A X h1 M1 σ σh R1 (R.keepS f1 rs)
 | .for_ g it b,A,X,h,M,σ,σh,R,rs=>by
  rw[px,ex];dsimp only;refine Sim.bindS (qBl hF it A X h M σ σh R rs) ?_;intro s M1 sh h1 f1 R1 q1;dsimp only;rw[S6 q1];exact g9 (λA X h M σ σh R rs=>E7 b A X h M σ σh R rs) s.1 0 σ σh M1 h1 A X rfl (vI _) R1 q1 (R.keepS f1 rs)
 | .stop,A,X,h,M,σ,σh,R,rs=>by rw[px,ex];exact SimS.stuck
theorem E7:∀(s:Ss) (A X:List Nat) (h:AH) (M:Mem) (σ:TS) (σh:List (Option V)),RelM gl A X h M->QQ A X h σ σh->SimS gl A X h (pxs gl P C s σ M) (exs F s σh h)
 | .nil,A,X,h,M,σ,σh,R,rs=>by rw[pxs,exs];exact SimS.mk (o:=.nx σ) (oh:=.nx σh) R rs
 | .cons s r,A,X,h,M,σ,σh,R,rs=>by
  rw[pxs,exs];dsimp only;refine SimS.bind (qF9 s A X h M σ σh R rs) ?_;intro o M1 oh h1 B f1 hB R1 ro;cases o with
  |nx σ2=>cases oh<;>first|exact .inl (E7 r _ _ h1 M1 _ _ R1 ro)|exact ro.elim
  |ct σ2=>cases oh<;>first|exact .inr ⟨rfl,rfl⟩|exact ro.elim
  |bk σ2=>cases oh<;>first|exact .inr ⟨rfl,rfl⟩|exact ro.elim
  |rt t=>cases oh<;>first|exact .inr ⟨rfl,rfl⟩|exact ro.elim
end
end
section
variable{gl:List T}{A X B:List Nat}{h h':AH}{M M1:Mem}
theorem mapM_cons{α β:Type}{f:α->Option β}{x:α}{xs:List α}{ys:List β}(e:(x::xs).mapM f=some ys):∃y ys',f x=some y/\xs.mapM f=some ys'/\ys=y::ys':=by
 rw[uB]at e;cases hf:f x with
 |none=>rw[hf]at e;cases e
 |some y=>
  rw[hf]at e;cases hg:xs.mapM f with
  |none=>rw[hg]at e;cases e
  |some ys'=>rw[hg]at e;cases e;exact⟨y,ys',rfl,rfl,rfl⟩
theorem mapM_nil{α β:Type}{f:α->Option β}{ys:List β}(e:([]:List α).mapM f=some ys):ys=[]:=by
 rw[List.mapM_nil]at e;cases e;rfl
theorem QX{A1 X1:List Nat}{f:T->Option T}(hf:∀t t' w,f t=some t'->Rep A1 X1 h t w->Rep A X h t' w):∀{ts ts':List T}{vs:List V},ts.mapM f=some ts'->qR A1 X1 h ts vs->qR A X h ts' vs
 | [],ts',vs,e,r=>by cases mapM_nil e;unfold qR at r ⊢;exact r
 |t::ts,ts',vs,e,r=>by
  obtain⟨y,ys,e1,e2,rfl⟩:=mapM_cons e;unfold qR at r ⊢;obtain⟨v,vs',rfl,a,b⟩:=r;exact⟨v,vs',rfl,hf _ _ _ e1 a,QX hf e2 b⟩
theorem W9(R:RelM gl (A++B) (X++B) h M1)(hB:∀b∈B,b∉X):∀(d:Nat) (t t':T) (w:V),qJ M1 A.length d t=some t'->Rep (A++B) (X++B) h t w->Rep A X h t' w:=by
 have hu:∀(t:T) (w:V),t.und A.length=true->Rep (A++B) (X++B) h t w->Rep A X h t w:=λt w u r=>g5 (λn hn=>wB hn) (λa ha=>wR _ ha) t r u;have hX:∀a,a∉X++B->a∉X:=λa x z=>x (wR _ z);intro d
 induction d with
 |zero=>
  intro t t' w e r;unfold qJ at e;split at e
  ·rename_i u;cases e;exact hu _ w u r
  ·cases e
 |succ d ih=>
  intro t t' w e r;unfold qJ at e;split at e
  ·rename_i u;cases e;exact hu _ w u r
  ·rename_i u;cases t with
   |v x=>cases e
   |ob o=>cases e
   |fz ts=>cases e
   |lst ts=>
    obtain⟨ts',e1,rfl⟩:=wA.mp e;unfold Rep at r ⊢;obtain⟨a,vs,rfl,q1,q2,q3⟩:=r;exact⟨a,vs,rfl,hX a q1,q2,QX ih e1 q3⟩
   |tup ts=>
    obtain⟨ts',e1,rfl⟩:=wA.mp e;unfold Rep at r ⊢;obtain⟨a,vs,rfl,q1,q2,q3⟩:=r;exact⟨a,vs,rfl,hX a q1,q2,QX ih e1 q3⟩
   |cell n=>
    obtain⟨ts,e0,e⟩:=wM.mp (show (M1[n]?).bind _=_ from e);obtain⟨ts',e1,rfl⟩:=wA.mp e;have hn:A.length<=n:=by
     unfold T.und at u;simpa using u
    unfold Rep at r ⊢;obtain⟨a,ea,rfl⟩:=r;obtain⟨ts2,vs,g1,g2,g3⟩:=R.at_ n a ea;rw[e0]at g1;cases g1;rw[wL hn]at ea;exact⟨a,vs,rfl,hB a (wZ ea),g2,QX ih e1 g3⟩
mutual
theorem qBb(n:Nat):∀(t:T),t.lf=true->t.und n=true
 | .v x,_=>rfl
 | .cell _,l=>by unfold T.lf at l;cases l
 | .ob _,_=>rfl
 | .fz _,l=>by unfold T.lf at l;cases l
 | .lst _,l=>by unfold T.lf at l;cases l
 | .tup ts,l=>by unfold T.lf at l;unfold T.und;exact M9 n ts l
theorem M9(n:Nat):∀(ts:List T),T.lfs ts=true->T.unds n ts=true
 | [],_=>rfl
 |t::ts,l=>by unfold T.lfs at l;rw[wF]at l;unfold T.unds;rw[qBb n t l.1,M9 n ts l.2];rfl
end
theorem y7{n0:Nat}{f:T->Option (List Nat)}(hf:∀t l,f t=some l->t.und n0=true->t.lf=true):∀{ts:List T}{ls:List (List Nat)},ts.mapM f=some ls->T.unds n0 ts=true->T.lfs ts=true
 | [],ls,e,u=>rfl
 |t::ts,ls,e,u=>by
  obtain⟨y,ys,e1,e2,rfl⟩:=mapM_cons e;unfold T.unds at u;rw[wF]at u;unfold T.lfs;rw[hf t _ e1 u.1,y7 hf e2 u.2];rfl
theorem v4{n0:Nat}:∀(d:Nat) (t:T) (l:List Nat),jz M1 n0 d t=some l->t.und n0=true->t.lf=true:=by
 intro d
 induction d with
 |zero=>intro t l e u;unfold jz at e;split at e<;>first|assumption|cases e
 |succ d ih=>
  intro t l e u;unfold jz at e;split at e
  ·assumption
  ·cases t with
   |tup ts=>
    obtain⟨ls,e1,rfl⟩:=wA.mp e;unfold T.und at u;unfold T.lf;exact y7 ih e1 u
   |cell n=>
    dsimp only at e;split at e
    ·rename_i hn;unfold T.und at u;simp at u;omega
    ·cases e
   |v x=>cases e
   |ob o=>cases e
   |fz ts=>cases e
   |lst ts=>cases e
theorem Ji{A1 X1:List Nat}{n0:Nat}{f:T->Option (List Nat)}{g:T->Option T}(hf:∀t l t' w,f t=some l->g t=some t'->Rep A1 X1 h t w->∃fp,FP X h t' w fp/\fp.map some=l.map (A1[·]?)/\∀n∈l,n0<=n):
  ∀{ts ts':List T}{ls:List (List Nat)}{vs:List V},ts.mapM f=some ls->ts.mapM g=some ts'->qR A1 X1 h ts vs->∃fp,FPs X h ts' vs fp/\fp.map some=ls.flatten.map (A1[·]?)/\∀n∈ls.flatten,n0<=n
 | [],ts',ls,vs,e,e',r=>by
  cases mapM_nil e;cases mapM_nil e';unfold qR at r;exact⟨[],by unfold FPs;exact⟨r,rfl⟩,rfl,λn hn=>by simp at hn⟩
 |t::ts,ts',ls,vs,e,e',r=>by
  obtain⟨y,ys,e1,e2,rfl⟩:=mapM_cons e;obtain⟨z,zs,e3,e4,rfl⟩:=mapM_cons e';unfold qR at r;obtain⟨v,vs',rfl,a,b⟩:=r;obtain⟨f1,p1,q1,n1⟩:=hf _ _ _ _ e1 e3 a;obtain⟨f2,p2,q2,n2⟩:=Ji hf e2 e4 b;refine⟨f1++f2,by unfold FPs;exact⟨v,vs',f1,f2,rfl,p1,p2,rfl⟩,by simp[q1,q2],λn hn=>?_⟩;rw[List.flatten_cons]at hn;rcases wJ.mp hn with z|z
  ·exact n1 n z
  ·exact n2 n z
theorem Zd{n0:Nat}{d:Nat}{t t':T}(u:t.und n0=true)(e:qJ M1 n0 d t=some t'):t'=t:=by
 cases d<;>(unfold qJ at e;rw[if_pos u]at e;cases e;rfl)
theorem qA4(R:RelM gl (A++B) (X++B) h M1)(hB:∀b∈B,b∉X):∀(d:Nat) (t:T) (l:List Nat) (t':T) (w:V),jz M1 A.length d t=some l->qJ M1 A.length d t=some t'->Rep (A++B) (X++B) h t w ->
  ∃fp,FP X h t' w fp/\fp.map some=l.map ((A++B)[·]?)/\∀n∈l,A.length<=n:=by
 have hX:∀a,a∉X++B->a∉X:=λa x z=>x (wR _ z);have lfc:∀{d:Nat}{t t':T}{w:V},t.lf=true->qJ M1 A.length d t=some t'->Rep (A++B) (X++B) h t w->∃fp:List Nat,FP X h t' w fp/\fp.map some=([]:List Nat).map ((A++B)[·]?)/\∀n∈([]:List Nat),A.length<=n:=by
  intro d t t' w l e r;cases Zd (qBb _ t l) e;exact⟨[],JJ (λa o x y=>⟨hX a x,y⟩) _ (qCE _ r l),rfl,λn hn=>by simp at hn⟩
 intro d
 induction d with
 |zero=>
  intro t l t' w e e' r;unfold jz at e;split at e
  ·rename_i hl;cases e;exact lfc hl e' r
  ·cases e
 |succ d ih=>
  intro t l t' w e e' r;unfold jz at e;split at e
  ·rename_i hl;cases e;exact lfc hl e' r
  ·rename_i hl;have hu:t.und A.length≠true:=λu=>hl (v4 (M1:=M1) (d+1) t l (by unfold jz;rw[if_neg hl];exact e) u);unfold qJ at e';rw[if_neg hu]at e';cases t with
   |tup ts=>
    obtain⟨ls,e1,rfl⟩:=wA.mp e;obtain⟨ts',e2,rfl⟩:=wA.mp e';unfold Rep at r;obtain⟨a,vs,rfl,q1,q2,q3⟩:=r;obtain⟨fp,p1,p2,p3⟩:=Ji ih e1 e2 q3;exact⟨fp,by unfold FP;exact⟨a,vs,rfl,hX a q1,q2,p1⟩,p2,p3⟩
   |cell n=>
    dsimp only at e e';split at e
    ·rename_i hn;obtain⟨ts,e0,e⟩:=wM.mp e;obtain⟨ls,e1,rfl⟩:=wA.mp e;rw[e0]at e';dsimp only[Option.bind_some]at e';obtain⟨ts',e2,rfl⟩:=wA.mp e';unfold Rep at r;obtain⟨a,ea,rfl⟩:=r;obtain⟨ts2,vs,g1,g2,g3⟩:=R.at_ n a ea;rw[e0]at g1;cases g1;obtain⟨fp,p1,p2,p3⟩:=Ji ih e1 e2 g3;have ea2:=ea;rw[wL hn]at ea2;refine⟨fp++[a],by unfold FP;exact⟨a,vs,fp,rfl,hB a (wZ ea2),g2,p1,rfl⟩,?_,λm hm=>?_⟩
     ·rw[vE,vE,p2];simp[ea]
     ·rcases wJ.mp hm with z|z
      ·exact p3 m z
      ·simp at z;omega
    ·cases e
   |v x=>cases e
   |ob o=>cases e
   |fz ts=>cases e
   |lst ts=>cases e
theorem Jo{X' Y:List Nat}(R:RelM gl (A++B) Y h M1)(hX:∀a∈X',a∈Y)(hA:∀a∈A,a∈X')(hc:(M1.take A.length).all (T.unds A.length)=true)(hg:∀(g:Nat) t,gl[g]?=some t->Rep A X' h t (.ref g)):RelM gl A X' h (M1.take A.length):=by
 have l:=R.len;rw[wY]at l;refine⟨by rw[wl];omega,(vH.mp R.nd).1,hA,λa ha=>R.lt a (hX a ha),λn a e=>?_,hg⟩;have hn:=(wC.mp e).1;obtain⟨ts,vs,e1,e2,e3⟩:=R.at_ n a (QN n a e);refine⟨ts,vs,by rw[wg hn];exact e1,e2,Qb (λn hn=>wB hn) hX ts e3 ?_⟩;rw[wc]at hc;refine hc ts (wZ (i:=n) ?_);rw[wg hn];exact e1
theorem W1{M:Mem}{n0 d:Nat}{t:T}{o:Ob}(h:qJ M n0 d t=some (.ob o)):t=.ob o:=by
 cases d with
 |zero=>
  unfold qJ at h;split at h
  ·cases h;rfl
  ·cases h
 |succ d=>
  unfold qJ at h;split at h
  ·cases h;rfl
  ·cases t with
   |lst ts=>cases hh:ts.mapM (qJ M n0 d)<;>simp[hh]at h
   |tup ts=>cases hh:ts.mapM (qJ M n0 d)<;>simp[hh]at h
   |cell n=>
    cases hm:M[n]? with
    |none=>simp[hm]at h
    |some ts=>cases hh:ts.mapM (qJ M n0 d)<;>simp[hm,hh]at h
   |_=>cases h
theorem D3(R0:RelM gl A X h M)(f:Frm A h h')(hB:∀b∈B,h.length<=b)(R:RelM gl (A++B) (X++B) h' M1){x:TB}{w:V}(q:QE gl (A++B) (X++B) h.length x w h' M1):Sim gl A X h (QE gl A X h.length) (finish M.length x M1) (.ok (w,h')):=by
 have hBX:∀b∈B,b∉X:=λb z y=>by have:=hB b z;have:=R0.lt b y;omega
 have hX:∀a,a∉X++B->a∉X:=λa x z=>x (wR _ z);have hg:∀{Z:List Nat},(∀a∈Z,h.length<=a)->∀(g:Nat) t,gl[g]?=some t->Rep A (X++Z) h' t (.ref g):=λhZ g t e=>zr (λ_ _ e=>e) (λa o x y=>⟨by
   rw[wJ];rintro(z|z)
   ·exact x z
   ·have:=hZ a z;have:=qO y;omega,(R0.keepN f a o x y).2⟩) t (R0.glo g t e)
 unfold finish;rw[<-R0.len];split
 ·rename_i hl;have hB0:B=[]:=by
   have:=R.len;rw[wY,hl]at this;exact wz.mp (by omega)
  subst hB0;rw[wb,wb]at R q;exact⟨w,h',rfl,f,R,q⟩
 split
 ·rename_i hc;refine tK λt' et=>?_;have R':RelM gl A X h' (M1.take A.length):=by
   have:=Jo (X':=X++[]) R (λa ha=>by simp at ha;exact wR _ ha) (λa ha=>by simp;exact R0.sub a ha) hc (hg λa ha=>by simp at ha);simpa using this
  refine⟨w,h',rfl,f,R',W9 R hBX 6 _ _ _ et q.1,λe=>?_⟩;rw[vw]at e;rcases e with e|e
  ·obtain⟨fp,p,nd,l,Rf,nw⟩:=q.2 e;cases Zd (qBu A.length _ p) et;have cr:∀{Z:List Nat},(∀a∈Z,h.length<=a)->RelM gl (A++B) (X++B++Z) h' M1->RelM gl A (X++Z) h' (M1.take A.length):=λ{Z} hZ q=>Jo q (λa ha=>by
    rcases wJ.mp ha with z|z
    ·exact wR _ (wR _ z)
    ·exact wV _ z) (λa ha=>wR _ (R0.sub a ha)) hc (hg hZ)
   exact⟨fp,JJ (λa o x y=>⟨hX a x,y⟩) _ p,nd,l,cr l Rf,λkvs e=>by
    obtain⟨a,q1,q2,q3⟩:=nw kvs e;exact⟨a,q1,q2,cr (λz hz=>by rw[wU.mp hz];exact q2) q3⟩⟩
  ·unfold frR at e;split at e
   ·rename_i l el;have ndl:l.Nodup:=by simpa using e
    obtain⟨fp,p,pm,pn⟩:=qA4 R hBX 6 _ _ _ _ el et q.1;have fB:∀a∈fp,a∈B:=λa ha=>by
     have:some a∈fp.map some:=List.mem_map_of_mem ha;rw[pm]at this;obtain⟨n,hn,en⟩:=vM.mp this;rw[wL (pn n hn)]at en;exact wZ en
    have nd:fp.Nodup:=by
     have:(fp.map some).Nodup:=by
      rw[pm];refine List.pairwise_map.mpr (List.Pairwise.imp_of_mem ?_ ndl);intro n m hn hm hnm e;have:(A++B)[n]?∈fp.map some:=by rw[pm];exact List.mem_map_of_mem hn
      obtain⟨a,_,ea⟩:=vM.mp this;exact hnm ((List.getElem?_inj (wC.mp ea.symm).1 R.nd).mp e)
     exact(List.pairwise_map.mp this).imp λ{a b} z e=>z (by rw[e])
    refine⟨fp,p,nd,λa ha=>hB a (fB a ha),Jo R (λa ha=>?_) (λa ha=>wR _ (R0.sub a ha)) hc (hg λa ha=>hB a (fB a ha)),λkvs e=>by have e:t'=.ob (.dct kvs):=e;subst e;rw[W1 et]at el;simp[jz,T.lf]at el⟩;rcases wJ.mp ha with z|z
    ·exact wR _ z
    ·exact wV _ (fB a z)
   ·cases e
 ·exact Sim.stuck
end
theorem qEW(gl:List T)(tb:List Fn)(Cs:List (List Nat)):∀(k f:Nat) (ts:List T) (ws:List V) (A X:List Nat) (h:AH) (M:Mem),RelM gl A X h M->qR A X h ts ws->Sim gl A X h (QE gl A X h.length) (Pk gl tb Cs k f ts M) (Fk tb k f ws h)
 | 0,f,ts,ws,A,X,h,M,R,rs=>Sim.stuck
 |k+1,f,ts,ws,A,X,h,M,R,rs=>by
  unfold Pk Fk;cases ed:tb[f]? with
  |none=>exact Sim.stuck
  |some d=>
   dsimp only;rw[<-qF (reps_iff.mp rs)];split
   ·have s:=E7 (Cs.getD f []) (qEW gl tb Cs k) d.body A X h M _ _ R (F7 (d.nslot-d.npar) rs);revert s;generalize pxs gl (Pk gl tb Cs k) (Cs.getD f []) d.body (ts.map some++List.replicate (d.nslot-d.npar) none) M=r;generalize exs (Fk tb k) d.body (ws.map some++List.replicate (d.nslot-d.npar) none) h=rh;intro s;cases r with
    |stuck=>exact Sim.stuck
    |exc c M1=>
     obtain⟨h',B,rfl,f1,hB,R1⟩:=s;show Sim gl A X h _ (if _ then _ else if _ then _ else _) _;split
     ·rename_i hl;have hB0:B=[]:=by
       have:=R1.len;rw[wY,hl,R.len]at this;exact wz.mp (by omega)
      subst hB0;rw[wb,wb]at R1;exact⟨h',rfl,f1,R1⟩
     split
     ·rename_i hc;refine⟨h',rfl,f1,?_⟩;rw[<-R.len]at hc ⊢;exact Jo R1 (λa ha=>wR _ ha) R.sub hc λg t e=>R.keep f1 (R.glo g t e)
     ·exact Sim.stuck
    |ok p=>
     obtain⟨o,M1⟩:=p;obtain⟨oh,h',B,rfl,f1,hB,R1,ro⟩:=s;rw[tH];cases o with
     |nx σ=>
      cases oh<;>first|exact ro.elim|skip
      have r:Rep (A++B) (X++B) h' (.v .non) .non:=by unfold Rep;exact⟨rfl,rfl⟩
      exact D3 R f1 hB R1 (show QE gl (A++B) (X++B) h.length (.v .non,true) .non h' M1 from⟨r,λ_=>Frs.of_lf R1 r rfl⟩)
     |rt t=>
      cases oh<;>first|exact ro.elim|skip
      exact D3 R f1 hB R1 ro
     |bk σ=>exact Sim.stuck
     |ct σ=>exact Sim.stuck
   ·exact Sim.stuck
noncomputable def glT(gs:List O):List T:=gs.map λo=>match o with | .tup xs=>.tup (xs.map .v) | .lst _ xs=>.fz (xs.map .v) | .ob _=>.v .non
noncomputable def qEE(gs:List O):Bool:=gs.all λo=>match o with | .tup xs=>xs.all flat|_=>false
theorem qDr{gs:List O}{tb:List Fn}{Cs:List (List Nat)}{k i:Nat}{ns:List Int}{b:Bool}{M':Mem}(hg:qEE gs=true)(e:Pk (glT gs) tb Cs k i [.fz (ns.map λn=>.v (.int n))] []=.ok ((.v (.bl true),b),M')):
  ∃h',Fk tb k i [.ref gs.length] (gs++[.lst true (ns.map V.int)])=.ok (.bl true,h'):=by
 have R:RelM (glT gs) [] [] (gs++[.lst true (ns.map V.int)]) []:=by
  refine⟨rfl,vi,λa ha=>by simp at ha,λa ha=>by simp at ha,λn a e=>by simp at e,λg t eg=>?_⟩;unfold glT at eg;rw[vB]at eg;obtain⟨o,eo,rfl⟩:=wA.mp eg;unfold qEE at hg;rw[wc]at hg;have ho:=hg o (wZ eo);cases o with
  |lst _ _=>cases ho
  |ob _=>cases ho
  |tup xs=>
   dsimp only;unfold Rep;exact⟨g,xs,rfl,by simp,by rw[wB (wC.mp eo).1];exact eo,Qc ho⟩
 have rs:qR [] [] (gs++[O.lst true (ns.map V.int)]) [.fz (ns.map λn=>.v (.int n))] [.ref gs.length]:=by
  unfold qR;refine⟨_,[],rfl,?_,by unfold qR;rfl⟩;unfold Rep;refine⟨gs.length,ns.map V.int,rfl,by simp,by simp,?_⟩;have:ns.map (λn=>T.v (.int n))=(ns.map V.int).map .v:=by rw[vQ];rfl
  rw[this];exact Qc (by simp[flat])
 have s:=qEW (glT gs) tb Cs k i _ _ [] [] _ [] R rs;rw[e]at s;obtain⟨w,h',e1,_,_,q⟩:=s;cases zd q.1;exact⟨h',e1⟩
noncomputable def qFy(t:T):Option TB:=match t with | .v (.int i)=>some (iT (-i))|_=>none
noncomputable def qDf(M:Mem)(p k x:T):Option Mem:=match p,k with
 | .cell n,.v (.int j)=>(M[n]?).bind λxs=>(_L.ixN xs.length j).map λj=>M.set n (xs.set j x)
 |_,_=>none
noncomputable def Y9(M:Mem)(n:Nat)(x:T):Option Mem:=(M[n]?).bind λxs=>if xs.length<lim then some (M.set n (xs++[x])) else none
noncomputable def u6(t:T):Option (List T):=match t with | .v (.int j)=>if -1000000<=j/\j<=100000 then some (zA 0 j.toNat) else none|_=>none
noncomputable def qC3(t:T):Option (List T):=match t with | .v (.int j)=>if -1000000<=j/\j<=1000000 then some (zA 0 j.toNat) else none|_=>none
noncomputable def qCB(s t:T):Option (List T):=match s,t with | .v (.int i),.v (.int j)=>if (-1000000<=i/\i<=1000000)/\-1000000<=j/\j<=1000000 then some (zA i (j-i).toNat) else none|_,_=>none
section
variable{gl:List T}{P:Nat->List T->Mem->PR (TB×Mem)}{C:List Nat}{σ:TS}{M:Mem}{a b c e:E}{as lo hi:Es}
@[simp] theorem pe_var(i:Nat):pe gl P (.var i) σ M=match σ[i]? with|some (some t)=>.ok ((t,t.lf),M)|_=>.stuck:=Eq.trans rfl rfl
@[simp] theorem pe_int(i:Int):pe gl P (.cst (.int i)) σ M=.ok (iT i,M):=Eq.trans rfl rfl
@[simp] theorem pe_bl(i:Bool):pe gl P (.cst (.bl i)) σ M=.ok (bT i,M):=Eq.trans rfl rfl
@[simp] theorem pe_non:pe gl P (.cst .non) σ M=.ok ((.v .non,true),M):=Eq.trans rfl rfl
@[simp] theorem pe_str(s:PySem.Str):pe gl P (.cst (.str s)) σ M=.ok ((.v (.str s),true),M):=Eq.trans rfl rfl
@[simp] theorem pe_glob(g:Nat):pe gl P (.glob g) σ M=match gl[g]? with|some t=>.ok ((t,t.lf),M)|none=>.stuck:=Eq.trans rfl rfl
@[simp] theorem qEB(op:BOp):pe gl P (.bin op a b) σ M=(pe gl P a σ M).bind λp=>(pe gl P b σ p.2).bind λq=>(tJ (qx q.2 op p.1.1 q.1.1)).bind λr=>.ok (r,q.2):=Eq.trans rfl rfl
@[simp] theorem qHV:pe gl P (.neg a) σ M=(pe gl P a σ M).bind λp=>(tJ (qFy p.1.1)).bind λr=>.ok (r,p.2):=by
 show PR.bind _ _=_;dsimp only;congr 1;funext p;obtain⟨⟨p1,p3⟩,p2⟩:=p;dsimp only;unfold qFy;cases p1<;>first|rfl|skip
 rename_i x;cases x<;>rfl
@[simp] theorem qBs(op:COp):pe gl P (.cmp op a b) σ M=(pe gl P a σ M).bind λp=>(pe gl P b σ p.2).bind λq=>(tJ (qa q.2 op p.1.1 q.1.1)).bind λr=>.ok (bT r,q.2):=Eq.trans rfl rfl
@[simp] theorem qGz(o1 o2:COp):pe gl P (.cmp2 o1 o2 a b c) σ M=(pe gl P a σ M).bind λp=>(pe gl P b σ p.2).bind λq=>(tJ (qa q.2 o1 p.1.1 q.1.1)).bind λr=>
  if r=true then (pe gl P c σ q.2).bind λz=>(tJ (qa z.2 o2 q.1.1 z.1.1)).bind λr=>.ok (bT r,z.2) else .ok (bT false,q.2):=Eq.trans rfl rfl
@[simp] theorem pe_and:pe gl P (.and a b) σ M=(pB (pe gl P a σ M)).bind λp=>if p.1=true then pe gl P b σ p.2 else .ok (bT false,p.2):=Eq.trans rfl rfl
@[simp] theorem pe_or:pe gl P (.or a b) σ M=(pB (pe gl P a σ M)).bind λp=>if p.1=true then .ok (bT true,p.2) else pe gl P b σ p.2:=Eq.trans rfl rfl
@[simp] theorem pe_not:pe gl P (.not a) σ M=(pB (pe gl P a σ M)).bind λp=>.ok (bT (!p.1),p.2):=Eq.trans rfl rfl
@[simp] theorem qEk:pe gl P (.ite c a b) σ M=(pB (pe gl P c σ M)).bind λp=>if p.1=true then pe gl P a σ p.2 else pe gl P b σ p.2:=Eq.trans rfl rfl
@[simp] theorem pe_call(f:Nat):pe gl P (.call f as) σ M=(pes gl P as σ M).bind λp=>(P f (p.1.map (·.1)) p.2).nx:=Eq.trans rfl rfl
@[simp] theorem qEH(f:BF):pe gl P (.blt f as) σ M=(pes gl P as σ M).bind λp=>(tJ (jE p.2 f (p.1.map (·.1)))).bind λr=>.ok (r,p.2):=Eq.trans rfl rfl
@[simp] theorem qDx(ts:List String):pe gl P (.isi a ts) σ M=(pe gl P a σ M).bind λp=>(tJ (zt p.2 p.1.1)).bind λt=>.ok (bT (ts.any (je t)),p.2):=Eq.trans rfl rfl
@[simp] theorem qEo:pe gl P (.idx a b) σ M=(pe gl P a σ M).bind λp=>(pe gl P b σ p.2).bind λq=>(tJ (jl q.2 p.1.1 q.1.1)).bind λr=>.ok (r,q.2):=Eq.trans rfl rfl
@[simp] theorem qGS:pe gl P (.sl a lo hi) σ M=(pe gl P a σ M).bind λp=>(pes gl P lo σ p.2).bind λl=>(pes gl P hi σ l.2).bind λu=>
  (tJ (p.1.1.its u.2)).bind λxs=>(tJ (qi (l.1.map (·.1)))).bind λi=>(tJ (qi (u.1.map (·.1)))).bind λj=>(tJ (Jd p.1.1 xs i.head? j.head?)).bind λr=>.ok (r,u.2):=Eq.trans rfl rfl
@[simp] theorem qEX:pe gl P (.rev a) σ M=(pe gl P a σ M).bind λp=>(tJ (p.1.1.lis p.2)).bind λxs=>.ok (lT xs.reverse,p.2):=Eq.trans rfl rfl
@[simp] theorem pe_lst:pe gl P (.lst as) σ M=(pes gl P as σ M).bind λp=>if p.1.length<=lim then .ok ((.lst (p.1.map (·.1)),p.1.all (·.2)),p.2) else .stuck:=Eq.trans rfl rfl
@[simp] theorem pe_tup:pe gl P (.tup as) σ M=(pes gl P as σ M).bind λp=>if p.1.length<=lim then .ok ((.tup (p.1.map (·.1)),p.1.all (·.2)),p.2) else .stuck:=Eq.trans rfl rfl
@[simp] theorem pe_comp(it:Itr)(src:List (Option Nat))(g:Tg)(c:Es):pe gl P (.comp it src g c e) σ M=(pei gl P it σ M).bind λp=>qg p.1.2 g (pec gl P c) (pe gl P e) p.1.1 [] true (jb src σ) p.2:=Eq.trans rfl rfl
@[simp] theorem qEF:pe gl P (.app a b) σ M=(pe gl P a σ M).bind λp=>match p.1.1 with
  | .cell n=>(pe gl P b σ p.2).bind λq=>(tJ (Y9 q.2 n q.1.1)).bind λM'=>.ok ((.v .non,true),M')
  |_=>.stuck:=by
 show PR.bind _ _=_;dsimp only;congr 1;funext p;obtain⟨⟨p1,p3⟩,p2⟩:=p;dsimp only;cases p1<;>dsimp only;congr 1;funext q;obtain⟨⟨q1,q3⟩,q2⟩:=q;dsimp only;unfold Y9;rename_i n;cases h:q2[n]? with
 |none=>rfl
 |some xs=>
  dsimp only[Option.bind_some];split<;>rfl
theorem qCZ:pe gl P (.sset a) σ M=(pe gl P a σ M).bind λp=>(tJ ((p.1.1.lis p.2).bind qi)).bind λis=>if is.length<64 then .ok ((.lst ((jy (uniq is)).map λi=>.v (.int i)),true),p.2) else .stuck:=by
 show PR.bind _ _=_;dsimp only;congr 1;funext p;obtain⟨⟨p1,p3⟩,p2⟩:=p;dsimp only;cases (p1.lis p2).bind qi<;>rfl
@[simp] theorem qCJ:pe gl P (.lrng a) σ M=(pe gl P a σ M).bind λp=>(tJ (u6 p.1.1)).bind λxs=>.ok ((.lst xs,true),p.2):=by
 show PR.bind _ _=_;dsimp only;congr 1;funext p;obtain⟨⟨p1,p3⟩,p2⟩:=p;dsimp only;unfold u6;cases p1<;>first|rfl|skip
 rename_i x;cases x<;>first|rfl|skip
 dsimp only;split<;>rfl
@[simp] theorem qGq(m:Mt):pe gl P (.meth m a as) σ M=(pe gl P a σ M).bind λp=>match p.1.1 with
  | .cell n=>(pes gl P as σ p.2).bind λq=>tJ (y6 m n (q.1.map (·.1)) q.2)
  |_=>.stuck:=Eq.trans rfl rfl
@[simp] theorem qGc:pe gl P .dnew σ M=.ok ((.ob (.dct []),true),M):=Eq.trans rfl rfl
@[simp] theorem qF6:pes gl P .nil σ M=.ok ([],M):=Eq.trans rfl rfl
@[simp] theorem qAs:pes gl P (.cons a as) σ M=(pe gl P a σ M).bind λp=>(pes gl P as σ p.2).bind λq=>.ok (p.1::q.1,q.2):=Eq.trans rfl rfl
@[simp] theorem Qy:pec gl P .nil σ M=.ok (true,M):=Eq.trans rfl rfl
@[simp] theorem ZS:pec gl P (.cons a as) σ M=pB (pe gl P a σ M):=Eq.trans rfl rfl
@[simp] theorem qAY:pei gl P (.list a) σ M=(pe gl P a σ M).bind λp=>(tJ (A9 p.2 p.1.1)).bind λs=>.ok (s,p.2):=Eq.trans rfl rfl
@[simp] theorem qAr:pei gl P (.rng1 a) σ M=(pe gl P a σ M).bind λp=>(tJ (qC3 p.1.1)).bind λxs=>.ok ((xs,[]),p.2):=by
 show PR.bind _ _=_;dsimp only;congr 1;funext p;obtain⟨⟨p1,p3⟩,p2⟩:=p;dsimp only;unfold qC3;cases p1<;>first|rfl|skip
 rename_i x;cases x<;>first|rfl|skip
 dsimp only;split<;>rfl
@[simp] theorem qFw:pei gl P (.rng2 a b) σ M=(pe gl P a σ M).bind λp=>(pe gl P b σ p.2).bind λq=>(tJ (qCB p.1.1 q.1.1)).bind λxs=>.ok ((xs,[]),q.2):=by
 show PR.bind _ _=_;dsimp only;congr 1;funext p;congr 1;funext q;obtain⟨⟨p1,p3⟩,p2⟩:=p;obtain⟨⟨q1,q3⟩,q2⟩:=q;dsimp only;unfold qCB;cases p1<;>first|rfl|skip
 rename_i x;cases x<;>first|rfl|skip
 cases q1<;>first|rfl|skip
 rename_i y;cases y<;>first|rfl|skip
 dsimp only;split<;>rfl
@[simp] theorem qG0:pei gl P (.zip a b) σ M=(pe gl P a σ M).bind λp=>(pe gl P b σ p.2).bind λq=>(tJ (qAT q.2 p.1.1)).bind λs=>(tJ (qAT q.2 q.1.1)).bind λt=>
  .ok ((List.zipWith (λa b=>T.tup [a,b]) s.1 t.1,s.2++t.2),q.2):=Eq.trans rfl rfl
variable{s:S}{r t u:Ss}
@[simp] theorem N0(i:Nat):px gl P C (.asg (.name i) e) σ M=(pe gl P e σ M).bind λp=>if (C.contains i&&p.1.2)=true then .ok (.nx (σ.set i (some (thaw p.2.length p.1.1).1)),p.2++(thaw p.2.length p.1.1).2) else if (C.contains (i+1000)&&qDb e)=true then (match p.1.1 with | .lst ts=>.ok (.nx (σ.set i (some (.cell p.2.length))),p.2++[ts])|_=>.stuck) else .ok (.nx (σ.set i (some p.1.1)),p.2):=Eq.trans rfl rfl
@[simp] theorem qDz(is:List Nat):px gl P C (.asg (.tup is) e) σ M=(pe gl P e σ M).bind λp=>match zv (.tup is) p.1.1 σ with|some σ1=>.ok (.nx σ1,p.2)|none=>.stuck:=Eq.trans rfl rfl
@[simp] theorem qFH{o i v:E}:px gl P C (.put o i v) σ M=(pe gl P v σ M).bind λx=>(pe gl P o σ x.2).bind λp=>(pe gl P i σ p.2).bind λk=>(tJ (qDf k.2 p.1.1 k.1.1 x.1.1)).bind λM'=>.ok (.nx σ,M'):=by
 show PR.bind _ _=_;dsimp only;congr 1;funext x;congr 1;funext p;congr 1;funext k;obtain⟨⟨k1,k3⟩,k2⟩:=k;obtain⟨⟨p1,p3⟩,p2⟩:=p;dsimp only;unfold qDf;cases p1<;>first|rfl|skip
 rename_i n;cases k1<;>first|rfl|skip
 rename_i y;cases y<;>first|rfl|skip
 rename_i j;dsimp only;cases h:k2[n]? with
 |none=>rfl
 |some xs=>
  dsimp only[Option.bind_some];have hj:_P.ixN xs.length j=_L.ixN xs.length j:=rfl;rw[hj];cases _L.ixN xs.length j with
  |none=>rfl
  |some j=>rfl
@[simp] theorem a9:px gl P C (.expr e) σ M=(pe gl P e σ M).bind λp=>.ok (.nx σ,p.2):=Eq.trans rfl rfl
@[simp] theorem qDs:px gl P C (.ret e) σ M=(pe gl P e σ M).bind λp=>.ok (.rt p.1,p.2):=Eq.trans rfl rfl
@[simp] theorem qEP:px gl P C (.ifs c t u) σ M=(pB (pe gl P c σ M)).bind λp=>if p.1=true then pxs gl P C t σ p.2 else pxs gl P C u σ p.2:=Eq.trans rfl rfl
@[simp] theorem qDw(g:Tg)(it:Itr):px gl P C (.for_ g it t) σ M=(pei gl P it σ M).bind λp=>jJ p.1.2 g (pxs gl P C t) p.1.1 σ p.2:=Eq.trans rfl rfl
@[simp] theorem qGv:px gl P C .stop σ M=.stuck:=Eq.trans rfl rfl
@[simp] theorem qHD:pxs gl P C .nil σ M=.ok (.nx σ,M):=Eq.trans rfl rfl
@[simp] theorem zN:pxs gl P C (.cons s r) σ M=(px gl P C s σ M).bind λp=>match p.1 with
  | .nx σ1=>pxs gl P C r σ1 p.2
  |o=>.ok (o,p.2):=Eq.trans rfl rfl
@[simp] theorem qG3(x:Bool):pB (.ok (bT x,M))=.ok (x,M):=Eq.trans rfl rfl
@[simp] theorem qI9(x f:Bool):pB (.ok ((T.v (.bl x),f),M))=.ok (x,M):=Eq.trans rfl rfl
@[simp] theorem qFm:pB .stuck=.stuck:=Eq.trans rfl rfl
@[simp] theorem qFs{α β:Type}(c:Nat)(M:Mem)(f:α->PR β):(PR.exc c M:PR α).bind f=.exc c M:=Eq.trans rfl rfl
end
@[simp] theorem qJC(x:V):T.lf (.v x)=true:=by rw[T.lf]
@[simp] theorem qCn(n:Nat):T.lf (.cell n)=false:=by rw[T.lf]<;>simp
@[simp] theorem qHU(xs:List T):T.lf (.lst xs)=false:=by rw[T.lf]<;>simp
@[simp] theorem qH0(xs:List T):T.lf (.tup xs)=T.lfs xs:=by rw[T.lf]
@[simp] theorem qGd:T.lfs []=true:=by rw[T.lfs]
@[simp] theorem qAq(x:T)(xs:List T):T.lfs (x::xs)=(x.lf&&T.lfs xs):=by rw[T.lfs]
@[simp] theorem iT1(i:Int):(iT i).1=.v (.int i):=rfl
@[simp] theorem iT2(i:Int):(iT i).2=true:=rfl
@[simp] theorem bT1(i:Bool):(bT i).1=.v (.bl i):=rfl
@[simp] theorem bT2(i:Bool):(bT i).2=true:=rfl
@[simp] theorem lT1(xs:List T):(lT xs).1=.lst xs:=rfl
@[simp] theorem lT2(xs:List T):(lT xs).2=T.lfs xs:=rfl
@[simp] theorem qIJ(x:V):T.isV (.v x)=some x:=rfl
@[simp] theorem qGb(x:List T):T.isV (.lst x)=none:=rfl
@[simp] theorem qGB(x:List T):T.isV (.tup x)=none:=rfl
@[simp] theorem qFk(x:Nat):T.isV (.cell x)=none:=rfl
section
variable{M:Mem}(i j:Int) (xs ys:List T)
@[simp] theorem qHZ:qx M .add (.v (.int i)) (.v (.int j))=some (iT (i+j)):=rfl
@[simp] theorem qFP:qx M .sub (.v (.int i)) (.v (.int j))=some (iT (i-j)):=rfl
@[simp] theorem qCS:qx M .band (.v (.int i)) (.v (.int j))=some (iT (PySem.Builtin.bitAnd i j)):=rfl
theorem qEe{i j:Int}(h:(-18446744073709551616<i/\i<18446744073709551616)\/(-18446744073709551616<j/\j<18446744073709551616)):qx M .mul (.v (.int i)) (.v (.int j))=some (iT (i*j)):=by
 show (if (ZK i||ZK j||(mid i&&mid j))=true then _ else _)=_;rw[if_pos];rcases h with h|h
 ·have:ZK i=true:=by unfold ZK two64;exact uS h
  rw[this];rfl
 ·have:ZK j=true:=by unfold ZK two64;exact uS h
  rw[this,uN];rfl
theorem qB9{i j:Int}(h:0<j/\j<1073741824):qx M .fdiv (.v (.int i)) (.v (.int j))=some (iT (i / j)):=by
 show (if 0<j/\(j<1073741824\/mid j=true) then _ else _)=_;rw[if_pos ⟨h.1,.inl h.2⟩]
theorem qDl{i j:Int}(h:0<j):qx M .mod (.v (.int i)) (.v (.int j))=some (iT (i % j)):=by
 show (if 0<j then _ else _)=_;rw[if_pos h]
theorem qFA{i j:Int}(h:0<=j/\j<=1000/\i.natAbs<18446744073709551616):qx M .pow (.v (.int i)) (.v (.int j))=some (iT (i ^ j.toNat)):=by
 show (if 0<=j/\j<=1000/\i.natAbs<18446744073709551616 then _ else _)=_;rw[if_pos h]
theorem R6{xs ys:List T}(h:xs.length+ys.length<=lim):qx M .add (.lst xs) (.lst ys)=some (lT (xs++ys)):=by
 show (if xs.length+ys.length<=lim then _ else _)=_;rw[if_pos h]
theorem qBa{xs ys:List T}(h:xs≠[]/\xs.length+ys.length<=lim):qx M .add (.tup xs) (.tup ys)=some (.tup (xs++ys),T.lfs (xs++ys)):=by
 show (if xs≠[]/\xs.length+ys.length<=lim then _ else _)=_;rw[if_pos h]
@[simp] theorem qHF:qa M .lt (.v (.int i)) (.v (.int j))=some (decide (i<j)):=rfl
@[simp] theorem qGK:qa M .le (.v (.int i)) (.v (.int j))=some (decide (i<=j)):=rfl
@[simp] theorem qGR:qa M .gt (.v (.int i)) (.v (.int j))=some (decide (j<i)):=rfl
@[simp] theorem qGH:qa M .ge (.v (.int i)) (.v (.int j))=some (decide (j<=i)):=rfl
@[simp] theorem qHA:qa M .eq (.v (.int i)) (.v (.int j))=some (decide (i=j)):=by
 show some (i==j)=_;congr 1
@[simp] theorem qHW:jE M .list [.lst xs]=some (lT xs):=rfl
@[simp] theorem qHL:jE M .list [.tup xs]=some (lT xs):=rfl
@[simp] theorem qBm:jE M .max [.v (.int i),.v (.int j)]=some (iT (if j>i then j else i)):=rfl
@[simp] theorem qE2:jE M .min [.v (.int i),.v (.int j)]=some (iT (if j<i then j else i)):=rfl
@[simp] theorem qIT:jE M .int [.v (.int i)]=some (iT i):=rfl
@[simp] theorem qIx:zt M (.v (.int i))=some "int":=rfl
@[simp] theorem qI3(b:Bool):zt M (.v (.bl b))=some "bool":=rfl
@[simp] theorem qJE:zt M (.lst xs)=some "list":=rfl
@[simp] theorem qJB:zt M (.tup xs)=some "tuple":=rfl
@[simp] theorem qJD(kvs:List (Int×V)):zt M (.ob (.dct kvs))=some "dict":=rfl
@[simp] theorem qIz:zt M (.v .non)=some "NoneType":=rfl
@[simp] theorem qHi:A9 M (.lst xs)=some (xs,[]):=rfl
@[simp] theorem qHw:A9 M (.tup xs)=some (xs,[]):=rfl
@[simp] theorem qHx:A9 M (.fz xs)=some (xs,[]):=rfl
@[simp] theorem qHh:qAT M (.lst xs)=some (xs,[]):=rfl
end
@[simp] theorem lk0{α:Type}(x0:α)(l:List α):(x0::l)[0]?=some x0:=rfl
@[simp] theorem st0{α:Type}(x0 y:α)(l:List α):(x0::l).set 0 y=y::l:=rfl
@[simp] theorem lk1{α:Type}(x0 x1:α)(l:List α):(x0::x1::l)[1]?=some x1:=rfl
@[simp] theorem st1{α:Type}(x0 x1 y:α)(l:List α):(x0::x1::l).set 1 y=x0::y::l:=rfl
@[simp] theorem lk2{α:Type}(x0 x1 x2:α)(l:List α):(x0::x1::x2::l)[2]?=some x2:=rfl
@[simp] theorem st2{α:Type}(x0 x1 x2 y:α)(l:List α):(x0::x1::x2::l).set 2 y=x0::x1::y::l:=rfl
@[simp] theorem lk3{α:Type}(x0 x1 x2 x3:α)(l:List α):(x0::x1::x2::x3::l)[3]?=some x3:=rfl
@[simp] theorem st3{α:Type}(x0 x1 x2 x3 y:α)(l:List α):(x0::x1::x2::x3::l).set 3 y=x0::x1::x2::y::l:=rfl
@[simp] theorem lk4{α:Type}(x0 x1 x2 x3 x4:α)(l:List α):(x0::x1::x2::x3::x4::l)[4]?=some x4:=rfl
@[simp] theorem st4{α:Type}(x0 x1 x2 x3 x4 y:α)(l:List α):(x0::x1::x2::x3::x4::l).set 4 y=x0::x1::x2::x3::y::l:=rfl
@[simp] theorem lk5{α:Type}(x0 x1 x2 x3 x4 x5:α)(l:List α):(x0::x1::x2::x3::x4::x5::l)[5]?=some x5:=rfl
@[simp] theorem st5{α:Type}(x0 x1 x2 x3 x4 x5 y:α)(l:List α):(x0::x1::x2::x3::x4::x5::l).set 5 y=x0::x1::x2::x3::x4::y::l:=rfl
@[simp] theorem lk6{α:Type}(x0 x1 x2 x3 x4 x5 x6:α)(l:List α):(x0::x1::x2::x3::x4::x5::x6::l)[6]?=some x6:=rfl
@[simp] theorem st6{α:Type}(x0 x1 x2 x3 x4 x5 x6 y:α)(l:List α):(x0::x1::x2::x3::x4::x5::x6::l).set 6 y=x0::x1::x2::x3::x4::x5::y::l:=rfl
@[simp] theorem lk7{α:Type}(x0 x1 x2 x3 x4 x5 x6 x7:α)(l:List α):(x0::x1::x2::x3::x4::x5::x6::x7::l)[7]?=some x7:=rfl
@[simp] theorem st7{α:Type}(x0 x1 x2 x3 x4 x5 x6 x7 y:α)(l:List α):(x0::x1::x2::x3::x4::x5::x6::x7::l).set 7 y=x0::x1::x2::x3::x4::x5::x6::y::l:=rfl
@[simp] theorem lk8{α:Type}(x0 x1 x2 x3 x4 x5 x6 x7 x8:α)(l:List α):(x0::x1::x2::x3::x4::x5::x6::x7::x8::l)[8]?=some x8:=rfl
@[simp] theorem st8{α:Type}(x0 x1 x2 x3 x4 x5 x6 x7 x8 y:α)(l:List α):(x0::x1::x2::x3::x4::x5::x6::x7::x8::l).set 8 y=x0::x1::x2::x3::x4::x5::x6::x7::y::l:=rfl
@[simp] theorem lk9{α:Type}(x0 x1 x2 x3 x4 x5 x6 x7 x8 x9:α)(l:List α):(x0::x1::x2::x3::x4::x5::x6::x7::x8::x9::l)[9]?=some x9:=rfl
@[simp] theorem st9{α:Type}(x0 x1 x2 x3 x4 x5 x6 x7 x8 x9 y:α)(l:List α):(x0::x1::x2::x3::x4::x5::x6::x7::x8::x9::l).set 9 y=x0::x1::x2::x3::x4::x5::x6::x7::x8::y::l:=rfl
@[simp] theorem qJA{α:Type}(x0 x1 x2 x3 x4 x5 x6 x7 x8 x9 x10:α)(l:List α):(x0::x1::x2::x3::x4::x5::x6::x7::x8::x9::x10::l)[10]?=some x10:=rfl
@[simp] theorem qIw{α:Type}(x0 x1 x2 x3 x4 x5 x6 x7 x8 x9 x10 y:α)(l:List α):(x0::x1::x2::x3::x4::x5::x6::x7::x8::x9::x10::l).set 10 y=x0::x1::x2::x3::x4::x5::x6::x7::x8::x9::y::l:=rfl
@[simp] theorem qI8{α:Type}(x0 x1 x2 x3 x4 x5 x6 x7 x8 x9 x10 x11:α)(l:List α):(x0::x1::x2::x3::x4::x5::x6::x7::x8::x9::x10::x11::l)[11]?=some x11:=rfl
@[simp] theorem qIy{α:Type}(x0 x1 x2 x3 x4 x5 x6 x7 x8 x9 x10 x11 y:α)(l:List α):(x0::x1::x2::x3::x4::x5::x6::x7::x8::x9::x10::x11::l).set 11 y=x0::x1::x2::x3::x4::x5::x6::x7::x8::x9::x10::y::l:=rfl
@[simp] theorem qI7{α:Type}(x0 x1 x2 x3 x4 x5 x6 x7 x8 x9 x10 x11 x12:α)(l:List α):(x0::x1::x2::x3::x4::x5::x6::x7::x8::x9::x10::x11::x12::l)[12]?=some x12:=rfl
@[simp] theorem qJG{α:Type}(x0 x1 x2 x3 x4 x5 x6 x7 x8 x9 x10 x11 x12 y:α)(l:List α):(x0::x1::x2::x3::x4::x5::x6::x7::x8::x9::x10::x11::x12::l).set 12 y=x0::x1::x2::x3::x4::x5::x6::x7::x8::x9::x10::x11::y::l:=rfl
@[simp] theorem qI1{α:Type}(x0 x1 x2 x3 x4 x5 x6 x7 x8 x9 x10 x11 x12 x13:α)(l:List α):(x0::x1::x2::x3::x4::x5::x6::x7::x8::x9::x10::x11::x12::x13::l)[13]?=some x13:=rfl
@[simp] theorem qI6{α:Type}(x0 x1 x2 x3 x4 x5 x6 x7 x8 x9 x10 x11 x12 x13 y:α)(l:List α):(x0::x1::x2::x3::x4::x5::x6::x7::x8::x9::x10::x11::x12::x13::l).set 13 y=x0::x1::x2::x3::x4::x5::x6::x7::x8::x9::x10::x11::x12::y::l:=rfl
@[simp] theorem qI5{α:Type}(x0 x1 x2 x3 x4 x5 x6 x7 x8 x9 x10 x11 x12 x13 x14:α)(l:List α):(x0::x1::x2::x3::x4::x5::x6::x7::x8::x9::x10::x11::x12::x13::x14::l)[14]?=some x14:=rfl
@[simp] theorem qIv{α:Type}(x0 x1 x2 x3 x4 x5 x6 x7 x8 x9 x10 x11 x12 x13 x14 y:α)(l:List α):(x0::x1::x2::x3::x4::x5::x6::x7::x8::x9::x10::x11::x12::x13::x14::l).set 14 y=x0::x1::x2::x3::x4::x5::x6::x7::x8::x9::x10::x11::x12::x13::y::l:=rfl
@[simp] theorem qI4{α:Type}(x0 x1 x2 x3 x4 x5 x6 x7 x8 x9 x10 x11 x12 x13 x14 x15:α)(l:List α):(x0::x1::x2::x3::x4::x5::x6::x7::x8::x9::x10::x11::x12::x13::x14::x15::l)[15]?=some x15:=rfl
@[simp] theorem qJF{α:Type}(x0 x1 x2 x3 x4 x5 x6 x7 x8 x9 x10 x11 x12 x13 x14 x15 y:α)(l:List α):(x0::x1::x2::x3::x4::x5::x6::x7::x8::x9::x10::x11::x12::x13::x14::x15::l).set 15 y=x0::x1::x2::x3::x4::x5::x6::x7::x8::x9::x10::x11::x12::x13::x14::y::l:=rfl
theorem qS{gl:List T}{tb:List Fn}{Cs:List (List Nat)}{k f:Nat}{vs:List T}{M:Mem}{np ns:Nat}{b:Ss}(ht:tb[f]?=some ⟨np,ns,b⟩)(hl:vs.length=np/\np<=ns)(hk:1<=k):
  Pk gl tb Cs k f vs M=jp M.length (pxs gl (Pk gl tb Cs (k-1)) (Cs.getD f []) b (vs.map some++List.replicate (ns-np) none) M):=by
 obtain⟨k,rfl⟩:∃j,k=j+1:=⟨k-1,by omega⟩
 rw[Pk,ht];dsimp only;rw[if_pos hl];rfl
theorem qA{M M1:Mem}{t:TB}(h:M1.length=M.length):jp M.length (.ok (.rt t,M1))=.ok (t,M1):=by
 show finish M.length t M1=_;unfold finish;rw[if_pos h]
theorem Js{M M1:Mem}{σ:TS}(h:M1.length=M.length):jp M.length (.ok (.nx σ,M1))=.ok ((.v .non,true),M1):=by
 show finish M.length _ M1=_;unfold finish;rw[if_pos h]
noncomputable def N(n:Nat):T:=.v (.int (n:Int))
noncomputable def NL(L:List Nat):T:=.lst (L.map N)
theorem m7(n:Nat):zA 0 n=(List.range n).map N:=by
 unfold zA N;simp
theorem JE(L:List Nat):T.lfs (L.map N)=true:=by
 induction L with
 |nil=>rfl
 |cons x L ih=>rw[List.map_cons,qAq,ih];rfl
theorem qHu(n:Nat):(N n).lf=true:=by unfold N;rfl
theorem B1:∀L:List Nat,jn (L.map N)=some (L.map λ(n:Nat)=>V.int (n:Int))
 | []=>rfl
 |x::L=>by
  show (jn (L.map N)).map _=_;rw[B1 L];rfl
theorem qAQ{M:Mem}(n:Nat)(L:List Nat):qa M .inn (N n) (NL L)=some (decide (n∈L)):=by
 show ((jn (L.map N)).map λxs=>xs.any λz=>_L.eqV z (.int (n:Int)))=_;rw[B1,Option.map_some,List.any_map];congr 1;rw[wk];simp only[uH,Function.comp,uT];constructor
 ·rintro⟨x,hx,e⟩;have:x=n:=by
   have e':((x:Int)==(n:Int))=true:=e;rw[beq_iff_eq]at e';omega
  rwa [<-this]
 ·intro h;refine⟨n,h,?_⟩;show ((n:Int)==(n:Int))=true;rw[uW]
theorem Qn{M:Mem}(n:Nat)(L:List Nat):qa M .notin (N n) (NL L)=some (!decide (n∈L)):=by
 have:=qAQ (M:=M) n L;show (inT M (N n) (NL L)).map (!·)=_;rw[show inT M (N n) (NL L)=some (decide (n∈L)) from this];rfl
theorem T8{M:Mem}{d:Nat}:∀(L K:List Nat),L.length=K.length->jS (eqT M d) (L.map N) (K.map N)=some (List.zipWith (λ(a b:Nat)=>decide (a=b)) L K)
 | [],[],_=>rfl
 | [],_::_,h=>by simp at h
 |_::_,[],h=>by simp at h
 |a::L,b::K,h=>by
  have e:eqT M d (N a) (N b)=some (decide (a=b)):=by
   have:eqF (.int (a:Int)) (.int (b:Int))=some (decide (a=b)):=by
    show some ((a:Int)==(b:Int))=_;congr 1;rw[wk,beq_iff_eq,uT];omega
   cases d<;>(unfold eqT;exact this)
  rw[List.map_cons,List.map_cons,jS,e,T8 L K (by simpa using h)];rfl
theorem qAE:∀(L K:List Nat),L.length=K.length->((List.zipWith (λ(a b:Nat)=>decide (a=b)) L K).all id=decide (L=K))
 | [],[],_=>rfl
 | [],_::_,h=>by simp at h
 |_::_,[],h=>by simp at h
 |a::L,b::K,h=>by
  rw[List.zipWith_cons_cons,List.all_cons,qAE L K (by simpa using h)];by_cases h1:a=b<;>by_cases h2:L=K<;>simp[h1,h2]
theorem qEC{M:Mem}{d:Nat}(L K:List Nat):eqT M (d+1) (NL L) (NL K)=some (decide (L=K)):=by
 unfold eqT;show (if (L.map N).length=(K.map N).length then (jS (eqT M d) (L.map N) (K.map N)).map (λbs=>bs.all id) else some false)=_;rw[wQ,wQ];by_cases h:L.length=K.length
 ·rw[if_pos h,T8 L K h,Option.map_some,qAE L K h]
 ·rw[if_neg h];congr 1;symm;exact uR (λe=>h (by rw[e]))
theorem J7{M:Mem}{L K:List Nat}(h:L.length+K.length<=lim):qx M .add (NL L) (NL K)=some (NL (L++K),true):=by
 unfold NL;rw[R6 (by simpa using h)];show some (T.lst (L.map N++K.map N),T.lfs (L.map N++K.map N))=_;rw[<-vE,JE]
@[simp] theorem qEA{d:ZG}{g:Tg}{b:TS->Mem->RSt}{σ:TS}{M:Mem}:jJ d g b [] σ M=.ok (.nx σ,M):=rfl
@[simp] theorem zJ{i:Nat}{b:TS->Mem->RSt}{x:T}{r:List T}{σ:TS}{M:Mem}:jJ [] (.name i) b (x::r) σ M=(b (σ.set i (some x)) M).bind λp=>match p.1 with
   | .nx σ2=>jJ [] (.name i) b r σ2 p.2
   | .ct σ2=>jJ [] (.name i) b r σ2 p.2
   | .bk σ2=>.ok (.nx σ2,p.2)
   | .rt t=>.ok (.rt t,p.2):=rfl
theorem ZV{c:TS->Mem->PR (Bool×Mem)}{e:TS->Mem->PR (TB×Mem)}{M:Mem}{σ:TS}(p:Nat->Bool)(f:Nat->T)(fr:Nat->Bool):∀(its:List Nat) (ys:List T) (b:Bool) (o:Option T),ys.length+its.length<=lim ->
  (∀x∈its,c (some (N x)::σ) M=.ok (p x,M))->(∀x∈its,p x=true->e (some (N x)::σ) M=.ok ((f x,fr x),M)) ->
  qg [] (.name 0) c e (its.map N) ys b (o::σ) M=.ok ((.lst (ys++(its.filter p).map f),b&&(its.filter p).all fr),M)
 | [],ys,b,o,hl,hc,he=>by simp[qg]
 |x::r,ys,b,o,hl,hc,he=>by
  rw[List.map_cons];unfold qg;rw[show zv (.name 0) (N x) (o::σ)=some (some (N x)::σ) from rfl];dsimp only;rw[hc x (wO ..)];rw[tD];dsimp only;cases hp:p x with
  |true=>
   rw[if_pos rfl,he x (wO ..) hp,tD];dsimp only;rw[if_pos ⟨by simp at hl;omega,rfl⟩];rw[ZV p f fr r (ys++[f x]) (b&&fr x) (some (N x)) (by simp at hl ⊢;omega) (λy hy=>hc y (wH _ hy)) (λy hy=>he y (wH _ hy))];rw[wq hp];simp[Bool.and_assoc]
  |false=>
   rw[if_neg (by decide),if_pos (show qy [] M=true from rfl)];rw[ZV p f fr r ys b (some (N x)) (by simp at hl ⊢;omega) (λy hy=>hc y (wH _ hy)) (λy hy=>he y (wH _ hy))];rw[vA (by rw[hp];decide)]
theorem zF{c:TS->Mem->PR (Bool×Mem)}{e:TS->Mem->PR (TB×Mem)}{M:Mem}{σ:TS}{o:Option T}{its:List Nat}(p:Nat->Bool)(g:Nat->Nat)(hl:its.length<=lim)
  (hc:∀x∈its,c (some (N x)::σ) M=.ok (p x,M)) (he:∀x∈its,p x=true->e (some (N x)::σ) M=.ok ((N (g x),true),M)):
  qg [] (.name 0) c e (its.map N) [] true (o::σ) M=.ok ((NL ((its.filter p).map g),true),M):=by
 rw[ZV p (λx=>N (g x)) (λ_=>true) its [] true o (by simpa using hl) hc he];unfold NL;simp
 all_goals rfl
@[simp] theorem zQ{M:Mem}(a b:Nat):qx M .add (N a) (N b)=some (N (a+b),true):=by unfold N;simp[iT]
theorem QF(L:List Nat):T.lf (NL L)=false:=by unfold NL;simp
noncomputable def nE(n:Nat):E:=.cst (.int (n:Int))
@[simp] theorem qGE{gl:List T}{P:Nat->List T->Mem->PR (TB×Mem)}{σ:TS}{M:Mem}(n:Nat):pe gl P (nE n) σ M=.ok ((N n,true),M):=by unfold nE;rw[pe_int];rfl
section
variable{M:Mem}(a b:Nat) (xs:List T)
@[simp] theorem lfN:(N a).lf=true:=qHu a
@[simp] theorem qIj:(N a).isV=some (.int (a:Int)):=rfl
@[simp] theorem qI2:zt M (N a)=some "int":=rfl
@[simp] theorem qH5(L:List Nat):zt M (NL L)=some "list":=rfl
theorem m9{a b:Nat}(h:b<=a):qx M .sub (N a) (N b)=some (N (a-b),true):=by
 unfold N;rw[qFP];unfold iT;rw[Int.ofNat_sub h]
theorem Zp{a b:Nat}(h:a<18446744073709551616\/b<18446744073709551616):qx M .mul (N a) (N b)=some (N (a*b),true):=by
 unfold N;rw[qEe (by omega)];unfold iT;simp
theorem Jr{a b:Nat}(h:0<b/\b<1073741824):qx M .fdiv (N a) (N b)=some (N (a / b),true):=by
 unfold N;rw[qB9 (by omega)];unfold iT;simp
theorem QY{a b:Nat}(h:0<b):qx M .mod (N a) (N b)=some (N (a % b),true):=by
 unfold N;rw[qDl (by omega)];unfold iT;simp
theorem qBS{a b:Nat}(h:b<=1000/\a<1000000):qx M .pow (N a) (N b)=some (N (a ^ b),true):=by
 unfold N;rw[qFA (by omega)];unfold iT;simp
@[simp] theorem Jm:qa M .lt (N a) (N b)=some (decide (a<b)):=by unfold N;rw[qHF];simp
@[simp] theorem qIS:qa M .le (N a) (N b)=some (decide (a<=b)):=by unfold N;rw[qGK];simp
@[simp] theorem qGf:qa M .gt (N a) (N b)=some (decide (b<a)):=by unfold N;rw[qGR];simp
@[simp] theorem qIP:qa M .ge (N a) (N b)=some (decide (b<=a)):=by unfold N;rw[qGH];simp
@[simp] theorem qd:qa M .eq (N a) (N b)=some (decide (a=b)):=by unfold N;rw[qHA];congr 1;rw[wk,uT,uT];omega
@[simp] theorem QZ:qa M .ne (N a) (N b)=some (!decide (a=b)):=by
 show ((eqT M 4 (N a) (N b)).map (!·))=_;rw[show eqT M 4 (N a) (N b)=some (decide (a=b)) from qd (M:=M) a b];rfl
@[simp] theorem QR:jl M (.lst xs) (N a)=(xs[a]?).map λt=>(t,t.lf):=by
 show ((_L.ixN xs.length (a:Int)).bind λj=>(xs[j]?).map λt=>(t,t.lf))=_;unfold _L.ixN;rw[if_pos (by omega)];split
 ·simp
 ·rw[vf (by omega)];rfl
@[simp] theorem zi:jl M (.tup xs) (N a)=(xs[a]?).map λt=>(t,t.lf):=by
 show ((_L.ixN xs.length (a:Int)).bind λj=>(xs[j]?).map λt=>(t,t.lf))=_;unfold _L.ixN;rw[if_pos (by omega)];split
 ·simp
 ·rw[vf (by omega)];rfl
@[simp] theorem qHT:jE M .len [.lst xs]=some (N xs.length,true):=rfl
@[simp] theorem qE5:jE M .len [.tup xs]=some (N xs.length,true):=rfl
@[simp] theorem qHO:jE M .len [.fz xs]=some (N xs.length,true):=rfl
@[simp] theorem qHr:jE M .max [N a,N b]=some (N (max a b),true):=by
 unfold N;rw[qBm];unfold iT;congr 4;split<;>omega
@[simp] theorem qHt:jE M .min [N a,N b]=some (N (min a b),true):=by
 unfold N;rw[qE2];unfold iT;congr 4;split<;>omega
@[simp] theorem qIY:jE M .int [N a]=some (N a,true):=rfl
@[simp] theorem qHM(t:Bool):jE M .int [.v (.bl t)]=some (N t.toNat,true):=by cases t<;>rfl
@[simp] theorem qHe:jE M .bits [N a]=some (N (PySem.Builtin.Int.intBits (a:Int)),true):=rfl
theorem Ja:qx M .band (N a) (N b)=some (N (a&&& b),true):=by
 unfold N;rw[qCS];unfold iT;rfl
end
theorem zP{n:Nat}(hn:n<=1000000):qC3 (N n)=some ((List.range n).map N):=by
 show (if -1000000<=(n:Int)/\(n:Int)<=1000000 then some (zA 0 (n:Int).toNat) else none)=_;rw[if_pos (by omega),wt,m7]
theorem qC5{n:Nat}(hn:n<=100000):u6 (N n)=some ((List.range n).map N):=by
 show (if -1000000<=(n:Int)/\(n:Int)<=100000 then some (zA 0 (n:Int).toNat) else none)=_;rw[if_pos (by omega),wt,m7]
theorem qB5{a b:Nat}(hn:a<=b/\b<=1000000):qCB (N a) (N b)=some ((List.range' a (b-a)).map N):=by
 show (if _ then some (zA (a:Int) ((b:Int)-(a:Int)).toNat) else none)=_;rw[if_pos (by omega),show ((b:Int)-(a:Int)).toNat=b-a by omega];unfold zA;rw[List.range'_eq_map_range,vQ];congr 1
theorem qAc{M:Mem}{n:Nat}{xs:List T}{x:T}(h:M[n]?=some xs)(hl:xs.length<lim):Y9 M n x=some (M.set n (xs++[x])):=by
 unfold Y9;rw[h];show (if xs.length<lim then _ else _)=_;rw[if_pos hl]
@[simp] theorem qD6(n a:Nat):thaw n (N a)=(N a,[]):=by unfold N;simp[thaw]
@[simp] theorem qHq{M:Mem}(L:List Nat):A9 M (NL L)=some (L.map N,[]):=rfl
@[simp] theorem qHd{M:Mem}(x f:Bool):pB (PR.ok ((T.v (V.bl x),f),M))=.ok (x,M):=Eq.trans rfl rfl
theorem zZ{α:Type}:∀l:List α,l.filter (λ_=>true)=l
 | []=>rfl
 |x::l=>by rw[wq rfl,zZ l]
theorem Jy{gl:List T}{P:Nat->List T->Mem->PR (TB×Mem)}{e:TS->Mem->PR (TB×Mem)}{M:Mem}{σ:TS}{o:Option T}{its:List Nat}(g:Nat->Nat)(hl:its.length<=lim)
  (he:∀x∈its,e (some (N x)::σ) M=.ok ((N (g x),true),M)):qg [] (.name 0) (pec gl P .nil) e (its.map N) [] true (o::σ) M=.ok ((NL (its.map g),true),M):=
 (zF (λ_=>true) g hl (λx _=>by simp) (λx hx _=>he x hx)).trans (by rw[zZ])
@[simp] theorem qHH{M:Mem}{n j:Nat}{x:T}:qDf M (.cell n) (N j) x=(M[n]?).bind λxs=>if j<xs.length then some (M.set n (xs.set j x)) else none:=by
 show ((M[n]?).bind λxs=>(_L.ixN xs.length (j:Int)).map λj=>M.set n (xs.set j x))=_;congr 1
 funext xs
 unfold _L.ixN;rw[if_pos (by omega)];by_cases h:j<xs.length
 ·rw[if_pos (by omega),if_pos h];simp
 ·rw[if_neg (by omega),if_neg h];rfl
@[simp] theorem qIu{M:Mem}{n a:Nat}:jl M (.cell n) (N a)=(M[n]?).bind λxs=>(xs[a]?).map λt=>(t,t.lf):=by
 show ((M[n]?).bind λxs=>(_L.ixN xs.length (a:Int)).bind λj=>(xs[j]?).map λt=>(t,t.lf))=_;congr 1
 funext xs
 exact QR (M:=M) a xs
@[simp] theorem qHo(a:Nat):qFy (N a)=some (iT (-(a:Int))):=rfl
@[simp] theorem qHk(a:Int):qFy (.v (.int a))=some (iT (-a)):=rfl
@[simp] theorem qIn(a:Nat):qi [N a]=some [(a:Int)]:=rfl
@[simp] theorem qIE:qi []=some []:=rfl
@[simp] theorem qIV{M:Mem}(xs:List T):T.its M (.lst xs)=some xs:=rfl
@[simp] theorem qIL{M:Mem}(xs:List T):T.its M (.fz xs)=some xs:=rfl
@[simp] theorem qH6{M:Mem}(xs:List T):T.its M (.tup xs)=some xs:=rfl
@[simp] theorem qIg{M:Mem}(L:List Nat):T.its M (NL L)=some (L.map N):=rfl
@[simp] theorem qHn(ys xs:List T)(lo hi:Option Int):Jd (.lst ys) xs lo hi=some (lT (jx xs lo hi)):=rfl
@[simp] theorem qHa(ys xs:List T)(lo hi:Option Int):Jd (.fz ys) xs lo hi=some (lT (jx xs lo hi)):=rfl
@[simp] theorem qHK(L:List Nat)(xs:List T)(lo hi:Option Int):Jd (NL L) xs lo hi=some (lT (jx xs lo hi)):=rfl
@[simp] theorem qHj(n:Nat)(xs:List T)(lo hi:Option Int):Jd (.cell n) xs lo hi=some (lT (jx xs lo hi)):=rfl
@[simp] theorem qIA{M:Mem}(xs:List T):T.lis M (.lst xs)=some xs:=rfl
@[simp] theorem qIe{M:Mem}(xs:List T):T.lis M (.fz xs)=some xs:=rfl
@[simp] theorem qIq{M:Mem}(L:List Nat):T.lis M (NL L)=some (L.map N):=rfl
theorem qDK(xs:List T)(k:Nat):jx xs (some (k:Int)) (some ((k+1:Nat):Int))=(xs.drop k).take 1:=by
 unfold jx;rw[_H.sIx_nat,_H.sIx_nat];by_cases h:k<xs.length
 ·rw[uK (by omega),uK (by omega),show k+1-k=1 by omega]
 ·rw[Nat.min_eq_right (by omega),Nat.min_eq_right (by omega),uC (wG _),uC (by omega)];simp
theorem Jl{c:TS->Mem->PR (Bool×Mem)}{e:TS->Mem->PR (TB×Mem)}{σ:TS}{I:Mem->Prop}{R:Nat->Bool->Prop}:∀(its ys:List Nat) (b:Bool) (o:Option T) (M:Mem),its.Nodup->ys.length+its.length<=lim->I M ->
  (∀x∈its,∀M,I M->∃t M',c (some (N x)::σ) M=.ok (t,M')/\I M'/\R x t)->(∀x∈its,∀M,I M->e (some (N x)::σ) M=.ok ((N x,true),M)) ->
  ∃q M',qg [] (.name 0) c e (its.map N) (ys.map N) b (o::σ) M=.ok ((NL (ys++its.filter q),b),M')/\I M'/\∀x∈its,R x (q x)
 | [],ys,b,o,M,nd,hl,hI,hc,he=>⟨λ_=>true,M,by simp[qg,NL],hI,λx hx=>by simp at hx⟩
 |x::r,ys,b,o,M,nd,hl,hI,hc,he=>by
  have ndr:=(vX.mp nd).2;have hx:=(vX.mp nd).1;obtain⟨t,M1,e1,i1,r1⟩:=hc x (wO ..) M hI;rw[List.map_cons];unfold qg;rw[show zv (.name 0) (N x) (o::σ)=some (some (N x)::σ) from rfl];dsimp only;rw[e1,tD];dsimp only;have key:∀(q:Nat->Bool),(∀y∈r,R y (q y))->(r.filter (λy=>if y=x then t else q y)=r.filter q)/\∀y∈x::r,R y (if y=x then t else q y):=λq hq=>by
   constructor
   ·apply vg;intro y hy;rw[if_neg (by rintro rfl;exact hx hy)]
   ·intro y hy;rcases wI.mp hy with h1|h1
    ·rw[if_pos h1,h1];exact r1
    ·rw[if_neg (by rintro rfl;exact hx h1)];exact hq y h1
  cases t with
  |true=>
   rw[if_pos rfl,he x (wO ..) M1 i1,tD];dsimp only;rw[if_pos ⟨by simp at hl ⊢;omega,rfl⟩];obtain⟨q,M2,e2,i2,r2⟩:=Jl (I:=I) (R:=R) r (ys++[x]) b (some (N x)) M1 ndr (by simp at hl ⊢;omega) i1 (λy hy=>hc y (wH _ hy)) (λy hy=>he y (wH _ hy));obtain⟨k1,k2⟩:=key q r2;refine⟨λy=>if y=x then true else q y,M2,?_,i2,k2⟩;rw[show ys.map N++[N x]=(ys++[x]).map N by simp,vG,e2,wq (by simp),k1];simp
  |false=>
   rw[if_neg (by decide),if_pos (show qy [] M1=true from rfl)];obtain⟨q,M2,e2,i2,r2⟩:=Jl (I:=I) (R:=R) r ys b (some (N x)) M1 ndr (by simp at hl ⊢;omega) i1 (λy hy=>hc y (wH _ hy)) (λy hy=>he y (wH _ hy));obtain⟨k1,k2⟩:=key q r2;refine⟨λy=>if y=x then false else q y,M2,?_,i2,k2⟩;rw[e2,vA (by simp),k1]
@[simp] theorem qFt(i j:Nat)(a b:T)(σ:TS):zv (.tup [i,j]) (.tup [a,b]) σ=some ((σ.set i (some a)).set j (some b)):=rfl
@[simp] theorem qDg(σ:TS):jb [] σ=[]:=rfl
@[simp] theorem qC8(r:List (Option Nat))(σ:TS):jb (none::r) σ=none::jb r σ:=rfl
@[simp] theorem qDW(j:Nat)(r:List (Option Nat))(σ:TS):jb (some j::r) σ=(σ[j]?).join::jb r σ:=rfl
theorem Z0(x:V)(f:Bool)(M1:Mem):∃b M2,jp ([]:Mem).length (.ok (.rt (.v x,f),M1))=.ok ((.v x,b),M2):=by
 show ∃b M2,finish 0 (.v x,f) M1=_;unfold finish;by_cases h:M1.length=0
 ·rw[if_pos h];exact⟨f,M1,rfl⟩
 ·rw[if_neg h,if_pos (by simp)];rw[show qJ M1 0 6 (T.v x)=some (.v x) by unfold qJ;rw[if_pos (by unfold T.und;rfl)]];exact⟨_,_,rfl⟩
mutual
theorem qBB:∀t:T,T.beq t t=true
 | .v x=>by unfold T.beq;simp
 | .cell x=>by unfold T.beq;simp
 | .ob x=>by unfold T.beq;simp
 | .fz xs=>by unfold T.beq;exact jc xs
 | .lst xs=>by unfold T.beq;exact jc xs
 | .tup xs=>by unfold T.beq;exact jc xs
theorem jc:∀ts:List T,T.beqs ts ts=true
 | []=>rfl
 |t::ts=>by unfold T.beqs;rw[qBB t,jc ts];rfl
end
mutual
theorem qAX{a b:Nat}(h:a<=b):∀t:T,t.und a=true->t.und b=true
 | .v x,_=>rfl
 | .cell k,e=>by unfold T.und at e ⊢;simp at e ⊢;omega
 | .ob x,_=>rfl
 | .fz xs,e=>by unfold T.und at e ⊢;exact jG h xs e
 | .lst xs,e=>by unfold T.und at e ⊢;exact jG h xs e
 | .tup xs,e=>by unfold T.und at e ⊢;exact jG h xs e
theorem jG{a b:Nat}(h:a<=b):∀ts:List T,T.unds a ts=true->T.unds b ts=true
 | [],_=>rfl
 |t::ts,e=>by unfold T.unds at e ⊢;rw[wF]at e;rw[qAX h t e.1,jG h ts e.2];rfl
end
def FlatM(M:Mem):Prop:=∀c∈M,T.unds 0 c=true
theorem FlatM.all{M:Mem}(h:FlatM M)(n:Nat):M.all (T.unds n)=true:=by
 rw[wc];exact λc hc=>jG (vI _) c (h c hc)
theorem FlatM.app{A B:Mem}(h:FlatM A)(k:FlatM B):FlatM (A++B):=λc hc=>by
 rcases wJ.mp hc with z|z
 ·exact h c z
 ·exact k c z
theorem l5(n a:Nat):(N a).und n=true:=by unfold N T.und;rfl
theorem d9(n:Nat):∀L:List Nat,T.unds n (L.map N)=true
 | []=>rfl
 |x::L=>by rw[List.map_cons];unfold T.unds;rw[l5,d9 n L];rfl
theorem Qr{M:Mem}{n0 d:Nat}:∀L:List Nat,(L.map N).mapM (qJ M n0 d)=some (L.map N)
 | []=>rfl
 |x::L=>by
  rw[List.map_cons,uB,Qr L];have:qJ M n0 d (N x)=some (N x):=by cases d<;>(unfold qJ;rw[if_pos (l5 _ _)])
  rw[this];rfl
theorem n8{M:Mem}{n0 d:Nat}:∀L:List Nat,(L.map N).mapM (jz M n0 d)=some (L.map λ_=>[])
 | []=>rfl
 |x::L=>by
  rw[List.map_cons,uB,n8 L];have:jz M n0 d (N x)=some []:=by cases d<;>(unfold jz;rw[if_pos (qHu _)])
  rw[this];rfl
theorem qAC(L:List Nat):(L.map λ_=>([]:List Nat)).flatten=[]:=by
 induction L with
 |nil=>rfl
 |cons x L ih=>rw[List.map_cons,List.flatten_cons,ih];rfl
theorem G8{d:ZG}{c:TS->Mem->PR (Bool×Mem)}{e:TS->Mem->PR (TB×Mem)}{M:Mem}{σ:TS}(p:Nat->Bool)(f:Nat->T)(fr:Nat->Bool):∀(its:List Nat) (ys:List T) (b:Bool) (o:Option T),qy d M=true->ys.length+its.length<=lim ->
  (∀x∈its,c (some (N x)::σ) M=.ok (p x,M))->(∀x∈its,p x=true->e (some (N x)::σ) M=.ok ((f x,fr x),M)) ->
  qg d (.name 0) c e (its.map N) ys b (o::σ) M=.ok ((.lst (ys++(its.filter p).map f),b&&(its.filter p).all fr),M)
 | [],ys,b,o,hd,hl,hc,he=>by simp[qg]
 |x::r,ys,b,o,hd,hl,hc,he=>by
  rw[List.map_cons];unfold qg;rw[show zv (.name 0) (N x) (o::σ)=some (some (N x)::σ) from rfl];dsimp only;rw[hc x (wO ..)];rw[tD];dsimp only;cases hp:p x with
  |true=>
   rw[if_pos rfl,he x (wO ..) hp,tD];dsimp only;rw[if_pos ⟨by simp at hl;omega,hd⟩];rw[G8 p f fr r (ys++[f x]) (b&&fr x) (some (N x)) hd (by simp at hl ⊢;omega) (λy hy=>hc y (wH _ hy)) (λy hy=>he y (wH _ hy))];rw[wq hp];simp[Bool.and_assoc]
  |false=>
   rw[if_neg (by decide),if_pos hd];rw[G8 p f fr r ys b (some (N x)) hd (by simp at hl ⊢;omega) (λy hy=>hc y (wH _ hy)) (λy hy=>he y (wH _ hy))];rw[vA (by rw[hp];decide)]
theorem w6(n:Nat):∀L:List Nat,Qq n (L.map N)=(L.map N,[])
 | []=>by simp[Qq]
 |x::L=>by
  rw[List.map_cons,Qq,qD6];dsimp only;rw[List.length_nil,uA,w6 n L];rfl
@[simp] theorem qCf(n:Nat)(L:List Nat):thaw n (NL L)=(.cell n,[L.map N]):=by
 unfold NL;rw[thaw,w6];rfl
theorem qBt{M:Mem}{n:Nat}{ts:List T}(h:M[n]?=some ts):qy [(n,ts)] M=true:=by
 unfold qy;simp[h,jc]
theorem S7{M:Mem}{n:Nat}{ts:List T}(h:M[n]?=some ts):A9 M (.cell n)=some (ts,[(n,ts)]):=by
 unfold A9;dsimp only;rw[h];rfl
theorem qHQ{M:Mem}{n:Nat}{ts:List T}(h:M[n]?=some ts):zt M (.cell n)=some "list":=by
 unfold zt;dsimp only;rw[h];rfl
structure IsL(M:Mem)(t:T)(L:List Nat):Prop where
 its:t.its M=some (L.map N)
 lis:t.lis M=some (L.map N)
 ty:zt M t=some "list"
 src:∃d,A9 M t=some (L.map N,d)/\qAT M t=some (L.map N,d)/\qy d M=true
 nv:t.isV=none
theorem IsL.nl(M:Mem)(L:List Nat):IsL M (NL L) L:=⟨rfl,rfl,rfl,⟨[],rfl,rfl,rfl⟩,rfl⟩
theorem IsL.cell{M:Mem}{n:Nat}{L:List Nat}(h:M[n]?=some (L.map N)):IsL M (.cell n) L:=⟨h,h,qHQ h,⟨_,S7 h,S7 h,qBt h⟩,rfl⟩
section
variable{M:Mem}{t u:T}{L K:List Nat}
theorem IsL.len(h:IsL M t L):jE M .len [t]=some (N L.length,true):=by
 show (t.its M).map _=_;rw[h.its,Option.map_some,wQ];rfl
theorem IsL.list(h:IsL M t L):jE M .list [t]=some (NL L,true):=by
 show (t.its M).map lT=_;rw[h.its,Option.map_some];show some (T.lst (L.map N),T.lfs (L.map N))=_;rw[JE];rfl
theorem qBq:∀L:List Nat,qi (L.map N)=some (L.map λ(n:Nat)=>(n:Int))
 | []=>rfl
 |x::L=>by
  show (qi (L.map N)).map _=_;rw[qBq L];rfl
theorem qBz:∀L:List Nat,QI (L.map N)=some (L.map λ(n:Nat)=>(n:Int))
 | []=>rfl
 |x::L=>by
  show (QI (L.map N)).map _=_;rw[qBz L];rfl
theorem S0:∀L:List Nat,(L.map λ(n:Nat)=>(n:Int)).sum=((L.sum:Nat):Int)
 | []=>rfl
 |x::L=>by rw[List.map_cons,List.sum_cons,S0 L,List.sum_cons];simp
theorem IsL.sum(h:IsL M t L):jE M .sum [t]=some (N L.sum,true):=by
 show (t.lis M).bind _=_;rw[h.lis,Option.bind_some,qBz,Option.map_some,S0];rfl
theorem IsL.idx(h:IsL M t L){i:Nat}{x:Nat}(e:L[i]?=some x):jl M t (N i)=some (N x,true):=by
 show ((t.its M).bind λxs=>(_L.ixN xs.length (i:Int)).bind λj=>(xs[j]?).map λt=>(t,t.lf))=_;rw[h.its,Option.bind_some];have:=QR (M:=M) i (L.map N);rw[show jl M (.lst (L.map N)) (N i)=((_L.ixN (L.map N).length (i:Int)).bind λj=>((L.map N)[j]?).map λt=>(t,t.lf)) from rfl]at this;rw[this,vB,e];simp
theorem IsL.eq(h:IsL M t L)(k:IsL M u K):eqT M 4 t u=some (decide (L=K)):=by
 have:=qEC (M:=M) (d:=3) L K;unfold eqT at this ⊢;rw[h.nv,k.nv,h.lis,k.lis];exact this
theorem IsL.ceq(h:IsL M t L)(k:IsL M u K):qa M .eq t u=some (decide (L=K)):=h.eq k
theorem IsL.cne(h:IsL M t L)(k:IsL M u K):qa M .ne t u=some (!decide (L=K)):=by
 show (eqT M 4 t u).map (!·)=_;rw[h.eq k];rfl
end
theorem Qf{xs:List T}{m:Nat}(h:m<=xs.length):jx xs none (some (m:Int))=xs.take m:=by
 unfold jx;rw[_H.sIx_none,_H.sIx_nat,uK h,List.drop_zero,Nat.sub_zero]
theorem Zy{xs:List T}{m:Nat}(h:m<=xs.length):jx xs (some (m:Int)) none=xs.drop m:=by
 unfold jx;rw[_H.sIx_none,_H.sIx_nat,uK h];exact List.take_of_length_le (by simp)
theorem A4{gl:List T}{P:Nat->List T->Mem->PR (TB×Mem)}{e:TS->Mem->PR (TB×Mem)}{σ:TS}{I:Mem->Prop}{R:Nat->Prop}:∀(its ys:List Nat) (b:Bool) (o:Option T) (M:Mem),ys.length+its.length<=lim->I M ->
  (∀x∈its,∀M,I M->∃y M',e (some (N x)::σ) M=.ok ((N y,true),M')/\I M'/\R y) ->
  ∃K M',qg [] (.name 0) (pec gl P .nil) e (its.map N) (ys.map N) b (o::σ) M=.ok ((NL (ys++K),b),M')/\I M'/\K.length=its.length/\∀y∈K,R y
 | [],ys,b,o,M,hl,hI,he=>⟨[],M,by simp[qg,NL],hI,rfl,λy hy=>by simp at hy⟩
 |x::r,ys,b,o,M,hl,hI,he=>by
  obtain⟨y,M1,e1,i1,r1⟩:=he x (wO ..) M hI;rw[List.map_cons];unfold qg;rw[show zv (.name 0) (N x) (o::σ)=some (some (N x)::σ) from rfl];dsimp only;rw[Qy,tD];dsimp only;rw[if_pos rfl,e1,tD];dsimp only;rw[if_pos ⟨by simp at hl ⊢;omega,rfl⟩];obtain⟨K,M2,e2,i2,l2,r2⟩:=A4 (gl:=gl) (P:=P) (I:=I) (R:=R) r (ys++[y]) b (some (N x)) M1 (by simp at hl ⊢;omega) i1 (λy hy=>he y (wH _ hy));refine⟨y::K,M2,?_,i2,by simp[l2],λz hz=>?_⟩
  ·rw[show ys.map N++[N y]=(ys++[y]).map N by simp,vG,e2];simp
  ·rcases wI.mp hz with h1|h1
   ·rw[h1];exact r1
   ·exact r2 z h1
theorem T6{gl:List T}{P:Nat->List T->Mem->PR (TB×Mem)}{d:ZG}{e:TS->Mem->PR (TB×Mem)}{M:Mem}(f:Nat->Nat->Nat)(hd:qy d M=true):∀(A B ys:List Nat) (b:Bool) (o1 o2:Option T),ys.length+A.length<=lim ->
  (∀x y,x∈A->y∈B->e [some (N x),some (N y)] M=.ok ((N (f x y),true),M)) ->
  qg d (.tup [0,1]) (pec gl P .nil) e (List.zipWith (λa b=>T.tup [a,b]) (A.map N) (B.map N)) (ys.map N) b [o1,o2] M=.ok ((NL (ys++List.zipWith f A B),b),M)
 | [],B,ys,b,o1,o2,hl,he=>by simp[qg,NL]
 |x::A,[],ys,b,o1,o2,hl,he=>by simp[qg,NL]
 |x::A,y::B,ys,b,o1,o2,hl,he=>by
  rw[List.map_cons,List.map_cons,List.zipWith_cons_cons];unfold qg;rw[show zv (.tup [0,1]) (.tup [N x,N y]) [o1,o2]=some [some (N x),some (N y)] from rfl];dsimp only;rw[Qy,tD];dsimp only;rw[if_pos rfl,he x y (wO ..) (wO ..),tD];dsimp only;rw[if_pos ⟨by simp at hl ⊢;omega,hd⟩];rw[show ys.map N++[N (f x y)]=(ys++[f x y]).map N by simp,vG];rw[T6 f hd A B (ys++[f x y]) b _ _ (by simp at hl ⊢;omega) (λu v hu hv=>he u v (wH _ hu) (wH _ hv))];simp
theorem F3{M:Mem}(h:FlatM M)(A:List Nat)(f:Bool):jp M.length (.ok (.rt (.cell M.length,f),M++[A.map N]))=.ok ((NL A,true),M):=by
 show finish M.length _ _=_;unfold finish;rw[if_neg (by simp),if_pos (by rw[uL];exact h.all _;rfl)];have g0:(M++[A.map N])[M.length]?=some (A.map N):=by simp
 have r:qJ (M++[A.map N]) M.length 6 (.cell M.length)=some (NL A):=by
  unfold qJ;rw[if_neg (by unfold T.und;simp)];dsimp only;rw[g0,Option.bind_some,Qr];rfl
 have i:frR (M++[A.map N]) M.length (.cell M.length)=true:=by
  unfold frR;rw[show jz (M++[A.map N]) M.length 6 (.cell M.length)=some [M.length] by
   unfold jz;rw[if_neg (by rw[qCn];decide)];dsimp only;rw[if_pos (wG _),g0,Option.bind_some,n8,Option.map_some,qAC];rfl]
  simp
 rw[r,PR.ofO_some,tD,i,uN];rw[show (M++[A.map N]).take M.length=M from by rw[uL];rfl]
theorem N4{α:Type}(p:α->Bool):∀L:List α,zj (L.map λx=>T.v (.bl (p x)))=some (L.map p)
 | []=>rfl
 |x::L=>by
  show (zj (L.map λx=>T.v (.bl (p x)))).map _=_;rw[N4 p L];rfl
theorem qB6{M:Mem}{α:Type}(p:α->Bool)(L:List α):jE M .all [.lst (L.map λx=>T.v (.bl (p x)))]=some (bT (L.all p)):=by
 show (zj _).map _=_;rw[N4,Option.map_some,List.all_map];rfl
theorem qEV{M:Mem}{α:Type}(p:α->Bool)(L:List α):jE M .any [.lst (L.map λx=>T.v (.bl (p x)))]=some (bT (L.any p)):=by
 show (zj _).map _=_;rw[N4,Option.map_some,List.any_map];rfl
theorem qGl{M:Mem}(a b:Bool):qa M .ne (.v (.bl a)) (.v (.bl b))=some (!(a==b)):=rfl
theorem getD_some{L:List Nat}{i:Nat}(h:i<L.length):L[i]?=some (L.getD i 0):=by
 rw[wE,wD h];rfl
def IsS(M:Mem)(t:T)(ts:List T):Prop:=t=.lst ts\/∃m,t=.cell m/\M[m]?=some ts
section
variable{M C:Mem}{t:T}{ts:List T}
theorem IsS.app(h:IsS M t ts):IsS (M++C) t ts:=by
 rcases h with h|⟨m,h,e⟩
 ·exact .inl h
 ·exact .inr ⟨m,h,by rw[wB (wC.mp e).1];exact e⟩
theorem IsS.its(h:IsS M t ts):t.its M=some ts:=by rcases h with rfl|⟨m,rfl,e⟩;rfl;exact e
theorem IsS.lis(h:IsS M t ts):t.lis M=some ts:=by rcases h with rfl|⟨m,rfl,e⟩;rfl;exact e
theorem IsS.ty(h:IsS M t ts):zt M t=some "list":=by rcases h with rfl|⟨m,rfl,e⟩;rfl;exact qHQ e
theorem IsS.nv(h:IsS M t ts):t.isV=none:=by rcases h with rfl|⟨m,rfl,e⟩<;>rfl
theorem IsS.lf(h:IsS M t ts):t.lf=false:=by rcases h with rfl|⟨m,rfl,e⟩<;>simp
theorem IsS.src(h:IsS M t ts):∃d,A9 M t=some (ts,d)/\qAT M t=some (ts,d)/\∀C,qy d (M++C)=true:=by
 rcases h with rfl|⟨m,rfl,e⟩
 ·exact⟨[],rfl,rfl,λ_=>rfl⟩
 ·exact⟨_,S7 e,S7 e,λC=>qBt (by rw[wB (wC.mp e).1];exact e)⟩
theorem IsS.len(h:IsS M t ts):jE M .len [t]=some (N ts.length,true):=by
 show (t.its M).map _=_;rw[h.its,Option.map_some];rfl
theorem IsS.idx(h:IsS M t ts)(i:Nat):jl M t (N i)=(ts[i]?).map λt=>(t,t.lf):=by
 have a:jl M t (N i)=jl M (.lst ts) (N i):=by
  show (t.its M).bind _=_;rw[h.its];rfl
 rw[a,QR]
theorem IsS.list(h:IsS M t ts):jE M .list [t]=some (lT ts):=by
 show (t.its M).map lT=_;rw[h.its];rfl
theorem IsS.eqT{u:T}{us:List T}{d:Nat}{bs:List Bool}(h:IsS M t ts)(k:IsS M u us)(hl:ts.length=us.length)(e:jS (eqT M d) ts us=some bs):_P.eqT M (d+1) t u=some (bs.all id):=by
 unfold _P.eqT;rw[h.nv,k.nv,h.lis,k.lis];dsimp only;rw[if_pos hl,e];rfl
end
def WfM(M:Mem):Prop:=M.all (T.unds M.length)=true
theorem WfM.app{M C:Mem}(h:WfM M)(hC:∀c∈C,T.unds (M++C).length c=true):WfM (M++C):=by
 unfold WfM at *;rw[wc]at h ⊢;intro c hc;rcases wJ.mp hc with z|z
 ·exact jG (by simp) c (h c z)
 ·exact hC c z
theorem WfM.one{M:Mem}(h:WfM M){ts:List T}(l:T.lfs ts=true):WfM (M++[ts]):=h.app λc hc=>by rw[wU.mp hc];exact M9 _ _ l
section
variable{gl:List T}{P:Nat->List T->Mem->PR (TB×Mem)}{M:Mem}{t:T}{l:TS}
@[simp high] theorem qV:pe gl P (.var 0) (some t::l) M=.ok ((t,t.lf),M):=Eq.trans rfl rfl
@[simp high] theorem qY{x0:Option T}:pe gl P (.var 1) (x0::some t::l) M=.ok ((t,t.lf),M):=Eq.trans rfl rfl
@[simp high] theorem qW{x0 x1:Option T}:pe gl P (.var 2) (x0::x1::some t::l) M=.ok ((t,t.lf),M):=Eq.trans rfl rfl
@[simp high] theorem qj{x0 x1 x2:Option T}:pe gl P (.var 3) (x0::x1::x2::some t::l) M=.ok ((t,t.lf),M):=Eq.trans rfl rfl
@[simp high] theorem qp{x0 x1 x2 x3:Option T}:pe gl P (.var 4) (x0::x1::x2::x3::some t::l) M=.ok ((t,t.lf),M):=Eq.trans rfl rfl
@[simp high] theorem zW{x0 x1 x2 x3 x4:Option T}:pe gl P (.var 5) (x0::x1::x2::x3::x4::some t::l) M=.ok ((t,t.lf),M):=Eq.trans rfl rfl
@[simp high] theorem jK{x0 x1 x2 x3 x4 x5:Option T}:pe gl P (.var 6) (x0::x1::x2::x3::x4::x5::some t::l) M=.ok ((t,t.lf),M):=Eq.trans rfl rfl
@[simp high] theorem ZF{x0 x1 x2 x3 x4 x5 x6:Option T}:pe gl P (.var 7) (x0::x1::x2::x3::x4::x5::x6::some t::l) M=.ok ((t,t.lf),M):=Eq.trans rfl rfl
@[simp high] theorem Zk{x0 x1 x2 x3 x4 x5 x6 x7:Option T}:pe gl P (.var 8) (x0::x1::x2::x3::x4::x5::x6::x7::some t::l) M=.ok ((t,t.lf),M):=Eq.trans rfl rfl
@[simp high] theorem Zr{x0 x1 x2 x3 x4 x5 x6 x7 x8:Option T}:pe gl P (.var 9) (x0::x1::x2::x3::x4::x5::x6::x7::x8::some t::l) M=.ok ((t,t.lf),M):=Eq.trans rfl rfl
@[simp high] theorem qHJ{x0 x1 x2 x3 x4 x5 x6 x7 x8 x9:Option T}:pe gl P (.var 10) (x0::x1::x2::x3::x4::x5::x6::x7::x8::x9::some t::l) M=.ok ((t,t.lf),M):=Eq.trans rfl rfl
@[simp high] theorem qEI{x0 x1 x2 x3 x4 x5 x6 x7 x8 x9 x10:Option T}:pe gl P (.var 11) (x0::x1::x2::x3::x4::x5::x6::x7::x8::x9::x10::some t::l) M=.ok ((t,t.lf),M):=Eq.trans rfl rfl
@[simp high] theorem qHb{x0 x1 x2 x3 x4 x5 x6 x7 x8 x9 x10 x11:Option T}:pe gl P (.var 12) (x0::x1::x2::x3::x4::x5::x6::x7::x8::x9::x10::x11::some t::l) M=.ok ((t,t.lf),M):=Eq.trans rfl rfl
@[simp high] theorem qHX{x0 x1 x2 x3 x4 x5 x6 x7 x8 x9 x10 x11 x12:Option T}:pe gl P (.var 13) (x0::x1::x2::x3::x4::x5::x6::x7::x8::x9::x10::x11::x12::some t::l) M=.ok ((t,t.lf),M):=Eq.trans rfl rfl
@[simp high] theorem qHg{y z:Option T}:(y::l:TS).set 0 z=z::l:=Eq.trans rfl rfl
@[simp high] theorem qHm{x0 y z:Option T}:(x0::y::l:TS).set 1 z=x0::z::l:=Eq.trans rfl rfl
@[simp high] theorem ZY{x0 x1 y z:Option T}:(x0::x1::y::l:TS).set 2 z=x0::x1::z::l:=Eq.trans rfl rfl
@[simp high] theorem zR{x0 x1 x2 y z:Option T}:(x0::x1::x2::y::l:TS).set 3 z=x0::x1::x2::z::l:=Eq.trans rfl rfl
@[simp high] theorem zD{x0 x1 x2 x3 y z:Option T}:(x0::x1::x2::x3::y::l:TS).set 4 z=x0::x1::x2::x3::z::l:=Eq.trans rfl rfl
@[simp high] theorem qt{x0 x1 x2 x3 x4 y z:Option T}:(x0::x1::x2::x3::x4::y::l:TS).set 5 z=x0::x1::x2::x3::x4::z::l:=Eq.trans rfl rfl
@[simp high] theorem zf{x0 x1 x2 x3 x4 x5 y z:Option T}:(x0::x1::x2::x3::x4::x5::y::l:TS).set 6 z=x0::x1::x2::x3::x4::x5::z::l:=Eq.trans rfl rfl
@[simp high] theorem jT{x0 x1 x2 x3 x4 x5 x6 y z:Option T}:(x0::x1::x2::x3::x4::x5::x6::y::l:TS).set 7 z=x0::x1::x2::x3::x4::x5::x6::z::l:=Eq.trans rfl rfl
@[simp high] theorem jF{x0 x1 x2 x3 x4 x5 x6 x7 y z:Option T}:(x0::x1::x2::x3::x4::x5::x6::x7::y::l:TS).set 8 z=x0::x1::x2::x3::x4::x5::x6::x7::z::l:=Eq.trans rfl rfl
@[simp high] theorem jd{x0 x1 x2 x3 x4 x5 x6 x7 x8 y z:Option T}:(x0::x1::x2::x3::x4::x5::x6::x7::x8::y::l:TS).set 9 z=x0::x1::x2::x3::x4::x5::x6::x7::x8::z::l:=Eq.trans rfl rfl
@[simp high] theorem qGx{x0 x1 x2 x3 x4 x5 x6 x7 x8 x9 y z:Option T}:(x0::x1::x2::x3::x4::x5::x6::x7::x8::x9::y::l:TS).set 10 z=x0::x1::x2::x3::x4::x5::x6::x7::x8::x9::z::l:=Eq.trans rfl rfl
@[simp high] theorem qDR{x0 x1 x2 x3 x4 x5 x6 x7 x8 x9 x10 y z:Option T}:(x0::x1::x2::x3::x4::x5::x6::x7::x8::x9::x10::y::l:TS).set 11 z=x0::x1::x2::x3::x4::x5::x6::x7::x8::x9::x10::z::l:=Eq.trans rfl rfl
@[simp high] theorem qGC{x0 x1 x2 x3 x4 x5 x6 x7 x8 x9 x10 x11 y z:Option T}:(x0::x1::x2::x3::x4::x5::x6::x7::x8::x9::x10::x11::y::l:TS).set 12 z=x0::x1::x2::x3::x4::x5::x6::x7::x8::x9::x10::x11::z::l:=Eq.trans rfl rfl
@[simp high] theorem qG7{x0 x1 x2 x3 x4 x5 x6 x7 x8 x9 x10 x11 x12 y z:Option T}:(x0::x1::x2::x3::x4::x5::x6::x7::x8::x9::x10::x11::x12::y::l:TS).set 13 z=x0::x1::x2::x3::x4::x5::x6::x7::x8::x9::x10::x11::x12::z::l:=Eq.trans rfl rfl
variable{σ:TS}{C:List Nat}{e:E}{i:Nat}
theorem qD0(h:(C.contains i||C.contains (i+1000))=false):px gl P C (.asg (.name i) e) σ M=(pe gl P e σ M).bind λp=>.ok (.nx (σ.set i (some p.1.1)),p.2):=by
 rw[vj]at h;rw[N0,h.1,h.2];rfl
@[simp high] theorem qHy:px gl P [] (.asg (.name i) e) σ M=(pe gl P e σ M).bind λp=>.ok (.nx (σ.set i (some p.1.1)),p.2):=qD0 rfl
variable{s:S}{r t0 u0:Ss}{σ':TS}{M':Mem}{c:E}{b:Bool}
theorem Q6(e:px gl P C s σ M=.ok (.nx σ',M')):pxs gl P C (.cons s r) σ M=pxs gl P C r σ' M':=by rw[zN,e];rfl
section
variable{i f:Nat}{a b d z:E}{u v w:T}{fa fb fc fd:Bool}{M1 M2 M3 M4:Mem}{r:TB}
theorem zH(ha:pe gl P a σ M=.ok ((t,fa),M1))(hb:pe gl P b σ M1=.ok ((u,fb),M2))(h:jl M2 t u=some r):pe gl P (.idx a b) σ M=.ok (r,M2):=by
 rw[qEo,ha,tD,hb,tD,h];rfl
theorem qz{op:BOp}(ha:pe gl P a σ M=.ok ((t,fa),M1))(hb:pe gl P b σ M1=.ok ((u,fb),M2))(h:qx M2 op t u=some r):pe gl P (.bin op a b) σ M=.ok (r,M2):=by
 rw[qEB,ha,tD,hb,tD,h];rfl
theorem qe{op:COp}{x:Bool}(ha:pe gl P a σ M=.ok ((t,fa),M1))(hb:pe gl P b σ M1=.ok ((u,fb),M2))(h:qa M2 op t u=some x):pe gl P (.cmp op a b) σ M=.ok (bT x,M2):=by
 rw[qBs,ha,tD,hb,tD,h];rfl
theorem qF0(h:pe gl P a σ M=.ok ((t,fa),M1))(hC:(C.contains i||C.contains (i+1000))=false):px gl P C (.asg (.name i) a) σ M=.ok (.nx (σ.set i (some t)),M1):=by
 rw[qD0 hC,h];rfl
theorem qGa{n:Nat}(ha:pe gl P a σ M=.ok ((.cell n,fa),M1))(hb:pe gl P b σ M1=.ok ((u,fb),M2))(h:Y9 M2 n u=some M3):px gl P C (.expr (.app a b)) σ M=.ok (.nx σ,M3):=by
 rw[a9,qEF,ha,tD];show ((pe gl P b σ M1).bind _).bind _=_;rw[hb,tD];show ((tJ (Y9 M2 n u)).bind _).bind _=_;rw[h];rfl
end
end
noncomputable def apS:Ss->Ss->Ss
 | .nil,r=>r
 | .cons s t,r=>.cons s (apS t r)
def Cnd{α:Type}(y:Bool)(A B q:PR α):Prop:=(if y=true then A else B)=q/\True
theorem cT{α:Type}{A B q:PR α}(h:A=q):Cnd true A B q:=⟨h,trivial⟩
theorem cF{α:Type}{A B q:PR α}(h:B=q):Cnd false A B q:=⟨h,trivial⟩
theorem ll0:([]:List T).length<=lim:=(by decide:0<=lim)
theorem ll1{x0:T}:[x0].length<=lim:=(by decide:1<=lim)
theorem ll2{x0 x1:T}:[x0,x1].length<=lim:=(by decide:2<=lim)
theorem ll3{x0 x1 x2:T}:[x0,x1,x2].length<=lim:=(by decide:3<=lim)
theorem ll4{x0 x1 x2 x3:T}:[x0,x1,x2,x3].length<=lim:=(by decide:4<=lim)
theorem ll6{x0 x1 x2 x3 x4 x5:T}:[x0,x1,x2,x3,x4,x5].length<=lim:=(by decide:6<=lim)
theorem isT:true=true:=rfl
theorem isF:false=false:=rfl
theorem dT{p:Prop}{h:Decidable p}(hp:p):decide p=true:=uS hp
theorem nT{x:Bool}(h:x=false):(!x)=true:=by rw[h];rfl
theorem nF{x:Bool}(h:x=true):(!x)=false:=by rw[h];rfl
section
variable{gl:List T}{P:Nat->List T->Mem->PR (TB×Mem)}{C:List Nat}{σ σ':TS}{M M1 M2 M3 M4:Mem}
def PL(gl:List T)(P:Nat->List T->Mem->PR (TB×Mem))(as:Es)(σ:TS)(M:Mem)(ts:List T)(f:Bool)(M1:Mem):Prop:=∃xs,pes gl P as σ M=.ok (xs,M1)/\xs.map (·.1)=ts/\xs.all (·.2)=f/\xs.length=ts.length
variable{i f g:Nat}{a b c e:E}{as:Es}{t u v:T}{fa fb fc x y:Bool}{ts us:List T}{r:TB}{s:S}{rs t0 u0:Ss}{q:PR (PO×Mem)}
theorem qM:PL gl P .nil σ M [] true M:=⟨[],rfl,rfl,rfl,rfl⟩
theorem qB(ha:pe gl P a σ M=.ok ((t,fa),M1))(hb:PL gl P as σ M1 ts fb M2):PL gl P (.cons a as) σ M (t::ts) (fa&&fb) M2:=by
 obtain⟨xs,e,rfl,rfl,h⟩:=hb;refine⟨(t,fa)::xs,?_,rfl,rfl,congrArg (· + 1) h⟩;rw[qAs,ha,tD,e];rfl
theorem zg{n:Nat}:pe gl P (nE n) σ M=.ok ((N n,true),M):=qGE n
theorem A8{x:Bool}:pe gl P (.cst (.bl x)) σ M=.ok ((.v (.bl x),true),M):=rfl
theorem JY{s:PySem.Str}:pe gl P (.cst (.str s)) σ M=.ok ((.v (.str s),true),M):=rfl
theorem qK(h:PL gl P as σ M ts fa M1)(hp:P f ts M1=.ok (r,M2)):pe gl P (.call f as) σ M=.ok (r,M2):=by
 obtain⟨xs,e,rfl,rfl,_⟩:=h;rw[pe_call,e,tD];show (P f (xs.map (·.1)) M1).nx=_;rw[hp];rfl
theorem zC{o:BF}(h:PL gl P as σ M ts fa M1)(hp:jE M1 o ts=some r):pe gl P (.blt o as) σ M=.ok (r,M1):=by
 obtain⟨xs,e,rfl,rfl,_⟩:=h;rw[qEH,e,tD];show (tJ (jE M1 o (xs.map (·.1)))).bind _=_;rw[hp];rfl
theorem zE(h:PL gl P as σ M ts fa M1)(hl:ts.length<=lim):pe gl P (.lst as) σ M=.ok ((.lst ts,fa),M1):=by
 obtain⟨xs,e,rfl,rfl,hh⟩:=h;rw[pe_lst,e,tD];show (if xs.length<=lim then _ else _)=_;rw[hh,if_pos hl]
theorem zl(h:PL gl P as σ M ts fa M1)(hl:ts.length<=lim):pe gl P (.tup as) σ M=.ok ((.tup ts,fa),M1):=by
 obtain⟨xs,e,rfl,rfl,hh⟩:=h;rw[pe_tup,e,tD];show (if xs.length<=lim then _ else _)=_;rw[hh,if_pos hl]
theorem qX{it:Itr}{src:List (Option Nat)}{tg:Tg}{cs:Es}{d:ZG}(h:pei gl P it σ M=.ok ((us,d),M1))(hc:qg d tg (pec gl P cs) (pe gl P e) us [] true (jb src σ) M1=.ok (r,M2)):pe gl P (.comp it src tg cs e) σ M=.ok (r,M2):=by
 rw[pe_comp,h];exact hc
theorem qAv(h:pe gl P a σ M=.ok (bT x,M1)):pe gl P (.not a) σ M=.ok (bT (!x),M1):=by rw[pe_not,h];rfl
theorem Ze{q:PR (TB×Mem)}(h:pe gl P a σ M=.ok (bT x,M1))(hx:x=y)(hq:Cnd y (pe gl P b σ M1) (.ok (bT false,M1)) q):pe gl P (.and a b) σ M=q:=by subst hx;rw[pe_and,h];exact hq.1
theorem W0{q:PR (TB×Mem)}(h:pe gl P a σ M=.ok (bT x,M1))(hx:x=y)(hq:Cnd y (.ok (bT true,M1)) (pe gl P b σ M1) q):pe gl P (.or a b) σ M=q:=by subst hx;rw[pe_or,h];exact hq.1
theorem qAw{q:PR (TB×Mem)}(h:pe gl P c σ M=.ok (bT x,M1))(hx:x=y)(hq:Cnd y (pe gl P a σ M1) (pe gl P b σ M1) q):pe gl P (.ite c a b) σ M=q:=by subst hx;rw[qEk,h];exact hq.1
theorem S5(h:pe gl P a σ M=.ok ((t,fa),M1))(hl:u6 t=some us):pe gl P (.lrng a) σ M=.ok ((.lst us,true),M1):=by
 rw[qCJ,h,tD];show (tJ (u6 t)).bind _=_;rw[hl];rfl
theorem k9{lo hi:Es}{l h':List T}{is js:List Int}(h:pe gl P a σ M=.ok ((t,fa),M1))(h1:PL gl P lo σ M1 l fb M2)(h2:PL gl P hi σ M2 h' fc M3)(hi':t.its M3=some us)(e1:qi l=some is)(e2:qi h'=some js)(hr:Jd t us is.head? js.head?=some r):pe gl P (.sl a lo hi) σ M=.ok (r,M3):=by
 obtain⟨xs,e,rfl,rfl,_⟩:=h1;obtain⟨ys,e',rfl,rfl,_⟩:=h2;rw[qGS,h,tD];show (pes gl P lo σ M1).bind _=_;rw[e,tD];show (pes gl P hi σ M2).bind _=_;rw[e',tD];show (tJ (t.its M3)).bind _=_;rw[hi',PR.ofO_some,tD];show (tJ (qi (xs.map (·.1)))).bind _=_;rw[e1,PR.ofO_some,tD];show (tJ (qi (ys.map (·.1)))).bind _=_;rw[e2,PR.ofO_some,tD];show (tJ (Jd t us is.head? js.head?)).bind _=_;rw[hr];rfl
theorem qGe{ks:List String}{n:String}(h:pe gl P a σ M=.ok ((t,fa),M1))(ht:zt M1 t=some n):pe gl P (.isi a ks) σ M=.ok (bT (ks.any (je n)),M1):=by
 rw[qDx,h,tD];show (tJ (zt M1 t)).bind _=_;rw[ht];rfl
theorem zB{d:ZG}(h:pe gl P a σ M=.ok ((t,fa),M1))(hs:A9 M1 t=some (us,d)):pei gl P (.list a) σ M=.ok ((us,d),M1):=by
 rw[qAY,h,tD];show (tJ (A9 M1 t)).bind _=_;rw[hs];rfl
theorem zO(h:pe gl P a σ M=.ok ((t,fa),M1))(hs:qC3 t=some us):pei gl P (.rng1 a) σ M=.ok ((us,[]),M1):=by
 rw[qAr,h,tD];show (tJ (qC3 t)).bind _=_;rw[hs];rfl
theorem K1:pxs gl P C .nil σ M=.ok (.nx σ,M):=rfl
theorem Jj:∀(t0 rs:Ss) (σ:TS) (M:Mem),pxs gl P C (apS t0 rs) σ M=(pxs gl P C t0 σ M).bind λp=>match p.1 with
  | .nx σ1=>pxs gl P C rs σ1 p.2
  |o=>.ok (o,p.2)
 | .nil,rs,σ,M=>rfl
 | .cons s t,rs,σ,M=>by
  show pxs gl P C (.cons s (apS t rs)) σ M=_;rw[zN,zN];cases px gl P C s σ M with
  |ok p=>
   obtain⟨o,M'⟩:=p;cases o with
   |nx σ1=>exact Jj t rs σ1 M'
   |_=>rfl
  |_=>rfl
def Ifs(gl:List T)(P:Nat->List T->Mem->PR (TB×Mem))(C:List Nat)(y:Bool)(t u r:Ss)(σ:TS)(M:Mem)(q:PR (PO×Mem)):Prop:=(if y=true then pxs gl P C (apS t r) σ M else pxs gl P C (apS u r) σ M)=q/\True
section
variable{s1 s2 s3 s4:S}
theorem t_1(h:pxs gl P C (.cons s1 rs) σ M=q):Ifs gl P C true (.cons s1 .nil) u0 rs σ M q:=⟨h,trivial⟩
theorem t_2(h:pxs gl P C (.cons s1 (.cons s2 rs)) σ M=q):Ifs gl P C true (.cons s1 (.cons s2 .nil)) u0 rs σ M q:=⟨h,trivial⟩
theorem f_0(h:pxs gl P C rs σ M=q):Ifs gl P C false t0 .nil rs σ M q:=⟨h,trivial⟩
end
theorem zp(h:pe gl P c σ M=.ok (bT x,M1))(hx:x=y)(hq:Ifs gl P C y t0 u0 rs σ M1 q):pxs gl P C (.cons (.ifs c t0 u0) rs) σ M=q:=by
 subst hx;rw[zN,qEP,h,qG3,tD];have hq:=hq.1;rw[Jj,Jj]at hq;cases x<;>exact hq
theorem ql(hC:(C.contains i||C.contains (i+1000))=false)(h:pe gl P e σ M=.ok ((t,fa),M1))(hs:σ.set i (some t)=σ')(hr:pxs gl P C rs σ' M1=q):pxs gl P C (.cons (.asg (.name i) e) rs) σ M=q:=by
 rw[Q6 (qF0 h hC),hs];exact hr
theorem D0{B:Mem}(hC:C.contains i=true)(h:pe gl P e σ M=.ok ((t,true),M1))(ht:thaw M1.length t=(u,B))(hs:σ.set i (some u)=σ')(hr:pxs gl P C rs σ' (M1++B)=q):pxs gl P C (.cons (.asg (.name i) e) rs) σ M=q:=by
 rw[zN,N0,h,tD];show ((if (C.contains i&&true)=true then PR.ok (.nx (σ.set i (some (thaw M1.length t).1)),M1++(thaw M1.length t).2) else _:PR (PO×Mem)).bind _)=_;rw[hC,if_pos (show (true&&true)=true from rfl),ht,tD,hs];exact hr
theorem jD{ts:List T}(h0:(!C.contains i&&(C.contains (i+1000)&&qDb e))=true)(h:pe gl P e σ M=.ok ((.lst ts,fa),M1))(hs:σ.set i (some (.cell M1.length))=σ')(hr:pxs gl P C rs σ' (M1++[ts])=q):pxs gl P C (.cons (.asg (.name i) e) rs) σ M=q:=by
 obtain⟨h0,hC⟩:=Bool.and_eq_true_iff.mp h0;have h0:C.contains i=false:=by cases hc:C.contains i<;>simp_all
 rw[zN,N0,h,tD];dsimp only;rw[h0,if_neg (by simp),if_pos hC,tD,hs];exact hr
theorem n6{j:Nat}{σ1:TS}(h:pe gl P e σ M=.ok ((.tup [t,u],fa),M1))(h1:σ.set i (some t)=σ1)(h2:σ1.set j (some u)=σ')(hr:pxs gl P C rs σ' M1=q):pxs gl P C (.cons (.asg (.tup [i,j]) e) rs) σ M=q:=by
 rw[zN,qDz,h,tD];subst h1;subst h2;exact hr
theorem qF4{o k a:E}{p n z:T}(ha:pe gl P a σ M=.ok ((z,fa),M1))(ho:pe gl P o σ M1=.ok ((p,fb),M2))(hk:pe gl P k σ M2=.ok ((n,fc),M3))(hp:qDf M3 p n z=some M4)(hr:pxs gl P C rs σ M4=q):pxs gl P C (.cons (.put o k a) rs) σ M=q:=by
 rw[zN,qFH,ha,tD];show ((pe gl P o σ M1).bind _).bind _=_;rw[ho,tD];show ((pe gl P k σ M2).bind _).bind _=_;rw[hk,tD];show ((tJ (qDf M3 p n z)).bind _).bind _=_;rw[hp];exact hr
theorem ZA{n:Nat}(ha:pe gl P a σ M=.ok ((.cell n,fa),M1))(hb:pe gl P b σ M1=.ok ((u,fb),M2))(h:Y9 M2 n u=some M3)(hr:pxs gl P C rs σ M3=q):pxs gl P C (.cons (.expr (.app a b)) rs) σ M=q:=by
 rw[Q6 (qGa ha hb h)];exact hr
theorem O1(h:pe gl P e σ M=.ok (r,M1))(hr:pxs gl P C rs σ M1=q):pxs gl P C (.cons (.expr e) rs) σ M=q:=by
 rw[zN,a9,h];exact hr
theorem qG9(h:pe gl P e σ M=.ok (r,M1)):pxs gl P C (.cons (.ret e) rs) σ M=.ok (.rt r,M1):=by
 rw[zN,qDs,h];rfl
theorem qD{r':TB}(h:pe gl P e σ M=.ok (r,M1))(hr:r=r'):pxs gl P C (.cons (.ret e) rs) σ M=.ok (.rt r',M1):=by rw[qG9 h,hr]
theorem qAO{it:Itr}{tg:Tg}{d:ZG}{σ2:TS}(h:pei gl P it σ M=.ok ((us,d),M1))(hf:jJ d tg (pxs gl P C t0) us σ M1=.ok (.nx σ2,M2))(hr:pxs gl P C rs σ2 M2=q):pxs gl P C (.cons (.for_ tg it t0) rs) σ M=q:=by
 rw[zN,qDw,h,tD];dsimp only;rw[hf];exact hr
theorem zT{tb:List Fn}{Cs:List (List Nat)}{k np ns:Nat}{b:Ss}{vs:List T}{q:PR (PO×Mem)}{z:PR (TB×Mem)}(ht:tb[f]?=some ⟨np,ns,b⟩)(hl:vs.length=np/\np<=ns)(hk:1<=k)(hC:Cs.getD f []=C)(hs:vs.map some++List.replicate (ns-np) none=σ)(h:pxs gl (Pk gl tb Cs (k-1)) C b σ M=q)(hv:jp M.length q=z):Pk gl tb Cs k f vs M=z:=by
 rw[qS ht hl hk,hC,hs,h];exact hv
theorem cN{C:List Nat}{i:Nat}(h:(C.contains i||C.contains (i+1000))=false):(C.contains i||C.contains (i+1000))=false:=h
theorem qFr{n:Nat}(h:us[n]?=some t):jl M (.lst us) (N n)=some (t,t.lf):=by rw[QR,h];rfl
theorem qFz{n:Nat}(h:us[n]?=some t):jl M (.tup us) (N n)=some (t,t.lf):=by rw[zi,h];rfl
end
end _P
namespace GF
inductive Sp(L:List Nat):Nat->Prop
 |zero:Sp L 0
 |add{x y:Nat}:x∈L->Sp L y->Sp L (x ^^^ y)
theorem Sp.xor{L:List Nat}{a b:Nat}(h:Sp L a)(k:Sp L b):Sp L (a ^^^ b):=by
 induction h with
 |zero=>rw[Nat.zero_xor];exact k
 |add m _ ih=>rw[Nat.xor_assoc];exact .add m ih
theorem Sp.of{L:List Nat}{x:Nat}(h:x∈L):Sp L x:=by have:=Sp.add h (.zero (L:=L));rwa [Nat.xor_zero]at this
theorem Sp.sub{L K:List Nat}(h:∀x∈L,Sp K x){y:Nat}(k:Sp L y):Sp K y:=by
 induction k with
 |zero=>exact .zero
 |add m _ ih=>exact(h _ m).xor ih
theorem Sp.lt{L:List Nat}{b:Nat}(h:∀x∈L,x<2 ^ b){y:Nat}(k:Sp L y):y<2 ^ b:=by
 induction k with
 |zero=>exact Nat.pow_pos (by decide)
 |add m _ ih=>exact Nat.xor_lt_two_pow (h _ m) ih
noncomputable def rch(q t:Nat):Bool:=decide (q&&& t=t)
theorem rch_iff{q t:Nat}:rch q t=true↔∀i,t.testBit i=true->q.testBit i=true:=by
 unfold rch;rw[uT];constructor
 ·intro h i hi;have:=congrArg (·.testBit i) h;simp only[Nat.testBit_and,hi,vG]at this;exact this
 ·intro h;refine Nat.eq_of_testBit_eq λi=>?_;rw[Nat.testBit_and];cases e:t.testBit i with
  |true=>rw[h i e];rfl
  |false=>rw[wx]
theorem ZX{s x:Nat}(hx:x<2 ^ s)(i:Nat):(2 ^ s+x).testBit i=(decide (i=s)||x.testBit i):=by
 rcases Nat.lt_trichotomy i s with h|h|h
 ·rw[Nat.testBit_two_pow_add_gt h,uR (by omega),Bool.false_or]
 ·subst h;rw[Nat.testBit_two_pow_add_eq,wm hx];simp
 ·rw[wm (wK (show 2 ^ s+x<2 ^ (s+1) by rw[vZ];omega) (vN (by decide) h)),wm (wK hx (vN (by decide) (vD h))),uR (by omega)];rfl
theorem B9{s q t:Nat}(hq:q<2 ^ s)(ht:t<2 ^ s):rch (2 ^ s+q) t=rch q t:=by
 rw[wk,rch_iff,rch_iff];refine⟨λh i hi=>?_,λh i hi=>?_⟩
 ·have:=h i hi;rw[ZX hq]at this;by_cases e:i=s
  ·subst e;rw[wm ht]at hi;cases hi
  ·simpa [e] using this
 ·rw[ZX hq,h i hi,uN]
theorem C0{s q t:Nat}(hq:q<2 ^ s)(ht:t<2 ^ s):rch (2 ^ s+q) (2 ^ s+t)=rch q t:=by
 rw[wk,rch_iff,rch_iff];refine⟨λh i hi=>?_,λh i hi=>?_⟩
 ·have:=h i (by rw[ZX ht,hi,uN]);rw[ZX hq]at this;by_cases e:i=s
  ·subst e;rw[wm ht]at hi;cases hi
  ·simpa [e] using this
 ·rw[ZX ht]at hi;rw[ZX hq];by_cases e:i=s
  ·simp[e]
  ·rw[h i (by simpa [e] using hi),uN]
theorem U5{s q t:Nat}(hq:q<2 ^ s)(ht:t<2 ^ s):rch q (2 ^ s+t)=false:=by
 cases e:rch q (2 ^ s+t) with
 |false=>rfl
 |true=>
  have:=rch_iff.mp e s (by rw[ZX ht];simp);rw[wm hq]at this;cases this
noncomputable def lp:Nat->(Nat->Bool)->Nat->Bool
 | 0,S,p=>S p
 |s+1,S,p=>if p<2 ^ s then lp s (λt=>S t||S (t+2 ^ s)) p else lp s (λt=>S t&&S (t+2 ^ s)) (p-2 ^ s)
inductive Cb(s:Nat)(S:Nat->Bool):(Nat->Bool)->Prop
 |zero:Cb s S λ_=>false
 |add{t:Nat}{g:Nat->Bool}:t<2 ^ s->S t=false->Cb s S g->Cb s S λq=>(rch q t ^^ g q)
theorem pw(s:Nat):2 ^ (s+1)=2 ^ s+2 ^ s:=by rw[vZ];omega
theorem Cb.both{s:Nat}{S:Nat->Bool}{g:Nat->Bool}(h:Cb s (λt=>S t||S (t+2 ^ s)) g):∃g',Cb (s+1) S g'/\(∀q,q<2 ^ s->g' q=g q)/\∀q,q<2 ^ s->g' (2 ^ s+q)=false:=by
 have:=pw s
 induction h with
 |zero=>exact⟨_,.zero,λ_ _=>rfl,λ_ _=>rfl⟩
 | @add t g ht hS _ ih=>
  obtain⟨g',k,a,b⟩:=ih;simp only[vj]at hS;refine⟨_,.add (t:=t) (by omega) hS.1 (.add (t:=2 ^ s+t) (by omega) (by rw[uM];exact hS.2) k),λq hq=>?_,λq hq=>?_⟩
  ·rw[U5 hq ht,a q hq,vO]
  ·rw[B9 hq ht,C0 hq ht,b q hq,vU,uJ]
theorem Cb.one{s:Nat}{S:Nat->Bool}{g:Nat->Bool}(h:Cb s (λt=>S t&&S (t+2 ^ s)) g):∃g',Cb (s+1) S g'/\∀q,q<2 ^ s->g' (2 ^ s+q)=g q:=by
 have:=pw s
 induction h with
 |zero=>exact⟨_,.zero,λ_ _=>rfl⟩
 | @add t g ht hS _ ih=>
  obtain⟨g',k,b⟩:=ih;cases e:S t with
  |false=>
   refine⟨_,.add (t:=t) (by omega) e k,λq hq=>?_⟩;rw[B9 hq ht,b q hq]
  |true=>
   have e2:S (t+2 ^ s)=false:=by
    have:(S t&&S (t+2 ^ s))=false:=hS;rw[e,Bool.true_and]at this;exact this
   refine⟨_,.add (t:=2 ^ s+t) (by omega) (by rw[uM];exact e2) k,λq hq=>?_⟩;rw[C0 hq ht,b q hq]
theorem qGg:∀(s:Nat) (S:Nat->Bool) (p:Nat),p<2 ^ s->lp s S p=false->∃g,Cb s S g/\∀q,p<=q->q<2 ^ s->g q=decide (q=p)
 | 0,S,p,hp,h=>by
  have e:p=0:=by omega
  subst e;refine⟨_,.add (t:=0) (by decide) h .zero,λq _ hq=>?_⟩;rw[show q=0 by omega];rfl
 |s+1,S,p,hp,h=>by
  have:=pw s;unfold lp at h;split at h
  ·rename_i c;obtain⟨g,k,e⟩:=qGg s _ p c h;obtain⟨g',k',a,b⟩:=k.both;refine⟨g',k',λq h1 h2=>?_⟩;by_cases hq:q<2 ^ s
   ·rw[a q hq,e q h1 hq]
   ·have:=b (q-2 ^ s) (by omega);rw[show 2 ^ s+(q-2 ^ s)=q by omega]at this;rw[this,uR (by omega)]
  ·rename_i c;obtain⟨g,k,e⟩:=qGg s _ (p-2 ^ s) (by omega) h;obtain⟨g',k',b⟩:=k.one;refine⟨g',k',λq h1 h2=>?_⟩;have:=b (q-2 ^ s) (by omega);rw[show 2 ^ s+(q-2 ^ s)=q by omega,e (q-2 ^ s) (by omega) (by omega)]at this;rw[this];congr 1;rw[eq_iff_iff];omega
noncomputable def par:Nat->(Nat->Bool)->Bool
 | 0,_=>false
 |n+1,f=>(par n f ^^ f n)
theorem c7(m:Nat)(f:Nat->Bool):∀n,par (m+n) f=(par m f ^^ par n λt=>f (m+t))
 | 0=>by show par m f=(par m f ^^ false);rw[vU]
 |n+1=>by
  show (par (m+n) f ^^ f (m+n))=(par m f ^^ (par n (λt=>f (m+t)) ^^ f (m+n)));rw[c7 m f n,uO]
theorem qb:∀(n:Nat) (f g:Nat->Bool),(∀t,t<n->f t=g t)->par n f=par n g
 | 0,_,_,_=>rfl
 |n+1,f,g,h=>by unfold par;rw[qb n f g λt ht=>h t (by omega),h n (by omega)]
theorem za:∀(n:Nat),par n (λ_=>false)=false
 | 0=>rfl
 |n+1=>by unfold par;rw[za n];rfl
theorem A6:∀(n:Nat) (f g:Nat->Bool),par n (λt=>f t ^^ g t)=(par n f ^^ par n g)
 | 0,_,_=>rfl
 |n+1,f,g=>by
  show (par n (λt=>f t ^^ g t) ^^ (f n ^^ g n))=((par n f ^^ f n) ^^ (par n g ^^ g n));rw[A6 n f g];cases par n f<;>cases par n g<;>cases f n<;>cases g n<;>rfl
noncomputable def wd:Nat->(Nat->Bool)->Nat->Bool
 | 0,c,t=>c t
 |s+1,c,t=>if t<2 ^ s then (wd s c t ^^ wd s (λq=>c (2 ^ s+q)) t) else wd s (λq=>c (2 ^ s+q)) (t-2 ^ s)
theorem wd_congr:∀(s:Nat) (a b:Nat->Bool) (t:Nat),(∀q,q<2 ^ s->a q=b q)->t<2 ^ s->wd s a t=wd s b t
 | 0,a,b,t,h,ht=>h t ht
 |s+1,a,b,t,h,ht=>by
  have:=pw s;unfold wd;split
  ·rw[wd_congr s a b t (λq hq=>h q (by omega)) (by omega),wd_congr s _ (λq=>b (2 ^ s+q)) t (λq hq=>h _ (by omega)) (by omega)]
  ·exact wd_congr s _ _ _ (λq hq=>h _ (by omega)) (by omega)
theorem P1:∀(s:Nat) (a b:Nat->Bool) (t:Nat),wd s (λq=>a q ^^ b q) t=(wd s a t ^^ wd s b t)
 | 0,_,_,_=>rfl
 |s+1,a,b,t=>by
  unfold wd;split
  ·rw[P1 s a b,P1 s (λq=>a (2 ^ s+q)) λq=>b (2 ^ s+q)];generalize wd s a t=x;generalize wd s b t=y;generalize wd s (λq=>a (2 ^ s+q)) t=z;generalize wd s (λq=>b (2 ^ s+q)) t=u;cases x<;>cases y<;>cases z<;>cases u<;>rfl
  ·exact P1 s _ _ _
theorem qAG:∀(s:Nat) (c:Nat->Bool) (t:Nat),t<2 ^ s->wd s (wd s c) t=c t
 | 0,c,t,_=>rfl
 |s+1,c,t,ht=>by
  have:=pw s;have e2:∀t,t<2 ^ s->wd s (λq=>wd (s+1) c (2 ^ s+q)) t=c (2 ^ s+t):=λt ht=>by
   rw[wd_congr s _ (wd s λq=>c (2 ^ s+q)) t (λq hq=>by rw[wd,if_neg (by omega),wS]) ht];exact qAG s _ t ht
  have e1:∀t,t<2 ^ s->wd s (wd (s+1) c) t=(c t ^^ c (2 ^ s+t)):=λt ht=>by
   rw[wd_congr s _ (λq=>wd s c q ^^ wd s (λq=>c (2 ^ s+q)) q) t (λq hq=>by rw[wd,if_pos hq]) ht,P1,qAG s c t ht,qAG s _ t ht]
  rw[wd];split
  ·rename_i h;rw[e1 t h,e2 t h,uO,uJ,vU]
  ·rename_i h;rw[e2 (t-2 ^ s) (by omega),show 2 ^ s+(t-2 ^ s)=t by omega]
theorem Zq:∀(s:Nat) (c:Nat->Bool) (t:Nat),t<2 ^ s->wd s c t=par (2 ^ s) λq=>c q&&rch q t
 | 0,c,t,ht=>by
  rw[show t=0 by omega];show c 0=(false ^^ (c 0&&true));rw[vG,vO]
 |s+1,c,t,ht=>by
  have:=pw s;rw[this,c7,wd];split
  ·rename_i h;rw[Zq s c t h,Zq s _ t h];congr 1;exact qb _ _ _ λq hq=>by rw[B9 hq h]
  ·rename_i h;obtain⟨u,rfl⟩:∃u,t=2 ^ s+u:=⟨t-2 ^ s,by omega⟩
   have hu:u<2 ^ s:=by omega
   rw[wS,Zq s _ u hu,qb (2 ^ s) (λq=>c q&&rch q (2 ^ s+u)) (λ_=>false) (λq hq=>by rw[U5 hq hu,wx]),za,vO];exact qb _ _ _ λq hq=>by rw[C0 hq hu]
theorem qA6:∀(s:Nat) (S:Nat->Bool) (p:Nat),p<2 ^ s->lp s S p=true->∃c:Nat->Bool,(∀q,q<p->c q=false)/\c p=true/\∀t,t<2 ^ s->S t=false->wd s c t=false
 | 0,S,p,hp,h=>by
  have e:p=0:=by omega
  subst e;refine⟨λ_=>true,λq hq=>by omega,rfl,λt ht hS=>?_⟩;rw[show t=0 by omega]at hS;rw[show lp 0 S 0=S 0 from rfl]at h;rw[h]at hS;cases hS
 |s+1,S,p,hp,h=>by
  have:=pw s;unfold lp at h;split at h
  ·rename_i hq;obtain⟨c,c1,c2,c3⟩:=qA6 s _ p hq h;refine⟨λq=>if q<2 ^ s then c q else wd s (λt=>S (t+2 ^ s)&&wd s c t) (q-2 ^ s),λq h'=>?_,?_,λt ht hS=>?_⟩
   ·dsimp only;rw[if_pos (by omega)];exact c1 q h'
   ·dsimp only;rw[if_pos hq];exact c2
   ·have w1:∀t,t<2 ^ s->wd s (λq=>if q<2 ^ s then c q else wd s (λt=>S (t+2 ^ s)&&wd s c t) (q-2 ^ s)) t=wd s c t:=λt ht=>wd_congr s _ _ t (λq hq=>by rw[if_pos hq]) ht;have w2:∀t,t<2 ^ s->wd s (λq=>if 2 ^ s+q<2 ^ s then c (2 ^ s+q) else wd s (λt=>S (t+2 ^ s)&&wd s c t) (2 ^ s+q-2 ^ s)) t=(S (t+2 ^ s)&&wd s c t):=λt ht=>by
     rw[wd_congr s _ (wd s λt=>S (t+2 ^ s)&&wd s c t) t (λq hq=>by rw[if_neg (by omega),wS]) ht];exact qAG s _ t ht
    rw[wd];split
    ·rename_i ht';rw[w1 t ht',w2 t ht'];cases e:S (t+2 ^ s) with
     |true=>rw[Bool.true_and,uJ]
     |false=>
      rw[vh,vU];exact c3 t ht' (by rw[hS,e];rfl)
    ·rename_i ht';rw[w2 (t-2 ^ s) (by omega),show t-2 ^ s+2 ^ s=t by omega,hS,vh]
  ·rename_i hq;obtain⟨c,c1,c2,c3⟩:=qA6 s _ (p-2 ^ s) (by omega) h;refine⟨λq=>if q<2 ^ s then false else c (q-2 ^ s),λq h'=>?_,?_,λt ht hS=>?_⟩
   ·dsimp only;split
    ·rfl
    ·exact c1 _ (by omega)
   ·dsimp only;rw[if_neg hq];exact c2
   ·have w1:∀t,t<2 ^ s->wd s (λq=>if q<2 ^ s then false else c (q-2 ^ s)) t=false:=λt ht=>by
     rw[wd_congr s _ (λ_=>false) t (λq hq=>by rw[if_pos hq]) ht,Zq s _ t ht,qb _ _ (λ_=>false) (λq _=>by rw[vh]),za]
    have w2:∀t,t<2 ^ s->wd s (λq=>if 2 ^ s+q<2 ^ s then false else c (2 ^ s+q-2 ^ s)) t=wd s c t:=λt ht=>wd_congr s _ _ t (λq hq=>by rw[if_neg (by omega),wS]) ht;rw[wd];split
    ·rename_i ht';rw[w1 t ht',w2 t ht',vO];exact c3 t ht' (by rw[hS];rfl)
    ·rename_i ht';rw[w2 (t-2 ^ s) (by omega)];exact c3 _ (by omega) (by rw[show t-2 ^ s+2 ^ s=t by omega,hS,wx])
structure qFj(n p t x:Nat):Prop where
 bit:∀j,x.testBit j=(decide (p+j<n)&&rch (p+j) t)
theorem qGQ{s p:Nat}{S:Nat->Bool}{L:List Nat}(h:∀t,t<2 ^ s->S t=false->∃x∈L,qFj (2 ^ s) p t x){g:Nat->Bool}(k:Cb s S g):∃x,Sp L x/\∀j,x.testBit j=(decide (p+j<2 ^ s)&&g (p+j)):=by
 induction k with
 |zero=>exact⟨0,.zero,λj=>by rw[Nat.zero_testBit,wx]⟩
 | @add t g ht hS _ ih=>
  obtain⟨x,k,e⟩:=ih;obtain⟨m,hm,em⟩:=h t ht hS;refine⟨m ^^^ x,.add hm k,λj=>?_⟩;rw[Nat.testBit_xor,e,em.bit];cases decide (p+j<2 ^ s)<;>rfl
theorem qCh{s p:Nat}{S:Nat->Bool}{L:List Nat}(h:∀x∈L,∃t,t<2 ^ s/\S t=false/\qFj (2 ^ s) p t x){c:Nat->Bool}(c1:∀q,q<p->c q=false)(c3:∀t,t<2 ^ s->S t=false->wd s c t=false){x:Nat}(k:Sp L x):par (2 ^ s) (λq=>c q&&(decide (p<=q)&&x.testBit (q-p)))=false:=by
 induction k with
 |zero=>rw[qb _ _ (λ_=>false) λq _=>by rw[Nat.zero_testBit,wx,wx],za]
 | @add m y hm _ ih=>
  obtain⟨t,ht,hS,em⟩:=h m hm;rw[qb _ _ (λq=>(c q&&rch q t) ^^ (c q&&(decide (p<=q)&&y.testBit (q-p)))) (λq hq=>by
   by_cases hpq:p<=q
   ·rw[uS hpq,Nat.testBit_xor,em.bit,show p+(q-p)=q by omega,uS hq];cases c q<;>cases rch q t<;>cases y.testBit (q-p)<;>rfl
   ·rw[c1 q (by omega)];simp)]
  rw[A6,ih,<-Zq s c t ht,c3 t ht hS];rfl
theorem T9{s p:Nat}(hp:p<2 ^ s){S:Nat->Bool}{L:List Nat}(h1:∀t,t<2 ^ s->S t=false->∃x∈L,qFj (2 ^ s) p t x)(h2:∀x∈L,∃t,t<2 ^ s/\S t=false/\qFj (2 ^ s) p t x):Sp L 1↔lp s S p=false:=by
 constructor
 ·intro k;cases e:lp s S p with
  |false=>rfl
  |true=>
   exfalso;obtain⟨c,c1,c2,c3⟩:=qA6 s S p hp e;have:=qCh h2 c1 c3 k;rw[qb _ _ (λq=>decide (q=p)) (λq hq=>by
    rcases Nat.lt_trichotomy q p with z|z|z
    ·rw[c1 q z,uR (show ¬ q=p by omega)];rfl
    ·subst z;rw[c2,uS (wG _),Nat.sub_self,uS rfl];rfl
    ·rw[uR (show ¬ q=p by omega),show (1:Nat).testBit (q-p)=false from wm (by
      have:2 ^ 1<=2 ^ (q-p):=vN (by decide) (by omega);omega),wx,wx])]at this
   have one:∀n,p<n->par n (λq=>decide (q=p))=true:=by
    intro n
    induction n with
    |zero=>intro h;omega
    |succ n ih=>
     intro h;show (par n (λq=>decide (q=p)) ^^ decide (n=p))=true;by_cases z:n=p
     ·rw[qb n _ (λ_=>false) (λq hq=>uR (by omega)),za,uS z];rfl
     ·rw[ih (by omega),uR z];rfl
   rw[one _ hp]at this;cases this
 ·intro e;obtain⟨g,k,eg⟩:=qGg s S p hp e;obtain⟨x,kx,ex⟩:=qGQ h1 k;have:x=1:=Nat.eq_of_testBit_eq λj=>by
   rw[ex j];by_cases hj:p+j<2 ^ s
   ·rw[uS hj,eg (p+j) (by omega) hj,Bool.true_and];cases j with
    |zero=>simp
    |succ j=>rw[uR (by omega)];exact(wm (by
      have:2 ^ 1<=2 ^ (j+1):=vN (by decide) (by omega);omega)).symm
   ·rw[uR hj,vh];cases j with
    |zero=>omega
    |succ j=>exact(wm (by
      have:2 ^ 1<=2 ^ (j+1):=vN (by decide) (by omega);omega)).symm
  rw[<-this];exact kx
noncomputable def qm(l:List Nat)(f:Nat->Bool):Bool:=l.foldr (λx b=>(f x ^^ b)) false
theorem qc(x:Nat)(l:List Nat)(f:Nat->Bool):qm (x::l) f=(f x ^^ qm l f):=rfl
theorem ZT(f:Nat->Bool):∀a b:List Nat,qm (a++b) f=(qm a f ^^ qm b f)
 | [],b=>by show qm b f=(false ^^ qm b f);rw[vO]
 |x::a,b=>by rw[List.cons_append,qc,qc,ZT f a b,uO]
theorem zo{f g:Nat->Bool}:∀l:List Nat,(∀x∈l,f x=g x)->qm l f=qm l g
 | [],_=>rfl
 |x::l,h=>by rw[qc,qc,h x (by simp),zo l λy hy=>h y (by simp[hy])]
theorem QC{f:Nat->Bool}:∀l:List Nat,(∀x∈l,f x=false)->qm l f=false
 | [],_=>rfl
 |x::l,h=>by rw[qc,h x (by simp),QC l λy hy=>h y (by simp[hy])];rfl
theorem ZQ(g:Nat->Nat)(f:Nat->Bool):∀l:List Nat,qm (l.map g) f=qm l λx=>f (g x)
 | []=>rfl
 |x::l=>by rw[List.map_cons,qc,qc,ZQ g f l]
theorem JO(f p:Nat->Bool):∀l:List Nat,qm l f=(qm (l.filter p) f ^^ qm (l.filter λx=>!p x) f)
 | []=>rfl
 |x::l=>by
  have ih:=JO f p l;cases q:p x with
  |true=>
   rw[wq q,vA (by simp[q]),qc,qc,ih,uO]
  |false=>
   rw[vA (by simp[q]),wq (by simp[q]),qc,qc,ih];cases f x<;>cases qm (l.filter p) f<;>cases qm (l.filter λx=>!p x) f<;>rfl
theorem lpar_len(f:Nat->Bool):∀l:List Nat,(l.filter f).length % 2=(qm l f).toNat
 | []=>rfl
 |x::l=>by
  have ih:=lpar_len f l;rw[qc];cases q:f x with
  |true=>
   rw[wq q,List.length_cons];cases e:qm l f<;>rw[e]at ih<;>simp at ih ⊢<;>omega
  |false=>rw[vA (by simp[q]),ih];simp
theorem two_len(f g:Nat->Bool)(a b:List Nat):((a.filter f).length+(b.filter g).length) % 2=(qm a f ^^ qm b g).toNat:=by
 have h1:=lpar_len f a;have h2:=lpar_len g b;rw[Nat.add_mod,h1,h2];cases qm a f<;>cases qm b g<;>rfl
theorem swap(n:Nat)(c:Nat->Bool)(r:Nat->Nat->Bool):∀l:List Nat,par n (λq=>c q&&qm l (r q))=qm l λt=>par n λq=>c q&&r q t
 | []=>by
  show par n (λq=>c q&&false)=false;rw[qb _ _ (λ_=>false) λq _=>by rw[wx],za]
 |t::l=>by
  rw[qc,<-swap n c r l,<-A6];exact qb _ _ _ λq _=>by rw[qc];cases c q<;>rfl
theorem L9:∀(n P:Nat) (c:Nat->Bool),P<n->par n (λq=>c q&&decide (q=P))=c P
 | 0,P,c,h=>by omega
 |n+1,P,c,h=>by
  show (par n (λq=>c q&&decide (q=P)) ^^ (c n&&decide (n=P)))=c P;by_cases e:n=P
  ·subst e;rw[qb _ _ (λ_=>false) (λq hq=>by rw[uR (by omega),wx]),za,uS rfl,vG,vO]
  ·rw[L9 n P c (by omega),uR e,wx,vU]
def Ris(lo hi:Nat):List Nat->Prop
 | []=>True
 |x::L=>lo<=x/\x<hi/\Ris (x+1) hi L
theorem Ris.mem{hi:Nat}:∀{L:List Nat}{lo:Nat},Ris lo hi L->∀x∈L,lo<=x/\x<hi
 |y::L,lo,⟨a,b,c⟩,x,hx=>by
  rcases wI.mp hx with rfl|hx
  ·exact⟨a,b⟩
  ·have:=c.mem x hx;omega
theorem Ris.wide{hi lo' hi':Nat}:∀{L:List Nat}{lo:Nat},Ris lo hi L->lo'<=lo->hi<=hi'->Ris lo' hi' L
 | [],_,_,_,_=>trivial
 |y::L,lo,⟨a,b,c⟩,h1,h2=>⟨by omega,by omega,c.wide (wG _) h2⟩
theorem Ris.up{lo hi:Nat}:∀{L:List Nat},lo<=hi->Ris lo hi L->Ris lo hi L
 |_,_,h=>h
theorem Ris.app{mid hi:Nat}{B:List Nat}(hB:Ris mid hi B)(hm:mid<=hi):∀{A:List Nat}{lo:Nat},lo<=mid->Ris lo mid A->Ris lo hi (A++B)
 | [],lo,hl,_=>hB.wide hl (wG _)
 |y::A,lo,hl,⟨a,b,c⟩=>⟨a,by omega,Ris.app hB hm (by omega) c⟩
theorem Ris.add{hi:Nat}(d:Nat):∀{L:List Nat}{lo:Nat},Ris lo hi L->Ris (d+lo) (d+hi) (L.map (d + ·))
 | [],_,_=>trivial
 |y::L,lo,⟨a,b,c⟩=>⟨show d+lo<=d+y by omega,show d+y<d+hi by omega,(c.add d).wide (show d+y+1<=d+(y+1) by omega) (wG _)⟩
theorem Ris.filter{hi:Nat}(p:Nat->Bool):∀{L:List Nat}{lo:Nat},Ris lo hi L->Ris lo hi (L.filter p)
 | [],_,_=>trivial
 |y::L,lo,⟨a,b,c⟩=>by
  cases q:p y with
  |true=>rw[wq q];exact⟨a,b,c.filter p⟩
  |false=>rw[vA (by simp[q])];exact(c.filter p).wide (by omega) (wG _)
theorem JH:∀(n lo:Nat),Ris lo (lo+n) (List.range' lo n)
 | 0,_=>trivial
 |n+1,lo=>⟨wG _,by omega,by have:=JH n (lo+1);rw[show lo+1+n=lo+(n+1) by omega]at this;exact this⟩
theorem ris_range(n:Nat)(q:Nat->Bool):Ris 0 n ((List.range n).filter q):=by
 have:=JH n 0;rw[Nat.zero_add,<-va]at this;exact this.filter q
theorem Ris.once{hi p:Nat}:∀{L:List Nat}{lo:Nat},Ris lo hi L->qm L (λq=>decide (q=p))=decide (p∈L)
 | [],_,_=>by simp[qm]
 |y::L,lo,⟨a,b,c⟩=>by
  rw[qc,c.once];by_cases e:y=p
  ·subst e;have:¬ y∈L:=λh=>by have:=(c.mem y h).1;omega
   simp[this]
  ·have e':¬ p=y:=λz=>e z.symm;simp[e,e']
structure Told(s:Nat)(S:Nat->Bool)(P:Nat)(sp pl:List Nat):Prop where
 r1:Ris 0 (2 ^ s) sp
 r2:Ris 0 P pl
 off:∀t∈sp,S t=false
 sum:∀p,p<2 ^ s->(qm sp (λt=>rch p t) ^^ qm pl λq=>decide (q=p))=decide (p=P)
structure Qk(s:Nat)(S:Nat->Bool)(P:Nat)(c:Nat->Bool):Prop where
 c1:∀q,q<P->c q=false
 c2:c P=true
 c3:∀t,t<2 ^ s->S t=false->wd s c t=false
theorem never{s P:Nat}{S S':Nat->Bool}{sp pl:List Nat}{c:Nat->Bool}(hP:P<2 ^ s)(t:Told s S P sp pl)(hS:∀t∈sp,S' t=false)(o:Qk s S' P c):False:=by
 have e:=L9 (2 ^ s) P c hP;rw[o.c2]at e;have e2:par (2 ^ s) (λq=>c q&&decide (q=P))=par (2 ^ s) λq=>(c q&&qm sp (λt=>rch q t)) ^^ (c q&&qm pl λz=>decide (z=q)):=qb _ _ _ λq hq=>by
  rw[<-t.sum q hq];cases c q<;>rfl
 rw[e2,A6,swap,swap]at e;have a1:qm sp (λt=>par (2 ^ s) λq=>c q&&rch q t)=false:=QC _ λx hx=>by
  have:=(t.r1.mem x hx).2;rw[<-Zq s c x this];exact o.c3 x this (hS x hx)
 have a2:qm pl (λz=>par (2 ^ s) λq=>c q&&decide (z=q))=false:=QC _ λz hz=>by
  have:=(t.r2.mem z hz).2;rw[qb _ _ (λq=>c q&&decide (q=z)) λq _=>by rw[show (decide (z=q))=decide (q=z) by simp[eq_comm]],L9 _ z c (by omega)];exact o.c1 z this
 rw[a1,a2]at e;cases e
theorem Told.kept{s P:Nat}{S S':Nat->Bool}{sp pl:List Nat}(hP:P<2 ^ s)(t:Told s S P sp pl)(hS:∀t∈sp,S' t=false):lp s S' P=false:=by
 cases e:lp s S' P with
 |false=>rfl
 |true=>
  exfalso;obtain⟨c,c1,c2,c3⟩:=qA6 s S' P hP e;exact never hP t hS ⟨c1,c2,c3⟩
theorem told_one{S:Nat->Bool}(h:S 0=false):Told 0 S 0 [0] []:=
 ⟨⟨wG _,by decide,trivial⟩,trivial,λt ht=>by simp at ht;rw[ht];exact h,λp hp=>by
  have:p=0:=by omega
  subst this;rfl⟩
theorem told_first{s P:Nat}{S:Nat->Bool}{sp pl:List Nat}(hP:P<2 ^ s)(t:Told s (λt=>S t||S (t+2 ^ s)) P sp pl):Told (s+1) S P (sp++sp.map (2 ^ s + ·)) pl:=by
 have p2:=pw s;refine⟨?_,t.r2,λx hx=>?_,λp hp=>?_⟩
 ·rw[p2];have:=t.r1.add (2 ^ s);rw[uA]at this;exact Ris.app this (by omega) (by omega) t.r1
 ·rcases wJ.mp hx with h|h
  ·have:(S x||S (x+2 ^ s))=false:=t.off x h;rw[vj]at this;exact this.1
  ·obtain⟨y,hy,rfl⟩:=vM.mp h;have:(S y||S (y+2 ^ s))=false:=t.off y hy;rw[vj]at this;rw[uM];exact this.2
 ·rw[ZT,ZQ];have mem:=λx hx=>(t.r1.mem x hx).2;by_cases h:p<2 ^ s
  ·rw[QC (f:=λx=>rch p (2 ^ s+x)) sp λx hx=>U5 h (mem x hx),vU];exact t.sum p h
  ·obtain⟨q,rfl⟩:∃q,p=2 ^ s+q:=⟨p-2 ^ s,by omega⟩
   have hq:q<2 ^ s:=by omega
   rw[zo (f:=λx=>rch (2 ^ s+q) x) (g:=rch q) sp λx hx=>B9 hq (mem x hx),zo (f:=λx=>rch (2 ^ s+q) (2 ^ s+x)) (g:=rch q) sp λx hx=>C0 hq (mem x hx),uJ,vO];rw[QC _ λx hx=>uR (by have:=(t.r2.mem x hx).2;omega),uR (by omega)]
theorem told_second{s P:Nat}{S:Nat->Bool}{sp pl:List Nat}(hP:P<2 ^ s)(t:Told s (λt=>S t&&S (t+2 ^ s)) P sp pl):
  Told (s+1) S (2 ^ s+P) (sp.filter (λx=>S (2 ^ s+x))++(sp.filter λx=>!S (2 ^ s+x)).map (2 ^ s + ·)) (((List.range (2 ^ s)).filter λp=>qm (sp.filter λx=>S (2 ^ s+x)) (rch p))++pl.map (2 ^ s + ·)):=by
 have p2:=pw s;have mem:=λx hx=>(t.r1.mem x hx).2;have meml:∀x∈sp.filter (λx=>S (2 ^ s+x)),x<2 ^ s:=λx hx=>mem x (List.mem_filter.mp hx).1;have memu:∀x∈sp.filter (λx=>!S (2 ^ s+x)),x<2 ^ s:=λx hx=>mem x (List.mem_filter.mp hx).1;refine⟨?_,?_,λx hx=>?_,λp hp=>?_⟩
 ·rw[p2];have:=(t.r1.filter λx=>!S (2 ^ s+x)).add (2 ^ s);rw[uA]at this;exact Ris.app this (by omega) (by omega) (t.r1.filter _)
 ·have:=t.r2.add (2 ^ s);rw[uA]at this;exact Ris.app this (by omega) (by omega) (ris_range _ _)
 ·rcases wJ.mp hx with h|h
  ·obtain⟨h1,h2⟩:=List.mem_filter.mp h;have:(S x&&S (x+2 ^ s))=false:=t.off x h1;rw[uM x,h2,vG]at this;exact this
  ·obtain⟨y,hy,rfl⟩:=vM.mp h;simpa using (List.mem_filter.mp hy).2
 ·rw[ZT,ZT,ZQ,ZQ];have on:=(ris_range (2 ^ s) λp=>qm (sp.filter λx=>S (2 ^ s+x)) (rch p)).once (p:=p);rw[on];by_cases h:p<2 ^ s
  ·rw[QC (f:=λx=>rch p (2 ^ s+x)) _ λx hx=>U5 h (memu x hx),vU];rw[QC (f:=λx=>decide (2 ^ s+x=p)) _ λx hx=>uR (by omega),vU,uR (show ¬ p=2 ^ s+P by omega)];have:decide (p∈(List.range (2 ^ s)).filter λp=>qm (sp.filter λx=>S (2 ^ s+x)) (rch p))=qm (sp.filter λx=>S (2 ^ s+x)) (rch p):=by
    rw[wk,uT,List.mem_filter,wT];exact⟨λz=>z.2,λz=>⟨h,z⟩⟩
   rw[this];exact uJ _
  ·obtain⟨q,rfl⟩:∃q,p=2 ^ s+q:=⟨p-2 ^ s,by omega⟩
   have hq:q<2 ^ s:=by omega
   rw[zo (f:=λx=>rch (2 ^ s+q) x) (g:=rch q) _ λx hx=>B9 hq (meml x hx),zo (f:=λx=>rch (2 ^ s+q) (2 ^ s+x)) (g:=rch q) _ λx hx=>C0 hq (memu x hx)];rw[<-JO (rch q) (λx=>S (2 ^ s+x)) sp];rw[uR (show ¬ (2 ^ s+q)∈(List.range (2 ^ s)).filter _ by intro z;have:=wT.mp (List.mem_filter.mp z).1;omega),vO];rw[zo (f:=λx=>decide (2 ^ s+x=2 ^ s+q)) (g:=λx=>decide (x=q)) pl λx _=>by simp,t.sum q hq];simp
theorem open_one{S:Nat->Bool}(h:S 0=true):Qk 0 S 0 λ_=>true:=
 ⟨λq hq=>by omega,rfl,λt ht hS=>by
  have:t=0:=by omega
  subst this;rw[h]at hS;cases hS⟩
theorem open_second{s P:Nat}{S c:Nat->Bool}(o:Qk s (λt=>S t&&S (t+2 ^ s)) P c):Qk (s+1) S (2 ^ s+P) λq=>if q<2 ^ s then false else c (q-2 ^ s):=by
 have p2:=pw s;refine⟨λq h'=>?_,?_,λt ht hS=>?_⟩
 ·split
  ·rfl
  ·exact o.c1 _ (by omega)
 ·rw[if_neg (by omega),wS];exact o.c2
 ·have w1:∀t,t<2 ^ s->wd s (λq=>if q<2 ^ s then false else c (q-2 ^ s)) t=false:=λt ht=>by
   rw[wd_congr s _ (λ_=>false) t (λq hq=>by rw[if_pos hq]) ht,Zq s _ t ht,qb _ _ (λ_=>false) (λq _=>by rw[vh]),za]
  have w2:∀t,t<2 ^ s->wd s (λq=>if 2 ^ s+q<2 ^ s then false else c (2 ^ s+q-2 ^ s)) t=wd s c t:=λt ht=>wd_congr s _ _ t (λq hq=>by rw[if_neg (by omega),wS]) ht;rw[wd];split
  ·rename_i ht';rw[w1 t ht',w2 t ht',vO];exact o.c3 t ht' (by rw[hS];rfl)
  ·rename_i ht';rw[w2 (t-2 ^ s) (by omega)];exact o.c3 _ (by omega) (by rw[show t-2 ^ s+2 ^ s=t by omega,hS,wx])
noncomputable def hid(s:Nat)(S c:Nat->Bool)(t:Nat):Bool:=if S t then false else wd s c t
theorem open_first{s P:Nat}{S c:Nat->Bool}(hP:P<2 ^ s)(o:Qk s (λt=>S t||S (t+2 ^ s)) P c):Qk (s+1) S P λq=>if q<2 ^ s then c q else wd s (hid s S c) (q-2 ^ s):=by
 have p2:=pw s;refine⟨λq h'=>?_,?_,λt ht hS=>?_⟩
 ·rw[if_pos (by omega)];exact o.c1 q h'
 ·rw[if_pos hP];exact o.c2
 ·have w1:∀t,t<2 ^ s->wd s (λq=>if q<2 ^ s then c q else wd s (hid s S c) (q-2 ^ s)) t=wd s c t:=λt ht=>wd_congr s _ _ t (λq hq=>by rw[if_pos hq]) ht;have w2:∀t,t<2 ^ s->wd s (λq=>if 2 ^ s+q<2 ^ s then c (2 ^ s+q) else wd s (hid s S c) (2 ^ s+q-2 ^ s)) t=hid s S c t:=λt ht=>by
   rw[wd_congr s _ (wd s (hid s S c)) t (λq hq=>by rw[if_neg (by omega),wS]) ht,qAG s _ t ht]
  rw[wd];split
  ·rename_i ht';rw[w1 t ht',w2 t ht'];unfold hid;rw[hS];simp
  ·rename_i ht';rw[w2 (t-2 ^ s) (by omega)];unfold hid;cases e:S (t-2 ^ s) with
   |true=>rfl
   |false=>
    rw[if_neg (by decide)];exact o.c3 _ (by omega) (by rw[e,show t-2 ^ s+2 ^ s=t by omega,hS];rfl)
end GF
namespace _M
open PySem PySem.Spec PyProof.Rows _L _P
noncomputable def top(i:Nat):Stmt:=PySem.Challenge.pw_healhalves_k19_papers_looked_at.main.body.getD i (.Pass ⟨0,0,0,0⟩)
noncomputable def Tb:Tbl:=⟨[⟨"is_whole",top 9,["thing"],["thing"]⟩,
 ⟨"is_number_below",top 10,["thing","end"],["thing","end"]⟩,
 ⟨"is_rising",top 11,["thing","end"],["thing","end","least","number"]⟩,
 ⟨"has_form",top 12,["paper","word","parts"],["paper","word","parts"]⟩,
 ⟨"length_of",top 13,["size"],["size"]⟩,
 ⟨"is_size",top 14,["thing"],["thing"]⟩,
 ⟨"check_size",top 15,["size"],["size"]⟩,
 ⟨"check_place",top 16,["size","number"],["size","number"]⟩,
 ⟨"check_loss",top 18,["size","loss"],["size","loss"]⟩,
 ⟨"halves_below",top 19,["half","loss"],["half","loss","either","both"]⟩,
 ⟨"is_sign",top 21,["thing"],["thing"]⟩,
 ⟨"is_row",top 22,["thing","length"],["thing","length"]⟩,
 ⟨"sum_of",top 23,["signs"],["signs"]⟩,
 ⟨"added",top 24,["one","other"],["one","other"]⟩,
 ⟨"word_of",top 26,["core"],["core"]⟩,
 ⟨"is_core",top 27,["thing"],["thing"]⟩,
 ⟨"halved_word",top 28,["row"],["row","half","first","second"]⟩,
 ⟨"is_reached",top 29,["place","spot"],["place","spot"]⟩,
 ⟨"lets_paper",top 31,["size","loss","place","paper"],["size","loss","place","paper","length"]⟩,
 ⟨"lets_told",top 32,["length","loss","place","spots","places"],["length","loss","place","spots","places"]⟩,
 ⟨"sums_to",top 33,["length","place","spots","places"],["length","place","spots","places"]⟩,
 ⟨"sum_at",top 34,["place","spots","places"],["place","spots","places"]⟩,
 ⟨"lets_unsure",top 35,["length","loss","place","core"],["length","loss","place","core","word"]⟩,
 ⟨"paper_on",top 37,["size","loss","place"],["size","loss","place"]⟩,
 ⟨"paper_below",top 38,["length","loss","place"],["length","loss","place","half","halves"]⟩,
 ⟨"first_paper",top 39,["half","loss","paper"],["half","loss","paper"]⟩,
 ⟨"second_paper",top 40,["half","loss","paper"],["half","loss","paper"]⟩,
 ⟨"first_told",top 41,["half","spots","places"],["half","spots","places"]⟩,
 ⟨"first_unsure",top 42,["half","loss","core"],["half","loss","core","word","hiding"]⟩,
 ⟨"second_told",top 43,["half","loss","spots","places"],["half","loss","spots","places","upper","lower","ahead"]⟩,
 ⟨"_law_begun",top 45,["_law_script","_law_k"],["_law_script","_law_k","_law_cell","_law_number","_law_mixed"]⟩,
 ⟨"_law_take",top 46,["_law_state","_law_many"],["_law_state","_law_many","_law_digit","_law_made","_law_turn"]⟩,
 ⟨"_law_loss",top 47,["_law_state","_law_many"],["_law_state","_law_many","_law_way","_law_bound"]⟩,
 ⟨"_law_core",top 48,["_law_state","_law_many"],["_law_state","_law_many","_law_way","_law_at","_law_core_here"]⟩,
 ⟨"_law_word",top 49,["_law_core_here"],["_law_core_here","_law_found","_law_spot"]⟩,
 ⟨"_law_sums",top 50,["_law_many","_law_spots","_law_places","_law_place"],["_law_many","_law_spots","_law_places","_law_place","_law_one","_law_often"]⟩,
 ⟨"_law_due",top 51,["_law_many","_law_loss_here","_law_place","_law_paper"],["_law_many","_law_loss_here","_law_place","_law_paper","_law_spots","_law_places","_law_core_here","_law_word_here","_law_open_so"]⟩,
 ⟨"_law_bent_row",top 52,["_law_state","_law_many","_law_row"],["_law_state","_law_many","_law_row","_law_at","_law_new","_law_way"]⟩,
 ⟨"_law_bent",top 53,["_law_state","_law_many","_law_paper"],["_law_state","_law_many","_law_paper","_law_words","_law_way","_law_core_here","_law_at"]⟩,
 ⟨"_law_odd",top 54,["_law_many","_law_spots","_law_place"],["_law_many","_law_spots","_law_place","_law_found","_law_one","_law_often"]⟩,
 ⟨"_law_papers",top 55,["_law_state","_law_size","_law_many","_law_loss_here","_law_place"],["_law_state","_law_size","_law_many","_law_loss_here","_law_place","_law_paper","_law_spots","_law_places","_law_found","_law_kept"]⟩,
 ⟨"law",top 56,["_law_script"],["_law_script","_law_k","_law_state","_law_size","_law_many","_law_loss_here","_law_place","_law_paper","_law_kept","_law_due_here","_law_turn","_law_found"]⟩],
 [("LENGTHS",E.glob 0),("GREATEST_SIZE",E.cst (.int 5))],
 ["len","sum","all","any","max","min","list","int","tuple","range","zip","isinstance","bool","str","sorted","repr","set","ValueError"],[],[]⟩
noncomputable def gs:List O:=[O.tup [V.int 1,V.int 2,V.int 4,V.int 8,V.int 16,V.int 32]]
end _M
namespace _M
open PySem PySem.Spec _P
open _L (V)
open GF (Ris lp rch qm Told Qk wd par)
noncomputable def b0:Ss:=(.cons (.ret (.and (.isi (.var 0) ["int"]) (.not (.isi (.var 0) ["bool"])))) .nil)
theorem t0:Tb.fns[0]?=some ⟨1,1,b0⟩:=by kernel_rfl
noncomputable def b1:Ss:=(.cons (.ret (.and (.call 0 (.cons (.var 0) .nil)) (.cmp2 .le .lt (nE 0) (.var 0) (.var 1)))) .nil)
theorem t1:Tb.fns[1]?=some ⟨2,2,b1⟩:=by kernel_rfl
noncomputable def qCo:Ss:=(.cons (.ifs (.or (.not (.call 1 (.cons (.var 3) (.cons (.var 1) .nil)))) (.cmp .lt (.var 3) (.var 2))) (.cons (.ret (.cst (V.bl false))) .nil) .nil) (.cons (.asg (.name 2) (.bin .add (.var 3) (nE 1))) .nil))
noncomputable def b2:Ss:=(.cons (.ifs (.not (.isi (.var 0) ["list"])) (.cons (.ret (.cst (V.bl false))) .nil) .nil) (.cons (.asg (.name 2) (nE 0)) (.cons (.for_ (.name 3) (.list (.var 0)) qCo) (.cons (.ret (.cst (V.bl true))) .nil))))
theorem t2:Tb.fns[2]?=some ⟨2,4,b2⟩:=by kernel_rfl
noncomputable def b3:Ss:=(.cons (.ifs (.or (.not (.isi (.var 0) ["tuple"])) (.cmp .ne (.blt .len (.cons (.var 0) .nil)) (.var 2))) (.cons (.ret (.cst (V.bl false))) .nil) .nil) (.cons (.ret (.and (.isi (.idx (.var 0) (nE 0)) ["str"]) (.cmp .eq (.idx (.var 0) (nE 0)) (.var 1)))) .nil))
theorem t3:Tb.fns[3]?=some ⟨3,3,b3⟩:=by kernel_rfl
noncomputable def b4:Ss:=(.cons (.ret (.idx (.glob 0) (.var 0))) .nil)
theorem t4:Tb.fns[4]?=some ⟨1,1,b4⟩:=by kernel_rfl
noncomputable def b5:Ss:=(.cons (.ret (.and (.call 0 (.cons (.var 0) .nil)) (.cmp2 .le .le (nE 1) (.var 0) (nE 5)))) .nil)
theorem t5:Tb.fns[5]?=some ⟨1,1,b5⟩:=by kernel_rfl
noncomputable def b6:Ss:=(.cons (.ifs (.not (.call 5 (.cons (.var 0) .nil))) (.cons .stop .nil) .nil) .nil)
theorem t6:Tb.fns[6]?=some ⟨1,1,b6⟩:=by kernel_rfl
noncomputable def b7:Ss:=(.cons (.ifs (.not (.call 1 (.cons (.var 1) (.cons (.call 4 (.cons (.var 0) .nil)) .nil)))) (.cons .stop .nil) .nil) .nil)
theorem t7:Tb.fns[7]?=some ⟨2,2,b7⟩:=by kernel_rfl
noncomputable def b8:Ss:=(.cons (.ifs (.not (.call 2 (.cons (.var 1) (.cons (.call 4 (.cons (.var 0) .nil)) .nil)))) (.cons .stop .nil) .nil) .nil)
theorem t8:Tb.fns[8]?=some ⟨2,2,b8⟩:=by kernel_rfl
noncomputable def b9:Ss:=(.cons (.asg (.name 2) (.comp (.rng1 (.var 0)) [none,some 0,some 1] (.name 0) (.cons (.or (.cmp .inn (.var 0) (.var 2)) (.cmp .inn (.bin .add (.var 0) (.var 1)) (.var 2))) .nil) (.var 0))) (.cons (.asg (.name 3) (.comp (.rng1 (.var 0)) [none,some 0,some 1] (.name 0) (.cons (.and (.cmp .inn (.var 0) (.var 2)) (.cmp .inn (.bin .add (.var 0) (.var 1)) (.var 2))) .nil) (.var 0))) (.cons (.ret (.tup (.cons (.var 2) (.cons (.var 3) .nil)))) .nil)))
theorem t9:Tb.fns[9]?=some ⟨2,4,b9⟩:=by kernel_rfl
noncomputable def b10:Ss:=(.cons (.ret (.call 1 (.cons (.var 0) (.cons (nE 2) .nil)))) .nil)
theorem t10:Tb.fns[10]?=some ⟨1,1,b10⟩:=by kernel_rfl
noncomputable def b11:Ss:=(.cons (.ret (.and (.isi (.var 0) ["list"]) (.and (.cmp .eq (.blt .len (.cons (.var 0) .nil)) (.var 1)) (.blt .all (.cons (.comp (.list (.var 0)) [none] (.name 0) .nil (.call 10 (.cons (.var 0) .nil))) .nil))))) .nil)
theorem t11:Tb.fns[11]?=some ⟨2,2,b11⟩:=by kernel_rfl
noncomputable def b12:Ss:=(.cons (.ret (.bin .mod (.blt .sum (.cons (.var 0) .nil)) (nE 2))) .nil)
theorem t12:Tb.fns[12]?=some ⟨1,1,b12⟩:=by kernel_rfl
noncomputable def b13:Ss:=(.cons (.ret (.comp (.zip (.var 0) (.var 1)) [none,none] (.tup [0,1]) .nil (.call 12 (.cons (.lst (.cons (.var 0) (.cons (.var 1) .nil))) .nil)))) .nil)
theorem t13:Tb.fns[13]?=some ⟨2,2,b13⟩:=by kernel_rfl
noncomputable def b14:Ss:=(.cons (.ifs (.not (.call 15 (.cons (.var 0) .nil))) (.cons .stop .nil) .nil) (.cons (.ret (.call 16 (.cons (.var 0) .nil))) .nil))
theorem t14:Tb.fns[14]?=some ⟨1,1,b14⟩:=by kernel_rfl
noncomputable def b15:Ss:=(.cons (.ret (.blt .any (.cons (.comp (.rng2 (nE 1) (.bin .add (nE 5) (nE 1))) [none,some 0] (.name 0) .nil (.call 11 (.cons (.var 1) (.cons (.call 4 (.cons (.var 0) .nil)) .nil)))) .nil))) .nil)
theorem t15:Tb.fns[15]?=some ⟨1,1,b15⟩:=by kernel_rfl
noncomputable def b16:Ss:=(.cons (.ifs (.cmp .eq (.blt .len (.cons (.var 0) .nil)) (nE 1)) (.cons (.ret (.blt .list (.cons (.var 0) .nil))) .nil) .nil) (.cons (.asg (.name 1) (.bin .fdiv (.blt .len (.cons (.var 0) .nil)) (nE 2))) (.cons (.asg (.name 2) (.call 16 (.cons (.sl (.var 0) .nil (.cons (.var 1) .nil)) .nil))) (.cons (.asg (.name 3) (.call 16 (.cons (.sl (.var 0) (.cons (.var 1) .nil) .nil) .nil))) (.cons (.ret (.bin .add (.call 13 (.cons (.var 2) (.cons (.var 3) .nil))) (.var 3))) .nil)))))
theorem t16:Tb.fns[16]?=some ⟨1,4,b16⟩:=by kernel_rfl
noncomputable def b17:Ss:=(.cons (.ret (.cmp .eq (.bin .band (.var 0) (.var 1)) (.var 1))) .nil)
theorem t17:Tb.fns[17]?=some ⟨2,2,b17⟩:=by kernel_rfl
noncomputable def b18:Ss:=(.cons (.expr (.call 6 (.cons (.var 0) .nil))) (.cons (.expr (.call 8 (.cons (.var 0) (.cons (.var 1) .nil)))) (.cons (.expr (.call 7 (.cons (.var 0) (.cons (.var 2) .nil)))) (.cons (.asg (.name 4) (.call 4 (.cons (.var 0) .nil))) (.cons (.ifs (.call 3 (.cons (.var 3) (.cons (.cst (V.str "told")) (.cons (nE 3) .nil)))) (.cons (.ret (.call 19 (.cons (.var 4) (.cons (.var 1) (.cons (.var 2) (.cons (.idx (.var 3) (nE 1)) (.cons (.idx (.var 3) (nE 2)) .nil))))))) .nil) .nil) (.cons (.ifs (.call 3 (.cons (.var 3) (.cons (.cst (V.str "open")) (.cons (nE 2) .nil)))) (.cons (.ret (.call 22 (.cons (.var 4) (.cons (.var 1) (.cons (.var 2) (.cons (.idx (.var 3) (nE 1)) .nil)))))) .nil) .nil) (.cons (.ret (.cst (V.bl false))) .nil)))))))
theorem t18:Tb.fns[18]?=some ⟨4,5,b18⟩:=by kernel_rfl
noncomputable def b19:Ss:=(.cons (.ifs (.or (.not (.call 2 (.cons (.var 3) (.cons (.var 0) .nil)))) (.not (.call 2 (.cons (.var 4) (.cons (.var 2) .nil))))) (.cons (.ret (.cst (V.bl false))) .nil) .nil) (.cons (.ret (.and (.not (.blt .any (.cons (.comp (.list (.var 3)) [none,some 1] (.name 0) .nil (.cmp .inn (.var 0) (.var 1))) .nil))) (.call 20 (.cons (.var 0) (.cons (.var 2) (.cons (.var 3) (.cons (.var 4) .nil))))))) .nil))
theorem t19:Tb.fns[19]?=some ⟨5,5,b19⟩:=by kernel_rfl
noncomputable def b20:Ss:=(.cons (.ret (.blt .all (.cons (.comp (.rng1 (.var 0)) [none,some 1,some 3,some 2] (.name 0) .nil (.cmp .eq (.call 21 (.cons (.var 0) (.cons (.var 3) (.cons (.var 2) .nil)))) (.ite (.cmp .eq (.var 0) (.var 1)) (nE 1) (nE 0)))) .nil))) .nil)
theorem t20:Tb.fns[20]?=some ⟨4,4,b20⟩:=by kernel_rfl
noncomputable def b21:Ss:=(.cons (.ret (.call 12 (.cons (.bin .add (.comp (.list (.var 1)) [none,some 0] (.name 0) (.cons (.call 17 (.cons (.var 1) (.cons (.var 0) .nil))) .nil) (nE 1)) (.comp (.list (.var 2)) [none,some 0] (.name 0) (.cons (.cmp .eq (.var 0) (.var 1)) .nil) (nE 1))) .nil))) .nil)
theorem t21:Tb.fns[21]?=some ⟨3,3,b21⟩:=by kernel_rfl
noncomputable def b22:Ss:=(.cons (.ifs (.or (.not (.call 11 (.cons (.var 3) (.cons (.var 0) .nil)))) (.or (.cmp .inn (nE 1) (.sl (.var 3) .nil (.cons (.var 2) .nil))) (.cmp .eq (.idx (.var 3) (.var 2)) (nE 0)))) (.cons (.ret (.cst (V.bl false))) .nil) .nil) (.cons (.asg (.name 4) (.call 14 (.cons (.var 3) .nil))) (.cons (.ret (.blt .all (.cons (.comp (.rng1 (.var 0)) [none,some 1,some 4] (.name 0) (.cons (.cmp .notin (.var 0) (.var 1)) .nil) (.cmp .eq (.idx (.var 2) (.var 0)) (nE 0))) .nil))) .nil)))
theorem t22:Tb.fns[22]?=some ⟨4,5,b22⟩:=by kernel_rfl
noncomputable def b23:Ss:=(.cons (.expr (.call 6 (.cons (.var 0) .nil))) (.cons (.expr (.call 8 (.cons (.var 0) (.cons (.var 1) .nil)))) (.cons (.expr (.call 7 (.cons (.var 0) (.cons (.var 2) .nil)))) (.cons (.ret (.call 24 (.cons (.call 4 (.cons (.var 0) .nil)) (.cons (.var 1) (.cons (.var 2) .nil))))) .nil))))
theorem t23:Tb.fns[23]?=some ⟨3,3,b23⟩:=by kernel_rfl
noncomputable def b24:Ss:=(.cons (.ifs (.cmp .eq (.var 0) (nE 1)) (.cons (.ret (.ite (.cmp .eq (.var 1) (.lst .nil)) (.tup (.cons (.cst (V.str "told")) (.cons (.lst (.cons (nE 0) .nil)) (.cons (.lst .nil) .nil)))) (.tup (.cons (.cst (V.str "open")) (.cons (.lst (.cons (nE 1) .nil)) .nil))))) .nil) .nil) (.cons (.asg (.name 3) (.bin .fdiv (.var 0) (nE 2))) (.cons (.asg (.name 4) (.call 9 (.cons (.var 3) (.cons (.var 1) .nil)))) (.cons (.ifs (.cmp .lt (.var 2) (.var 3)) (.cons (.ret (.call 25 (.cons (.var 3) (.cons (.var 1) (.cons (.call 24 (.cons (.var 3) (.cons (.idx (.var 4) (nE 0)) (.cons (.var 2) .nil)))) .nil))))) .nil) .nil) (.cons (.ret (.call 26 (.cons (.var 3) (.cons (.var 1) (.cons (.call 24 (.cons (.var 3) (.cons (.idx (.var 4) (nE 1)) (.cons (.bin .sub (.var 2) (.var 3)) .nil)))) .nil))))) .nil)))))
theorem t24:Tb.fns[24]?=some ⟨3,5,b24⟩:=by kernel_rfl
noncomputable def b25:Ss:=(.cons (.ifs (.cmp .eq (.idx (.var 2) (nE 0)) (.cst (V.str "told"))) (.cons (.ret (.call 27 (.cons (.var 0) (.cons (.idx (.var 2) (nE 1)) (.cons (.idx (.var 2) (nE 2)) .nil))))) .nil) .nil) (.cons (.ret (.call 28 (.cons (.var 0) (.cons (.var 1) (.cons (.idx (.var 2) (nE 1)) .nil))))) .nil))
theorem t25:Tb.fns[25]?=some ⟨3,3,b25⟩:=by kernel_rfl
noncomputable def b26:Ss:=(.cons (.ifs (.cmp .eq (.idx (.var 2) (nE 0)) (.cst (V.str "told"))) (.cons (.ret (.call 29 (.cons (.var 0) (.cons (.var 1) (.cons (.idx (.var 2) (nE 1)) (.cons (.idx (.var 2) (nE 2)) .nil)))))) .nil) .nil) (.cons (.ret (.tup (.cons (.cst (V.str "open")) (.cons (.bin .add (.bin .mul (.lst (.cons (nE 0) .nil)) (.var 0)) (.idx (.var 2) (nE 1))) .nil)))) .nil))
theorem t26:Tb.fns[26]?=some ⟨3,3,b26⟩:=by kernel_rfl
noncomputable def b27:Ss:=(.cons (.ret (.tup (.cons (.cst (V.str "told")) (.cons (.bin .add (.var 1) (.comp (.list (.var 1)) [none,some 0] (.name 0) .nil (.bin .add (.var 1) (.var 0)))) (.cons (.var 2) .nil))))) .nil)
theorem t27:Tb.fns[27]?=some ⟨3,3,b27⟩:=by kernel_rfl
noncomputable def b28:Ss:=(.cons (.asg (.name 3) (.call 16 (.cons (.var 2) .nil))) (.cons (.asg (.name 4) (.comp (.rng1 (.var 0)) [none,some 1,some 3] (.name 0) .nil (.ite (.cmp .inn (.var 0) (.var 1)) (nE 0) (.idx (.var 2) (.var 0))))) (.cons (.ret (.tup (.cons (.cst (V.str "open")) (.cons (.bin .add (.var 2) (.call 16 (.cons (.var 4) .nil))) .nil)))) .nil)))
theorem t28:Tb.fns[28]?=some ⟨3,5,b28⟩:=by kernel_rfl
noncomputable def b29:Ss:=(.cons (.asg (.name 4) (.comp (.list (.var 2)) [none,some 0,some 1] (.name 0) (.cons (.cmp .notin (.bin .add (.var 1) (.var 0)) (.var 2)) .nil) (.bin .add (.var 1) (.var 0)))) (.cons (.asg (.name 5) (.comp (.list (.var 2)) [none,some 0,some 1] (.name 0) (.cons (.cmp .inn (.bin .add (.var 1) (.var 0)) (.var 2)) .nil) (.var 0))) (.cons (.asg (.name 6) (.comp (.rng1 (.var 0)) [none,some 5] (.name 0) (.cons (.cmp .eq (.call 12 (.cons (.comp (.list (.var 1)) [none,some 0] (.name 0) (.cons (.call 17 (.cons (.var 1) (.cons (.var 0) .nil))) .nil) (nE 1)) .nil)) (nE 1)) .nil) (.var 0))) (.cons (.ret (.tup (.cons (.cst (V.str "told")) (.cons (.bin .add (.var 5) (.var 4)) (.cons (.bin .add (.var 6) (.comp (.list (.var 3)) [none,some 0] (.name 0) .nil (.bin .add (.var 1) (.var 0)))) .nil))))) .nil))))
theorem t29:Tb.fns[29]?=some ⟨4,7,b29⟩:=by kernel_rfl
noncomputable def b30:Ss:=(.cons (.asg (.name 2) (.idx (.bin .add (.sl (.var 0) (.cons (.var 1) .nil) (.cons (.bin .add (.var 1) (nE 1)) .nil)) (.lst (.cons (nE 0) .nil))) (nE 0))) (.cons (.asg (.name 3) (.blt .max (.cons (.var 2) (.cons (.bin .sub (.neg (nE 1)) (.var 2)) .nil)))) (.cons (.asg (.name 4) (.bin .mod (.bin .add (.bin .add (.bin .add (.bin .mod (.var 3) (nE 2147483629)) (.bin .mul (nE 7919) (.var 1))) (.bin .mul (.bin .mul (nE 104729) (.var 1)) (.var 1))) (nE 11)) (nE 2147483629))) (.cons (.ret (.lst (.cons (.var 3) (.cons (.var 4) (.cons (.cmp .ge (.var 3) (.bin .pow (nE 10) (nE 18))) .nil))))) .nil))))
theorem t30:Tb.fns[30]?=some ⟨2,5,b30⟩:=by kernel_rfl
noncomputable def qEL:Ss:=(.cons (.put (.var 0) (nE 1) (.bin .mod (.bin .add (.bin .mul (.idx (.var 0) (nE 1)) (nE 48271)) (nE 11)) (nE 2147483647))) (.cons (.asg (.name 3) (.bin .add (.bin .mul (.var 3) (nE 2147483587)) (.bin .mod (.bin .mul (.idx (.var 0) (nE 1)) (.idx (.var 0) (nE 1))) (nE 2147483587)))) .nil))
noncomputable def b31:Ss:=(.cons (.ifs (.idx (.var 0) (nE 2)) (.cons (.asg (.name 2) (.bin .mod (.idx (.var 0) (nE 0)) (.var 1))) (.cons (.put (.var 0) (nE 0) (.bin .fdiv (.idx (.var 0) (nE 0)) (.var 1))) (.cons (.put (.var 0) (nE 2) (.cmp .gt (.idx (.var 0) (nE 0)) (nE 0))) (.cons (.ret (.var 2)) .nil)))) .nil) (.cons (.asg (.name 3) (nE 0)) (.cons (.for_ (.name 4) (.rng1 (.bin .add (nE 1) (.blt .int (.cons (.cmp .gt (.var 1) (.bin .pow (nE 10) (nE 6))) .nil)))) qEL) (.cons (.ret (.bin .mod (.bin .fdiv (.var 3) (nE 64)) (.var 1))) .nil))))
theorem t31:Tb.fns[31]?=some ⟨2,5,b31⟩:=by kernel_rfl
noncomputable def b32:Ss:=(.cons (.asg (.name 2) (.call 31 (.cons (.var 0) (.cons (nE 6) .nil)))) (.cons (.ifs (.cmp .eq (.var 2) (nE 0)) (.cons (.ret (.lst .nil)) .nil) .nil) (.cons (.ifs (.cmp .eq (.var 2) (nE 1)) (.cons (.ret (.lrng (.var 1))) .nil) .nil) (.cons (.asg (.name 3) (.idx (.lst (.cons (nE 2) (.cons (nE 3) (.cons (nE 4) (.cons (nE 8) .nil))))) (.bin .sub (.var 2) (nE 2)))) (.cons (.ret (.comp (.rng1 (.var 1)) [none,some 3,some 0] (.name 0) (.cons (.cmp .eq (.call 31 (.cons (.var 2) (.cons (.var 1) .nil))) (nE 0)) .nil) (.var 0))) .nil)))))
theorem t32:Tb.fns[32]?=some ⟨2,4,b32⟩:=by kernel_rfl
noncomputable def b33:Ss:=(.cons (.asg (.name 2) (.call 31 (.cons (.var 0) (.cons (nE 4) .nil)))) (.cons (.ifs (.cmp .eq (.var 2) (nE 0)) (.cons (.asg (.name 3) (.call 31 (.cons (.var 0) (.cons (.var 1) .nil)))) (.cons (.ret (.comp (.rng1 (.var 1)) [none,some 3] (.name 0) .nil (.blt .int (.cons (.cmp .eq (.var 0) (.var 1)) .nil)))) .nil)) .nil) (.cons (.asg (.name 4) (.comp (.rng1 (.var 1)) [none,some 0] (.name 0) .nil (.call 31 (.cons (.var 1) (.cons (nE 2) .nil))))) (.cons (.ifs (.cmp .eq (.var 2) (nE 1)) (.cons (.asg (.name 4) (.comp (.list (.var 4)) [none,some 0] (.name 0) .nil (.blt .int (.cons (.and (.cmp .eq (.var 0) (nE 1)) (.cmp .eq (.call 31 (.cons (.var 1) (.cons (nE 4) .nil))) (nE 0))) .nil)))) .nil) .nil) (.cons (.ret (.var 4)) .nil)))))
theorem t33:Tb.fns[33]?=some ⟨2,5,b33⟩:=by kernel_rfl
noncomputable def qAd:Ss:=(.cons (.expr (.app (.var 1) (.bin .mod (.blt .sum (.cons (.comp (.rng1 (.blt .len (.cons (.var 0) .nil))) [none,some 0,some 2] (.name 0) (.cons (.cmp .eq (.bin .band (.var 0) (.var 2)) (.var 2)) .nil) (.idx (.var 1) (.var 0))) .nil)) (nE 2)))) .nil)
noncomputable def b34:Ss:=(.cons (.asg (.name 1) (.lst .nil)) (.cons (.for_ (.name 2) (.rng1 (.blt .len (.cons (.var 0) .nil))) qAd) (.cons (.ret (.var 1)) .nil)))
theorem t34:Tb.fns[34]?=some ⟨1,3,b34⟩:=by kernel_rfl
noncomputable def W2:Ss:=(.cons (.asg (.name 5) (.bin .add (.blt .len (.cons (.comp (.list (.var 1)) [none,some 4] (.name 0) (.cons (.cmp .eq (.bin .band (.var 1) (.var 0)) (.var 0)) .nil) (.var 0)) .nil)) (.blt .int (.cons (.cmp .inn (.var 4) (.var 2)) .nil)))) (.cons (.ifs (.cmp .ne (.bin .mod (.var 5) (nE 2)) (.blt .int (.cons (.cmp .eq (.var 4) (.var 3)) .nil))) (.cons (.ret (.cst (V.bl false))) .nil) .nil) .nil))
noncomputable def b35:Ss:=(.cons (.for_ (.name 4) (.rng1 (.var 0)) W2) (.cons (.ret (.cst (V.bl true))) .nil))
theorem t35:Tb.fns[35]?=some ⟨4,6,b35⟩:=by kernel_rfl
noncomputable def b36:Ss:=(.cons (.ifs (.and (.cmp .eq (.idx (.var 3) (nE 0)) (.cst (V.str "told"))) (.cmp .eq (.blt .len (.cons (.var 3) .nil)) (nE 3))) (.cons (.asg (.tup [4,5]) (.sl (.var 3) (.cons (nE 1) .nil) .nil)) (.cons (.ifs (.cmp .ne (.var 4) (.comp (.rng1 (.var 0)) [none,some 1,some 4] (.name 0) (.cons (.and (.cmp .inn (.var 0) (.var 2)) (.cmp .notin (.var 0) (.var 1))) .nil) (.var 0))) (.cons (.ret (.cst (V.bl false))) .nil) .nil) (.cons (.ret (.and (.cmp .eq (.var 5) (.comp (.rng1 (.var 2)) [none,some 5] (.name 0) (.cons (.cmp .inn (.var 0) (.var 1)) .nil) (.var 0))) (.call 35 (.cons (.var 0) (.cons (.var 4) (.cons (.var 5) (.cons (.var 2) .nil))))))) .nil))) .nil) (.cons (.ifs (.or (.cmp .ne (.idx (.var 3) (nE 0)) (.cst (V.str "open"))) (.cmp .ne (.blt .len (.cons (.var 3) .nil)) (nE 2))) (.cons (.ret (.cst (V.bl false))) .nil) .nil) (.cons (.asg (.name 6) (.idx (.var 3) (nE 1))) (.cons (.ifs (.or (.cmp .ne (.blt .len (.cons (.var 6) .nil)) (.var 0)) (.cmp .ne (.comp (.list (.var 6)) [none] (.name 0) (.cons (.cmp .notin (.var 0) (.tup (.cons (nE 0) (.cons (nE 1) .nil)))) .nil) (.var 0)) (.lst .nil))) (.cons (.ret (.cst (V.bl false))) .nil) .nil) (.cons (.asg (.name 7) (.call 34 (.cons (.var 6) .nil))) (.cons (.asg (.name 8) (.cmp .eq (.comp (.rng1 (.var 0)) [none,some 1,some 7] (.name 0) (.cons (.and (.cmp .eq (.idx (.var 2) (.var 0)) (nE 1)) (.cmp .notin (.var 0) (.var 1))) .nil) (.var 0)) (.lst .nil))) (.cons (.ret (.and (.var 8) (.cmp .eq (.sl (.var 6) .nil (.cons (.bin .add (.var 2) (nE 1)) .nil)) (.bin .add (.bin .mul (.lst (.cons (nE 0) .nil)) (.var 2)) (.lst (.cons (nE 1) .nil)))))) .nil)))))))
theorem t36:Tb.fns[36]?=some ⟨4,9,b36⟩:=by kernel_rfl
noncomputable def b37:Ss:=(.cons (.asg (.name 3) (.call 31 (.cons (.var 0) (.cons (.bin .add (.blt .len (.cons (.var 2) .nil)) (nE 1)) .nil)))) (.cons (.asg (.name 4) (.call 31 (.cons (.var 0) (.cons (.var 1) .nil)))) (.cons (.asg (.name 5) (.call 31 (.cons (.var 0) (.cons (nE 4) .nil)))) (.cons (.ifs (.cmp .eq (.var 5) (nE 0)) (.cons (.ret (.sset (.bin .add (.bin .add (.sl (.var 2) .nil (.cons (.var 3) .nil)) (.lst (.cons (.var 4) .nil))) (.sl (.var 2) (.cons (.var 3) .nil) .nil)))) .nil) .nil) (.cons (.ifs (.cmp .eq (.var 5) (nE 1)) (.cons (.ret (.bin .add (.bin .add (.sl (.var 2) .nil (.cons (.var 3) .nil)) (.lst (.cons (.var 4) .nil))) (.sl (.var 2) (.cons (.var 3) .nil) .nil))) .nil) .nil) (.cons (.ifs (.cmp .eq (.var 5) (nE 2)) (.cons (.ret (.bin .add (.sl (.var 2) .nil (.cons (.var 3) .nil)) (.sl (.var 2) (.cons (.bin .add (.var 3) (nE 1)) .nil) .nil))) .nil) .nil) (.cons (.ret (.rev (.var 2))) .nil)))))))
theorem t37:Tb.fns[37]?=some ⟨3,6,b37⟩:=by kernel_rfl
noncomputable def b38:Ss:=(.cons (.asg (.name 3) (.lst (.cons (.cst (V.str "told")) (.cons (.cst (V.str "open")) (.cons (.cst (V.str "Told")) (.cons (.cst (V.str "")) .nil)))))) (.cons (.asg (.name 4) (.call 31 (.cons (.var 0) (.cons (nE 4) .nil)))) (.cons (.ifs (.cmp .eq (.var 4) (nE 0)) (.cons (.ret (.bin .add (.tup (.cons (.idx (.var 3) (.call 31 (.cons (.var 0) (.cons (nE 4) .nil)))) .nil)) (.sl (.var 2) (.cons (nE 1) .nil) .nil))) .nil) .nil) (.cons (.ifs (.cmp .eq (.var 4) (nE 1)) (.cons (.ret (.bin .add (.var 2) (.tup (.cons (.idx (.var 2) (.neg (nE 1))) .nil)))) .nil) .nil) (.cons (.ifs (.cmp .eq (.idx (.var 2) (nE 0)) (.cst (V.str "told"))) (.cons (.ifs (.cmp .eq (.var 4) (nE 2)) (.cons (.ret (.tup (.cons (.cst (V.str "told")) (.cons (.call 37 (.cons (.var 0) (.cons (.var 1) (.cons (.idx (.var 2) (nE 1)) .nil)))) (.cons (.idx (.var 2) (nE 2)) .nil))))) .nil) .nil) (.cons (.ret (.tup (.cons (.cst (V.str "told")) (.cons (.idx (.var 2) (nE 1)) (.cons (.call 37 (.cons (.var 0) (.cons (.var 1) (.cons (.idx (.var 2) (nE 2)) .nil)))) .nil))))) .nil)) .nil) (.cons (.asg (.name 5) (.blt .list (.cons (.idx (.var 2) (nE 1)) .nil))) (.cons (.asg (.name 6) (.call 31 (.cons (.var 0) (.cons (.var 1) .nil)))) (.cons (.put (.var 5) (.var 6) (.idx (.lst (.cons (.bin .sub (nE 1) (.idx (.var 5) (.var 6))) (.cons (nE 2) .nil))) (.blt .int (.cons (.cmp .eq (.call 31 (.cons (.var 0) (.cons (nE 8) .nil))) (nE 0)) .nil)))) (.cons (.ret (.tup (.cons (.cst (V.str "open")) (.cons (.idx (.lst (.cons (.var 5) (.cons (.sl (.var 5) (.cons (nE 1) .nil) .nil) (.cons (.bin .add (.var 5) (.lst (.cons (nE 0) .nil))) .nil)))) (.bin .mul (.blt .int (.cons (.cmp .eq (.var 4) (nE 3)) .nil)) (.call 31 (.cons (.var 0) (.cons (nE 3) .nil))))) .nil)))) .nil)))))))))
theorem t38:Tb.fns[38]?=some ⟨3,7,b38⟩:=by kernel_rfl
noncomputable def V6:Ss:=(.cons (.asg (.name 5) (.bin .add (.blt .len (.cons (.comp (.list (.var 1)) [none,some 4] (.name 0) (.cons (.cmp .eq (.bin .band (.var 1) (.var 0)) (.var 0)) .nil) (.var 0)) .nil)) (.blt .int (.cons (.cmp .eq (.var 4) (.var 2)) .nil)))) (.cons (.ifs (.cmp .eq (.bin .mod (.var 5) (nE 2)) (nE 1)) (.cons (.expr (.app (.var 3) (.var 4))) .nil) .nil) .nil))
noncomputable def b39:Ss:=(.cons (.asg (.name 3) (.lst .nil)) (.cons (.for_ (.name 4) (.rng1 (.var 0)) V6) (.cons (.ret (.var 3)) .nil)))
theorem t39:Tb.fns[39]?=some ⟨3,6,b39⟩:=by kernel_rfl
noncomputable def b40:Ss:=(.cons (.asg (.name 5) (.call 23 (.cons (.var 1) (.cons (.blt .list (.cons (.var 3) .nil)) (.cons (.var 4) .nil))))) (.cons (.asg (.name 6) (.comp (.rng1 (.var 2)) [none,some 0] (.name 0) (.cons (.cmp .eq (.call 31 (.cons (.var 1) (.cons (nE 4) .nil))) (nE 0)) .nil) (.var 0))) (.cons (.asg (.name 7) (.comp (.rng1 (.var 2)) [none,some 0] (.name 0) (.cons (.cmp .eq (.call 31 (.cons (.var 1) (.cons (nE 4) .nil))) (nE 0)) .nil) (.var 0))) (.cons (.asg (.name 8) (.lst (.cons (.var 5) (.cons (.tup (.cons (.cst (V.str "told")) (.cons (.var 6) (.cons (.var 7) .nil)))) (.cons (.tup (.cons (.cst (V.str "open")) (.cons (.call 33 (.cons (.var 0) (.cons (.var 2) .nil))) .nil))) .nil))))) (.cons (.asg (.name 8) (.bin .add (.var 8) (.lst (.cons (.call 38 (.cons (.var 0) (.cons (.var 2) (.cons (.var 5) .nil)))) (.cons (.call 38 (.cons (.var 0) (.cons (.var 2) (.cons (.var 5) .nil)))) (.cons (.call 38 (.cons (.var 0) (.cons (.var 2) (.cons (.var 5) .nil)))) .nil)))))) (.cons (.asg (.name 8) (.bin .add (.var 8) (.lst (.cons (.tup (.cons (.cst (V.str "told")) (.cons (.lst .nil) (.cons (.lst (.cons (.var 4) .nil)) .nil)))) (.cons (.tup (.cons (.cst (V.str "told")) (.cons (.var 6) (.cons (.call 39 (.cons (.var 2) (.cons (.var 6) (.cons (.var 4) .nil)))) .nil)))) .nil))))) (.cons (.asg (.name 9) (.comp (.list (.var 6)) [none,some 3] (.name 0) (.cons (.cmp .notin (.var 0) (.var 1)) .nil) (.var 0))) (.cons (.expr (.app (.var 8) (.tup (.cons (.cst (V.str "told")) (.cons (.var 9) (.cons (.call 39 (.cons (.var 2) (.cons (.var 9) (.cons (.var 4) .nil)))) .nil)))))) (.cons (.expr (.app (.var 8) (.call 23 (.cons (.var 1) (.cons (.blt .list (.cons (.var 3) .nil)) (.cons (.call 31 (.cons (.var 0) (.cons (.var 2) .nil))) .nil)))))) (.cons (.ret (.bin .add (.var 8) (.lst (.cons (.call 23 (.cons (.var 1) (.cons (.call 32 (.cons (.var 0) (.cons (.var 2) .nil))) (.cons (.var 4) .nil)))) .nil)))) .nil))))))))))
theorem t40:Tb.fns[40]?=some ⟨5,10,b40⟩:=by kernel_rfl
noncomputable def d7:Ss:=(.cons (.asg (.name 11) (.call 18 (.cons (.var 3) (.cons (.blt .list (.cons (.var 5) .nil)) (.cons (.var 6) (.cons (.var 7) .nil)))))) (.cons (.ifs (.or (.not (.isi (.var 11) ["bool"])) (.or (.cmp .ne (.var 11) (.var 9)) (.cmp .ne (.blt .repr (.cons (.var 7) .nil)) (.var 8)))) (.cons (.ret (.cst (V.bl false))) .nil) .nil) .nil))
noncomputable def i6:Ss:=(.cons (.asg (.name 8) (.blt .repr (.cons (.var 7) .nil))) (.cons (.asg (.name 9) (.call 36 (.cons (.var 4) (.cons (.var 5) (.cons (.var 6) (.cons (.var 7) .nil)))))) (.cons (.for_ (.name 10) (.rng1 (nE 2)) d7) .nil)))
noncomputable def qAb:Ss:=(.cons (.asg (.name 2) (.call 30 (.cons (.var 0) (.cons (.var 1) .nil)))) (.cons (.asg (.name 3) (.bin .add (nE 1) (.call 31 (.cons (.var 2) (.cons (nE 5) .nil))))) (.cons (.asg (.name 4) (.idx (.lst (.cons (nE 1) (.cons (nE 2) (.cons (nE 4) (.cons (nE 8) (.cons (nE 16) (.cons (nE 32) .nil))))))) (.var 3))) (.cons (.asg (.name 5) (.call 32 (.cons (.var 2) (.cons (.var 4) .nil)))) (.cons (.asg (.name 6) (.call 31 (.cons (.var 2) (.cons (.var 4) .nil)))) (.cons (.for_ (.name 7) (.list (.call 40 (.cons (.var 2) (.cons (.var 3) (.cons (.var 4) (.cons (.var 5) (.cons (.var 6) .nil))))))) i6) .nil))))))
noncomputable def b41:Ss:=(.cons (.for_ (.name 1) (.rng1 (.blt .max (.cons (nE 1) (.cons (.blt .min (.cons (nE 40) (.cons (.blt .len (.cons (.var 0) .nil)) .nil))) .nil)))) qAb) (.cons (.ret (.cst (V.bl true))) .nil))
theorem t41:Tb.fns[41]?=some ⟨1,12,b41⟩:=by kernel_rfl
noncomputable def Cs:List (List Nat):=List.replicate 34 []++[[1],[],[],[],[5],[3],[1008],[2]]
theorem gl0:(glT gs)[0]?=some (.tup [N 1,N 2,N 4,N 8,N 16,N 32]):=rfl
section
variable{k:Nat}
theorem f0(hk:1<=k)(i:Nat)(M:Mem):Pk (glT gs) Tb.fns Cs k 0 [N i] M=.ok (bT true,M):=by
 rw[qS t0 ⟨rfl,by decide⟩ hk];simp[b0,je,qA]
theorem f1(hk:2<=k)(i e:Nat)(M:Mem):Pk (glT gs) Tb.fns Cs k 1 [N i,N e] M=.ok (bT (decide (i<e)),M):=by
 rw[qS t1 ⟨rfl,by decide⟩ (by omega)];simp(disch:=omega) [b1,f0,qA]
theorem f4(hk:1<=k){s:Nat}(hs:s<=5)(M:Mem):Pk (glT gs) Tb.fns Cs k 4 [N s] M=.ok ((N (2 ^ s),true),M):=by
 rw[qS t4 ⟨rfl,by decide⟩ hk];have:s=0\/s=1\/s=2\/s=3\/s=4\/s=5:=by omega
 rcases this with rfl|rfl|rfl|rfl|rfl|rfl<;>simp[b4,gl0,qA]
theorem f5(hk:2<=k){s:Nat}(h1:1<=s)(hs:s<=5)(M:Mem):Pk (glT gs) Tb.fns Cs k 5 [N s] M=.ok (bT true,M):=by
 rw[qS t5 ⟨rfl,by decide⟩ (by omega)];simp(disch:=omega) [b5,f0,h1,hs,qA]
theorem f6(hk:3<=k){s:Nat}(h1:1<=s)(hs:s<=5)(M:Mem):Pk (glT gs) Tb.fns Cs k 6 [N s] M=.ok ((.v .non,true),M):=by
 rw[qS t6 ⟨rfl,by decide⟩ (by omega)];simp(disch:=omega) [b6,f5,Js,h1,hs]
theorem f2L(hk:2<=k){M:Mem}{t:T}:∀(L:List Nat) (lo n:Nat) (o:Option T),Ris lo n L->∃σ',jJ [] (.name 3) (pxs (glT gs) (Pk (glT gs) Tb.fns Cs k) [] qCo) (L.map N) [some t,some (N n),some (N lo),o] M=.ok (.nx σ',M)
 | [],lo,n,o,_=>⟨_,rfl⟩
 |x::L,lo,n,o,⟨h1,h2,h3⟩=>by
  obtain⟨σ',e⟩:=f2L hk (M:=M) (t:=t) L (x+1) n (some (N x)) h3;refine⟨σ',?_⟩;have a2:¬ (x<lo):=by omega
  rw[<-e,List.map_cons,zJ,qCo];simp(disch:=omega) [f1,h2,a2]
theorem f2(hk:3<=k){L:List Nat}{n:Nat}(h:Ris 0 n L)(M:Mem):Pk (glT gs) Tb.fns Cs k 2 [NL L,N n] M=.ok (bT true,M):=by
 rw[qS t2 ⟨rfl,by decide⟩ (by omega)];obtain⟨σ',e⟩:=f2L (k:=k-1) (by omega) (M:=M) (t:=NL L) L 0 n none h;rw[show Cs.getD 2 []=[] from rfl];simp[b2,je,e,qA]
theorem f8(hk:4<=k){L:List Nat}{s:Nat}(hs:s<=5)(h:Ris 0 (2 ^ s) L)(M:Mem):Pk (glT gs) Tb.fns Cs k 8 [N s,NL L] M=.ok ((.v .non,true),M):=by
 rw[qS t8 ⟨rfl,by decide⟩ (by omega)];simp(disch:=omega) [b8,f4,hs,f2,h,Js]
noncomputable def hE(half:Nat)(L:List Nat):List Nat:=(List.range half).filter λt=>decide (t∈L)||decide (t+half∈L)
noncomputable def hB(half:Nat)(L:List Nat):List Nat:=(List.range half).filter λt=>decide (t∈L)&&decide (t+half∈L)
theorem p5{s:Nat}(h:s<=5):2 ^ s<=32:=wN (vN (by decide) h) (by decide)
theorem f9(hk:1<=k){L:List Nat}{half:Nat}(hh:half<=1000)(M:Mem):Pk (glT gs) Tb.fns Cs k 9 [N half,NL L] M=.ok ((.tup [NL (hE half L),NL (hB half L)],false),M):=by
 rw[qS t9 ⟨rfl,by decide⟩ hk];have e1:∀{P:Nat->List T->Mem->PR (TB×Mem)}{σ:TS},pei (glT gs) P (.rng1 (.var 0)) (some (N half)::σ) M=.ok (((List.range half).map N,[]),M):=λ{P σ}=>by simp(disch:=omega) [zP]
 have hl:(List.range half).length<=lim:=by simp[lim];omega
 have c1:∀{P:Nat->List T->Mem->PR (TB×Mem)}{o2 o3:Option T},pe (glT gs) P (.comp (.rng1 (.var 0)) [none,some 0,some 1] (.name 0) (.cons (.or (.cmp .inn (.var 0) (.var 2)) (.cmp .inn (.bin .add (.var 0) (.var 1)) (.var 2))) .nil) (.var 0)) [some (N half),some (NL L),o2,o3] M=.ok ((NL (hE half L),true),M):=by
  intro P o2 o3;rw[pe_comp,e1,tD];dsimp only[jb];refine(zF (λt=>decide (t∈L)||decide (t+half∈L)) id hl (λx _=>?_) (λx _ _=>by simp)).trans (by rw[List.map_id];rfl);by_cases h:x∈L<;>simp[qAQ,h]
 have c2:∀{P:Nat->List T->Mem->PR (TB×Mem)}{o2 o3:Option T},pe (glT gs) P (.comp (.rng1 (.var 0)) [none,some 0,some 1] (.name 0) (.cons (.and (.cmp .inn (.var 0) (.var 2)) (.cmp .inn (.bin .add (.var 0) (.var 1)) (.var 2))) .nil) (.var 0)) [some (N half),some (NL L),o2,o3] M=.ok ((NL (hB half L),true),M):=by
  intro P o2 o3;rw[pe_comp,e1,tD];dsimp only[jb];refine(zF (λt=>decide (t∈L)&&decide (t+half∈L)) id hl (λx _=>?_) (λx _ _=>by simp)).trans (by rw[List.map_id];rfl);by_cases h:x∈L<;>simp[qAQ,h]
 rw[show Cs.getD 9 []=[] from rfl,b9];simp[-pe_comp,c1,c2,QF,qA,lim]
end
noncomputable def stT(a b:Nat)(c:Bool):List T:=[N a,N b,.v (.bl c)]
def Good(M:Mem)(n:Nat):Prop:=∃a b c,M[n]?=some (stT a b c)/\b<2147483647
theorem qG5{k:Nat}(hk:1<=k){M:Mem}{n m a b:Nat}(hm:0<m/\m<=1000000)(e:M[n]?=some [N a,N b,.v (.bl true)])(e':∀y,(M.set n y)[n]?=some y):
  Pk (glT gs) Tb.fns Cs k 31 [.cell n,N m] M=.ok ((N (a % m),true),M.set n [N (a / m),N b,.v (.bl (decide (0<a / m)))]):=by
 rw[qS t31 ⟨rfl,by decide⟩ hk,b31,show Cs.getD 31 []=[] from rfl];simp(disch:=omega) [QY,Jr,e,e'];rw[qA (by simp)]
theorem pw6{M:Mem}:qx M .pow (N 10) (N 6)=some (N 1000000,true):=by rw[qBS (by decide)]
theorem ml1{M:Mem}(x:Nat):qx M .mul (N x) (N 48271)=some (N (x*48271),true):=Zp (.inr (by decide))
theorem ml2{M:Mem}(x:Nat):qx M .mul (N x) (N 2147483587)=some (N (x*2147483587),true):=Zp (.inr (by decide))
theorem qHE{k:Nat}(hk:1<=k){M:Mem}{n m a b:Nat}(hm:0<m/\m<=1000000)(e:M[n]?=some [N a,N b,.v (.bl false)])(e':∀y,(M.set n y)[n]?=some y)(hb:b<2147483647){b':Nat}(hb':(b*48271+11) % 2147483647=b')(hq:b'<2147483647):
  Pk (glT gs) Tb.fns Cs k 31 [.cell n,N m] M=.ok ((N ((0*2147483587+b' * b' % 2147483587) / 64 % m),true),M.set n [N a,N b',.v (.bl false)]):=by
 rw[qS t31 ⟨rfl,by decide⟩ hk,b31,show Cs.getD 31 []=[] from rfl];have hm3:¬ (1000000<m):=Nat.not_lt.mpr hm.2;have hm2:∀{M:Mem},qa M .gt (N m) (N 1000000)=some false:=λ{M}=>(qGf m 1000000).trans (by rw[uR hm3]);have ml3:∀{M:Mem},qx M .mul (N b') (N b')=some (N (b' * b'),true):=λ{M}=>Zp (.inl (vL hq (by decide)));have md1:∀{M:Mem}(x:Nat),qx M .mod (N x) (N 2147483647)=some (N (x % 2147483647),true):=λ{M} x=>QY (by decide);have md2:∀{M:Mem}(x:Nat),qx M .mod (N x) (N 2147483587)=some (N (x % 2147483587),true):=λ{M} x=>QY (by decide);have md3:∀{M:Mem}(x:Nat),qx M .mod (N x) (N m)=some (N (x % m),true):=λ{M} x=>QY hm.1;have fd:∀{M:Mem}(x:Nat),qx M .fdiv (N x) (N 64)=some (N (x / 64),true):=λ{M} x=>Jr (by decide);have rg:qC3 (N 1)=some [N 0]:=zP (by decide);simp[hb',ml1,ml2,ml3,md1,md2,md3,fd,pw6,rg,hm2,qEL,e,e'];rw[qA (by simp)]
theorem take{k:Nat}(hk:1<=k){M:Mem}{n m:Nat}(g:Good M n)(hm:0<m/\m<=1000000):∃d M',Pk (glT gs) Tb.fns Cs k 31 [.cell n,N m] M=.ok ((N d,true),M')/\d<m/\Good M' n/\M'.length=M.length/\∀j,j≠n->M'[j]?=M[j]?:=by
 obtain⟨a,b,c,e,hb⟩:=g;have hn:n<M.length:=(wC.mp e).1;have e':∀y,(M.set n y)[n]?=some y:=λy=>wv hn;cases c with
 |true=>exact⟨_,_,qG5 hk hm e e',uG _ hm.1,⟨a / m,b,decide (0<a / m),e' _,hb⟩,by simp,λj hj=>by rw[wf (Ne.symm hj)]⟩
 |false=>
  have hq:(b*48271+11) % 2147483647<2147483647:=uG _ (by decide);exact⟨_,_,qHE hk hm e e' hb rfl hq,uG _ hm.1,⟨a,_,false,e' _,hq⟩,by simp,λj hj=>by rw[wf (Ne.symm hj)]⟩
theorem qG2{k:Nat}(hk:1<=k)(ns:List Int){kk:Nat}(hkk:kk<=63)(M:Mem):∃a b c,Pk (glT gs) Tb.fns Cs k 30 [.fz (ns.map λn=>.v (.int n)),N kk] M=.ok ((.lst (stT a b c),true),M)/\b<2147483647:=by
 generalize hS:ns.map (λn=>T.v (V.int n))=S;obtain⟨cl,hcl⟩:∃cl:Int,((S.drop kk).take 1++[N 0])[0]?=some (.v (.int cl)):=by
  rw[<-hS];cases h:ns.drop kk with
  |nil=>exact⟨0,by rw[<-List.map_drop,h];rfl⟩
  |cons x r=>exact⟨x,by rw[<-List.map_drop,h];rfl⟩
 obtain⟨num,hnum⟩:∃num:Nat,(if -1-cl>cl then -1-cl else cl)=(num:Int):=⟨(if -1-cl>cl then -1-cl else cl).toNat,by split<;>omega⟩
 have hl:((S.drop kk).take 1).length+[N 0].length<=lim:=by
  have:((S.drop kk).take 1).length<=1:=List.length_take_le _ _;simp[lim];omega
 have c1:∀{M:Mem},qx M .add (.lst (jx S (some (kk:Int)) (some ((kk:Int)+1)))) (.lst [N 0])=some (.lst ((S.drop kk).take 1++[N 0]),T.lfs ((S.drop kk).take 1++[N 0])):=λ{M}=>by
  rw[show ((kk:Int)+1)=((kk+1:Nat):Int) by omega,qDK,R6 hl];rfl
 generalize (S.drop kk).take 1++[N 0]=W at hcl c1;have mx:∀{M:Mem},jE M .max [.v (.int cl),.v (.int (-1-cl))]=some (N num,true):=λ{M}=>by rw[qBm];unfold iT;rw[hnum];rfl
 have md:∀{M:Mem}(x:Nat),qx M .mod (N x) (N 2147483629)=some (N (x % 2147483629),true):=λ{M} x=>QY (by decide);have m1:∀{M:Mem}(x:Nat),qx M .mul (N 7919) (N x)=some (N (7919*x),true):=λ{M} x=>Zp (.inl (by decide));have m2:∀{M:Mem}(x:Nat),qx M .mul (N 104729) (N x)=some (N (104729*x),true):=λ{M} x=>Zp (.inl (by decide));have m3:∀{M:Mem}(x:Nat),qx M .mul (N x) (N kk)=some (N (x*kk),true):=λ{M} x=>Zp (.inr (Nat.lt_of_le_of_lt hkk (by decide)));have pw:∀{M:Mem},qx M .pow (N 10) (N 18)=some (N 1000000000000000000,true):=λ{M}=>by rw[qBS (by decide)]
 refine⟨num,(num % 2147483629+7919*kk+104729*kk*kk+11) % 2147483629,decide (1000000000000000000<=num),?_,vL (uG _ (by decide)) (by decide)⟩;rw[qS t30 ⟨rfl,by decide⟩ hk,b30,show Cs.getD 30 []=[] from rfl];simp[c1,hcl,mx,md,m1,m2,m3,pw,stT,lim];rw[qA rfl]
noncomputable abbrev rf(m:Nat)(q:Nat->Bool):List Nat:=(List.range m).filter q
structure Kept(n:Nat)(M M':Mem):Prop where
 good:Good M' n
 len:M'.length=M.length
 oth:∀j,j≠n->M'[j]?=M[j]?
theorem Kept.trans{n:Nat}{A B C:Mem}(x:Kept n A B)(y:Kept n B C):Kept n A C:=⟨y.good,y.len.trans x.len,λj hj=>(y.oth j hj).trans (x.oth j hj)⟩
theorem QH{k:Nat}(hk:1<=k){M:Mem}{n m:Nat}(g:Good M n)(hm:0<m/\m<=1000000):∃d M',Pk (glT gs) Tb.fns Cs k 31 [.cell n,N m] M=.ok ((N d,true),M')/\d<m/\Kept n M M':=by
 obtain⟨d,M',e,h1,h2,h3,h4⟩:=take hk g hm;exact⟨d,M',e,h1,h2,h3,h4⟩
theorem qB4(m:Nat)(q:Nat->Bool):Ris 0 m (rf m q):=GF.ris_range m q
theorem S9{n:Nat}{p q:Nat->Bool}(h:∀t,t<n->p t=q t):rf n p=rf n q:=vg λt ht=>h t (wT.mp ht)
theorem G3{n:Nat}{q:Nat->Bool}{t:Nat}:t∈rf n q↔t<n/\q t=true:=by
 unfold rf;rw[List.mem_filter,wT]
theorem qF7(n:Nat)(S:Nat->Bool):hE n (rf (n+n) S)=rf n λt=>S t||S (t+n):=by
 unfold hE;refine S9 λt ht=>?_;have h1:decide (t∈rf (n+n) S)=S t:=by
  rw[wk,uT,G3];exact⟨λz=>z.2,λz=>⟨by omega,z⟩⟩
 have h2:decide (t+n∈rf (n+n) S)=S (t+n):=by
  rw[wk,uT,G3];exact⟨λz=>z.2,λz=>⟨by omega,z⟩⟩
 rw[h1,h2]
theorem qHC(n:Nat)(S:Nat->Bool):hB n (rf (n+n) S)=rf n λt=>S t&&S (t+n):=by
 unfold hB;refine S9 λt ht=>?_;have h1:decide (t∈rf (n+n) S)=S t:=by
  rw[wk,uT,G3];exact⟨λz=>z.2,λz=>⟨by omega,z⟩⟩
 have h2:decide (t+n∈rf (n+n) S)=S (t+n):=by
  rw[wk,uT,G3];exact⟨λz=>z.2,λz=>⟨by omega,z⟩⟩
 rw[h1,h2]
theorem p2(s:Nat):2 ^ (s+1)=2 ^ s+2 ^ s:=by rw[vZ];omega
theorem n9(a b:Nat)(c:Bool):T.unds 0 (stT a b c)=true:=by
 unfold stT T.unds T.unds T.unds T.unds;rw[l5,l5];rfl
theorem zK{n:Nat}{M M':Mem}(h:FlatM M)(k:Kept n M M'):FlatM M':=λc hc=>by
 obtain⟨j,hj⟩:=List.mem_iff_getElem?.mp hc;by_cases e:j=n
 ·subst e;obtain⟨a,b,t,e2,_⟩:=k.good;rw[hj]at e2;cases e2;exact n9 a b t
 ·rw[k.oth j e]at hj;exact h c (wZ hj)
theorem slm{M:Mem}{t:T}{L:List Nat}(h:IsL M t L)(xs:List T)(lo hi:Option Int):Jd t xs lo hi=some (lT (jx xs lo hi)):=by
 cases t with
 |tup ts=>exact absurd h.ty (by show some "tuple"≠some "list";decide)
 |_=>rfl
section
variable{k:Nat}
theorem f10(hk:3<=k)(i:Nat)(M:Mem):Pk (glT gs) Tb.fns Cs k 10 [N i] M=.ok (bT (decide (i<2)),M):=by
 rw[qS t10 ⟨rfl,by decide⟩ (by omega)];simp(disch:=omega) [b10,f1,qA]
theorem f11(hk:4<=k){M:Mem}{t:T}{L:List Nat}(h:IsL M t L)(hl:L.length<=1000)(m:Nat):Pk (glT gs) Tb.fns Cs k 11 [t,N m] M=.ok (bT (decide (L.length=m)&&L.all λx=>decide (x<2)),M):=by
 rw[qS t11 ⟨rfl,by decide⟩ (by omega),b11];obtain⟨d,s1,_,s2⟩:=h.src;have c:=G8 (d:=d) (c:=pec (glT gs) (Pk (glT gs) Tb.fns Cs (k-1)) .nil) (e:=pe (glT gs) (Pk (glT gs) Tb.fns Cs (k-1)) (.call 10 (.cons (.var 0) .nil))) (M:=M) (σ:=[]) (λ_=>true) (λx=>.v (.bl (decide (x<2)))) (λ_=>true) L [] true none s2 (by simp[lim];omega) (λx _=>by simp) (λx _ _=>by simp(disch:=omega) [f10,bT]);rw[zZ,List.nil_append]at c;by_cases hm:L.length=m
 ·simp[h.ty,je,h.len,hm,s1,c,qB6,qA]
 ·simp[h.ty,je,h.len,hm,qA]
noncomputable def xr(x y:Nat):Nat:=(x+y) % 2
theorem f12(hk:1<=k)(x y:Nat)(M:Mem):Pk (glT gs) Tb.fns Cs k 12 [NL [x,y]] M=.ok ((N (xr x y),true),M):=by
 rw[qS t12 ⟨rfl,by decide⟩ hk];have:=(IsL.nl M [x,y]).sum;simp(disch:=omega) [b12,this,QY,qA,xr,QF]
theorem f13(hk:2<=k){A B:List Nat}(hl:A.length<=1000)(M:Mem):Pk (glT gs) Tb.fns Cs k 13 [NL A,NL B] M=.ok ((NL (List.zipWith xr A B),true),M):=by
 rw[qS t13 ⟨rfl,by decide⟩ (by omega),b13];have c:=T6 (gl:=glT gs) (P:=Pk (glT gs) Tb.fns Cs (k-1)) (d:=[]) (e:=pe (glT gs) (Pk (glT gs) Tb.fns Cs (k-1)) (.call 12 (.cons (.lst (.cons (.var 0) (.cons (.var 1) .nil))) .nil))) (M:=M) xr rfl A B [] true none none (by simp[lim];omega) (λx y _ _=>by
  have:=f12 (k:=k-1) (by omega) x y M;simp[NL]at this;simp[lim,this])
 simp at c;simp[QF,qAT,NL];simp[NL]at c;rw[c,tD,tD];simp[qA]
noncomputable def wrd:Nat->List Nat->List Nat
 | 0,L=>L
 |s+1,L=>List.zipWith xr (wrd s (L.take (2 ^ s))) (wrd s (L.drop (2 ^ s)))++wrd s (L.drop (2 ^ s))
theorem jC:∀(s:Nat) (L:List Nat),L.length=2 ^ s->(wrd s L).length=2 ^ s
 | 0,L,h=>h
 |s+1,L,h=>by
  have h':L.length=2 ^ s+2 ^ s:=by rw[h,vZ];omega
  have l1:=jC s (L.take (2 ^ s)) (by rw[wl];omega);have l2:=jC s (L.drop (2 ^ s)) (by rw[wo];omega);show (List.zipWith xr _ _++wrd s _).length=_;rw[wY,vq,l1,l2,vZ];omega
theorem f16:∀(s:Nat){k:Nat}(hk:s+3<=k) (hs:s<=5){M:Mem}{t:T}{L:List Nat}(h:IsL M t L) (hl:L.length=2 ^ s),Pk (glT gs) Tb.fns Cs k 16 [t] M=.ok ((NL (wrd s L),true),M)
 | 0,k,hk,hs,M,t,L,h,hl=>by
  rw[qS t16 ⟨rfl,by decide⟩ (by omega),b16];simp[h.len,hl,h.list,qA,wrd]
 |s+1,k,hk,hs,M,t,L,h,hl=>by
  have h5:=p5 (show s<=5 by omega);have hp:0<2 ^ s:=Nat.pow_pos (by decide);have hl':L.length=2 ^ s+2 ^ s:=by rw[hl,vZ];omega
  have i1:=f16 s (k:=k-1) (by omega) (by omega) (IsL.nl M (L.take (2 ^ s))) (by rw[wl];omega);have i2:=f16 s (k:=k-1) (by omega) (by omega) (IsL.nl M (L.drop (2 ^ s))) (by rw[wo];omega);have l1:=jC s (L.take (2 ^ s)) (by rw[wl];omega);have l2:=jC s (L.drop (2 ^ s)) (by rw[wo];omega);have n1:¬ (2 ^ s+2 ^ s=1):=by omega
  have d1:(2 ^ s+2 ^ s) / 2=2 ^ s:=by omega
  have x1:jx (L.map N) none (some ((2 ^ s:Nat):Int))=(L.take (2 ^ s)).map N:=by rw[Qf (by simp;omega),List.map_take]
  have x2:jx (L.map N) (some ((2 ^ s:Nat):Int)) none=(L.drop (2 ^ s)).map N:=by rw[Zy (by simp;omega),List.map_drop]
  have hL:∀K:List Nat,lT (K.map N)=(NL K,true):=λK=>by unfold lT;rw[JE];rfl
  rw[qS t16 ⟨rfl,by decide⟩ (by omega),b16,show Cs.getD 16 []=[] from rfl];have x1':jx (L.map N) none (some ((2:Int) ^ s))=(L.take (2 ^ s)).map N:=by rw[<-x1];simp
  have x2':jx (L.map N) (some ((2:Int) ^ s)) none=(L.drop (2 ^ s)).map N:=by rw[<-x2];simp
  have y1:lT (jx (L.map N) none (some ((2:Int) ^ s)))=(NL (L.take (2 ^ s)),true):=by rw[x1',hL]
  have y2:lT (jx (L.map N) (some ((2:Int) ^ s)) none)=(NL (L.drop (2 ^ s)),true):=by rw[x2',hL]
  simp(disch:=omega) [h.len,hl',n1,Jr,d1,h.its,slm h,y1,y2,i1,i2,QF,f13,l1];rw[J7 (by simp[l1,l2,lim];omega)];simp[qA,wrd]
theorem f15(hk:5<=k){M:Mem}{t:T}{L:List Nat}(h:IsL M t L){s:Nat}(h1:1<=s)(hs:s<=5)(hl:L.length=2 ^ s)(hb:∀x∈L,x<2):Pk (glT gs) Tb.fns Cs k 15 [t] M=.ok (bT true,M):=by
 have h5:=p5 hs;have ha:(L.all λx=>decide (x<2))=true:=by rw[wc];exact λx hx=>uS (hb x hx)
 rw[qS t15 ⟨rfl,by decide⟩ (by omega),b15];have c:=ZV (c:=pec (glT gs) (Pk (glT gs) Tb.fns Cs (k-1)) .nil) (e:=pe (glT gs) (Pk (glT gs) Tb.fns Cs (k-1)) (.call 11 (.cons (.var 1) (.cons (.call 4 (.cons (.var 0) .nil)) .nil)))) (M:=M) (σ:=[some t]) (λ_=>true) (λx=>.v (.bl (decide (L.length=2 ^ x)))) (λ_=>true) (List.range' 1 5) [] true none (by simp[lim]) (λx _=>by simp) (λx hx _=>by
  have hx:x<=5:=by simp[List.mem_range']at hx;omega
  have:=f11 (k:=k-1) (by omega) h (by omega) (2 ^ x);simp(disch:=omega) [f4,hx,this,ha,bT])
 rw[zZ,List.nil_append]at c;simp(disch:=omega) [qB5,c,qEV,qA];have:s=1\/s=2\/s=3\/s=4\/s=5:=by omega
 rw[hl];rcases this with rfl|rfl|rfl|rfl|rfl<;>simp[List.range']
theorem f14(hk:10<=k){M:Mem}{t:T}{L:List Nat}(h:IsL M t L){s:Nat}(h1:1<=s)(hs:s<=5)(hl:L.length=2 ^ s)(hb:∀x∈L,x<2):Pk (glT gs) Tb.fns Cs k 14 [t] M=.ok ((NL (wrd s L),true),M):=by
 rw[qS t14 ⟨rfl,by decide⟩ (by omega),b14];have e8:=f15 (k:=k-1) (by omega) h h1 hs hl hb;have e9:=f16 s (k:=k-1) (by omega) hs h hl;simp[e8,e9,qA]
noncomputable def Ts(s:Str):T:=.v (.str s)
theorem ZR:∀(L:List Nat),(L.map λ_=>1).sum=L.length
 | []=>rfl
 |x::L=>by rw[List.map_cons,List.sum_cons,ZR L,List.length_cons];omega
theorem jP{n x:Nat}{S:Nat->Bool}(h:x<n):decide (x∈rf n S)=S x:=by
 rw[wk,uT,G3];exact⟨λz=>z.2,λz=>⟨h,z⟩⟩
theorem qFM(hk:1<=k)(L:List Nat)(M:Mem):Pk (glT gs) Tb.fns Cs k 12 [NL L] M=.ok ((N (L.sum % 2),true),M):=by
 rw[qS t12 ⟨rfl,by decide⟩ hk,b12,show Cs.getD 12 []=[] from rfl];have sm:=(IsL.nl M L).sum;simp(disch:=omega) [sm,QY,qA]
theorem qGG(hk:1<=k)(p t:Nat)(M:Mem):Pk (glT gs) Tb.fns Cs k 17 [N p,N t] M=.ok (bT (rch p t),M):=by
 rw[qS t17 ⟨rfl,by decide⟩ hk,b17,show Cs.getD 17 []=[] from rfl];simp[Ja,qA,rch]
theorem qE0(hk:1<=k){sp:List Nat}(hl:sp.length<=1000)(p:Nat)(M:Mem){o:Option T}:qg [] (.name 0) (pec (glT gs) (Pk (glT gs) Tb.fns Cs k) (.cons (.call 17 (.cons (.var 1) (.cons (.var 0) .nil))) .nil)) (pe (glT gs) (Pk (glT gs) Tb.fns Cs k) (nE 1)) (sp.map N) [] true [o,some (N p)] M=.ok ((NL ((sp.filter (rch p)).map λ_=>1),true),M):=
 zF (rch p) (λ_=>1) (by simp[lim];omega) (λx _=>by simp[qGG hk]) (λx _ _=>by simp)
theorem qEO(hk:2<=k){sp pl:List Nat}(h1:sp.length<=1000)(h2:pl.length<=1000)(p:Nat)(M:Mem):Pk (glT gs) Tb.fns Cs k 21 [N p,NL sp,NL pl] M=.ok ((N (qm sp (rch p) ^^ qm pl λq=>decide (q=p)).toNat,true),M):=by
 rw[qS t21 ⟨rfl,by decide⟩ (by omega),b21,show Cs.getD 21 []=[] from rfl];have c1:=qE0 (k:=k-1) (by omega) h1 p M (o:=none);have c2:=zF (M:=M) (o:=none) (σ:=[some (N p)]) (its:=pl) (c:=pec (glT gs) (Pk (glT gs) Tb.fns Cs (k-1)) (.cons (.cmp .eq (.var 0) (.var 1)) .nil)) (e:=pe (glT gs) (Pk (glT gs) Tb.fns Cs (k-1)) (nE 1)) (λq=>decide (q=p)) (λ_=>1) (by simp[lim];omega) (λx _=>by simp) (λx _ _=>by simp);have l1:(sp.filter (rch p)).length<=sp.length:=vC _ _;have l2:(pl.filter λq=>decide (q=p)).length<=pl.length:=vC _ _;have ad:∀{M:Mem},qx M .add (NL ((sp.filter (rch p)).map λ_=>1)) (NL ((pl.filter λq=>decide (q=p)).map λ_=>1))=some (NL (((sp.filter (rch p)).map λ_=>1)++((pl.filter λq=>decide (q=p)).map λ_=>1)),true):=λ{M}=>J7 (by simp[lim];omega);have e:=qFM (k:=k-1) (by omega) (((sp.filter (rch p)).map λ_=>1)++((pl.filter λq=>decide (q=p)).map λ_=>1)) M;rw[List.sum_append,ZR,ZR,GF.two_len]at e;generalize (sp.filter (rch p)).map (λ_=>1)=A at *;generalize (pl.filter λq=>decide (q=p)).map (λ_=>1)=B at *;simp[c1,c2,-ZS,ad,e,qA]
theorem qDa(hk:3<=k){n P:Nat}(hn:n<=32){sp pl:List Nat}(h1:sp.length<=1000)(h2:pl.length<=1000)(M:Mem):Pk (glT gs) Tb.fns Cs k 20 [N n,N P,NL sp,NL pl] M=.ok (bT ((List.range n).all λp=>(qm sp (rch p) ^^ qm pl λq=>decide (q=p))==decide (p=P)),M):=by
 rw[qS t20 ⟨rfl,by decide⟩ (by omega),b20,show Cs.getD 20 []=[] from rfl];have c:=ZV (M:=M) (σ:=[some (N P),some (NL pl),some (NL sp)]) (c:=pec (glT gs) (Pk (glT gs) Tb.fns Cs (k-1)) .nil) (e:=pe (glT gs) (Pk (glT gs) Tb.fns Cs (k-1)) (.cmp .eq (.call 21 (.cons (.var 0) (.cons (.var 3) (.cons (.var 2) .nil)))) (.ite (.cmp .eq (.var 0) (.var 1)) (nE 1) (nE 0)))) (λ_=>true) (λp=>.v (.bl ((qm sp (rch p) ^^ qm pl λq=>decide (q=p))==decide (p=P)))) (λ_=>true) (List.range n) [] true none (by simp[lim];omega) (λx _=>by simp) (λx _ _=>by
  have e:=qEO (k:=k-1) (by omega) h1 h2 x M;generalize (qm sp (rch x) ^^ qm pl λq=>decide (q=x))=b at *;by_cases q:x=P
  ·subst q;cases b<;>simp[e,bT,QF]
  ·cases b<;>simp[e,q,bT,QF])
 rw[zZ,List.nil_append,show ((List.range n).all λ_=>true)=true from wc.mpr λ_ _=>rfl]at c;have rg:=zP (n:=n) (by omega);have al:=λM=>qB6 (M:=M) (λp=>(qm sp (rch p) ^^ qm pl λq=>decide (q=p))==decide (p=P)) (List.range n);simp[rg,c,-Qy,al,qA]
theorem jZ{hi:Nat}:∀{L:List Nat}{lo:Nat},Ris lo hi L->L.length<=hi-lo
 | [],_,_=>vI _
 |y::L,lo,⟨a,b,c⟩=>by have:=jZ c;rw[List.length_cons];omega
theorem qGi(hk:5<=k){n P:Nat}(hn:n<=32)(hP:P<n){sp pl lo:List Nat}(r1:Ris 0 n sp)(r2:Ris 0 P pl)(M:Mem):Pk (glT gs) Tb.fns Cs k 19 [N n,NL lo,N P,NL sp,NL pl] M=.ok (bT (!(sp.any λt=>decide (t∈lo))&&(List.range n).all λp=>(qm sp (rch p) ^^ qm pl λq=>decide (q=p))==decide (p=P)),M):=by
 have l1:=jZ r1;have l2:=jZ r2;rw[qS t19 ⟨rfl,by decide⟩ (by omega),b19,show Cs.getD 19 []=[] from rfl];have q1:=f2 (k:=k-1) (by omega) r1 M;have q2:=f2 (k:=k-1) (by omega) r2 M;have c:=ZV (M:=M) (σ:=[some (NL lo)]) (c:=pec (glT gs) (Pk (glT gs) Tb.fns Cs (k-1)) .nil) (e:=pe (glT gs) (Pk (glT gs) Tb.fns Cs (k-1)) (.cmp .inn (.var 0) (.var 1))) (λ_=>true) (λt=>.v (.bl (decide (t∈lo)))) (λ_=>true) sp [] true none (by simp[lim];omega) (λx _=>by simp) (λx _ _=>by simp[qAQ,bT]);rw[zZ,List.nil_append,show (sp.all λ_=>true)=true from wc.mpr λ_ _=>rfl]at c;have an:=λM=>qEV (M:=M) (λt=>decide (t∈lo)) sp;have e:=qDa (k:=k-1) (by omega) hn (P:=P) (sp:=sp) (pl:=pl) (by omega) (by omega) M;generalize (sp.any λt=>decide (t∈lo))=b at *;generalize ((List.range n).all λp=>(qm sp (rch p) ^^ qm pl λq=>decide (q=p))==decide (p=P))=b2 at *;cases b<;>simp[q1,q2,c,-Qy,an,e,qA,bT]
noncomputable def cB(L:List Nat)(q:Nat):Bool:=decide (L.getD q 0=1)
theorem qCz{L:List Nat}{m q:Nat}(h:q<m):cB (L.take m) q=cB L q:=by
 unfold cB;rw[wE,wE,wg h]
theorem qCw{L:List Nat}{m q:Nat}:cB (L.drop m) q=cB L (m+q):=by
 unfold cB;rw[wE,wE,vd]
theorem qH9(a b:Bool):xr a.toNat b.toNat=(a ^^ b).toNat:=by cases a<;>cases b<;>rfl
theorem Zj:∀{s:Nat},s<=5->∀{L:List Nat},L.length=2 ^ s->(∀x∈L,x<2)->∀{t:Nat},t<2 ^ s->(wrd s L).getD t 0=(wd s (cB L) t).toNat
 | 0,_,L,hl,hb,t,ht=>by
  have:t=0:=by omega
  subst this
  match L,hl with
  | [x],_=>
   have:=hb x (by simp);rcases(by omega:x=0\/x=1) with rfl|rfl<;>rfl
 |s+1,h5,L,hl,hb,t,ht=>by
  have p2:=GF.pw s;have l1:(L.take (2 ^ s)).length=2 ^ s:=by rw[wl];omega
  have l2:(L.drop (2 ^ s)).length=2 ^ s:=by rw[wo];omega
  have w1:=jC s _ l1;have w2:=jC s _ l2;have i1:=λ{t} (h:t<2 ^ s)=>Zj (s:=s) (by omega) l1 (λx hx=>hb x (vm hx)) (t:=t) h;have i2:=λ{t} (h:t<2 ^ s)=>Zj (s:=s) (by omega) l2 (λx hx=>hb x (vP hx)) (t:=t) h;have c1:=λ{t} (h:t<2 ^ s)=>GF.wd_congr s (cB (L.take (2 ^ s))) (cB L) t (λq hq=>qCz hq) h;have c2:=λ{t} (h:t<2 ^ s)=>GF.wd_congr s (cB (L.drop (2 ^ s))) (λq=>cB L (2 ^ s+q)) t (λq _=>qCw) h;show (List.zipWith xr _ _++wrd s _).getD t 0=_;rw[GF.wd];have lz:(List.zipWith xr (wrd s (L.take (2 ^ s))) (wrd s (L.drop (2 ^ s)))).length=2 ^ s:=by rw[vq,w1,w2];omega
  by_cases h:t<2 ^ s
  ·rw[if_pos h,<-c1 h,<-c2 h,<-qH9,<-i1 h,<-i2 h];rw[wE,wB (by omega),List.getElem?_zipWith,getD_some (by omega),getD_some (by omega)];rfl
  ·rw[if_neg h,<-c2 (by omega),<-i2 (by omega),wE,wL (by omega),lz,<-wE]
theorem d6:∀{s:Nat}{L:List Nat},L.length=2 ^ s->(∀x∈L,x<2)->∀x∈wrd s L,x<2
 | 0,L,_,hb,x,hx=>hb x hx
 |s+1,L,hl,hb,x,hx=>by
  have p2:=GF.pw s;have hx:x∈List.zipWith xr (wrd s (L.take (2 ^ s))) (wrd s (L.drop (2 ^ s)))++wrd s (L.drop (2 ^ s)):=hx;rcases wJ.mp hx with h|h
  ·obtain⟨i,hi,e⟩:=vF.mp h;rw[List.getElem_zipWith]at e;rw[<-e];exact uG _ (by decide)
  ·exact d6 (s:=s) (by rw[wo];omega) (λy hy=>hb y (vP hy)) x h
theorem qDv(hk:11<=k){s P:Nat}(h1:1<=s)(hs:s<=5)(hP:P<2 ^ s){M:Mem}{t:T}{L:List Nat}(h:IsL M t L)(hl:L.length=2 ^ s)(hb:∀x∈L,x<2)(S:Nat->Bool):
  ∃b,Pk (glT gs) Tb.fns Cs k 22 [N (2 ^ s),NL (rf (2 ^ s) S),N P,t] M=.ok (bT b,M)/\(b=true↔Qk s S P (cB L)):=by
 have n5:=p5 hs;have q1:=f11 (k:=k-1) (by omega) h (by omega) (2 ^ s);have ha:(L.all λx=>decide (x<2))=true:=by rw[wc];exact λx hx=>uS (hb x hx)
 rw[ha,hl,uS rfl]at q1;have w:=f14 (k:=k-1) (by omega) h h1 hs hl hb;have lw:=jC s L hl;have hL1:∀K:List Nat,lT (K.map N)=(NL K,true):=λK=>by unfold lT;rw[JE];rfl
 have sl:∀{σ:TS},pe (glT gs) (Pk (glT gs) Tb.fns Cs (k-1)) (.sl (.var 3) .nil (.cons (.var 2) .nil)) (some (N (2 ^ s))::some (NL (rf (2 ^ s) S))::some (N P)::some t::σ) M=.ok ((NL (L.take P),true),M):=λ{σ}=>by
  have c:=Qf (xs:=L.map N) (m:=P) (by simp;omega);simp[h.its,slm h,c,<-List.map_take,hL1]
 have ix:=h.idx (i:=P) (x:=L.getD P 0) (getD_some (by omega));have rg:=zP (n:=2 ^ s) (by omega);have c:=ZV (M:=M) (σ:=[some (NL (rf (2 ^ s) S)),some (NL (wrd s L))]) (c:=pec (glT gs) (Pk (glT gs) Tb.fns Cs (k-1)) (.cons (.cmp .notin (.var 0) (.var 1)) .nil)) (e:=pe (glT gs) (Pk (glT gs) Tb.fns Cs (k-1)) (.cmp .eq (.idx (.var 2) (.var 0)) (nE 0))) (λx=>!decide (x∈rf (2 ^ s) S)) (λx=>.v (.bl (decide ((wrd s L).getD x 0=0)))) (λ_=>true) (List.range (2 ^ s)) [] true none (by simp[lim];omega) (λx _=>by simp[Qn,-List.mem_filter]) (λx hx _=>by
  have:=(IsL.nl M (wrd s L)).idx (i:=x) (x:=(wrd s L).getD x 0) (getD_some (by have:=wT.mp hx;omega));simp[this,bT])
 rw[List.nil_append,show (((List.range (2 ^ s)).filter λx=>!decide (x∈rf (2 ^ s) S)).all λ_=>true)=true from wc.mpr λ_ _=>rfl]at c;have al:=λM=>qB6 (M:=M) (λx=>decide ((wrd s L).getD x 0=0)) ((List.range (2 ^ s)).filter λx=>!decide (x∈rf (2 ^ s) S));have k3:(((List.range (2 ^ s)).filter λx=>!decide (x∈rf (2 ^ s) S)).all λx=>decide ((wrd s L).getD x 0=0))=true↔∀t,t<2 ^ s->S t=false->wd s (cB L) t=false:=by
  rw[wc];constructor
  ·intro z t ht hS;have:=z t (List.mem_filter.mpr ⟨wT.mpr ht,by rw[jP ht,hS];rfl⟩);rw[uT,Zj hs hl hb ht]at this;cases q:wd s (cB L) t with
   |false=>rfl
   |true=>rw[q]at this;cases this
  ·intro z x hx;obtain⟨a,b⟩:=List.mem_filter.mp hx;have a:=wT.mp a;rw[jP a]at b;rw[uT,Zj hs hl hb a,z x a (by simpa using b)];rfl
 have k1:¬ 1∈L.take P↔∀q,q<P->cB L q=false:=by
  constructor
  ·intro z q hq;refine uR λe=>z ?_;rw[List.mem_take_iff_getElem];refine⟨q,by omega,?_⟩;rw[wE,wD (by omega)]at e;exact e
  ·intro z hm;rw[List.mem_take_iff_getElem]at hm;obtain⟨q,hq,e⟩:=hm;have:=z q (by omega);unfold cB at this;rw[wE,wD (by omega),vn,e]at this;cases this
 have k2:¬ L.getD P 0=0↔cB L P=true:=by
  have:L.getD P 0<2:=by
   rw[wE,wD (by omega)];exact hb _ (vK _)
  unfold cB;rw[uT];omega
 have q1:Pk (glT gs) Tb.fns Cs (k-1) 11 [t,N (2 ^ s)] M=.ok (bT true,M):=q1;by_cases g1:1∈L.take P
 ·refine⟨false,?_,⟨λz=>(by cases z),λz=>absurd g1 (k1.mpr z.c1)⟩⟩;have i1:∀{M:Mem},qa M .inn (N 1) (NL (L.take P))=some true:=λ{M}=>by rw[qAQ,uS g1]
  clear g1;have z:pxs (glT gs) (Pk (glT gs) Tb.fns Cs (k-1)) [] b22 [some (N (2 ^ s)),some (NL (rf (2 ^ s) S)),some (N P),some t,none] M=.ok (.rt (bT false),M):=by
   rw[b22]
   repeat' first|with_reducible (first|exact sl|exact q1|exact i1|exact qV|exact qY|exact qW|exact qj|exact zg|exact A8|exact qM|exact isT|exact isF|exact zD|exact qd .. | assumption|apply qB|apply qK|apply zH|apply qe|apply zC|apply qX|apply qAv|apply W0|apply zO|apply cT|apply cF|apply t_1|apply f_0|apply zp|apply qD)|((with_reducible apply ql);exact cN rfl)|assumption|exact nF rfl|exact nT rfl|rfl
  exact zT t22 ⟨rfl,by decide⟩ (by omega) rfl rfl z (qA rfl)
 ·have i1:∀{M:Mem},qa M .inn (N 1) (NL (L.take P))=some false:=λ{M}=>by rw[qAQ,uR g1]
  by_cases g2:L.getD P 0=0
  ·refine⟨false,?_,⟨λz=>(by cases z),λz=>absurd g2 (k2.mpr z.c2)⟩⟩;rw[g2]at ix;clear g1 g2;have i2:∀{M:Mem},qa M .eq (N 0) (N 0)=some true:=rfl;have z:pxs (glT gs) (Pk (glT gs) Tb.fns Cs (k-1)) [] b22 [some (N (2 ^ s)),some (NL (rf (2 ^ s) S)),some (N P),some t,none] M=.ok (.rt (bT false),M):=by
    rw[b22]
    repeat' first|with_reducible (first|exact sl|exact q1|exact i1|exact ix|exact i2|exact qV|exact qY|exact qW|exact qj|exact zg|exact A8|exact qM|exact isT|exact isF|exact zD|exact qd .. | assumption|apply qB|apply qK|apply zH|apply qe|apply zC|apply qX|apply qAv|apply W0|apply zO|apply cT|apply cF|apply t_1|apply f_0|apply zp|apply qD)|((with_reducible apply ql);exact cN rfl)|assumption|exact nF rfl|exact nT rfl|rfl
   exact zT t22 ⟨rfl,by decide⟩ (by omega) rfl rfl z (qA rfl)
  ·refine⟨_,?_,k3.trans ⟨λz=>⟨k1.mp g1,k2.mp g2,z⟩,λz=>z.c3⟩⟩;have i2:∀{M:Mem},qa M .eq (N (L.getD P 0)) (N 0)=some false:=λ{M}=>by rw[qd,uR g2]
   clear k3 k1 k2 g1 g2;generalize L.getD P 0=zz at *;generalize ((List.range (2 ^ s)).filter λx=>!decide (x∈rf (2 ^ s) S))=F at *;have z:pxs (glT gs) (Pk (glT gs) Tb.fns Cs (k-1)) [] b22 [some (N (2 ^ s)),some (NL (rf (2 ^ s) S)),some (N P),some t,none] M=.ok (.rt (bT (F.all λx=>decide ((wrd s L).getD x 0=0))),M):=by
    rw[b22]
    repeat' first|with_reducible (first|exact sl|exact q1|exact i1|exact ix|exact i2|exact w|exact rg|exact al _|exact qV|exact qY|exact qW|exact qj|exact zg|exact A8|exact qM|exact isT|exact isF|exact zD|exact qd .. | assumption|apply qB|apply qK|apply zH|apply qe|apply zC|apply qX|apply qAv|apply W0|apply zO|apply cT|apply cF|apply t_1|apply f_0|apply zp|apply qD)|((with_reducible apply ql);exact cN rfl)|assumption|exact c|exact nF rfl|exact nT rfl|rfl
   exact zT t22 ⟨rfl,by decide⟩ (by omega) rfl rfl z (qA rfl)
theorem ZC{M:Mem}(a b:Str):qa M .eq (Ts a) (Ts b)=some (decide (a=b)):=by
 show (some (a==b):Option Bool)=_;congr 1
noncomputable def jX(sp pl:List Nat):T:=.tup [Ts "told",NL sp,NL pl]
noncomputable def QO(t:T):T:=.tup [Ts "open",t]
theorem Zc(hk:3<=k){s P:Nat}(hs:s<=5)(hP:P<2 ^ s)(M:Mem):Pk (glT gs) Tb.fns Cs k 7 [N s,N P] M=.ok ((.v .non,true),M):=by
 rw[qS t7 ⟨rfl,by decide⟩ (by omega),b7,show Cs.getD 7 []=[] from rfl];simp(disch:=omega) [f4,hs,f1,hP,Js]
end
end _M
namespace _M
open PySem PySem.Spec _P
open _L (V)
open GF (Ris lp rch qm Told Qk wd par)
section
variable{k:Nat}
def Pap(s:Nat)(S:Nat->Bool)(P:Nat)(t:T):Prop:=(∃sp pl,t=jX sp pl/\Told s S P sp pl)\/∃L:List Nat,t=QO (NL L)/\L.length=2 ^ s/\(∀x∈L,x<2)/\Qk s S P (cB L)
theorem X9(hk:1<=k){half:Nat}{sp pl:List Nat}(hl:sp.length<=100)(M:Mem):∃fr,Pk (glT gs) Tb.fns Cs k 27 [N half,NL sp,NL pl] M=.ok ((jX (sp++sp.map (half + ·)) pl,fr),M):=by
 rw[qS t27 ⟨rfl,by decide⟩ (by omega),b27,show Cs.getD 27 []=[] from rfl];have c:=Jy (gl:=glT gs) (P:=Pk (glT gs) Tb.fns Cs (k-1)) (e:=pe (glT gs) (Pk (glT gs) Tb.fns Cs (k-1)) (.bin .add (.var 1) (.var 0))) (M:=M) (σ:=[some (N half)]) (o:=none) (its:=sp) (half + ·) (by simp[lim];omega) (λx _=>by simp);have ad:∀{M:Mem},qx M .add (NL sp) (NL (sp.map (half + ·)))=some (NL (sp++sp.map (half + ·)),true):=λ{M}=>J7 (by simp[lim];omega);refine⟨false,?_⟩;simp[c,-Qy,ad,lim,qA,jX,Ts,QF]
theorem qBR{A B:List Nat}{n:Nat}(hl:A.length=n)(q:Nat):cB (A++B) q=if q<n then cB A q else cB B (q-n):=by
 unfold cB;rw[wE,wE,wE];by_cases h:q<n
 ·rw[if_pos h,wB (by omega)]
 ·rw[if_neg h,wL (by omega),hl]
theorem Qw{s P:Nat}{S c c':Nat->Bool}(hP:P<2 ^ s)(h:∀q,q<2 ^ s->c' q=c q)(o:Qk s S P c):Qk s S P c':=
 ⟨λq hq=>by rw[h q (by omega)];exact o.c1 q hq,by rw[h P hP];exact o.c2,λt ht hS=>by rw[GF.wd_congr s c' c t h ht];exact o.c3 t ht hS⟩
theorem qDp{s:Nat}(hs:s<=5){L:List Nat}(hl:L.length=2 ^ s)(hb:∀x∈L,x<2){q:Nat}(hq:q<2 ^ s):cB (wrd s L) q=wd s (cB L) q:=by
 show decide ((wrd s L).getD q 0=1)=_;rw[Zj hs hl hb hq];cases wd s (cB L) q<;>rfl
theorem B8(hk:9<=k){s P:Nat}(hs:s<=4)(hP:P<2 ^ s){S:Nat->Bool}{L:List Nat}(hl:L.length=2 ^ s)(hb:∀x∈L,x<2)(o:Qk s (λt=>S t||S (t+2 ^ s)) P (cB L))(M:Mem):∃L' fr,Pk (glT gs) Tb.fns Cs k 28 [N (2 ^ s),NL (rf (2 ^ (s+1)) S),NL L] M=.ok ((QO (NL L'),fr),M)/\L'.length=2 ^ (s+1)/\(∀x∈L',x<2)/\Qk (s+1) S P (cB L'):=by
 have n5:=p5 (show s<=5 by omega);have p2:=GF.pw s;rw[qS t28 ⟨rfl,by decide⟩ (by omega),b28,show Cs.getD 28 []=[] from rfl];have w:=f16 s (k:=k-1) (by omega) (by omega) (IsL.nl M L) hl;have lw:=jC s L hl;have rg:=zP (n:=2 ^ s) (by omega);have c:=Jy (gl:=glT gs) (P:=Pk (glT gs) Tb.fns Cs (k-1)) (e:=pe (glT gs) (Pk (glT gs) Tb.fns Cs (k-1)) (.ite (.cmp .inn (.var 0) (.var 1)) (nE 0) (.idx (.var 2) (.var 0)))) (M:=M) (σ:=[some (NL (rf (2 ^ (s+1)) S)),some (NL (wrd s L))]) (o:=none) (its:=List.range (2 ^ s)) (λx=>if S x=true then 0 else (wrd s L).getD x 0) (by simp[lim];omega) (λx hx=>by
  have:=(IsL.nl M (wrd s L)).idx (i:=x) (x:=(wrd s L).getD x 0) (getD_some (by have:=wT.mp hx;omega));have mm:=jP (n:=2 ^ (s+1)) (x:=x) (S:=S) (by have:=wT.mp hx;omega);generalize (wrd s L).getD x 0=z at *;have ci:∀{M:Mem},qa M .inn (N x) (NL (rf (2 ^ (s+1)) S))=some (S x):=λ{M}=>by rw[qAQ,mm]
  generalize rf (2 ^ (s+1)) S=lo at *;cases q:S x<;>rw[q]at ci<;>simp[ci,this])
 obtain⟨H,hH⟩:∃H,H=(List.range (2 ^ s)).map λx=>if S x=true then 0 else (wrd s L).getD x 0:=⟨_,rfl⟩
 have lH:H.length=2 ^ s:=by rw[hH];simp
 have gH:∀q,q<2 ^ s->H.getD q 0=(GF.hid s S (cB L) q).toNat:=λq hq=>by
  rw[hH,wE,vB,List.getElem?_range hq,Option.map_some,vn,Zj (by omega) hl hb hq];unfold GF.hid;cases S q<;>rfl
 have bH:∀x∈H,x<2:=λx hx=>by
  obtain⟨i,hi,e⟩:=vF.mp hx;have:=gH i (by omega);rw[wE,wD hi,vn,e]at this;rw[this];exact Bool.toNat_lt _
 have cH:∀q,q<2 ^ s->cB H q=GF.hid s S (cB L) q:=λq hq=>by
  show decide (H.getD q 0=1)=_;rw[gH q hq];cases GF.hid s S (cB L) q<;>rfl
 rw[<-hH]at c;have w2:=f16 s (k:=k-1) (by omega) (by omega) (IsL.nl M H) lH;have lw2:=jC s H lH;have ad:∀{M:Mem},qx M .add (NL L) (NL (wrd s H))=some (NL (L++wrd s H),true):=λ{M}=>J7 (by simp[lim];omega);refine⟨L++wrd s H,true,?_,by rw[wY,hl,lw2];omega,λx hx=>?_,Qw (by omega) (λq hq=>?_) (GF.open_first hP o)⟩
 ·generalize rf (2 ^ (s+1)) S=lo at *;simp[w,rg,c,-Qy,w2,ad,lim,qA,QO,Ts]
 ·rcases wJ.mp hx with h|h
  ·exact hb x h
  ·exact d6 lH bH x h
 ·rw[qBR hl];by_cases h:q<2 ^ s
  ·rw[if_pos h,if_pos h]
  ·rw[if_neg h,if_neg h,qDp (by omega) lH bH (by omega)];exact GF.wd_congr s _ _ _ cH (by omega)
theorem N2(hk:2<=k){s:Nat}(hs:s<=4){sp pl:List Nat}(r1:Ris 0 (2 ^ s) sp)(hpl:pl.length<=100)(S:Nat->Bool)(M:Mem):
  ∃fr,Pk (glT gs) Tb.fns Cs k 29 [N (2 ^ s),NL (rf (2 ^ (s+1)) S),NL sp,NL pl] M=.ok ((jX (sp.filter (λx=>S (2 ^ s+x))++(sp.filter λx=>!S (2 ^ s+x)).map (2 ^ s + ·)) (((List.range (2 ^ s)).filter λp=>qm (sp.filter λx=>S (2 ^ s+x)) (rch p))++pl.map (2 ^ s + ·)),fr),M):=by
 have n5:=p5 (show s<=5 by omega);have p2:=GF.pw s;have ll:=jZ r1;have mem:∀x∈sp,decide (2 ^ s+x∈rf (2 ^ (s+1)) S)=S (2 ^ s+x):=λx hx=>jP (by have:=(GF.Ris.mem r1 x hx).2;omega);have c1:=zF (M:=M) (o:=none) (σ:=[some (N (2 ^ s)),some (NL (rf (2 ^ (s+1)) S))]) (its:=sp) (c:=pec (glT gs) (Pk (glT gs) Tb.fns Cs (k-1)) (.cons (.cmp .notin (.bin .add (.var 1) (.var 0)) (.var 2)) .nil)) (e:=pe (glT gs) (Pk (glT gs) Tb.fns Cs (k-1)) (.bin .add (.var 1) (.var 0))) (λx=>!S (2 ^ s+x)) (2 ^ s + ·) (by simp[lim];omega) (λx hx=>by simp[Qn,-List.mem_filter,mem x hx]) (λx _ _=>by simp);have c2:=zF (M:=M) (o:=none) (σ:=[some (N (2 ^ s)),some (NL (rf (2 ^ (s+1)) S))]) (its:=sp) (c:=pec (glT gs) (Pk (glT gs) Tb.fns Cs (k-1)) (.cons (.cmp .inn (.bin .add (.var 1) (.var 0)) (.var 2)) .nil)) (e:=pe (glT gs) (Pk (glT gs) Tb.fns Cs (k-1)) (.var 0)) (λx=>S (2 ^ s+x)) (λx=>x) (by simp[lim];omega) (λx hx=>by simp[qAQ,-List.mem_filter,mem x hx]) (λx _ _=>by simp);rw[ve]at c2;have lA:(sp.filter λx=>S (2 ^ s+x)).length<=sp.length:=vC _ _;have lB:(sp.filter λx=>!S (2 ^ s+x)).length<=sp.length:=vC _ _;generalize hA:sp.filter (λx=>S (2 ^ s+x))=A at *;generalize hB:sp.filter (λx=>!S (2 ^ s+x))=B at *;have c3:=zF (M:=M) (o:=none) (σ:=[some (NL A)]) (its:=List.range (2 ^ s)) (c:=pec (glT gs) (Pk (glT gs) Tb.fns Cs (k-1)) (.cons (.cmp .eq (.call 12 (.cons (.comp (.list (.var 1)) [none,some 0] (.name 0) (.cons (.call 17 (.cons (.var 1) (.cons (.var 0) .nil))) .nil) (nE 1)) .nil)) (nE 1)) .nil)) (e:=pe (glT gs) (Pk (glT gs) Tb.fns Cs (k-1)) (.var 0)) (λp=>qm A (rch p)) (λx=>x) (by simp[lim];omega) (λx hx=>by
  have cR:=qE0 (k:=k-1) (by omega) (sp:=A) (by omega) x M (o:=none);have sm:=qFM (k:=k-1) (by omega) ((A.filter (rch x)).map λ_=>1) M;rw[ZR,GF.lpar_len]at sm;rw[ZS];generalize (A.filter (rch x)).map (λ_=>1)=B2 at *;generalize qm A (rch x)=bb at *;cases bb<;>simp[-ZS,cR,sm]) (λx _ _=>by simp)
 rw[ve]at c3;have c4:=Jy (gl:=glT gs) (P:=Pk (glT gs) Tb.fns Cs (k-1)) (e:=pe (glT gs) (Pk (glT gs) Tb.fns Cs (k-1)) (.bin .add (.var 1) (.var 0))) (M:=M) (σ:=[some (N (2 ^ s))]) (o:=none) (its:=pl) (2 ^ s + ·) (by simp[lim];omega) (λx _=>by simp);have lC:((List.range (2 ^ s)).filter λp=>qm A (rch p)).length<=2 ^ s:=wN (vC _ _) (by simp);generalize ((List.range (2 ^ s)).filter λp=>qm A (rch p))=D at *;have ad1:∀{M:Mem},qx M .add (NL A) (NL (B.map (2 ^ s + ·)))=some (NL (A++B.map (2 ^ s + ·)),true):=λ{M}=>J7 (by simp[lim];omega);have ad2:∀{M:Mem},qx M .add (NL D) (NL (pl.map (2 ^ s + ·)))=some (NL (D++pl.map (2 ^ s + ·)),true):=λ{M}=>J7 (by simp[lim];omega);have rg:=zP (n:=2 ^ s) (by omega);refine⟨true,?_⟩;have h1:A9 M (NL sp)=some (sp.map N,[]):=rfl;have h2:A9 M (NL pl)=some (pl.map N,[]):=rfl;have z:pxs (glT gs) (Pk (glT gs) Tb.fns Cs (k-1)) [] b29 [some (N (2 ^ s)),some (NL (rf (2 ^ (s+1)) S)),some (NL sp),some (NL pl),none,none,none] M=.ok (.rt (jX (A++B.map (2 ^ s + ·)) (D++pl.map (2 ^ s + ·)),true),M):=by
  rw[b29]
  repeat' first|with_reducible (first|exact h1|exact h2|exact rg|exact ad1|exact ad2|exact qV|exact qY|exact qW|exact qj|exact qp|exact zW|exact jK|exact JY|exact qM|exact ll3|exact zD|exact qt|exact zf|exact zQ .. | exact qd .. | assumption|apply qB|apply qz|apply zl|apply qX|apply zB|apply zO|apply qD)|((with_reducible apply ql);exact cN rfl)|assumption|exact c1|exact c2|exact c3|exact c4|rfl
 exact zT t29 ⟨rfl,by decide⟩ (by omega) rfl rfl z (qA rfl)
theorem st_{P:Nat->List T->Mem->PR (TB×Mem)}{M:Mem}{σ:TS}(x:Str):pe (glT gs) P (.cst (V.str x)) σ M=.ok ((Ts x,true),M):=rfl
theorem K5{M:Mem}{sp pl:List Nat}:jl M (jX sp pl) (N 0)=some (Ts "told",true):=by unfold jX;rw[zi];rfl
theorem K3{M:Mem}{sp pl:List Nat}:jl M (jX sp pl) (N 1)=some (NL sp,(NL sp).lf):=by unfold jX;rw[zi];rfl
theorem K2{M:Mem}{sp pl:List Nat}:jl M (jX sp pl) (N 2)=some (NL pl,(NL pl).lf):=by unfold jX;rw[zi];rfl
theorem Jw{M:Mem}{t:T}:jl M (QO t) (N 0)=some (Ts "open",true):=by unfold QO;rw[zi];rfl
theorem A3{M:Mem}{t:T}:jl M (QO t) (N 1)=some (t,t.lf):=by unfold QO;rw[zi];rfl
theorem K7(hk:10<=k){s P:Nat}(hs:s<=4)(hP:P<2 ^ s){S:Nat->Bool}{t:T}(h:Pap s (λt=>S t||S (t+2 ^ s)) P t)(M:Mem):
  ∃u fr,Pk (glT gs) Tb.fns Cs k 25 [N (2 ^ s),NL (rf (2 ^ (s+1)) S),t] M=.ok ((u,fr),M)/\Pap (s+1) S P u:=by
 have n5:=p5 (show s<=5 by omega);rcases h with⟨sp,pl,rfl,td⟩|⟨L,rfl,hl,hb,op⟩
 ·obtain⟨fr,e⟩:=X9 (k:=k-1) (by omega) (half:=2 ^ s) (sp:=sp) (pl:=pl) (by have:=jZ td.r1;omega) M;have ts:∀{M:Mem},qa M .eq (Ts "told") (Ts "told")=some true:=λ{M}=>by rw[ZC,uS rfl]
  refine⟨jX (sp++sp.map (2 ^ s + ·)) pl,fr,?_,.inl ⟨_,_,rfl,GF.told_first hP td⟩⟩;have z:pxs (glT gs) (Pk (glT gs) Tb.fns Cs (k-1)) [] b25 [some (N (2 ^ s)),some (NL (rf (2 ^ (s+1)) S)),some (jX sp pl)] M=.ok (.rt (jX (sp++sp.map (2 ^ s + ·)) pl,fr),M):=by
   rw[b25]
   repeat' first|with_reducible (first|exact st_ _|exact K5|exact K3|exact K2|exact Jw|exact A3|exact ts|exact e|exact qV|exact qY|exact qW|exact zg|exact qM|exact isT|exact isF|assumption|apply qB|apply qK|apply zH|apply qe|apply t_1|apply f_0|apply zp|apply qD)|assumption|exact nF rfl|exact nT rfl|rfl
  exact zT t25 ⟨rfl,by decide⟩ (by omega) rfl rfl z (qA rfl)
 ·obtain⟨L',fr,e,l'⟩:=B8 (k:=k-1) (by omega) hs hP hl hb op M;have ts:∀{M:Mem},qa M .eq (Ts "open") (Ts "told")=some false:=λ{M}=>by rw[ZC];rfl
  refine⟨QO (NL L'),fr,?_,.inr ⟨_,rfl,l'⟩⟩;have z:pxs (glT gs) (Pk (glT gs) Tb.fns Cs (k-1)) [] b25 [some (N (2 ^ s)),some (NL (rf (2 ^ (s+1)) S)),some (QO (NL L))] M=.ok (.rt (QO (NL L'),fr),M):=by
   rw[b25]
   repeat' first|with_reducible (first|exact st_ _|exact K5|exact K3|exact K2|exact Jw|exact A3|exact ts|exact e|exact qV|exact qY|exact qW|exact zg|exact qM|exact isT|exact isF|assumption|apply qB|apply qK|apply zH|apply qe|apply t_1|apply f_0|apply zp|apply qD)|assumption|exact nF rfl|exact nT rfl|rfl
  exact zT t25 ⟨rfl,by decide⟩ (by omega) rfl rfl z (qA rfl)
theorem B0(hk:10<=k){s P:Nat}(hs:s<=4)(hP:P<2 ^ s){S:Nat->Bool}{t:T}(h:Pap s (λt=>S t&&S (t+2 ^ s)) P t)(M:Mem):
  ∃u fr,Pk (glT gs) Tb.fns Cs k 26 [N (2 ^ s),NL (rf (2 ^ (s+1)) S),t] M=.ok ((u,fr),M)/\Pap (s+1) S (2 ^ s+P) u:=by
 have n5:=p5 (show s<=5 by omega);rcases h with⟨sp,pl,rfl,td⟩|⟨L,rfl,hl,hb,op⟩
 ·obtain⟨fr,e⟩:=N2 (k:=k-1) (by omega) (s:=s) hs (sp:=sp) (pl:=pl) td.r1 (by have:=jZ td.r2;omega) S M;have ts:∀{M:Mem},qa M .eq (Ts "told") (Ts "told")=some true:=λ{M}=>by rw[ZC,uS rfl]
  refine⟨_,fr,?_,.inl ⟨_,_,rfl,GF.told_second hP td⟩⟩;generalize jX (sp.filter (λx=>S (2 ^ s+x))++(sp.filter λx=>!S (2 ^ s+x)).map (2 ^ s + ·)) (((List.range (2 ^ s)).filter λp=>qm (sp.filter λx=>S (2 ^ s+x)) (rch p))++pl.map (2 ^ s + ·))=u at *;have z:pxs (glT gs) (Pk (glT gs) Tb.fns Cs (k-1)) [] b26 [some (N (2 ^ s)),some (NL (rf (2 ^ (s+1)) S)),some (jX sp pl)] M=.ok (.rt (u,fr),M):=by
   rw[b26]
   repeat' first|with_reducible (first|exact st_ _|exact K5|exact K3|exact K2|exact Jw|exact A3|exact ts|exact e|exact qV|exact qY|exact qW|exact zg|exact qM|exact isT|exact isF|exact ll1|exact ll2|assumption|apply qB|apply qK|apply zH|apply qz|apply qe|apply zE|apply zl|apply t_1|apply f_0|apply zp|apply qD)|assumption|exact nF rfl|exact nT rfl|rfl
  exact zT t26 ⟨rfl,by decide⟩ (by omega) rfl rfl z (qA rfl)
 ·have ts:∀{M:Mem},qa M .eq (Ts "open") (Ts "told")=some false:=λ{M}=>by rw[ZC];rfl
  have ml:∀{M:Mem},qx M .mul (.lst [N 0]) (N (2 ^ s))=some (NL (List.replicate (2 ^ s) 0),true):=λ{M}=>by
   show (if 0<=((2 ^ s:Nat):Int)/\[N 0].length*((2 ^ s:Nat):Int).toNat<=lim/\((2 ^ s:Nat):Int)<1000000 then some (lT (List.replicate ((2 ^ s:Nat):Int).toNat [N 0]).flatten) else none)=_;rw[wt,if_pos ⟨by omega,wN (show 1*2 ^ s<=32 by omega) (by decide),by omega⟩,List.flatten_replicate_singleton,show List.replicate (2 ^ s) (N 0)=(List.replicate (2 ^ s) 0).map N by rw[List.map_replicate]];unfold lT;rw[JE];rfl
  have ad:∀{M:Mem},qx M .add (NL (List.replicate (2 ^ s) 0)) (NL L)=some (NL (List.replicate (2 ^ s) 0++L),true):=λ{M}=>J7 (by simp[lim];omega);refine⟨QO (NL (List.replicate (2 ^ s) 0++L)),true,?_,.inr ⟨_,rfl,by rw[wY,List.length_replicate,hl,vZ];omega,λx hx=>?_,Qw (by have:=GF.pw s;omega) (λq _=>?_) (GF.open_second op)⟩⟩
  rotate_left
  ·rcases wJ.mp hx with h|h
   ·rw[List.eq_of_mem_replicate h];decide
   ·exact hb x h
  ·rw[qBR (n:=2 ^ s) (by simp)];by_cases h:q<2 ^ s
   ·rw[if_pos h,if_pos h];show decide ((List.replicate (2 ^ s) 0).getD q 0=1)=false;rw[wE,List.getElem?_replicate,if_pos h];rfl
   ·rw[if_neg h,if_neg h]
  have z:pxs (glT gs) (Pk (glT gs) Tb.fns Cs (k-1)) [] b26 [some (N (2 ^ s)),some (NL (rf (2 ^ (s+1)) S)),some (QO (NL L))] M=.ok (.rt (QO (NL (List.replicate (2 ^ s) 0++L)),true),M):=by
   rw[b26]
   repeat' first|with_reducible (first|exact st_ _|exact Jw|exact A3|exact ts|exact ml|exact ad|exact qV|exact qY|exact qW|exact zg|exact qM|exact isT|exact isF|exact ll1|exact ll2|assumption|apply qB|apply qK|apply zH|apply qz|apply qe|apply zE|apply zl|apply t_1|apply f_0|apply zp|apply qD)|assumption|exact nF rfl|exact nT rfl|rfl
  exact zT t26 ⟨rfl,by decide⟩ (by omega) rfl rfl z (qA rfl)
theorem QL:∀(s:Nat){k:Nat}(hk:s+11<=k) (hs:s<=5) (S:Nat->Bool){P:Nat}(hP:P<2 ^ s) (M:Mem),∃t fr,Pk (glT gs) Tb.fns Cs k 24 [N (2 ^ s),NL (rf (2 ^ s) S),N P] M=.ok ((t,fr),M)/\Pap s S P t
 | 0,k,hk,hs,S,P,hP,M=>by
  have:P=0:=by omega
  subst this;have rf1:rf (2 ^ 0) S=if S 0 then [0] else []:=by
   show (List.range 1).filter S=_;rw[show List.range 1=[0] from rfl];cases q:S 0<;>simp[q]
  have nl:∀(M:Mem),qa M .eq (.lst []) (.lst [])=some true:=λM=>rfl;have nl2:∀(M:Mem),qa M .eq (.lst [N 0]) (.lst [])=some false:=λM=>rfl;rw[rf1];have g1:∀{M:Mem},qa M .eq (N (2 ^ 0)) (N 1)=some true:=λ{M}=>rfl;cases q:S 0 with
  |false=>
   refine⟨jX [0] [],true,?_,.inl ⟨_,_,rfl,GF.told_one q⟩⟩;have nl:=nl M;have z:pxs (glT gs) (Pk (glT gs) Tb.fns Cs (k-1)) [] b24 [some (N (2 ^ 0)),some (.lst []),some (N 0),none,none] M=.ok (.rt (jX [0] [],true),M):=by
    rw[b24]
    repeat' first|with_reducible (first|exact g1|exact nl|exact qV|exact qY|exact qW|exact qj|exact qp|exact zg|exact JY|exact qM|exact isT|exact isF|exact ll0|exact ll1|exact ll2|exact ll3|exact zR|exact zD|exact Jm .. | exact qd .. | assumption|apply qB|apply qK|apply zH|apply qz|apply qe|apply zE|apply zl|apply qAw|apply cT|apply cF|apply t_1|apply f_0|apply zp|apply qD|apply zl|apply qFz)|((with_reducible apply ql);exact cN rfl)|assumption|exact nF rfl|exact nT rfl|rfl
   exact zT t24 ⟨rfl,by decide⟩ (by omega) rfl rfl z (qA rfl)
  |true=>
   refine⟨QO (NL [1]),true,?_,.inr ⟨_,rfl,rfl,λx hx=>by simp at hx;omega,Qw (by decide) (λq hq=>by rw[show q=0 by omega];rfl) (GF.open_one q)⟩⟩;have nl2:=nl2 M;have z:pxs (glT gs) (Pk (glT gs) Tb.fns Cs (k-1)) [] b24 [some (N (2 ^ 0)),some (.lst [N 0]),some (N 0),none,none] M=.ok (.rt (QO (NL [1]),true),M):=by
    rw[b24]
    repeat' first|with_reducible (first|exact g1|exact nl2|exact qV|exact qY|exact qW|exact qj|exact qp|exact zg|exact JY|exact qM|exact isT|exact isF|exact ll0|exact ll1|exact ll2|exact ll3|exact zR|exact zD|exact Jm .. | exact qd .. | assumption|apply qB|apply qK|apply zH|apply qz|apply qe|apply zE|apply zl|apply qAw|apply cT|apply cF|apply t_1|apply f_0|apply zp|apply qD|apply zl|apply qFz)|((with_reducible apply ql);exact cN rfl)|assumption|exact nF rfl|exact nT rfl|rfl
   exact zT t24 ⟨rfl,by decide⟩ (by omega) rfl rfl z (qA rfl)
 |s+1,k,hk,hs,S,P,hP,M=>by
  have p2:=GF.pw s;have n5:=p5 (show s<=5 by omega);have hp0:0<2 ^ s:=Nat.pow_pos (by decide);have n1:¬ 2 ^ (s+1)=1:=by omega
  have g1:∀{M:Mem},qa M .eq (N (2 ^ (s+1))) (N 1)=some false:=λ{M}=>by rw[qd,uR n1]
  have fd:∀{M:Mem},qx M .fdiv (N (2 ^ (s+1))) (N 2)=some (N (2 ^ s),true):=λ{M}=>by rw[Jr (by decide),p2,show (2 ^ s+2 ^ s) / 2=2 ^ s by omega]
  have eh:=f9 (k:=k-1) (by omega) (L:=rf (2 ^ (s+1)) S) (half:=2 ^ s) (by omega) M;rw[show hE (2 ^ s) (rf (2 ^ (s+1)) S)=rf (2 ^ s) λt=>S t||S (t+2 ^ s) by rw[p2];exact qF7 _ _,show hB (2 ^ s) (rf (2 ^ (s+1)) S)=rf (2 ^ s) λt=>S t&&S (t+2 ^ s) by rw[p2];exact qHC _ _]at eh;by_cases h:P<2 ^ s
  ·obtain⟨t,fr,e,pp⟩:=QL s (k:=k-1) (by omega) (by omega) (λt=>S t||S (t+2 ^ s)) h M;obtain⟨u,fr2,e2,pu⟩:=K7 (k:=k-1) (by omega) (by omega) h pp M;refine⟨u,fr2,?_,pu⟩;have c:∀{M:Mem},qa M .lt (N P) (N (2 ^ s))=some true:=λ{M}=>by rw[Jm,uS h]
   clear h pp pu;generalize rf (2 ^ (s+1)) S=lo at *;generalize rf (2 ^ s) (λt=>S t||S (t+2 ^ s))=l1 at *;generalize rf (2 ^ s) (λt=>S t&&S (t+2 ^ s))=l2 at *;have z:pxs (glT gs) (Pk (glT gs) Tb.fns Cs (k-1)) [] b24 [some (N (2 ^ (s+1))),some (NL lo),some (N P),none,none] M=.ok (.rt (u,fr2),M):=by
    rw[b24]
    repeat' first|with_reducible (first|exact g1|exact fd|exact eh|exact c|exact e|exact e2|exact qV|exact qY|exact qW|exact qj|exact qp|exact zg|exact JY|exact qM|exact isT|exact isF|exact ll0|exact ll1|exact ll2|exact ll3|exact zR|exact zD|exact Jm .. | exact qd .. | assumption|apply qB|apply qK|apply zH|apply qz|apply qe|apply zE|apply zl|apply qAw|apply cT|apply cF|apply t_1|apply f_0|apply zp|apply qD|apply qFz)|((with_reducible apply ql);exact cN rfl)|assumption|exact nF rfl|exact nT rfl|rfl
   exact zT t24 ⟨rfl,by decide⟩ (by omega) rfl rfl z (qA rfl)
  ·obtain⟨Q,rfl⟩:∃Q,P=2 ^ s+Q:=⟨P-2 ^ s,by omega⟩
   have hQ:Q<2 ^ s:=by omega
   obtain⟨t,fr,e,pp⟩:=QL s (k:=k-1) (by omega) (by omega) (λt=>S t&&S (t+2 ^ s)) hQ M;obtain⟨u,fr2,e2,pu⟩:=B0 (k:=k-1) (by omega) (by omega) hQ pp M;refine⟨u,fr2,?_,pu⟩;have c:∀{M:Mem},qa M .lt (N (2 ^ s+Q)) (N (2 ^ s))=some false:=λ{M}=>by rw[Jm,uR h]
   have sb:∀{M:Mem},qx M .sub (N (2 ^ s+Q)) (N (2 ^ s))=some (N Q,true):=λ{M}=>by rw[m9 (by omega),wS]
   clear h pp pu;generalize rf (2 ^ (s+1)) S=lo at *;generalize rf (2 ^ s) (λt=>S t||S (t+2 ^ s))=l1 at *;generalize rf (2 ^ s) (λt=>S t&&S (t+2 ^ s))=l2 at *;have z:pxs (glT gs) (Pk (glT gs) Tb.fns Cs (k-1)) [] b24 [some (N (2 ^ (s+1))),some (NL lo),some (N (2 ^ s+Q)),none,none] M=.ok (.rt (u,fr2),M):=by
    rw[b24]
    repeat' first|with_reducible (first|exact g1|exact fd|exact eh|exact c|exact e|exact e2|exact sb|exact qV|exact qY|exact qW|exact qj|exact qp|exact zg|exact JY|exact qM|exact isT|exact isF|exact ll0|exact ll1|exact ll2|exact ll3|exact zR|exact zD|exact Jm .. | exact qd .. | assumption|apply qB|apply qK|apply zH|apply qz|apply qe|apply zE|apply zl|apply qAw|apply cT|apply cF|apply t_1|apply f_0|apply zp|apply qD|apply qFz)|((with_reducible apply ql);exact cN rfl)|assumption|exact nF rfl|exact nT rfl|rfl
   exact zT t24 ⟨rfl,by decide⟩ (by omega) rfl rfl z (qA rfl)
theorem qAz(hk:17<=k){s P:Nat}(h1:1<=s)(hs:s<=5)(hP:P<2 ^ s)(S:Nat->Bool)(M:Mem):∃t fr,Pk (glT gs) Tb.fns Cs k 23 [N s,NL (rf (2 ^ s) S),N P] M=.ok ((t,fr),M)/\Pap s S P t:=by
 obtain⟨t,fr,e,pp⟩:=QL s (k:=k-1) (by omega) hs S hP M;refine⟨t,fr,?_,pp⟩;have q1:=f6 (k:=k-1) (by omega) h1 hs M;have q2:=f8 (k:=k-1) (by omega) hs (qB4 (2 ^ s) S) M;have q3:=Zc (k:=k-1) (by omega) hs hP M;have q4:=f4 (k:=k-1) (by omega) hs M;have z:pxs (glT gs) (Pk (glT gs) Tb.fns Cs (k-1)) [] b23 [some (N s),some (NL (rf (2 ^ s) S)),some (N P)] M=.ok (.rt (t,fr),M):=by
  rw[b23]
  repeat' first|with_reducible (first|exact q1|exact q2|exact q3|exact q4|exact e|exact qV|exact qY|exact qW|exact qM|assumption|apply qB|apply qK|apply O1|apply qD)|assumption|exact nF rfl|exact nT rfl|rfl
 exact zT t23 ⟨rfl,by decide⟩ (by omega) rfl rfl z (qA rfl)
end
end _M
namespace _M
open PySem PySem.Spec _P
open _L (V)
open GF (Ris lp rch qm Told Qk wd par)
section
variable{k:Nat}
theorem qHv{k:Nat}(hk:2<=k){M:Mem}{n m:Nat}(g:Good M n)(hm:m<=1000):∃q fr M',Pk (glT gs) Tb.fns Cs k 32 [.cell n,N m] M=.ok ((NL (rf m q),fr),M')/\Kept n M M':=by
 obtain⟨w,M1,e1,hw,k1⟩:=QH (k:=k-1) (by omega) g (m:=6) (by decide);have hs:w=0\/w=1\/(2<=w/\w<=5):=by omega
 rcases hs with rfl|rfl|⟨h2,h5⟩
 ·refine⟨λ_=>false,true,M1,?_,k1⟩;rw[show rf m (λ_=>false)=[] by simp[rf]];have z:pxs (glT gs) (Pk (glT gs) Tb.fns Cs (k-1)) [] b32 [some (.cell n),some (N m),none,none] M=.ok (.rt (.lst [],true),M1):=by
   rw[b32]
   repeat' first|with_reducible (first|exact e1|exact qV|exact qY|exact qW|exact zg|exact qM|exact isF|exact ll0|exact ll4|exact ZY|exact zR|exact qd .. | assumption|apply qB|apply qK|apply zH|apply qz|apply qe|apply zE|apply qX|apply S5|apply zO|apply t_1|apply f_0|apply zp|apply qD|apply t_1|apply qFr)|((with_reducible apply ql);exact cN rfl)|assumption|exact nF rfl|exact nT rfl|rfl
  exact zT t32 ⟨rfl,by decide⟩ (by omega) rfl rfl z (qA k1.len)
 ·refine⟨λ_=>true,true,M1,?_,k1⟩;have lr:=qC5 (n:=m) (by omega);rw[rf,zZ];have z:pxs (glT gs) (Pk (glT gs) Tb.fns Cs (k-1)) [] b32 [some (.cell n),some (N m),none,none] M=.ok (.rt (NL (List.range m),true),M1):=by
   rw[b32]
   repeat' first|with_reducible (first|exact e1|exact lr|exact qV|exact qY|exact qW|exact zg|exact qM|exact isF|exact ll0|exact ll4|exact ZY|exact zR|exact qd .. | assumption|apply qB|apply qK|apply zH|apply qz|apply qe|apply zE|apply qX|apply S5|apply zO|apply t_1|apply f_0|apply zp|apply qD|apply S5|apply qFr)|((with_reducible apply ql);exact cN rfl)|assumption|exact nF rfl|exact nT rfl|rfl
  exact zT t32 ⟨rfl,by decide⟩ (by omega) rfl rfl z (qA k1.len)
 ·have n0:¬ (w=0):=by omega
  have n1:¬ (w=1):=by omega
  obtain⟨bd,hb,hb0⟩:∃bd:Nat,[N 2,N 3,N 4,N 8][w-2]?=some (N bd)/\(0<bd/\bd<=1000000):=by
   have:w=2\/w=3\/w=4\/w=5:=by omega
   rcases this with rfl|rfl|rfl|rfl
   ·exact⟨2,rfl,by decide⟩
   ·exact⟨3,rfl,by decide⟩
   ·exact⟨4,rfl,by decide⟩
   ·exact⟨8,rfl,by decide⟩
  have sb:∀{M:Mem},qx M .sub (N w) (N 2)=some (N (w-2),true):=λ{M}=>m9 h2;obtain⟨q,M2,e2,i2,_⟩:=Jl (I:=Kept n M1) (R:=λ_ _=>True) (σ:=[some (N bd),some (.cell n)])
   (c:=pec (glT gs) (Pk (glT gs) Tb.fns Cs (k-1)) (.cons (.cmp .eq (.call 31 (.cons (.var 2) (.cons (.var 1) .nil))) (nE 0)) .nil)) (e:=pe (glT gs) (Pk (glT gs) Tb.fns Cs (k-1)) (.var 0))
   (List.range m) [] true none M1 List.nodup_range (by simp[lim];omega) ⟨k1.good,rfl,λ_ _=>rfl⟩ (λx _ M' hI=>by
    obtain⟨d,M3,e3,h3,k3⟩:=QH (k:=k-1) (by omega) hI.good hb0;exact⟨decide (d=0),M3,by simp[e3],hI.trans k3,trivial⟩) (λx _ M' _=>by simp)
  refine⟨q,true,M2,?_,k1.trans i2⟩;simp at e2;have q0:qa M1 .eq (N w) (N 0)=some false:=by rw[qd,uR n0]
  have q1:qa M1 .eq (N w) (N 1)=some false:=by rw[qd,uR n1]
  have sb:=sb (M:=M1);have rg:=zP (n:=m) (by omega);have ix:=qFr (M:=M1) hb;have z:pxs (glT gs) (Pk (glT gs) Tb.fns Cs (k-1)) [] b32 [some (.cell n),some (N m),none,none] M=.ok (.rt (NL (rf m q),true),M2):=by
   rw[b32]
   repeat' first|with_reducible (first|exact e1|exact q0|exact q1|exact sb|exact ix|exact rg|exact e2|exact qV|exact qY|exact qW|exact zg|exact qM|exact isF|exact ll0|exact ll4|exact ZY|exact zR|exact qd .. | assumption|apply qB|apply qK|apply zH|apply qz|apply qe|apply zE|apply qX|apply S5|apply zO|apply t_1|apply f_0|apply zp|apply qD|apply qFr)|((with_reducible apply ql);exact cN rfl)|assumption|exact nF rfl|exact nT rfl|rfl
  exact zT t32 ⟨rfl,by decide⟩ (by omega) rfl rfl z (qA (k1.trans i2).len)
noncomputable def W(L:List Nat)(t:Nat):Nat:=(((List.range L.length).filter λp=>decide (p&&& t=t)).map λp=>L.getD p 0).sum % 2
theorem qHN{M:Mem}{t:T}{L:List Nat}(h:∀Y,IsL (M++Y) t L)(hl:L.length<=1000){P:Nat->List T->Mem->PR (TB×Mem)}:∀(m i:Nat) (ys:List Nat) (o:Option T),ys.length+m<=2000->∃σ',jJ [] (.name 2) (pxs (glT gs) P [1] qAd) ((List.range' i m).map N) [some t,some (.cell M.length),o] (M++[ys.map N])=.ok (.nx [some t,some (.cell M.length),σ'],M++[(ys++(List.range' i m).map (W L)).map N])
 | 0,i,ys,o,hy=>⟨o,by simp⟩
 |m+1,i,ys,o,hy=>by
  obtain⟨σ',e⟩:=qHN h hl (P:=P) m (i+1) (ys++[W L i]) (some (N i)) (by simp;omega);refine⟨σ',?_⟩;have hI:=h [ys.map N];have c:=zF (c:=pec (glT gs) P (.cons (.cmp .eq (.bin .band (.var 0) (.var 2)) (.var 2)) .nil)) (e:=pe (glT gs) P (.idx (.var 1) (.var 0))) (M:=M++[ys.map N]) (σ:=[some t,some (N i)]) (o:=none) (its:=List.range L.length) (λp=>decide (p&&& i=i)) (λp=>L.getD p 0) (by simp[lim];omega) (λx _=>by simp[Ja]) (λx hx _=>by
   have hx:=wT.mp hx;have:=hI.idx (i:=x) (x:=L.getD x 0) (by rw[wE,wD hx];rfl);simp[this])
  have sm:=(IsL.nl (M++[ys.map N]) (((List.range L.length).filter λp=>decide (p&&& i=i)).map λp=>L.getD p 0)).sum;have hw:(((List.range L.length).filter λp=>decide (p&&& i=i)).map λp=>L.getD p 0).sum % 2=W L i:=rfl;generalize (((List.range L.length).filter λp=>decide (p&&& i=i)).map λp=>L.getD p 0)=vs at c sm hw;have md:∀{M:Mem}(x:Nat),qx M .mod (N x) (N 2)=some (N (x % 2),true):=λ{M} x=>QY (by decide);have g0:(M++[ys.map N])[M.length]?=some (ys.map N):=by simp
  have s0:(M++[ys.map N]).set M.length (ys.map N++[N (W L i)])=M++[(ys++[W L i]).map N]:=by
   rw[vW _ _ (wG _)];simp
  have ap:Y9 (M++[ys.map N]) M.length (N (W L i))=some (M++[(ys++[W L i]).map N]):=by
   rw[qAc g0 (by simp[lim];omega),s0]
  rw[List.range'_succ,List.map_cons,zJ,st2];have body:pxs (glT gs) P [1] qAd [some t,some (.cell M.length),some (N i)] (M++[ys.map N])=.ok (.nx [some t,some (.cell M.length),some (N i)],M++[(ys++[W L i]).map N]):=by
   rw[qAd];simp(disch:=omega) [hI.len,zP,-ZS,c,sm,md,hw,ap]
  rw[body,tD];dsimp only;rw[e];simp
theorem f34(hk:1<=k){M:Mem}(hM:FlatM M){t:T}{L:List Nat}(h:∀Y,IsL (M++Y) t L)(hl:L.length<=1000):Pk (glT gs) Tb.fns Cs k 34 [t] M=.ok ((NL ((List.range L.length).map (W L)),true),M):=by
 rw[qS t34 ⟨rfl,by decide⟩ hk,b34,show Cs.getD 34 []=[1] from rfl];obtain⟨σ',e⟩:=qHN h hl (P:=Pk (glT gs) Tb.fns Cs (k-1)) L.length 0 [] none (by simp;omega);rw[<-va,List.nil_append,List.map_nil]at e;have hI:=(h [[]]).len;have th:thaw M.length (.lst [])=(.cell M.length,[[]]):=by simp[thaw,Qq]
 simp(disch:=omega) [lim,th,hI,zP,e];have:=F3 hM ((List.range L.length).map (W L)) false;rw[vQ]at this;exact this
noncomputable def qAV(n:Nat)(c:Nat->Bool)(f:Nat->Nat):Nat:=(((List.range n).filter c).map f).sum
theorem P4(n:Nat)(c:Nat->Bool)(f:Nat->Nat):qAV (n+n) c f=qAV n c f+qAV n (λp=>c (n+p)) (λp=>f (n+p)):=by
 unfold qAV;rw[List.range_add,List.filter_append,List.filter_map,vE,vQ,List.sum_append];rfl
theorem Qv{n:Nat}{c c':Nat->Bool}{f f':Nat->Nat}(hc:∀p,p<n->c p=c' p)(hf:∀p,p<n->f p=f' p):qAV n c f=qAV n c' f':=by
 unfold qAV;rw[vg (q:=c') λp hp=>hc p (wT.mp hp)];congr 1;exact vt λp hp=>hf p (wT.mp (List.mem_filter.mp hp).1)
theorem j3{n:Nat}{c:Nat->Bool}{f:Nat->Nat}(hc:∀p,p<n->c p=false):qAV n c f=0:=by
 unfold qAV;rw[uD.mpr λp hp=>by rw[hc p (wT.mp hp)];decide];rfl
theorem qAN(L:List Nat)(t:Nat):W L t=qAV L.length (λp=>decide (p&&& t=t)) (λp=>L.getD p 0) % 2:=rfl
theorem qII:∀s,s<5->∀p,p<2 ^ s->∀t,t<2 ^ s->(2 ^ s+p)&&& t=p&&& t:=by decide +kernel
theorem qIo:∀s,s<5->∀p,p<2 ^ s->∀t,t<2 ^ s->(2 ^ s+p)&&& (2 ^ s+t)=2 ^ s+(p&&& t):=by decide +kernel
theorem j8{L:List Nat}{n p:Nat}(h:p<n):L.getD p 0=(L.take n).getD p 0:=by
 rw[wE,wE,wg h]
theorem C7{L:List Nat}{n p:Nat}:L.getD (n+p) 0=(L.drop n).getD p 0:=by
 rw[wE,wE,vd]
theorem qC4:∀(s:Nat) (L:List Nat),s<=5->L.length=2 ^ s->(∀x∈L,x<2)->wrd s L=(List.range (2 ^ s)).map (W L)
 | 0,L,hs,hl,hb=>by
  match L,hl with
  | [x],_=>
   have hx:x<2:=hb x (wO ..);have:W [x] 0=x:=by
    show (([x].map λp=>p).sum % 2)=x;simp;omega
   show [x]=[W [x] 0];rw[this]
 |s+1,L,hs,hl,hb=>by
  have hl':L.length=2 ^ s+2 ^ s:=by rw[hl,vZ];omega
  have la:(L.take (2 ^ s)).length=2 ^ s:=by rw[wl];omega
  have lb:(L.drop (2 ^ s)).length=2 ^ s:=by rw[wo];omega
  have ia:=qC4 s (L.take (2 ^ s)) (by omega) la λx hx=>hb x (vm hx);have ib:=qC4 s (L.drop (2 ^ s)) (by omega) lb λx hx=>hb x (vP hx);show List.zipWith xr (wrd s (L.take (2 ^ s))) (wrd s (L.drop (2 ^ s)))++wrd s (L.drop (2 ^ s))=_;rw[ia,ib,show (2:Nat) ^ (s+1)=2 ^ s+2 ^ s by rw[vZ];omega,List.range_add,vE,vQ];have w1:∀t,t<2 ^ s->W L t=xr (W (L.take (2 ^ s)) t) (W (L.drop (2 ^ s)) t):=λt ht=>by
   rw[qAN,qAN,qAN,hl',la,lb,P4];unfold xr;rw[<-Nat.add_mod];congr 2
   ·exact Qv (λp _=>rfl) λp hp=>j8 hp
   ·exact Qv (λp hp=>by rw[qII s (by omega) p hp t ht]) λp _=>C7
  have w2:∀t,t<2 ^ s->W L (2 ^ s+t)=W (L.drop (2 ^ s)) t:=λt ht=>by
   rw[qAN,qAN,hl',lb,P4,j3 (λp hp=>uR λe=>by
    have:=Nat.and_le_left (n:=p) (m:=2 ^ s+t);omega),Nat.zero_add]
   congr 1;exact Qv (λp hp=>by
    rw[qIo s (by omega) p hp t ht];congr 1;rw[eq_iff_iff];omega) λp _=>C7
  congr 1
  ·rw[List.zipWith_map_left,List.zipWith_map_right,List.zipWith_self];exact vt λt ht=>(w1 t (wT.mp ht)).symm
  ·exact vt λt ht=>(w2 t (wT.mp ht)).symm
theorem j4{M:Mem}{t:T}{L:List Nat}(h:IsL M t L)(n:Nat):qa M .notin (N n) t=some (!decide (n∈L)):=by
 have a:qa M .notin (N n) t=qa M .notin (N n) (NL L):=by
  have d1:t.dct=none:=by
   cases t with
   |ob o=>have:=h.its;cases this
   |_=>rfl
  show (inT M (N n) t).map _=(inT M (N n) (NL L)).map _;unfold inT;rw[d1,show (NL L).dct=none from rfl,h.its];rfl
 rw[a,Qn]
theorem qEx{M:Mem}{t:T}{L:List Nat}(h:IsL M t L)(n:Nat):qa M .inn (N n) t=some (decide (n∈L)):=by
 have:=j4 h n;have e:qa M .notin (N n) t=(qa M .inn (N n) t).map (!·):=rfl;rw[e]at this;cases hh:qa M .inn (N n) t with
 |none=>rw[hh]at this;cases this
 |some b=>
  rw[hh]at this;simp at this;rw[this]
theorem Kept.flat{n:Nat}{M M':Mem}(x:Kept n M M')(h:FlatM M):FlatM M':=by
 obtain⟨a,b,c0,e,_⟩:=x.good;intro c hc;obtain⟨j,hj,rfl⟩:=vF.mp hc;by_cases q:j=n
 ·subst q;rw[wD hj]at e;rw[Option.some.inj e];show T.unds 0 [N a,N b,.v (.bl c0)]=true;simp[T.unds,l5,T.und]
 ·have:=x.oth j q;rw[wD hj,wD (by have:=x.len;omega)]at this;rw[Option.some.inj this];exact h _ (vK _)
theorem Good.app{A B:Mem}{n:Nat}(g:Good A n):Good (A++B) n:=by
 obtain⟨a,b,c,e,h⟩:=g;exact⟨a,b,c,by rw[wB (wC.mp e).1];exact e,h⟩
theorem Good.lt{A:Mem}{n:Nat}(g:Good A n):n<A.length:=by
 obtain⟨a,b,c,e,_⟩:=g;exact(wC.mp e).1
theorem Kept.split{A B X:Mem}{n:Nat}(hn:n<A.length)(x:Kept n (A++B) X):∃A',X=A'++B/\Kept n A A':=by
 have lx:X.length=A.length+B.length:=by rw[x.len];simp
 have hd:X.drop A.length=B:=by
  refine List.ext_getElem? λi=>?_;rw[vd,x.oth _ (by omega),wL (by omega),wS]
 refine⟨X.take A.length,by rw[<-hd,uE],?_,by rw[wl];omega,λj hj=>?_⟩
 ·obtain⟨a,b,c,e,h⟩:=x.good;exact⟨a,b,c,by rw[wg hn];exact e,h⟩
 ·by_cases q:j<A.length
  ·rw[wg q,x.oth j hj,wB q]
  ·rw[vf (by simp;omega),vf (by omega)]
noncomputable abbrev I(x:Int):T:=.v (.int x)
theorem JD{M:Mem}(b:Bool):jE M .int [.v (.bl b)]=some (N b.toNat,true):=by cases b<;>rfl
theorem ZN:∀(n lo:Nat) (L:List Nat),Ris lo (lo+n) L->((List.range' lo n).filter λx=>decide (x∈L))=L
 | 0,lo,[],_=>rfl
 | 0,lo,x::r,h=>by have:=h.1;have:=h.2.1;omega
 |n+1,lo,L,h=>by
  rw[List.range'_succ,List.filter_cons];by_cases q:lo∈L
  ·cases L with
   |nil=>cases q
   |cons x r=>
    obtain⟨h1,h2,h3⟩:=h;have e:x=lo:=by
     rcases wI.mp q with q|q
     ·exact q.symm
     ·have:=(GF.Ris.mem h3 lo q).1;omega
    subst e;rw[if_pos (by simp),vg (q:=λy=>decide (y∈r)) (λy hy=>by
     have:=(List.mem_range'_1.mp hy).1;have ne:y≠x:=by omega
     simp[ne]),ZN n (x+1) r (by rwa [show x+1+n=x+(n+1) by omega])]
  ·rw[if_neg (by simpa using q)];refine ZN n (lo+1) L ?_;cases L with
   |nil=>trivial
   |cons x r=>
    obtain⟨h1,h2,h3⟩:=h;have:x≠lo:=λz=>q (by rw[z];simp);exact⟨by omega,by omega,by rwa [show lo+1+n=lo+(n+1) by omega]⟩
theorem qDk{M:Mem}(L:List Nat):A9 M (NL L)=some (L.map N,[]):=rfl
theorem qIU{P:Nat}{L:List Nat}(hP:P<L.length)(hb:∀x∈L,x<2)(h1:∀q,q<P->cB L q=false)(h2:cB L P=true):L.take (P+1)=List.replicate P 0++[1]:=by
 refine vo (by simp;omega) λi a b=>?_;rw[List.getElem_take];have hi:i<L.length:=by rw[wl]at a;omega
 have ge:L.getD i 0=L[i]:=by rw[wE,wD hi];rfl
 by_cases q:i<P
 ·have z:=h1 i q;unfold cB at z;rw[ge]at z;have:=hb _ (vK hi);have:=of_decide_eq_false z;rw[List.getElem_append_left (by simpa using q),List.getElem_replicate];omega
 ·have e:i=P:=by rw[wl]at a;omega
  subst e;unfold cB at h2;rw[ge]at h2;rw[uU h2,List.getElem_append_right (by simp)];simp
theorem qIX{M:Mem}{n:Nat}(h:n<=100):qx M .mul (.lst [N 0]) (N n)=some (NL (List.replicate n 0),true):=by
 show (if 0<=((n:Nat):Int)/\[N 0].length*((n:Nat):Int).toNat<=lim/\((n:Nat):Int)<1000000 then some (lT (List.replicate ((n:Nat):Int).toNat [N 0]).flatten) else none)=_;rw[wt,if_pos ⟨by omega,wN (show 1*n<=100 by omega) (by decide),by omega⟩,List.flatten_replicate_singleton,show List.replicate n (N 0)=(List.replicate n 0).map N by rw[List.map_replicate]];unfold lT;rw[JE];rfl
end
end _M
namespace _M
open PySem PySem.Spec _P
open _L (V)
open GF (Ris lp rch qm Told Qk wd par)
noncomputable abbrev pap(w:Str)(ps:List (List Nat)):T:=.tup (Ts w::ps.map NL)
def qCR(s:Nat)(S:Nat->Bool)(P:Nat)(w:Str)(ps:List (List Nat)):Prop:=
 (w="told"/\∃sp pl,ps=[sp,pl]/\Told s S P sp pl)\/(w="open"/\∃L,ps=[L]/\L.length=2 ^ s/\(∀x∈L,x<2)/\Qk s S P (cB L))
noncomputable def rsB(hi:Nat):Nat->List Nat->Bool
 |_,[]=>true
 |lo,x::L=>(decide (lo<=x)&&decide (x<hi))&&rsB hi (x+1) L
theorem rsB_ris{hi:Nat}:∀{L:List Nat}{lo:Nat},rsB hi lo L=true↔Ris lo hi L
 | [],lo=>⟨λ_=>trivial,λ_=>rfl⟩
 |x::L,lo=>by
  unfold rsB;rw[wF,wF,uT,uT,rsB_ris,and_assoc];exact Iff.rfl
section
variable{k:Nat}
theorem qDt(hk:2<=k){t:T}{n:Nat}{M:Mem}:∀(L:List Nat) (lo:Nat) (o:Option T),∃σ',jJ [] (.name 3) (pxs (glT gs) (Pk (glT gs) Tb.fns Cs k) [] qCo) (L.map N) [some t,some (N n),some (N lo),o] M=
   if rsB n lo L=true then .ok (.nx σ',M) else .ok (.rt (bT false),M)
 | [],lo,o=>⟨_,by simp[rsB];rfl⟩
 |x::L,lo,o=>by
  obtain⟨σ',q⟩:=qDt hk (t:=t) (n:=n) (M:=M) L (x+1) (some (N x));refine⟨σ',?_⟩;have w:=λM=>f1 (k:=k) hk x n M;have lt:=λ{M:Mem}=>Jm (M:=M) x lo;have ad:=λ{M:Mem}=>zQ (M:=M) x 1;rw[List.map_cons,zJ,rsB];by_cases h1:x<n
  ·rw[uS h1]at w ⊢;by_cases h2:lo<=x
   ·have h3:¬ x<lo:=by omega
    rw[uR h3]at lt;rw[uS h2];generalize rsB n (x+1) L=bb at *;simp[qCo,w,lt,ad,-Jm,-zQ];exact q
   ·have h3:x<lo:=by omega
    rw[uS h3]at lt;rw[uR h2];simp[qCo,w,lt,-Jm]
  ·rw[uR h1]at w ⊢;simp[qCo,w]
theorem f2B(hk:3<=k)(L:List Nat)(n:Nat)(M:Mem):Pk (glT gs) Tb.fns Cs k 2 [NL L,N n] M=.ok (bT (rsB n 0 L),M):=by
 rw[qS t2 ⟨rfl,by decide⟩ (by omega),b2,show Cs.getD 2 []=[] from rfl];obtain⟨σ',q⟩:=qDt (k:=k-1) (by omega) (t:=NL L) (n:=n) (M:=M) L 0 none;have ty:∀{M:Mem},zt M (NL L)=some "list":=λ{M}=>rfl;have sN:=qDk (M:=M) L;generalize L.map N=mL at *;generalize NL L=tL at *;cases hr:rsB n 0 L with
 |true=>
  rw[hr,if_pos rfl]at q;simp[je,ty,sN,q,qA]
 |false=>
  rw[hr,if_neg (by decide)]at q;simp[je,ty,sN,q,qA]
theorem C4(hk:5<=k){n P:Nat}{sp pl lo:List Nat}(h:¬ (Ris 0 n sp/\Ris 0 P pl))(M:Mem):Pk (glT gs) Tb.fns Cs k 19 [N n,NL lo,N P,NL sp,NL pl] M=.ok (bT false,M):=by
 rw[qS t19 ⟨rfl,by decide⟩ (by omega),b19,show Cs.getD 19 []=[] from rfl];have q1:=λM=>f2B (k:=k-1) (by omega) sp n M;have q2:=λM=>f2B (k:=k-1) (by omega) pl P M;by_cases h1:Ris 0 n sp
 ·have h2:rsB P 0 pl=false:=by
   cases e:rsB P 0 pl with
   |false=>rfl
   |true=>exact absurd ⟨h1,rsB_ris.mp e⟩ h
  rw[rsB_ris.mpr h1]at q1;rw[h2]at q2;generalize NL sp=t1 at *;generalize NL pl=t2 at *;simp[q1,q2,qA]
 ·have h2:rsB n 0 sp=false:=by
   cases e:rsB n 0 sp with
   |false=>rfl
   |true=>exact absurd (rsB_ris.mp e) h1
  rw[h2]at q1;generalize NL sp=t1 at *;generalize NL pl=t2 at *;simp[q1,qA]
theorem j6(hk:11<=k){n P:Nat}{L lo:List Nat}(hl:L.length<=1000)(h:¬ (L.length=n/\∀x∈L,x<2))(M:Mem):Pk (glT gs) Tb.fns Cs k 22 [N n,NL lo,N P,NL L] M=.ok (bT false,M):=by
 rw[qS t22 ⟨rfl,by decide⟩ (by omega),b22,show Cs.getD 22 []=[] from rfl];have q1:=f11 (k:=k-1) (by omega) (IsL.nl M L) hl n;have e:(decide (L.length=n)&&L.all λx=>decide (x<2))=false:=by
  cases e:(decide (L.length=n)&&L.all λx=>decide (x<2)) with
  |false=>rfl
  |true=>
   rw[wF,uT,wc]at e;exact absurd ⟨e.1,λx hx=>uU (e.2 x hx)⟩ h
 rw[e]at q1;generalize NL L=t1 at *;simp[q1,qA]
theorem qFb(hk:1<=k)(ts:List T)(x y:Str)(m:Nat)(M:Mem):Pk (glT gs) Tb.fns Cs k 3 [.tup (Ts x::ts),Ts y,N m] M=.ok (bT (decide (ts.length+1=m)&&decide (x=y)),M):=by
 rw[qS t3 ⟨rfl,by decide⟩ (by omega),b3,show Cs.getD 3 []=[] from rfl];have ty:∀{M:Mem}(ts:List T),zt M (.tup ts)=some "tuple":=λ{M} ts=>rfl;have ty2:∀{M:Mem}(x:Str),zt M (Ts x)=some "str":=λ{M} ts=>rfl;have lfT:∀x,T.lf (Ts x)=true:=λx=>rfl;by_cases h:ts.length+1=m
 ·subst h;simp[ty,ty2,lfT,je,ZC,qA]
 ·simp[ty,je,h,qA,bT]
theorem T9{s P:Nat}{sp pl:List Nat}(r1:Ris 0 (2 ^ s) sp)(r2:Ris 0 P pl)(S:Nat->Bool):(!(sp.any λt=>decide (t∈rf (2 ^ s) S))&&(List.range (2 ^ s)).all λp=>(qm sp (rch p) ^^ qm pl λq=>decide (q=p))==decide (p=P))=true↔Told s S P sp pl:=by
 rw[wF,Bool.not_eq_true',List.any_eq_false,wc];constructor
 ·rintro⟨a,b⟩;refine⟨r1,r2,λt ht=>?_,λp hp=>?_⟩
  ·have:=a t ht;rw[uT,<-uT (p:=t∈rf (2 ^ s) S),jP (GF.Ris.mem r1 t ht).2]at this;simpa using this
  ·exact beq_iff_eq.mp (b p (wT.mpr hp))
 ·intro t;refine⟨λx hx=>?_,λp hp=>beq_iff_eq.mpr (t.sum p (wT.mp hp))⟩;rw[jP (GF.Ris.mem r1 x hx).2,t.off x hx];decide
def qA8(k s P:Nat)(lo:T)(M:Mem):Prop:=Pk (glT gs) Tb.fns Cs k 6 [N s] M=.ok ((.v .non,true),M)/\Pk (glT gs) Tb.fns Cs k 8 [N s,lo] M=.ok ((.v .non,true),M)/\Pk (glT gs) Tb.fns Cs k 7 [N s,N P] M=.ok ((.v .non,true),M)/\Pk (glT gs) Tb.fns Cs k 4 [N s] M=.ok ((N (2 ^ s),true),M)
theorem qEr(hk:1<=k){s P:Nat}{lo:T}{w:Str}{sp pl:List Nat}{M:Mem}{r:TB}(h:qA8 (k-1) s P lo M)(q5:Pk (glT gs) Tb.fns Cs (k-1) 3 [pap w [sp,pl],Ts "told",N 3] M=.ok (bT true,M))(e:Pk (glT gs) Tb.fns Cs (k-1) 19 [N (2 ^ s),lo,N P,NL sp,NL pl] M=.ok (r,M)):Pk (glT gs) Tb.fns Cs k 18 [N s,lo,N P,pap w [sp,pl]] M=.ok (r,M):=by
 obtain⟨q1,q2,q3,q4⟩:=h;have i1:jl M (pap w [sp,pl]) (N 1)=some (NL sp,(NL sp).lf):=by unfold pap;rw[zi];rfl
 have i2:jl M (pap w [sp,pl]) (N 2)=some (NL pl,(NL pl).lf):=by unfold pap;rw[zi];rfl
 generalize pap w [sp,pl]=tp at *;have z:pxs (glT gs) (Pk (glT gs) Tb.fns Cs (k-1)) [] b18 [some (N s),some lo,some (N P),some tp,none] M=.ok (.rt r,M):=by
  rw[b18]
  repeat' first|with_reducible (first|exact q1|exact q2|exact q3|exact q4|exact q5|exact e|exact i1|exact i2|exact qV|exact qY|exact qW|exact qj|exact qp|exact zg|exact JY|exact qM|exact isT|exact zD|assumption|apply qB|apply qK|apply zH|apply t_1|apply zp|apply O1|apply qD)|((with_reducible apply ql);exact cN rfl)|assumption|exact nF rfl|exact nT rfl|rfl
 exact zT t18 ⟨rfl,by decide⟩ (hk) rfl rfl z (qA rfl)
theorem qEj(hk:1<=k){s P:Nat}{lo:T}{w:Str}{L:List Nat}{M:Mem}{r:TB}(h:qA8 (k-1) s P lo M)(q5:Pk (glT gs) Tb.fns Cs (k-1) 3 [pap w [L],Ts "told",N 3] M=.ok (bT false,M))(q6:Pk (glT gs) Tb.fns Cs (k-1) 3 [pap w [L],Ts "open",N 2] M=.ok (bT true,M))(e:Pk (glT gs) Tb.fns Cs (k-1) 22 [N (2 ^ s),lo,N P,NL L] M=.ok (r,M)):Pk (glT gs) Tb.fns Cs k 18 [N s,lo,N P,pap w [L]] M=.ok (r,M):=by
 obtain⟨q1,q2,q3,q4⟩:=h;have i1:jl M (pap w [L]) (N 1)=some (NL L,(NL L).lf):=by unfold pap;rw[zi];rfl
 generalize pap w [L]=tp at *;have z:pxs (glT gs) (Pk (glT gs) Tb.fns Cs (k-1)) [] b18 [some (N s),some lo,some (N P),some tp,none] M=.ok (.rt r,M):=by
  rw[b18]
  repeat' first|with_reducible (first|exact q1|exact q2|exact q3|exact q4|exact q5|exact q6|exact e|exact i1|exact qV|exact qY|exact qW|exact qj|exact qp|exact zg|exact JY|exact qM|exact isT|exact isF|exact zD|assumption|apply qB|apply qK|apply zH|apply t_1|apply f_0|apply zp|apply O1|apply qD)|((with_reducible apply ql);exact cN rfl)|assumption|exact nF rfl|exact nT rfl|rfl
 exact zT t18 ⟨rfl,by decide⟩ (hk) rfl rfl z (qA rfl)
theorem qGr(hk:1<=k){s P:Nat}{lo tp:T}{M:Mem}(h:qA8 (k-1) s P lo M)(q5:Pk (glT gs) Tb.fns Cs (k-1) 3 [tp,Ts "told",N 3] M=.ok (bT false,M))(q6:Pk (glT gs) Tb.fns Cs (k-1) 3 [tp,Ts "open",N 2] M=.ok (bT false,M)):Pk (glT gs) Tb.fns Cs k 18 [N s,lo,N P,tp] M=.ok (bT false,M):=by
 obtain⟨q1,q2,q3,q4⟩:=h;have z:pxs (glT gs) (Pk (glT gs) Tb.fns Cs (k-1)) [] b18 [some (N s),some lo,some (N P),some tp,none] M=.ok (.rt (bT false),M):=by
  rw[b18]
  repeat' first|with_reducible (first|exact q1|exact q2|exact q3|exact q4|exact q5|exact q6|exact qV|exact qY|exact qW|exact qj|exact zg|exact A8|exact JY|exact qM|exact isF|exact zD|assumption|apply qB|apply qK|apply f_0|apply zp|apply O1|apply qD)|((with_reducible apply ql);exact cN rfl)|assumption|exact nF rfl|exact nT rfl|rfl
 exact zT t18 ⟨rfl,by decide⟩ (hk) rfl rfl z (qA rfl)
theorem qH4(hk:13<=k){s P:Nat}(h1:1<=s)(hs:s<=5)(hP:P<2 ^ s)(S:Nat->Bool){w:Str}{ps:List (List Nat)}(hl:∀L∈ps,L.length<=1000)(M:Mem):
  ∃b,Pk (glT gs) Tb.fns Cs k 18 [N s,NL (rf (2 ^ s) S),N P,pap w ps] M=.ok (bT b,M)/\(b=true↔qCR s S P w ps):=by
 have h:qA8 (k-1) s P (NL (rf (2 ^ s) S)) M:=⟨f6 (by omega) h1 hs M,f8 (by omega) hs (qB4 (2 ^ s) S) M,Zc (by omega) hs hP M,f4 (by omega) hs M⟩
 have q5:=qFb (k:=k-1) (by omega) (ps.map NL) w "told" 3 M;have q6:=qFb (k:=k-1) (by omega) (ps.map NL) w "open" 2 M;rw[wQ]at q5 q6;by_cases c3:ps.length+1=3/\w="told"
 ·obtain⟨c3,rfl⟩:=c3;obtain⟨sp,pl,rfl⟩:∃sp pl,ps=[sp,pl]:=by
   match ps,c3 with
   | [a,b],_=>exact⟨a,b,rfl⟩
  rw[show (decide ([sp,pl].length+1=3)&&decide (("told":Str)="told"))=true from by simp]at q5;by_cases r:Ris 0 (2 ^ s) sp/\Ris 0 P pl
  ·refine⟨_,qEr (by omega) h q5 (qGi (k:=k-1) (by omega) (p5 hs) hP (lo:=rf (2 ^ s) S) r.1 r.2 M),(T9 r.1 r.2 S).trans ⟨λt=>.inl ⟨rfl,sp,pl,rfl,t⟩,λt=>?_⟩⟩;rcases t with⟨_,sp',pl',e,t⟩|⟨e,_⟩
   ·cases e;exact t
   ·exact absurd e (by decide)
  ·have n:=C4 (k:=k-1) (by omega) (lo:=rf (2 ^ s) S) r M;refine⟨false,?_,⟨λz=>absurd z wa,λt=>?_⟩⟩
   ·exact qEr (by omega) h q5 n
   ·rcases t with⟨_,sp',pl',e,t⟩|⟨e,_⟩
    ·cases e;exact absurd ⟨t.r1,t.r2⟩ r
    ·exact absurd e (by decide)
 ·have e5:(decide (ps.length+1=3)&&decide (w="told"))=false:=by
   cases e:(decide (ps.length+1=3)&&decide (w="told")) with
   |false=>rfl
   |true=>rw[wF,uT,uT]at e;exact absurd e c3
  rw[e5]at q5;by_cases c2:ps.length+1=2/\w="open"
  ·obtain⟨c2,rfl⟩:=c2;obtain⟨L,rfl⟩:∃L,ps=[L]:=by
    match ps,c2 with
    | [a],_=>exact⟨a,rfl⟩
   rw[show (decide ([L].length+1=2)&&decide (("open":Str)="open"))=true from by simp]at q6;by_cases r:L.length=2 ^ s/\∀x∈L,x<2
   ·obtain⟨b,e,hb⟩:=qDv (k:=k-1) (by omega) h1 hs hP (IsL.nl M L) r.1 r.2 S;refine⟨b,qEj (by omega) h q5 q6 e,hb.trans ⟨λt=>.inr ⟨rfl,L,rfl,r.1,r.2,t⟩,λt=>?_⟩⟩;rcases t with⟨e,_⟩|⟨_,L',e,_,_,t⟩
    ·exact absurd e (by decide)
    ·cases e;exact t
   ·have n:=j6 (k:=k-1) (by omega) (n:=2 ^ s) (P:=P) (lo:=rf (2 ^ s) S) (hl L (by simp)) r M;refine⟨false,?_,⟨λz=>absurd z wa,λt=>?_⟩⟩
    ·exact qEj (by omega) h q5 q6 n
    ·rcases t with⟨e,_⟩|⟨_,L',e,a,b,t⟩
     ·exact absurd e (by decide)
     ·cases e;exact absurd ⟨a,b⟩ r
  ·have e6:(decide (ps.length+1=2)&&decide (w="open"))=false:=by
    cases e:(decide (ps.length+1=2)&&decide (w="open")) with
    |false=>rfl
    |true=>rw[wF,uT,uT]at e;exact absurd e c2
   rw[e6]at q6;refine⟨false,?_,⟨λz=>absurd z wa,λt=>?_⟩⟩
   ·exact qGr (by omega) h q5 q6
   ·rcases t with⟨e,sp',pl',q,_⟩|⟨e,L',q,_⟩
    ·subst q;exact absurd ⟨rfl,e⟩ c3
    ·subst q;exact absurd ⟨rfl,e⟩ c2
end
end _M
namespace _M
open PySem PySem.Spec _P
open _L (V)
open GF (Ris lp rch qm Told Qk wd par)
section
variable{k:Nat}
theorem md2{M:Mem}(x:Nat):qx M .mod (N x) (N 2)=some (N (x % 2),true):=QY (by decide)
theorem qFD{P:Nat->List T->Mem->PR (TB×Mem)}{M:Mem}{sp pl:List Nat}{n p0:Nat}(l1:sp.length<=1000):∀(ms:List Nat) (o4 o5:Option T),∃σ',jJ [] (.name 4) (pxs (glT gs) P [] W2) (ms.map N) [some (N n),some (NL sp),some (NL pl),some (N p0),o4,o5] M=
   if (ms.all λp=>(qm sp (λt=>rch p t) ^^ decide (p∈pl))==decide (p=p0))=true then .ok (.nx σ',M) else .ok (.rt (bT false),M)
 | [],o4,o5=>⟨_,by simp;rfl⟩
 |p::ms,o4,o5=>by
  have i1:=IsL.nl M sp;have i2:=IsL.nl M pl;have sN:=qDk (M:=M) sp;have c1:=zF (c:=pec (glT gs) P (.cons (.cmp .eq (.bin .band (.var 1) (.var 0)) (.var 0)) .nil)) (e:=pe (glT gs) P (.var 0)) (M:=M) (σ:=[some (N p)]) (o:=none) (its:=sp) (λx=>rch p x) (λx=>x) (by simp[lim];omega) (λx _=>by simp[Ja,rch]) (λx _ _=>by simp);rw[ve]at c1;have hl:=GF.lpar_len (λx=>rch p x) sp;have lN:=(IsL.nl M (sp.filter λx=>rch p x)).len;generalize (sp.filter λx=>rch p x)=F at *;obtain⟨σ',e⟩:=qFD (P:=P) (M:=M) (pl:=pl) (n:=n) (p0:=p0) l1 ms (some (N p)) (some (N (F.length+(decide (p∈pl)).toNat)));refine⟨σ',?_⟩;have iN:=qEx i2 p;have hc:((qm sp (λt=>rch p t) ^^ decide (p∈pl))==decide (p=p0))=decide ((F.length+(decide (p∈pl)).toNat) % 2=(decide (p=p0)).toNat):=by
   generalize qm sp (λt=>rch p t)=a at *;cases a<;>cases decide (p∈pl)<;>cases decide (p=p0)<;>simp at hl ⊢<;>omega
  have ne:∀{M:Mem},qa M .ne (N ((F.length+(decide (p∈pl)).toNat) % 2)) (N (decide (p=p0)).toNat)=some (!decide ((F.length+(decide (p∈pl)).toNat) % 2=(decide (p=p0)).toNat)):=λ{M}=>by rw[QZ]
  have eq:∀{M:Mem},qa M .eq (N p) (N p0)=some (decide (p=p0)):=λ{M}=>qd _ _;rw[List.map_cons,zJ,show ∀a b c d e f z:Option T,[a,b,c,d,e,f].set 4 z=[a,b,c,d,z,f] from λ_ _ _ _ _ _ _=>rfl,List.all_cons,hc];clear hl hc i1 i2;generalize decide (p∈pl)=b1 at *;generalize decide (p=p0)=b2 at *;generalize (ms.all λp=>(qm sp (λt=>rch p t) ^^ decide (p∈pl))==decide (p=p0))=bb at *;generalize NL sp=t1 at *;generalize NL pl=t2 at *;generalize sp.map N=m1 at *;generalize NL F=tF at *;cases hz:decide ((F.length+b1.toNat) % 2=b2.toNat) with
  |true=>
   rw[hz]at ne;simp only[vR,vV]at ne;have body:pxs (glT gs) P [] W2 [some (N n),some t1,some t2,some (N p0),some (N p),o5] M=.ok (.nx [some (N n),some t1,some t2,some (N p0),some (N p),some (N (F.length+b1.toNat))],M):=by
    clear e;rw[W2]
    repeat' first|with_reducible (first|exact sN|exact lN|exact iN|exact eq|exact ne|exact JD _|exact md2 _|exact qV|exact qY|exact qW|exact qj|exact qp|exact zW|exact zg|exact A8|exact qM|exact K1|exact isT|exact isF|exact qt|exact zQ .. | exact qd .. | exact QZ .. | assumption|apply qB|apply qz|apply qe|apply zC|apply qX|apply zB|apply t_1|apply f_0|apply zp|apply qD)|((with_reducible apply ql);exact cN rfl)|assumption|exact c1|exact JD _|exact md2 _|exact iN|rfl
   rw[body,tD];dsimp only;rw[Bool.true_and];exact e
  |false=>
   rw[hz]at ne;simp only[vR,vV]at ne;have body:pxs (glT gs) P [] W2 [some (N n),some t1,some t2,some (N p0),some (N p),o5] M=.ok (.rt (bT false),M):=by
    clear e;rw[W2]
    repeat' first|with_reducible (first|exact sN|exact lN|exact iN|exact eq|exact ne|exact JD _|exact md2 _|exact qV|exact qY|exact qW|exact qj|exact qp|exact zW|exact zg|exact A8|exact qM|exact K1|exact isT|exact isF|exact qt|exact zQ .. | exact qd .. | exact QZ .. | assumption|apply qB|apply qz|apply qe|apply zC|apply qX|apply zB|apply t_1|apply f_0|apply zp|apply qD)|((with_reducible apply ql);exact cN rfl)|assumption|exact c1|exact JD _|exact md2 _|exact iN|rfl
   rw[body,tD];rfl
theorem qAo(hk:1<=k){M:Mem}{sp pl:List Nat}{n P:Nat}(hn:n<=32)(l1:sp.length<=1000):Pk (glT gs) Tb.fns Cs k 35 [N n,NL sp,NL pl,N P] M=.ok (bT ((List.range n).all λp=>(qm sp (λt=>rch p t) ^^ decide (p∈pl))==decide (p=P)),M):=by
 rw[qS t35 ⟨rfl,by decide⟩ hk,b35,show Cs.getD 35 []=[] from rfl];obtain⟨σ',e⟩:=qFD (P:=Pk (glT gs) Tb.fns Cs (k-1)) (M:=M) (sp:=sp) (pl:=pl) l1 (n:=n) (p0:=P) (List.range n) none none;have rg:=zP (n:=n) (by omega);generalize ((List.range n).all λp=>(qm sp (λt=>rch p t) ^^ decide (p∈pl))==decide (p=P))=bb at *;cases bb with
 |true=>rw[if_pos rfl]at e;simp[rg,e,qA]
 |false=>rw[if_neg (by decide)]at e;simp[rg,e,qA]
theorem eqL{M:Mem}(A B:List Nat):qa M .eq (NL A) (NL B)=some (decide (A=B)):=(IsL.nl M A).ceq (IsL.nl M B)
theorem neL{M:Mem}(A B:List Nat):qa M .ne (NL A) (NL B)=some (!decide (A=B)):=(IsL.nl M A).cne (IsL.nl M B)
theorem Z6{s:Nat}{S:Nat->Bool}{sp:List Nat}:sp=(List.range (2 ^ s)).filter (λx=>decide (x∈sp)&&!decide (x∈rf (2 ^ s) S))↔Ris 0 (2 ^ s) sp/\∀t∈sp,S t=false:=by
 constructor
 ·intro h;have r:Ris 0 (2 ^ s) sp:=by rw[h];exact GF.ris_range _ _
  refine⟨r,λt ht=>?_⟩;rw[h]at ht;obtain⟨a,b⟩:=List.mem_filter.mp ht;rw[wF,Bool.not_eq_true']at b;have:=b.2
  rwa [jP (wT.mp a)]at this
 ·rintro⟨r,h⟩;have q:=ZN (2 ^ s) 0 sp (by rwa [Nat.zero_add]);rw[<-va]at q
  conv=>lhs;rw[<-q]
  refine vg λx hx=>?_;by_cases e:x∈sp
  ·rw[jP (wT.mp hx),h x e];simp[e]
  ·simp[e]
theorem X3{P:Nat}{pl:List Nat}:pl=(List.range P).filter (λx=>decide (x∈pl))↔Ris 0 P pl:=by
 constructor
 ·intro h;rw[h];exact GF.ris_range _ _
 ·intro r;have q:=ZN P 0 pl (by rwa [Nat.zero_add]);rw[<-va]at q;exact q.symm
theorem sl1{M:Mem}(x:Str)(ps:List T):Jd (.tup (Ts x::ps)) (Ts x::ps) (some 1) none=some (.tup ps,T.lfs ps):=by
 have c:jx (Ts x::ps) (some ((1:Nat):Int)) none=ps:=by rw[Zy (by simp)];rfl
 have c:jx (Ts x::ps) (some 1) none=ps:=c;unfold Jd;dsimp only;rw[if_neg,c];rintro⟨a,_⟩;have:_H.sIx (Ts x::ps).length 0 (some ((1:Nat):Int))=min 1 (Ts x::ps).length:=_H.sIx_nat ..;have a:_H.sIx (Ts x::ps).length 0 (some ((1:Nat):Int))=0:=a;rw[this]at a;simp at a
noncomputable def qET:Ss:=.cons (.asg (.tup [4,5]) (.sl (.var 3) (.cons (nE 1) .nil) .nil)) (.cons (.ifs (.cmp .ne (.var 4) (.comp (.rng1 (.var 0)) [none,some 1,some 4] (.name 0) (.cons (.and (.cmp .inn (.var 0) (.var 2)) (.cmp .notin (.var 0) (.var 1))) .nil) (.var 0))) (.cons (.ret (.cst (V.bl false))) .nil) .nil) (.cons (.ret (.and (.cmp .eq (.var 5) (.comp (.rng1 (.var 2)) [none,some 5] (.name 0) (.cons (.cmp .inn (.var 0) (.var 1)) .nil) (.var 0))) (.call 35 (.cons (.var 0) (.cons (.var 4) (.cons (.var 5) (.cons (.var 2) .nil))))))) .nil))
theorem qAg(hk:2<=k){s P:Nat}(hs:s<=5)(hP:P<2 ^ s){S:Nat->Bool}{sp pl:List Nat}(l1:sp.length<=1000){M:Mem}{o4 o5 o6 o7 o8:Option T}:
  ∃b,pxs (glT gs) (Pk (glT gs) Tb.fns Cs k) [] qET [some (N (2 ^ s)),some (NL (rf (2 ^ s) S)),some (N P),some (pap "told" [sp,pl]),o4,o5,o6,o7,o8] M=.ok (.rt (bT b),M)/\(b=true↔Told s S P sp pl):=by
 have n5:=p5 hs;have rg:=zP (n:=2 ^ s) (by omega);have rg2:=zP (n:=P) (by omega);have c1:=zF (c:=pec (glT gs) (Pk (glT gs) Tb.fns Cs k) (.cons (.and (.cmp .inn (.var 0) (.var 2)) (.cmp .notin (.var 0) (.var 1))) .nil)) (e:=pe (glT gs) (Pk (glT gs) Tb.fns Cs k) (.var 0)) (M:=M) (σ:=[some (NL (rf (2 ^ s) S)),some (NL sp)]) (o:=none) (its:=List.range (2 ^ s)) (λx=>decide (x∈sp)&&!decide (x∈rf (2 ^ s) S)) (λx=>x) (by simp[lim];omega) (λx _=>by
  have a:=qAQ (M:=M) x sp;have b:=Qn (M:=M) x (rf (2 ^ s) S);have l1:=QF sp;generalize NL sp=t1 at *;generalize NL (rf (2 ^ s) S)=t2 at *;generalize rf (2 ^ s) S=R at *;cases h:decide (x∈sp) with
  |true=>rw[h]at a;simp[a,b]
  |false=>rw[h]at a;simp[a]) (λx _ _=>by simp)
 have c2:=zF (c:=pec (glT gs) (Pk (glT gs) Tb.fns Cs k) (.cons (.cmp .inn (.var 0) (.var 1)) .nil)) (e:=pe (glT gs) (Pk (glT gs) Tb.fns Cs k) (.var 0)) (M:=M) (σ:=[some (NL pl)]) (o:=none) (its:=List.range P) (λx=>decide (x∈pl)) (λx=>x) (by simp[lim];omega) (λx _=>by
  have a:=qAQ (M:=M) x pl;have l1:=QF pl;generalize NL pl=t1 at *;simp[a]) (λx _ _=>by simp)
 rw[ve]at c1 c2;have e1:=Z6 (s:=s) (S:=S) (sp:=sp);have e2:=X3 (P:=P) (pl:=pl);have ls:=λM=>qAo (k:=k) (M:=M) (sp:=sp) (pl:=pl) (P:=P) (n:=2 ^ s) (by omega) (by omega) l1;have s1:=sl1 (M:=M) "told" [NL sp,NL pl];have ne:=λ{M:Mem}=>neL (M:=M) sp ((List.range (2 ^ s)).filter λx=>decide (x∈sp)&&!decide (x∈rf (2 ^ s) S));have eq:=λ{M:Mem}=>eqL (M:=M) pl ((List.range P).filter λx=>decide (x∈pl));have fin:∀r:Ris 0 P pl,((List.range (2 ^ s)).all λp=>(qm sp (λt=>rch p t) ^^ decide (p∈pl))==decide (p=P))=true↔∀p,p<2 ^ s->(qm sp (λt=>rch p t) ^^ qm pl λq=>decide (q=p))=decide (p=P):=λr=>by
  rw[wc];constructor
  ·intro h p hp;rw[r.once];exact beq_iff_eq.mp (h p (wT.mpr hp))
  ·intro h p hp;rw[<-r.once (p:=p)];exact beq_iff_eq.mpr (h p (wT.mp hp))
 generalize hF1:(List.range (2 ^ s)).filter (λx=>decide (x∈sp)&&!decide (x∈rf (2 ^ s) S))=F1 at *;generalize hF2:(List.range P).filter (λx=>decide (x∈pl))=F2 at *;unfold qET pap;by_cases h1:sp=F1
 ·rw[uS h1]at ne;have h1':=e1.mp h1;by_cases h2:pl=F2
  ·rw[uS h2]at eq;have h2':=e2.mp h2;refine⟨_,?_,(fin h2').trans ⟨λz=>⟨h1'.1,h2',h1'.2,z⟩,λz=>z.sum⟩⟩;clear e1 e2 fin h1 h2 hF1 hF2;generalize ((List.range (2 ^ s)).all λp=>(qm sp (λt=>rch p t) ^^ decide (p∈pl))==decide (p=P))=bb at *;simp only[List.map_cons,List.map_nil];simp only[vR]at ne
   repeat' first|with_reducible (first|exact rg|exact rg2|exact ne|exact eq|exact ls _|exact qV|exact qY|exact qW|exact qj|exact qp|exact zW|exact zg|exact A8|exact qM|exact isT|exact isF|exact zD|exact qt|assumption|apply qB|apply qK|apply qe|apply qX|apply Ze|apply k9|apply zO|apply cT|apply cF|apply t_1|apply f_0|apply zp|apply n6|apply qD)|assumption|exact s1|exact c1|exact c2|rfl
  ·rw[uR h2]at eq;refine⟨false,?_,⟨λz=>absurd z wa,λz=>absurd (e2.mpr z.r2) h2⟩⟩;clear e1 e2 fin h1 h2 hF1 hF2 h1';simp only[List.map_cons,List.map_nil];simp only[vR]at ne
   repeat' first|with_reducible (first|exact rg|exact rg2|exact ne|exact eq|exact qV|exact qY|exact qW|exact qj|exact qp|exact zW|exact zg|exact A8|exact qM|exact isT|exact isF|exact zD|exact qt|assumption|apply qB|apply qK|apply qe|apply qX|apply Ze|apply k9|apply zO|apply cT|apply cF|apply t_1|apply f_0|apply zp|apply n6|apply qD)|assumption|exact s1|exact c1|exact c2|rfl
 ·rw[uR h1]at ne;refine⟨false,?_,⟨λz=>absurd z wa,λz=>absurd (e1.mpr ⟨z.r1,z.off⟩) h1⟩⟩;clear e1 e2 fin h1 hF1 hF2;simp only[List.map_cons,List.map_nil];simp only[vV]at ne
  repeat' first|with_reducible (first|exact rg|exact ne|exact qV|exact qY|exact qW|exact qj|exact qp|exact zW|exact zg|exact A8|exact qM|exact isT|exact isF|exact zD|exact qt|assumption|apply qB|apply qK|apply qe|apply qX|apply Ze|apply k9|apply zO|apply cT|apply cF|apply t_1|apply f_0|apply zp|apply n6|apply qD)|assumption|exact s1|exact c1|rfl
end
end _M
namespace _M
open PySem PySem.Spec _P
open _L (V)
open GF (Ris lp rch qm Told Qk wd par)
section
variable{k:Nat}
noncomputable def qGX:Ss:=.cons (.asg (.name 7) (.call 34 (.cons (.var 6) .nil))) (.cons (.asg (.name 8) (.cmp .eq (.comp (.rng1 (.var 0)) [none,some 1,some 7] (.name 0) (.cons (.and (.cmp .eq (.idx (.var 2) (.var 0)) (nE 1)) (.cmp .notin (.var 0) (.var 1))) .nil) (.var 0)) (.lst .nil))) (.cons (.ret (.and (.var 8) (.cmp .eq (.sl (.var 6) .nil (.cons (.bin .add (.var 2) (nE 1)) .nil)) (.bin .add (.bin .mul (.lst (.cons (nE 0) .nil)) (.var 2)) (.lst (.cons (nE 1) .nil)))))) .nil))
noncomputable def qDi:Ss:=.cons (.asg (.name 6) (.idx (.var 3) (nE 1))) (.cons (.ifs (.or (.cmp .ne (.blt .len (.cons (.var 6) .nil)) (.var 0)) (.cmp .ne (.comp (.list (.var 6)) [none] (.name 0) (.cons (.cmp .notin (.var 0) (.tup (.cons (nE 0) (.cons (nE 1) .nil)))) .nil) (.var 0)) (.lst .nil))) (.cons (.ret (.cst (V.bl false))) .nil) .nil) qGX)
theorem qFi:b36=.cons (.ifs (.and (.cmp .eq (.idx (.var 3) (nE 0)) (.cst (V.str "told"))) (.cmp .eq (.blt .len (.cons (.var 3) .nil)) (nE 3))) qET .nil) (.cons (.ifs (.or (.cmp .ne (.idx (.var 3) (nE 0)) (.cst (V.str "open"))) (.cmp .ne (.blt .len (.cons (.var 3) .nil)) (nE 2))) (.cons (.ret (.cst (V.bl false))) .nil) .nil) qDi):=rfl
theorem qEv{M:Mem}(A:List Nat)(x:Nat)(h:A.length<=1000):qx M .add (NL A) (.lst [N x])=some (NL (A++[x]),true):=by
 show qx M .add (.lst (A.map N)) (.lst ([x].map N))=_;rw[R6 (by rw[wQ];show A.length+1<=lim;exact wN (uF h) (by decide))];unfold lT;rw[<-vE,JE];rfl
theorem qBO{P:Nat}{L:List Nat}(hP:P<L.length)(hb:∀x∈L,x<2):L.take (P+1)=List.replicate P 0++[1]↔(∀q,q<P->cB L q=false)/\cB L P=true:=by
 constructor
 ·intro h;have ge:∀q,q<P+1->L.getD q 0=(List.replicate P 0++[1]).getD q 0:=λq hq=>by
   rw[<-h,wE,wE,wg hq]
  refine⟨λq hq=>?_,?_⟩
  ·unfold cB;rw[ge q (by omega),wE,wB (by simpa using hq)];simp[hq]
  ·unfold cB;rw[ge P (by omega),wE,wL (by simp)];simp
 ·rintro⟨a,b⟩;exact qIU hP hb a b
theorem qH2{gl:List T}{P:Nat->List T->Mem->PR (TB×Mem)}{C:List Nat}{t0 u0 rs:Ss}{σ:TS}{M M1:Mem}{r:TB}(h:pxs gl P C t0 σ M=.ok (.rt r,M1)):Ifs gl P C true t0 u0 rs σ M (.ok (.rt r,M1)):=⟨by rw[if_pos rfl,Jj,h];rfl,trivial⟩
theorem qHI(hk:3<=k){s P:Nat}(hs:s<=5)(hP:P<2 ^ s){S:Nat->Bool}{L:List Nat}(hl:L.length=2 ^ s)(hb:∀x∈L,x<2){M:Mem}(hM:FlatM M){pp:T}{o4 o5 o7 o8:Option T}:
  ∃b,pxs (glT gs) (Pk (glT gs) Tb.fns Cs k) [] qGX [some (N (2 ^ s)),some (NL (rf (2 ^ s) S)),some (N P),some pp,o4,o5,some (NL L),o7,o8] M=.ok (.rt (bT b),M)/\(b=true↔Qk s S P (cB L)):=by
 have n5:=p5 hs;have w:=f34 (k:=k) (by omega) hM (λY=>IsL.nl (M++Y) L) (by omega);rw[hl,<-qC4 s L hs hl hb]at w;have lw:=jC s L hl;have rg:=zP (n:=2 ^ s) (by omega);have c2:=zF (c:=pec (glT gs) (Pk (glT gs) Tb.fns Cs k) (.cons (.and (.cmp .eq (.idx (.var 2) (.var 0)) (nE 1)) (.cmp .notin (.var 0) (.var 1))) .nil)) (e:=pe (glT gs) (Pk (glT gs) Tb.fns Cs k) (.var 0)) (M:=M) (σ:=[some (NL (rf (2 ^ s) S)),some (NL (wrd s L))]) (o:=none) (its:=List.range (2 ^ s)) (λx=>wd s (cB L) x&&!S x) (λx=>x) (by simp[lim];omega) (λx hx=>by
  have hx:=wT.mp hx;have i2:=λ{M:Mem}=>(IsL.nl M (wrd s L)).idx (i:=x) (x:=(wrd s L).getD x 0) (getD_some (by omega));have nn:=Qn (M:=M) x (rf (2 ^ s) S);rw[jP hx]at nn;have eq:∀{M:Mem},qa M .eq (N ((wrd s L).getD x 0)) (N 1)=some (wd s (cB L) x):=λ{M}=>by
   rw[qd,Zj hs hl hb hx];cases wd s (cB L) x<;>rfl
  generalize N ((wrd s L).getD x 0)=a0 at *;generalize NL (wrd s L)=t1 at *;generalize NL (rf (2 ^ s) S)=t2 at *;generalize rf (2 ^ s) S=R at *;cases h:wd s (cB L) x with
  |true=>rw[h]at eq;simp[i2,eq,nn]
  |false=>rw[h]at eq;simp[i2,eq]) (λx _ _=>by simp)
 rw[ve]at c2;have e8:(List.range (2 ^ s)).filter (λx=>wd s (cB L) x&&!S x)=[]↔∀t,t<2 ^ s->S t=false->wd s (cB L) t=false:=by
  rw[uD];constructor
  ·intro h t ht hS;have:=h t (wT.mpr ht);rw[hS]at this;cases q:wd s (cB L) t with
   |false=>rfl
   |true=>rw[q]at this;exact absurd rfl this
  ·intro h t ht;have ht:=wT.mp ht;cases q:S t with
   |true=>simp
   |false=>rw[h t ht q];simp
 have e6:=qBO (P:=P) (L:=L) (by omega) hb;have ad1:∀{M:Mem},qx M .add (N P) (N 1)=some (N (P+1),true):=λ{M}=>zQ _ _;have cut:∀lo hi,Jd (NL L) (L.map N) lo hi=some (lT (jx (L.map N) lo hi)):=λlo hi=>rfl;have its:∀{M:Mem},(NL L).its M=some (L.map N):=λ{M}=>rfl;have y1:lT (jx (L.map N) none (some ((P:Int)+1)))=(NL (L.take (P+1)),true):=by
  have:=Qf (xs:=L.map N) (m:=P+1) (by simp;omega);have this:jx (L.map N) none (some ((P:Int)+1))=(L.map N).take (P+1):=this;rw[this,<-List.map_take];unfold lT;rw[JE];rfl
 have m0:=λ{M:Mem}=>qIX (M:=M) (n:=P) (by omega);have ad:∀{M:Mem},qx M .add (NL (List.replicate P 0)) (.lst [N 1])=some (NL (List.replicate P 0++[1]),true):=λ{M}=>qEv _ 1 (by simp;omega);have q8:=λ{M:Mem}=>eqL (M:=M) ((List.range (2 ^ s)).filter λx=>wd s (cB L) x&&!S x) [];have q6:=λ{M:Mem}=>eqL (M:=M) (L.take (P+1)) (List.replicate P 0++[1]);have fin:(decide ((List.range (2 ^ s)).filter (λx=>wd s (cB L) x&&!S x)=[])&&decide (L.take (P+1)=List.replicate P 0++[1]))=true↔Qk s S P (cB L):=by
  rw[wF,uT,uT,e8,e6];exact⟨λ⟨a,b,c⟩=>⟨b,c,a⟩,λo=>⟨o.c3,o.c1,o.c2⟩⟩
 refine⟨_,?_,fin⟩;clear fin e8 e6;have n0:T.lst []=NL []:=rfl;unfold qGX;generalize decide (L.take (P+1)=List.replicate P 0++[1])=b6 at *;generalize decide ((List.range (2 ^ s)).filter (λx=>wd s (cB L) x&&!S x)=[])=b8 at *;generalize (List.range (2 ^ s)).filter (λx=>wd s (cB L) x&&!S x)=F at *;generalize rf (2 ^ s) S=R at *;generalize NL R=t3 at *;generalize NL (L.take (P+1))=t4 at *;generalize NL (List.replicate P 0++[1])=t5 at *;generalize NL (List.replicate P 0)=t6 at *;generalize NL (wrd s L)=t7 at *;rw[<-n0]at q8;generalize NL F=t8 at *;generalize L.map N=mL at *;generalize NL L=t9 at *;have s4:Jd t9 mL none (some ((P:Int)+1))=some (t4,true):=by rw[cut,y1]
 have eA:∀{P:Nat->List T->Mem->PR (TB×Mem)}{M:Mem}{b:Bool}{x0 x1 x2 x3 x4 x5 x6 x7:Option T},pe (glT gs) P (.var 8) [x0,x1,x2,x3,x4,x5,x6,x7,some (.v (.bl b))] M=.ok (bT b,M):=rfl;cases b8 with
 |true=>
  repeat' first|with_reducible (first|exact w|exact rg|exact c2|exact q8|exact ad1|exact its|exact m0|exact ad|exact q6|exact eA|exact qV|exact qY|exact qW|exact jK|exact zg|exact qM|exact isT|exact isF|exact ll0|exact ll1|exact jT|exact jF|exact zQ .. | exact qd .. | assumption|apply qB|apply qK|apply qz|apply qe|apply zE|apply qX|apply Ze|apply k9|apply zO|apply cT|apply cF|apply qD)|((with_reducible apply ql);exact cN rfl)|assumption|exact s4|rfl
 |false=>
  repeat' first|with_reducible (first|exact w|exact rg|exact c2|exact q8|exact eA|exact qV|exact qY|exact qW|exact jK|exact zg|exact qM|exact isT|exact isF|exact ll0|exact ll1|exact jT|exact jF|exact zQ .. | exact qd .. | assumption|apply qB|apply qK|apply qz|apply qe|apply zE|apply qX|apply Ze|apply k9|apply zO|apply cT|apply cF|apply qD)|((with_reducible apply ql);exact cN rfl)|assumption|rfl
theorem qCI{M:Mem}(x:Nat):qa M .notin (N x) (.tup [N 0,N 1])=some (!decide (x<2)):=by
 have e:qa M .notin (N x) (.tup [N 0,N 1])=some (!(((0:Int)==(x:Int))||(((1:Int)==(x:Int))||false))):=rfl;rw[e];congr 2;rw[wk];simp;omega
theorem qBE(hk:3<=k){s P:Nat}(hs:s<=5)(hP:P<2 ^ s){S:Nat->Bool}{L:List Nat}(hl:L.length<=1000){M:Mem}(hM:FlatM M){w:Str}{o4 o5 o6 o7 o8:Option T}:
  ∃b,pxs (glT gs) (Pk (glT gs) Tb.fns Cs k) [] qDi [some (N (2 ^ s)),some (NL (rf (2 ^ s) S)),some (N P),some (pap w [L]),o4,o5,o6,o7,o8] M=.ok (.rt (bT b),M)/\(b=true↔L.length=2 ^ s/\(∀x∈L,x<2)/\Qk s S P (cB L)):=by
 have n5:=p5 hs;have ix:∀{M:Mem},jl M (pap w [L]) (N 1)=some (NL L,(NL L).lf):=λ{M}=>by unfold pap;rw[zi];rfl
 have ln:∀{M:Mem},jE M .len [NL L]=some (N L.length,true):=λ{M}=>(IsL.nl M L).len;have ne:∀{M:Mem},qa M .ne (N L.length) (N (2 ^ s))=some (!decide (L.length=2 ^ s)):=λ{M}=>by rw[QZ]
 have c1:=zF (c:=pec (glT gs) (Pk (glT gs) Tb.fns Cs k) (.cons (.cmp .notin (.var 0) (.tup (.cons (nE 0) (.cons (nE 1) .nil)))) .nil)) (e:=pe (glT gs) (Pk (glT gs) Tb.fns Cs k) (.var 0)) (M:=M) (σ:=[]) (o:=none) (its:=L) (λx=>!decide (x<2)) (λx=>x) (by simp[lim];omega) (λx _=>by simp[qCI,lim]) (λx _ _=>by simp);rw[ve]at c1;have nn:=λ{M:Mem}=>neL (M:=M) (L.filter λx=>!decide (x<2)) [];have e0:L.filter (λx=>!decide (x<2))=[]↔∀x∈L,x<2:=by simp[uD]
 have sN:=qDk (M:=M) L;have n0:T.lst []=NL []:=rfl;by_cases h1:L.length=2 ^ s
 ·by_cases h2:∀x∈L,x<2
  ·obtain⟨b,e,hb⟩:=qHI (k:=k) hk hs hP (S:=S) h1 h2 hM (pp:=pap w [L]) (o4:=o4) (o5:=o5) (o7:=o7) (o8:=o8);refine⟨b,?_,hb.trans ⟨λo=>⟨h1,h2,o⟩,λo=>o.2.2⟩⟩;rw[uS h1]at ne;rw[uS (e0.mpr h2),<-n0]at nn;simp only[vR,vV]at ne nn;unfold qDi;clear hb e0 h2 hP n5
   repeat' first|with_reducible (first|exact ix|exact ln|exact ne|exact sN|exact c1|exact nn|exact e|exact qV|exact qj|exact jK|exact zg|exact A8|exact qM|exact isT|exact isF|exact ll0|exact zf|exact QZ .. | assumption|apply qB|apply zH|apply qe|apply zC|apply zE|apply qX|apply W0|apply zB|apply cT|apply cF|apply t_1|apply f_0|apply zp|apply qD)|((with_reducible apply ql);exact cN rfl)|assumption|rfl
  ·refine⟨false,?_,⟨λz=>absurd z wa,λz=>absurd z.2.1 h2⟩⟩;rw[uS h1]at ne;rw[uR (λz=>h2 (e0.mp z)),<-n0]at nn;simp only[vR,vV]at ne nn;unfold qDi;clear e0 h2 hP n5
   repeat' first|with_reducible (first|exact ix|exact ln|exact ne|exact sN|exact c1|exact nn|exact qV|exact qj|exact jK|exact zg|exact A8|exact qM|exact isT|exact isF|exact ll0|exact zf|exact QZ .. | assumption|apply qB|apply zH|apply qe|apply zC|apply zE|apply qX|apply W0|apply zB|apply cT|apply cF|apply t_1|apply f_0|apply zp|apply qD)|((with_reducible apply ql);exact cN rfl)|assumption|rfl
 ·refine⟨false,?_,⟨λz=>absurd z wa,λz=>absurd z.1 h1⟩⟩;rw[uR h1]at ne;simp only[vV]at ne;unfold qDi;clear e0 c1 nn hP n5
  repeat' first|with_reducible (first|exact ix|exact ln|exact ne|exact qV|exact qj|exact jK|exact zg|exact A8|exact qM|exact isT|exact isF|exact ll0|exact zf|exact QZ .. | assumption|apply qB|apply zH|apply qe|apply zC|apply zE|apply qX|apply W0|apply zB|apply cT|apply cF|apply t_1|apply f_0|apply zp|apply qD)|((with_reducible apply ql);exact cN rfl)|assumption|rfl
theorem due(hk:4<=k){s P:Nat}(hs:s<=5)(hP:P<2 ^ s){S:Nat->Bool}{w:Str}{ps:List (List Nat)}(hl:∀L∈ps,L.length<=1000){M:Mem}(hM:FlatM M):
  ∃b,Pk (glT gs) Tb.fns Cs k 36 [N (2 ^ s),NL (rf (2 ^ s) S),N P,pap w ps] M=.ok (bT b,M)/\(b=true↔qCR s S P w ps):=by
 have i0:∀{M:Mem},jl M (pap w ps) (N 0)=some (Ts w,true):=λ{M}=>by unfold pap;rw[zi];rfl
 have ln:∀{M:Mem},jE M .len [pap w ps]=some (N (ps.length+1),true):=λ{M}=>by unfold pap;rw[qE5,List.length_cons,wQ]
 have st:∀{M:Mem}{σ:TS}(x:Str),pe (glT gs) (Pk (glT gs) Tb.fns Cs (k-1)) (.cst (V.str x)) σ M=.ok ((Ts x,true),M):=λ{M σ} x=>rfl;have es:∀{M:Mem}(y:Str),qa M .eq (Ts w) (Ts y)=some (decide (w=y)):=λ{M} y=>ZC _ _;have nes:∀{M:Mem}(y:Str),qa M .ne (Ts w) (Ts y)=some (!decide (w=y)):=λ{M} y=>by
  have e:qa M .ne (Ts w) (Ts y)=(qa M .eq (Ts w) (Ts y)).map (!·):=rfl;rw[e,es];rfl
 have eqn:∀{M:Mem}(m:Nat),qa M .eq (N (ps.length+1)) (N m)=some (decide (ps.length+1=m)):=λ{M} m=>qd _ _;have nen:∀{M:Mem}(m:Nat),qa M .ne (N (ps.length+1)) (N m)=some (!decide (ps.length+1=m)):=λ{M} m=>by rw[QZ]
 rw[qS t36 ⟨rfl,by decide⟩ (by omega),qFi,show Cs.getD 36 []=[] from rfl]
 change ∃b,jp M.length (pxs _ _ _ _ [some (N (2 ^ s)),some (NL (rf (2 ^ s) S)),some (N P),some (pap w ps),none,none,none,none,none] M)=_/\_
 by_cases c3:ps.length+1=3/\w="told"
 ·obtain⟨c3,rfl⟩:=c3;obtain⟨sp,pl,rfl⟩:∃sp pl,ps=[sp,pl]:=by
   match ps,c3 with
   | [a,b],_=>exact⟨a,b,rfl⟩
  obtain⟨b,e,hb⟩:=qAg (k:=k-1) (by omega) hs hP (S:=S) (sp:=sp) (pl:=pl) (hl sp (by simp)) (M:=M) (o4:=none) (o5:=none) (o6:=none) (o7:=none) (o8:=none);refine⟨b,?_,hb.trans ⟨λt=>.inl ⟨rfl,sp,pl,rfl,t⟩,λt=>?_⟩⟩
  ·have lfp:(pap "told" [sp,pl]).lf=false:=by simp[T.lf,T.lfs,QF,Ts]
   have q1:=λ{M:Mem}=>es (M:=M) "told";have q2:=λ{M:Mem}=>eqn (M:=M) 3;rw[uS rfl]at q1;have ln:∀{M:Mem},jE M .len [pap "told" [sp,pl]]=some (N 3,true):=ln;clear q2 eqn nen;generalize pap "told" [sp,pl]=tp at *;generalize NL (rf (2 ^ s) S)=t3 at *;have q2:∀{M:Mem},qa M .eq (N 3) (N 3)=some true:=rfl;refine(congrArg (jp M.length) (a₂:=PR.ok (PO.rt (bT b),M)) ?_).trans (qA rfl)
   repeat' first|with_reducible (first|exact st _|exact i0|exact ln|exact q1|exact q2|exact qH2 e|exact qj|exact zg|exact A8|exact qM|exact isT|exact isF|exact qd .. | exact QZ .. | assumption|apply qB|apply zH|apply qe|apply zC|apply Ze|apply W0|apply cT|apply cF|apply t_1|apply f_0|apply zp|apply qD)|assumption|rfl
  ·rcases t with⟨_,sp',pl',e,t⟩|⟨e,_⟩
   ·cases e;exact t
   ·exact absurd e (by decide)
 ·have skip1:∀r,pxs (glT gs) (Pk (glT gs) Tb.fns Cs (k-1)) [] (.cons (.ifs (.and (.cmp .eq (.idx (.var 3) (nE 0)) (.cst (V.str "told"))) (.cmp .eq (.blt .len (.cons (.var 3) .nil)) (nE 3))) qET .nil) r) [some (N (2 ^ s)),some (NL (rf (2 ^ s) S)),some (N P),some (pap w ps),none,none,none,none,none] M=pxs (glT gs) (Pk (glT gs) Tb.fns Cs (k-1)) [] r [some (N (2 ^ s)),some (NL (rf (2 ^ s) S)),some (N P),some (pap w ps),none,none,none,none,none] M:=λr=>by
   have q1:=λ{M:Mem}=>es (M:=M) "told";have q2:=λ{M:Mem}=>eqn (M:=M) 3;generalize qET=da at *;by_cases h1:w="told"
   ·rw[uS h1]at q1;have h2:¬ ps.length+1=3:=λz=>c3 ⟨z,h1⟩;rw[uR h2]at q2;generalize N (ps.length+1)=nl at *;generalize pap w ps=tp at *
    repeat' first|with_reducible (first|exact st _|exact i0|exact ln|exact q1|exact q2|exact qj|exact zg|exact A8|exact qM|exact isT|exact isF|exact qd .. | exact QZ .. | assumption|apply qB|apply zH|apply qe|apply zC|apply Ze|apply W0|apply cT|apply cF|apply t_1|apply f_0|apply zp)|assumption|rfl
   ·rw[uR h1]at q1;generalize pap w ps=tp at *
    repeat' first|with_reducible (first|exact st _|exact i0|exact ln|exact q1|exact qj|exact zg|exact A8|exact qM|exact isT|exact isF|exact qd .. | exact QZ .. | assumption|apply qB|apply zH|apply qe|apply zC|apply Ze|apply W0|apply cT|apply cF|apply t_1|apply f_0|apply zp)|assumption|rfl
  show ∃b,jp M.length (pxs _ _ _ _ [some (N (2 ^ s)),some (NL (rf (2 ^ s) S)),some (N P),some (pap w ps),none,none,none,none,none] M)=_/\_;rw[skip1];have q1:=λ{M:Mem}=>nes (M:=M) "open";have q2:=λ{M:Mem}=>nen (M:=M) 2;by_cases c2:ps.length+1=2/\w="open"
  ·obtain⟨c2,rfl⟩:=c2;obtain⟨L,rfl⟩:∃L,ps=[L]:=by
    match ps,c2 with
    | [a],_=>exact⟨a,rfl⟩
   obtain⟨b,e,hb⟩:=qBE (k:=k-1) (by omega) hs hP (S:=S) (L:=L) (hl L (by simp)) hM (w:="open") (o4:=none) (o5:=none) (o6:=none) (o7:=none) (o8:=none);refine⟨b,?_,hb.trans ⟨λt=>.inr ⟨rfl,L,rfl,t⟩,λt=>?_⟩⟩
   ·rw[uS rfl]at q1;have ln:∀{M:Mem},jE M .len [pap "open" [L]]=some (N 2,true):=ln;clear q2 eqn nen skip1;generalize pap "open" [L]=tp at *;generalize NL (rf (2 ^ s) S)=t3 at *;have q2:∀{M:Mem},qa M .ne (N 2) (N 2)=some false:=rfl;simp only[vR]at q1;refine(congrArg (jp M.length) (a₂:=PR.ok (PO.rt (bT b),M)) ?_).trans (qA rfl)
    repeat' first|with_reducible (first|exact st _|exact i0|exact ln|exact q1|exact q2|exact e|exact qj|exact zg|exact A8|exact qM|exact isT|exact isF|exact qd .. | exact QZ .. | assumption|apply qB|apply zH|apply qe|apply zC|apply Ze|apply W0|apply cT|apply cF|apply t_1|apply f_0|apply zp|apply qD)|assumption|rfl
   ·rcases t with⟨e,_⟩|⟨_,L',e,t⟩
    ·exact absurd e (by decide)
    ·cases e;exact t
  ·refine⟨false,?_,⟨λz=>absurd z wa,λt=>?_⟩⟩
   ·generalize qDi=db at *;by_cases h1:w="open"
    ·rw[uS h1]at q1;have h2:¬ ps.length+1=2:=λz=>c2 ⟨z,h1⟩;rw[uR h2]at q2;generalize N (ps.length+1)=nl at *;generalize pap w ps=tp at *;simp only[vR,vV]at q1 q2;refine(congrArg (jp M.length) (a₂:=PR.ok (PO.rt (bT false),M)) ?_).trans (qA rfl)
     repeat' first|with_reducible (first|exact st _|exact i0|exact ln|exact q1|exact q2|exact qj|exact zg|exact A8|exact qM|exact isT|exact isF|exact qd .. | exact QZ .. | assumption|apply qB|apply zH|apply qe|apply zC|apply Ze|apply W0|apply cT|apply cF|apply t_1|apply f_0|apply zp|apply qD)|assumption|rfl
    ·rw[uR h1]at q1;generalize pap w ps=tp at *;simp only[vV]at q1;refine(congrArg (jp M.length) (a₂:=PR.ok (PO.rt (bT false),M)) ?_).trans (qA rfl)
     repeat' first|with_reducible (first|exact st _|exact i0|exact ln|exact q1|exact qj|exact zg|exact A8|exact qM|exact isT|exact isF|exact qd .. | exact QZ .. | assumption|apply qB|apply zH|apply qe|apply zC|apply Ze|apply W0|apply cT|apply cF|apply t_1|apply f_0|apply zp|apply qD)|assumption|rfl
   ·rcases t with⟨e,sp',pl',q,_⟩|⟨e,L',q,_⟩
    ·subst q;exact absurd ⟨rfl,e⟩ c3
    ·subst q;exact absurd ⟨rfl,e⟩ c2
end
end _M
namespace _M
open PySem PySem.Spec _P
open _L (V)
open GF (Ris lp rch qm Told Qk wd par)
section
variable{k:Nat}
theorem Kept.refl{n:Nat}{M:Mem}(g:Good M n):Kept n M M:=⟨g,rfl,λ_ _=>rfl⟩
theorem qG8{M:Mem}(A B:List Nat)(h:A.length+B.length<=1000):qx M .add (NL A) (NL B)=some (NL (A++B),true):=by
 show qx M .add (.lst (A.map N)) (.lst (B.map N))=_;rw[R6 (by rw[wQ,wQ];exact wN h (by decide))];unfold lT;rw[<-vE,JE];rfl
theorem qDm{X:List Nat}{m:Nat}(h:m<=X.length):jx (X.map N) none (some (m:Int))=(X.take m).map N:=by
 rw[Qf (by rw[wQ];exact h),List.map_take]
theorem v3{X:List Nat}{m:Nat}:jx (X.map N) (some (m:Int)) none=(X.drop m).map N:=by
 by_cases h:m<=X.length
 ·rw[Zy (by rw[wQ];exact h),List.map_drop]
 ·unfold jx;rw[_H.sIx_nat,_H.sIx_none,wQ,Nat.min_eq_right (by omega),uC (show X.length<=m by omega),Nat.sub_self];rfl
theorem G4(L:List Nat):lT (L.map N)=(NL L,true):=by unfold lT;rw[JE];rfl
theorem qDQ{l:List Int}(h:∀x∈l,0<=x):(l.map λi=>T.v (.int i))=(l.map Int.toNat).map N:=by
 rw[vQ];refine vt λx hx=>?_;show T.v (.int x)=T.v (.int ((x.toNat:Nat):Int));rw[Int.toNat_of_nonneg (h x hx)]
theorem qBD(L:List Int):(uniq L).length<=L.length:=by rw[<-Qi];exact PyProof.Rows.firstMet_length_le _ _
theorem qGu(L:List Nat):∃R:List Nat,((jy (uniq (L.map λ(x:Nat)=>(x:Int)))).map λi=>T.v (.int i))=R.map N/\R.length<=L.length/\∀x∈R,x∈L:=by
 have mem:∀i∈jy (uniq (L.map λ(x:Nat)=>(x:Int))),∃x∈L,(x:Int)=i:=λi hi=>by
  obtain⟨x,hx,e⟩:=vM.mp (uniq_mem.mp ((jL _).mem_iff.mp hi));exact⟨x,hx,e⟩
 refine⟨_,qDQ λi hi=>?_,?_,λx hx=>?_⟩
 ·obtain⟨x,_,rfl⟩:=mem i hi;omega
 ·rw[wQ,(jL _).length_eq];have:=qBD (L.map λ(x:Nat)=>(x:Int))
  rwa [wQ]at this
 ·obtain⟨i,hi,rfl⟩:=vM.mp hx;obtain⟨y,hy,rfl⟩:=mem i hi;rw[wt];exact hy
theorem qGY{gl:List T}{P:Nat->List T->Mem->PR (TB×Mem)}{σ:TS}{M M1:Mem}{a:E}{t:T}{fa:Bool}{us:List T}{r:TB}(h:pe gl P a σ M=.ok ((t,fa),M1))(hl:t.lis M1=some us)(hr:lT us.reverse=r):pe gl P (.rev a) σ M=.ok (r,M1):=by
 rw[qEX,h,tD];dsimp only;rw[hl,<-hr];rfl
theorem qE8{gl:List T}{P:Nat->List T->Mem->PR (TB×Mem)}{σ:TS}{M M1:Mem}{a:E}{t:T}{fa:Bool}{us:List T}{is:List Int}(h:pe gl P a σ M=.ok ((t,fa),M1))(hl:t.lis M1=some us)(hi:qi us=some is)(h6:is.length<64):pe gl P (.sset a) σ M=.ok ((.lst ((jy (uniq is)).map λi=>T.v (.int i)),true),M1):=by
 rw[qCZ,h,tD];dsimp only;rw[hl,Option.bind_some,hi];show (if is.length<64 then _ else _)=_;rw[if_pos h6]
theorem O6(hk:2<=k){M:Mem}{n m:Nat}(g:Good M n)(hm:0<m/\m<=32){L:List Nat}(hL:L.length<=60/\∀x∈L,x<=64):∃R f M',Pk (glT gs) Tb.fns Cs k 37 [.cell n,N m,NL L] M=.ok ((NL R,f),M')/\Kept n M M'/\R.length<=L.length+1/\∀x∈R,x<=64:=by
 obtain⟨a,M1,e1,ha,k1⟩:=QH (k:=k-1) (by omega) g (m:=L.length+1) (by omega);obtain⟨b,M2,e2,hb,k2⟩:=QH (k:=k-1) (by omega) k1.good (m:=m) (by omega);obtain⟨w,M3,e3,hw,k3⟩:=QH (k:=k-1) (by omega) k2.good (m:=4) (by omega);have kk:Kept n M M3:=(k1.trans k2).trans k3;have lk:M3.length=M.length:=kk.len;have ln:∀{M:Mem},jE M .len [NL L]=some (N L.length,true):=λ{M}=>(IsL.nl M L).len;have ad:∀{M:Mem},qx M .add (N L.length) (N 1)=some (N (L.length+1),true):=λ{M}=>zQ _ _;have its:∀{M:Mem},(NL L).its M=some (L.map N):=λ{M}=>rfl;have lis:∀{M:Mem},(NL L).lis M=some (L.map N):=λ{M}=>rfl;have sm:∀lo hi,Jd (NL L) (L.map N) lo hi=some (lT (jx (L.map N) lo hi)):=λlo hi=>rfl;have ct:=qDm (X:=L) (m:=a) (by omega);have cd0:=v3 (X:=L) (m:=a);have cd1:jx (L.map N) (some ((a:Int)+1)) none=(L.drop (a+1)).map N:=v3 (X:=L) (m:=a+1);have t1:=G4 (L.take a);have t2:=G4 (L.drop a);have t3:=G4 (L.drop (a+1));have a1:∀{M:Mem},qx M .add (NL (L.take a)) (.lst [N b])=some (NL (L.take a++[b]),true):=λ{M}=>qG8 _ [b] (by simp;omega);have a2:∀{M:Mem},qx M .add (NL (L.take a++[b])) (NL (L.drop a))=some (NL (L.take a++[b]++L.drop a),true):=λ{M}=>qG8 _ _ (by simp;omega);have a3:∀{M:Mem},qx M .add (NL (L.take a)) (NL (L.drop (a+1)))=some (NL (L.take a++L.drop (a+1)),true):=λ{M}=>qG8 _ _ (by simp;omega);have rv:lT (L.map N).reverse=(NL L.reverse,true):=by rw[<-List.map_reverse,G4]
 have mb:∀x∈L.take a++[b]++L.drop a,x<=64:=λx hx=>by
  simp only[wJ,wU]at hx;rcases hx with(hx|rfl)|hx
  ·exact hL.2 x (vm hx)
  ·omega
  ·exact hL.2 x (vP hx)
 have lb:(L.take a++[b]++L.drop a).length<=L.length+1:=by simp;omega
 have s1:Jd (NL L) (L.map N) none (some (a:Int))=some (NL (L.take a),true):=by rw[sm,ct,t1]
 have s2:Jd (NL L) (L.map N) (some (a:Int)) none=some (NL (L.drop a),true):=by rw[sm,cd0,t2]
 have s3:Jd (NL L) (L.map N) (some ((a+1:Nat):Int)) none=some (NL (L.drop (a+1)),true):=by rw[sm,<-t3];exact congrArg (λz=>some (lT z)) cd1
 clear ct cd0 cd1 t1 t2 t3 sm;have cc:∀{M:Mem}(x y:Nat),qa M .eq (N x) (N y)=some (decide (x=y)):=λ{M} x y=>qd _ _;have hs:w=0\/w=1\/w=2\/w=3:=by omega
 rcases hs with rfl|rfl|rfl|rfl
 ·obtain⟨R,eR,lR,mR⟩:=qGu (L.take a++[b]++L.drop a);refine⟨R,true,M3,?_,kk,by omega,λx hx=>mb x (mR x hx)⟩;have li:(NL (L.take a++[b]++L.drop a)).lis M3=some ((L.take a++[b]++L.drop a).map N):=rfl;have iN:=qBq (L.take a++[b]++L.drop a);have l64:((L.take a++[b]++L.drop a).map λ(x:Nat)=>(x:Int)).length<64:=by rw[wQ];omega
  have eR:T.lst ((jy (uniq ((L.take a++[b]++L.drop a).map λ(x:Nat)=>(x:Int)))).map λi=>T.v (.int i))=NL R:=congrArg T.lst eR;have c0:qa M3 .eq (N 0) (N 0)=some true:=cc 0 0;have c1:=c0;have c2:=c0;have lfR:((NL R,true):TB)=(.lst ((jy (uniq ((L.take a++[b]++L.drop a).map λ(x:Nat)=>(x:Int)))).map λi=>T.v (.int i)),true):=by rw[eR]
  rw[lfR];have z:pxs (glT gs) (Pk (glT gs) Tb.fns Cs (k-1)) [] b37 [some (.cell n),some (N m),some (NL L),none,none,none] M=.ok (.rt (.lst ((jy (uniq ((L.take a++[b]++L.drop a).map λ(x:Nat)=>(x:Int)))).map λi=>T.v (.int i)),true),M3):=by
   rw[b37]
   repeat' first|with_reducible (first|exact ln|exact ad|exact e1|exact e2|exact e3|exact c0|exact c1|exact c2|exact its|exact lis|exact a1|exact a2|exact a3|exact li|exact iN|exact l64|exact qV|exact qY|exact qW|exact qj|exact qp|exact zW|exact zg|exact qM|exact isT|exact isF|exact ll1|exact zR|exact zD|exact qt|exact zQ .. | exact qd .. | assumption|apply qB|apply qK|apply qz|apply qe|apply zC|apply zE|apply k9|apply t_1|apply f_0|apply zp|apply qD|apply qE8)|((with_reducible apply ql);exact cN rfl)|assumption|exact s1|exact s2|exact s3|exact nF rfl|exact nT rfl|rfl
  exact zT t37 ⟨rfl,by decide⟩ (by omega) rfl rfl z (qA lk)
 ·refine⟨L.take a++[b]++L.drop a,true,M3,?_,kk,lb,mb⟩;have c0:qa M3 .eq (N 1) (N 0)=some false:=cc 1 0;have c1:qa M3 .eq (N 1) (N 1)=some true:=cc 1 1;have c2:=c0;have z:pxs (glT gs) (Pk (glT gs) Tb.fns Cs (k-1)) [] b37 [some (.cell n),some (N m),some (NL L),none,none,none] M=.ok (.rt (NL (L.take a++[b]++L.drop a),true),M3):=by
   rw[b37]
   repeat' first|with_reducible (first|exact ln|exact ad|exact e1|exact e2|exact e3|exact c0|exact c1|exact c2|exact its|exact lis|exact a1|exact a2|exact a3|exact qV|exact qY|exact qW|exact qj|exact qp|exact zW|exact zg|exact qM|exact isT|exact isF|exact ll1|exact zR|exact zD|exact qt|exact zQ .. | exact qd .. | assumption|apply qB|apply qK|apply qz|apply qe|apply zC|apply zE|apply k9|apply t_1|apply f_0|apply zp|apply qD)|((with_reducible apply ql);exact cN rfl)|assumption|exact s1|exact s2|exact s3|exact nF rfl|exact nT rfl|rfl
  exact zT t37 ⟨rfl,by decide⟩ (by omega) rfl rfl z (qA lk)
 ·refine⟨L.take a++L.drop (a+1),true,M3,?_,kk,by simp;omega,λx hx=>(wJ.mp hx).elim (λz=>hL.2 x (vm z)) λz=>hL.2 x (vP z)⟩;have c0:qa M3 .eq (N 2) (N 0)=some false:=cc 2 0;have c1:qa M3 .eq (N 2) (N 1)=some false:=cc 2 1;have c2:qa M3 .eq (N 2) (N 2)=some true:=cc 2 2;have z:pxs (glT gs) (Pk (glT gs) Tb.fns Cs (k-1)) [] b37 [some (.cell n),some (N m),some (NL L),none,none,none] M=.ok (.rt (NL (L.take a++L.drop (a+1)),true),M3):=by
   rw[b37]
   repeat' first|with_reducible (first|exact ln|exact ad|exact e1|exact e2|exact e3|exact c0|exact c1|exact c2|exact its|exact lis|exact a1|exact a2|exact a3|exact qV|exact qY|exact qW|exact qj|exact qp|exact zW|exact zg|exact qM|exact isT|exact isF|exact ll1|exact zR|exact zD|exact qt|exact zQ .. | exact qd .. | assumption|apply qB|apply qK|apply qz|apply qe|apply zC|apply zE|apply k9|apply t_1|apply f_0|apply zp|apply qD)|((with_reducible apply ql);exact cN rfl)|assumption|exact s1|exact s2|exact s3|exact nF rfl|exact nT rfl|rfl
  exact zT t37 ⟨rfl,by decide⟩ (by omega) rfl rfl z (qA lk)
 ·refine⟨L.reverse,true,M3,?_,kk,by simp,λx hx=>hL.2 x (List.mem_reverse.mp hx)⟩;have c0:qa M3 .eq (N 3) (N 0)=some false:=cc 3 0;have c1:qa M3 .eq (N 3) (N 1)=some false:=cc 3 1;have c2:qa M3 .eq (N 3) (N 2)=some false:=cc 3 2;have z:pxs (glT gs) (Pk (glT gs) Tb.fns Cs (k-1)) [] b37 [some (.cell n),some (N m),some (NL L),none,none,none] M=.ok (.rt (NL L.reverse,true),M3):=by
   rw[b37]
   repeat' first|with_reducible (first|exact ln|exact ad|exact e1|exact e2|exact e3|exact c0|exact c1|exact c2|exact its|exact lis|exact a1|exact a2|exact a3|exact rv|exact qV|exact qY|exact qW|exact qj|exact qp|exact zW|exact zg|exact qM|exact isT|exact isF|exact ll1|exact zR|exact zD|exact qt|exact zQ .. | exact qd .. | assumption|apply qB|apply qK|apply qz|apply qe|apply zC|apply zE|apply k9|apply t_1|apply f_0|apply zp|apply qD|apply qGY)|((with_reducible apply ql);exact cN rfl)|assumption|exact s1|exact s2|exact s3|exact nF rfl|exact nT rfl|rfl
  exact zT t37 ⟨rfl,by decide⟩ (by omega) rfl rfl z (qA lk)
theorem odd(hk:1<=k){M:Mem}(hM:FlatM M){n P:Nat}(hn:n<=32){sp:List Nat}(l1:sp.length<=1000):∃R f,Pk (glT gs) Tb.fns Cs k 39 [N n,NL sp,N P] M=.ok ((NL R,f),M)/\R.length<=n/\∀x∈R,x<n:=by
 have loop:∀(ms ys:List Nat) (o4 o5:Option T),ys.length+ms.length<=1000->∃(Z:List Nat) (p4 p5:Option T),jJ [] (.name 4) (pxs (glT gs) (Pk (glT gs) Tb.fns Cs (k-1)) [3] V6) (ms.map N) [some (N n),some (NL sp),some (N P),some (.cell M.length),o4,o5] (M++[ys.map N])=.ok (.nx [some (N n),some (NL sp),some (N P),some (.cell M.length),p4,p5],M++[(ys++Z).map N])/\Z.length<=ms.length/\∀x∈Z,x∈ms:=by
  intro ms
  induction ms with
  |nil=>intro ys o4 o5 _;exact⟨[],o4,o5,by simp,wG _,λx hx=>by simp at hx⟩
  |cons p ms ih=>
   intro ys o4 o5 hy;have c1:=zF (c:=pec (glT gs) (Pk (glT gs) Tb.fns Cs (k-1)) (.cons (.cmp .eq (.bin .band (.var 1) (.var 0)) (.var 0)) .nil)) (e:=pe (glT gs) (Pk (glT gs) Tb.fns Cs (k-1)) (.var 0)) (M:=M++[ys.map N]) (σ:=[some (N p)]) (o:=none) (its:=sp) (λx=>rch p x) (λx=>x) (by simp[lim];omega) (λx _=>by simp[Ja,rch]) (λx _ _=>by simp);rw[ve]at c1;have lN:=(IsL.nl (M++[ys.map N]) (sp.filter λx=>rch p x)).len;have sN:=qDk (M:=M++[ys.map N]) sp;generalize (sp.filter λx=>rch p x)=F at *;have g0:(M++[ys.map N])[M.length]?=some (ys.map N):=by simp
   have s0:(M++[ys.map N]).set M.length (ys.map N++[N p])=M++[(ys++[p]).map N]:=by
    rw[vW _ _ (wG _)];simp
   have ap:Y9 (M++[ys.map N]) M.length (N p)=some (M++[(ys++[p]).map N]):=by
    rw[qAc g0 (by simp at hy;simp[lim];omega),s0]
   have eq:∀{M:Mem},qa M .eq (N p) (N P)=some (decide (p=P)):=λ{M}=>qd _ _;have eq1:∀{M:Mem},qa M .eq (N ((F.length+(decide (p=P)).toNat) % 2)) (N 1)=some (decide ((F.length+(decide (p=P)).toNat) % 2=1)):=λ{M}=>qd _ _;obtain⟨Z,p4,p5,e,lZ,mZ⟩:=ih (ys++[p]) (some (N p)) (some (N (F.length+(decide (p=P)).toNat))) (by simp at hy ⊢;omega);obtain⟨Z',p4',p5',e',lZ',mZ'⟩:=ih ys (some (N p)) (some (N (F.length+(decide (p=P)).toNat))) (by simp at hy ⊢;omega);rw[List.map_cons,zJ,show ∀a b c d e f z:Option T,[a,b,c,d,e,f].set 4 z=[a,b,c,d,z,f] from λ_ _ _ _ _ _ _=>rfl];generalize decide (p=P)=b1 at *;cases hz:decide ((F.length+b1.toNat) % 2=1) with
   |true=>
    rw[hz]at eq1;have body:pxs (glT gs) (Pk (glT gs) Tb.fns Cs (k-1)) [3] V6 [some (N n),some (NL sp),some (N P),some (.cell M.length),some (N p),o5] (M++[ys.map N])=.ok (.nx [some (N n),some (NL sp),some (N P),some (.cell M.length),some (N p),some (N (F.length+b1.toNat))],M++[(ys++[p]).map N]):=by
     clear e e' ih g0 s0;rw[V6];generalize NL F=tF at *;generalize sp.map N=mS at *;generalize NL sp=tS at *
     repeat' first|with_reducible (first|exact sN|exact lN|exact eq|exact eq1|exact ap|exact JD _|exact md2 _|exact qV|exact qY|exact qW|exact qj|exact qp|exact zW|exact zg|exact qM|exact K1|exact isT|exact isF|exact ll0|exact zR|exact qt|exact zQ .. | exact qd .. | assumption|apply qB|apply qz|apply qe|apply zC|apply zE|apply qX|apply zB|apply zO|apply t_1|apply f_0|apply zp|apply ZA|apply qAO)|((with_reducible apply ql);exact cN rfl)|((with_reducible apply D0);exact rfl)|assumption|exact c1|exact JD _|exact md2 _|exact eq1|rfl
    rw[body,tD];dsimp only;refine⟨p::Z,p4,p5,?_,by simp;omega,λx hx=>?_⟩
    ·rw[e];simp
    ·rcases wI.mp hx with rfl|hx
     ·simp
     ·exact wH _ (mZ x hx)
   |false=>
    rw[hz]at eq1;have body:pxs (glT gs) (Pk (glT gs) Tb.fns Cs (k-1)) [3] V6 [some (N n),some (NL sp),some (N P),some (.cell M.length),some (N p),o5] (M++[ys.map N])=.ok (.nx [some (N n),some (NL sp),some (N P),some (.cell M.length),some (N p),some (N (F.length+b1.toNat))],M++[ys.map N]):=by
     clear e e' ih g0 s0;rw[V6];generalize NL F=tF at *;generalize sp.map N=mS at *;generalize NL sp=tS at *
     repeat' first|with_reducible (first|exact sN|exact lN|exact eq|exact eq1|exact JD _|exact md2 _|exact qV|exact qY|exact qW|exact qj|exact qp|exact zW|exact zg|exact qM|exact K1|exact isT|exact isF|exact ll0|exact zR|exact qt|exact zQ .. | exact qd .. | assumption|apply qB|apply qz|apply qe|apply zC|apply zE|apply qX|apply zB|apply zO|apply t_1|apply f_0|apply zp|apply ZA|apply qAO)|((with_reducible apply ql);exact cN rfl)|((with_reducible apply D0);exact rfl)|assumption|exact c1|exact JD _|exact md2 _|exact eq1|rfl
    rw[body,tD];dsimp only;exact⟨Z',p4',p5',e',by simp;omega,λx hx=>wH _ (mZ' x hx)⟩
 obtain⟨Z,p4,p5,e,lZ,mZ⟩:=loop (List.range n) [] none none (by simp;omega);rw[List.nil_append,List.map_nil]at e;have rg:=zP (n:=n) (by omega);have th:thaw M.length (.lst [])=(.cell M.length,[[]]):=by simp[thaw,Qq]
 refine⟨Z,true,?_,by simpa using lZ,λx hx=>wT.mp (mZ x hx)⟩;generalize NL sp=tS at *;have z:pxs (glT gs) (Pk (glT gs) Tb.fns Cs (k-1)) [3] b39 [some (N n),some tS,some (N P),none,none,none] M=.ok (.rt (.cell M.length,false),M++[Z.map N]):=by
  rw[b39]
  repeat' first|with_reducible (first|exact th|exact rg|exact e|exact qV|exact qY|exact qW|exact qj|exact qp|exact zW|exact zg|exact qM|exact K1|exact isT|exact isF|exact ll0|exact zR|exact qt|exact zQ .. | exact qd .. | assumption|apply qB|apply qz|apply qe|apply zC|apply zE|apply qX|apply zB|apply zO|apply t_1|apply f_0|apply zp|apply ZA|apply qAO|apply qD)|((with_reducible apply ql);exact cN rfl)|((with_reducible apply D0);exact rfl)|assumption|rfl
 exact zT t39 ⟨rfl,by decide⟩ hk rfl rfl z (F3 hM Z false)
end
end _M
namespace _M
open PySem PySem.Spec _P
open _L (V)
open GF (Ris lp rch qm Told Qk wd par)
section
variable{k:Nat}
theorem qFx(hk:2<=k){M:Mem}{n m:Nat}(g:Good M n)(hm:0<m/\m<=1000):∃L f M',Pk (glT gs) Tb.fns Cs k 33 [.cell n,N m] M=.ok ((NL L,f),M')/\Kept n M M'/\L.length=m/\∀x∈L,x<2:=by
 obtain⟨w,M1,e1,hw,k1⟩:=QH (k:=k-1) (by omega) g (m:=4) (by decide);by_cases h0:w=0
 ·subst h0;obtain⟨a,M2,e2,ha,k2⟩:=QH (k:=k-1) (by omega) k1.good (m:=m) (by omega);have c:=Jy (gl:=glT gs) (P:=Pk (glT gs) Tb.fns Cs (k-1)) (e:=pe (glT gs) (Pk (glT gs) Tb.fns Cs (k-1)) (.blt .int (.cons (.cmp .eq (.var 0) (.var 1)) .nil))) (M:=M2) (σ:=[some (N a)]) (o:=none) (its:=List.range m) (λx=>(decide (x=a)).toNat) (by simp[lim];omega) (λx _=>by simp);refine⟨(List.range m).map λx=>(decide (x=a)).toNat,true,M2,?_,k1.trans k2,by simp,?_⟩
  ·have rg:=zP (n:=m) (by omega);have c0:qa M1 .eq (N 0) (N 0)=some true:=rfl;have z:pxs (glT gs) (Pk (glT gs) Tb.fns Cs (k-1)) [] b33 [some (.cell n),some (N m),none,none,none] M=.ok (.rt (NL ((List.range m).map λx=>(decide (x=a)).toNat),true),M2):=by
    rw[b33]
    repeat' first|with_reducible (first|exact e1|exact e2|exact rg|exact c0|exact qV|exact qY|exact qW|exact qp|exact zg|exact qM|exact isT|exact isF|exact ZY|exact zR|exact zD|exact qd .. | assumption|apply qB|apply qK|apply qe|apply qX|apply zB|apply zO|apply t_1|apply t_2|apply f_0|apply zp|apply qD)|((with_reducible apply ql);exact cN rfl)|assumption|exact c|rfl
   exact zT t33 ⟨rfl,by decide⟩ (by omega) rfl rfl z (qA (k1.trans k2).len)
  ·intro x hx;obtain⟨y,_,rfl⟩:=vM.mp hx;cases decide (y=a)<;>decide
 ·obtain⟨L,M2,e2,k2,l2,r2⟩:=A4 (gl:=glT gs) (P:=Pk (glT gs) Tb.fns Cs (k-1)) (e:=pe (glT gs) (Pk (glT gs) Tb.fns Cs (k-1)) (.call 31 (.cons (.var 1) (.cons (nE 2) .nil)))) (σ:=[some (.cell n)]) (I:=Kept n M1) (R:=λy=>y<2) (List.range m) [] true none M1 (by simp[lim];omega) ⟨k1.good,rfl,λ_ _=>rfl⟩ (λx _ M' hI=>by
   obtain⟨d,M3,e3,h3,k3⟩:=QH (k:=k-1) (by omega) hI.good (m:=2) (by decide);exact⟨d,M3,by simp[e3],hI.trans k3,h3⟩)
  rw[List.map_nil,List.nil_append]at e2;simp at l2;have rg:=zP (n:=m) (by omega);have k12:=k1.trans k2;have sN:=qDk (M:=M2) L;have lf:=QF L;have e2:qg _ _ _ _ _ _ _ _ _=.ok ((NL L,true),M2):=e2;by_cases h1:w=1
  ·subst h1;obtain⟨L',M4,e4,k4,l4,r4⟩:=A4 (gl:=glT gs) (P:=Pk (glT gs) Tb.fns Cs (k-1)) (e:=pe (glT gs) (Pk (glT gs) Tb.fns Cs (k-1)) (.blt .int (.cons (.and (.cmp .eq (.var 0) (nE 1)) (.cmp .eq (.call 31 (.cons (.var 1) (.cons (nE 4) .nil))) (nE 0))) .nil))) (σ:=[some (.cell n)]) (I:=Kept n M2) (R:=λy=>y<2) L [] true none M2 (by simp[lim,l2];omega) ⟨k2.good,rfl,λ_ _=>rfl⟩ (λx _ M' hI=>by
    by_cases hx:x=1
    ·obtain⟨d,A',e3,h3,k3⟩:=QH (k:=k-1) (by omega) hI.good (m:=4) (by decide);exact⟨(decide (d=0)).toNat,_,by simp[hx,e3],hI.trans k3,by cases decide (d=0)<;>decide⟩
    ·exact⟨0,_,by simp[hx],hI,by decide⟩)
   rw[List.map_nil,List.nil_append]at e4;have e4:qg _ _ _ _ _ _ _ _ _=.ok ((NL L',true),M4):=e4;have lf':=QF L';refine⟨L',false,M4,?_,k12.trans k4,by rw[l4,l2],r4⟩;clear r2 r4;generalize L.map N=mL at *;generalize NL L=tL at *;generalize NL L'=tL' at *;have c0:qa M1 .eq (N 1) (N 0)=some false:=rfl;have c1:qa M2 .eq (N 1) (N 1)=some true:=rfl;have z:pxs (glT gs) (Pk (glT gs) Tb.fns Cs (k-1)) [] b33 [some (.cell n),some (N m),none,none,none] M=.ok (.rt (tL',false),M4):=by
    rw[b33]
    repeat' first|with_reducible (first|exact e1|exact rg|exact sN|exact c0|exact c1|exact qV|exact qY|exact qW|exact qp|exact zg|exact qM|exact isT|exact isF|exact ZY|exact zR|exact zD|exact qd .. | assumption|apply qB|apply qK|apply qe|apply qX|apply zB|apply zO|apply t_1|apply t_2|apply f_0|apply zp|apply qD)|((with_reducible apply ql);exact cN rfl)|assumption|exact e2|exact e4|rfl|(exact congrArg (Prod.mk _) lf')
   exact zT t33 ⟨rfl,by decide⟩ (by omega) rfl rfl z (qA (k12.trans k4).len)
  ·refine⟨L,false,M2,?_,k12,l2,r2⟩;clear r2;generalize L.map N=mL at *;generalize NL L=tL at *;have c0:qa M1 .eq (N w) (N 0)=some false:=by rw[qd,uR h0]
   have c1:qa M2 .eq (N w) (N 1)=some false:=by rw[qd,uR h1]
   have z:pxs (glT gs) (Pk (glT gs) Tb.fns Cs (k-1)) [] b33 [some (.cell n),some (N m),none,none,none] M=.ok (.rt (tL,false),M2):=by
    rw[b33]
    repeat' first|with_reducible (first|exact e1|exact rg|exact c0|exact c1|exact qV|exact qY|exact qW|exact qp|exact zg|exact qM|exact isT|exact isF|exact ZY|exact zR|exact zD|exact qd .. | assumption|apply qB|apply qK|apply qe|apply qX|apply zB|apply zO|apply t_1|apply t_2|apply f_0|apply zp|apply qD)|((with_reducible apply ql);exact cN rfl)|assumption|exact e2|rfl|(exact congrArg (Prod.mk _) lf)
   exact zT t33 ⟨rfl,by decide⟩ (by omega) rfl rfl z (qA k12.len)
structure Pp(w:Str)(ps:List (List Nat)):Prop where
 len:1<=ps.length/\ps.length<=3
 row:∀L∈ps,L.length<=80/\∀x∈L,x<=64
 wrd:w∈[("told":Str),"open","Told",""]
theorem R8{ps:List (List Nat)}(h:1<=ps.length):T.lfs (ps.map NL)=false:=by
 cases ps with
 |nil=>simp at h
 |cons a r=>simp[T.lfs,QF]
theorem qCc{M:Mem}{w:Str}{ps:List (List Nat)}(h:ps≠[]):jl M (pap w ps) (.v (.int (-1)))=some (NL (ps.getLast h),(NL (ps.getLast h)).lf):=by
 show ((some (Ts w::ps.map NL)).bind λxs=>(_L.ixN xs.length (-1)).bind λj=>(xs[j]?).map λt=>(t,t.lf))=_;have e:_L.ixN (Ts w::ps.map NL).length (-1)=some (ps.length):=by
  unfold _L.ixN;have hp:0<ps.length:=vv.mpr h;rw[if_neg (by decide),if_pos (by simp;omega)];congr 1;simp;omega
 rw[Option.bind_some,e,Option.bind_some];have hp:0<ps.length:=vv.mpr h;have:(Ts w::ps.map NL)[ps.length]?=some (NL (ps.getLast h)):=by
  rw[show ps.length=(ps.length-1)+1 by omega,List.getElem?_cons_succ,vB,List.getLast_eq_getElem,wD (by omega)];rfl
 rw[this];rfl
theorem qGt{j:Nat}(h:j<4):∃w,[Ts "told",Ts "open",Ts "Told",Ts ""][j]?=some (Ts w)/\w∈[("told":Str),"open","Told",""]:=by
 have:j=0\/j=1\/j=2\/j=3:=by omega
 rcases this with rfl|rfl|rfl|rfl
 ·exact⟨_,rfl,by simp⟩
 ·exact⟨_,rfl,by simp⟩
 ·exact⟨_,rfl,by simp⟩
 ·exact⟨_,rfl,by simp⟩
noncomputable def qDN:S:=(.asg (.name 3) (.lst (.cons (.cst (V.str "told")) (.cons (.cst (V.str "open")) (.cons (.cst (V.str "Told")) (.cons (.cst (V.str "")) .nil))))))
noncomputable def qC9:S:=(.asg (.name 4) (.call 31 (.cons (.var 0) (.cons (nE 4) .nil))))
noncomputable def k0:S:=(.ifs (.cmp .eq (.var 4) (nE 0)) (.cons (.ret (.bin .add (.tup (.cons (.idx (.var 3) (.call 31 (.cons (.var 0) (.cons (nE 4) .nil)))) .nil)) (.sl (.var 2) (.cons (nE 1) .nil) .nil))) .nil) .nil)
noncomputable def W8:S:=(.ifs (.cmp .eq (.var 4) (nE 1)) (.cons (.ret (.bin .add (.var 2) (.tup (.cons (.idx (.var 2) (.neg (nE 1))) .nil)))) .nil) .nil)
noncomputable def D4:S:=(.ifs (.cmp .eq (.idx (.var 2) (nE 0)) (.cst (V.str "told"))) (.cons (.ifs (.cmp .eq (.var 4) (nE 2)) (.cons (.ret (.tup (.cons (.cst (V.str "told")) (.cons (.call 37 (.cons (.var 0) (.cons (.var 1) (.cons (.idx (.var 2) (nE 1)) .nil)))) (.cons (.idx (.var 2) (nE 2)) .nil))))) .nil) .nil) (.cons (.ret (.tup (.cons (.cst (V.str "told")) (.cons (.idx (.var 2) (nE 1)) (.cons (.call 37 (.cons (.var 0) (.cons (.var 1) (.cons (.idx (.var 2) (nE 2)) .nil)))) .nil))))) .nil)) .nil)
noncomputable def Y1:S:=(.asg (.name 5) (.blt .list (.cons (.idx (.var 2) (nE 1)) .nil)))
noncomputable def V1:S:=(.asg (.name 6) (.call 31 (.cons (.var 0) (.cons (.var 1) .nil))))
noncomputable def V2:S:=(.put (.var 5) (.var 6) (.idx (.lst (.cons (.bin .sub (nE 1) (.idx (.var 5) (.var 6))) (.cons (nE 2) .nil))) (.blt .int (.cons (.cmp .eq (.call 31 (.cons (.var 0) (.cons (nE 8) .nil))) (nE 0)) .nil))))
noncomputable def X0:S:=(.ret (.tup (.cons (.cst (V.str "open")) (.cons (.idx (.lst (.cons (.var 5) (.cons (.sl (.var 5) (.cons (nE 1) .nil) .nil) (.cons (.bin .add (.var 5) (.lst (.cons (nE 0) .nil))) .nil)))) (.bin .mul (.blt .int (.cons (.cmp .eq (.var 4) (nE 3)) .nil)) (.call 31 (.cons (.var 0) (.cons (nE 3) .nil))))) .nil))))
theorem qER:b38=(.cons qDN (.cons qC9 (.cons k0 (.cons W8 (.cons D4 (.cons Y1 (.cons V1 (.cons V2 (.cons X0 .nil))))))))):=rfl
noncomputable abbrev jV:T:=.lst [Ts "told",Ts "open",Ts "Told",Ts ""]
theorem qB7(w:Str)(ps:List (List Nat)):∀{M:Mem},(pap w ps).its M=some (Ts w::ps.map NL):=λ{M}=>rfl
theorem qGM(hk:1<=k){M:Mem}{n m:Nat}(g:Good M n){w:Str}{ps:List (List Nat)}(h1:1<=ps.length)(h3:ps.length<=3){o5 o6:Option T}{r:Ss}:∃w' M',pxs (glT gs) (Pk (glT gs) Tb.fns Cs k) [5] (.cons k0 r) [some (.cell n),some (N m),some (pap w ps),some jV,some (N 0),o5,o6] M=.ok (.rt (pap w' ps,false),M')/\Kept n M M'/\w'∈[("told":Str),"open","Told",""]:=by
 obtain⟨j,M1,e1,hj,k1⟩:=QH (k:=k) (by omega) g (m:=4) (by decide);obtain⟨w',ew,hw⟩:=qGt hj;refine⟨w',M1,?_,k1,hw⟩;have ix:∀{M:Mem},jl M jV (N j)=some (Ts w',true):=λ{M}=>by rw[QR,ew];rfl
 have s1:=sl1 (M:=M1) w (ps.map NL);have lr:=R8 h1;have lp:T.lfs (Ts w'::ps.map NL)=false:=by rw[T.lfs,lr];simp
 have ad:∀{M:Mem},qx M .add (.tup [Ts w']) (.tup (ps.map NL))=some (pap w' ps,false):=λ{M}=>by
  rw[qBa ⟨by simp,by show 1+(ps.map NL).length<=lim;rw[wQ];exact wN (show 1+ps.length<=4 by omega) (by decide)⟩];show some (T.tup (Ts w'::ps.map NL),T.lfs (Ts w'::ps.map NL))=_;rw[lp]
 have its:=λ{M:Mem}=>qB7 w ps (M:=M);unfold k0;rw[show T.tup (Ts w::ps.map NL)=pap w ps from rfl]at s1;generalize Ts w::ps.map NL=hd at *;rw[lr]at s1;generalize T.tup (ps.map NL)=tl at *;generalize pap w ps=tp at *;generalize pap w' ps=tp' at *;generalize jV=w4 at *;have im:qi [N 1]=some [1]:=rfl;have c0:qa M .eq (N 0) (N 0)=some true:=rfl
 repeat' first|with_reducible (first|exact c0|exact e1|exact ix|exact its|exact im|exact s1|exact ad|exact qV|exact qW|exact qj|exact qp|exact zg|exact qM|exact isT|exact ll1|assumption|apply qB|apply qK|apply zH|apply qz|apply qe|apply zl|apply k9|apply t_1|apply zp|apply qD)|assumption|rfl
theorem qHG{M:Mem}{n m:Nat}{w:Str}{ps:List (List Nat)}(h:ps≠[])(h3:ps.length<=3){x3:T}{o5 o6:Option T}{r:Ss}:pxs (glT gs) (Pk (glT gs) Tb.fns Cs k) [5] (.cons W8 r) [some (.cell n),some (N m),some (pap w ps),some x3,some (N 1),o5,o6] M=.ok (.rt (pap w (ps++[ps.getLast h]),false),M):=by
 have h1:1<=ps.length:=vv.mpr h;have ix:=λ{M:Mem}=>qCc (M:=M) (w:=w) h;have lr:=R8 (ps:=ps++[ps.getLast h]) (by simp);have ad:∀{M:Mem},qx M .add (pap w ps) (.tup [NL (ps.getLast h)])=some (pap w (ps++[ps.getLast h]),false):=λ{M}=>by
  unfold pap;rw[qBa ⟨by simp,by simp[lim];omega⟩];have e:Ts w::ps.map NL++[NL (ps.getLast h)]=Ts w::(ps++[ps.getLast h]).map NL:=by simp
  rw[e,T.lfs,lr];simp
 have ng:∀{M:Mem}{σ:TS},pe (glT gs) (Pk (glT gs) Tb.fns Cs k) (.neg (nE 1)) σ M=.ok ((.v (.int (-1)),true),M):=λ{M σ}=>rfl;unfold W8;generalize pap w (ps++[ps.getLast h])=tp' at *;generalize NL (ps.getLast h)=tl at *;generalize pap w ps=tp at *;have c0:qa M .eq (N 1) (N 1)=some true:=rfl
 repeat' first|with_reducible (first|exact c0|exact ix|exact ad|exact ng|exact qW|exact qp|exact zg|exact qM|exact isT|exact ll1|assumption|apply qB|apply zH|apply qz|apply qe|apply zl|apply t_1|apply zp|apply qD)|assumption|rfl
theorem qF5(hk:3<=k){M:Mem}{n m:Nat}(g:Good M n)(hm:0<m/\m<=32){sp pl:List Nat}(h1:sp.length<=60/\∀x∈sp,x<=64)(h2:pl.length<=60/\∀x∈pl,x<=64){w:Nat}(hw:w=2\/w=3){x3:T}{o5 o6:Option T}{r:Ss}:∃ps f M',pxs (glT gs) (Pk (glT gs) Tb.fns Cs k) [5] (.cons D4 r) [some (.cell n),some (N m),some (pap "told" [sp,pl]),some x3,some (N w),o5,o6] M=.ok (.rt (pap "told" ps,f),M')/\Kept n M M'/\ps.length=2/\∀L∈ps,L.length<=80/\∀x∈L,x<=64:=by
 have i0:∀{M:Mem},jl M (pap "told" [sp,pl]) (N 0)=some (Ts "told",true):=λ{M}=>by unfold pap;rw[zi];rfl
 have i1:∀{M:Mem},jl M (pap "told" [sp,pl]) (N 1)=some (NL sp,(NL sp).lf):=λ{M}=>by unfold pap;rw[zi];rfl
 have i2:∀{M:Mem},jl M (pap "told" [sp,pl]) (N 2)=some (NL pl,(NL pl).lf):=λ{M}=>by unfold pap;rw[zi];rfl
 have es:∀{M:Mem},qa M .eq (Ts "told") (Ts "told")=some true:=λ{M}=>by rw[ZC];simp
 have l1:=QF sp;have l2:=QF pl;rcases hw with rfl|rfl
 ·obtain⟨R,f,M1,e1,k1,lR,mR⟩:=O6 (k:=k) (by omega) g hm h1;refine⟨[R,pl],false,M1,?_,k1,rfl,λL hL=>?_⟩
  ·have pe_:pap "told" [R,pl]=.tup [Ts "told",NL R,NL pl]:=rfl;rw[pe_];unfold D4;generalize pap "told" [sp,pl]=tp at *;generalize NL R=tR at *;generalize NL sp=t1 at *;generalize NL pl=t2 at *;have c0:qa M .eq (N 2) (N 2)=some true:=rfl
   repeat' first|with_reducible (first|exact c0|exact st_ _|exact i0|exact i1|exact i2|exact es|exact e1|exact qV|exact qY|exact qW|exact qp|exact zg|exact qM|exact isT|exact isF|exact ll3|assumption|apply qB|apply qK|apply zH|apply qe|apply zl|apply t_1|apply t_2|apply f_0|apply zp|apply qD)|assumption|exact congrArg (Prod.mk _) (by rw[l2];cases f<;>rfl)
  ·simp only[wI,wX,or_false]at hL;rcases hL with rfl|rfl
   ·exact⟨by omega,mR⟩
   ·exact⟨by omega,h2.2⟩
 ·obtain⟨R,f,M1,e1,k1,lR,mR⟩:=O6 (k:=k) (by omega) g hm h2;refine⟨[sp,R],false,M1,?_,k1,rfl,λL hL=>?_⟩
  ·have pe_:pap "told" [sp,R]=.tup [Ts "told",NL sp,NL R]:=rfl;rw[pe_];unfold D4;generalize pap "told" [sp,pl]=tp at *;generalize NL R=tR at *;generalize NL sp=t1 at *;generalize NL pl=t2 at *;have c0:qa M .eq (N 3) (N 2)=some false:=rfl
   repeat' first|with_reducible (first|exact c0|exact st_ _|exact i0|exact i1|exact i2|exact es|exact e1|exact qV|exact qY|exact qW|exact qp|exact zg|exact qM|exact isT|exact isF|exact ll3|assumption|apply qB|apply qK|apply zH|apply qe|apply zl|apply t_1|apply t_2|apply f_0|apply zp|apply qD)|assumption|exact congrArg (Prod.mk _) (by rw[l1];cases f<;>rfl)
  ·simp only[wI,wX,or_false]at hL;rcases hL with rfl|rfl
   ·exact⟨by omega,h1.2⟩
   ·exact⟨by omega,mR⟩
theorem qE3{M:Mem}{n d:Nat}(L:List Nat):qJ M n d (NL L)=some (NL L):=by
 cases d<;>(unfold qJ;rw[if_pos (by show T.unds n (L.map N)=true;exact d9 n L)])
theorem qE6{M:Mem}{n d:Nat}(w:Str):qJ M n d (Ts w)=some (Ts w):=by
 cases d<;>(unfold qJ;rw[if_pos (by unfold Ts;rw[T.und])])
theorem Y0{M A:Mem}{L Q:List Nat}{t:T}{f:Bool}(hA:FlatM A)(hl:A.length=M.length)(ht:t=.cell A.length/\Q=L\/t=NL Q):∃f',jp M.length (.ok (.rt (.tup [Ts "open",t],f),A++[L.map N]))=.ok ((pap "open" [Q],f'),A):=by
 refine⟨f||frR (A++[L.map N]) A.length (.tup [Ts "open",t]),?_⟩;show _P.finish M.length _ _=_;unfold _P.finish;rw[if_neg (by rw[wY];simp;omega),<-hl,uL rfl,if_pos (hA.all _)];have r5:qJ (A++[L.map N]) A.length 5 t=some (NL Q):=by
  rcases ht with⟨rfl,rfl⟩|rfl
  ·unfold qJ;rw[if_neg (by rw[T.und];simp)];dsimp only;rw[List.getElem?_concat_length,Option.bind_some,Qr];rfl
  ·exact qE3 Q
 have r:qJ (A++[L.map N]) A.length 6 (.tup [Ts "open",t])=some (pap "open" [Q]):=by
  unfold qJ;split
  ·rename_i h;rcases ht with⟨rfl,rfl⟩|rfl
   ·rw[T.und,T.unds,T.unds,T.unds,T.und]at h;simp at h
   ·rfl
  ·dsimp only;rw[uB,qE6,uB,r5,List.mapM_nil];rfl
 dsimp only;rw[r];rfl
theorem qAm(hk:1<=k){A B:Mem}{n m:Nat}(g:Good A n)(hm:0<m/\m<=1000000):∃d A',Pk (glT gs) Tb.fns Cs k 31 [.cell n,N m] (A++B)=.ok ((N d,true),A'++B)/\d<m/\Kept n A A':=by
 obtain⟨d,X,e,hd,kx⟩:=QH (k:=k) hk (Good.app (B:=B) g) hm;obtain⟨A',rfl,ka⟩:=Kept.split g.lt kx;exact⟨d,A',e,hd,ka⟩
theorem qGD(hk:3<=k){M:Mem}{n m:Nat}(g:Good M n)(hm:0<m/\m<=32){L:List Nat}(hl:L.length=m)(hb:∀x∈L,x<2){w:Nat}(hw:w=2\/w=3){x3:T}{o5 o6:Option T}:∃t f R M',pxs (glT gs) (Pk (glT gs) Tb.fns Cs k) [5] (.cons D4 (.cons Y1 (.cons V1 (.cons V2 (.cons X0 .nil))))) [some (.cell n),some (N m),some (pap "open" [L]),some x3,some (N w),o5,o6] M=.ok (.rt (.tup [Ts "open",t],f),M'++[R.map N])/\Kept n M M'/\∃Q:List Nat,(t=.cell M'.length/\Q=R\/t=NL Q)/\Q.length<=80/\∀x∈Q,x<=64:=by
 obtain⟨a,M1,e1,ha,k1⟩:=qAm (k:=k) (by omega) g (m:=m) (B:=[L.map N]) (by omega);obtain⟨d,M2,e2,hd,k2⟩:=qAm (k:=k) (by omega) k1.good (m:=8) (B:=[L.map N]) (by omega);obtain⟨y,hy,ey⟩:∃y,y<=2/\∀{M:Mem},jl M (.lst [N (1-L.getD a 0),N 2]) (N (decide (d=0)).toNat)=some (N y,true):=by
  by_cases h:d=0
  ·exact⟨2,by omega,λ{M}=>by rw[uS h,QR];rfl⟩
  ·exact⟨1-L.getD a 0,by omega,λ{M}=>by rw[uR h,QR];rfl⟩
 obtain⟨z,M3,e3,hz,k3⟩:=qAm (k:=k) (by omega) k2.good (m:=3) (B:=[(L.set a y).map N]) (by omega);have kk:Kept n M M3:=(k1.trans k2).trans k3;have l1:M1.length=M.length:=k1.len;have l2:M2.length=M.length:=(k1.trans k2).len;have l3:M3.length=M.length:=kk.len;have i0:∀{M:Mem},jl M (pap "open" [L]) (N 0)=some (Ts "open",true):=λ{M}=>by unfold pap;rw[zi];rfl
 have i1:∀{M:Mem},jl M (pap "open" [L]) (N 1)=some (NL L,(NL L).lf):=λ{M}=>by unfold pap;rw[zi];rfl
 have es:∀{M:Mem},qa M .eq (Ts "open") (Ts "told")=some false:=λ{M}=>by rw[ZC];rfl
 have li:jE M .list [NL L]=some (NL L,true):=by
  show some (lT (L.map N))=_;rw[G4]
 have th:thaw M.length (NL L)=(.cell M.length,[L.map N]):=qCf M.length L;have gx:L.getD a 0<2:=by
  rw[wE,wD (by omega)];exact hb _ (vK _)
 have ic1:jl (M1++[L.map N]) (.cell M.length) (N a)=some (N (L.getD a 0),true):=by
  have:IsL (M1++[L.map N]) (.cell M.length) L:=IsL.cell (by rw[<-l1];simp);exact this.idx (i:=a) (x:=L.getD a 0) (by rw[wE,wD (by omega)];rfl)
 have sb:∀{M:Mem},qx M .sub (N 1) (N (L.getD a 0))=some (N (1-L.getD a 0),true):=λ{M}=>m9 (by omega);have g2:(M2++[L.map N])[M.length]?=some (L.map N):=by rw[<-l2];simp
 have s2:(M2++[L.map N]).set M.length ((L.map N).set a (N y))=M2++[(L.set a y).map N]:=by
  rw[<-l2,vW _ _ (wG _),Nat.sub_self,List.map_set];rfl
 have lR:(L.set a y).length=m:=by rw[List.length_set,hl]
 have mR:∀x∈L.set a y,x<=2:=λx hx=>by
  rcases List.mem_or_eq_of_mem_set hx with h|rfl
  ·have:=hb x h;omega
  ·exact hy
 have g3:∀X:Mem,X.length=M.length->(X++[(L.set a y).map N])[M.length]?=some ((L.set a y).map N):=λX h=>by rw[<-h];simp
 generalize hR:L.set a y=R at *;have put:((M2++[L.map N])[M.length]?.bind λxs=>if a<xs.length then some ((M2++[L.map N]).set M.length (xs.set a (N y))) else none)=some (M2++[R.map N]):=by
  rw[g2,Option.bind_some,if_pos (by rw[wQ];omega),s2]
 have iR:∀X:Mem,X.length=M.length->IsL (X++[R.map N]) (.cell M.length) R:=λX h=>IsL.cell (g3 X h);have its2:=(iR M2 l2).its;have sl2:=λxs lo hi=>slm (iR M2 l2) xs lo hi;have cd:jx (R.map N) (some 1) none=(R.drop 1).map N:=v3 (X:=R) (m:=1);have lt1:=G4 (R.drop 1);have a0:qx (M2++[R.map N]) .add (.cell M.length) (.lst [N 0])=some (NL (R++[0]),true):=by
  show ((M2++[R.map N])[M.length]?).bind (λxs=>if xs.length+[N 0].length<=lim then some (lT (xs++[N 0])) else none)=_;rw[g3 M2 l2,Option.bind_some,if_pos (by rw[wQ];show R.length+1<=lim;rw[lR];exact wN (show m+1<=33 by omega) (by decide)),show R.map N++[N 0]=(R++[0]).map N by simp,G4]
 have ml:∀{M:Mem},qx M .mul (N (decide (w=3)).toNat) (N z)=some (N ((decide (w=3)).toNat*z),true):=λ{M}=>Zp (.inr (by omega))
 let three:List T:=[.cell M.length,NL (R.drop 1),NL (R++[0])]
 have hj:(decide (w=3)).toNat*z<three.length:=by
  show _<3;cases decide (w=3)<;>simp<;>omega
 have ix:∀{M:Mem},jl M (.lst three) (N ((decide (w=3)).toNat*z))=some (three[(decide (w=3)).toNat*z],three[(decide (w=3)).toNat*z].lf):=λ{M}=>by
  rw[QR,wD hj];rfl
 have qGF:∀u∈three,∃Q:List Nat,(u=.cell M3.length/\Q=R\/u=NL Q)/\Q.length<=80/\∀x∈Q,x<=64:=λu hu=>by
  simp only[three,wI,wX,or_false]at hu;rcases hu with rfl|rfl|rfl
  ·exact⟨R,.inl ⟨by rw[l3],rfl⟩,by omega,λx hx=>by have:=mR x hx;omega⟩
  ·exact⟨_,.inr rfl,by rw[wo];omega,λx hx=>by have:=mR x (vP hx);omega⟩
  ·refine⟨_,.inr rfl,by simp;omega,λx hx=>?_⟩;rcases wJ.mp hx with h|h
   ·have:=mR x h;omega
   ·have:=wU.mp h;omega
 have three_e:three=[.cell M.length,NL (R.drop 1),NL (R++[0])]:=rfl;refine⟨three[(decide (w=3)).toNat*z],three[(decide (w=3)).toNat*z].lf,R,M3,?_,kk,qGF _ (vK hj)⟩;clear qGF;generalize three[(decide (w=3)).toNat*z]=tz at *;rw[three_e]at ix;clear hj three_e three gx lR mR g3 iR hR s2 g2 hb;generalize NL (R++[0])=u1 at *;generalize (R.drop 1).map N=m1 at *;generalize NL (R.drop 1)=u2 at *;generalize R.map N=mR at *;generalize pap "open" [L]=tp at *;generalize N (1-L.getD a 0)=v1 at *;generalize N (L.getD a 0)=v0 at *;generalize NL L=tL at *;generalize L.map N=mL at *;have pt:qDf (M2++[mL]) (.cell M.length) (N a) (N y)=some (M2++[mR]):=by rw[qHH];exact put
 have tl:∀{M:Mem},jE M .int [.v (.bl (decide (d=0)))]=some (N (decide (d=0)).toNat,true):=λ{M}=>JD _;have tw:∀{M:Mem},jE M .int [.v (.bl (decide (w=3)))]=some (N (decide (w=3)).toNat,true):=λ{M}=>JD _;have s3:Jd (.cell M.length) mR (some 1) none=some (u2,true):=by rw[sl2,cd,lt1]
 unfold D4 Y1 V1 V2 X0
 change pxs _ _ _ (.cons _ _) [some _,some _,some _,some _,some _,_,_] _=_
 repeat' first|with_reducible (first|exact i0|exact i1|exact es|exact li|exact e1|exact e2|exact e3|exact ic1|exact sb|exact ey|exact pt|exact tl|exact tw|exact its2|exact a0|exact ml|exact ix|exact th|exact qV|exact qY|exact qW|exact qp|exact zW|exact jK|exact zg|exact JY|exact qM|exact ll1|exact ll2|exact ll3|exact qt|exact zf|exact qd .. | assumption|apply qB|apply qK|apply zH|apply qz|apply qe|apply zC|apply zE|apply zl|apply k9|apply f_0|apply zp|apply qF4|apply qD)|((with_reducible apply ql);exact cN rfl)|((with_reducible apply D0);exact rfl)|assumption|exact s3|exact tl|exact tw|exact qd .. | exact nF rfl|exact nT rfl|rfl|exact congrArg (Prod.mk _) (vG _)
end
end _M
namespace _M
open PySem PySem.Spec _P
open _L (V)
open GF (Ris lp rch qm Told Qk wd par)
section
variable{k:Nat}
theorem qIM(hk:4<=k){M:Mem}(hM:FlatM M){n m:Nat}(g:Good M n)(hm:0<m/\m<=32){w:Str}{ps:List (List Nat)}(h:(w="told"/\∃sp pl,ps=[sp,pl]/\(sp.length<=60/\∀x∈sp,x<=64)/\(pl.length<=60/\∀x∈pl,x<=64))\/(w="open"/\∃L,ps=[L]/\L.length=m/\∀x∈L,x<2)):
  ∃w' ps' f M',Pk (glT gs) Tb.fns Cs k 38 [.cell n,N m,pap w ps] M=.ok ((pap w' ps',f),M')/\Kept n M M'/\Pp w' ps':=by
 obtain⟨wy,M1,e1,hwy,k1⟩:=QH (k:=k-1) (by omega) g (m:=4) (by decide);have lp:1<=ps.length/\ps.length<=2:=by
  rcases h with⟨_,sp,pl,rfl,_⟩|⟨_,L,rfl,_⟩<;>simp
 have hne:ps≠[]:=vv.mp (by omega);have rows:∀L∈ps,L.length<=80/\∀x∈L,x<=64:=λL hL=>by
  rcases h with⟨_,sp,pl,rfl,a,b⟩|⟨_,L',rfl,a,b⟩
  ·simp only[wI,wX,or_false]at hL;rcases hL with rfl|rfl
   ·exact⟨by omega,a.2⟩
   ·exact⟨by omega,b.2⟩
  ·have:=wU.mp hL;subst this;exact⟨by omega,λx hx=>by have:=b x hx;omega⟩
 have hwd:w∈[("told":Str),"open","Told",""]:=by rcases h with⟨rfl,_⟩|⟨rfl,_⟩<;>simp
 rw[qS t38 ⟨rfl,by decide⟩ (by omega),qER,show Cs.getD 38 []=[5] from rfl];have two:∀r,pxs (glT gs) (Pk (glT gs) Tb.fns Cs (k-1)) [5] (.cons qDN (.cons qC9 r)) [some (.cell n),some (N m),some (pap w ps),none,none,none,none] M=pxs (glT gs) (Pk (glT gs) Tb.fns Cs (k-1)) [5] r [some (.cell n),some (N m),some (pap w ps),some jV,some (N wy),none,none] M1:=λr=>by
  unfold qDN qC9 jV;generalize pap w ps=tp at *;simp[st_,-pe_str,lim,e1]
 have skip2:∀r,wy≠0->pxs (glT gs) (Pk (glT gs) Tb.fns Cs (k-1)) [5] (.cons k0 r) [some (.cell n),some (N m),some (pap w ps),some jV,some (N wy),none,none] M1=pxs (glT gs) (Pk (glT gs) Tb.fns Cs (k-1)) [5] r [some (.cell n),some (N m),some (pap w ps),some jV,some (N wy),none,none] M1:=λr h0=>by
  unfold k0;simp[h0]
 have skip3:∀r,wy≠1->pxs (glT gs) (Pk (glT gs) Tb.fns Cs (k-1)) [5] (.cons W8 r) [some (.cell n),some (N m),some (pap w ps),some jV,some (N wy),none,none] M1=pxs (glT gs) (Pk (glT gs) Tb.fns Cs (k-1)) [5] r [some (.cell n),some (N m),some (pap w ps),some jV,some (N wy),none,none] M1:=λr h0=>by
  unfold W8;simp[h0]
 show ∃w' ps' f M',jp M.length (pxs _ _ _ _ [some (.cell n),some (N m),some (pap w ps),none,none,none,none] M)=_/\_;rw[two];by_cases h0:wy=0
 ·subst h0;obtain⟨w',M2,e2,k2,hw'⟩:=qGM (k:=k-1) (by omega) k1.good (w:=w) (ps:=ps) (m:=m) lp.1 (by omega) (o5:=none) (o6:=none) (r:=(.cons W8 (.cons D4 (.cons Y1 (.cons V1 (.cons V2 (.cons X0 .nil)))))));exact⟨w',ps,false,M2,by rw[e2,qA (k1.trans k2).len],k1.trans k2,⟨by omega,rows,hw'⟩⟩
 ·rw[skip2 _ h0];by_cases h1:wy=1
  ·subst h1;have e2:=qHG (k:=k-1) (M:=M1) (n:=n) (m:=m) (w:=w) hne (by omega) (x3:=jV) (o5:=none) (o6:=none) (r:=(.cons D4 (.cons Y1 (.cons V1 (.cons V2 (.cons X0 .nil))))));refine⟨w,ps++[ps.getLast hne],false,M1,by rw[e2,qA k1.len],k1,⟨by simp;omega,λL hL=>?_,hwd⟩⟩;rcases wJ.mp hL with h|h
   ·exact rows L h
   ·rw[wU.mp h];exact rows _ (List.getLast_mem hne)
  ·rw[skip3 _ h1];rcases h with⟨rfl,sp,pl,rfl,a,b⟩|⟨rfl,L,rfl,a,b⟩
   ·obtain⟨ps',f,M2,e2,k2,l2,r2⟩:=qF5 (k:=k-1) (by omega) k1.good hm a b (w:=wy) (by omega) (x3:=jV) (o5:=none) (o6:=none) (r:=(.cons Y1 (.cons V1 (.cons V2 (.cons X0 .nil)))));exact⟨"told",ps',f,M2,by rw[e2,qA (k1.trans k2).len],k1.trans k2,⟨by omega,r2,by simp⟩⟩
   ·obtain⟨t,f,R,M2,e2,k2,Q,hQ,lQ,mQ⟩:=qGD (k:=k-1) (by omega) k1.good hm a b (w:=wy) (by omega) (x3:=jV) (o5:=none) (o6:=none);have kk:=k1.trans k2;obtain⟨f',lv⟩:=Y0 (M:=M) (f:=f) (zK hM kk) kk.len hQ;exact⟨"open",[Q],f',M2,by rw[e2,lv],kk,⟨by simp,λL hL=>by rw[wU.mp hL];exact⟨lQ,mQ⟩,by simp⟩⟩
end
end _M
namespace _M
open PySem PySem.Spec _P
open _L (V)
open GF (Ris lp rch qm Told Qk wd par)
noncomputable def qCa:S:=(.asg (.name 5) (.call 23 (.cons (.var 1) (.cons (.blt .list (.cons (.var 3) .nil)) (.cons (.var 4) .nil)))))
noncomputable def qCm:S:=(.asg (.name 6) (.comp (.rng1 (.var 2)) [none,some 0] (.name 0) (.cons (.cmp .eq (.call 31 (.cons (.var 1) (.cons (nE 4) .nil))) (nE 0)) .nil) (.var 0)))
noncomputable def qDD:S:=(.asg (.name 7) (.comp (.rng1 (.var 2)) [none,some 0] (.name 0) (.cons (.cmp .eq (.call 31 (.cons (.var 1) (.cons (nE 4) .nil))) (nE 0)) .nil) (.var 0)))
noncomputable def qDA:S:=(.asg (.name 8) (.lst (.cons (.var 5) (.cons (.tup (.cons (.cst (V.str "told")) (.cons (.var 6) (.cons (.var 7) .nil)))) (.cons (.tup (.cons (.cst (V.str "open")) (.cons (.call 33 (.cons (.var 0) (.cons (.var 2) .nil))) .nil))) .nil)))))
noncomputable def qDU:S:=(.asg (.name 8) (.bin .add (.var 8) (.lst (.cons (.call 38 (.cons (.var 0) (.cons (.var 2) (.cons (.var 5) .nil)))) (.cons (.call 38 (.cons (.var 0) (.cons (.var 2) (.cons (.var 5) .nil)))) (.cons (.call 38 (.cons (.var 0) (.cons (.var 2) (.cons (.var 5) .nil)))) .nil))))))
noncomputable def qCd:S:=(.asg (.name 8) (.bin .add (.var 8) (.lst (.cons (.tup (.cons (.cst (V.str "told")) (.cons (.lst .nil) (.cons (.lst (.cons (.var 4) .nil)) .nil)))) (.cons (.tup (.cons (.cst (V.str "told")) (.cons (.var 6) (.cons (.call 39 (.cons (.var 2) (.cons (.var 6) (.cons (.var 4) .nil)))) .nil)))) .nil)))))
noncomputable def qCW:S:=(.asg (.name 9) (.comp (.list (.var 6)) [none,some 3] (.name 0) (.cons (.cmp .notin (.var 0) (.var 1)) .nil) (.var 0)))
noncomputable def qC6:S:=(.expr (.app (.var 8) (.tup (.cons (.cst (V.str "told")) (.cons (.var 9) (.cons (.call 39 (.cons (.var 2) (.cons (.var 9) (.cons (.var 4) .nil)))) .nil))))))
noncomputable def qCx:S:=(.expr (.app (.var 8) (.call 23 (.cons (.var 1) (.cons (.blt .list (.cons (.var 3) .nil)) (.cons (.call 31 (.cons (.var 0) (.cons (.var 2) .nil))) .nil))))))
noncomputable def qDE:S:=(.ret (.bin .add (.var 8) (.lst (.cons (.call 23 (.cons (.var 1) (.cons (.call 32 (.cons (.var 0) (.cons (.var 2) .nil))) (.cons (.var 4) .nil)))) .nil))))
theorem qFV:b40=(.cons qCa (.cons qCm (.cons qDD (.cons qDA (.cons qDU (.cons qCd (.cons qCW (.cons qC6 (.cons qCx (.cons qDE .nil)))))))))):=rfl
section
variable{k:Nat}
noncomputable abbrev Zt:=Str×List (List Nat)
noncomputable abbrev pz(z:Zt):T:=pap z.1 z.2
theorem qEq(n:Nat)(L:List Nat):(NL L).und n=true:=by show T.unds n (L.map N)=true;exact d9 n L
theorem C6(n:Nat):∀ps:List (List Nat),T.unds n (ps.map NL)=true
 | []=>by rw[List.map_nil,T.unds]
 |a::r=>by rw[List.map_cons,T.unds,qEq,C6 n r];rfl
theorem qEz(n:Nat)(z:Zt):(pz z).und n=true:=by
 unfold pz pap;rw[T.und,T.unds,C6];unfold Ts;rw[T.und];rfl
theorem ji(n:Nat):∀Zs:List Zt,T.unds n (Zs.map pz)=true
 | []=>by rw[List.map_nil,T.unds]
 |a::r=>by rw[List.map_cons,T.unds,qEz,ji n r];rfl
noncomputable abbrev QP(n s:Nat)(S:Nat->Bool)(P:Nat)(o5 o6 o7 o8 o9:Option T):TS:=[some (.cell n),some (N s),some (N (2 ^ s)),some (NL (rf (2 ^ s) S)),some (N P),o5,o6,o7,o8,o9]
theorem onP(hk:18<=k){s P:Nat}(h1:1<=s)(hs:s<=5)(hP:P<2 ^ s)(S:Nat->Bool)(M:Mem):∃z:Zt,∃f,Pk (glT gs) Tb.fns Cs k 23 [N s,NL (rf (2 ^ s) S),N P] M=.ok ((pz z,f),M)/\Pp z.1 z.2/\((z.1="told"/\∃sp pl,z.2=[sp,pl]/\(sp.length<=60/\∀x∈sp,x<=64)/\(pl.length<=60/\∀x∈pl,x<=64))\/(z.1="open"/\∃L,z.2=[L]/\L.length=2 ^ s/\∀x∈L,x<2)):=by
 have n5:=p5 hs;obtain⟨t,f,e,h⟩:=qAz (k:=k) (by omega) h1 hs hP S M;rcases h with⟨sp,pl,rfl,td⟩|⟨L,rfl,hl,hb,_⟩
 ·have l1:=jZ td.r1;have l2:=jZ td.r2;have m1:∀x∈sp,x<=64:=λx hx=>by have:=(GF.Ris.mem td.r1 x hx).2;omega
  have m2:∀x∈pl,x<=64:=λx hx=>by have:=(GF.Ris.mem td.r2 x hx).2;omega
  refine⟨("told",[sp,pl]),f,e,⟨by simp,λL hL=>?_,by simp⟩,.inl ⟨rfl,sp,pl,rfl,⟨by omega,m1⟩,⟨by omega,m2⟩⟩⟩;simp only[wI,wX,or_false]at hL;rcases hL with rfl|rfl
  ·exact⟨by omega,m1⟩
  ·exact⟨by omega,m2⟩
 ·refine⟨("open",[L]),f,e,⟨by simp,λL' hL=>?_,by simp⟩,.inr ⟨rfl,L,rfl,hl,hb⟩⟩;rw[wU.mp hL];exact⟨by omega,λx hx=>by have:=hb x hx;omega⟩
theorem qD1{M:Mem}(L:List Nat):jE M .list [NL L]=some (NL L,true):=by
 show some (lT (L.map N))=_;rw[G4]
theorem qHp(hk:1<=k){M:Mem}{n m:Nat}(g:Good M n)(hm:m<=1000){j:Nat}(hj:j=6\/j=7):∃q M',qg [] (.name 0) (pec (glT gs) (Pk (glT gs) Tb.fns Cs k) (.cons (.cmp .eq (.call 31 (.cons (.var 1) (.cons (nE 4) .nil))) (nE 0)) .nil)) (pe (glT gs) (Pk (glT gs) Tb.fns Cs k) (.var 0)) ((List.range m).map N) [] true [none,some (.cell n)] M=.ok ((NL (rf m q),true),M')/\Kept n M M':=by
 obtain⟨q,M2,e2,i2,_⟩:=Jl (I:=Kept n M) (R:=λ_ _=>True) (σ:=[some (.cell n)])
  (c:=pec (glT gs) (Pk (glT gs) Tb.fns Cs k) (.cons (.cmp .eq (.call 31 (.cons (.var 1) (.cons (nE 4) .nil))) (nE 0)) .nil)) (e:=pe (glT gs) (Pk (glT gs) Tb.fns Cs k) (.var 0))
  (List.range m) [] true none M List.nodup_range (by simp[lim];omega) (Kept.refl g) (λx _ M' hI=>by
   obtain⟨d,M3,e3,h3,k3⟩:=QH (k:=k) hk hI.good (m:=4) (by decide);exact⟨decide (d=0),M3,by simp[e3],hI.trans k3,trivial⟩) (λx _ M' _=>by simp)
 exact⟨q,M2,e2,i2⟩
end
end _M
namespace _M
open PySem PySem.Spec _P
open _L (V)
open GF (Ris lp rch qm Told Qk wd par)
section
variable{k:Nat}
theorem ac{M:Mem}{j:Nat}{xs ys:List T}(e:M[j]?=some xs)(h:xs.length+ys.length<=1000):qx M .add (.cell j) (.lst ys)=some (lT (xs++ys)):=by
 show (M[j]?).bind (λxs=>if xs.length+ys.length<=lim then some (lT (xs++ys)) else none)=_;rw[e,Option.bind_some,if_pos (wN h (by decide))]
theorem qIl(Zs:List Zt):∀c∈[Zs.map pz],T.unds 0 c=true:=λc hc=>by rw[wU.mp hc];exact ji 0 Zs
theorem qDY(hk:4<=k){A B:Mem}(hA:FlatM A)(hB:FlatM B){n m:Nat}(g:Good A n)(hm:0<m/\m<=32){z:Zt}(h:(z.1="told"/\∃sp pl,z.2=[sp,pl]/\(sp.length<=60/\∀x∈sp,x<=64)/\(pl.length<=60/\∀x∈pl,x<=64))\/(z.1="open"/\∃L,z.2=[L]/\L.length=m/\∀x∈L,x<2)):
  ∃z':Zt,∃f A',Pk (glT gs) Tb.fns Cs k 38 [.cell n,N m,pz z] (A++B)=.ok ((pz z',f),A'++B)/\Kept n A A'/\Pp z'.1 z'.2:=by
 obtain⟨w',ps',f,X,e,kx,p⟩:=qIM hk (hA.app hB) (Good.app (B:=B) g) hm h;obtain⟨A',rfl,ka⟩:=Kept.split g.lt kx;exact⟨(w',ps'),f,A',e,ka,p⟩
theorem qGo(hk:2<=k){A B:Mem}{n m:Nat}(g:Good A n)(hm:m<=1000):∃q f A',Pk (glT gs) Tb.fns Cs k 32 [.cell n,N m] (A++B)=.ok ((NL (rf m q),f),A'++B)/\Kept n A A':=by
 obtain⟨q,f,X,e,kx⟩:=qHv hk (Good.app (B:=B) g) hm;obtain⟨A',rfl,ka⟩:=Kept.split g.lt kx;exact⟨q,f,A',e,ka⟩
theorem qFG(hk:20<=k){M:Mem}(hM:FlatM M){n s P:Nat}(g:Good M n)(h1:1<=s)(hs:s<=5)(hP:P<2 ^ s)(S:Nat->Bool):∃(Zs:List Zt) (f:Bool) (M':Mem),Pk (glT gs) Tb.fns Cs k 40 [.cell n,N s,N (2 ^ s),NL (rf (2 ^ s) S),N P] M=.ok ((.lst (Zs.map pz),f),M')/\Kept n M M'/\∀z∈Zs,Pp z.1 z.2:=by
 have n5:=p5 hs;have pp:0<2 ^ s:=Nat.two_pow_pos _;have hm:0<2 ^ s/\2 ^ s<=32:=⟨pp,n5⟩
 obtain⟨z0,f0,e0,p0,c0⟩:=onP (k:=k-1) (by omega) h1 hs hP S M;obtain⟨q6,M1,e1,k1⟩:=qHp (k:=k-1) (by omega) g (m:=2 ^ s) (by omega) (j:=6) (.inl rfl);obtain⟨q7,M2,e2,k2⟩:=qHp (k:=k-1) (by omega) k1.good (m:=2 ^ s) (by omega) (j:=7) (.inr rfl);obtain⟨C3,f3,M3,e3,k3,l3,r3⟩:=qFx (k:=k-1) (by omega) k2.good (m:=2 ^ s) (by omega);have kM3:Kept n M M3:=(k1.trans k2).trans k3;have fM3:=zK hM kM3;have lr:∀q,(rf (2 ^ s) q).length<=32:=λq=>wN (vC _ _) (by simp;omega);have mr:∀q,∀x∈rf (2 ^ s) q,x<=64:=λq x hx=>by have:=wT.mp (List.mem_filter.mp hx).1;omega
 let Z1:List Zt:=[z0,("told",[rf (2 ^ s) q6,rf (2 ^ s) q7]),("open",[C3])]
 have d1:FlatM [Z1.map pz]:=qIl Z1;obtain⟨b1,g1,M4,e4,k4,p4⟩:=qDY (k:=k-1) (by omega) fM3 d1 kM3.good hm c0;obtain⟨b2,g2,M5,e5,k5,p5'⟩:=qDY (k:=k-1) (by omega) (zK fM3 k4) d1 k4.good hm c0;obtain⟨b3,g3,M6,e6,k6,p6⟩:=qDY (k:=k-1) (by omega) (zK (zK fM3 k4) k5) d1 k5.good hm c0;have kM6:Kept n M M6:=((kM3.trans k4).trans k5).trans k6;have fM6:=zK hM kM6
 let Z2:List Zt:=Z1++[b1,b2,b3]
 have d2:FlatM [Z1.map pz,Z2.map pz]:=λc hc=>by
  simp only[wI,wX,or_false]at hc;rcases hc with rfl|rfl
  ·exact ji 0 Z1
  ·exact ji 0 Z2
 obtain⟨O5,f5,e7,lO5,mO5⟩:=odd (k:=k-1) (by omega) (fM6.app d2) (n:=2 ^ s) (P:=P) n5 (sp:=rf (2 ^ s) q6) (by have:=lr q6;omega)
 let Z3:List Zt:=Z2++([("told",[[],[P]]),("told",[rf (2 ^ s) q6,O5])]:List Zt)
 let kp:List Nat:=(rf (2 ^ s) q6).filter λx=>!decide (x∈rf (2 ^ s) S)
 have lkp:kp.length<=32:=wN (vC _ _) (lr q6);have d3:FlatM [Z1.map pz,Z2.map pz,Z3.map pz]:=λc hc=>by
  simp only[wI,wX,or_false]at hc;rcases hc with rfl|rfl|rfl
  ·exact ji 0 Z1
  ·exact ji 0 Z2
  ·exact ji 0 Z3
 obtain⟨O7,f7,e8,lO7,mO7⟩:=odd (k:=k-1) (by omega) (fM6.app d3) (n:=2 ^ s) (P:=P) n5 (sp:=kp) (by omega)
 let Z4:List Zt:=Z3++([("told",[kp,O7])]:List Zt)
 obtain⟨r8,M7,e9,hr8,k7⟩:=qAm (k:=k-1) (by omega) kM6.good (m:=2 ^ s) (B:=[Z1.map pz,Z2.map pz,Z4.map pz]) (by omega);obtain⟨z8,f8,e10,p8,_⟩:=onP (k:=k-1) (by omega) h1 hs hr8 S (M7++[Z1.map pz,Z2.map pz,Z4.map pz])
 let Z5:List Zt:=Z4++[z8]
 obtain⟨q9,f9,M8,e11,k8⟩:=qGo (k:=k-1) (by omega) k7.good (m:=2 ^ s) (by omega) (B:=[Z1.map pz,Z2.map pz,Z5.map pz]);obtain⟨z9,f10,e12,p9,_⟩:=onP (k:=k-1) (by omega) h1 hs hP q9 (M8++[Z1.map pz,Z2.map pz,Z5.map pz]);have kM8:Kept n M M8:=(kM6.trans k7).trans k8;have l3':M3.length=M.length:=kM3.len;have l6:M6.length=M.length:=kM6.len;have l7:M7.length=M.length:=(kM6.trans k7).len;have l8:M8.length=M.length:=kM8.len;have rg:=zP (n:=2 ^ s) (by omega);have li:∀{M:Mem},jE M .list [NL (rf (2 ^ s) S)]=some (NL (rf (2 ^ s) S),true):=λ{M}=>qD1 _;have s0:∀{rs:Ss}{q:PR (PO×Mem)},pxs (glT gs) (Pk (glT gs) Tb.fns Cs (k-1)) [1008] rs (QP n s S P (some (pz z0)) none none none none) (M)=q->pxs (glT gs) (Pk (glT gs) Tb.fns Cs (k-1)) [1008] (.cons qCa rs) (QP n s S P none none none none none) M=q:=by
  intro rs q hq;unfold qCa;unfold QP at *
  repeat' first|with_reducible (first|exact li|exact e0|exact qV|exact qY|exact qW|exact qj|exact qp|exact zW|exact jK|exact ZF|exact Zk|exact Zr|exact qM|exact ll0|exact ll1|exact ll2|exact ll3|exact qt|exact zf|exact jT|exact jF|exact jd|assumption|apply qB|apply qK|apply qz|apply zC|apply zE|apply zl|apply qX|apply zB|apply zO|apply ZA|apply qD)|((with_reducible apply ql);exact cN rfl)|((with_reducible apply jD);exact rfl)|assumption|exact e1|exact e2|exact c|rfl
 have s1:∀{rs:Ss}{q:PR (PO×Mem)},pxs (glT gs) (Pk (glT gs) Tb.fns Cs (k-1)) [1008] rs (QP n s S P (some (pz z0)) (some (NL (rf (2 ^ s) q6))) none none none) (M1)=q->pxs (glT gs) (Pk (glT gs) Tb.fns Cs (k-1)) [1008] (.cons qCm rs) (QP n s S P (some (pz z0)) none none none none) M=q:=by
  intro rs q hq;unfold qCm;unfold QP at *
  repeat' first|with_reducible (first|exact rg|exact e1|exact qV|exact qY|exact qW|exact qj|exact qp|exact zW|exact jK|exact ZF|exact Zk|exact Zr|exact qM|exact ll0|exact ll1|exact ll2|exact ll3|exact qt|exact zf|exact jT|exact jF|exact jd|assumption|apply qB|apply qK|apply qz|apply zC|apply zE|apply zl|apply qX|apply zB|apply zO|apply ZA|apply qD)|((with_reducible apply ql);exact cN rfl)|((with_reducible apply jD);exact rfl)|assumption|exact e1|exact e2|exact c|rfl
 have s2:∀{rs:Ss}{q:PR (PO×Mem)},pxs (glT gs) (Pk (glT gs) Tb.fns Cs (k-1)) [1008] rs (QP n s S P (some (pz z0)) (some (NL (rf (2 ^ s) q6))) (some (NL (rf (2 ^ s) q7))) none none) (M2)=q->pxs (glT gs) (Pk (glT gs) Tb.fns Cs (k-1)) [1008] (.cons qDD rs) (QP n s S P (some (pz z0)) (some (NL (rf (2 ^ s) q6))) none none none) M1=q:=by
  intro rs q hq;unfold qDD;unfold QP at *
  repeat' first|with_reducible (first|exact rg|exact e2|exact qV|exact qY|exact qW|exact qj|exact qp|exact zW|exact jK|exact ZF|exact Zk|exact Zr|exact qM|exact ll0|exact ll1|exact ll2|exact ll3|exact qt|exact zf|exact jT|exact jF|exact jd|assumption|apply qB|apply qK|apply qz|apply zC|apply zE|apply zl|apply qX|apply zB|apply zO|apply ZA|apply qD)|((with_reducible apply ql);exact cN rfl)|((with_reducible apply jD);exact rfl)|assumption|exact e1|exact e2|exact c|rfl
 have s3:∀{rs:Ss}{q:PR (PO×Mem)},pxs (glT gs) (Pk (glT gs) Tb.fns Cs (k-1)) [1008] rs (QP n s S P (some (pz z0)) (some (NL (rf (2 ^ s) q6))) (some (NL (rf (2 ^ s) q7))) (some (.cell M3.length)) none) (M3++[Z1.map pz])=q->pxs (glT gs) (Pk (glT gs) Tb.fns Cs (k-1)) [1008] (.cons qDA rs) (QP n s S P (some (pz z0)) (some (NL (rf (2 ^ s) q6))) (some (NL (rf (2 ^ s) q7))) none none) M2=q:=by
  intro rs q hq;have eZ:Z1.map pz=[pz z0,.tup [Ts "told",NL (rf (2 ^ s) q6),NL (rf (2 ^ s) q7)],.tup [Ts "open",NL C3]]:=rfl;rw[eZ]at hq;unfold qDA;unfold QP at *
  repeat' first|with_reducible (first|exact st_ _|exact e3|exact qV|exact qY|exact qW|exact qj|exact qp|exact zW|exact jK|exact ZF|exact Zk|exact Zr|exact qM|exact ll0|exact ll1|exact ll2|exact ll3|exact qt|exact zf|exact jT|exact jF|exact jd|assumption|apply qB|apply qK|apply qz|apply zC|apply zE|apply zl|apply qX|apply zB|apply zO|apply ZA|apply qD)|((with_reducible apply ql);exact cN rfl)|((with_reducible apply jD);exact rfl)|assumption|exact e1|exact e2|exact c|rfl
 have s4:∀{rs:Ss}{q:PR (PO×Mem)},pxs (glT gs) (Pk (glT gs) Tb.fns Cs (k-1)) [1008] rs (QP n s S P (some (pz z0)) (some (NL (rf (2 ^ s) q6))) (some (NL (rf (2 ^ s) q7))) (some (.cell (M.length+1))) none) (M6++[Z1.map pz,Z2.map pz])=q->pxs (glT gs) (Pk (glT gs) Tb.fns Cs (k-1)) [1008] (.cons qDU rs) (QP n s S P (some (pz z0)) (some (NL (rf (2 ^ s) q6))) (some (NL (rf (2 ^ s) q7))) (some (.cell M3.length)) none) (M3++[Z1.map pz])=q:=by
  intro rs q hq;have a:=ac (M:=M6++[Z1.map pz]) (j:=M3.length) (xs:=Z1.map pz) (ys:=[pz b1,pz b2,pz b3]) (by rw[l3',<-l6];simp) (by show 3+3<=1000;decide);have eZ:Z1.map pz++[pz b1,pz b2,pz b3]=Z2.map pz:=rfl;rw[eZ]at a;have lA:(M6++[Z1.map pz]).length=M.length+1:=by simp[l6]
  have a:qx (M6++[Z1.map pz]) .add (.cell M3.length) (.lst [pz b1,pz b2,pz b3])=some (.lst (Z2.map pz),T.lfs (Z2.map pz)):=a;rw[<-lA]at hq;rw[show (M6++[Z1.map pz,Z2.map pz]:Mem)=M6++[Z1.map pz]++[Z2.map pz] by simp]at hq;unfold qDU;unfold QP at *
  repeat' first|with_reducible (first|exact e4|exact e5|exact e6|exact a|exact qV|exact qY|exact qW|exact qj|exact qp|exact zW|exact jK|exact ZF|exact Zk|exact Zr|exact qM|exact ll0|exact ll1|exact ll2|exact ll3|exact qt|exact zf|exact jT|exact jF|exact jd|assumption|apply qB|apply qK|apply qz|apply zC|apply zE|apply zl|apply qX|apply zB|apply zO|apply ZA|apply qD)|((with_reducible apply ql);exact cN rfl)|((with_reducible apply jD);exact rfl)|assumption|exact e1|exact e2|exact c|rfl
 have s5:∀{rs:Ss}{q:PR (PO×Mem)},pxs (glT gs) (Pk (glT gs) Tb.fns Cs (k-1)) [1008] rs (QP n s S P (some (pz z0)) (some (NL (rf (2 ^ s) q6))) (some (NL (rf (2 ^ s) q7))) (some (.cell (M.length+2))) none) (M6++[Z1.map pz,Z2.map pz,Z3.map pz])=q->pxs (glT gs) (Pk (glT gs) Tb.fns Cs (k-1)) [1008] (.cons qCd rs) (QP n s S P (some (pz z0)) (some (NL (rf (2 ^ s) q6))) (some (NL (rf (2 ^ s) q7))) (some (.cell (M.length+1))) none) (M6++[Z1.map pz,Z2.map pz])=q:=by
  intro rs q hq;have a:=ac (M:=M6++[Z1.map pz,Z2.map pz]) (j:=M.length+1) (xs:=Z2.map pz) (ys:=[.tup [Ts "told",.lst [],.lst [N P]],.tup [Ts "told",NL (rf (2 ^ s) q6),NL O5]]) (by rw[<-l6,wL (by omega),wS];rfl) (by show 6+2<=1000;decide);have eZ:Z2.map pz++[.tup [Ts "told",.lst [],.lst [N P]],.tup [Ts "told",NL (rf (2 ^ s) q6),NL O5]]=Z3.map pz:=rfl;rw[eZ]at a;have lA:(M6++[Z1.map pz,Z2.map pz]).length=M.length+2:=by simp[l6]
  have a:qx (M6++[Z1.map pz,Z2.map pz]) .add (.cell (M.length+1)) (.lst [.tup [Ts "told",.lst [],.lst [N P]],.tup [Ts "told",NL (rf (2 ^ s) q6),NL O5]])=some (.lst (Z3.map pz),T.lfs (Z3.map pz)):=a;rw[<-lA]at hq;rw[show (M6++[Z1.map pz,Z2.map pz,Z3.map pz]:Mem)=M6++[Z1.map pz,Z2.map pz]++[Z3.map pz] by simp]at hq;unfold qCd;unfold QP at *
  repeat' first|with_reducible (first|exact st_ _|exact e7|exact a|exact qV|exact qY|exact qW|exact qj|exact qp|exact zW|exact jK|exact ZF|exact Zk|exact Zr|exact qM|exact ll0|exact ll1|exact ll2|exact ll3|exact qt|exact zf|exact jT|exact jF|exact jd|assumption|apply qB|apply qK|apply qz|apply zC|apply zE|apply zl|apply qX|apply zB|apply zO|apply ZA|apply qD)|((with_reducible apply ql);exact cN rfl)|((with_reducible apply jD);exact rfl)|assumption|exact e1|exact e2|exact c|rfl
 have s6:∀{rs:Ss}{q:PR (PO×Mem)},pxs (glT gs) (Pk (glT gs) Tb.fns Cs (k-1)) [1008] rs (QP n s S P (some (pz z0)) (some (NL (rf (2 ^ s) q6))) (some (NL (rf (2 ^ s) q7))) (some (.cell (M.length+2))) (some (NL kp))) (M6++[Z1.map pz,Z2.map pz,Z3.map pz])=q->pxs (glT gs) (Pk (glT gs) Tb.fns Cs (k-1)) [1008] (.cons qCW rs) (QP n s S P (some (pz z0)) (some (NL (rf (2 ^ s) q6))) (some (NL (rf (2 ^ s) q7))) (some (.cell (M.length+2))) none) (M6++[Z1.map pz,Z2.map pz,Z3.map pz])=q:=by
  intro rs q hq;have c:=zF (c:=pec (glT gs) (Pk (glT gs) Tb.fns Cs (k-1)) (.cons (.cmp .notin (.var 0) (.var 1)) .nil)) (e:=pe (glT gs) (Pk (glT gs) Tb.fns Cs (k-1)) (.var 0)) (M:=M6++[Z1.map pz,Z2.map pz,Z3.map pz]) (σ:=[some (NL (rf (2 ^ s) S))]) (o:=none) (its:=rf (2 ^ s) q6) (λx=>!decide (x∈rf (2 ^ s) S)) (λx=>x) (by have:=lr q6;simp[lim]at this ⊢;omega) (λx _=>by
   have a:=Qn (M:=M6++[Z1.map pz,Z2.map pz,Z3.map pz]) x (rf (2 ^ s) S);generalize NL (rf (2 ^ s) S)=tS at *;generalize rf (2 ^ s) S=R at *;simp[a]) (λx _ _=>by simp)
  rw[ve]at c;have c:qg _ _ _ _ _ _ _ _ _=.ok ((NL kp,true),M6++[Z1.map pz,Z2.map pz,Z3.map pz]):=c;have sN:=qDk (M:=M6++[Z1.map pz,Z2.map pz,Z3.map pz]) (rf (2 ^ s) q6);unfold qCW;unfold QP at *
  repeat' first|with_reducible (first|exact sN|exact c|exact qV|exact qY|exact qW|exact qj|exact qp|exact zW|exact jK|exact ZF|exact Zk|exact Zr|exact qM|exact ll0|exact ll1|exact ll2|exact ll3|exact qt|exact zf|exact jT|exact jF|exact jd|assumption|apply qB|apply qK|apply qz|apply zC|apply zE|apply zl|apply qX|apply zB|apply zO|apply ZA|apply qD)|((with_reducible apply ql);exact cN rfl)|((with_reducible apply jD);exact rfl)|assumption|exact e1|exact e2|exact c|rfl
 have s7:∀{rs:Ss}{q:PR (PO×Mem)},pxs (glT gs) (Pk (glT gs) Tb.fns Cs (k-1)) [1008] rs (QP n s S P (some (pz z0)) (some (NL (rf (2 ^ s) q6))) (some (NL (rf (2 ^ s) q7))) (some (.cell (M.length+2))) (some (NL kp))) (M6++[Z1.map pz,Z2.map pz,Z4.map pz])=q->pxs (glT gs) (Pk (glT gs) Tb.fns Cs (k-1)) [1008] (.cons qC6 rs) (QP n s S P (some (pz z0)) (some (NL (rf (2 ^ s) q6))) (some (NL (rf (2 ^ s) q7))) (some (.cell (M.length+2))) (some (NL kp))) (M6++[Z1.map pz,Z2.map pz,Z3.map pz])=q:=by
  intro rs q hq;have g0:(M6++[Z1.map pz,Z2.map pz,Z3.map pz])[M.length+2]?=some (Z3.map pz):=by rw[<-l6,wL (by omega),wS];rfl
  have ap:Y9 (M6++[Z1.map pz,Z2.map pz,Z3.map pz]) (M.length+2) (.tup [Ts "told",NL kp,NL O7])=some (M6++[Z1.map pz,Z2.map pz,Z4.map pz]):=by
   rw[qAc g0 (by show 8<lim;decide)];congr 1;rw[<-l6,vW _ _ (by omega),wS];rfl
  unfold qC6;unfold QP at *
  repeat' first|with_reducible (first|exact st_ _|exact e8|exact ap|exact qV|exact qY|exact qW|exact qj|exact qp|exact zW|exact jK|exact ZF|exact Zk|exact Zr|exact qM|exact ll0|exact ll1|exact ll2|exact ll3|exact qt|exact zf|exact jT|exact jF|exact jd|assumption|apply qB|apply qK|apply qz|apply zC|apply zE|apply zl|apply qX|apply zB|apply zO|apply ZA|apply qD)|((with_reducible apply ql);exact cN rfl)|((with_reducible apply jD);exact rfl)|assumption|exact e1|exact e2|exact c|rfl
 have s8:∀{rs:Ss}{q:PR (PO×Mem)},pxs (glT gs) (Pk (glT gs) Tb.fns Cs (k-1)) [1008] rs (QP n s S P (some (pz z0)) (some (NL (rf (2 ^ s) q6))) (some (NL (rf (2 ^ s) q7))) (some (.cell (M.length+2))) (some (NL kp))) (M7++[Z1.map pz,Z2.map pz,Z5.map pz])=q->pxs (glT gs) (Pk (glT gs) Tb.fns Cs (k-1)) [1008] (.cons qCx rs) (QP n s S P (some (pz z0)) (some (NL (rf (2 ^ s) q6))) (some (NL (rf (2 ^ s) q7))) (some (.cell (M.length+2))) (some (NL kp))) (M6++[Z1.map pz,Z2.map pz,Z4.map pz])=q:=by
  intro rs q hq;have g0:(M7++[Z1.map pz,Z2.map pz,Z4.map pz])[M.length+2]?=some (Z4.map pz):=by rw[<-l7,wL (by omega),wS];rfl
  have ap:Y9 (M7++[Z1.map pz,Z2.map pz,Z4.map pz]) (M.length+2) (pz z8)=some (M7++[Z1.map pz,Z2.map pz,Z5.map pz]):=by
   rw[qAc g0 (by show 9<lim;decide)];congr 1;rw[<-l7,vW _ _ (by omega),wS];rfl
  unfold qCx;unfold QP at *
  repeat' first|with_reducible (first|exact li|exact e9|exact e10|exact ap|exact qV|exact qY|exact qW|exact qj|exact qp|exact zW|exact jK|exact ZF|exact Zk|exact Zr|exact qM|exact ll0|exact ll1|exact ll2|exact ll3|exact qt|exact zf|exact jT|exact jF|exact jd|assumption|apply qB|apply qK|apply qz|apply zC|apply zE|apply zl|apply qX|apply zB|apply zO|apply ZA|apply qD)|((with_reducible apply ql);exact cN rfl)|((with_reducible apply jD);exact rfl)|assumption|exact e1|exact e2|exact c|rfl
 have s9:pxs (glT gs) (Pk (glT gs) Tb.fns Cs (k-1)) [1008] (.cons qDE .nil) (QP n s S P (some (pz z0)) (some (NL (rf (2 ^ s) q6))) (some (NL (rf (2 ^ s) q7))) (some (.cell (M.length+2))) (some (NL kp))) (M7++[Z1.map pz,Z2.map pz,Z5.map pz])=.ok (.rt (lT ((Z5++[z9]).map pz)),M8++[Z1.map pz,Z2.map pz,Z5.map pz]):=by
  have a:=ac (M:=M8++[Z1.map pz,Z2.map pz,Z5.map pz]) (j:=M.length+2) (xs:=Z5.map pz) (ys:=[pz z9]) (by rw[<-l8,wL (by omega),wS];rfl) (by show 10+1<=1000;decide);rw[show Z5.map pz++[pz z9]=(Z5++[z9]).map pz by rw[vE];rfl]at a;unfold qDE;unfold QP
  repeat' first|with_reducible (first|exact e11|exact e12|exact a|exact qV|exact qY|exact qW|exact qj|exact qp|exact zW|exact jK|exact ZF|exact Zk|exact Zr|exact qM|exact ll0|exact ll1|exact ll2|exact ll3|exact qt|exact zf|exact jT|exact jF|exact jd|assumption|apply qB|apply qK|apply qz|apply zC|apply zE|apply zl|apply qX|apply zB|apply zO|apply ZA|apply qD)|((with_reducible apply ql);exact cN rfl)|((with_reducible apply jD);exact rfl)|assumption|exact e1|exact e2|exact c|rfl
 have hZ:∀z∈Z5++[z9],Pp z.1 z.2:=by
  have tr:∀a b:List Nat,(a.length<=80/\∀x∈a,x<=64)->(b.length<=80/\∀x∈b,x<=64)->Pp "told" [a,b]:=λa b ha hb=>⟨by simp,λL hL=>by
   simp only[wI,wX,or_false]at hL;rcases hL with rfl|rfl
   ·exact ha
   ·exact hb,by simp⟩
  have hr:∀q,(rf (2 ^ s) q).length<=80/\∀x∈rf (2 ^ s) q,x<=64:=λq=>⟨by have:=lr q;omega,mr q⟩
  intro z hz;simp only[Z5,Z4,Z3,Z2,Z1,wu,List.cons_append,List.nil_append,wI,wX,or_false]at hz;rcases hz with rfl|rfl|rfl|rfl|rfl|rfl|rfl|rfl|rfl|rfl|rfl
  ·exact p0
  ·exact tr _ _ (hr _) (hr _)
  ·exact⟨by simp,λL hL=>by rw[wU.mp hL];exact⟨by omega,λx hx=>by have:=r3 x hx;omega⟩,by simp⟩
  ·exact p4
  ·exact p5'
  ·exact p6
  ·exact tr _ _ ⟨by simp,λx hx=>by simp at hx⟩ ⟨by simp,λx hx=>by rw[wU.mp hx];omega⟩
  ·exact tr _ _ (hr _) ⟨by omega,λx hx=>by have:=mO5 x hx;omega⟩
  ·exact tr _ _ ⟨by omega,λx hx=>mr q6 x (List.mem_filter.mp hx).1⟩ ⟨by omega,λx hx=>by have:=mO7 x hx;omega⟩
  ·exact p8
  ·exact p9
 have lv:∃f',jp M.length (.ok (.rt (lT ((Z5++[z9]).map pz)),M8++[Z1.map pz,Z2.map pz,Z5.map pz]))=.ok ((.lst ((Z5++[z9]).map pz),f'),M8):=by
  generalize Z5++[z9]=Z at *;refine⟨T.lfs (Z.map pz)||frR (M8++[Z1.map pz,Z2.map pz,Z5.map pz]) M8.length (.lst (Z.map pz)),?_⟩;show _P.finish M.length _ _=_;unfold _P.finish;rw[if_neg (by rw[wY];simp;omega),<-l8,uL rfl,if_pos ((zK hM kM8).all _)];have r:qJ (M8++[Z1.map pz,Z2.map pz,Z5.map pz]) M8.length 6 (.lst (Z.map pz))=some (.lst (Z.map pz)):=by
   unfold qJ;rw[if_pos (by rw[T.und];exact ji _ _)]
  show (tJ (qJ _ _ 6 (.lst (Z.map pz)))).bind _=_;rw[r];rfl
 obtain⟨f',lv⟩:=lv;refine⟨Z5++[z9],f',M8,?_,kM8,hZ⟩;rw[qS t40 ⟨rfl,by decide⟩ (by omega),qFV,show Cs.getD 40 []=[1008] from rfl];show jp M.length (pxs _ _ _ _ (QP n s S P none none none none none) M)=_;rw[s0 (s1 (s2 (s3 (s4 (s5 (s6 (s7 (s8 s9))))))))];exact lv
end
end _M
namespace _M
open PySem PySem.Spec _P
open _L (V)
def Bd(i:Int):Prop:=i.natAbs<2 ^ 110
theorem Bd.log{i:Int}(h:Bd i):i.natAbs.log2<120:=by
 rcases Nat.eq_zero_or_pos i.natAbs with z|z
 ·rw[z];decide
 ·have:=(Nat.log2_lt (by omega)).mpr h;omega
theorem Bd.len{i:Int}(h:Bd i):(Str.ofString (toString i)).length<=121:=by
 rw[ofString_length];exact int_text_length_le (by decide) h.log
def Fit(d:PyData)(n:Nat):Prop:=d.showable=true/\d.shown.length<=n
theorem qA9(ts:List Str):(tupleText ts).length<=piled ts+3:=by
 unfold tupleText;rw[Str.length_append,Str.length_append];have e1:(("(":String):Str).length=1:=rfl;have e2:((if ts.length==1 then ",)" else ")":String):Str).length<=2:=by split<;>decide
 cases ts with
 |nil=>
  have:(Str.join ", " []).length=0:=rfl;omega
 |cons t r=>
  have:=join_length_add (t::r) (by simp);omega
theorem m8:∀(ts:List Str) (k:Nat) (acc:Str),(textFrom k acc ts).length<=acc.length+piled ts
 | [],k,acc=>by show acc.length<=_;rw[piled_nil];omega
 |t::r,k,acc=>by
  have:=m8 r (k+1) (acc++(if k>0 then ", " else "":String)++t);show (textFrom (k+1) (acc++(if k>0 then ", " else "":String)++t) r).length<=_;rw[Str.length_append,Str.length_append]at this;rw[piled_cons];have e:((if k>0 then ", " else "":String):Str).length<=2:=by split<;>decide
  omega
theorem Jx:∀{ds:List PyData}{n:Nat},(∀d∈ds,Fit d n)->PyData.showableAll ds=true/\piled (PyData.shownAll ds)<=ds.length*(n+2)
 | [],n,h=>⟨rfl,vI _⟩
 |d::r,n,h=>by
  obtain⟨a,b⟩:=Jx (ds:=r) λx hx=>h x (by simp[hx]);obtain⟨c,e⟩:=h d (by simp);refine⟨by show (d.showable&&PyData.showableAll r)=true;rw[c,a];rfl,?_⟩;show piled (d.shown::PyData.shownAll r)<=_;rw[piled_cons,List.length_cons,Nat.succ_mul];omega
theorem qDP{ds:List PyData}{n m:Nat}(h:∀d∈ds,Fit d n)(hm:ds.length*(n+2)+3<=m):Fit (.tuple ds) m:=by
 obtain⟨a,b⟩:=Jx h;refine⟨a,?_⟩;show (tupleText (PyData.shownAll ds)).length<=_;have c:=qA9 (PyData.shownAll ds);omega
theorem qC2{ds:List PyData}{n m:Nat}(h:∀d∈ds,Fit d n)(hm:ds.length*(n+2)+3<=m):Fit (.list ds) m:=by
 obtain⟨a,b⟩:=Jx h;refine⟨a,?_⟩;show (listText (PyData.shownAll ds)).length<=_;unfold listText;rw[Str.length_append];have c:=m8 (PyData.shownAll ds) 0 "[";have e1:(("[":String):Str).length=1:=rfl;have e2:(("]":String):Str).length=1:=rfl;omega
theorem qCC{i:Int}(h:Bd i):Fit (.int i) 200:=⟨uS (by have:=h.log;omega),wN h.len (by decide)⟩
theorem Fit.mono{d:PyData}{n m:Nat}(h:Fit d n)(l:n<=m):Fit d m:=⟨h.1,wN h.2 l⟩
theorem N3{f:Mem->T->Option PyData}{n:Nat}:∀{ts:List T},(∀t∈ts,∃d,(∀M:Mem,f M t=some d)/\Fit d n)->∃ds,(∀M:Mem,ZH (f M) ts=some ds)/\ds.length=ts.length/\∀d∈ds,Fit d n
 | [],_=>⟨[],λ_=>rfl,rfl,λd hd=>by simp at hd⟩
 |t::ts,h=>by
  obtain⟨d,e1,f1⟩:=h t (by simp);obtain⟨ds,e2,l2,f2⟩:=N3 (ts:=ts) λt ht=>h t (by simp[ht]);refine⟨d::ds,λM=>?_,by simp[l2],λx hx=>?_⟩
  ·rw[ZH,e1 M,Option.bind_some,e2 M];rfl
  ·rcases wI.mp hx with rfl|hx
   ·exact f1
   ·exact f2 x hx
def Sh(n m:Nat)(t:T):Prop:=∃d,(∀M:Mem,Q9 M n t=some d)/\Fit d m
theorem Sh.lst{n m m':Nat}{ts:List T}(h:∀t∈ts,Sh n m t)(hm:ts.length*(m+2)+3<=m'):Sh (n+1) m' (.lst ts):=by
 obtain⟨ds,e,l,f⟩:=N3 (f:=λM=>Q9 M n) h;exact⟨.list ds,λM=>by show (ZH (Q9 M n) ts).map _=_;rw[e M];rfl,qC2 f (by rw[l];exact hm)⟩
theorem Sh.tup{n m m':Nat}{ts:List T}(h:∀t∈ts,Sh n m t)(hm:ts.length*(m+2)+3<=m'):Sh (n+1) m' (.tup ts):=by
 obtain⟨ds,e,l,f⟩:=N3 (f:=λM=>Q9 M n) h;exact⟨.tuple ds,λM=>by show (ZH (Q9 M n) ts).map _=_;rw[e M];rfl,qDP f (by rw[l];exact hm)⟩
theorem Sh.mono{n m m':Nat}{t:T}(h:Sh n m t)(l:m<=m'):Sh n m' t:=by obtain⟨d,e,f⟩:=h;exact⟨d,e,f.mono l⟩
theorem qH1{x:V}{d:PyData}(e:qBe x=some d){m:Nat}(f:Fit d m)(n:Nat):Sh n m (.v x):=⟨d,λM=>by cases n<;>exact e,f⟩
theorem qIh{x:Nat}(h:x<=1000):Bd (x:Int):=Nat.lt_of_le_of_lt (by simpa using h) (by decide)
theorem qIp{i:Int}(h:Bd i)(n:Nat):Sh n 200 (.v (.int i)):=qH1 rfl (qCC h) n
theorem qH8{x:Nat}(h:x<=1000)(n:Nat):Sh n 200 (N x):=qIp (qIh h) n
theorem qIG{y:Str}(h:y.length<=100)(hy:∀c∈y.cps.toList,c<16 ^ 8)(n:Nat):Sh n 1100 (.v (.str y)):=qH1 (d:=.str y) rfl ⟨rfl,by
 show (reprText y).length<=_;have:=StrLaws.reprText_len y hy;omega⟩ n
theorem qGF{p:T->Prop}{a b c:T}(h1:p a)(h2:p b)(h3:p c):∀t∈[a,b,c],p t:=λt ht=>by
 simp only[wI,wX,or_false]at ht;rcases ht with rfl|rfl|rfl;exact h1;exact h2;exact h3
theorem qGW{M:Mem}{t:T}{n:Nat}(h:Sh 5 n t)(hn:n<=16000000):∃x:Str,∀M:Mem,jE M .repr [t]=some (.v (.str x),true):=by
 obtain⟨d,e,f⟩:=h;refine⟨d.shown,λM=>?_⟩;show ((qBL M t).bind Y4).map _=_;rw[show qBL M t=some d from e M,Option.bind_some];unfold Y4;rw[if_pos ⟨f.1,wN f.2 (by rw[sizeLine_eq];omega)⟩];rfl
theorem qH7{w:Str}(h:w∈[("told":Str),"open","Told",""])(n:Nat):Sh n 20000 (Ts w):=by
 have z:Sh n 1100 (Ts w):=by
  simp only[wI,wX,or_false]at h;rcases h with rfl|rfl|rfl|rfl<;>exact qIG (by decide) (by decide) n
 exact z.mono (by decide)
theorem qD2{L:List Nat}(h:L.length<=80/\∀x∈L,x<=64)(n:Nat):Sh (n+1) 20000 (NL L):=Sh.lst (m:=200) (λt ht=>by
 obtain⟨x,hx,rfl⟩:=vM.mp ht;exact qH8 (by have:=h.2 x hx;omega) n) (by rw[wQ];omega)
theorem shn{w:Str}{ps:List (List Nat)}(h:Pp w ps):∃x:Str,∀M:Mem,jE M .repr [pap w ps]=some (.v (.str x),true):=by
 refine qGW (M:=[]) (n:=100000) (Sh.tup (m:=20000) (λt ht=>?_) ?_) (by decide)
 ·rcases wI.mp ht with rfl|ht
  ·exact qH7 h.wrd 4
  ·obtain⟨L,hL,rfl⟩:=vM.mp ht;exact qD2 (h.row L hL) 3
 ·rw[List.length_cons,wQ];have:=h.len.2;omega
end _M
namespace _M
open PySem PySem.Spec _P
open _L (V)
open GF (Ris lp rch qm Told Qk wd par)
section
variable{k:Nat}
theorem qIb{s:Nat}(hs:s<=5):[N 1,N 2,N 4,N 8,N 16,N 32][s]?=some (N (2 ^ s)):=by
 have:s=0\/s=1\/s=2\/s=3\/s=4\/s=5:=by omega
 rcases this with rfl|rfl|rfl|rfl|rfl|rfl<;>rfl
theorem qGj{M:Mem}(x:Str):qa M .ne (.v (.str x)) (.v (.str x))=some false:=by
 show (some (x==x):Option Bool).map (!·)=_;rw[uW];rfl
theorem qGy{M:Mem}(x:Bool):qa M .ne (.v (.bl x)) (.v (.bl x))=some false:=by rw[qGl];simp
noncomputable abbrev qCe(o0 o1 o2:Option T)(s:Nat)(S:Nat->Bool)(P:Nat)(o7 o8 o9 o10 o11:Option T):TS:=[o0,o1,o2,some (N s),some (N (2 ^ s)),some (NL (rf (2 ^ s) S)),some (N P),o7,o8,o9,o10,o11]
theorem twice(hk:14<=k){s P:Nat}(h1:1<=s)(hs:s<=5)(hP:P<2 ^ s){S:Nat->Bool}{z:Zt}(hz:Pp z.1 z.2){x:Str}{b:Bool}{M:Mem}(hx:∀M:Mem,jE M .repr [pz z]=some (.v (.str x),true))(hb:b=true↔qCR s S P z.1 z.2){o0 o1 o2:Option T}:∀(its:List T) (o10 o11:Option T),∃p10 p11,jJ [] (.name 10) (pxs (glT gs) (Pk (glT gs) Tb.fns Cs k) [2] d7) its (qCe o0 o1 o2 s S P (some (pz z)) (some (.v (.str x))) (some (.v (.bl b))) o10 o11) M=.ok (.nx (qCe o0 o1 o2 s S P (some (pz z)) (some (.v (.str x))) (some (.v (.bl b))) p10 p11),M)
 | [],o10,o11=>⟨o10,o11,rfl⟩
 |t::its,o10,o11=>by
  obtain⟨b',e,hb'⟩:=qH4 (k:=k) (by omega) h1 hs hP S (w:=z.1) (ps:=z.2) (λL hL=>by have:=(hz.row L hL).1;omega) M;have eb:b'=b:=by
   rw[wk,hb',hb]
  subst eb;obtain⟨p10,p11,e2⟩:=twice hk h1 hs hP hz hx hb (o0:=o0) (o1:=o1) (o2:=o2) (M:=M) its (some t) (some (bT b').1);refine⟨p10,p11,?_⟩;have li:∀{M:Mem},jE M .list [NL (rf (2 ^ s) S)]=some (NL (rf (2 ^ s) S),true):=λ{M}=>qD1 _;have e:Pk (glT gs) Tb.fns Cs k 18 [N s,NL (rf (2 ^ s) S),N P,pz z] M=_:=e;unfold qCe at *;have body:pxs (glT gs) (Pk (glT gs) Tb.fns Cs k) [2] d7 [o0,o1,o2,some (N s),some (N (2 ^ s)),some (NL (rf (2 ^ s) S)),some (N P),some (pz z),some (.v (.str x)),some (.v (.bl b')),some t,o11] M=.ok (.nx [o0,o1,o2,some (N s),some (N (2 ^ s)),some (NL (rf (2 ^ s) S)),some (N P),some (pz z),some (.v (.str x)),some (.v (.bl b')),some t,some (bT b').1],M):=by
   clear e2;rw[d7];generalize pz z=tz at *;generalize NL (rf (2 ^ s) S)=tS at *;have hx:=hx M;have ty:zt M (.v (.bl b'))=some "bool":=rfl;have n1:=qGy (M:=M) b';have n2:=qGj (M:=M) x;unfold bT at e
   repeat' first|with_reducible (first|exact li|exact e|exact hx|exact ty|exact n1|exact n2|exact qj|exact zW|exact jK|exact ZF|exact Zk|exact Zr|exact qEI|exact qM|exact isF|exact qDR|assumption|apply qB|apply qK|apply qe|apply zC|apply qAv|apply W0|apply cF|apply f_0|apply zp|apply qGe)|((with_reducible apply ql);exact cN rfl)|assumption|exact nF rfl|rfl
  rw[zJ];show PR.bind (pxs (glT gs) (Pk (glT gs) Tb.fns Cs k) [2] d7 [o0,o1,o2,some (N s),some (N (2 ^ s)),some (NL (rf (2 ^ s) S)),some (N P),some (pz z),some (.v (.str x)),some (.v (.bl b')),some t,o11] M) _=_;rw[body,tD];exact e2
theorem qEy(hk:14<=k){s P:Nat}(h1:1<=s)(hs:s<=5)(hP:P<2 ^ s){S:Nat->Bool}{M:Mem}(hM:FlatM M){o0 o1 o2:Option T}:∀(Zs:List Zt) (o7 o8 o9 o10 o11:Option T),(∀z∈Zs,Pp z.1 z.2)->∃p7 p8 p9 p10 p11,jJ [] (.name 7) (pxs (glT gs) (Pk (glT gs) Tb.fns Cs k) [2] i6) (Zs.map pz) (qCe o0 o1 o2 s S P o7 o8 o9 o10 o11) M=.ok (.nx (qCe o0 o1 o2 s S P p7 p8 p9 p10 p11),M)
 | [],o7,o8,o9,o10,o11,_=>⟨o7,o8,o9,o10,o11,rfl⟩
 |z::Zs,o7,o8,o9,o10,o11,h=>by
  have hz:=h z (by simp);obtain⟨x,hx⟩:=shn hz;have hx:∀M:Mem,jE M .repr [pz z]=some (.v (.str x),true):=hx;obtain⟨b,e,hb⟩:=due (k:=k) (by omega) hs hP (S:=S) (w:=z.1) (ps:=z.2) (λL hL=>by have:=(hz.row L hL).1;omega) hM;obtain⟨q10,q11,e1⟩:=twice hk h1 hs hP hz hx hb (o0:=o0) (o1:=o1) (o2:=o2) (M:=M) [N 0,N 1] o10 o11;obtain⟨p7,p8,p9,p10,p11,e2⟩:=qEy hk h1 hs hP hM (o0:=o0) (o1:=o1) (o2:=o2) Zs (some (pz z)) (some (.v (.str x))) (some (.v (.bl b))) q10 q11 (λy hy=>h y (by simp[hy]));refine⟨p7,p8,p9,p10,p11,?_⟩;have e:Pk (glT gs) Tb.fns Cs k 36 [N (2 ^ s),NL (rf (2 ^ s) S),N P,pz z] M=_:=e;have rg:qC3 (N 2)=some [N 0,N 1]:=zP (n:=2) (by omega);unfold qCe at *;have body:pxs (glT gs) (Pk (glT gs) Tb.fns Cs k) [2] i6 [o0,o1,o2,some (N s),some (N (2 ^ s)),some (NL (rf (2 ^ s) S)),some (N P),some (pz z),o8,o9,o10,o11] M=.ok (.nx [o0,o1,o2,some (N s),some (N (2 ^ s)),some (NL (rf (2 ^ s) S)),some (N P),some (pz z),some (.v (.str x)),some (.v (.bl b)),q10,q11],M):=by
   clear e2;rw[i6];generalize pz z=tz at *;generalize NL (rf (2 ^ s) S)=tS at *;have hx:=hx M
   repeat' first|with_reducible (first|exact hx|exact e|exact rg|exact e1|exact qp|exact zW|exact jK|exact ZF|exact zg|exact qM|exact K1|exact jF|exact jd|assumption|apply qB|apply qK|apply zC|apply zO|apply qAO)|((with_reducible apply ql);exact cN rfl)|assumption|rfl
  rw[List.map_cons,zJ];show PR.bind (pxs (glT gs) (Pk (glT gs) Tb.fns Cs k) [2] i6 [o0,o1,o2,some (N s),some (N (2 ^ s)),some (NL (rf (2 ^ s) S)),some (N P),some (pz z),o8,o9,o10,o11] M) _=_;rw[body,tD];exact e2
theorem qFa(hk:21<=k)(ns:List Int){i:Nat}(hi:i<=62){M:Mem}(hM:FlatM M){o2 o3 o4 o5 o6 o7 o8 o9 o10 o11:Option T}:∃p2 p3 p4 p5 p6 p7 p8 p9 p10 p11 M',pxs (glT gs) (Pk (glT gs) Tb.fns Cs k) [2] qAb [some (.fz (ns.map λn=>.v (.int n))),some (N i),o2,o3,o4,o5,o6,o7,o8,o9,o10,o11] M=.ok (.nx [some (.fz (ns.map λn=>.v (.int n))),some (N i),p2,p3,p4,p5,p6,p7,p8,p9,p10,p11],M')/\FlatM M':=by
 obtain⟨a,b,c,e1,hb⟩:=qG2 (k:=k) (by omega) ns (kk:=i) (by omega) M;have g0:Good (M++[stT a b c]) M.length:=⟨a,b,c,by simp,hb⟩
 have f0:FlatM (M++[stT a b c]):=hM.app λx hx=>by simp at hx;rw[hx];exact n9 a b c
 obtain⟨d,M1,e2,hd,k1⟩:=QH (k:=k) (by omega) g0 (m:=5) (by decide);have s1:1<=1+d:=by omega
 have s5:1+d<=5:=by omega
 generalize hs:1+d=s at *;have n5:=p5 s5;have pp:0<2 ^ s:=Nat.two_pow_pos _;obtain⟨S,f,M2,e3,k2⟩:=qHv (k:=k) (by omega) k1.good (m:=2 ^ s) (by omega);obtain⟨P,M3,e4,hP,k3⟩:=QH (k:=k) (by omega) k2.good (m:=2 ^ s) (by omega);have k13:=(k1.trans k2).trans k3;have fM3:=zK f0 k13;obtain⟨Zs,f5,M4,e5,k4,hZ⟩:=qFG (k:=k) (by omega) fM3 k13.good s1 s5 hP S;have fM4:=zK fM3 k4;obtain⟨p7,p8,p9,p10,p11,e6⟩:=qEy (k:=k) (by omega) s1 s5 hP (S:=S) fM4 (o0:=some (.fz (ns.map λn=>.v (.int n)))) (o1:=some (N i)) (o2:=some (.cell M.length)) Zs o7 o8 o9 o10 o11 hZ;refine⟨some (.cell M.length),some (N s),some (N (2 ^ s)),some (NL (rf (2 ^ s) S)),some (N P),p7,p8,p9,p10,p11,M4,?_,fM4⟩;have th:thaw M.length (.lst (stT a b c))=(.cell M.length,[stT a b c]):=rfl;have ad:∀{M:Mem},qx M .add (N 1) (N d)=some (N s,true):=λ{M}=>by rw[<-hs];exact zQ _ _
 have ix:∀{M:Mem},jl M (.lst [N 1,N 2,N 4,N 8,N 16,N 32]) (N s)=some (N (2 ^ s),true):=λ{M}=>by rw[QR,qIb s5];rfl
 have sZ:A9 M4 (.lst (Zs.map pz))=some (Zs.map pz,[]):=rfl;unfold qCe at e6;rw[qAb];generalize NL (rf (2 ^ s) S)=tS at *;generalize Zs.map pz=ZZ at *
 repeat' first|with_reducible (first|exact e1|exact th|exact e2|exact ad|exact ix|exact e3|exact e4|exact e5|exact sZ|exact e6|exact ll6|exact qV|exact qY|exact qW|exact qj|exact qp|exact zW|exact jK|exact zg|exact qM|exact K1|exact ZY|exact zR|exact zD|exact qt|exact zf|exact zQ .. | assumption|apply qB|apply qK|apply zH|apply qz|apply zE|apply zB|apply qAO)|((with_reducible apply ql);exact cN rfl)|((with_reducible apply D0);exact rfl)|assumption|rfl
theorem qHs(hk:21<=k)(ns:List Int):∀(m i:Nat) (M:Mem) (o1 o2 o3 o4 o5 o6 o7 o8 o9 o10 o11:Option T),i+m<=63->FlatM M->∃σ' M',jJ [] (.name 1) (pxs (glT gs) (Pk (glT gs) Tb.fns Cs k) [2] qAb) ((List.range' i m).map N) [some (.fz (ns.map λn=>.v (.int n))),o1,o2,o3,o4,o5,o6,o7,o8,o9,o10,o11] M=.ok (.nx σ',M')
 | 0,i,M,o1,o2,o3,o4,o5,o6,o7,o8,o9,o10,o11,h,hM=>⟨_,M,rfl⟩
 |m+1,i,M,o1,o2,o3,o4,o5,o6,o7,o8,o9,o10,o11,h,hM=>by
  obtain⟨p2,p3,p4,p5,p6,p7,p8,p9,p10,p11,M1,e,hM1⟩:=qFa hk ns (i:=i) (by omega) hM (o2:=o2) (o3:=o3) (o4:=o4) (o5:=o5) (o6:=o6) (o7:=o7) (o8:=o8) (o9:=o9) (o10:=o10) (o11:=o11);obtain⟨σ',M',e'⟩:=qHs hk ns m (i+1) M1 (some (N i)) p2 p3 p4 p5 p6 p7 p8 p9 p10 p11 (by omega) hM1;refine⟨σ',M',?_⟩;rw[List.range'_succ,List.map_cons,zJ,st1,e,tD];exact e'
end
theorem main:∀ns:List Int,ns.length<=63->∃h',Fk Tb.fns 30 41 [.ref gs.length] (D5 gs ns)=.ok (.bl true,h'):=by
 intro ns hn;obtain⟨σ',M',e⟩:=qHs (k:=29) (by omega) ns (max 1 (min 40 ns.length)) 0 [] none none none none none none none none none none none (by omega) (λc hc=>by simp at hc);rw[<-va]at e;have key:∃b M2,Pk (glT gs) Tb.fns Cs 30 41 [.fz (ns.map λn=>.v (.int n))] []=.ok ((.v (.bl true),b),M2):=by
  rw[qS t41 ⟨rfl,by decide⟩ (by omega),show Cs.getD 41 []=[2] from rfl];have ex:pxs (glT gs) (Pk (glT gs) Tb.fns Cs (30-1)) [2] b41 ([T.fz (ns.map λn=>.v (.int n))].map some++List.replicate (12-1) none) []=.ok (.rt (bT true),M'):=by
   rw[b41];simp(disch:=omega) [zP,e]
  rw[ex];exact Z0 _ _ _
 obtain⟨b,M2,e2⟩:=key;exact qDr rfl e2
end _M
namespace PySem.W.Fast
theorem tw7047548661055917826:True:=trivial
theorem tw11316191164488053600:True:=trivial
theorem tw3418781877687932427:True:=trivial
theorem tw347884560687105619:True:=trivial
theorem tw2911099296492357580:True:=trivial
theorem tw826186392598232235:True:=trivial
theorem tw17581538020055694644:True:=trivial
theorem tw3349137571708733726:True:=trivial
theorem tw3437924244190202439:True:=trivial
theorem tw8762580701634138129:True:=trivial
theorem tw4959770247245400815:True:=trivial
theorem tw10160429943907095731:True:=trivial
theorem tw13154215798131267143:True:=trivial
theorem tw16219817601829199347:True:=trivial
theorem tw17434287251929013877:True:=trivial
theorem tw11036301549515737091:True:=trivial
theorem tw18246827586927987758:True:=trivial
theorem tw5276486246915364944:True:=trivial
theorem tw1039922519258563879:True:=trivial
theorem tw14721129124934679079:True:=trivial
theorem tw10633961992946197063:True:=trivial
theorem tw107727412943871354:True:=trivial
theorem tw17227543530616394597:True:=trivial
theorem tw11817450055889543365:True:=trivial
theorem tw16569036241680116858:True:=trivial
theorem tw10876074508401270446:True:=trivial
theorem tw15264852926862619339:True:=trivial
theorem tw756515974188208204:True:=trivial
theorem tw5872640804012329053:True:=trivial
theorem tw9750912644409418477:True:=trivial
theorem tw9050646136656136497:True:=trivial
theorem tw1124625911072642245:True:=trivial
theorem tw10910329948767770824:True:=trivial
theorem tw9005628645894829659:True:=trivial
theorem tw12294802029488291220:True:=trivial
theorem tw15443059250037067689:True:=trivial
theorem tw9939936648832593295:True:=trivial
theorem tw5948320413920460032:True:=trivial
theorem tw9277897827210058186:True:=trivial
theorem tw11511143050963572080:True:=trivial
theorem tw7525374574091041454:True:=trivial
theorem tw15825573777853782700:True:=trivial
theorem tw17871412923258431855:True:=trivial
theorem tw7752376265341804707:True:=trivial
theorem tw8565673705293628912:True:=trivial
theorem tw7175350787204412425:True:=trivial
theorem tw5153652697791885310:True:=trivial
theorem tw7112038731736829126:True:=trivial
theorem tw14712510893426822848:True:=trivial
theorem tw6549907161628543913:True:=trivial
theorem tw5985829929731475090:True:=trivial
theorem tw10370954375760937622:True:=trivial
theorem tw13722177923762575913:True:=trivial
theorem tw5303822611978094461:True:=trivial
theorem tw8003185197450065021:True:=trivial
theorem tw14755556086191509945:True:=trivial
theorem tw15944488913981768995:True:=trivial
theorem tw15204521884061706027:True:=trivial
theorem tw13172858597419528036:True:=trivial
theorem tw4993247414852589581:True:=trivial
theorem tw14242324746377115490:True:=trivial
theorem tw11695697561533225249:True:=trivial
theorem tw15764730021978597358:True:=trivial
theorem tw17473456429035945757:True:=trivial
theorem tw3041921558137239912:True:=trivial
theorem tw1188152090264880878:True:=trivial
theorem tw12892845847273805789:True:=trivial
theorem tw2394700548189170273:True:=trivial
theorem tw14034908544664230794:True:=trivial
theorem tw15251593167092767243:True:=trivial
theorem tw4566218982060642093:True:=trivial
theorem tw18221003885431105713:True:=trivial
theorem tw7506950235985718543:True:=trivial
theorem tw2432281646771386221:True:=trivial
theorem tw15310212986430184395:True:=trivial
theorem tw7842474132524323590:True:=trivial
theorem tw3525371581807297208:True:=trivial
theorem tw9428208558042489069:True:=trivial
theorem tw7657168924213837433:True:=trivial
theorem tw17899157618487808625:True:=trivial
theorem tw14821611393715773014:True:=trivial
theorem tw11689189001236108762:True:=trivial
theorem tw7047042457551434527:True:=trivial
theorem tw13449520567130061606:True:=trivial
theorem tw5053394603527366543:True:=trivial
theorem tw15578120383244503304:True:=trivial
theorem tw7521370609132970501:True:=trivial
theorem tw3265215063743027388:True:=trivial
theorem tw4901393831616602713:True:=trivial
theorem tw10232261421558740141:True:=trivial
theorem tw7681935015992446575:True:=trivial
theorem tw15242280930435211308:True:=trivial
theorem tw6818939794522326703:True:=trivial
theorem tw11469402956537015532:True:=trivial
theorem tw5400473674142552446:True:=trivial
theorem tw14915600616264274074:True:=trivial
theorem tw5500230639047784643:True:=trivial
theorem tw8497582222848992583:True:=trivial
theorem tw1786551208675621640:True:=trivial
theorem tw4699200401666272032:True:=trivial
theorem tw7461680338269379036:True:=trivial
theorem tw11476025221795250754:True:=trivial
theorem tw15714072206335884812:True:=trivial
theorem tw5457780062686263495:True:=trivial
theorem tw6170081137811326612:True:=trivial
theorem tw17268585702628242117:True:=trivial
theorem tw3905576997734045330:True:=trivial
theorem tw11706272296014192983:True:=trivial
theorem tw3390520023910598158:True:=trivial
theorem tw2512021169486312699:True:=trivial
theorem tw6244792059490378137:True:=trivial
theorem tw14268029987392275412:True:=trivial
theorem tw2797476016800593427:True:=trivial
theorem tw14858150581849863863:True:=trivial
theorem tw16669892351042885106:True:=trivial
theorem tw9836098186668860494:True:=trivial
theorem tw8280649877223682948:True:=trivial
theorem tw10669663293188107940:True:=trivial
theorem tw6379096445103436424:True:=trivial
theorem tw8143136386316726513:True:=trivial
theorem tw9792612163920027176:True:=trivial
theorem tw1808264352029953091:True:=trivial
theorem tw10200344928528764293:True:=trivial
theorem tw8549781417433277690:True:=trivial
theorem tw11158814654285512053:True:=trivial
theorem tw17094853427982253517:True:=trivial
theorem tw16990417808587203233:True:=trivial
theorem tw6813359412149936379:True:=trivial
theorem tw9501811088375294066:True:=trivial
theorem tw14805791119347822974:True:=trivial
theorem tw7472072256622728807:True:=trivial
theorem tw11681159596828170886:True:=trivial
theorem tw11074142348766170186:True:=trivial
theorem tw1505135536099288493:True:=trivial
theorem tw13501161840685873883:True:=trivial
theorem tw6335854421623179002:True:=trivial
theorem tw7922960069007871990:True:=trivial
theorem tw12824171435442667544:True:=trivial
theorem tw77451581509965487:True:=trivial
theorem tw2139246846440492554:True:=trivial
theorem tw9739490568890922583:True:=trivial
theorem tw12906734972636757906:True:=trivial
theorem tw3470909036139962725:True:=trivial
theorem tw9068690473253341118:True:=trivial
theorem tw9664722706809417508:True:=trivial
theorem tw2511603244969662070:True:=trivial
theorem tw6953469113340903240:True:=trivial
theorem tw34497679836909245:True:=trivial
theorem tw1657399780746405987:True:=trivial
theorem tw15245823587717932643:True:=trivial
theorem tw13756943882468549269:True:=trivial
theorem tw82496873533939690:True:=trivial
theorem tw2795107288333503212:True:=trivial
theorem tw3870653107633881369:True:=trivial
theorem tw13648471553715234350:True:=trivial
theorem tw5278632199733980263:True:=trivial
theorem tw2708024193039329513:True:=trivial
theorem tw9649566528207918998:True:=trivial
theorem tw15553633093751205131:True:=trivial
theorem tw15479398908579572789:True:=trivial
theorem tw14965531395159287592:True:=trivial
theorem tw14221247754700262528:True:=trivial
theorem tw6266472960330417778:True:=trivial
theorem tw3265674100739053800:True:=trivial
theorem tw1064660417152693000:True:=trivial
theorem tw6792901532153655162:True:=trivial
theorem tw553168662961387232:True:=trivial
theorem tw18138135874818879652:True:=trivial
theorem tw7612025580845284923:True:=trivial
theorem tw725553395677684327:True:=trivial
theorem tw11620089118912124694:True:=trivial
theorem tw11975953435241630039:True:=trivial
theorem tw2144770561842955794:True:=trivial
theorem tw12144839718198118528:True:=trivial
theorem tw11287016737050657098:True:=trivial
theorem tw11848839651319778134:True:=trivial
theorem tw2151946378975128793:True:=trivial
theorem tw5795848561541981625:True:=trivial
theorem tw15269696627308324258:True:=trivial
theorem tw14085227837041045459:True:=trivial
theorem tw9603407118676101953:True:=trivial
theorem tw10465718839624476881:True:=trivial
theorem tw6186623129309018079:True:=trivial
theorem tw15248537103554603938:True:=trivial
theorem tw9556129316396399120:True:=trivial
theorem tw11082407468560997983:True:=trivial
theorem tw2937391684780609450:True:=trivial
theorem tw13830444637271712137:True:=trivial
theorem tw17542737473207177837:True:=trivial
theorem tw11329475939890577722:True:=trivial
theorem tw9082150765253285258:True:=trivial
theorem tw16102762689642014089:True:=trivial
theorem tw17341259533971968859:True:=trivial
theorem tw12986466305037078307:True:=trivial
theorem tw10833018113269750598:True:=trivial
theorem tw10710987593021979355:True:=trivial
theorem tw12862395278472960043:True:=trivial
theorem tw5203104478162144281:True:=trivial
theorem tw12620163386816585973:True:=trivial
theorem tw5168858865547183257:True:=trivial
theorem tw63756311875116659:True:=trivial
theorem tw9214777203963757984:True:=trivial
theorem tw1058900333877088250:True:=trivial
theorem tw11594714784895060219:True:=trivial
theorem tw6160439473850224378:True:=trivial
theorem tw5030752492631630390:True:=trivial
theorem tw8259508211660657459:True:=trivial
theorem tw15850097118970299318:True:=trivial
theorem tw7732297675284969342:True:=trivial
theorem tw12626151447712395567:True:=trivial
theorem tw16107148464829627529:True:=trivial
theorem tw11049301886025756141:True:=trivial
theorem tw6214232091847988306:True:=trivial
theorem tw9344694756388556354:True:=trivial
theorem tw10137383513736811522:True:=trivial
theorem tw744842067468206683:True:=trivial
theorem tw12530537947638963238:True:=trivial
theorem tw3537223999843886890:True:=trivial
theorem tw17650384434317389532:True:=trivial
theorem tw1927546600020489991:True:=trivial
theorem tw3090580735639335640:True:=trivial
theorem tw264404336224775608:True:=trivial
theorem tw5221560401239205720:True:=trivial
theorem tw4370023283482138695:True:=trivial
theorem tw324151273005517285:True:=trivial
theorem tw5013316857574795383:True:=trivial
theorem tw12702556999822889861:True:=trivial
theorem tw7056531004505824227:True:=trivial
theorem tw2971403224154573156:True:=trivial
theorem tw4893325203482214546:True:=trivial
theorem tw11599230828331797515:True:=trivial
theorem tw16645268399865302517:True:=trivial
theorem tw18382635603264496914:True:=trivial
theorem tw5998192434381110120:True:=trivial
theorem tw17506279395585689593:True:=trivial
theorem tw16749564965606833438:True:=trivial
theorem tw3904758795182201566:True:=trivial
theorem tw8046512084945794041:True:=trivial
theorem tw14604416276032374823:True:=trivial
theorem tw1026719745475096179:True:=trivial
theorem tw4249520884985525824:True:=trivial
theorem tw15901483223886006906:True:=trivial
theorem tw12909827977323995605:True:=trivial
theorem tw12559370046044594452:True:=trivial
theorem tw523140735945446634:True:=trivial
theorem tw708593132250516685:True:=trivial
theorem tw15807614771276684894:True:=trivial
theorem tw15955308810436041533:True:=trivial
theorem tw6950008282514343648:True:=trivial
theorem tw7541535667712706622:True:=trivial
theorem tw2262862611627144946:True:=trivial
theorem tw7327803072031515195:True:=trivial
theorem tw18286639991463733958:True:=trivial
theorem tw5180638523755102922:True:=trivial
theorem tw7583464567164728141:True:=trivial
theorem tw11141726885897929605:True:=trivial
theorem tw629642502367971098:True:=trivial
theorem tw8386364552333969754:True:=trivial
theorem tw4345953752528362875:True:=trivial
theorem tw1968372231506623892:True:=trivial
theorem tw3338374304764983091:True:=trivial
theorem tw6912770173611758669:True:=trivial
theorem tw15226115456241310203:True:=trivial
theorem tw7222195987586366556:True:=trivial
theorem tw6369646581051660044:True:=trivial
theorem tw9146418616797448045:True:=trivial
theorem tw12755948348127066043:True:=trivial
theorem tw10580135760982768182:True:=trivial
theorem tw10635402513607746619:True:=trivial
theorem tw6778085222836264515:True:=trivial
theorem tw11324968133777407266:True:=trivial
theorem tw8409145804833761121:True:=trivial
theorem tw16637258044681429121:True:=trivial
theorem tw18219193179514315074:True:=trivial
theorem tw17524023114947381978:True:=trivial
theorem tw13344063434462268998:True:=trivial
theorem tw12092333756066025377:True:=trivial
theorem tw8772411686360201894:True:=trivial
theorem tw14330943331714538305:True:=trivial
theorem tw18340271519773091003:True:=trivial
theorem tw4580256180663823831:True:=trivial
theorem tw9024823627702825828:True:=trivial
theorem tw14158819103443827760:True:=trivial
theorem tw4521122630643442678:True:=trivial
theorem tw4660020965880197614:True:=trivial
theorem tw3705712708778201437:True:=trivial
theorem tw7750992845488274859:True:=trivial
theorem tw1726064704504382315:True:=trivial
theorem tw7141040279250264054:True:=trivial
theorem tw18081512857650644378:True:=trivial
theorem tw7144968067907211628:True:=trivial
theorem tw14626545674073513219:True:=trivial
theorem tw14398955804613218345:True:=trivial
theorem tw17764768581948714759:True:=trivial
theorem tw3892361169618755834:True:=trivial
theorem tw7616340799768088355:True:=trivial
theorem tw6118842036891879772:True:=trivial
theorem tw8067623405308697468:True:=trivial
theorem tw1956257761330979501:True:=trivial
theorem tw15154757813518227832:True:=trivial
theorem tw13008666693075311740:True:=trivial
theorem tw6851337548340499176:True:=trivial
theorem tw6554934138167977665:True:=trivial
theorem tw3998925776599433021:True:=trivial
theorem tw9328171256153413520:True:=trivial
theorem tw13736741260908893062:True:=trivial
theorem tw5298718577210698946:True:=trivial
theorem tw10062913973884769010:True:=trivial
theorem tw1597583638110211991:True:=trivial
theorem tw5116767084114635137:True:=trivial
theorem tw16987182108548543643:True:=trivial
theorem tw1038428010248740985:True:=trivial
end PySem.W.Fast
namespace _M
open PySem PySem.Spec PyProof.Rows _L _P
theorem dk1{d:L5}(h:d.ps.length=1)(sc:zV d.N d.ps (defScope d.st))(b:∀(kV doc pm:Value) (an:Option Addr) (cdv ct:Value),∀u0:Value,bindArgs (PySem.W.fnOf d.x d.x (ze d.st) (defBody d.st) (defScope d.st) .none kV doc pm an cdv ct) ⟨[u0],[]⟩=pure (d.ps.zip [u0])):qBZ d:=⟨sc,λ_ _ _ _ _ _ us hl=>by
 rw[h]at hl;obtain⟨_,rfl⟩:=_P.len1 hl;exact b _ _ _ _ _ _ _⟩
theorem dk2{d:L5}(h:d.ps.length=2)(sc:zV d.N d.ps (defScope d.st))(b:∀(kV doc pm:Value) (an:Option Addr) (cdv ct:Value),∀u0 u1:Value,bindArgs (PySem.W.fnOf d.x d.x (ze d.st) (defBody d.st) (defScope d.st) .none kV doc pm an cdv ct) ⟨[u0,u1],[]⟩=pure (d.ps.zip [u0,u1])):qBZ d:=⟨sc,λ_ _ _ _ _ _ us hl=>by
 rw[h]at hl;obtain⟨_,_,rfl⟩:=_P.len2 hl;exact b _ _ _ _ _ _ _ _⟩
theorem dk3{d:L5}(h:d.ps.length=3)(sc:zV d.N d.ps (defScope d.st))(b:∀(kV doc pm:Value) (an:Option Addr) (cdv ct:Value),∀u0 u1 u2:Value,bindArgs (PySem.W.fnOf d.x d.x (ze d.st) (defBody d.st) (defScope d.st) .none kV doc pm an cdv ct) ⟨[u0,u1,u2],[]⟩=pure (d.ps.zip [u0,u1,u2])):qBZ d:=⟨sc,λ_ _ _ _ _ _ us hl=>by
 rw[h]at hl;obtain⟨_,_,_,rfl⟩:=_P.len3 hl;exact b _ _ _ _ _ _ _ _ _⟩
theorem dk4{d:L5}(h:d.ps.length=4)(sc:zV d.N d.ps (defScope d.st))(b:∀(kV doc pm:Value) (an:Option Addr) (cdv ct:Value),∀u0 u1 u2 u3:Value,bindArgs (PySem.W.fnOf d.x d.x (ze d.st) (defBody d.st) (defScope d.st) .none kV doc pm an cdv ct) ⟨[u0,u1,u2,u3],[]⟩=pure (d.ps.zip [u0,u1,u2,u3])):qBZ d:=⟨sc,λ_ _ _ _ _ _ us hl=>by
 rw[h]at hl;obtain⟨_,_,_,_,rfl⟩:=_P.len4 hl;exact b _ _ _ _ _ _ _ _ _ _⟩
theorem dk5{d:L5}(h:d.ps.length=5)(sc:zV d.N d.ps (defScope d.st))(b:∀(kV doc pm:Value) (an:Option Addr) (cdv ct:Value),∀u0 u1 u2 u3 u4:Value,bindArgs (PySem.W.fnOf d.x d.x (ze d.st) (defBody d.st) (defScope d.st) .none kV doc pm an cdv ct) ⟨[u0,u1,u2,u3,u4],[]⟩=pure (d.ps.zip [u0,u1,u2,u3,u4])):qBZ d:=⟨sc,λ_ _ _ _ _ _ us hl=>by
 rw[h]at hl;obtain⟨_,_,_,_,_,rfl⟩:=_P.len5 hl;exact b _ _ _ _ _ _ _ _ _ _ _⟩
theorem dks:∀d∈Tb.ds,qBZ d:=by
 unfold Tb;dsimp only
 repeat' (refine wj.2 ⟨?_,?_⟩;first|exact dk1 rfl ⟨rfl,rfl,rfl,by decide +kernel,rfl,by decide +kernel,by decide +kernel⟩ λ_ _ _ _ _ _ _=>rfl|exact dk2 rfl ⟨rfl,rfl,rfl,by decide +kernel,rfl,by decide +kernel,by decide +kernel⟩ λ_ _ _ _ _ _ _ _=>rfl|exact dk3 rfl ⟨rfl,rfl,rfl,by decide +kernel,rfl,by decide +kernel,by decide +kernel⟩ λ_ _ _ _ _ _ _ _ _=>rfl|exact dk4 rfl ⟨rfl,rfl,rfl,by decide +kernel,rfl,by decide +kernel,by decide +kernel⟩ λ_ _ _ _ _ _ _ _ _ _=>rfl|exact dk5 rfl ⟨rfl,rfl,rfl,by decide +kernel,rfl,by decide +kernel,by decide +kernel⟩ λ_ _ _ _ _ _ _ _ _ _ _=>rfl)
 exact λ_ h=>nomatch h
theorem all_mk{l:PySem.W.OpenLaw}{w:World}{K:PySem.W.Frag}{h:Heap}{mg:Str->Option Value}{fa:Addr}(X:K.In h)(G:h.Ns mainGlobals mg)(hfa:mg "law"=some (.ref fa))
  (hds:∀d∈Tb.ds,qFZ K d)
  {ga0:Addr}{gn0:Nat}{gsl0:Array (Option Value)}{u0_0 u0_1 u0_2 u0_3 u0_4 u0_5:Tok}(g_LENGTHS:PySem.W.nsIn K mainGlobals "LENGTHS"=some (some (.ref ga0))) (m0:K.lookup ga0=some ⟨.type "tuple",none,.seq #[.int 1 u0_0,.int 2 u0_1,.int 4 u0_2,.int 8 u0_3,.int 16 u0_4,.int 32 u0_5] gn0,gsl0⟩)
  {tg_GREATEST_SIZE:Tok}(g_GREATEST_SIZE:PySem.W.nsIn K mainGlobals "GREATEST_SIZE"=some (some (.int 5 tg_GREATEST_SIZE)))
  (z_len:PySem.W.nsIn K mainGlobals "len"=some none)
  (z_sum:PySem.W.nsIn K mainGlobals "sum"=some none)
  (z_all:PySem.W.nsIn K mainGlobals "all"=some none)
  (z_any:PySem.W.nsIn K mainGlobals "any"=some none)
  (z_max:PySem.W.nsIn K mainGlobals "max"=some none)
  (z_min:PySem.W.nsIn K mainGlobals "min"=some none)
  (z_list:PySem.W.nsIn K mainGlobals "list"=some none)
  (z_int:PySem.W.nsIn K mainGlobals "int"=some none)
  (z_tuple:PySem.W.nsIn K mainGlobals "tuple"=some none)
  (z_range:PySem.W.nsIn K mainGlobals "range"=some none)
  (z_zip:PySem.W.nsIn K mainGlobals "zip"=some none)
  (z_isinstance:PySem.W.nsIn K mainGlobals "isinstance"=some none)
  (z_bool:PySem.W.nsIn K mainGlobals "bool"=some none)
  (z_str:PySem.W.nsIn K mainGlobals "str"=some none)
  (z_sorted:PySem.W.nsIn K mainGlobals "sorted"=some none)
  (z_repr:PySem.W.nsIn K mainGlobals "repr"=some none)
  (z_set:PySem.W.nsIn K mainGlobals "set"=some none)
  (z_ValueError:PySem.W.nsIn K mainGlobals "ValueError"=some none)
  (main:∀ns:List Int,ns.length<=63->∃h',Fk Tb.fns 30 41 [.ref gs.length] (D5 gs ns)=.ok (.bl true,h')):
  ∃fd:FuncData,(∀(s:Shared) (v:Value),BindsTo s fd ⟨[v],[]⟩ [("_law_script",v)])/\∀base:Heap,K.In base->base.Ns mainGlobals mg->FnOk l.prog w K mg base CX0 60 fa fd ["_law_script"] (qBH K):=by
 obtain⟨fas,fds,hT⟩:=qBd X G Tb.ds hds dks;have O:qBI K mg [ga0] Tb fas fds:=by
  refine⟨hT,λx e hx=>?_,λx hx=>?_,λa ha=>(wI.mp ha).elim (λz=>by subst z;exact⟨_,m0,rfl,rfl⟩) λha=>nomatch ha⟩
  ·have hx2:List.lookup x ([("LENGTHS",E.glob 0),("GREATEST_SIZE",E.cst (.int 5))]:List (Str×E))=some e:=hx;simp only[List.lookup_cons,List.lookup_nil]at hx2;split at hx2
   ·rename_i hq;have hq2:x="LENGTHS":=by simpa using hq
    subst hq2;cases hx2;exact .inr ⟨_,_,rfl,PySem.W.mg_of X G g_LENGTHS,rfl⟩
   split at hx2
   ·rename_i hq;have hq2:x="GREATEST_SIZE":=by simpa using hq
    subst hq2;cases hx2;exact .inl ⟨_,_,rfl,PySem.W.mg_of X G g_GREATEST_SIZE,⟨_,rfl⟩,λ_=>rfl⟩
   cases hx2
  ·have hx2:x∈(["len","sum","all","any","max","min","list","int","tuple","range","zip","isinstance","bool","str","sorted","repr","set","ValueError"]:List Str):=List.contains_iff_mem.mp hx;simp only[wI,wX,or_false]at hx2;rcases hx2 with rfl|rfl|rfl|rfl|rfl|rfl|rfl|rfl|rfl|rfl|rfl|rfl|rfl|rfl|rfl|rfl|rfl|rfl
   ·exact PySem.W.mg_none_of X G z_len
   ·exact PySem.W.mg_none_of X G z_sum
   ·exact PySem.W.mg_none_of X G z_all
   ·exact PySem.W.mg_none_of X G z_any
   ·exact PySem.W.mg_none_of X G z_max
   ·exact PySem.W.mg_none_of X G z_min
   ·exact PySem.W.mg_none_of X G z_list
   ·exact PySem.W.mg_none_of X G z_int
   ·exact PySem.W.mg_none_of X G z_tuple
   ·exact PySem.W.mg_none_of X G z_range
   ·exact PySem.W.mg_none_of X G z_zip
   ·exact PySem.W.mg_none_of X G z_isinstance
   ·exact PySem.W.mg_none_of X G z_bool
   ·exact PySem.W.mg_none_of X G z_str
   ·exact PySem.W.mg_none_of X G z_sorted
   ·exact PySem.W.mg_none_of X G z_repr
   ·exact PySem.W.mg_none_of X G z_set
   ·exact PySem.W.mg_none_of X G z_ValueError
 have hG:O0 K [ga0] gs:=⟨⟨.inr ⟨_,_,_,m0,rfl,rfl,by show 6<=sizeLine;decide,.cons ⟨_,rfl⟩ (.cons ⟨_,rfl⟩ (.cons ⟨_,rfl⟩ (.cons ⟨_,rfl⟩ (.cons ⟨_,rfl⟩ (.cons ⟨_,rfl⟩ (.nil))))))⟩,rfl⟩,True.intro⟩
 obtain⟨a,f,e1,e2,F,_,em,_⟩:=hT 41 _ rfl;have e:=hfa.symm.trans em;cases e;exact⟨f,qGN F (dks _ (wZ (i:=41) rfl)) rfl,λbase _ _=>c8 O hG (i:=41) rfl e1 e2 rfl main⟩
theorem walk{l:PySem.W.OpenLaw}{q:Program}{loose:List Str}{XP:(Str->Option Value)->Heap->Prop}{YP:World->Heap->Prop}{d:DefRec}{K:Params->PySem.W.Frag}(hn:l.most=some 63)(hdf:d.params.defaults=[])
  (hY:∀(w:World) (h:Heap),YP w h->(K w.params).In h)
  (F:∀(w:World) (mg:Str->Option Value) (fa:Addr) (h:Heap),(K w.params).In h->h.Ns mainGlobals mg->mg d.name=some (.ref fa) ->
   ∃fd:FuncData,(∀(s:Shared) (u:Value),BindsTo s fd ⟨[u],[]⟩ [("_law_script",u)])/\∀base:Heap,(K w.params).In base->base.Ns mainGlobals mg->FnOk l.prog w (K w.params) mg base CX0 60 fa fd ["_law_script"] (qBH (K w.params))):
  PySem.W.WalkO q loose XP YP l.row.toRowW d [] (λf vs=>PySem.call f vs):=
 _L.walk_of (n:=63) (k:=60) (x:="_law_script") (CX:=λ_=>CX0) (sp:=λw=>qBH (K w.params)) hn (by decide) hdf ⟨rfl,by decide,by decide,rfl⟩ hY F (λ_ _ a ns hl hO hS=>⟨a,ns,rfl,hO,hS,hl,λ_=>rfl⟩) λ_ _ _ _ _ z=>z
end _M
open PySem PySem.W PyProof.Rows
set_option maxRecDepth 100000 in
set_option maxHeartbeats 0 in
theorem PySem.Challenge.cw_healhalves_k19_papers_looked_at_holds : PySem.Challenge.rw_healhalves_k19_papers_looked_at.Holds := by
 w_on;o_law;k_head;(case hw=>w_witness2)
 k_fill
 refine _M.walk (l:=PySem.Challenge.rw_healhalves_k19_papers_looked_at) rfl rfl (λw h Y=>PySem.W.kIn_of Y) ?F
 case F=>
  intro w mg fa h KX G hmg
  refine' _M.all_mk KX G hmg ?ds ?g_LENGTHS ?m0 ?g_GREATEST_SIZE ?z_len ?z_sum ?z_all ?z_any ?z_max ?z_min ?z_list ?z_int ?z_tuple ?z_range ?z_zip ?z_isinstance ?z_bool ?z_str ?z_sorted ?z_repr ?z_set ?z_ValueError _M.main
  case ds=>
   unfold _M.Tb;dsimp only
   repeat' (refine wj.2 ⟨⟨_,_,_,_,_,_,_,_,_,_,by k_is,by k_is,by k_is,by k_is⟩,?_⟩)
   exact λ_ h=>nomatch h
  all_goals (try k_is)
