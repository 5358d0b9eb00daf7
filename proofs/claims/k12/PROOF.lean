import PyProof.Rows.All
import Wide.All
import OpenK.AllK
import Wide.FinOn
import Lean
import PyProof.EqAt
import PyProof.EqKinds
import PyProof.TupleCall
import PyProof.NeKinds
import PyProof.ZipIter
import PyProof.ReprRoads
import KE.KDictOf
import KE.KItemsList
import PyProof.AttrMissHeap
import KE.KRevIter
import PyProof.EnumMake
import PyProof.EnumFor
import PyProof.WalksEnum
import PyProof.Rows.EnumRows
import PyProof.FactsAll.range_2
import PyProof.AutoRange
import PySem.Challenge.RW_healhalves_k12_what_makes_words
set_option bootstrap.genMatcherCode false
set_option compiler.extract_closed false
set_option genSizeOf false
set_option genSizeOfSpec false
set_option Elab.async false
set_option linter.all false
set_option maxRecDepth 100000
def wA:=@List.getElem?_eq_getElem
def wC:=@Nat.lt_of_lt_of_le
def wD:=@List.size_toArray
def wE:=@List.mem_append
def wF:=@List.mem_append_left
def wG:=@List.mem_append_right
def wH:=@List.length_map
def wI:=@List.getD_eq_getElem?_getD
def wJ:=@List.mem_singleton
def wK:=@List.all_eq_true
def wL:=@List.append_assoc
def wM:=@Nat.ne_of_lt
def wN:=@List.length_take
def wO:=@List.mem_range
def wP:=@List.set_append_right
def wQ:=@List.getElem?_map
def wR:=@List.nodup_append
def wS:=@List.map_append
def wT:=@List.getElem?_take_of_lt
def wU:=@List.not_mem_nil
def wV:=@List.forall_mem_cons
def wW:=@Bool.false_ne_true
def wX:=@List.eraseIdx_eq_take_drop_succ
def wY:=@List.mem_or_eq_of_mem_set
def wZ:=@List.range'_succ
def wa:=@Nat.lt_trans
def wb:=@List.length_drop
def wc:=@List.lookup_append
def wd:=@List.length_set
def we:=@Int.toNat_natCast
def wf:=@List.reverse_cons
def wg:=@List.map_map
def wj:=@List.mem_map
def wm:=@Nat.le_of_lt
def wn:=@List.mem_filter
def wo:=@List.dropLast_eq_take
def wp:=@List.getElem?_eq_none
def wq:=@List.take_append_drop
def wt:=@Nat.pow_le_pow_right
def wu:=@List.range_eq_range'
def wv:=@List.map_congr_left
def wx:=@Bool.or_eq_true
def wy:=@Bool.eq_iff_iff
def wz:=@List.getElem?_drop
def vA:=@List.take_of_length_le
def vB:=@List.nodup_nil
def vC:=@Nat.le_add_right
def vD:=@List.drop_eq_nil_iff
def vE:=@List.getElem?_of_mem
def vF:=@Nat.one_mul
def vG:=@List.nodup_cons
def vH:=@Nat.pow_succ
def vI:=@List.drop_drop
def vJ:=@List.mapM_cons
open PySem PySem.Spec in def vK:=@wpAny_bind
open PySem PySem.Spec in def vL:=@wpAny_pure
def vM:=@decide_eq_false
def vN:=@decide_eq_true
def vO:=@decide_eq_true_eq
def vP:=@of_decide_eq_true
open PySem PySem.Spec in def vQ:=@wpAny_truthy_bool
def vR:=@beq_self_eq_true
namespace L2
open PySem PySem.Spec PyProof.Rows
noncomputable abbrev Key:=Sum Int Str
noncomputable def H0:Key->Value->Bool
 | .inl k,v=>Value.isInt k v
 | .inr x,v=>Value.isStrOf x v
noncomputable def qEy(w:World):Key->Int
 | .inl k=>hashInt k
 | .inr x=>hashStr w x
theorem qd:∀{k:Key}{v:Value},H0 k v=true->(∃i t,k=Sum.inl i/\v=Value.int i t)\/(∃x t,k=Sum.inr x/\v=Value.str x t)
 | .inl i,v,h=>by
  obtain⟨t,e⟩:=Value.isInt_shape (k:=i) (v:=v) h;exact .inl ⟨i,t,rfl,e⟩
 | .inr x,v,h=>by
  obtain⟨t,e⟩:=Value.isStrOf_shape (x:=x) (v:=v) h;exact .inr ⟨x,t,rfl,e⟩
theorem O5(i:Int)(t:Tok):H0 (.inl i) (.int i t)=true:=by simp[H0,Value.isInt]
theorem V5(x:Str)(t:Tok):H0 (.inr x) (.str x t)=true:=by simp[H0,Value.isStrOf]
theorem qAy(a b:Int):decide ((Sum.inl a:Key)=Sum.inl b)=(a==b):=by
 by_cases e:a=b
 ·subst e;simp
 ·have h:¬ (Sum.inl a:Key)=Sum.inl b:=λq=>e (Sum.inl.inj q);rw[vM h];exact(beq_eq_false_iff_ne.mpr e).symm
theorem qB6(a b:Str):decide ((Sum.inr a:Key)=Sum.inr b)=decide (a=b):=by
 by_cases e:a=b
 ·subst e;simp
 ·have h:¬ (Sum.inr a:Key)=Sum.inr b:=λq=>e (Sum.inr.inj q);rw[vM h,vM e]
theorem qBl(a:Int)(b:Str):decide ((Sum.inl a:Key)=Sum.inr b)=false:=vM (λq=>nomatch q)
theorem qBV(a:Str)(b:Int):decide ((Sum.inr a:Key)=Sum.inl b)=false:=vM (λq=>nomatch q)
noncomputable def qt(prog:Program)(w:World):PySem.KeyKind prog w Key where
 is:=H0
 hash:=qEy w
 inj:=λv a b ha hb=>by
  rcases qd ha with⟨i,t,rfl,rfl⟩|⟨x,t,rfl,rfl⟩
  ·rcases qd hb with⟨j,u,rfl,e⟩|⟨y,u,rfl,e⟩
   ·injection e with e1 _;rw[e1]
   ·exact nomatch e
  ·rcases qd hb with⟨j,u,rfl,e⟩|⟨y,u,rfl,e⟩
   ·exact nomatch e
   ·injection e with e1 _;rw[e1]
 byValue:=λk v h=>by
  rcases qd h with⟨i,t,rfl,rfl⟩|⟨x,t,rfl,rfl⟩<;>rfl
 pyHash:=λhv h=>by
  rcases qd hv with⟨i,t,rfl,rfl⟩|⟨x,t,rfl,rfl⟩
  ·exact wpAny_pyHash_int h
  ·exact wpAny_pyHash_str h
 eqBool:=λhu hv h=>by
  rcases qd hu with⟨i,t,rfl,rfl⟩|⟨x,t,rfl,rfl⟩
  ·rcases qd hv with⟨j,u,rfl,rfl⟩|⟨y,u,rfl,rfl⟩
   ·rw[qAy]at h;exact wpAny_eqBool_int h
   ·rw[qBl]at h;exact SeqAt.EqAt.int_str i t y u _ _ _ _ h
  ·rcases qd hv with⟨j,u,rfl,rfl⟩|⟨y,u,rfl,rfl⟩
   ·rw[qBV]at h;exact SeqAt.EqAt.str_int x t j u _ _ _ _ h
   ·rw[qB6]at h;exact wpAny_eqBool_str h
 «strs»:=λk x t v h=>by
  rcases qd h with⟨i,u,rfl,e⟩|⟨y,u,rfl,e⟩
  ·exact nomatch e
  ·injection e with e1 _;subst e1;cases v<;>rfl
theorem A0(prog:Program)(w:World)(i:Int)(t:Tok):(qt prog w).is (.inl i) (.int i t)=true:=O5 i t
theorem A5(prog:Program)(w:World)(x:Str)(t:Tok):(qt prog w).is (.inr x) (.str x t)=true:=V5 x t
inductive V where
 |non|bl (b:Bool)|int (i:Int)|str (x:Str)|byt (b:Array UInt8)|flt (b:UInt64)|ref (a:Addr)|ty (n:String)
 deriving DecidableEq
def RelV:V->Value->Prop
 | .non,u=>u=Value.none
 | .bl b,u=>u=Value.bool b
 | .int i,u=>∃t,u=Value.int i t
 | .str x,u=>∃t,u=Value.str x t
 | .byt b,u=>∃t,u=Value.bytes b t
 | .flt b,u=>∃t,u=Value.float b t
 | .ref a,u=>u=Value.ref a
 | .ty n,u=>u=Value.type n
abbrev Vals:List V->List Value->Prop:=Paired RelV
theorem Vals.length{xs:List V}{us:List Value}(r:Vals xs us):xs.length=us.length:=Paired.length r
theorem Vals.get:∀{xs:List V}{us:List Value}{i:Nat}{x:V},Vals xs us->xs[i]?=some x->∃u,us[i]?=some u/\RelV x u
 |_,_,_,_,.nil,e=>by simp at e
 |_,_,0,_,.cons r _,e=>by simp at e;subst e;exact⟨_,rfl,r⟩
 |_,_,i+1,x,.cons _ t,e=>by
  obtain⟨u,h1,h2⟩:=Vals.get (i:=i) (x:=x) t (by simpa using e);exact⟨u,by simpa using h1,h2⟩
theorem Vals.set{x:V}{u:Value}(r:RelV x u):∀{xs:List V}{us:List Value}(i:Nat),Vals xs us->Vals (xs.set i x) (us.set i u)
 |_,_,_,.nil=>.nil
 |_,_,0,.cons _ t=>.cons r t
 |_,_,i+1,.cons q t=>.cons q (Vals.set r i t)
theorem Vals.append:∀{xs ys:List V}{us ws:List Value},Vals xs us->Vals ys ws->Vals (xs++ys) (us++ws)
 |_,_,_,_,.nil,s=>s
 |_,_,_,_,.cons r t,s=>.cons r (Vals.append t s)
theorem Vals.take:∀{xs:List V}{us:List Value}(n:Nat),Vals xs us->Vals (xs.take n) (us.take n)
 |_,_,0,_=>.nil
 |_,_,_+1,.nil=>.nil
 |_,_,n+1,.cons r t=>.cons r (Vals.take n t)
theorem Vals.drop:∀{xs:List V}{us:List Value}(n:Nat),Vals xs us->Vals (xs.drop n) (us.drop n)
 |_,_,0,r=>r
 |_,_,_+1,.nil=>.nil
 |_,_,n+1,.cons _ t=>Vals.drop n t
def RelO:Option V->Option Value->Prop
 |some v,some u=>RelV v u
 |none,none=>True
 |_,_=>False
def KV{κ:Type}:List (κ×V)->List (κ×Value)->Prop:=Paired λ(p:κ×V) (q:κ×Value)=>p.1=q.1/\RelV p.2 q.2
noncomputable def kV:Key->V
 | .inl i=>.int i
 | .inr x=>.str x
inductive HO where
 |lst (xs:List V)
 |tup (xs:List V)
 |dK (kvs:List (Key×V))|dT (kvs:List (List Key×V))
 |set (S:Int->Bool) (n:Nat)
 |ins (C dx:Addr) (fs:List (Str×V))
 |own (x:Addr)
 |xd (fs:List (Str×V))
 |met (f x:Addr)
 |rng (lo hi:Int)
 |frz (o:Obj) (u:HO)
 |tbl (ps:Array Value)
 |ext (φ:Heap->Prop)
noncomputable abbrev Hp:=Addr->Option HO
noncomputable def upd(H:Hp)(a:Addr)(o:HO):Hp:=λb=>if b=a then some o else H b
theorem qH{H:Hp}{a:Addr}{o:HO}:upd H a o a=some o:=by unfold upd;rw[if_pos rfl]
theorem qE{H:Hp}{a b:Addr}{o:HO}(h:b≠a):upd H a o b=H b:=by unfold upd;rw[if_neg h]
theorem qCw{H:Hp}{a b:Addr}{o u:HO}(h:H a=some o)(h':H b=some u)(d:o≠u):a≠b:=by
 intro e;subst e;rw[h]at h';exact d (Option.some.inj h')
theorem ne_of_none{H:Hp}{a b:Addr}{o:HO}(h:H a=some o)(h':H b=none):a≠b:=by
 intro e;subst e;rw[h]at h';cases h'
section
variable (P:Program)(w:World)
def ObjOk(H:Hp)(h:Heap)(a:Addr):HO->Prop
 | .lst xs=>xs.length<=sizeLine/\∃(its:List Value) (n:Nat),Vals xs its/\h.get? a=some { cls:=.type "list",data:=.seq its.toArray n }
 | .tup xs=>xs.length<=sizeLine/\∃its:List Value,Vals xs its/\IsTup h a its.toArray
 | .dK kvs=>kvs.length<=sizeLine/\(a==sysModules)=false/\∃vs,KV kvs vs/\h.DictOf (qt P w) a vs
 | .dT kvs=>kvs.length<=sizeLine/\(a==sysModules)=false/\∃xs:List (List Key×Addr×Value),
   Paired (λ(p:List Key×V) (q:List Key×Addr×Value)=>p.1=q.1/\H q.2.1=some (.tup (p.1.map kV))/\RelV p.2 q.2.2) kvs xs/\
   ∃o es ep,h.get? a=some o/\o.ExactDict/\o.data=.dict es ep/\es.toList=xs.map (entryOfKey (tupleKind (qt P w)))/\(xs.map (·.1)).Nodup
 | .set S n=>h.SetOf (intKind P w) a S n
 | .ins C dx fs=>H dx=some (.own a)/\fs.length<=1000/\dx≠a/\h.get? a=some (PySem.W.instObj C dx)/\
   ∃mA,h.Ns1 dx mA/\(∀f,RelO (fs.lookup f) (mA f))/\PySem.Within mA (fs.map (·.1))
 | .own _=>∃o,h.get? a=some o
 | .xd fs=>∃mA,h.Ns1 a mA/\∀f,RelO (fs.lookup f) (mA f)
 | .rng lo hi=>∃t u v,h.get? a=some { cls:=.type "range",data:=.fields #[.int lo t,.int hi u,.int 1 v] }
 | .frz o u=>h.get? a=some o/\ObjOk H h a u
 | .tbl ps=>h.get? a=some { cls:=.none,data:=.fields ps }
 | .met f x=>h.get? a=some (PySem.W.methodObj (.ref f) (.ref x))
 | .ext φ=>φ h/\(∃o,h.get? a=some o)/\∀h1 h2:Heap,φ h1->(∀o,h1.get? a=some o->h2.get? a=some o)->φ h2
def HOk(H:Hp)(h:Heap):Prop:=∀a o,H a=some o->ObjOk P w H h a o
end
section
variable{P:Program}{w:World}{H H':Hp}{h h':Heap}{a:Addr}{o:HO}
theorem ObjOk.lt(x:ObjOk P w H h a o):a<h.objs.size:=by
 cases o with
 |lst xs=>obtain⟨_,_,_,_,e⟩:=x;exact Heap.lt_size e
 |tup xs=>obtain⟨_,_,_,p⟩:=x;exact p.lt
 |dK kvs=>obtain⟨_,_,_,_,o,_,_,e,_⟩:=x;exact Heap.lt_size e
 |dT kvs=>obtain⟨_,_,_,_,o,_,_,e,_⟩:=x;exact Heap.lt_size e
 |set S n=>obtain⟨o,_,_,_,e,_⟩:=x;exact Heap.lt_size e
 |ins C dx fs=>obtain⟨_,_,_,e,_⟩:=x;exact Heap.lt_size e
 |own y=>obtain⟨_,e⟩:=x;exact Heap.lt_size e
 |xd fs=>obtain⟨_,⟨_,_,_,e,_⟩,_⟩:=x;exact Heap.lt_size e
 |rng lo hi=>obtain⟨_,_,_,e⟩:=x;exact Heap.lt_size e
 |frz ob u=>obtain⟨e,_⟩:=x;exact Heap.lt_size e
 |tbl ps=>exact Heap.lt_size (show h.get? a=some _ from x)
 |met f y=>exact Heap.lt_size (show h.get? a=some _ from x)
 |ext φ=>obtain⟨_,⟨_,e⟩,_⟩:=x;exact Heap.lt_size e
theorem Paired.mapP{α β:Type}{F G:α->β->Prop}:∀{l₁:List α}{l₂:List β},Paired F l₁ l₂->(∀a b,F a b->G a b)->Paired G l₁ l₂
 |_,_,.nil,_=>.nil
 |_,_,.cons r t,f=>.cons (f _ _ r) (Paired.mapP t f)
theorem ObjOk.stay(x:ObjOk P w H h a o)(k:∀b u,(b=a\/H b=some (.own a))->h.get? b=some u->h'.get? b=some u)
  (ho:∀b,H b=some (.own a)->H' b=some (.own a)) (ht:∀b xs,H b=some (.tup xs)->H' b=some (.tup xs)):ObjOk P w H' h' a o:=by
 induction o with
 |lst xs=>obtain⟨z,its,n,r,e⟩:=x;exact⟨z,its,n,r,k _ _ (.inl rfl) e⟩
 |tup xs=>obtain⟨z,its,r,ob,e,c⟩:=x;exact⟨z,its,r,ob,k _ _ (.inl rfl) e,c⟩
 |dK kvs=>obtain⟨z,y,vs,r,ob,es,ep,e,c⟩:=x;exact⟨z,y,vs,r,ob,es,ep,k _ _ (.inl rfl) e,c⟩
 |dT kvs=>
  obtain⟨z,y,xs,r,ob,es,ep,e,c⟩:=x;exact⟨z,y,xs,Paired.mapP r λp q z=>⟨z.1,ht _ _ z.2.1,z.2.2⟩,ob,es,ep,k _ _ (.inl rfl) e,c⟩
 |set S n=>obtain⟨ob,es,ep,t,e,c⟩:=x;exact⟨ob,es,ep,t,k _ _ (.inl rfl) e,c⟩
 |ins C dx fs=>
  obtain⟨d,z,ne,e,mA,⟨od,es,ep,e2,c⟩,r⟩:=x;exact⟨ho _ d,z,ne,k _ _ (.inl rfl) e,mA,⟨od,es,ep,k _ _ (.inr d) e2,c⟩,r⟩
 |own y=>obtain⟨ob,e⟩:=x;exact⟨ob,k _ _ (.inl rfl) e⟩
 |xd fs=>obtain⟨mA,⟨od,es,ep,e,c⟩,r⟩:=x;exact⟨mA,⟨od,es,ep,k _ _ (.inl rfl) e,c⟩,r⟩
 |rng lo hi=>obtain⟨t,u,v,e⟩:=x;exact⟨t,u,v,k _ _ (.inl rfl) e⟩
 |frz ob u ih=>obtain⟨e,q⟩:=x;exact⟨k _ _ (.inl rfl) e,ih q⟩
 |tbl ps=>
  have e:h.get? a=some { cls:=.none,data:=.fields ps }:=x;show h'.get? a=some { cls:=.none,data:=.fields ps };exact k a _ (.inl rfl) e
 |met f y=>
  have e:h.get? a=some (PySem.W.methodObj (.ref f) (.ref y)):=x;show h'.get? a=some (PySem.W.methodObj (.ref f) (.ref y));exact k a _ (.inl rfl) e
 |ext φ=>obtain⟨p,⟨o,e⟩,st⟩:=x;exact⟨st _ _ p λo q=>k _ _ (.inl rfl) q,⟨o,k _ _ (.inl rfl) e⟩,st⟩
theorem HOk.lt(x:HOk P w H h)(e:H a=some o):a<h.objs.size:=(x a o e).lt
theorem HOk.fresh(x:HOk P w H h)(e:h.objs.size<=a):H a=none:=by
 cases q:H a with
 |none=>rfl
 |some u=>exact absurd (wC (x.lt q) e) (Nat.lt_irrefl _)
theorem HOk.kept(x:HOk P w H h)(k:∀b u,h.get? b=some u->h'.get? b=some u):HOk P w H h':=λa o e=>
 (x a o e).stay (λb u _ q=>k b u q) (λ_ q=>q) λ_ _ q=>q
theorem HOk.laid(x:HOk P w H h)(k:∀b u,h.get? b=some u->h'.get? b=some u)(hp:h.objs.size<=a)(new:ObjOk P w (upd H a o) h' a o):HOk P w (upd H a o) h':=λb u e=>by
 have hn:=x.fresh hp;by_cases hb:b=a
 ·subst hb;rw[qH]at e;cases e;exact new
 ·rw[qE hb]at e;exact(x b u e).stay (λc v _ q=>k c v q) (λc q=>by rw[qE (ne_of_none q hn)];exact q) λc xs q=>by rw[qE (ne_of_none q hn)];exact q
end
def Rd(H:Hp)(a:Addr)(u:HO):Prop:=H a=some u\/∃o,H a=some (.frz o u)
theorem Rd.ok{P:Program}{w:World}{H:Hp}{h:Heap}{a:Addr}{u:HO}(r:Rd H a u)(x:HOk P w H h):ObjOk P w H h a u:=by
 rcases r with r|⟨o,r⟩
 ·exact x a u r
 ·obtain⟨_,q⟩:=x a _ r;exact q
def Mut:Option HO->Prop
 |some (.lst _)=>True
 |some (.dK _)=>True
 |some (.dT _)=>True
 |some (.set _ _)=>True
 |some (.ins _ _ _)=>True
 |some (.ext _)=>True
 |_=>False
section
variable{P:Program}{w:World}{H:Hp}{h h':Heap}{x e:Addr}{o':HO}
theorem HOk.write(ok:HOk P w H h)(mu:Mut (H x))(he:e=x\/H e=some (.own x))(k:∀b u,b≠e->h.get? b=some u->h'.get? b=some u)(heo:∃u,h'.get? e=some u)
  (new:ObjOk P w (upd H x o') h' x o'):HOk P w (upd H x o') h':=λb u q=>by
 have nown:∀c y,H c=some (.own y)->c≠x:=λc y r z=>by subst z;rw[r]at mu;exact mu
 have ntup:∀c xs,H c=some (.tup xs)->c≠x:=λc xs r z=>by subst z;rw[r]at mu;exact mu
 by_cases hb:b=x
 ·subst hb;rw[qH]at q;cases q;exact new
 ·rw[qE hb]at q;by_cases hbe:b=e
  ·have q':H b=some (.own x):=by
    rcases he with z|z
    ·exact absurd (hbe.trans z) hb
    ·rw[hbe];exact z
   rw[q]at q';cases q';obtain⟨v,hv⟩:=heo;exact⟨v,by rw[hbe];exact hv⟩
  ·refine(ok b u q).stay (λc v hc r=>k c v ?_ r) (λc r=>by rw[qE (nown c b r)];exact r) λc xs r=>by rw[qE (ntup c xs r)];exact r
   rcases hc with rfl|hc
   ·exact hbe
   ·rintro rfl;rcases he with z|z
    ·exact nown c b hc z
    ·rw[hc]at z;cases z;exact hb rfl
end
structure Un(fs ex:List Addr)(H H':Hp)(h h':Heap):Prop where
 keep:∀b o,h.get? b=some o->H b=none->b∉fs->b∉ex->h'.get? b=some o
 slot:∀b o,h.get? b=some o->H b=none->b∈fs->b∉ex->∃sl,h'.get? b=some { o with slots:=sl }
 free:∀b o,h.get? b=some o->H b=none->b∉ex->H' b=none
 there:∀b o,h.get? b=some o->b∉ex->∃o',h'.get? b=some o'
 tups:∀b xs,H b=some (.tup xs)->H' b=some (.tup xs)
 frzs:∀b o u,H b=some (.frz o u)->H' b=some (.frz o u)
 tbls:∀b ps,H b=some (.tbl ps)->∃more,H' b=some (.tbl (ps++more))
section
variable{fs fs' ex ex':List Addr}{H H1 H2:Hp}{h h1 h2 h':Heap}{a x e:Addr}{o:HO}
theorem Un.any(u:Un fs ex H H1 h h1){b:Addr}{ob:Obj}(q:h.get? b=some ob)(n:H b=none)(hx:b∉ex):∃sl,h1.get? b=some { ob with slots:=sl }:=by
 by_cases hb:b∈fs
 ·exact u.slot b ob q n hb hx
 ·exact⟨ob.slots,u.keep b ob q n hb hx⟩
theorem Un.kept(k:∀b u,h.get? b=some u->h'.get? b=some u):Un fs ex H H h h':=
 ⟨λb ob q _ _ _=>k b ob q,λb ob q _ _ _=>⟨ob.slots,k b ob q⟩,λ_ _ _ n _=>n,λb ob q _=>⟨ob,k b ob q⟩,λ_ _ q=>q,λ_ _ _ q=>q,λ_ ps q=>⟨#[],by rw[q];simp⟩⟩
theorem Un.refl:Un fs ex H H h h:=Un.kept λ_ _ q=>q
theorem Un.laid(k:∀b u,h.get? b=some u->h'.get? b=some u)(hp:h.objs.size<=a)(hn:H a=none):Un fs ex H (upd H a o) h h' where
 keep:=λb u q _ _ _=>k b u q
 slot:=λb u q _ _ _=>⟨u.slots,k b u q⟩
 free:=λb u q n _=>by rw[qE (wM (wC (Heap.lt_size q) hp))];exact n
 there:=λb u q _=>⟨u,k b u q⟩
 tups:=λb xs q=>by rw[qE (ne_of_none q hn)];exact q
 frzs:=λb u xs q=>by rw[qE (ne_of_none q hn)];exact q
 tbls:=λb ps q=>⟨#[],by rw[qE (ne_of_none q hn),q];simp⟩
theorem Un.write(mu:Mut (H x))(he:e=x\/H e=some (.own x))(k:∀b u,b≠e->h.get? b=some u->h'.get? b=some u)(heo:∃u,h'.get? e=some u):Un fs ex H (upd H x o) h h':=by
 have hx:∀b,H b=none->b≠x:=λb n z=>by subst z;rw[n]at mu;exact mu
 have hb:∀b,H b=none->b≠e:=λb n z=>by
  subst z;rcases he with r|r
  ·exact hx b n r
  ·rw[n]at r;cases r
 have hm:∀b u,H b=some u->¬ Mut (some u)->b≠x:=λb u q nm z=>by subst z;rw[q]at mu;exact nm mu
 refine⟨λb u q n _ _=>k b u (hb b n) q,λb u q n _ _=>⟨u.slots,k b u (hb b n) q⟩,λb u q n _=>by rw[qE (hx b n)];exact n,λb u q _=>?_,
  λb xs q=>by rw[qE (hm b _ q λz=>z)];exact q,λb u xs q=>by rw[qE (hm b _ q λz=>z)];exact q,λb ps q=>⟨#[],by rw[qE (hm b _ q λz=>z),q];simp⟩⟩
 by_cases hbe:b=e
 ·subst hbe;exact heo
 ·exact⟨u,k b u hbe q⟩
end
noncomputable def trk(h:Heap)(H:Hp):List Addr:=(List.range h.objs.size).filter λa=>(H a).isSome
noncomputable def Y3(h:Heap)(H:Hp):Heap:=PySem.W.hideAll h (trk h H)
theorem S3(h:Heap)(H:Hp):(Y3 h H).objs.size=h.objs.size:=PySem.W.hideAll_size _ _
theorem Y6{h:Heap}{H:Hp}{b:Addr}{o:Obj}(e:h.get? b=some o)(n:H b=none):(Y3 h H).get? b=some o:=
 PySem.W.hideAll_get _ e λhm=>by
  have q:(H b).isSome=true:=(wn.mp hm).2;rw[n]at q;simp at q
theorem qAR{h:Heap}{H:Hp}{b:Addr}{o:Obj}(e:(Y3 h H).get? b=some o):h.get? b=some o/\H b=none:=by
 have e':h.get? b=some o:=PySem.W.of_hideAll (trk h H) e;refine⟨e',?_⟩;cases q:H b with
 |none=>rfl
 |some x=>
  have hm:b∈trk h H:=wn.mpr ⟨wO.mpr (Heap.lt_size e'),by simp[q]⟩;have z:(Y3 h H).get? b=none:=PySem.W.hideAll_none (trk h H) hm;rw[z]at e;cases e
noncomputable def qAc(g h:Heap)(L:Addr):List (Addr×Obj):=(List.range h.objs.size).filterMap λa=>if a=L\/(g.get? a).isSome=true then none else (h.get? a).map λo=>(a,o)
noncomputable def QD(g h:Heap)(L d:Addr):List (Addr×Obj):=(qAc g h L).filter λp=>decide (p.1≠d)
structure Mod(K:PySem.W.Frag)(mg:Str->Option Value)(base:Heap):Prop where
 kin:K.In base
 glob:base.Ns mainGlobals mg
 blt:∃mb,base.Ns builtinsNs mb/\∀x:Str,x≠"__name__" -> mb x=bootBuiltins x
 nolimit:base.NoLimit
structure Cx where
 prog:Program
 w:World
 K:PySem.W.Frag
 mg:Str->Option Value
 base:Heap
 A:Around
 N:List Str
 s₀:Shared
 H₀:Hp
 env:Env
 outer:List Env
 stack:List Env
 ex:List Addr
 fn:Str->Bool
 calm:Bool
 pn:List (Addr×Obj)
 xe:Value->Shared->Prop
noncomputable def frs(l:List Env):List Addr:=l.filterMap (·.frame)
noncomputable abbrev Cx.fs(X:Cx):List Addr:=frs X.outer
def Vis(sc:Scope)(x:Str):Prop:=sc.names.lookup x=some .local\/sc.names.lookup x=some .cell\/sc.names.lookup x=some .free
def Loc(sc:Scope)(x:Str):Prop:=sc.names.lookup x=some .local\/sc.names.lookup x=some .cell
def qFA(env:Env)(h:Heap)(m:Str->Option Value)(x:Str)(u:Value):Prop:=
 (env.kindOf x=some .local/\m x=some u)\/((env.kindOf x=some .cell\/env.kindOf x=some .free)/\∃c,env.cells.lookup x=some c/\h.IsCell c (some u))
structure Cx.Ok(X:Cx):Prop where
 mod:Mod X.K X.mg X.base
 kind:X.env.scope.kind=.function
 glob:X.env.globals=mainGlobals
 blt:X.env.builtins=builtinsNs
 above:X.s₀.heap.objs.size<=X.env.locals
 inj:∀x y c,X.env.cells.lookup x=some c->X.env.cells.lookup y=some c->x=y
 has:∀x,(X.env.kindOf x=some .cell\/X.env.kindOf x=some .free)->∃c,X.env.cells.lookup x=some c
 cab:∀x c,X.fn x=true->X.env.cells.lookup x=some c->X.s₀.heap.objs.size<=c
 hd:X.calm=true->X.A.handled=none
 frames:X.A.frames=some X.stack
 stk:X.stack=X.outer\/(X.stack=X.env::X.outer/\X.env.frame=some X.env.locals)
 exf:∀b∈X.ex,b≠X.env.locals/\∀x c,X.env.cells.lookup x=some c->c≠b
 bs:∀b o,X.base.get? b=some o->X.s₀.heap.get? b=some o/\X.H₀ b=none
 bsz:X.base.objs.size<=X.s₀.heap.objs.size
 noex:∀b o,X.base.get? b=some o->b∉X.ex
 exfs:∀b∈X.ex,b∉X.fs
 funs:X.s₀.heap.FunFrames X.base X.outer
 frf:∀b∈X.fs,X.H₀ b=none
structure Inv(X:Cx)(pins:List (Addr×Obj))(σ:List (Option V))(H:Hp)(s:Shared):Prop where
 ok:X.Ok
 os:s.os=X.s₀.os
 bare:AllBare s.gens
 base:Un X.fs X.ex X.H₀ H X.s₀.heap s.heap
 loc:∃m,s.heap.Ns X.env.locals m/\∀(i:Nat) (x:Str) (v:V),X.N[i]?=some x->σ[i]?=some (some v)->Vis X.env.scope x->∃u,RelV v u/\qFA X.env s.heap m x u
 cell:∀x c,X.env.cells.lookup x=some c->∃v,s.heap.IsCell c v
 free:H X.env.locals=none
 freeC:∀x c,X.env.cells.lookup x=some c->H c=none
 pin:∀p∈X.pn++pins,s.heap.get? p.1=some p.2/\H p.1=none/\p.1≠X.env.locals/\p.1∉X.fs/\∀v,p.2.data≠.cell v
 hok:HOk X.prog X.w H s.heap
 len:σ.length=X.N.length
section
variable{X:Cx}{pins:List (Addr×Obj)}{σ:List (Option V)}{H H':Hp}{s:Shared}{h':Heap}
theorem Cx.Ok.nofr(ok:X.Ok){b:Addr}{o:Obj}(e:X.base.get? b=some o):b∉X.fs:=λhb=>by
 have:=(ok.funs.mem hb).1;rw[e]at this;cases this
theorem Inv.bs(I:Inv X pins σ H s):∀b o,X.base.get? b=some o->s.heap.get? b=some o/\H b=none:=λb o e=>
 ⟨I.base.keep b o (I.ok.bs b o e).1 (I.ok.bs b o e).2 (I.ok.nofr e) (I.ok.noex b o e),I.base.free b o (I.ok.bs b o e).1 (I.ok.bs b o e).2 (I.ok.noex b o e)⟩
theorem Inv.bk(I:Inv X pins σ H s):∀b o,X.base.get? b=some o->s.heap.get? b=some o:=λb o e=>(I.bs b o e).1
theorem Inv.mod(I:Inv X pins σ H s):Mod X.K X.mg X.base:=I.ok.mod
theorem Inv.kIn(I:Inv X pins σ H s):X.K.In s.heap:=I.ok.mod.kin.keeps I.bk
theorem Inv.lt(I:Inv X pins σ H s):X.env.locals<s.heap.objs.size:=let ⟨_,hn,_⟩:=I.loc;hn.lt
theorem Inv.sz(I:Inv X pins σ H s):X.s₀.heap.objs.size<=s.heap.objs.size:=Nat.le_trans I.ok.above (wm I.lt)
theorem Inv.nofs(I:Inv X pins σ H s){a:Addr}(h:s.heap.objs.size<=a):a∉X.fs:=λhb=>by
 obtain⟨_,o,ho,_⟩:=I.ok.funs.mem hb;exact absurd (wC (Heap.lt_size ho) (Nat.le_trans I.sz h)) (Nat.lt_irrefl _)
theorem Inv.cne(I:Inv X pins σ H s):∀x c,X.env.cells.lookup x=some c->c≠X.env.locals:=λx c e z=>by
 obtain⟨v,o,ho,hd⟩:=I.cell x c e;obtain⟨m,⟨o',es,ep,ho',hd',_⟩,_⟩:=I.loc;rw[z,ho']at ho;cases ho;rw[hd']at hd;cases hd
theorem Inv.funs(I:Inv X pins σ H s):s.heap.FunFrames X.base X.outer:=by
 have all:∀(l:List Env),(∀b∈frs l,b∈X.fs)->X.s₀.heap.FunFrames X.base l->s.heap.FunFrames X.base l:=by
  intro l
  induction l with
  |nil=>intro _ _;trivial
  |cons env r ih=>
   intro hs hl;obtain⟨hk,⟨L,o,hf,hn,ho,hd⟩,hr⟩:=hl;have hL:L∈X.fs:=hs L (by unfold frs;rw[List.filterMap_cons,hf];exact List.mem_cons_self);obtain⟨sl,e⟩:=I.base.slot L o ho (I.ok.frf L hL) hL λz=>I.ok.exfs L z hL;exact⟨hk,⟨L,_,hf,hn,e,hd⟩,ih (λb hb=>hs b (by unfold frs;rw[List.filterMap_cons,hf];exact List.mem_cons_of_mem _ hb)) hr⟩
 exact all X.outer (λ_ hb=>hb) I.ok.funs
theorem Inv.stack(I:Inv X pins σ H s):s.heap.FunFrames X.base X.stack:=by
 rcases I.ok.stk with e|⟨e,hf⟩
 ·rw[e];exact I.funs
 ·rw[e];obtain⟨m,hn,_⟩:=I.loc;refine .cons (by rw[I.ok.kind];decide) hf hn ?_ I.funs;exact Heap.get?_none_of_le (Nat.le_trans I.ok.bsz I.ok.above)
theorem Inv.stkSub(I:Inv X pins σ H s):∀b∈frs X.stack,b∈X.env.locals::X.fs:=λb hb=>by
 rcases I.ok.stk with e|⟨e,hf⟩
 ·rw[e]at hb;exact List.mem_cons_of_mem _ hb
 ·rw[e]at hb;unfold frs at hb;rw[List.filterMap_cons,hf]at hb;exact hb
theorem Inv.stkFree(I:Inv X pins σ H s):∀b∈frs X.stack,H b=none:=λb hb=>by
 rcases List.mem_cons.mp (I.stkSub b hb) with e|hb
 ·rw[e];exact I.free
 ·obtain⟨_,o,ho,_⟩:=I.ok.funs.mem hb;exact I.base.free b o ho (I.ok.frf b hb) λz=>I.ok.exfs b z hb
theorem Inv.step{g':Array GenState}{t':Nat}{d':Drawn}{ch:List Addr}(I:Inv X pins σ H s)
  (hch:∀b∈ch,(b∈X.ex\/X.s₀.heap.objs.size<=b)/\b≠X.env.locals/\(∀x c,X.env.cells.lookup x=some c->c≠b)/\∀p∈X.pn++pins,p.1≠b)
  (keep:∀b o,b≠X.env.locals->b∉X.fs->b∉ch->s.heap.get? b=some o->H b=none->h'.get? b=some o)
  (slot:∀b o,b≠X.env.locals->b∈X.fs->b∉ch->s.heap.get? b=some o->H b=none->∃sl,h'.get? b=some { o with slots:=sl }) (free:∀b o,b∉ch->s.heap.get? b=some o->H b=none->H' b=none)
  (there:∀b o,b∉ch->s.heap.get? b=some o->∃o',h'.get? b=some o')
  (tups:∀b xs,H b=some (.tup xs)->H' b=some (.tup xs)) (frzs:∀b o u,H b=some (.frz o u)->H' b=some (.frz o u)) (tbls:∀b ps,H b=some (.tbl ps)->∃more,H' b=some (.tbl (ps++more)))
  (ns:∀m,s.heap.Ns X.env.locals m->h'.Ns X.env.locals m) (hok:HOk X.prog X.w H' h') (hg:AllBare g'):
  Inv X pins σ H' { s with heap:=h',gens:=g',drawn:=d',toks:=t' }:=by
 have neL:∀b o,X.s₀.heap.get? b=some o->b≠X.env.locals:=λb o e=>wM (wC (Heap.lt_size e) I.ok.above);have neC:∀b o,X.s₀.heap.get? b=some o->b∉X.ex->b∉ch:=λb o e hx hb=>by
  rcases(hch b hb).1 with z|z
  ·exact hx z
  ·exact absurd (wC (Heap.lt_size e) z) (Nat.lt_irrefl _)
 have cellK:∀x c,X.env.cells.lookup x=some c->∀v,s.heap.IsCell c v->h'.IsCell c v:=λx c e v ⟨o,ho,hd⟩=>by
  have nch:c∉ch:=λz=>(hch c z).2.2.1 x c e rfl;by_cases hc:c∈X.fs
  ·obtain⟨sl,q⟩:=slot c o (I.cne x c e) hc nch ho (I.freeC x c e);exact⟨_,q,hd⟩
  ·exact⟨o,keep c o (I.cne x c e) hc nch ho (I.freeC x c e),hd⟩
 refine⟨I.ok,I.os,hg,⟨λb o e n hb hx=>?_,λb o e n hb hx=>?_,λb o e n hx=>?_,λb o e hx=>?_,λb xs e=>tups b xs (I.base.tups b xs e),λb o xs e=>frzs b o xs (I.base.frzs b o xs e),λb ps e=>?_⟩,?_,λx c e=>?_,?_,λx c e=>?_,λp hp=>?_,hok,I.len⟩
 ·exact keep b o (neL b o e) hb (neC b o e hx) (I.base.keep b o e n hb hx) (I.base.free b o e n hx)
 ·obtain⟨sl,e1⟩:=I.base.slot b o e n hb hx;obtain⟨sl',e2⟩:=slot b _ (neL b o e) hb (neC b o e hx) e1 (I.base.free b o e n hx);exact⟨sl',e2⟩
 ·obtain⟨o',e1⟩:=I.base.there b o e hx;exact free b o' (neC b o e hx) e1 (I.base.free b o e n hx)
 ·obtain⟨o',e1⟩:=I.base.there b o e hx;exact there b o' (neC b o e hx) e1
 ·obtain⟨m1,e1⟩:=I.base.tbls b ps e;obtain⟨m2,e2⟩:=tbls b _ e1;exact⟨m1++m2,by rw[e2,Array.append_assoc]⟩
 ·obtain⟨m,hn,hl⟩:=I.loc;refine⟨m,ns m hn,λi x v e1 e2 e3=>?_⟩;obtain⟨u,r,l⟩:=hl i x v e1 e2 e3;refine⟨u,r,?_⟩;rcases l with l|⟨k,c,e,z⟩
  ·exact .inl l
  ·exact .inr ⟨k,c,e,cellK x c e _ z⟩
 ·obtain⟨v,z⟩:=I.cell x c e;exact⟨v,cellK x c e v z⟩
 ·obtain⟨m,⟨o,_,_,ho,_⟩,_⟩:=I.loc;exact free _ o (λz=>(hch _ z).2.1 rfl) ho I.free
 ·obtain⟨v,o,ho,hd⟩:=I.cell x c e;exact free c o (λz=>(hch c z).2.2.1 x c e rfl) ho (I.freeC x c e)
 ·obtain⟨e,n,ne,nf,d⟩:=I.pin p hp;have nch:p.1∉ch:=λz=>(hch p.1 z).2.2.2 p hp rfl;exact⟨keep p.1 p.2 ne nf nch e n,free p.1 p.2 nch e n,ne,nf,d⟩
theorem Inv.un{t':Nat}(I:Inv X pins σ H s)(u:Un X.fs [] H H' s.heap h')(hok:HOk X.prog X.w H' h'):Inv X pins σ H' { s with heap:=h',toks:=t' }:=by
 obtain⟨m,⟨o,es,ep,ho,r⟩,_⟩:=id I.loc;obtain⟨sl,hL⟩:=u.any ho I.free (by simp);exact I.step (g':=s.gens) (d':=s.drawn) (ch:=[]) (λ_ z=>nomatch z) (λb o _ hb _ e n=>u.keep b o e n hb (by simp)) (λb o _ hb _ e n=>u.slot b o e n hb (by simp)) (λb o _ e n=>u.free b o e n (by simp)) (λb o _ e=>u.there b o e (by simp)) u.tups u.frzs u.tbls (λm' hm=>by
  obtain⟨o',es',ep',ho',r'⟩:=hm;rw[ho]at ho';cases ho';exact⟨_,es',ep',hL,r'⟩) hok I.bare
theorem Inv.call{g':Array GenState}{t':Nat}{d':Drawn}{ch:List Addr}(I:Inv X pins σ H s)(u:Un (frs X.stack) ch H H' s.heap h')(hok:HOk X.prog X.w H' h')(hg:AllBare g')
  (hch:∀b∈ch,(b∈X.ex\/X.s₀.heap.objs.size<=b)/\b≠X.env.locals/\(∀x c,X.env.cells.lookup x=some c->c≠b)/\∀p∈X.pn++pins,p.1≠b):
  Inv X pins σ H' { s with heap:=h',gens:=g',drawn:=d',toks:=t' }:=by
 obtain⟨m,⟨o,es,ep,ho,r⟩,_⟩:=id I.loc;obtain⟨sl,hL⟩:=u.any ho I.free λz=>(hch _ z).2.1 rfl;exact I.step (ch:=ch) hch (λb o hL hb hc e n=>u.keep b o e n (λz=>(List.mem_cons.mp (I.stkSub b z)).elim hL hb) hc) (λb o _ _ hc e n=>u.any e n hc) (λb o hc e n=>u.free b o e n hc) (λb o hc e=>u.there b o e hc) u.tups u.frzs u.tbls (λm' hm=>by
  obtain⟨o',es',ep',ho',r'⟩:=hm;rw[ho]at ho';cases ho';exact⟨_,es',ep',hL,r'⟩) hok hg
theorem Inv.turned{t':Nat}{it:Addr}(I:Inv X pins σ H s)(k:∀b o,b≠it->s.heap.get? b=some o->h'.get? b=some o)(hn:H it=none)(hL:it≠X.env.locals)
  (h1:it∈X.ex\/X.s₀.heap.objs.size<=it) (h2:∀x c,X.env.cells.lookup x=some c->c≠it) (h3:∀p∈X.pn++pins,p.1≠it):Inv X pins σ H { s with heap:=h',toks:=t' }:=by
 have nit:∀b u,H b=some u->b≠it:=λb u e z=>by rw[z,hn]at e;cases e
 refine I.step (g':=s.gens) (d':=s.drawn) (ch:=[it]) (λb hb=>?_) (λb o _ _ hc e _=>k b o (λz=>hc (by simp[z])) e) (λb o _ _ hc e _=>⟨o.slots,k b o (λz=>hc (by simp[z])) e⟩) (λ_ _ _ _ n=>n)
  (λb o hc e=>⟨o,k b o (λz=>hc (by simp[z])) e⟩) (λ_ _ e=>e) (λ_ _ _ e=>e) (λb ps e=>⟨#[],by rw[e];simp⟩) (λm hm=>?_) (λb u e=>?_) I.bare
 ·have e:b=it:=by simpa using hb
  subst e;exact⟨h1,hL,h2,h3⟩
 ·obtain⟨o,es,ep,ho,r⟩:=hm;exact⟨o,es,ep,k _ o (Ne.symm hL) ho,r⟩
 ·refine(I.hok b u e).stay (λc v hc q=>k c v ?_ q) (λ_ q=>q) λ_ _ q=>q;rcases hc with z|z
  ·rw[z];exact nit b u e
  ·exact nit c _ z
theorem Inv.tok(I:Inv X pins σ H s)(t:Nat):Inv X pins σ H { s with toks:=t }:=I.un (h':=s.heap) (t':=t) Un.refl I.hok
theorem Inv.kept{t':Nat}(I:Inv X pins σ H s)(k:∀b u,s.heap.get? b=some u->h'.get? b=some u):Inv X pins σ H { s with heap:=h',toks:=t' }:=I.un (Un.kept k) (I.hok.kept k)
theorem Inv.laid{a:Addr}{o:HO}{t':Nat}(I:Inv X pins σ H s)(k:∀b u,s.heap.get? b=some u->h'.get? b=some u)(hp:s.heap.objs.size<=a)(new:ObjOk X.prog X.w (upd H a o) h' a o):
  Inv X pins σ (upd H a o) { s with heap:=h',toks:=t' }:=I.un (Un.laid k hp (I.hok.fresh hp)) (I.hok.laid k hp new)
theorem Inv.write{x e:Addr}{o:HO}{t':Nat}(I:Inv X pins σ H s)(mu:Mut (H x))(he:e=x\/H e=some (.own x))(k:∀b u,b≠e->s.heap.get? b=some u->h'.get? b=some u)(heo:∃u,h'.get? e=some u)
  (new:ObjOk X.prog X.w (upd H x o) h' x o):Inv X pins σ (upd H x o) { s with heap:=h',toks:=t' }:=I.un (Un.write mu he k heo) (I.hok.write mu he k heo new)
theorem Inv.pins_of{pins':List (Addr×Obj)}(I:Inv X pins σ H s)(h:∀p∈pins',s.heap.get? p.1=some p.2/\H p.1=none/\p.1≠X.env.locals/\p.1∉X.fs/\∀v,p.2.data≠.cell v):Inv X pins' σ H s:=
 ⟨I.ok,I.os,I.bare,I.base,I.loc,I.cell,I.free,I.freeC,λp hp=>(wE.mp hp).elim (λz=>I.pin p (wF _ z)) (h p),I.hok,I.len⟩
theorem D8{N:List Str}(hN:N.Nodup){i j:Nat}{x:Str}(a:N[i]?=some x)(b:N[j]?=some x):i=j:=by
 obtain⟨h1,e1⟩:=List.getElem?_eq_some_iff.mp a;obtain⟨h2,e2⟩:=List.getElem?_eq_some_iff.mp b;exact(List.getElem_inj hN).mp (e1.trans e2.symm)
theorem Zy{M:Model}{A:Around}{E:Value->Shared->Prop}{i:Nat}{x:Str}{v:V}{u:Value}{Q:Unit->Shared->Prop}(I:Inv X pins σ H s)(hN:X.N.Nodup)(hi:X.N[i]?=some x)(hx:Loc X.env.scope x)(r:RelV v u)
  (h:∀s',Inv X pins (σ.set i (some v)) H s'->(∃a,Heap.SameBut a s.heap s'.heap/\(a=X.env.locals\/X.env.cells.lookup x=some a))->Q () s') (hf:X.fn x=true\/X.env.scope.names.lookup x=some .local:=by first|exact .inl rfl|exact .inr rfl|assumption):wpAny M A (storeName X.env x u) Q E s:=by
 obtain⟨m,hn,hl⟩:=id I.loc;have hcls:(X.env.scope.kind==.class||(X.env.scope.kind==.module&&X.env.locals != X.env.globals))=false:=by rw[I.ok.kind];rfl
 have hiσ:i<σ.length:=by rw[I.len];exact(List.getElem?_eq_some_iff.mp hi).1
 have cne:=I.cne;have tracked:∀{a:Addr}{h':Heap},(∃o,s.heap.get? a=some o/\H a=none)->Heap.SameBut a s.heap h'->HOk X.prog X.w H h':=λ{a h'} ha hs b ob e=>by
  obtain⟨_,_,hfree⟩:=ha;refine(I.hok b ob e).stay (λc w' hc q=>(hs.2 c ?_).trans q) (λ_ q=>q) λ_ _ q=>q;rintro rfl;rcases hc with rfl|hc
  ·rw[hfree]at e;cases e
  ·rw[hfree]at hc;cases hc
 rcases hx with hk|hk
 ·refine wpAny_storeName_local hk hn (λh' hn' hs=>?_) hcls;obtain⟨oL,_,_,hoL,_⟩:=id hn;refine h _ ⟨I.ok,I.os,I.bare,⟨λb o e n hb hx=>?_,λb o e n hb hx=>?_,I.base.free,λb o e hx=>?_,I.base.tups,I.base.frzs,I.base.tbls⟩,⟨_,hn',λj y v' e1 e2 e3=>?_⟩,λy c e=>?_,I.free,I.freeC,λp hp=>?_,tracked ⟨oL,hoL,I.free⟩ hs,by simpa using I.len⟩ ⟨_,hs,.inl rfl⟩
  ·exact(hs.2 b (wM (wC (Heap.lt_size e) I.ok.above))).trans (I.base.keep b o e n hb hx)
  ·obtain⟨sl,e1⟩:=I.base.slot b o e n hb hx;exact⟨sl,(hs.2 b (wM (wC (Heap.lt_size e) I.ok.above))).trans e1⟩
  ·obtain⟨o',e1⟩:=I.base.there b o e hx;exact⟨o',(hs.2 b (wM (wC (Heap.lt_size e) I.ok.above))).trans e1⟩
  ·by_cases hj:j=i
   ·subst hj;rw[hi]at e1;cases e1;rw[List.getElem?_set_self hiσ]at e2;cases e2;exact⟨u,r,.inl ⟨hk,by simp⟩⟩
   ·rw[List.getElem?_set_ne (Ne.symm hj)]at e2;obtain⟨u',r',q⟩:=hl j y v' e1 e2 e3;refine⟨u',r',?_⟩;rcases q with⟨k,e⟩|⟨k,c,e,z⟩
    ·refine .inl ⟨k,?_⟩;have:y≠x:=λe=>hj (D8 hN e1 (e ▸ hi));simp[this,e]
    ·exact .inr ⟨k,c,e,z.sameBut hs (cne y c e)⟩
  ·obtain⟨w',z⟩:=I.cell y c e;exact⟨w',z.sameBut hs (cne y c e)⟩
  ·obtain⟨e,n,ne,nf,d⟩:=I.pin p hp;exact⟨(hs.2 p.1 ne).trans e,n,ne,nf,d⟩
 ·have hfn:X.fn x=true:=by
   rcases hf with z|z
   ·exact z
   ·rw[z]at hk;cases hk
  obtain⟨c,hc⟩:=I.ok.has x (.inl hk);obtain⟨w',z⟩:=I.cell x c hc;refine wpAny_storeName_cell I.ok.kind hk hc z (λh' hc' hs=>?_);obtain⟨oc,hoc,hocd⟩:=id z;refine h { s with heap:=h' } ⟨I.ok,I.os,I.bare,⟨λb o e n hb hx=>?_,λb o e n hb hx=>?_,I.base.free,λb o e hx=>?_,I.base.tups,I.base.frzs,I.base.tbls⟩,⟨m,hn.sameBut hs (Ne.symm (cne x c hc)),λj y v' e1 e2 e3=>?_⟩,λy c' e=>?_,I.free,I.freeC,λp hp=>?_,tracked ⟨oc,hoc,I.freeC x c hc⟩ hs,by simpa using I.len⟩ ⟨c,hs,.inr hc⟩
  ·exact(hs.2 b (wM (wC (Heap.lt_size e) (I.ok.cab x c hfn hc)))).trans (I.base.keep b o e n hb hx)
  ·obtain⟨sl,e1⟩:=I.base.slot b o e n hb hx;exact⟨sl,(hs.2 b (wM (wC (Heap.lt_size e) (I.ok.cab x c hfn hc)))).trans e1⟩
  ·obtain⟨o',e1⟩:=I.base.there b o e hx;exact⟨o',(hs.2 b (wM (wC (Heap.lt_size e) (I.ok.cab x c hfn hc)))).trans e1⟩
  ·by_cases hj:j=i
   ·subst hj;rw[hi]at e1;cases e1;rw[List.getElem?_set_self hiσ]at e2;cases e2;exact⟨u,r,.inr ⟨.inl hk,c,hc,hc'⟩⟩
   ·rw[List.getElem?_set_ne (Ne.symm hj)]at e2;obtain⟨u',r',q⟩:=hl j y v' e1 e2 e3;refine⟨u',r',?_⟩;rcases q with q|⟨k,c',e,z'⟩
    ·exact .inl q
    ·refine .inr ⟨k,c',e,z'.sameBut hs ?_⟩;rintro rfl;exact hj (D8 hN e1 (I.ok.inj _ _ _ e hc ▸ hi))
  ·by_cases hcc:c'=c
   ·subst hcc;exact⟨_,hc'⟩
   ·obtain⟨w2,z2⟩:=I.cell y c' e;exact⟨w2,z2.sameBut hs hcc⟩
  ·obtain⟨e,n,ne,nf,d⟩:=I.pin p hp;refine⟨(hs.2 p.1 ?_).trans e,n,ne,nf,d⟩;intro q;rw[q,hoc]at e;have q':oc=p.2:=Option.some.inj e;exact d w' (by rw[<-q'];exact hocd)
theorem jc{M:Model}{A:Around}{E:Value->Shared->Prop}{i:Nat}{x:Str}{v:V}{u:Value}{Q:Unit->Shared->Prop}(I:Inv X pins σ H s)(hN:X.N.Nodup)(hi:X.N[i]?=some x)(hx:Loc X.env.scope x)(r:RelV v u)
  (h:∀s',Inv X pins (σ.set i (some v)) H s'->Q () s') (hf:X.fn x=true\/X.env.scope.names.lookup x=some .local:=by first|exact .inl rfl|exact .inr rfl|assumption):wpAny M A (storeName X.env x u) Q E s:=
 Zy I hN hi hx r (λs' I' _=>h s' I') hf
theorem Inv.call'{s':Shared}{ch:List Addr}(I:Inv X pins σ H s)(ho:s'.os=s.os)(u:Un (frs X.stack) ch H H' s.heap s'.heap)(hok:HOk X.prog X.w H' s'.heap)(hg:AllBare s'.gens)
  (hch:∀b∈ch,(b∈X.ex\/X.s₀.heap.objs.size<=b)/\b≠X.env.locals/\(∀x c,X.env.cells.lookup x=some c->c≠b)/\∀p∈X.pn++pins,p.1≠b):Inv X pins σ H' s':=by
 obtain⟨h',g',d',t',o'⟩:=s';have e:o'=s.os:=ho;subst e;exact I.call (g':=g') (t':=t') (d':=d') u hok hg hch
end
noncomputable abbrev XK:=Value->Option Addr->Hp->Prop
noncomputable abbrev St:=List (Option V)
noncomputable abbrev VK:=V->Hp->Prop
noncomputable abbrev TE:=St->Hp->VK->Prop
noncomputable abbrev TT:=St->Hp->(Bool->Hp->Prop)->Prop
noncomputable abbrev TA:=St->Hp->(List V->Hp->Prop)->Prop
structure L3 where
 nx:St->Hp->Prop
 rt:VK
 bk:St->Hp->Prop:=λ_ _=>False
 ct:St->Hp->Prop:=λ_ _=>False
noncomputable abbrev TS:=L3->St->Hp->Prop
def EP(X:Cx)(pins:List (Addr×Obj))(σ:St)(Q:VK)(u:Value)(s':Shared):Prop:=∃v H',Inv X pins σ H' s'/\RelV v u/\Q v H'
def TP(X:Cx)(pins:List (Addr×Obj))(σ:St)(Q:Bool->Hp->Prop)(b:Bool)(s':Shared):Prop:=∃H',Inv X pins σ H' s'/\Q b H'
def AP(X:Cx)(pins:List (Addr×Obj))(σ:St)(Q:List V->Hp->Prop)(us:List Value)(s':Shared):Prop:=∃vs H',Inv X pins σ H' s'/\Vals vs us/\Q vs H'
def SP(X:Cx)(pins:List (Addr×Obj))(D:L3)(f:Flow)(s':Shared):Prop:=
 match f with
 | .next=>∃σ' H',Inv X pins σ' H' s'/\D.nx σ' H'
 | .brk=>∃σ' H',Inv X pins σ' H' s'/\D.bk σ' H'
 | .cont=>∃σ' H',Inv X pins σ' H' s'/\D.ct σ' H'
 | .ret u=>∃v σ' H',Inv X pins σ' H' s'/\RelV v u/\D.rt v H'
def PE(X:Cx)(e:Expr)(t:TE):Prop:=
 ∀(pins:List (Addr×Obj)) (s:Shared) (σ:St) (H:Hp) (Q:VK),Inv X pins σ H s->t σ H Q->wpAny (model X.prog X.w) X.A (eval e X.env) (EP X pins σ Q) X.xe s
def PT(X:Cx)(e:Expr)(t:TT):Prop:=
 ∀(pins:List (Addr×Obj)) (s:Shared) (σ:St) (H:Hp) (Q:Bool->Hp->Prop),Inv X pins σ H s->t σ H Q->wpAny (model X.prog X.w) X.A (isTrue e X.env (eval e X.env)) (TP X pins σ Q) X.xe s
def PW(X:Cx)(e:Expr)(t:TT):Prop:=
 ∀(Zh:Sem Value) (pins:List (Addr×Obj)) (s:Shared) (σ:St) (H:Hp) (Q:Bool->Hp->Prop),Inv X pins σ H s->t σ H Q->wpAny (model X.prog X.w) X.A (isTrue e X.env Zh) (TP X pins σ Q) X.xe s
theorem PW.pt{X:Cx}{e:Expr}{t:TT}(h:PW X e t):PT X e t:=h _
def PA(X:Cx)(es:List Expr)(t:TA):Prop:=
 ∀(pos:Pos) (pins:List (Addr×Obj)) (s:Shared) (σ:St) (H:Hp) (Q:List V->Hp->Prop),Inv X pins σ H s->t σ H Q->wpAny (model X.prog X.w) X.A (spliced (backTo pos (starEach es X.env))) (AP X pins σ Q) X.xe s
def PS(X:Cx)(st:Stmt)(t:TS):Prop:=
 ∀(pins:List (Addr×Obj)) (s:Shared) (σ:St) (H:Hp) (D:L3),Inv X pins σ H s->t D σ H->wpAny (model X.prog X.w) X.A (exec st X.env) (SP X pins D) X.xe s
def PSs(X:Cx)(st:List Stmt)(t:TS):Prop:=
 ∀(pins:List (Addr×Obj)) (s:Shared) (σ:St) (H:Hp) (D:L3),Inv X pins σ H s->t D σ H->wpAny (model X.prog X.w) X.A (execs st X.env) (SP X pins D) X.xe s
theorem thn{α:Type}{t:Sem α}{Q Q':α->Shared->Prop}{M:Model}{A:Around}{E:Value->Shared->Prop}{s:Shared}(h:wpAny M A t Q E s)(hQ:∀a s,Q a s->Q' a s):wpAny M A t Q' E s:=wpAny_mono h hQ λ_ _ x=>x
section
variable{X:Cx}
theorem bin{a b:Expr}{ta tb:TE}(ha:PE X a ta)(hb:PE X b tb){pins:List (Addr×Obj)}{s:Shared}{σ:St}{H:Hp}{R:V->V->Hp->Prop}(I:Inv X pins σ H s)(h:ta σ H λx H1=>tb σ H1 λy H2=>R x y H2)
  {α:Type}{Q:α->Shared->Prop}{f:Value->Value->Sem α}
  (hf:∀v u s2 x y H2,Inv X pins σ H2 s2->RelV x v->RelV y u->R x y H2->wpAny (model X.prog X.w) X.A (f v u) Q X.xe s2):
  wpAny (model X.prog X.w) X.A (eval a X.env) (λv s₁=>wpAny (model X.prog X.w) X.A (eval b X.env) (λu s₂=>wpAny (model X.prog X.w) X.A (f v u) Q X.xe s₂) X.xe s₁) X.xe s:=by
 refine thn (ha pins s σ H _ I h) λv s1 ⟨x,H1,I1,r1,q1⟩=>?_;refine thn (hb pins s1 σ H1 _ I1 q1) λu s2 ⟨y,H2,I2,r2,q2⟩=>?_;exact hf v u s2 x y H2 I2 r1 r2 q2
noncomputable def qFJ(i:Nat):TE:=λσ H Q=>∃v,σ[i]?=some (some v)/\Q v H
noncomputable def tC(v:V):TE:=λ_ H Q=>Q v H
theorem pe_var{i:Nat}{x:Str}{pos:Pos}(hN:X.N[i]?=some x)(hv:Vis X.env.scope x)(hd:(x==("__debug__":Str))=false:=by decide)(hcd:(x==("__classdict__":Str))=false:=by decide):PE X (.Name x pos) (qFJ i):=by
 intro pins s σ H Q I h;obtain⟨v,e,h⟩:=h;obtain⟨m,hn,hl⟩:=I.loc;obtain⟨u,r,l⟩:=hl i x v hN e hv;have fin:EP X pins σ Q u s:=⟨v,H,I,r,h⟩
 rcases l with⟨hk,hm⟩|⟨hk,c,hc,hcell⟩
 ·exact wpAny_Name (wpAny_loadName_local I.ok.kind hk hn hm fin) hd
 ·rcases hk with hk|hk
  ·exact wpAny_Name (wpAny_loadName_cell I.ok.kind hk hc hcell fin) hd
  ·exact wpAny_Name (wpAny_loadName_free I.ok.kind hk hc hcell fin hcd) hd
theorem pe_int {i j pos}:PE X (.Constant (.int i) j pos) (tC (.int i)):=λ_ _ _ H _ I h=>wpAny_Constant_int ⟨.int i,H,I.tok _,⟨_,rfl⟩,h⟩
theorem pe_bl {b j pos}:PE X (.Constant (.bool b) j pos) (tC (.bl b)):=λ_ _ _ H _ I h=>Constant_bool ⟨.bl b,H,I,rfl,h⟩
theorem pe_non {j pos}:PE X (.Constant .none j pos) (tC .non):=λ_ _ _ H _ I h=>Constant_none ⟨.non,H,I,rfl,h⟩
theorem pe_str {x j pos}:PE X (.Constant (.str x) j pos) (tC (.str x)):=λ_ _ _ H _ I h=>Calls.Constant_str ⟨.str x,H,I.tok _,⟨_,rfl⟩,h⟩
def Gl(X:Cx)(x:Str):Prop:=X.env.kindOf x=some .globalImplicit
theorem Jw{E:Value->Shared->Prop}{pins:List (Addr×Obj)}{s:Shared}{σ:St}{H:Hp}{x:Str}{u:Value}{pos:Pos}{Q:Value->Shared->Prop}(I:Inv X pins σ H s)(hg:Gl X x)(hm:X.mg x=some u)(h:Q u s)
  (hd:(x==("__debug__":Str))=false:=by decide):wpAny (model X.prog X.w) X.A (eval (.Name x pos) X.env) Q E s:=
 Calls.Name_function_global I.ok.kind hg (Calls.loadGlobal_global (by rw[I.ok.glob];exact I.mod.glob.keeps I.bk) hm h) hd
theorem ld_blt{E:Value->Shared->Prop}{pins:List (Addr×Obj)}{s:Shared}{σ:St}{H:Hp}{x:Str}{u:Value}{pos:Pos}{Q:Value->Shared->Prop}(I:Inv X pins σ H s)(hg:Gl X x)(hm:X.mg x=none)(hv:bootBuiltins x=some u)(h:Q u s)
  (hn:x≠"__name__":=by decide) (hd:(x==("__debug__":Str))=false:=by decide):wpAny (model X.prog X.w) X.A (eval (.Name x pos) X.env) Q E s:=by
 obtain⟨mb,h1,h2⟩:=I.mod.blt;exact Calls.Name_function_global I.ok.kind hg (Calls.loadGlobal_builtin (by rw[I.ok.glob];exact I.mod.glob.keeps I.bk) hm (by rw[I.ok.blt];exact h1.keeps I.bk) ((h2 x hn).trans hv) h) hd
theorem pe_glob{x:Str}{v:V}{u:Value}{pos:Pos}(hg:Gl X x)(hm:X.mg x=some u)(r:RelV v u)(hd:(x==("__debug__":Str))=false:=by decide):PE X (.Name x pos) (tC v):=
 λ_ _ _ H _ I h=>Jw I hg hm ⟨v,H,I,r,h⟩ hd
theorem pe_bltn{x:Str}{v:V}{u:Value}{pos:Pos}(hg:Gl X x)(hm:X.mg x=none)(hv:bootBuiltins x=some u)(r:RelV v u)(hn:x≠"__name__":=by decide)(hd:(x==("__debug__":Str))=false:=by decide):PE X (.Name x pos) (tC v):=
 λ_ _ _ H _ I h=>ld_blt I hg hm hv ⟨v,H,I,r,h⟩ hn hd
variable{a b:Expr}{ta tb:TE}{pos:Pos}
def PC(X:Cx)(op:CmpOp)(a b:Expr)(t:TE):Prop:=
 ∀(pins:List (Addr×Obj)) (s:Shared) (σ:St) (H:Hp) (Q:VK),Inv X pins σ H s->t σ H Q ->
  wpAny (model X.prog X.w) X.A (eval a X.env) (λv s₁=>wpAny (model X.prog X.w) X.A (eval b X.env) (λu s₂=>wpAny (model X.prog X.w) X.A (compareOp op v u) (EP X pins σ Q) X.xe s₂) X.xe s₁) X.xe s
noncomputable def tB(t:TE):TT:=λσ H Q=>t σ H λx H1=>∃c,x=.bl c/\Q c H1
theorem C9{op:CmpOp}{t:TE}(h:PC X op a b t)(h1:behindInMarks op b=false:=by first|exact nobehind _ (by decide) (by decide)|rfl):PE X (.Compare a [op] [b] pos) t:=λpins s σ H Q I hw=>wpAny_Compare1 (h pins s σ H Q I hw) h1
theorem pt_val{e:Expr}{t:TE}(h:PE X e t)(he:∀Zh,isTrue e X.env Zh=(do let v <- Zh;standAt e.pos;holding [v] (truthy v)):=by intro _;rfl):PT X e (tB t):=by
 intro pins s σ H Q I hw;refine isTrue_plain (thn (h pins s σ H _ I hw) λv s1 ⟨x,H1,I1,r1,q1⟩=>?_) (he _);obtain⟨d,rfl,q⟩:=q1;cases r1;exact vQ ⟨H1,I1,q⟩
variable{tA tB':TT}{QD:List Expr}
noncomputable def tAnd(t u:TT):TT:=λσ H Q=>t σ H λc H1=>if c=true then u σ H1 Q else Q false H1
noncomputable def tOr(t u:TT):TT:=λσ H Q=>t σ H λc H1=>if c=true then Q true H1 else u σ H1 Q
noncomputable def qE1(t:TT):TT:=λσ H Q=>t σ H λc H1=>Q (!c) H1
theorem pw_and1(ha:PT X a tA):PW X (.BoolOp .And [a] pos) tA:=by
 intro wh pins s σ H Q I h;refine isTrue_and (thn (ha pins s σ H Q I h) λc s1 e=>?_);cases c with
 |true=>exact isTrue_and_nil e
 |false=>exact e
theorem pw_or1(ha:PT X a tA):PW X (.BoolOp .Or [a] pos) tA:=by
 intro wh pins s σ H Q I h;refine isTrue_or (thn (ha pins s σ H Q I h) λc s1 e=>?_);cases c with
 |false=>exact isTrue_or_nil e
 |true=>exact e
theorem pw_and(ha:PT X a tA)(hb:PW X (.BoolOp .And (b::QD) pos) tB'):PW X (.BoolOp .And (a::b::QD) pos) (tAnd tA tB'):=by
 intro wh pins s σ H Q I h;refine isTrue_and (thn (ha pins s σ H _ I h) λc s1 ⟨H1,I1,q1⟩=>?_);cases c with
 |true=>exact hb wh pins s1 σ H1 Q I1 q1
 |false=>exact⟨H1,I1,q1⟩
theorem pw_or(ha:PT X a tA)(hb:PW X (.BoolOp .Or (b::QD) pos) tB'):PW X (.BoolOp .Or (a::b::QD) pos) (tOr tA tB'):=by
 intro wh pins s σ H Q I h;refine isTrue_or (thn (ha pins s σ H _ I h) λc s1 ⟨H1,I1,q1⟩=>?_);cases c with
 |true=>exact⟨H1,I1,q1⟩
 |false=>exact hb wh pins s1 σ H1 Q I1 q1
theorem pt_not(ha:PT X a tA):PT X (.UnaryOp .Not a pos) (qE1 tA):=by
 intro pins s σ H Q I h;exact isTrue_not (ha pins s σ H (λc H1=>Q (!c) H1) I h)
noncomputable def tAndV(ta tb:TE):TE:=λσ H Q=>ta σ H λx H1=>∃c,x=.bl c/\if c=true then tb σ H1 Q else Q (.bl false) H1
noncomputable def tOrV(ta tb:TE):TE:=λσ H Q=>ta σ H λx H1=>∃c,x=.bl c/\if c=true then Q (.bl true) H1 else tb σ H1 Q
noncomputable def qDO(ta:TE):TE:=λσ H Q=>ta σ H λx H1=>∃c,x=.bl c/\Q (.bl (!c)) H1
theorem pe_one {op}{t:TE}(h:PE X a t):PE X (.BoolOp op [a] pos) t:=λpins s σ H Q I hw=>BoolOp_one (h pins s σ H Q I hw)
theorem pe_and(ha:PE X a ta)(hb:PE X (.BoolOp .And (b::QD) pos) tb):PE X (.BoolOp .And (a::b::QD) pos) (tAndV ta tb):=by
 intro pins s σ H Q I h;refine BoolOp_and (thn (ha pins s σ H _ I h) λv s1 ⟨x,H1,I1,r1,q1⟩=>?_);obtain⟨c,rfl,q1⟩:=q1;cases r1;refine vQ ?_;cases c with
 |true=>exact hb pins s1 σ H1 Q I1 q1
 |false=>exact⟨.bl false,H1,I1,rfl,q1⟩
theorem pe_or(ha:PE X a ta)(hb:PE X (.BoolOp .Or (b::QD) pos) tb):PE X (.BoolOp .Or (a::b::QD) pos) (tOrV ta tb):=by
 intro pins s σ H Q I h;refine BoolOp_or (thn (ha pins s σ H _ I h) λv s1 ⟨x,H1,I1,r1,q1⟩=>?_);obtain⟨c,rfl,q1⟩:=q1;cases r1;refine vQ ?_;cases c with
 |false=>exact hb pins s1 σ H1 Q I1 q1
 |true=>exact⟨.bl true,H1,I1,rfl,q1⟩
theorem pe_not(ha:PE X a ta):PE X (.UnaryOp .Not a pos) (qDO ta):=by
 intro pins s σ H Q I h;refine UnaryOp_ (thn (ha pins s σ H _ I h) λv s1 ⟨x,H1,I1,r1,q1⟩=>?_);obtain⟨c,rfl,q1⟩:=q1;cases r1;exact not_of (vQ ⟨.bl (!c),H1,I1,rfl,q1⟩)
noncomputable def tIf(t:TT)(ta tb:TE):TE:=λσ H Q=>t σ H λc H1=>if c=true then ta σ H1 Q else tb σ H1 Q
theorem pe_ifExp{c:Expr}(hc:PT X c tA)(ha:PE X a ta)(hb:PE X b tb):PE X (.IfExp c a b pos) (tIf tA ta tb):=by
 intro pins s σ H Q I h;refine wpAny_IfExp (thn (hc pins s σ H _ I h) λd s1 ⟨H1,I1,q1⟩=>?_);cases d with
 |true=>exact ha pins s1 σ H1 Q I1 q1
 |false=>exact hb pins s1 σ H1 Q I1 q1
end
def SqL(K:PySem.W.Frag)(H:Hp)(a:Addr)(xs:List V):Prop:=
 Rd H a (.lst xs)\/
  ∃(o:Obj) (its:Array Value) (n:Nat),K.lookup a=some o/\o.cls=.type "list"/\o.dict=none/\o.data=.seq its n/\its.size<=sizeLine/\Vals xs its.toList
def SqT(K:PySem.W.Frag)(H:Hp)(a:Addr)(xs:List V):Prop:=
 Rd H a (.tup xs)\/
  ∃(o:Obj) (its:Array Value) (n:Nat),K.lookup a=some o/\o.cls=.type "tuple"/\o.data=.seq its n/\its.size<=sizeLine/\Vals xs its.toList
noncomputable def qEZ:Value->Option V
 | .none=>some .non
 | .bool b=>some (.bl b)
 | .int i _=>some (.int i)
 | .str x _=>some (.str x)
 | .bytes b _=>some (.byt b)
 | .float b _=>some (.flt b)
 | .ref a=>some (.ref a)
 | .type n=>some (.ty n)
 |_=>none
theorem RelV.abs{x:V}{u:Value}(r:RelV x u):qEZ u=some x:=by
 cases x with
 |non=>cases r;rfl
 |bl _=>cases r;rfl
 |int _=>obtain⟨t,rfl⟩:=r;rfl
 |str _=>obtain⟨t,rfl⟩:=r;rfl
 |byt _=>obtain⟨t,rfl⟩:=r;rfl
 |flt _=>obtain⟨t,rfl⟩:=r;rfl
 |ref _=>cases r;rfl
 |ty _=>cases r;rfl
theorem RelV.inj{x y:V}{u:Value}(r:RelV x u)(q:RelV y u):x=y:=Option.some.inj (r.abs.symm.trans q.abs)
theorem Vals.inj:∀{xs ys:List V}{us:List Value},Vals xs us->Vals ys us->xs=ys
 |_,_,_,.nil,.nil=>rfl
 |_,_,_,.cons r t,.cons r' t'=>by rw[r.inj r',Vals.inj t t']
section
variable{X:Cx}{pins:List (Addr×Obj)}{σ:St}{H:Hp}{s:Shared}{a:Addr}{xs ys:List V}
theorem Inv.list(I:Inv X pins σ H s)(h:SqL X.K H a xs):∃its:List Value,Vals xs its/\PlainL s.heap a its.toArray/\xs.length<=sizeLine:=by
 rcases h with h|⟨o,its,n,hk,hc,hd,hs,hz,r⟩
 ·obtain⟨z,its,n,r,e⟩:=h.ok I.hok;exact⟨its,r,⟨_,n,e,rfl,rfl,rfl⟩,z⟩
 ·refine⟨its.toList,r,⟨o,n,I.kIn a o hk,hc,hd,by simpa using hs⟩,?_⟩;have e:=r.length;simp only[Array.length_toList]at e;omega
theorem Inv.tuple(I:Inv X pins σ H s)(h:SqT X.K H a xs):∃its:List Value,Vals xs its/\IsTup s.heap a its.toArray/\xs.length<=sizeLine:=by
 rcases h with h|⟨o,its,n,hk,hc,hs,hz,r⟩
 ·obtain⟨z,its,r,p⟩:=h.ok I.hok;exact⟨its,r,p,z⟩
 ·refine⟨its.toList,r,⟨o,I.kIn a o hk,hc,n,by simpa using hs⟩,?_⟩;have e:=r.length;simp only[Array.length_toList]at e;omega
theorem Inv.list_inj(I:Inv X pins σ H s)(h:SqL X.K H a xs)(h':SqL X.K H a ys):xs=ys:=by
 obtain⟨its,r,⟨o,n,e,_,_,d⟩,_⟩:=I.list h;obtain⟨its',r',⟨o',n',e',_,_,d'⟩,_⟩:=I.list h';rw[e]at e';cases e';rw[d]at d';injection d' with d1 _;have:its=its':=by simpa using congrArg Array.toList d1
 subst this;exact r.inj r'
theorem Inv.tuple_inj(I:Inv X pins σ H s)(h:SqT X.K H a xs)(h':SqT X.K H a ys):xs=ys:=by
 obtain⟨its,r,⟨o,e,_,n,d⟩,_⟩:=I.tuple h;obtain⟨its',r',⟨o',e',_,n',d'⟩,_⟩:=I.tuple h';rw[e]at e';cases e';rw[d]at d';injection d' with d1 _;have:its=its':=by simpa using congrArg Array.toList d1
 subst this;exact r.inj r'
end
noncomputable abbrev Cx.wish(X:Cx)(E:Value->Shared->Prop):Cx:={ X with xe:=E }
noncomputable abbrev Cx.nox(X:Cx):Cx:=X.wish λ_ _=>False
theorem Cx.Ok.wish{X:Cx}(ok:X.Ok)(E:Value->Shared->Prop):(X.wish E).Ok:=
 ⟨ok.mod,ok.kind,ok.glob,ok.blt,ok.above,ok.inj,ok.has,ok.cab,ok.hd,ok.frames,ok.stk,ok.exf,ok.bs,ok.bsz,ok.noex,ok.exfs,ok.funs,ok.frf⟩
theorem Cx.Ok.unwish{X:Cx}{E:Value->Shared->Prop}(ok:(X.wish E).Ok):X.Ok:=
 ⟨ok.mod,ok.kind,ok.glob,ok.blt,ok.above,ok.inj,ok.has,ok.cab,ok.hd,ok.frames,ok.stk,ok.exf,ok.bs,ok.bsz,ok.noex,ok.exfs,ok.funs,ok.frf⟩
section
variable{X:Cx}{pins:List (Addr×Obj)}{σ:St}{H:Hp}{s:Shared}{E:Value->Shared->Prop}
theorem Inv.wish(I:Inv X pins σ H s)(E:Value->Shared->Prop):Inv (X.wish E) pins σ H s:=⟨I.ok.wish E,I.os,I.bare,I.base,I.loc,I.cell,I.free,I.freeC,I.pin,I.hok,I.len⟩
theorem Inv.unwish(I:Inv (X.wish E) pins σ H s):Inv X pins σ H s:=⟨I.ok.unwish,I.os,I.bare,I.base,I.loc,I.cell,I.free,I.freeC,I.pin,I.hok,I.len⟩
theorem SP.unwish{D:L3}{f:Flow}{s':Shared}(h:SP (X.wish E) pins D f s'):SP X pins D f s':=by
 cases f with
 |next=>obtain⟨σ',H',I,q⟩:=h;exact⟨σ',H',I.unwish,q⟩
 |brk=>obtain⟨σ',H',I,q⟩:=h;exact⟨σ',H',I.unwish,q⟩
 |cont=>obtain⟨σ',H',I,q⟩:=h;exact⟨σ',H',I.unwish,q⟩
 |ret u=>obtain⟨v,σ',H',I,r,q⟩:=h;exact⟨v,σ',H',I.unwish,r,q⟩
theorem PSs.nox{st:List Stmt}{t:TS}(h:PSs X.nox st t):PSs X st t:=λpins s σ H D I hw=>
 wpAny_mono (h pins s σ H D (I.wish _) hw) (λ_ _ q=>q.unwish) λ_ _ z=>False.elim z
end
section
variable{X:Cx}{st:Stmt}{QD:List Stmt}{t u:TS}{e:Expr}{te:TE}{pos:Pos}
noncomputable def qCd:TS:=λD σ H=>D.nx σ H
noncomputable def qEe(t u:TS):TS:=λD σ H=>t { D with nx:=u D } σ H
theorem pss_nil:PSs X [] qCd:=λ_ _ σ H _ I h=>wpAny_execs_nil ⟨σ,H,I,h⟩
theorem pss_cons(h1:PS X st t)(h2:PSs X QD u):PSs X (st::QD) (qEe t u):=by
 intro pins s σ H D I h;refine wpAny_execs_cons (thn (h1 pins s σ H { D with nx:=u D } I h) λf s1 q=>?_);cases f with
 |next=>
  obtain⟨σ',H',I',q⟩:=q;exact h2 pins s1 σ' H' D I' q
 |ret v=>exact q
 |brk=>exact q
 |cont=>exact q
theorem Inv.quiet{pins:List (Addr×Obj)}{σ:St}{H:Hp}{s:Shared}(I:Inv X pins σ H s):interactive X.env=false:=by simp[interactive,I.ok.kind]
noncomputable def qCh(te:TE):TS:=λD σ H=>te σ H λ_ H1=>D.nx σ H1
theorem ps_expr(he:PE X e te)(hs:swapsWith e none pos.line X.env=pure false:=by rfl):PS X (.Expr e pos) (qCh te):=by
 intro pins s σ H D I h;exact wpAny_Expr_any (thn (he pins s σ H _ I h) λv s1 ⟨x,H1,I1,r1,q1⟩=>⟨σ,H1,I1,q1⟩) I.quiet hs
noncomputable def qFC(te:TE):TS:=λD σ H=>te σ H D.rt
theorem ps_ret(he:PE X e te):PS X (.Return (some e) pos) (qFC te):=by
 intro pins s σ H D I h;exact wpAny_Return_some (thn (he pins s σ H _ I h) λv s1 ⟨x,H1,I1,r1,q1⟩=>⟨x,σ,H1,I1,r1,q1⟩)
noncomputable def qFM(c:TT)(t u:TS):TS:=λD σ H=>c σ H λb H1=>if b=true then t D σ H1 else u D σ H1
theorem ps_if{c:Expr}{a b:List Stmt}{tc:TT}(hc:PT X c tc)(ha:PSs X a t)(hb:PSs X b u):PS X (.If c a b pos) (qFM tc t u):=by
 intro pins s σ H D I h;refine wpAny_If (thn (hc pins s σ H _ I h) λd s1 ⟨H1,I1,q1⟩=>?_);cases d with
 |true=>exact ha pins s1 σ H1 D I1 q1
 |false=>exact hb pins s1 σ H1 D I1 q1
end
noncomputable abbrev TG:=V->St->Hp->(St->Hp->Prop)->Prop
noncomputable abbrev TGs:=List V->St->Hp->(St->Hp->Prop)->Prop
def PG(X:Cx)(target:Expr)(t:TG):Prop:=
 ∀(pins:List (Addr×Obj)) (s:Shared) (σ:St) (H:Hp) (v:V) (u:Value) (Q:St->Hp->Prop),Inv X pins σ H s->RelV v u->t v σ H Q ->
  wpAny (model X.prog X.w) X.A (assign target X.env u) (λ_ s'=>∃σ' H',Inv X pins σ' H' s'/\Q σ' H') X.xe s
def PGs(X:Cx)(ts:List Expr)(t:TGs):Prop:=
 ∀(pins:List (Addr×Obj)) (s:Shared) (σ:St) (H:Hp) (vs:List V) (us:List Value) (Q:St->Hp->Prop),Inv X pins σ H s->Vals vs us->t vs σ H Q ->
  wpAny (model X.prog X.w) X.A (assignInOrder ((assignEach ts X.env).map (·.2)) us) (λ_ s'=>∃σ' H',Inv X pins σ' H' s'/\Q σ' H') X.xe s
noncomputable abbrev TSet:=V->V->V->Hp->(Hp->Prop)->Prop
def PSet(X:Cx)(t:TSet):Prop:=
 ∀(pins:List (Addr×Obj)) (s:Shared) (σ:St) (H:Hp) (o i v:V) (ov iv u:Value) (Q:Hp->Prop),Inv X pins σ H s->RelV o ov->RelV i iv->RelV v u->t o i v H Q ->
  wpAny (model X.prog X.w) X.A (setItem ov iv u) (λ_ s'=>∃H',Inv X pins σ H' s'/\Q H') X.xe s
section
variable{X:Cx}{pos:Pos}
noncomputable def qB1(i:Nat):TG:=λv σ H Q=>Q (σ.set i (some v)) H
theorem pg_name{i:Nat}{x:Str}(hN:X.N.Nodup)(hi:X.N[i]?=some x)(hx:Loc X.env.scope x)(hf:X.fn x=true\/X.env.scope.names.lookup x=some .local:=by first|exact .inl rfl|exact .inr rfl|assumption):PG X (.Name x pos) (qB1 i):=by
 intro pins s σ H v u Q I r h;exact wpAny_assign_Name (jc I hN hi hx r (λs' I'=>⟨_,H,I',h⟩) hf)
noncomputable def qE6:TGs:=λvs σ H Q=>vs=[]/\Q σ H
noncomputable def qCx(t:TG)(u:TGs):TGs:=λvs σ H Q=>∃v r,vs=v::r/\t v σ H λσ' H'=>u r σ' H' Q
theorem pgs_nil:PGs X [] qE6:=by
 intro pins s σ H vs us Q I r h;obtain⟨e,h⟩:=h;subst e;cases r;exact assignInOrder_nil ⟨σ,H,I,h⟩
theorem pgs_cons{e:Expr}{es:List Expr}{t:TG}{u:TGs}(h1:PG X e t)(h2:PGs X es u)
  (hs:(assignEach (e::es) X.env).map (·.2)=assign e X.env::(assignEach es X.env).map (·.2):=by rfl):PGs X (e::es) (qCx t u):=by
 intro pins s σ H vs us Q I r h;obtain⟨v,vr,e1,h⟩:=h;subst e1;cases r with
 |cons r rr=>
  rw[hs];refine assignInOrder_cons (thn (h1 pins s σ H _ _ _ I r h) λ_ s1 ⟨σ1,H1,I1,q1⟩=>?_);exact h2 pins s1 σ1 H1 _ _ Q I1 rr q1
noncomputable def qFP(K:PySem.W.Frag)(n:Nat)(t:TGs):TG:=λv σ H Q=>∃a xs,v=.ref a/\SqT K H a xs/\xs.length=n/\t xs σ H Q
theorem pg_tup{es:List Expr}{k:Nat}{t:TGs}{n:Nat}(hc:X.calm=true)(h:PGs X es t)
  (hn:(assignEach es X.env).length=n:=by rfl) (hst:(assignEach es X.env).findIdx? (·.1)=none:=by rfl):PG X (.Tuple es k pos) (qFP X.K n t):=by
 intro pins s σ H v u Q I r hw;obtain⟨a,xs,e1,hq,hl,hw⟩:=hw;subst e1;cases r;obtain⟨its,rv,ht,hz⟩:=I.tuple hq;refine assign_Tuple_tuple (I.ok.hd hc) ht (by simp[hn,<-hl,rv.length]) hst λh' hx=>?_;have I1:Inv X pins σ H { s with heap:=h' }:=I.kept (t':=s.toks) λb o e=>hx b o (wM (Heap.lt_size e)) e;exact h pins _ σ H xs _ Q I1 (by simpa using rv) hw
noncomputable def qEn(to ti:TE)(t:TSet):TG:=λv σ H Q=>to σ H λo H1=>ti σ H1 λi H2=>t o i v H2 λH3=>Q σ H3
theorem pg_sub{o i:Expr}{to ti:TE}{t:TSet}(ho:PE X o to)(hi:PE X i ti)(hs:PSet X t)
  (ha:∀v,assign (.Subscript o i pos) X.env v=(do
   let ov <- holding [v] (eval o X.env)
   let iv <- holding [v,ov] (eval i X.env)
   standAt pos
   holding [v,ov,iv] (setItem ov iv v)
   release [v,ov,iv] []):=by intro _;rfl):PG X (.Subscript o i pos) (qEn to ti t):=by
 intro pins s σ H v u Q I r h;rw[ha];refine vK (wpAny_holding (thn (ho pins s σ H _ I h) λov s1 ⟨x,H1,I1,r1,q1⟩=>?_));refine vK (wpAny_holding (thn (hi pins s1 σ H1 _ I1 q1) λiv s2 ⟨y,H2,I2,r2,q2⟩=>?_));refine vK (wpAny_standAt (vK (wpAny_holding (thn (hs pins s2 σ H2 x y v ov iv u _ I2 r1 r2 r q2) λ_ s3 ⟨H3,I3,q3⟩=>?_))));exact wpAny_release ⟨σ,H3,I3,q3⟩
noncomputable def tAsg(te:TE)(g:TG):TS:=λD σ H=>te σ H λx H1=>g x σ H1 D.nx
theorem ps_asg{tg e:Expr}{te:TE}{g:TG}(he:PE X e te)(hg:PG X tg g)(hs:swapsWithSole [tg] e pos.line X.env=pure false:=by rfl)(hw:swappedStores [tg] e X.env=pure none:=by rfl)
  (h1:(assignEach [tg] X.env).map (·.2)=[assign tg X.env]:=by rfl):PS X (.Assign [tg] e pos) (tAsg te g):=by
 intro pins s σ H D I h;refine wpAny_Assign_stores (thn (he pins s σ H _ I h) λv s1 ⟨x,H1,I1,r1,q1⟩=>?_) hs hw;rw[h1];exact thn (hg pins s1 σ H1 x v _ I1 r1 q1) λ_ s2 q=>q
end
structure It where
 go:Nat->Hp->Prop
 yld:Nat->Hp->V->Hp->Prop
 stop:Nat->Hp->Prop
def Qr(X:Cx)(pins:List (Addr×Obj))(H:Hp)(b:Addr):Prop:=
 H b=none/\b≠X.env.locals/\b∉X.fs/\(b∈X.ex\/X.s₀.heap.objs.size<=b)/\(∀x c,X.env.cells.lookup x=some c->c≠b)/\∀p∈X.pn++pins,p.1≠b
theorem Inv.fpOk{X:Cx}{pins:List (Addr×Obj)}{σ:St}{H H':Hp}{s:Shared}{b:Addr}(I:Inv X pins σ H s)(hb:s.heap.objs.size<=b)(hn:H' b=none):Qr X pins H' b:=by
 refine⟨hn,Nat.ne_of_gt (wC I.lt hb),I.nofs hb,.inr (Nat.le_trans I.sz hb),λx c e z=>?_,λp hp z=>?_⟩
 ·obtain⟨v,q⟩:=I.cell x c e;exact absurd (wC q.lt (by rw[z];exact hb)) (Nat.lt_irrefl _)
 ·exact absurd (wC (Heap.lt_size (I.pin p hp).1) (by rw[z];exact hb)) (Nat.lt_irrefl _)
structure Jg(P:Program)(w:World)(K:PySem.W.Frag)(tg:Expr)(J:It)(fp:List Addr)(it:Addr)(tn:Nat->Heap->Prop):Prop where
 mem:it∈fp
 obj:∀i h,tn i h->∀b∈fp,∃o,h.get? b=some o/\∀v,o.data≠.cell v
 keep:∀i h h',tn i h->(∀b∈fp,∀o,h.get? b=some o->h'.get? b=some o)->tn i h'
 item:∀(X:Cx),X.prog=P->X.w=w->X.K=K->X.calm=true->∀(i:Nat) (pins:List (Addr×Obj)) (s:Shared) (σ:St) (H:Hp) (E:Value->Shared->Prop),Inv X pins σ H s->(∀b∈fp,Qr X pins H b)->tn i s.heap->J.go i H ->
  wpAny (model P w) X.A (pyNext (.ref it)) (λr s1=>∃u,r=some u/\
   wpAny (model P w) X.A (letOwnedTupleGo tg (.ref it) u) (λ_ s2=>∃x H',Inv X pins σ H' s2/\RelV x u/\J.yld i H x H'/\tn (i+1) s2.heap/\∀b∈fp,H' b=none) E s1) E s
 done:∀(X:Cx),X.prog=P->X.w=w->X.K=K->X.calm=true->∀(i:Nat) (pins:List (Addr×Obj)) (s:Shared) (σ:St) (H:Hp) (E:Value->Shared->Prop),Inv X pins σ H s->(∀b∈fp,Qr X pins H b)->tn i s.heap->J.stop i H ->
  wpAny (model P w) X.A (pyNext (.ref it)) (λr s1=>r=none/\Inv X pins σ H s1) E s
 self:∀(A:Around) (i:Nat) (s:Shared) (Q:Value->Shared->Prop) (E:Value->Shared->Prop),tn i s.heap->Q (.ref it) s->wpAny (model P w) A (pyIter (.ref it)) Q E s
noncomputable abbrev TI:=St->Hp->(It->Hp->Prop)->Prop
def PIE(X:Cx)(pins:List (Addr×Obj))(σ:St)(tg:Expr)(R:It->Hp->Prop)(itv:Value)(s2:Shared):Prop:=
 ∃(it:Addr) (fp:List Addr) (tn:Nat->Heap->Prop) (J:It) (H':Hp),itv=.ref it/\Inv X pins σ H' s2/\Jg X.prog X.w X.K tg J fp it tn/\tn 0 s2.heap/\(∀b∈fp,Qr X pins H' b)/\R J H'
def PI(X:Cx)(tg iter:Expr)(wi:TI):Prop:=
 ∀(pins:List (Addr×Obj)) (s:Shared) (σ:St) (H:Hp) (R:It->Hp->Prop),Inv X pins σ H s->wi σ H R ->
  wpAny (model X.prog X.w) X.A (eval iter X.env) (λv s1=>wpAny (model X.prog X.w) X.A (pyIter v) (PIE X pins σ tg R) X.xe s1) X.xe s
theorem z0{M:Model}{A:Around}{E:Value->Shared->Prop}{s:Shared}{tg:Expr}{it:Addr}{u:Value}{o:Obj}{n:String}{vs:Array Value}{Q:Unit->Shared->Prop}(ho:s.heap.get? it=some o)(hc:o.cls=.type n)(hd:o.data=.fields vs)
  (hn:["enumerate","zip","dict_itemiterator","dict_reverseitemiterator","odict_iterator","itertools.zip_longest","itertools.pairwise"].contains n=false) (hQ:Q () s):wpAny M A (letOwnedTupleGo tg (.ref it) u) Q E s:=by
 unfold letOwnedTupleGo;cases tg<;>first
  |exact vL hQ
  | (cases u<;>first
    |exact vL hQ
    | (refine vK (wpAny_load ho ?_)
       rw[hc,hd];show wpAny M A (if (["enumerate","zip","dict_itemiterator","dict_reverseitemiterator","odict_iterator","itertools.zip_longest","itertools.pairwise"].contains n&&vs[0]?==some (rawInt _))=true then _ else _) Q E s;rw[if_neg (by intro h;rw[hn,Bool.false_and]at h;cases h)];exact vL hQ))
noncomputable def Itl(K:PySem.W.Frag)(a:Addr):It:=
 ⟨λi H=>∃xs x,SqL K H a xs/\xs[i]?=some x,λi H x H'=>H'=H/\∀xs,SqL K H a xs->xs[i]?=some x,λi H=>∃xs,SqL K H a xs/\xs.length<=i⟩
noncomputable def Itt(K:PySem.W.Frag)(a:Addr):It:=
 ⟨λi H=>∃xs x,SqT K H a xs/\xs[i]?=some x,λi H x H'=>H'=H/\∀xs,SqT K H a xs->xs[i]?=some x,λi H=>∃xs,SqT K H a xs/\xs.length<=i⟩
noncomputable def Itr(lo:Int)(n:Nat):It:=⟨λi _=>i<n,λi H x H'=>H'=H/\x=.int (lo+i),λi _=>n<=i⟩
theorem turn_list{P:Program}{w:World}{K:PySem.W.Frag}{tg:Expr}(a it:Addr):Jg P w K tg (Itl K a) [it] it (λi h=>h.IsListIter it a i) where
 mem:=by simp
 obj:=λi h st b hb=>by
  have e:b=it:=by simpa using hb
  subst e;obtain⟨o,e,c,d⟩:=st;exact⟨o,e,λv z=>by rw[d]at z;cases z⟩
 keep:=λi h h' st k=>st.at λo e=>k it (by simp) o e
 item:=by
  intro X hP hw hK hc i pins s σ H E I hf st hg;subst hP hw hK;obtain⟨xs,x,hq,hx⟩:=hg;obtain⟨its,rv,p,hz⟩:=I.list hq;obtain⟨u,hu,ru⟩:=rv.get hx;obtain⟨f0,f1,f2,f3,f4,f5⟩:=hf it (by simp);refine wpAny_pyNext_list_item st p.isList (x:=u) (by simpa using hu) λh' st' sb=>?_;have I1:Inv X pins σ H { s with heap:=h' }:=I.turned (t':=s.toks) (λb o hb e=>(sb.2 b hb).trans e) f0 f1 f3 f4 f5;obtain⟨o,e,c,d⟩:=id st';exact⟨u,rfl,z0 (s:={ s with heap:=h' }) e c d (by decide) ⟨x,H,I1,ru,⟨rfl,λys hy=>by rw[I.list_inj hy hq];exact hx⟩,st',λb hb=>(hf b hb).1⟩⟩
 done:=by
  intro X hP hw hK hc i pins s σ H E I hf st hg;subst hP hw hK;obtain⟨xs,hq,hx⟩:=hg;obtain⟨its,rv,p,hz⟩:=I.list hq;obtain⟨f0,f1,f2,f3,f4,f5⟩:=hf it (by simp);have hl:=rv.length;exact wpAny_pyNext_list_end (I.ok.hd hc) st p.isList (by simp;omega) λh' eb=>⟨rfl,I.turned (t':=s.toks) (λb o hb e=>eb b o hb e) f0 f1 f3 f4 f5⟩
 self:=λ_ _ _ _ _ st h=>wpAny_pyIter_listiter st h
theorem turn_tuple{P:Program}{w:World}{K:PySem.W.Frag}{tg:Expr}(a it:Addr):Jg P w K tg (Itt K a) [it] it (λi h=>h.IsTupleIter it a i) where
 mem:=by simp
 obj:=λi h st b hb=>by
  have e:b=it:=by simpa using hb
  subst e;obtain⟨o,e,c,d⟩:=st;exact⟨o,e,λv z=>by rw[d]at z;cases z⟩
 keep:=λi h h' st k=>st.at λo e=>k it (by simp) o e
 item:=by
  intro X hP hw hK hc i pins s σ H E I hf st hg;subst hP hw hK;obtain⟨xs,x,hq,hx⟩:=hg;obtain⟨its,rv,p,hz⟩:=I.tuple hq;obtain⟨u,hu,ru⟩:=rv.get hx;obtain⟨f0,f1,f2,f3,f4,f5⟩:=hf it (by simp);refine wpAny_pyNext_tuple_item st (show s.heap.IsTuple a its.toArray from p) (x:=u) (by simpa using hu) λh' st' sb=>?_;have I1:Inv X pins σ H { s with heap:=h' }:=I.turned (t':=s.toks) (λb o hb e=>(sb.2 b hb).trans e) f0 f1 f3 f4 f5;obtain⟨o,e,c,d⟩:=id st';exact⟨u,rfl,z0 (s:={ s with heap:=h' }) e c d (by decide) ⟨x,H,I1,ru,⟨rfl,λys hy=>by rw[I.tuple_inj hy hq];exact hx⟩,st',λb hb=>(hf b hb).1⟩⟩
 done:=by
  intro X hP hw hK hc i pins s σ H E I hf st hg;subst hP hw hK;obtain⟨xs,hq,hx⟩:=hg;obtain⟨its,rv,p,hz⟩:=I.tuple hq;obtain⟨f0,f1,f2,f3,f4,f5⟩:=hf it (by simp);have hl:=rv.length;exact wpAny_pyNext_tuple_end (I.ok.hd hc) st (show s.heap.IsTuple a its.toArray from p) (by simp;omega) λh' eb=>⟨rfl,I.turned (t':=s.toks) (λb o hb e=>eb b o hb e) f0 f1 f3 f4 f5⟩
 self:=λ_ _ _ _ _ st h=>wpAny_pyIter_tupleiter st h
theorem K8{P:Program}{w:World}{K:PySem.W.Frag}{tg:Expr}(it:Addr)(lo:Int)(n:Nat):Jg P w K tg (Itr lo n) [it] it (λi h=>IsRangeIter h it (lo+(i:Nat)*1) ((n:Int)-(i:Nat)) 1) where
 mem:=by simp
 obj:=λi h st b hb=>by
  have e:b=it:=by simpa using hb
  subst e;exact⟨_,st,λv z=>by
   have z':Data.fields _=Data.cell v:=z;cases z'⟩
 keep:=λi h h' st k=>k it (by simp) _ st
 item:=by
  intro X hP hw hK hc i pins s σ H E I hf st hg;subst hP hw hK;obtain⟨f0,f1,f2,f3,f4,f5⟩:=hf it (by simp);have W:=Walks.range (prog:=X.prog) (w:=X.w) (I.ok.hd hc) it lo 1 n;refine W.item i s _ _ hg st λv h' tk hv st' kk=>?_;obtain⟨t,rfl⟩:=hv;have I1:Inv X pins σ H { s with heap:=h',toks:=tk }:=I.turned (λb o hb e=>kk b o (by simpa using hb) e) f0 f1 f3 f4 f5;refine⟨_,rfl,z0 (s:={ s with heap:=h',toks:=tk }) (n:="range_iterator") st' rfl rfl (by decide) ⟨.int (lo+i),H,I1,⟨t,?_⟩,⟨rfl,rfl⟩,st',λb hb=>(hf b hb).1⟩⟩;rw[Int.mul_one]
 done:=by
  intro X hP hw hK hc i pins s σ H E I hf st hg;subst hP hw hK;obtain⟨f0,f1,f2,f3,f4,f5⟩:=hf it (by simp);exact wpAny_pyNext_range_end (I.ok.hd hc) st (by have:n<=i:=hg;omega) λh' eb=>⟨rfl,I.turned (t':=s.toks) (λb o hb e=>eb b o hb e) f0 f1 f3 f4 f5⟩
 self:=λ_ _ _ _ _ st h=>wpAny_pyIter_rangeiter st h
section
variable{X:Cx}{tg:Expr}
theorem B4{pins:List (Addr×Obj)}{σ:St}{H:Hp}{s:Shared}{R:It->Hp->Prop}{E:Value->Shared->Prop}{lo hi:Int}{t u v:Tok}{tk:Nat}(I:Inv X pins σ H s)(h1:-(2 ^ 62)<=lo)(h2:lo<2 ^ 62)(h3:-(2 ^ 62)<=hi)(h4:hi<2 ^ 62)
  (q:R (Itr lo (hi-lo).toNat) H):wpAny (model X.prog X.w) X.A (pyIter (.ref s.heap.objs.size)) (PIE X pins σ tg R) E { s with heap:=s.heap.push { cls:=.type "range",data:=.fields #[.int lo t,.int hi u,.int 1 v] },toks:=tk }:=by
 refine wpAny_pyIter_range (IsRange.new ..) (small_one h1 h2 h3 h4) ?_;have I1:Inv X pins σ H { s with heap:=s.heap.push { cls:=.type "range",data:=.fields #[.int lo t,.int hi u,.int 1 v] },toks:=tk }:=I.kept λb o e=>Heap.get?_push_of_some _ e;refine⟨(s.heap.push { cls:=.type "range",data:=.fields #[.int lo t,.int hi u,.int 1 v] }).objs.size,[(s.heap.push { cls:=.type "range",data:=.fields #[.int lo t,.int hi u,.int 1 v] }).objs.size],_,_,H,rfl,
  I1.kept (t':=tk) λb o e=>Heap.get?_push_of_some _ e,K8 _ lo (hi-lo).toNat,?_,λb hb=>?_,q⟩
 ·have e1:lo+((0:Nat):Int)*1=lo:=by simp
  have e2:(((hi-lo).toNat:Nat):Int)-((0:Nat):Int)=Builtin.Range.rangeSize lo hi 1:=by rw[rangeSize_one];split<;>omega
  show IsRangeIter _ _ (lo+((0:Nat):Int)*1) ((((hi-lo).toNat:Nat):Int)-((0:Nat):Int)) 1;rw[e1,e2];exact Heap.get?_push_size _ rfl
 ·have e:b=(s.heap.push { cls:=.type "range",data:=.fields #[.int lo t,.int hi u,.int 1 v] }).objs.size:=by simpa using hb
  subst e;exact I1.fpOk (Nat.le_refl _) (I1.hok.fresh (Nat.le_refl _))
noncomputable def qDR(ta:TA):TI:=λσ H R=>ta σ H λvs H1=>∃j:Int,vs=[.int j]/\-(2 ^ 62)<=j/\j<2 ^ 62/\R (Itr 0 j.toNat) H1
noncomputable def qDS(ta:TA):TI:=λσ H R=>ta σ H λvs H1=>∃i j:Int,vs=[.int i,.int j]/\(-(2 ^ 62)<=i/\i<2 ^ 62/\-(2 ^ 62)<=j/\j<2 ^ 62)/\R (Itr i (j-i).toNat) H1
theorem pi_range1{a:Expr}{ta:TA}{p pos:Pos}(hg:Gl X "range")(hm:X.mg "range"=none)(ha:PA X [a] ta)(hs:starEach [a] X.env=[(false,eval a X.env)]:=by rfl):PI X tg (.Call (.Name "range" p) [a] [] pos) (qDR ta):=by
 intro pins s σ H R I h;refine Call_ (ld_blt I hg hm boot_range (PyProof.Rows.callWith_type1 (thn (ha pos pins s σ H _ I h) λus s1 ⟨vs,H1,I1,r1,q1⟩=>?_) hs rfl));obtain⟨j,e,q1,q2,q⟩:=q1;subst e;cases r1 with
 |cons r rr=>
  cases rr;obtain⟨t,rfl⟩:=r;exact call_range_1 (B4 I1 (by omega) (by omega) q1 q2 (by simpa using q))
theorem pi_range2{a b:Expr}{ta:TA}{p pos:Pos}(hg:Gl X "range")(hm:X.mg "range"=none)(ha:PA X [a,b] ta)(hs:starEach [a,b] X.env=[(false,eval a X.env),(false,eval b X.env)]:=by rfl)(hs2:starEach [b] X.env=[(false,eval b X.env)]:=by rfl):
  PI X tg (.Call (.Name "range" p) [a,b] [] pos) (qDS ta):=by
 intro pins s σ H R I h;refine Call_ (ld_blt I hg hm boot_range (PyProof.Rows.callWith_type1 (thn (ha pos pins s σ H _ I h) λus s1 ⟨vs,H1,I1,r1,q1⟩=>?_) (by rw[hs,hs2]) (by rw[hs2];rfl)));obtain⟨i,j,e,⟨q1,q2,q3,q4⟩,q⟩:=q1;subst e;cases r1 with
 |cons r rr=>
  cases rr with
  |cons r' rr=>
   cases rr;obtain⟨t,rfl⟩:=r;obtain⟨t',rfl⟩:=r';exact call_range_2 (B4 I1 q1 q2 q3 q4 q)
noncomputable def qEs(wi:TI)(g:TG)(tb:TS):TS:=λD σ H=>wi σ H λJ H1=>∃W:Nat->Nat->St->Hp->Prop,(∃m,W 0 m σ H1)/\∀i m σ H,W i m σ H ->
 (J.stop i H/\D.nx σ H)\/(J.go i H/\∃N:St->Hp->Prop,(∀σ' H',N σ' H'->∃m',m'<m/\W (i+1) m' σ' H')/\∀x H',J.yld i H x H'->g x σ H' λσ2 H2=>tb { D with nx:=N,ct:=N,bk:=D.nx } σ2 H2)
noncomputable def Jc(fp:List Addr)(h:Heap):List (Addr×Obj):=fp.filterMap λb=>(h.get? b).map λo=>(b,o)
theorem zx{fp:List Addr}{h:Heap}{b:Addr}{o:Obj}(hb:b∈fp)(e:h.get? b=some o):(b,o)∈Jc fp h:=List.mem_filterMap.mpr ⟨b,hb,by rw[e];rfl⟩
theorem P6{fp:List Addr}{h:Heap}{p:Addr×Obj}(hp:p∈Jc fp h):p.1∈fp/\h.get? p.1=some p.2:=by
 obtain⟨b,hb,e⟩:=List.mem_filterMap.mp hp;cases q:h.get? b with
 |none=>rw[q]at e;cases e
 |some o=>
  rw[q]at e;have e':(b,o)=p:=Option.some.inj e;subst e';exact⟨hb,q⟩
theorem Inv.pinned{pins:List (Addr×Obj)}{σ:St}{H:Hp}{s:Shared}{fp:List Addr}(I:Inv X pins σ H s)(hf:∀b∈fp,Qr X pins H b)(ho:∀b∈fp,∃o,s.heap.get? b=some o/\∀v,o.data≠.cell v):Inv X (pins++Jc fp s.heap) σ H s:=
 I.pins_of λp hp=>(wE.mp hp).elim (λz=>I.pin p (wG _ z)) λz=>by
  obtain⟨hb,e⟩:=P6 z;obtain⟨f0,f1,f2,_⟩:=hf p.1 hb;obtain⟨o,e',d⟩:=ho p.1 hb;rw[e]at e';cases e';exact⟨e,f0,f1,f2,d⟩
theorem Inv.unpinned{pins pl:List (Addr×Obj)}{σ:St}{H:Hp}{s:Shared}(I:Inv X (pins++pl) σ H s):Inv X pins σ H s:=I.pins_of λp hp=>I.pin p (wG _ (wF _ hp))
theorem ps_for{iter:Expr}{body:List Stmt}{wi:TI}{g:TG}{tb:TS}{pos:Pos}(hp:PassesOwn (model X.prog X.w) X.A X.env X.xe)(hc:X.calm=true)(hi:PI X tg iter wi)(hg:PG X tg g)(hb:PSs X body tb)
  (hs:∀x,foldedSetIterable iter X.env x=pure x:=by intro _;rfl):PS X (.For tg iter body [] pos) (qEs wi g tb):=by
 intro pins s σ H D I h;refine wpAny_For (thn (hi pins s σ H _ I h) λv s1 h1=>thn h1 λitv s2 h2=>?_) hs;obtain⟨it,fp,tn,J,H2,e,I2,T,st2,f2,W,⟨m0,w0⟩,qBA⟩:=h2;subst e;have stat:∀{H':Hp},(∀b∈fp,H' b=none)->∀b∈fp,Qr X pins H' b:=λhn b hb=>⟨hn b hb,(f2 b hb).2⟩
 refine codeAny_forLoop_any (λn s'=>∃i σ' H',Inv X pins σ' H' s'/\tn i s'.heap/\(∀b∈fp,H' b=none)/\W i n σ' H') ?_ m0 ⟨0,σ,H2,I2,st2,λb hb=>(f2 b hb).1,w0⟩;rintro n s3 ⟨i,σ3,H3,I3,st3,fr3,w3⟩;rcases qBA i n σ3 H3 w3 with⟨stop,qn⟩|⟨go,N,hN,step⟩
 ·refine wpAny_passesOwn hp (thn (T.done X rfl rfl rfl hc i pins s3 σ3 H3 X.xe I3 (stat fr3) st3 stop) λr s4 ⟨hr,I4⟩=>?_);subst hr;exact wpAny_execs_nil ⟨σ3,H3,I4,qn⟩
 ·refine wpAny_passesOwn hp (thn (T.item X rfl rfl rfl hc i pins s3 σ3 H3 X.xe I3 (stat fr3) st3 go) λr s4 ⟨u,hr,h4⟩=>?_);subst hr;refine wpAny_passesOwn hp (thn h4 λ_ s5 ⟨x,H5,I5,r5,y5,st5,fr5⟩=>?_);have I5':=I5.pinned (stat fr5) (T.obj _ _ st5);refine wpAny_passesOwn hp (thn (hg _ s5 σ3 H5 x u _ I5' r5 (step x H5 y5)) λ_ s6 ⟨σ6,H6,I6,q6⟩=>?_);refine wpAny_passesOwn hp (thn (hb _ s6 σ6 H6 _ I6 q6) λf s7 q7=>?_);have again:∀{σ7:St}{H7:Hp},Inv X (pins++Jc fp s5.heap) σ7 H7 s7->N σ7 H7->∃m,m<n/\∃i σ' H',Inv X pins σ' H' s7/\tn i s7.heap/\(∀b∈fp,H' b=none)/\W i m σ' H':=λ{σ7 H7} I7 n7=>by
   obtain⟨m',hm,w7⟩:=hN σ7 H7 n7;refine⟨m',hm,i+1,σ7,H7,I7.unpinned,T.keep _ _ _ st5 λb hb o e=>(I7.pin (b,o) (wG _ (wG _ (zx hb e)))).1,λb hb=>?_,w7⟩;obtain⟨o,e,d⟩:=T.obj _ _ st5 b hb;exact(I7.pin (b,o) (wG _ (wG _ (zx hb e)))).2.1
  cases f with
  |next=>obtain⟨σ7,H7,I7,n7⟩:=q7;exact again I7 n7
  |cont=>obtain⟨σ7,H7,I7,n7⟩:=q7;exact again I7 n7
  |brk=>obtain⟨σ7,H7,I7,q7⟩:=q7;exact⟨σ7,H7,I7.unpinned,q7⟩
  |ret v=>obtain⟨x7,σ7,H7,I7,r7,q7⟩:=q7;exact⟨x7,σ7,H7,I7.unpinned,r7,q7⟩
end
noncomputable abbrev R2:=V->V->Hp->VK->Prop
def OpR(X:Cx)(f:Value->Value->Sem Value)(r:R2):Prop:=
 ∀(pins:List (Addr×Obj)) (s:Shared) (σ:St) (H:Hp) (x y:V) (v u:Value) (Q:VK),Inv X pins σ H s->RelV x v->RelV y u->r x y H Q ->
  wpAny (model X.prog X.w) X.A (f v u) (EP X pins σ Q) X.xe s
def UnR(X:Cx)(f:Value->Sem Value)(r:V->Hp->VK->Prop):Prop:=
 ∀(pins:List (Addr×Obj)) (s:Shared) (σ:St) (H:Hp) (x:V) (v:Value) (Q:VK),Inv X pins σ H s->RelV x v->r x H Q ->
  wpAny (model X.prog X.w) X.A (f v) (EP X pins σ Q) X.xe s
def zE(X:Cx)(f:Value)(r:List V->Hp->VK->Prop):Prop:=
 ∀(pins:List (Addr×Obj)) (s:Shared) (σ:St) (H:Hp) (xs:List V) (us:List Value) (Q:VK),Inv X pins σ H s->Vals xs us->r xs H Q ->
  wpAny (model X.prog X.w) X.A (call f us) (EP X pins σ Q) X.xe s
noncomputable def tOp(r:R2)(ta tb:TE):TE:=λσ H Q=>ta σ H λx H1=>tb σ H1 λy H2=>r x y H2 Q
noncomputable def tUn(r:V->Hp->VK->Prop)(ta:TE):TE:=λσ H Q=>ta σ H λx H1=>r x H1 Q
noncomputable def rI(C:Int->Int->Prop)(g:Int->Int->V):R2:=λx y H Q=>∃i j,x=.int i/\y=.int j/\C i j/\Q (g i j) H
noncomputable def rI0(g:Int->Int->V):R2:=λx y H Q=>∃i j,x=.int i/\y=.int j/\Q (g i j) H
def rU(g:Int->V):V->Hp->VK->Prop:=λx H Q=>∃i,x=.int i/\Q (g i) H
section
variable{X:Cx}{a b c:Expr}{ta tb tc:TE}{pos:Pos}
theorem qp(ha:PE X a ta)(hb:PE X b tb){pins:List (Addr×Obj)}{s:Shared}{σ:St}{H:Hp}{R:V->V->Hp->Prop}(I:Inv X pins σ H s)
  (h:ta σ H λx H1=>tb σ H1 λy H2=>R x y H2){Q:Value->Shared->Prop}{f:Value->Value->Sem Value}
  (hf:∀v u s2 x y H2,Inv X pins σ H2 s2->RelV x v->RelV y u->R x y H2->wpAny (model X.prog X.w) X.A (f v u) Q X.xe s2):
  wpAny (model X.prog X.w) X.A (eval a X.env) (λv s₁=>wpAny (model X.prog X.w) X.A (eval b X.env) (λu s₂=>wpAny (model X.prog X.w) X.A (f v u) Q X.xe s₂) X.xe s₁) X.xe s:=by
 refine thn (ha pins s σ H _ I h) λv s1 ⟨x,H1,I1,r1,q1⟩=>?_;refine thn (hb pins s1 σ H1 _ I1 q1) λu s2 ⟨y,H2,I2,r2,q2⟩=>?_;exact hf v u s2 x y H2 I2 r1 r2 q2
theorem pe_op{op:Operator}{r:R2}(ho:OpR X (binaryOp op) r)(ha:PE X a ta)(hb:PE X b tb):PE X (.BinOp a op b pos) (tOp r ta tb):=by
 intro pins s σ H Q I h;exact wpAny_BinOp (qp ha hb I h λv u s2 x y H2 I2 rx ry q=>ho pins s2 σ H2 x y v u Q I2 rx ry q)
theorem pe_un{op:UnaryOp}{r:V->Hp->VK->Prop}(ho:UnR X (unaryOp op) r)(ha:PE X a ta):PE X (.UnaryOp op a pos) (tUn r ta):=by
 intro pins s σ H Q I h;exact UnaryOp_ (thn (ha pins s σ H _ I h) λv s1 ⟨x,H1,I1,r1,q1⟩=>ho pins s1 σ H1 x v Q I1 r1 q1)
theorem opI{f:Value->Value->Sem Value}{C:Int->Int->Prop}{g:Int->Int->Int}
  (rule:∀(i j:Int) (t u:Tok) (s:Shared) (Q:Value->Shared->Prop) (E:Value->Shared->Prop),C i j->Q (.int (g i j) s.toks) { s with toks:=s.toks+1 }->wpAny (model X.prog X.w) X.A (f (.int i t) (.int j u)) Q E s):
  OpR X f (rI C λi j=>.int (g i j)):=by
 intro pins s σ H x y v u Q I rx ry h;obtain⟨i,j,rfl,rfl,hc,q⟩:=h;obtain⟨t,rfl⟩:=rx;obtain⟨t',rfl⟩:=ry;exact rule i j t t' s _ _ hc ⟨.int (g i j),H,I.tok _,⟨_,rfl⟩,q⟩
theorem qCm{f:Value->Value->Sem Value}{g:Int->Int->Int}
  (rule:∀(i j:Int) (t u:Tok) (s:Shared) (Q:Value->Shared->Prop) (E:Value->Shared->Prop),Q (.int (g i j) s.toks) { s with toks:=s.toks+1 }->wpAny (model X.prog X.w) X.A (f (.int i t) (.int j u)) Q E s):
  OpR X f (rI0 λi j=>.int (g i j)):=by
 intro pins s σ H x y v u Q I rx ry h;obtain⟨i,j,rfl,rfl,q⟩:=h;obtain⟨t,rfl⟩:=rx;obtain⟨t',rfl⟩:=ry;exact rule i j t t' s _ _ ⟨.int (g i j),H,I.tok _,⟨_,rfl⟩,q⟩
theorem qCV{f:Value->Value->Sem Value}{g:Int->Int->Bool}
  (rule:∀(i j:Int) (t u:Tok) (s:Shared) (Q:Value->Shared->Prop) (E:Value->Shared->Prop),Q (.bool (g i j)) s->wpAny (model X.prog X.w) X.A (f (.int i t) (.int j u)) Q E s):
  OpR X f (rI0 λi j=>.bl (g i j)):=by
 intro pins s σ H x y v u Q I rx ry h;obtain⟨i,j,rfl,rfl,q⟩:=h;obtain⟨t,rfl⟩:=rx;obtain⟨t',rfl⟩:=ry;exact rule i j t t' s _ _ ⟨.bl (g i j),H,I,rfl,q⟩
def CDiv(i j:Int):Prop:=0<j/\j<1073741824
def CPow(i j:Int):Prop:=0<=j/\j<=1000000/\i.natAbs<2 ^ 64
def CMul(i j:Int):Prop:=(-(2 ^ 64)<i/\i<2 ^ 64)\/(-(2 ^ 64)<j/\j<2 ^ 64)
theorem CMul.ok{i j:Int}(h:CMul i j):IntMulOk i j:=by
 rcases h with⟨h1,h2⟩|⟨h1,h2⟩
 ·exact .of_left (intBits_le_64 h1 h2)
 ·exact .of_right (intBits_le_64 h1 h2)
theorem two_pow_nn(k:Nat):(0:Int)<=2 ^ k:=by
 rw[two_pow_cast];exact Int.natCast_nonneg _
theorem op_add:OpR X (binaryOp .Add) (rI0 λi j=>.int (i+j)):=qCm λ_ _ _ _ _ _ _ q=>add_int q
theorem op_sub:OpR X (binaryOp .Sub) (rI0 λi j=>.int (i-j)):=qCm λ_ _ _ _ _ _ _ q=>sub_int q
theorem op_mul:OpR X (binaryOp .Mult) (rI CMul λi j=>.int (i*j)):=opI λ_ _ _ _ _ _ _ hc q=>mul_int q hc.ok
theorem op_fdiv:OpR X (binaryOp .FloorDiv) (rI CDiv λi j=>.int (i / j)):=opI λi j _ _ _ _ _ hc q=>by
 have h1:(0:Int)<j:=hc.1;have h2:j<1073741824:=hc.2;exact floordiv_int (by omega) (by rw[Int.fdiv_eq_ediv_of_nonneg i (by omega)];exact q) (.inl (PyProof.noPylong_small (by omega)))
theorem op_mod:OpR X (binaryOp .Mod) (rI (λ_ j=>0<j) λi j=>.int (i % j)):=opI λi j _ _ _ _ _ hc q=>by
 have h1:(0:Int)<j:=hc;exact mod_int' (by omega) (by rw[Int.fmod_eq_emod_of_nonneg i (by omega)];exact q)
theorem op_modN:OpR X (binaryOp .Mod) (rI (λ_ j=>j≠0) λi j=>.int (i.fmod j)):=opI λ_ _ _ _ _ _ _ hc q=>mod_int' hc q
theorem op_pow:OpR X (binaryOp .Pow) (rI CPow λi j=>.int (i ^ j.toNat)):=opI λ_ _ _ _ _ _ _ hc q=>pow_int_small hc.1 hc.2.1 hc.2.2 q
theorem op_shl:OpR X (binaryOp .LShift) (rI CPow λi j=>.int (i*2 ^ j.toNat)):=opI λ_ _ _ _ _ _ _ hc q=>lshift_int_small hc.1 hc.2.1 hc.2.2 q
theorem op_shr:OpR X (binaryOp .RShift) (rI (λ_ j=>0<=j) λi j=>.int (i / 2 ^ j.toNat)):=opI λi j _ _ _ _ _ hc q=>
 rshift_int hc (by rw[Int.fdiv_eq_ediv_of_nonneg i (two_pow_nn _)];exact q)
theorem op_and:OpR X (binaryOp .BitAnd) (rI0 λi j=>.int (Builtin.bitAnd i j)):=qCm λ_ _ _ _ _ _ _ q=>and_int q
theorem unI{f:Value->Sem Value}{g:Int->Int}
  (rule:∀(i:Int) (t:Tok) (s:Shared) (Q:Value->Shared->Prop) (E:Value->Shared->Prop),Q (.int (g i) s.toks) { s with toks:=s.toks+1 }->wpAny (model X.prog X.w) X.A (f (.int i t)) Q E s):
  UnR X f (rU λi=>.int (g i)):=by
 intro pins s σ H x v Q I rx h;obtain⟨i,rfl,q⟩:=h;obtain⟨t,rfl⟩:=rx;exact rule i t s _ _ ⟨.int (g i),H,I.tok _,⟨_,rfl⟩,q⟩
theorem un_neg:UnR X (unaryOp .USub) (rU λi=>.int (-i)):=unI λ_ _ _ _ _ q=>neg_int q
end
section
variable{X:Cx}{a b c:Expr}{ta tb tc:TE}{pos:Pos}
theorem l4{pins:List (Addr×Obj)}{σ:St}{H:Hp}{s:Shared}{Q:VK}{k k':Bool}(I:Inv X pins σ H s)(q:Q (.bl k) H)(e:k=k'):EP X pins σ Q (.bool k') s:=by
 subst e;exact⟨.bl k,H,I,rfl,q⟩
theorem op_lt:OpR X (compareOp .Lt) (rI0 λi j=>.bl (decide (i<j))):=qCV λ_ _ _ _ _ _ _ q=>lt_int q
theorem op_le:OpR X (compareOp .LtE) (rI0 λi j=>.bl (decide (i<=j))):=qCV λ_ _ _ _ _ _ _ q=>le_int q
theorem op_gt:OpR X (compareOp .Gt) (rI0 λi j=>.bl (decide (j<i))):=qCV λ_ _ _ _ _ _ _ q=>gt_int q
theorem op_ge:OpR X (compareOp .GtE) (rI0 λi j=>.bl (decide (j<=i))):=qCV λ_ _ _ _ _ _ _ q=>ge_int q
theorem op_isN:OpR X (compareOp .Is) (λx y H Q=>y=.non/\Q (.bl (decide (x=.non))) H):=by
 intro pins s σ H x y v u Q I rx ry h;obtain⟨rfl,q⟩:=h;cases ry;refine is_none_gen (l4 I q ?_);cases x<;>first
  | (cases rx;rfl)
  | (obtain⟨t,rfl⟩:=rx;rfl)
theorem op_notN:OpR X (compareOp .IsNot) (λx y H Q=>y=.non/\Q (.bl (!decide (x=.non))) H):=by
 intro pins s σ H x y v u Q I rx ry h;obtain⟨rfl,q⟩:=h;cases ry;refine isnot_none_gen (l4 I q ?_);cases x<;>first
  | (cases rx;rfl)
  | (obtain⟨t,rfl⟩:=rx;rfl)
theorem OpR.or{f:Value->Value->Sem Value}{r r':R2}(h:OpR X f r)(h':OpR X f r'):OpR X f (λx y H Q=>r x y H Q\/r' x y H Q):=by
 intro pins s σ H x y v u Q I rx ry q;rcases q with q|q
 ·exact h pins s σ H x y v u Q I rx ry q
 ·exact h' pins s σ H x y v u Q I rx ry q
theorem pe_cmpR{op:CmpOp}{r:R2}(ho:OpR X (compareOp op) r)(ha:PE X a ta)(hb:PE X b tb)(hm:behindInMarks op b=false):PE X (.Compare a [op] [b] pos) (tOp r ta tb):=by
 intro pins s σ H Q I h;exact wpAny_Compare1 (qp ha hb I h λv u s2 x y H2 I2 rx ry q=>ho pins s2 σ H2 x y v u Q I2 rx ry q) hm
noncomputable def qBk(t:TE):TT:=λσ H Q=>t σ H λx H'=>∃k,x=.bl k/\Q k H'
theorem pt_cmpR{op:CmpOp}{r:R2}(ho:OpR X (compareOp op) r)(ha:PE X a ta)(hb:PE X b tb)(hm:behindInMarks op b=false):PT X (.Compare a [op] [b] pos) (qBk (tOp r ta tb)):=by
 intro pins s σ H Q I h;refine wpAny_isTrue_Compare1 (thn (ha pins s σ H _ I h) λv s1 ⟨x,H1,I1,r1,q1⟩=>thn (hb pins s1 σ H1 _ I1 q1) λu s2 ⟨y,H2,I2,r2,q2⟩=>
  thn (ho pins s2 σ H2 x y v u _ I2 r1 r2 q2) λc s3 ⟨z,H3,I3,r3,k,e,q3⟩=>?_) hm
 subst e;cases r3;exact vQ ⟨H3,I3,q3⟩
noncomputable def tChain(r r':R2)(ta tb tc:TE):TE:=λσ H Q=>ta σ H λx H1=>tb σ H1 λy H2=>r x y H2 λz H3=>∃k,z=.bl k/\
 (if k=true then tc σ H3 λw' H4=>r' y w' H4 Q else Q (.bl false) H3)
theorem pe_chain{op op':CmpOp}{r r':R2}(ho:OpR X (compareOp op) r)(ho':OpR X (compareOp op') r')(ha:PE X a ta)(hb:PE X b tb)(hc:PE X c tc)
  (hm:lastMarks [op,op'] [b,c]=false:=by with_unfolding_all rfl):PE X (.Compare a [op,op'] [b,c] pos) (tChain r r' ta tb tc):=by
 intro pins s σ H Q I h;refine Compare_chain (thn (ha pins s σ H _ I h) λv s1 ⟨x,H1,I1,r1,q1⟩=>chain_link (thn (hb pins s1 σ H1 _ I1 q1) λu s2 ⟨y,H2,I2,r2,q2⟩=>
  thn (ho pins s2 σ H2 x y v u _ I2 r1 r2 q2) λd s3 ⟨z,H3,I3,r3,k,e,q3⟩=>?_)) hm
 subst e;cases r3;refine vQ ?_;cases k with
 |false=>exact ite_ff ⟨.bl false,H3,I3,rfl,q3⟩
 |true=>exact ite_tt (chain_last (thn (hc pins s3 σ H3 _ I3 q3) λw' s4 ⟨z',H4,I4,r4,q4⟩=>ho' pins s4 σ H4 y z' u w' Q I4 r2 r4 q4))
theorem pt_chain{op op':CmpOp}{r r':R2}(ho:OpR X (compareOp op) r)(ho':OpR X (compareOp op') r')(ha:PE X a ta)(hb:PE X b tb)(hc:PE X c tc)
  (hm:lastMarks [op,op'] [b,c]=false:=by with_unfolding_all rfl):PT X (.Compare a [op,op'] [b,c] pos) (qBk (tChain r r' ta tb tc)):=by
 intro pins s σ H Q I h;refine isTrue_chain (thn (ha pins s σ H _ I h) λv s1 ⟨x,H1,I1,r1,q1⟩=>test_link (thn (hb pins s1 σ H1 _ I1 q1) λu s2 ⟨y,H2,I2,r2,q2⟩=>
  thn (ho pins s2 σ H2 x y v u _ I2 r1 r2 q2) λd s3 ⟨z,H3,I3,r3,k,e,q3⟩=>?_)) hm
 subst e;cases r3;refine vQ ?_;cases k with
 |false=>
  obtain⟨k',e',q'⟩:=q3;cases e';exact ite_ff ⟨H3,I3,q'⟩
 |true=>
  refine ite_tt (test_last (thn (hc pins s3 σ H3 _ I3 q3) λw' s4 ⟨z',H4,I4,r4,q4⟩=>thn (ho' pins s4 σ H4 y z' u w' _ I4 r2 r4 q4) λd' s5 ⟨z2,H5,I5,r5,k2,e2,q5⟩=>?_));subst e2;cases r5;exact vQ ⟨H5,I5,q5⟩
theorem D9:(sizeLine:Nat)<2 ^ 63:=by rw[sizeLine_eq];decide
theorem vals1{x:V}{us:List Value}(r:Vals [x] us):∃u,us=[u]/\RelV x u:=by
 cases r with
 |cons r1 r2=>cases r2;exact⟨_,rfl,r1⟩
theorem vals2{x y:V}{us:List Value}(r:Vals [x,y] us):∃u w',us=[u,w']/\RelV x u/\RelV y w':=by
 cases r with
 |cons r1 r2=>
  cases r2 with
  |cons r3 r4=>cases r4;exact⟨_,_,rfl,r1,r3⟩
theorem call_max2(hc:X.calm=true):zE X (.builtin "max") (λxs H Q=>∃i j,xs=[.int i,.int j]/\Q (.int (if j>i then j else i)) H):=by
 intro pins s σ H xs us Q I r h;obtain⟨i,j,rfl,q⟩:=h;obtain⟨u,w',rfl,⟨t,rfl⟩,⟨t',rfl⟩⟩:=vals2 r;refine max_two_ints (I.ok.hd hc) λh' tk k=>⟨_,H,I.kept k,?_,q⟩
 by_cases hj:j>i
 ·rw[if_pos hj,if_pos hj];exact⟨_,rfl⟩
 ·rw[if_neg hj,if_neg hj];exact⟨_,rfl⟩
theorem call_min2(hc:X.calm=true):zE X (.builtin "min") (λxs H Q=>∃i j,xs=[.int i,.int j]/\Q (.int (if j<i then j else i)) H):=by
 intro pins s σ H xs us Q I r h;obtain⟨i,j,rfl,q⟩:=h;obtain⟨u,w',rfl,⟨t,rfl⟩,⟨t',rfl⟩⟩:=vals2 r;refine min_two_ints (I.ok.hd hc) λh' tk k=>⟨_,H,I.kept k,?_,q⟩
 by_cases hj:j<i
 ·rw[if_pos hj,if_pos hj];exact⟨_,rfl⟩
 ·rw[if_neg hj,if_neg hj];exact⟨_,rfl⟩
theorem call_int1:zE X (.type "int") (λxs H Q=>(∃i,xs=[.int i]/\Q (.int i) H)\/∃k,xs=[.bl k]/\Q (.int (if k then 1 else 0)) H):=by
 intro pins s σ H xs us Q I r h;rcases h with⟨i,rfl,q⟩|⟨k,rfl,q⟩
 ·obtain⟨u,rfl,t,rfl⟩:=vals1 r;exact call_int_int ⟨.int i,H,I,⟨_,rfl⟩,q⟩
 ·obtain⟨u,rfl,r1⟩:=vals1 r;cases r1;exact call_int_bool ⟨.int (if k then 1 else 0),H,I.tok _,⟨_,rfl⟩,q⟩
end
structure Room(k:Nat)(A:Around):Prop where
 hd:A.handled=none
 dp:A.depth+3*k+5<recursionLimit
 un:A.units+16*k+200<cLine
 gd:A.guards=some []
theorem Room.deeper{k:Nat}{A:Around}(r:Room (k+1) A)(env:Env):Room k (A.deeper env):=
 ⟨r.hd,by have:=r.dp;show A.depth+1+3*k+5<_;omega,by have:=r.un;show A.units+3+16*k+200<_;omega,r.gd⟩
theorem Room.depth{k:Nat}{A:Around}(r:Room k A):A.depth<recursionLimit:=by have:=r.dp;omega
theorem Room.units{k:Nat}{A:Around}(r:Room k A):A.units+64<cLine:=by have:=r.un;omega
noncomputable def qDx:TA:=λ_ H Q=>Q [] H
noncomputable def qDX(ta:TE)(tr:TA):TA:=λσ H Q=>ta σ H λx H1=>tr σ H1 λxs H2=>Q (x::xs) H2
section
variable{X:Cx}{e:Expr}{es:List Expr}{te:TE}{t:TA}{pos:Pos}
theorem pa_nil:PA X [] qDx:=λ_ _ _ _ H Q I h=>Calls.spliced_nil ⟨[],H,I,.nil,h⟩
theorem pa_cons(ha:PE X e te)(hr:PA X es t)(hs:starEach (e::es) X.env=(false,eval e X.env)::starEach es X.env:=by rfl):PA X (e::es) (qDX te t):=by
 intro pos pins s σ H Q I h;rw[hs];show wpAny _ _ (spliced ((false,eval e X.env)::backTo pos (starEach es X.env))) _ _ s;refine Calls.spliced_cons (thn (ha pins s σ H _ I h) λu s1 ⟨x,H1,I1,r1,q1⟩=>?_);exact thn (hr pos pins s1 σ H1 _ I1 q1) λus s2 ⟨xs,H2,I2,r2,q2⟩=>⟨x::xs,H2,I2,.cons r1 r2,q2⟩
noncomputable def qFE(t:TA):TE:=λσ H Q=>t σ H λxs H1=>xs.length<=sizeLine/\∀p,H1 p=none->Q (.ref p) (upd H1 p (.tup xs))
noncomputable def qEm(t:TA):TE:=λσ H Q=>t σ H λxs H1=>xs.length<=sizeLine/\∀p,H1 p=none->Q (.ref p) (upd H1 p (.lst xs))
theorem pe_tup {x1}(h:PA X es t):PE X (.Tuple es x1 pos) (qFE t):=by
 intro pins s σ H Q I hq;refine wpAny_Tuple_spliced (thn (h pos pins s σ H _ I hq) λus s1 ⟨xs,H1,I1,r,z,q⟩=>⟨by rw[<-r.length];exact z,?_⟩);have hf:H1 s1.heap.objs.size=none:=I1.hok.fresh (Nat.le_refl _);refine⟨.ref s1.heap.objs.size,upd H1 s1.heap.objs.size (.tup xs),I1.laid (t':=s1.toks) (λb u e=>Heap.get?_push_of_some _ e) (Nat.le_refl _) ?_,rfl,q _ hf⟩;exact⟨z,us,r,⟨_,Heap.get?_push_size _ rfl,rfl,_,rfl⟩⟩
theorem pe_lst(h:PA X es t):PE X (.List es pos) (qEm t):=by
 intro pins s σ H Q I hq;refine wpAny_List_spliced (thn (h pos pins s σ H _ I hq) λus s1 ⟨xs,H1,I1,r,z,q⟩=>⟨by rw[<-r.length];exact z,?_⟩);have hf:H1 s1.heap.objs.size=none:=I1.hok.fresh (Nat.le_refl _);refine⟨.ref s1.heap.objs.size,upd H1 s1.heap.objs.size (.lst xs),I1.laid (t':=s1.toks) (λb u e=>Heap.get?_push_of_some _ e) (Nat.le_refl _) ?_,rfl,q _ hf⟩;exact⟨z,us,0,r,Heap.get?_push_size _ rfl⟩
end
noncomputable abbrev Sp:=List V->Hp->VK->XK->Prop
noncomputable abbrev CXT:=List Env->Hp->Shared->XK->Value->Shared->Prop
structure qCQ(P:Program)(w:World)(K:PySem.W.Frag)(mg:Str->Option Value)(base:Heap)(A:Around)(outer:List Env)(s:Shared)(H:Hp):Prop where
 frames:A.frames=some outer
 mod:Mod K mg base
 bs:∀b o,base.get? b=some o->s.heap.get? b=some o/\H b=none
 bsz:base.objs.size<=s.heap.objs.size
 funs:s.heap.FunFrames base outer
 frf:∀b∈frs outer,H b=none
 hok:HOk P w H s.heap
 bare:AllBare s.gens
def CE(outer:List Env)(P:Program)(w:World)(H:Hp)(s:Shared)(Q:VK)(u:Value)(s':Shared):Prop:=
 ∃v H',s'.os=s.os/\AllBare s'.gens/\Un (frs outer) [] H H' s.heap s'.heap/\HOk P w H' s'.heap/\RelV v u/\Q v H'
def CR(CX:CXT)(outer:List Env)(P:Program)(w:World)(H:Hp)(s:Shared)(Q:VK)(E:XK)(r:Result)(s':Shared):Prop:=
 match r with
 | .ok (.ret u)=>CE outer P w H s Q u s'
 | .ok _=>False
 | .error e=>CX outer H s E e s'
structure FnOk(P:Program)(w:World)(K:PySem.W.Frag)(mg:Str->Option Value)(base:Heap)(CX:CXT)(k:Nat)(f:Addr)(fd:FuncData)(ps:List Str)(sp:Sp):Prop where
 len:∀vs H Q E,sp vs H Q E->vs.length=ps.length
 run:∀(A:Around) (outer:List Env) (s:Shared) (H:Hp) (args:Args) (us:List Value) (vs:List V) (Q:VK) (E:XK),Room k A->qCQ P w K mg base A outer s H->BindsTo s fd args (ps.zip us)->Vals vs us->sp vs H Q E ->
  codeAny (model P w) A (.call (.ref f) args) (CR CX outer P w H s Q E) s
section
variable{X:Cx}{pins:List (Addr×Obj)}{σ:St}{H:Hp}{s s':Shared}
theorem Inv.env0(I:Inv X pins σ H s):qCQ X.prog X.w X.K X.mg X.base X.A X.stack s H:=
 ⟨I.ok.frames,I.ok.mod,I.bs,Nat.le_trans I.ok.bsz I.sz,I.stack,I.stkFree,I.hok,I.bare⟩
theorem Inv.after{Q:VK}{u:Value}(I:Inv X pins σ H s)(h:CE X.stack X.prog X.w H s Q u s'):EP X pins σ Q u s':=by
 obtain⟨v,H',os,bare,un,hok,r,q⟩:=h;obtain⟨hh,g,d,t,os'⟩:=s';obtain rfl:os'=s.os:=os;exact⟨v,H',I.call (h':=hh) (g':=g) (d':=d) (t':=t) (ch:=[]) un hok bare (λb z=>absurd z (by simp)),r,q⟩
end
noncomputable def tCall(sp:Sp)(dvs:List V)(E:XK)(t:TA):TE:=λσ H Q=>t σ H λvs H1=>sp (vs++dvs) H1 Q E
def Binds(K:PySem.W.Frag)(fd:FuncData)(ps:List Str)(ds:List Value):Prop:=
 ∀(s:Shared) (us:List Value),K.In s.heap->(us++ds).length=ps.length->BindsTo s fd ⟨us,[]⟩ (ps.zip (us++ds))
theorem Binds.all{K:PySem.W.Frag}{fd:FuncData}{ps:List Str}(h:∀us:List Value,us.length=ps.length->bindArgs fd ⟨us,[]⟩=pure (ps.zip us)):Binds K fd ps []:=λs us _ hl=>by
 rw[List.append_nil]at hl ⊢;exact .of_eq (h us hl)
def F8(CX:CXT)(X:Cx)(E:XK):Prop:=∀(pins:List (Addr×Obj)) (σ:St) (H:Hp) (s:Shared) (e:Value) (s':Shared),Inv X pins σ H s->CX X.stack H s E e s'->X.xe e s'
section
variable{X:Cx}{CX:CXT}{k:Nat}{f C:Addr}{fd:FuncData}{ps:List Str}{sp:Sp}{dvs:List V}{ds:List Value}{E:XK}{x m:Str}{p pos apos:Pos}{e o:Expr}{es:List Expr}{ta:TE}{t:TA}
theorem k8{pins:List (Addr×Obj)}{σ:St}{H:Hp}{s:Shared}{Q:VK}{us:List Value}{vs:List V}(F:FnOk X.prog X.w X.K X.mg X.base CX k f fd ps sp)(hr:Room k X.A)(hb:Binds X.K fd ps ds)(hd:Vals dvs ds)(hx:F8 CX X E)
  (I:Inv X pins σ H s) (r:Vals vs us) (h:sp (vs++dvs) H Q E):wpAny (model X.prog X.w) X.A (call (.ref f) us) (EP X pins σ Q) X.xe s:=by
 have r2:Vals (vs++dvs) (us++ds):=r.append hd;have hl:(us++ds).length=ps.length:=by rw[<-r2.length];exact F.len _ _ _ _ h
 refine wpAny_call (codeAny_mono (F.run X.A X.stack s H ⟨us,[]⟩ (us++ds) (vs++dvs) Q E hr I.env0 (hb s us I.kIn hl) r2 h) λr s' hq=>?_);cases r with
 |error e=>exact hx pins σ H s e s' I hq
 |ok fl=>
  cases fl with
  |ret u=>exact I.after hq
  |next=>exact False.elim hq
  |brk=>exact False.elim hq
  |cont=>exact False.elim hq
theorem pe_call(F:FnOk X.prog X.w X.K X.mg X.base CX k f fd ps sp)(hr:Room k X.A)(hg:Gl X x)(hm:X.mg x=some (.ref f))(hk:PySem.W.keepIn X.K (.ref f)=true)(hb:Binds X.K fd ps ds)(hd:Vals dvs ds)(hx:F8 CX X E)
  (ha:PA X (e::es) t) (hdb:(x==("__debug__":Str))=false:=by decide) (he:starEach (e::es) X.env=(false,eval e X.env)::starEach es X.env:=by rfl) (hpl:(backTo pos (starEach es X.env)).any (·.1)=false:=by rfl):
  PE X (.Call (.Name x p) (e::es) [] pos) (tCall sp dvs E t):=by
 intro pins s σ H Q I h;refine wpAny_Call_Name_kw (Jw I hg hm ?_ hdb);refine PySem.W.callWith_K (h₀:=X.base) I.ok.mod.kin hk (thn (ha pos pins s σ H _ I h) λus s1 ⟨vs,H1,I1,r,q⟩=>⟨I1.kIn,?_⟩) he hpl;exact k8 F hr hb hd hx I1 r q
theorem pe_call0(F:FnOk X.prog X.w X.K X.mg X.base CX k f fd ps sp)(hr:Room k X.A)(hg:Gl X x)(hm:X.mg x=some (.ref f))(hk:PySem.W.keepIn X.K (.ref f)=true)(hb:Binds X.K fd ps ds)(hd:Vals dvs ds)(hx:F8 CX X E)
  (hdb:(x==("__debug__":Str))=false:=by decide):PE X (.Call (.Name x p) [] [] pos) (tCall sp dvs E qDx):=by
 intro pins s σ H Q I h;refine wpAny_Call_Name_kw (Jw I hg hm ?_ hdb);exact PySem.W.callWith_K0 I.kIn hk (k8 (us:=[]) F hr hb hd hx I .nil h)
end
structure zm(N P:List Str)(sc:Scope):Prop where
 kind:sc.kind=.function
 co:sc.isCoroutine=false
 gen:sc.isGenerator=false
 nd:N.Nodup
 pre:N.take P.length=P
 par:∀x∈P,sc.names.lookup x=some .local\/sc.names.lookup x=some .cell
 nofree:∀y∈sc.names,y.2≠.free
theorem JK{kindOf:Str->Option NameKind}{x:Str}:∀{binds:List (Str×Value)}{m:Str->Option Value},(∀v,(x,v)∉binds)->bindL kindOf binds m x=m x
 | [],_,_=>rfl
 | (n,v)::r,m,h=>by
  unfold bindL;rw[JK λw hw=>h w (List.mem_cons_of_mem _ hw)];split
  ·have:x≠n:=by rintro rfl;exact h v List.mem_cons_self
   simp[this]
  ·rfl
theorem JJ{kindOf:Str->Option NameKind}{x:Str}:∀{binds:List (Str×Value)}{m:Str->Option Value},(∀v,(x,v)∉binds)->bindC kindOf binds m x=m x
 | [],_,_=>rfl
 | (n,v)::r,m,h=>by
  unfold bindC;rw[JJ λw hw=>h w (List.mem_cons_of_mem _ hw)];split
  ·rfl
  ·have:x≠n:=by rintro rfl;exact h v List.mem_cons_self
   simp[this]
theorem Ja{kindOf:Str->Option NameKind}{x:Str}{v:Value}:∀{P:List Str}{vs:List Value}{i:Nat}{m:Str->Option Value},P.Nodup->P[i]?=some x->vs[i]?=some v->kindOf x=some .local ->
  bindL kindOf (P.zip vs) m x=some v
 | [],_,_,_,_,h,_,_=>by simp at h
 |_::_,[],_,_,_,_,h,_=>by simp at h
 |p::P,w::vs,0,m,nd,h1,h2,hk=>by
  simp at h1 h2;subst h1;subst h2;show bindL kindOf ((p,w)::P.zip vs) m p=_;unfold bindL;rw[JK λv hv=>(vG.mp nd).1 (List.of_mem_zip hv).1,if_pos hk];simp
 |p::P,w::vs,i+1,m,nd,h1,h2,hk=>by
  show bindL kindOf ((p,w)::P.zip vs) m x=_;unfold bindL;exact Ja (i:=i) (vG.mp nd).2 (by simpa using h1) (by simpa using h2) hk
theorem JA{kindOf:Str->Option NameKind}{x:Str}{v:Value}:∀{P:List Str}{vs:List Value}{i:Nat}{m:Str->Option Value},P.Nodup->P[i]?=some x->vs[i]?=some v->kindOf x≠some .local ->
  bindC kindOf (P.zip vs) m x=some v
 | [],_,_,_,_,h,_,_=>by simp at h
 |_::_,[],_,_,_,_,h,_=>by simp at h
 |p::P,w::vs,0,m,nd,h1,h2,hk=>by
  simp at h1 h2;subst h1;subst h2;show bindC kindOf ((p,w)::P.zip vs) m p=_;unfold bindC;rw[JJ λv hv=>(vG.mp nd).1 (List.of_mem_zip hv).1,if_neg hk];simp
 |p::P,w::vs,i+1,m,nd,h1,h2,hk=>by
  show bindC kindOf ((p,w)::P.zip vs) m x=_;unfold bindC;exact JA (i:=i) (vG.mp nd).2 (by simpa using h1) (by simpa using h2) hk
noncomputable def start(N:List Str)(vs:List V):St:=vs.map some++List.replicate (N.length-vs.length) none
noncomputable def cxOf(CX:CXT)(P:Program)(w:World)(K:PySem.W.Frag)(mg:Str->Option Value)(base:Heap)(N:List Str)(qual:Str)(scope:Scope)(f:Addr)(cd:Value)(A:Around)(outer:List Env)(s:Shared)(H:Hp)(E:XK):Cx where
 prog:=P
 w:=w
 K:=K
 mg:=mg
 base:=base
 A:=A.deeper (envOfC qual scope s.heap.objs.size f cd)
 N:=N
 s₀:=s
 H₀:=H
 env:=envOfC qual scope s.heap.objs.size f cd
 outer:=outer
 stack:=envOfC qual scope s.heap.objs.size f cd::outer
 ex:=[]
 calm:=true
 fn:=λ_=>true
 pn:=[]
 xe:=λe s'=>wpAny (model P w) (A.deeper (envOfC qual scope s.heap.objs.size f cd)) (leaving (envOfC qual scope s.heap.objs.size f cd) e) (λ_ s''=>CX outer H s E e s'') (λe' s''=>CX outer H s E e' s'') s'
theorem G3{sc:Scope}{n:Nat}{x:Str}(h:sc.names.lookup x=some .cell):∃c,(cellsFrom n sc.names []).lookup x=some c:=by
 have q:=PySem.W.cellsFrom_some sc.names n [] (.inl h);exact Option.isSome_iff_exists.mp q
theorem L8{CX:CXT}{P:Program}{w:World}{K:PySem.W.Frag}{mg:Str->Option Value}{base:Heap}{N ps:List Str}{qual:Str}{scope:Scope}{f:Addr}{cd:Value}{A:Around}{outer:List Env}{s s1:Shared}{H:Hp}{E:XK}{us:List Value}{vs:List V}
  (S:zm N ps scope) (hd:A.handled=none) (e0:qCQ P w K mg base A outer s H) (hl:vs.length=ps.length) (r:Vals vs us)
  (x:InCallC s s.heap.objs.size (bindL (envOfC qual scope s.heap.objs.size f cd).kindOf (ps.zip us) λ_=>none) (cellsFrom (s.heap.objs.size+1) scope.names []) (bindC (envOfC qual scope s.heap.objs.size f cd).kindOf (ps.zip us) λ_=>none) s1):
  Inv (cxOf CX P w K mg base N qual scope f cd A outer s H E) [] (start N vs) H s1:=by
 have hpl:ps.length<=N.length:=by have:=congrArg List.length S.pre;rw[wN]at this;omega
 obtain⟨h1,tk,rfl,hk⟩:=x.done;have noA:∀b:Addr,b∉(cxOf CX P w K mg base N qual scope f cd A outer s H E).ex:=λb z=>absurd (show b∈([]:List Addr) from z) (by simp);refine⟨⟨e0.mod,S.kind,rfl,rfl,Nat.le_refl _,λy z c h1 h2=>?_,λy hy=>?_,λy c _ h=>?_,λ_=>hd,Around.frames_deeper e0.frames,.inr ⟨rfl,rfl⟩,λb z=>absurd z (noA b),e0.bs,e0.bsz,λb _ _=>noA b,λb z=>absurd z (noA b),e0.funs,e0.frf⟩,
  rfl,e0.bare,Un.kept hk,⟨_,x.toInCall.ns,λi y v h1 h2 h3=>?_⟩,λy c h=>⟨_,x.cell y c h⟩,e0.hok.fresh (Nat.le_refl _),λy c h=>?_,λp hp=>absurd (show p∈([]:List (Addr×Obj)) from hp) (by simp),e0.hok.kept hk,?_⟩
 ·exact name_of_addr x.apart (PySem.mem_of_lookup h1) (PySem.mem_of_lookup h2)
 ·have hy:scope.names.lookup y=some .cell\/scope.names.lookup y=some .free:=hy;rcases hy with hy|hy
  ·exact G3 hy
  ·exact absurd rfl (S.nofree _ (PySem.mem_of_lookup hy))
 ·exact wm (x.above y c (PySem.mem_of_lookup h))
 ·have hi:i<vs.length:=by
   unfold start at h2;by_cases hi:i<vs.length
   ·exact hi
   ·rw[List.getElem?_append_right (by simpa using hi)]at h2;rw[List.getElem?_replicate]at h2;split at h2<;>cases h2
  have ha:vs[i]?=some v:=by
   unfold start at h2;rw[List.getElem?_append_left (by simpa using hi),wQ]at h2;cases e:vs[i]? with
   |none=>rw[e]at h2;cases h2
   |some a=>rw[e]at h2;cases h2;rfl
  obtain⟨u,hu,rv⟩:=r.get ha;have hp:ps[i]?=some y:=by
   rw[<-S.pre,wT (by omega)];exact h1
  have ndP:ps.Nodup:=by rw[<-S.pre];exact S.nd.sublist (List.take_sublist _ _)
  refine⟨u,rv,?_⟩;rcases S.par y (List.mem_of_getElem? hp) with k|k
  ·exact .inl ⟨k,Ja ndP hp hu k⟩
  ·obtain⟨c,e⟩:=G3 (n:=s.heap.objs.size+1) k;refine .inr ⟨.inl k,c,e,?_⟩;have q:=x.cell y c e;rw[JA ndP hp hu (by show scope.names.lookup y≠_;rw[k];decide)]at q;exact q
 ·exact e0.hok.fresh (wm (x.above y c (PySem.mem_of_lookup h)))
 ·unfold start;show _=N.length;rw[List.length_append,wH,List.length_replicate];omega
theorem qDL{CX:CXT}{P:Program}{w:World}{K:PySem.W.Frag}{mg:Str->Option Value}{base:Heap}{k:Nat}{f:Addr}{name qual:Str}{params:Arguments}{body:List Stmt}{scope:Scope}{dV kV doc pm cdv ct oc:Value}{an od:Option Addr}
  {osl:Array (Option Value)}{N ps:List Str}{sp:Sp}(lk:K.lookup f=some ⟨oc,od,.func (PySem.W.fnOf name qual params body scope dV kV doc pm an cdv ct),osl⟩) (hcd:PySem.W.codeIn K cdv qual=true) (S:zm N ps scope)
  (len:∀vs H Q E,sp vs H Q E->vs.length=ps.length)
  (hbody:∀(A:Around) (outer:List Env) (s:Shared) (H:Hp) (vs:List V) (Q:VK) (E:XK),Room k (A.deeper (envOfC qual scope s.heap.objs.size f cdv))->sp vs H Q E ->
   ∃t,PSs (cxOf CX P w K mg base N qual scope f cdv A outer s H E) body t/\t { nx:=λ_ H'=>Q .non H',rt:=Q } (start N vs) H):
  FnOk P w K mg base CX (k+1) f (PySem.W.fnOf name qual params body scope dV kV doc pm an cdv ct) ps sp:=by
 refine⟨len,λA outer s H args us vs Q E hr e0 hb r hsp=>?_⟩;have hl:=len _ _ _ _ hsp;have KX:K.In s.heap:=e0.mod.kin.keeps λb o e=>(e0.bs b o e).1;have lim:s.heap.NoLimit:=e0.mod.nolimit.keeps λb o e=>(e0.bs b o e).1;have hkind:∀y∈ps.zip us,scope.names.lookup y.1=some .local\/(scope.names.lookup y.1=some .cell/\((cellsFrom (s.heap.objs.size+1) scope.names []).lookup y.1).isSome=true):=λ⟨n,v⟩ hy=>by
  rcases S.par n (List.of_mem_zip hy).1 with q|q
  ·exact .inl q
  ·exact .inr ⟨q,PySem.W.cellsFrom_some _ _ _ (.inl q)⟩
 refine codeAny_call_function hr.depth (KX _ _ lk) rfl S.co S.gen rfl (PySem.W.codeRec_of KX hcd) (hb _ _ _ _ ?_);refine wpAny_newFunctionEnv_cells S.kind hkind λenv he s1 x=>?_;subst he;refine⟨lim.keeps x.toInCall.keep,codeAny_func ?_⟩;obtain⟨t,ht,hq⟩:=hbody A outer s H vs Q E (hr.deeper _) hsp;have I:Inv (cxOf CX P w K mg base N qual scope f cdv A outer s H E) [] (start N vs) H s1:=L8 S hr.hd e0 hl r x;refine wpAny_mono (ht [] s1 (start N vs) H _ I hq) (λfl s' hs=>?_) λe s' hs=>hs;have fin:∀{σ':St}{H':Hp}{v:V}{u:Value},Inv (cxOf CX P w K mg base N qual scope f cdv A outer s H E) [] σ' H' s'->RelV v u->Q v H'->CE outer P w H s Q u s':=
  λ{σ' H' v u} J rv q=>⟨v,H',J.os,J.bare,J.base,J.hok,rv,q⟩
 cases fl with
 |ret u=>
  obtain⟨v,σ',H',J,rv,q⟩:=hs;exact fin J rv q
 |next=>
  obtain⟨σ',H',J,q⟩:=hs;exact fin (v:=V.non) (u:=Value.none) J rfl q
 |brk=>
  obtain⟨_,_,_,q⟩:=hs;exact False.elim q
 |cont=>
  obtain⟨_,_,_,q⟩:=hs;exact False.elim q
section
variable{X:Cx}{x:Str}{p pos:Pos}{e:Expr}{es:List Expr}{t:TA}{id T:String}{r:List V->Hp->VK->Prop}
noncomputable def tCB(r:List V->Hp->VK->Prop)(t:TA):TE:=λσ H Q=>t σ H λvs H1=>r vs H1 Q
theorem pe_callB(hc:zE X (.builtin id) r)(hg:Gl X x)(hm:X.mg x=none)(hv:bootBuiltins x=some (.builtin id))(ha:PA X (e::es) t)(hn:x≠"__name__":=by decide)(hdb:(x==("__debug__":Str))=false:=by decide)
  (he:starEach (e::es) X.env=(false,eval e X.env)::starEach es X.env:=by rfl) (hpl:(backTo pos (starEach es X.env)).any (·.1)=false:=by rfl):PE X (.Call (.Name x p) (e::es) [] pos) (tCB r t):=by
 intro pins s σ H Q I h;refine wpAny_Call_Name_kw (ld_blt I hg hm hv ?_ hn hdb);exact PyProof.Rows.callWith_builtin1 (thn (ha pos pins s σ H _ I h) λus s1 ⟨vs,H1,I1,r1,q1⟩=>hc pins s1 σ H1 vs us Q I1 r1 q1) he hpl
theorem pe_callTy(hc:zE X (.type T) r)(hg:Gl X x)(hm:X.mg x=none)(hv:bootBuiltins x=some (.type T))(ha:PA X (e::es) t)(hn:x≠"__name__":=by decide)(hdb:(x==("__debug__":Str))=false:=by decide)
  (he:starEach (e::es) X.env=(false,eval e X.env)::starEach es X.env:=by rfl) (hpl:(backTo pos (starEach es X.env)).any (·.1)=false:=by rfl):PE X (.Call (.Name x p) (e::es) [] pos) (tCB r t):=by
 intro pins s σ H Q I h;refine wpAny_Call_Name_kw (ld_blt I hg hm hv ?_ hn hdb);exact PyProof.Rows.callWith_type1 (thn (ha pos pins s σ H _ I h) λus s1 ⟨vs,H1,I1,r1,q1⟩=>hc pins s1 σ H1 vs us Q I1 r1 q1) he hpl
end
end L2
namespace HT
open PySem PyProof.Rows
section
variable{prog:Program}{w:World}{A:Around}{E:Value->Shared->Prop}{s:Shared}
theorem cat_tup{t b:Addr}{vs ws:List Value}{Q:Value->Shared->Prop}(ht:IsTup s.heap t vs.toArray)(hb:IsTup s.heap b ws.toArray)(hv:vs≠[])
  (h1:ws=[]->Q (.ref t) s) (h2:ws≠[]->Q (.ref s.heap.objs.size) { s with heap:=s.heap.push { cls:=.type "tuple",data:=.seq (vs++ws).toArray } })
  (hsz:vs.length+ws.length<=sizeLine):wpAny (model prog w) A (binaryOp .Add (.ref t) (.ref b)) Q E s:=by
 obtain⟨⟨cls,dd,data,sl⟩,ho,hc,n,hd⟩:=id ht;obtain⟨⟨cls2,dd2,data2,sl2⟩,ho2,hc2,n2,hd2⟩:=id hb;simp only at hc hd hc2 hd2;subst hc hd hc2 hd2;have e:vs.toArray++ws.toArray=(vs++ws).toArray:=by simp
 by_cases hw:ws=[]
 ·exact concat_meets ⟨_,ho,rfl⟩ ⟨_,ho2,rfl⟩ noFill_tuple_add seq_tuple_add PySem.F.slot_tuple_add PySem.F.entry_tuple_add (PySem.F.args_tuple_add_2 _ _)
   (tuple_addW1 t b vs.toArray ws.toArray n n2 dd dd2 sl sl2 (by simpa using hv) (by simp[hw])) ⟨ho,ho2,h1 hw⟩
 ·refine concat_meets ⟨_,ho,rfl⟩ ⟨_,ho2,rfl⟩ noFill_tuple_add seq_tuple_add PySem.F.slot_tuple_add PySem.F.entry_tuple_add (PySem.F.args_tuple_add_2 _ _)
   (tuple_addW2 t b vs.toArray ws.toArray n n2 dd dd2 sl sl2 (by simpa using hv) (by simpa using hw) (by rw[wD,wD];exact hsz)) ⟨ho,ho2,?_⟩
  rw[e];exact h2 hw
noncomputable def sIx(n d:Nat):Option Int->Nat
 |none=>d
 |some v=>if v<0 then (v+(n:Int)).toNat else min v.toNat n
theorem sIx_none(n d:Nat):sIx n d none=d:=rfl
theorem sIx_nat(n d k:Nat):sIx n d (some (k:Int))=min k n:=by
 show (if (k:Int)<0 then ((k:Int)+(n:Int)).toNat else min (k:Int).toNat n)=min k n;rw[if_neg (by omega),we]
theorem qBx(n d:Nat)(hd:d<=n)(o:Option Int):sIx n d o<=n:=by
 cases o with
 |none=>exact hd
 |some v=>
  show (if v<0 then (v+(n:Int)).toNat else min v.toNat n)<=n;by_cases hv:v<0
  ·rw[if_pos hv];omega
  ·rw[if_neg hv];exact Nat.min_le_right _ _
theorem N0(v:Int)(n d:Nat):(if v<0 then max (v+(n:Int)) 0 else min v (n:Int))=((sIx n d (some v):Nat):Int):=by
 show (if v<0 then max (v+(n:Int)) 0 else min v (n:Int))=(((if v<0 then (v+(n:Int)).toNat else min v.toNat n):Nat):Int);by_cases hv:v<0
 ·simp only[if_pos hv];omega
 ·simp only[if_neg hv];omega
theorem J8(lo hi:Option Int)(n:Nat):Builtin.Slice.sliceAdjust lo hi 1 (n:Int)=(((sIx n 0 lo:Nat):Int),((sIx n n hi:Nat):Int)):=by
 have h1:¬ ((1:Int)<0):=by omega
 unfold Builtin.Slice.sliceAdjust;simp only[h1,if_false];refine Prod.ext ?_ ?_
 ·cases lo with
  |none=>rfl
  |some v=>exact N0 v n 0
 ·cases hi with
  |none=>rfl
  |some v=>exact N0 v n n
theorem K7(i j:Nat):Builtin.Slice.slicePlaces (i:Int) (j:Int) 1=j-i:=by
 unfold Builtin.Slice.slicePlaces;have h1:(1:Int)>0:=by omega
 simp only[h1,if_true,Int.ediv_one];split<;>omega
theorem ZA{v:Value}{o:Option Int}{Q:Option Int->Shared->Prop}(p:IsPart v o)(h:Q o s):wpAny (model prog w) A (Builtin.Slice.slicePartIndex v) Q E s:=by
 cases p with
 |none=>exact slicePart_none h
 |int i t=>exact slicePart_int h
theorem QF{sl:Addr}{vl vu:Value}{lo hi:Option Int}{n:Nat}{Q:Int×Int×Nat->Shared->Prop}(hs:s.heap.IsSliceOf sl vl vu .none)(pl:IsPart vl lo)(pu:IsPart vu hi)
  (h:Q (((sIx n 0 lo:Nat):Int),1,sIx n n hi-sIx n 0 lo) s):wpAny (model prog w) A (Builtin.Slice.sliceApplied (.ref sl) (pure (n:Int))) Q E s:=by
 obtain⟨os,hos,hcs,hds⟩:=id hs;unfold Builtin.Slice.sliceApplied Builtin.Slice.sliceFields;refine vK (vK (wpAny_field hos hds (x:=vl) rfl (vK (wpAny_field hos hds (x:=vu) rfl (vK (wpAny_field hos hds (x:=.none) rfl (vL ?_)))))));refine vK (slicePart_none ?_);show wpAny _ _ (if ((1:Int)==0)=true then _ else _) _ _ s;rw[if_neg (by decide)];refine vK (ZA pl (vK (ZA pu (vK (vL ?_)))));show wpAny _ _ (match Builtin.Slice.sliceAdjust lo hi 1 (n:Int) with|(lo,hi)=>pure (lo,(1:Int),Builtin.Slice.slicePlaces lo hi 1)) _ _ s;rw[J8 lo hi n];show wpAny _ _ (pure (((sIx n 0 lo:Nat):Int),(1:Int),Builtin.Slice.slicePlaces ((sIx n 0 lo:Nat):Int) ((sIx n n hi:Nat):Int) 1)) _ _ s;rw[K7];exact vL h
theorem W8(xs:Array Value)(i k:Nat):((List.range k).filterMap λ(m:Nat)=>xs[((i:Int)+(m:Int)*1).toNat]?).toArray=((xs.toList.drop i).take k).toArray:=by
 have e:(λ(m:Nat)=>xs[((i:Int)+(m:Int)*1).toNat]?)=λm=>xs[i+m]?:=by
  funext m
  have:((i:Int)+(m:Int)*1).toNat=i+m:=by omega
  rw[this]
 rw[e];have:=pick_run xs i k;rw[List.filterMap_map]at this;have e2:((λx=>xs[x]?)∘λx=>i+x)=λm=>xs[i+m]?:=rfl;rw[e2]at this;rw[this]
theorem getItem_tuple_cut{t sl:Addr}{items:Array Value}{vl vu:Value}{lo hi:Option Int}{Q:Value->Shared->Prop}(ht:IsTup s.heap t items)(hs:s.heap.IsSliceOf sl vl vu .none)(pl:IsPart vl lo)(pu:IsPart vu hi)
  (hw:¬ (sIx items.size 0 lo=0/\sIx items.size items.size hi=items.size))
  (h:Q (.ref s.heap.objs.size) { s with heap:=s.heap.push { cls:=.type "tuple",data:=.seq ((items.toList.drop (sIx items.size 0 lo)).take (sIx items.size items.size hi-sIx items.size 0 lo)).toArray } })
  (hsz:items.size<=sizeLine):wpAny (model prog w) A (getItem (.ref t) (.ref sl)) Q E s:=by
 have htake:sizeOk (.seq ((items.toList.drop (sIx items.size 0 lo)).take (sIx items.size items.size hi-sIx items.size 0 lo)).toArray):=by
  show ((items.toList.drop (sIx items.size 0 lo)).take (sIx items.size items.size hi-sIx items.size 0 lo)).toArray.size<=sizeLine;rw[wD,wN,wb,Array.length_toList];omega
 have hj:sIx items.size items.size hi<=items.size:=qBx _ _ (Nat.le_refl _) hi;obtain⟨os,hos,hcs,hds⟩:=id hs;have hTs:s.TypeIs (.ref sl) "slice":=⟨os,hos,hcs⟩
 unfold getItem
 try with_reducible refine wpAny_holding ?_
 first|refine vK (vL ?_)|skip
 refine vK (wpAny_sequenceKey ht.typeIs (by decide) ?_);refine vK (wpAny_callSpecial?_slot (name:=Str.ofString "__getitem__") ht.typeIs PyProof.Rows.slot_tuple_getitem
  (wpAny_call_entry PyProof.Rows.slot_tuple_getitem ht.typeIs entry_tuple_getitem ?_ (args_tuple_getitem _ _)))
 show wpAny _ _ (Builtin.Tuple.tupleItemsOf (.ref t) >>=_) _ _ s;refine vK (tupleItemsOf_ ht ?_);refine vK (wpAny_typeOf hTs ?_);rw[if_pos (by decide)];refine vK (QF hs pl pu ?_);have hno:¬ ((((sIx items.size 0 lo:Nat):Int)==0&&(1:Int)==1&&(sIx items.size items.size hi-sIx items.size 0 lo)==items.size)=true):=by
  intro q;rw[Bool.and_eq_true,Bool.and_eq_true]at q;have q1:((sIx items.size 0 lo:Nat):Int)=0:=eq_of_beq q.1.1;have q2:sIx items.size items.size hi-sIx items.size 0 lo=items.size:=eq_of_beq q.2;exact hw ⟨by omega,by omega⟩
 show wpAny _ _ (if (((sIx items.size 0 lo:Nat):Int)==0&&(1:Int)==1&&(sIx items.size items.size hi-sIx items.size 0 lo)==items.size)=true then _ else _) _ _ s;rw[if_neg hno,W8]
 first
  |exact vK (m:=Builtin.Tuple.tupleExact _) (wpAny_newObj_type (vL ⟨_,rfl,vL h⟩) htake)
  |exact vK (m:=Builtin.Tuple.tupleExact _) (wpAny_newObj_type (vK (vL (vL ⟨_,rfl,vL h⟩))) htake)
  |exact vK (vK (m:=Builtin.Tuple.tupleExact _) (wpAny_newObj_type (vL (vL ⟨_,rfl,vL h⟩)) htake))
  |exact vK (vK (m:=Builtin.Tuple.tupleExact _) (wpAny_newObj_type (vL ⟨_,rfl,vL h⟩) htake))
end
end HT
namespace L2
open PySem PySem.Spec PyProof.Rows
noncomputable abbrev TO:=St->Hp->(Option Int->Hp->Prop)->Prop
def PO(X:Cx)(e:Option Expr)(t:TO):Prop:=
 ∀(pins:List (Addr×Obj)) (s:Shared) (σ:St) (H:Hp) (Q:Option Int->Hp->Prop),Inv X pins σ H s->t σ H Q ->
  wpAny (model X.prog X.w) X.A (evalPart e X.env) (λu s'=>∃o H',Inv X pins σ H' s'/\IsPart u o/\Q o H') X.xe s
noncomputable def y7:TO:=λ_ H Q=>Q none H
noncomputable def qC0(t:TE):TO:=λσ H Q=>t σ H λx H1=>∃i,x=.int i/\Q (some i) H1
section
variable{X:Cx}{e:Expr}{te:TE}{lo hi:Option Expr}{tl th:TO}{pos p2:Pos}
theorem po_none:PO X none y7:=by
 intro pins s σ H Q I h;rw[evalPart_none];exact vL ⟨none,H,I,.none,h⟩
theorem po_some(h:PE X e te):PO X (some e) (qC0 te):=by
 intro pins s σ H Q I hw;rw[evalPart_some];refine thn (h pins s σ H _ I hw) λu s1 ⟨x,H1,I1,r1,q1⟩=>?_;obtain⟨i,rfl,q⟩:=q1;obtain⟨t,rfl⟩:=r1;exact⟨some i,H1,I1,.int i t,q⟩
def SlR(X:Cx)(r:V->Option Int->Option Int->Hp->VK->Prop):Prop:=
 ∀(pins:List (Addr×Obj)) (s:Shared) (σ:St) (H:Hp) (x:V) (v vl vu:Value) (lo hi:Option Int) (sl:Addr) (Q:VK),Inv X pins σ H s->RelV x v->s.heap.IsSliceOf sl vl vu .none->IsPart vl lo->IsPart vu hi->r x lo hi H Q ->
  ∃T id,typeLookup (.type T) "__getitem__"=pure (some (.builtin id))/\s.TypeIs v T/\wpAny (model X.prog X.w) X.A (getItem v (.ref sl)) (EP X pins σ Q) X.xe s
theorem SlR.or{r r':V->Option Int->Option Int->Hp->VK->Prop}(h:SlR X r)(h':SlR X r'):SlR X (λx lo hi H Q=>r x lo hi H Q\/r' x lo hi H Q):=by
 intro pins s σ H x v vl vu lo hi sl Q I rx hs pl pu q;rcases q with q|q
 ·exact h pins s σ H x v vl vu lo hi sl Q I rx hs pl pu q
 ·exact h' pins s σ H x v vl vu lo hi sl Q I rx hs pl pu q
noncomputable def tSl(r:V->Option Int->Option Int->Hp->VK->Prop)(te:TE)(tl th:TO):TE:=λσ H Q=>te σ H λx H1=>tl σ H1 λl H2=>th σ H2 λu H3=>r x l u H3 Q
theorem pe_slice{r:V->Option Int->Option Int->Hp->VK->Prop}(hr:SlR X r)(he:PE X e te)(hl:PO X lo tl)(hu:PO X hi th):PE X (.Subscript e (.Slice lo hi none p2) pos) (tSl r te tl th):=by
 intro pins s σ H Q I h;refine Subscript_ (thn (he pins s σ H _ I h) λv s1 ⟨x,H1,I1,r1,q1⟩=>?_);refine wpAny_Slice (thn (hl pins s1 σ H1 _ I1 q1) λvl s2 ⟨l,H2,I2,pl,q2⟩=>thn (hu pins s2 σ H2 _ I2 q2) λvu s3 ⟨u,H3,I3,pu,q3⟩=>?_);rw[evalPart_none];refine vL ?_;have I4:Inv X pins σ H3 { s3 with heap:=s3.heap.push { cls:=.type "slice",data:=.fields #[vl,vu,.none] } }:=I3.kept (t':=s3.toks) λb ob q=>Heap.get?_push_of_some _ q;obtain⟨T,id,hT,ht,hg⟩:=hr pins { s3 with heap:=s3.heap.push { cls:=.type "slice",data:=.fields #[vl,vu,.none] } } σ H3 x v vl vu l u s3.heap.objs.size Q I4 r1 (Heap.IsSliceOf.new ..) pl pu q3;show wpAny (model X.prog X.w) X.A (subscriptTail e (.Slice lo hi none p2) v (.ref s3.heap.objs.size)) (EP X pins σ Q) X.xe { s3 with heap:=s3.heap.push { cls:=.type "slice",data:=.fields #[vl,vu,.none] } };exact tail_any (ops:=[.ref s3.heap.objs.size,v]) ht hT hg (by with_unfolding_all rfl)
noncomputable def cutV(xs:List V)(lo hi:Option Int):List V:=(xs.drop (HT.sIx xs.length 0 lo)).take (HT.sIx xs.length xs.length hi-HT.sIx xs.length 0 lo)
theorem Qb(xs:List V)(lo hi:Option Int):(cutV xs lo hi).length<=xs.length:=by
 unfold cutV;rw[wN,wb];omega
def qFH(K:PySem.W.Frag):V->Option Int->Option Int->Hp->VK->Prop:=λx lo hi H Q=>∃a xs,x=.ref a/\SqT K H a xs/\
 ¬ (HT.sIx xs.length 0 lo=0/\HT.sIx xs.length xs.length hi=xs.length)/\∀p,H p=none->Q (.ref p) (upd H p (.tup (cutV xs lo hi)))
theorem sl_tup:SlR X (qFH X.K):=by
 intro pins s σ H x v vl vu lo hi sl Q I rx hs pl pu h;obtain⟨a,xs,rfl,hx,hw,q⟩:=h;cases rx;obtain⟨its,r,ht,hz⟩:=I.tuple hx;have hlen:its.toArray.size=xs.length:=by rw[wD];exact r.length.symm
 refine⟨"tuple",_,PyProof.Rows.slot_tuple_getitem.lookup,ht.typeIs,?_⟩;refine HT.getItem_tuple_cut ht hs pl pu (by rw[hlen];exact hw) ?_ (by rw[hlen];exact hz);rw[hlen];refine⟨.ref s.heap.objs.size,_,I.laid (t':=s.toks) (o:=.tup (cutV xs lo hi)) (λb ob q=>Heap.get?_push_of_some _ q) (Nat.le_refl _) ?_,rfl,q _ (I.hok.fresh (Nat.le_refl _))⟩;exact⟨Nat.le_trans (Qb xs lo hi) hz,_,(r.drop (HT.sIx xs.length 0 lo)).take (HT.sIx xs.length xs.length hi-HT.sIx xs.length 0 lo),IsTup.new _ _⟩
noncomputable def rCatT(K:PySem.W.Frag):R2:=λx y H Q=>∃a b xs ys,x=.ref a/\y=.ref b/\SqT K H a xs/\SqT K H b ys/\xs≠[]/\xs.length+ys.length<=sizeLine/\
 (ys=[]->Q (.ref a) H)/\(ys≠[]->∀p,H p=none->Q (.ref p) (upd H p (.tup (xs++ys))))
theorem Vals.nil_iff{xs:List V}{us:List Value}(r:Vals xs us):us=[]↔xs=[]:=by
 cases r with
 |nil=>simp
 |cons _ _=>simp
theorem op_catT:OpR X (binaryOp .Add) (rCatT X.K):=by
 intro pins s σ H x y v u Q I rx ry h;obtain⟨a,b,xs,ys,rfl,rfl,ha,hb,hx,hz,q1,q2⟩:=h;cases rx;cases ry;obtain⟨its,r1,p1,_⟩:=I.tuple ha;obtain⟨its2,r2,p2,_⟩:=I.tuple hb;refine HT.cat_tup p1 p2 (λz=>hx (r1.nil_iff.mp z)) (λz=>⟨.ref a,H,I,rfl,q1 (r2.nil_iff.mp z)⟩) (λz=>?_) (by rw[<-r1.length,<-r2.length];exact hz);refine⟨.ref s.heap.objs.size,_,I.laid (t':=s.toks) (o:=.tup (xs++ys)) (λb ob q=>Heap.get?_push_of_some _ q) (Nat.le_refl _) ?_,rfl,q2 (λw=>z (r2.nil_iff.mpr w)) _ (I.hok.fresh (Nat.le_refl _))⟩;exact⟨by rw[List.length_append];exact hz,_,r1.append r2,IsTup.new _ _⟩
end
noncomputable def ixN(n:Nat)(i:Int):Option Nat:=if 0<=i then (if i<n then some i.toNat else none) else if -(n:Int)<=i then some (i+n).toNat else none
noncomputable def atI{α:Type}(xs:List α)(i:Int):Option α:=(ixN xs.length i).bind λj=>xs[j]?
theorem ixN_seq{n:Nat}{i:Int}{j:Nat}(h:ixN n i=some j):seqIndex? i n=some j/\j<n/\-(n:Int)<=i/\i<n:=by
 unfold ixN at h;by_cases h0:0<=i
 ·rw[if_pos h0]at h;by_cases h1:i<n
  ·rw[if_pos h1]at h;have e:i.toNat=j:=Option.some.inj h;exact⟨by rw[seqIndex_of h0 h1,e],by omega,by omega,h1⟩
  ·rw[if_neg h1]at h;cases h
 ·rw[if_neg h0]at h;by_cases h1:-(n:Int)<=i
  ·rw[if_pos h1]at h;have e:(i+n).toNat=j:=Option.some.inj h;exact⟨by rw[seqIndex_neg (by omega) h1,e],by omega,h1,by omega⟩
  ·rw[if_neg h1]at h;cases h
theorem U4{α:Type}{xs:List α}{i:Int}{v:α}(h:atI xs i=some v):∃j,seqIndex? i xs.length=some j/\xs[j]?=some v/\j<xs.length/\-(xs.length:Int)<=i/\i<xs.length:=by
 unfold atI at h;cases e:ixN xs.length i with
 |none=>rw[e]at h;cases h
 |some j=>
  rw[e]at h;obtain⟨h1,h2,h3,h4⟩:=ixN_seq e;exact⟨j,h1,h,h2,h3,h4⟩
def PlainIx(b:Expr):Prop:=∀o i,subscripted b false o i=operate [o,i] (getItem o i)
def IxR(X:Cx)(r:R2):Prop:=
 ∀(value slice:Expr) (pins:List (Addr×Obj)) (s:Shared) (σ:St) (H:Hp) (x y:V) (v u:Value) (Q:VK),Inv X pins σ H s->RelV x v->RelV y u->r x y H Q ->
  subscripted slice false v u=operate [v,u] (getItem v u)->wpAny (model X.prog X.w) X.A (subscriptTail value slice v u) (EP X pins σ Q) X.xe s
def MtR(X:Cx)(id:String)(r:V->List V->Hp->VK->Prop):Prop:=
 ∀(pins:List (Addr×Obj)) (s:Shared) (σ:St) (H:Hp) (x:V) (xs:List V) (v:Value) (us:List Value) (Q:VK),Inv X pins σ H s->RelV x v->Vals xs us->r x xs H Q ->
  wpAny (model X.prog X.w) X.A (call (.builtin id) (v::us)) (EP X pins σ Q) X.xe s
section
variable{X:Cx}{a b:Expr}{ta tb:TE}{pos:Pos}
theorem IxR.or{r r':R2}(h:IxR X r)(h':IxR X r'):IxR X (λx y H Q=>r x y H Q\/r' x y H Q):=by
 intro value slice pins s σ H x y v u Q I rx ry q hs;rcases q with q|q
 ·exact h value slice pins s σ H x y v u Q I rx ry q hs
 ·exact h' value slice pins s σ H x y v u Q I rx ry q hs
theorem pe_ix{r:R2}(hr:IxR X r)(ha:PE X a ta)(hb:PE X b tb)(hs:PlainIx b):PE X (.Subscript a b pos) (tOp r ta tb):=by
 intro pins s σ H Q I h;exact Subscript_ (qp ha hb I h λv u s2 x y H2 I2 rx ry q=>hr a b pins s2 σ H2 x y v u Q I2 rx ry q (hs _ _))
noncomputable def qEr(K:PySem.W.Frag):R2:=λx y H Q=>∃p xs i v,x=.ref p/\y=.int i/\SqL K H p xs/\atI xs i=some v/\Q v H
noncomputable def qE8(K:PySem.W.Frag):R2:=λx y H Q=>∃p xs i v,x=.ref p/\y=.int i/\SqT K H p xs/\atI xs i=some v/\Q v H
theorem ix_list:IxR X (qEr X.K):=by
 intro value slice pins s σ H x y v u Q I rx ry h hs;obtain⟨p,xs,i,z,rfl,rfl,hq,he,q⟩:=h;cases rx;obtain⟨t,rfl⟩:=ry;obtain⟨its,r,pl,hz⟩:=I.list hq;obtain⟨j,h1,h2,h3,h4,h5⟩:=U4 he;obtain⟨w,ew,rw'⟩:=r.get h2;have hl:=r.length;have hn:=D9;have fin:EP X pins σ Q w s:=⟨z,H,I,rw',q⟩
 by_cases h0:0<=i
 ·have hj:i.toNat=j:=by
   rw[seqIndex_of h0 h5]at h1;exact Option.some.inj h1
  exact item_listR pl.isList h0 (by omega) (by rw[hj];simpa using ew) fin hs
 ·have hj:(i+(its.toArray.size:Int)).toNat=j:=by
   rw[seqIndex_neg (by omega) h4]at h1;rw[wD,<-hl];exact Option.some.inj h1
  exact subscriptTail_builtinR (x:=w) pl.isList.typeIs slot_list_getitem.lookup
   (wpAny_getItem_list_neg (Q:=λr s'=>r=w/\EP X pins σ Q r s') pl.isList (by omega) (by rw[wD]<;>omega) (by omega) (by rw[hj];simpa using ew) ⟨rfl,fin⟩) hs
theorem ix_tup:IxR X (qE8 X.K):=by
 intro value slice pins s σ H x y v u Q I rx ry h hs;obtain⟨p,xs,i,z,rfl,rfl,hq,he,q⟩:=h;cases rx;obtain⟨t,rfl⟩:=ry;obtain⟨its,r,pl,hz⟩:=I.tuple hq;obtain⟨j,h1,h2,h3,h4,h5⟩:=U4 he;obtain⟨w,ew,rw'⟩:=r.get h2;have hl:=r.length;have hn:=D9;have fin:EP X pins σ Q w s:=⟨z,H,I,rw',q⟩
 exact subscriptTail_builtinR (x:=w) pl.typeIs slot_tuple_getitem.lookup
  (getItem_tuple (j:=j) (Q:=λr s'=>r=w/\EP X pins σ Q r s') pl (by omega) (by omega) (by rw[wD,<-hl];exact h1) (by simpa using ew) ⟨rfl,fin⟩) hs
theorem K4(its:List Value)(n j:Nat)(u:Value):Obj.mapSeq (·.setIfInBounds j u) { cls:=.type "list",data:=.seq its.toArray n }={ cls:=.type "list",data:=.seq (its.set j u).toArray n }:=by
 simp[Obj.mapSeq]
theorem Inv.lst{pins:List (Addr×Obj)}{σ:St}{H:Hp}{s:Shared}{p:Addr}{xs:List V}(I:Inv X pins σ H s)(h:H p=some (.lst xs)):
  ∃(its:List Value) (n:Nat),Vals xs its/\s.heap.get? p=some { cls:=.type "list",data:=.seq its.toArray n }/\xs.length<=sizeLine:=by
 obtain⟨z,its,n,r,e⟩:=I.hok p _ h;exact⟨its,n,r,e,z⟩
theorem Inv.lstUpd{pins:List (Addr×Obj)}{σ:St}{H:Hp}{s:Shared}{p:Addr}{xs ys:List V}{its its':List Value}{n n':Nat}{f:Obj->Obj}(I:Inv X pins σ H s)(h:H p=some (.lst xs))
  (ho:s.heap.get? p=some { cls:=.type "list",data:=.seq its.toArray n }) (hf:f { cls:=.type "list",data:=.seq its.toArray n }={ cls:=.type "list",data:=.seq its'.toArray n' }) (r:Vals ys its') (hz:ys.length<=sizeLine) (t:Nat):
  Inv X pins σ (upd H p (.lst ys)) { s with heap:=s.heap.update p f,toks:=t }:=by
 have e:(s.heap.update p f).get? p=some { cls:=.type "list",data:=.seq its'.toArray n' }:=by
  rw[Heap.get?_update_self f ho (by rw[hf]<;>rfl),hf]
 refine I.write (x:=p) (e:=p) (by rw[h];trivial) (.inl rfl) (λb u hb q=>(Heap.get?_update_other _ _ (Ne.symm hb)).trans q) ⟨_,e⟩ ?_;exact⟨hz,its',n',r,e⟩
def rSetL:V->V->V->Hp->(Hp->Prop)->Prop:=λo i v H Q=>∃p xs k j,o=.ref p/\i=.int k/\H p=some (.lst xs)/\ixN xs.length k=some j/\Q (upd H p (.lst (xs.set j v)))
theorem set_list:PSet X rSetL:=by
 intro pins s σ H o i v ov iv u Q I ro ri rv h;obtain⟨p,xs,k,j,rfl,rfl,hp,hj,q⟩:=h;cases ro;obtain⟨t,rfl⟩:=ri;obtain⟨its,n,r,ho,hz⟩:=I.lst hp;obtain⟨h1,h2,h3,h4⟩:=ixN_seq hj;have hl:=r.length;have hn:=D9;have I':Inv X pins σ (upd H p (.lst (xs.set j v))) { s with heap:=s.heap.update p (Obj.mapSeq (·.setIfInBounds j u)) }:=
  I.lstUpd hp ho (K4 its n j u) (r.set rv j) (by rw[wd];exact hz) s.toks
 by_cases h0:0<=k
 ·have hk:k.toNat=j:=by
   rw[seqIndex_of h0 h4]at h1;exact Option.some.inj h1
  exact PySem.W.ki_setAt ho h0 (by omega) (by rw[wD,<-hl];exact h4) (by rw[hk];exact⟨_,I',q⟩)
 ·have hk:(k+(its.toArray.size:Int)).toNat=j:=by
   rw[seqIndex_neg (by omega) h3]at h1;rw[wD,<-hl];exact Option.some.inj h1
  exact PySem.W.ki_setBack ho (by omega) (by rw[wD,<-hl];exact h3) (by omega) (by rw[hk];exact⟨_,I',q⟩)
theorem JQ(lo hi:Option Int)(n:Nat):(sliceBounds lo hi none n).1=((HT.sIx n 0 lo:Nat):Int)/\(sliceBounds lo hi none n).2.1=((HT.sIx n n hi:Nat):Int)/\(sliceBounds lo hi none n).2.2=1:=by
 refine⟨?_,?_,rfl⟩
 ·cases lo with
  |none=>simp[sliceBounds,HT.sIx]
  |some i=>
   simp only[sliceBounds,HT.sIx,Option.getD_none,show (1:Int)>0 by decide,if_true];by_cases h:i<0
   ·simp only[h,if_true]<;>omega
   ·simp only[h,if_false]<;>omega
 ·cases hi with
  |none=>simp[sliceBounds,HT.sIx]
  |some i=>
   simp only[sliceBounds,HT.sIx,Option.getD_none,show (1:Int)>0 by decide,if_true];by_cases h:i<0
   ·simp only[h,if_true]<;>omega
   ·simp only[h,if_false]<;>omega
theorem ZO(its:List Value)(lo hi:Option Int):slicePick its.toArray lo hi none=((its.drop (HT.sIx its.length 0 lo)).take (HT.sIx its.length its.length hi-HT.sIx its.length 0 lo)).toArray:=by
 obtain⟨h1,h2,h3⟩:=JQ lo hi its.toArray.size;unfold slicePick;rw[h1,h2,h3];simp only[sliceRange_one,pick_run,wD]<;>rfl
def qE3(K:PySem.W.Frag):V->Option Int->Option Int->Hp->VK->Prop:=λx lo hi H Q=>∃a xs,x=.ref a/\SqL K H a xs/\∀p,H p=none->Q (.ref p) (upd H p (.lst (cutV xs lo hi)))
theorem sl_list:SlR X (qE3 X.K):=by
 intro pins s σ H x v vl vu lo hi sl Q I rx hs pl pu h;obtain⟨a,xs,rfl,hx,q⟩:=h;cases rx;obtain⟨its,r,ht,hz⟩:=I.list hx;have hlen:=r.length;refine⟨"list",_,slot_list_getitem.lookup,ht.isList.typeIs,?_⟩;refine wpAny_getItem_list_slice ht.isList hs pl pu .none (by simp) ?_ (by rw[wD]<;>omega);rw[ZO,<-hlen];refine⟨.ref s.heap.objs.size,_,I.laid (t':=s.toks) (o:=.lst (cutV xs lo hi)) (λb ob q=>Heap.get?_push_of_some _ q) (Nat.le_refl _) ?_,rfl,q _ (I.hok.fresh (Nat.le_refl _))⟩;exact⟨Nat.le_trans (Qb xs lo hi) hz,_,0,(r.drop (HT.sIx xs.length 0 lo)).take (HT.sIx xs.length xs.length hi-HT.sIx xs.length 0 lo),Heap.get?_push_size _ rfl⟩
noncomputable def flatV:V->Bool
 | .non=>true
 | .bl _=>true
 | .int _=>true
 | .str _=>true
 |_=>false
noncomputable def eqV:V->V->Bool
 | .non,.non=>true
 | .bl a,.bl b=>a==b
 | .bl a,.int b=>(if a then 1 else 0)==b
 | .int a,.bl b=>a==(if b then 1 else 0)
 | .int a,.int b=>a==b
 | .str a,.str b=>a==b
 |_,_=>false
theorem qA3{A:Around}{s:Shared}{y x:V}{u v:Value}(ry:RelV y u)(rx:RelV x v)(fy:flatV y=true)(fx:flatV x=true):SeqAt.EqAt A s u v (eqV y x):=by
 cases y with
 |non=>
  cases ry;cases x with
  |non=>cases rx;exact SeqAt.EqAt.same _
  |bl b=>cases rx;exact SeqAt.EqAt.none_bool b
  |int b=>obtain⟨t,rfl⟩:=rx;exact SeqAt.EqAt.none_int b t
  |str b=>obtain⟨t,rfl⟩:=rx;exact SeqAt.EqAt.none_str b t
  |_=>exact absurd (show false=true from fx) wW
 |bl a=>
  cases ry;cases x with
  |non=>cases rx;exact SeqAt.EqAt.bool_none a
  |bl b=>cases rx;exact SeqAt.EqAt.bool_bool a b
  |int b=>obtain⟨t,rfl⟩:=rx;exact SeqAt.EqAt.bool_int a b t
  |str b=>obtain⟨t,rfl⟩:=rx;exact SeqAt.EqAt.bool_str a b t
  |_=>exact absurd (show false=true from fx) wW
 |int a=>
  obtain⟨t',rfl⟩:=ry;cases x with
  |non=>cases rx;exact SeqAt.EqAt.int_none a t'
  |bl b=>cases rx;exact SeqAt.EqAt.int_bool a t' b
  |int b=>obtain⟨t,rfl⟩:=rx;exact SeqAt.EqAt.int_int a t' b t
  |str b=>obtain⟨t,rfl⟩:=rx;exact SeqAt.EqAt.int_str a t' b t
  |_=>exact absurd (show false=true from fx) wW
 |str a=>
  obtain⟨t',rfl⟩:=ry;cases x with
  |non=>cases rx;exact SeqAt.EqAt.str_none a t'
  |bl b=>cases rx;exact SeqAt.EqAt.str_bool a t' b
  |int b=>obtain⟨t,rfl⟩:=rx;exact SeqAt.EqAt.str_int a t' b t
  |str b=>obtain⟨t,rfl⟩:=rx;exact SeqAt.EqAt.str_str a t' b t
  |_=>exact absurd (show false=true from fx) wW
 |_=>exact absurd (show false=true from fy) wW
noncomputable def eqU(x:V)(u:Value):Bool:=match u with
 | .none=>eqV .non x
 | .bool b=>eqV (.bl b) x
 | .int i _=>eqV (.int i) x
 | .str z _=>eqV (.str z) x
 |_=>false
theorem i6{x y:V}{u:Value}(r:RelV y u)(f:flatV y=true):eqU x u=eqV y x:=by
 cases y with
 |non=>cases r;rfl
 |bl b=>cases r;rfl
 |int i=>obtain⟨t,rfl⟩:=r;rfl
 |str z=>obtain⟨t,rfl⟩:=r;rfl
 |_=>exact absurd (show false=true from f) wW
theorem QY{x:V}:∀{xs:List V}{us:List Value},Vals xs us->xs.all flatV=true->us.any (eqU x)=xs.any λy=>eqV y x
 |_,_,.nil,_=>rfl
 |y::xs,u::us,.cons r t,f=>by
  rw[List.all_cons,Bool.and_eq_true]at f;rw[List.any_cons,List.any_cons,i6 r f.1,QY t f.2]
theorem jW{A:Around}{s:Shared}{x:V}{v:Value}(rx:RelV x v)(fx:flatV x=true):∀{xs:List V}{us:List Value},Vals xs us->xs.all flatV=true->∀u∈us,SeqAt.EqAt A s u v (eqU x u)
 |_,_,.nil,_=>λu hu=>by cases hu
 |y::xs,u::us,.cons r t,f=>λu' hu=>by
  rw[List.all_cons,Bool.and_eq_true]at f;rcases List.mem_cons.mp hu with rfl|hu
  ·rw[i6 r f.1];exact qA3 r rx f.1 fx
  ·exact jW rx fx t f.2 u' hu
noncomputable def inV(x:V)(xs:List V):Bool:=xs.any λy=>eqV y x
noncomputable def rIn(K:PySem.W.Frag)(neg:Bool):R2:=λx y H Q=>∃p xs,y=.ref p/\(SqL K H p xs\/SqT K H p xs)/\flatV x=true/\xs.all flatV=true/\Q (.bl (if neg then !inV x xs else inV x xs)) H
theorem op_in_seq:OpR X (compareOp .In) (rIn X.K false):=by
 intro pins s σ H x y v u Q I rx ry h;obtain⟨p,xs,rfl,hq,fx,fs,q⟩:=h;cases ry;rcases hq with hq|hq
 ·obtain⟨its,r,pl,hz⟩:=I.list hq;refine SeqAt.in_listAt (eqU x) pl.isList (λw hw=>jW rx fx r fs w (by simpa using hw)) ⟨.bl _,H,I,rfl,?_⟩;rw[show its.toArray.any (eqU x)=its.any (eqU x) by simp,QY r fs];exact q
 ·obtain⟨its,r,pl,hz⟩:=I.tuple hq;refine SeqAt.in_tupleAt (eqU x) pl (λw hw=>jW rx fx r fs w (by simpa using hw)) ⟨.bl _,H,I,rfl,?_⟩;rw[show its.toArray.any (eqU x)=its.any (eqU x) by simp,QY r fs];exact q
theorem op_notIn_seq:OpR X (compareOp .NotIn) (rIn X.K true):=by
 intro pins s σ H x y v u Q I rx ry h;obtain⟨p,xs,rfl,hq,fx,fs,q⟩:=h;cases ry;rcases hq with hq|hq
 ·obtain⟨its,r,pl,hz⟩:=I.list hq;refine SeqAt.notIn_listAt (eqU x) pl.isList (λw hw=>jW rx fx r fs w (by simpa using hw)) ⟨.bl _,H,I,rfl,?_⟩;rw[show its.toArray.any (eqU x)=its.any (eqU x) by simp,QY r fs];exact q
 ·obtain⟨its,r,pl,hz⟩:=I.tuple hq;refine SeqAt.notIn_tupleAt (eqU x) pl (λw hw=>jW rx fx r fs w (by simpa using hw)) ⟨.bl _,H,I,rfl,?_⟩;rw[show its.toArray.any (eqU x)=its.any (eqU x) by simp,QY r fs];exact q
theorem call_len_seq:zE X (.builtin "len") (λxs H Q=>∃p ys,xs=[.ref p]/\(SqL X.K H p ys\/SqT X.K H p ys)/\Q (.int ys.length) H):=by
 intro pins s σ H xs us Q I r h;obtain⟨p,ys,rfl,hq,q⟩:=h;obtain⟨u,rfl,rx⟩:=vals1 r;cases rx;have hn:=D9;rcases hq with hq|hq
 ·obtain⟨its,r',pl,hz⟩:=I.list hq;have hlen:=r'.length;exact Calls.call_len_list pl.isList (by simp only[wD]<;>omega) ⟨.int ys.length,H,I.tok _,⟨s.toks+1,by rw[wD,hlen]⟩,q⟩
 ·obtain⟨its,r',pl,hz⟩:=I.tuple hq;have hlen:=r'.length;exact len_tuple pl (by simp only[wD]<;>omega) ⟨.int ys.length,H,I.tok _,⟨s.toks+1,by rw[wD,hlen]⟩,q⟩
theorem call_list_of:zE X (.type "list") (λxs H Q=>∃p ys,xs=[.ref p]/\(SqL X.K H p ys\/SqT X.K H p ys)/\∀l,H l=none->Q (.ref l) (upd H l (.lst ys))):=by
 intro pins s σ H xs us Q I r h;obtain⟨p,ys,rfl,hq,q⟩:=h;obtain⟨u,rfl,rx⟩:=vals1 r;cases rx;have fin:∀(its:List Value),Vals ys its->ys.length<=sizeLine->∀(h':Heap) (c':Nat),(∀b o',s.heap.get? b=some o'->h'.get? b=some o') ->
   h'.get? s.heap.objs.size=some { cls:=.type "list",dict:=none,data:=.seq its.toArray c',slots:=#[] }->EP X pins σ Q (.ref s.heap.objs.size) { s with heap:=h' }:=λits r' hz h' c' kp e=>
  ⟨.ref s.heap.objs.size,_,I.laid (t':=s.toks) kp (Nat.le_refl _) (show ObjOk X.prog X.w _ h' _ (.lst ys) from⟨hz,its,c',r',e⟩),rfl,q _ (I.hok.fresh (Nat.le_refl _))⟩
 rcases hq with hq|hq
 ·obtain⟨its,r',pl,hz⟩:=I.list hq;have hlen:=r'.length;obtain⟨o,ho,hc,n,hd⟩:=pl.isList;exact call_list_seq p (.inl rfl) ho hc hd (λh' c' kp e=>fin its r' hz h' c' kp e) (by simp only[wD]<;>omega)
 ·obtain⟨its,r',pl,hz⟩:=I.tuple hq;have hlen:=r'.length;obtain⟨o,ho,hc,n,hd⟩:=pl;exact call_list_seq p (.inr rfl) ho hc hd (λh' c' kp e=>fin its r' hz h' c' kp e) (by simp only[wD]<;>omega)
def tyV(K:PySem.W.Frag)(T:String)(x:V)(H:Hp):Prop:=match x with
 | .str _=>T="str"
 | .int _=>T="int"
 | .ref p=>(T="list"/\∃xs,SqL K H p xs)\/(T="tuple"/\∃o,K.lookup p=some o/\o.cls=.type "tuple"/\o.dict=none)\/
   (T="dict"/\((∃kvs,H p=some (.dK kvs))\/∃kvs,H p=some (.dT kvs)))\/(T="set"/\∃S n,H p=some (.set S n))
 |_=>False
theorem h9{pins:List (Addr×Obj)}{σ:St}{H:Hp}{s:Shared}{T:String}{x:V}{v:Value}(I:Inv X pins σ H s)(r:RelV x v)(ty:tyV X.K T x H):
  s.TypeIs v T/\∀a,v=.ref a->∃ob,s.heap.get? a=some ob/\ob.dict=none:=by
 cases x with
 |str z=>
  obtain⟨t,rfl⟩:=r;cases (show T="str" from ty);exact⟨typeIs_str s z t,λ_ e=>nomatch e⟩
 |int i=>
  obtain⟨t,rfl⟩:=r;cases (show T="int" from ty);exact⟨typeIs_int s i t,λ_ e=>nomatch e⟩
 |ref p=>
  cases r;rcases ty with⟨rfl,xs,hq⟩|⟨rfl,o,hk,hc,hd⟩|⟨rfl,hk⟩|⟨rfl,S,n,hk⟩
  ·obtain⟨its,_,pl,_⟩:=I.list hq;refine⟨pl.isList.typeIs,λa e=>?_⟩;cases e;obtain⟨o,n,e,c,hd,_⟩:=pl;exact⟨o,e,hd⟩
  ·refine⟨⟨o,I.kIn p o hk,hc⟩,λa e=>?_⟩;cases e;exact⟨o,I.kIn _ o hk,hd⟩
  ·have z:∃o,s.heap.get? p=some o/\o.ExactDict:=by
    rcases hk with⟨kvs,hk⟩|⟨kvs,hk⟩
    ·obtain⟨_,_,_,_,o,_,_,e,ex,_⟩:=I.hok p _ hk;exact⟨o,e,ex⟩
    ·obtain⟨_,_,_,_,o,_,_,e,ex,_⟩:=I.hok p _ hk;exact⟨o,e,ex⟩
   obtain⟨o,e,ex⟩:=z;refine⟨⟨o,e,ex.1⟩,λa e2=>?_⟩;cases e2;exact⟨o,e,ex.2.1⟩
  ·obtain⟨o,_,_,_,e,ex,_⟩:=I.hok p _ hk;refine⟨⟨o,e,ex.1⟩,λa e2=>?_⟩;cases e2;exact⟨o,e,ex.2.1⟩
 |_=>exact False.elim ty
noncomputable def tBM0(K:PySem.W.Frag)(T:String)(r:V->List V->Hp->VK->Prop)(to:TE):TE:=λσ H Q=>to σ H λx H1=>tyV K T x H1/\r x [] H1 Q
noncomputable def tBM(K:PySem.W.Frag)(T:String)(r:V->List V->Hp->VK->Prop)(to:TE)(t:TA):TE:=λσ H Q=>to σ H λx H1=>tyV K T x H1/\t σ H1 λxs H2=>r x xs H2 Q
variable{o e:Expr}{es:List Expr}{to:TE}{t:TA}{name:Str}{apos cpos:Pos}{T id:String}{r:V->List V->Hp->VK->Prop}
theorem pe_bm0(pa:PlainAttrs T)(slot:Slot T name id)(hty:typeOf (.builtin id)=pure (.type "method_descriptor"))(hm:MtR X id r)(ho:PE X o to)
  (hbase:attributeBase o name X.env (eval o X.env)=eval o X.env:=by rfl) (hline:(apos.endLine==cpos.line)=true:=by rfl):PE X (.Call (.Attribute o name apos) [] [] cpos) (tBM0 X.K T r to):=by
 intro pins s σ H Q I h;refine wpAny_Call_method0_late hbase hline (thn (ho pins s σ H _ I h) λv s1 ⟨x,H1,I1,r1,ty,q1⟩=>?_);obtain⟨h1,h2⟩:=h9 I1 r1 ty;exact⟨T,id,pa,slot,hty,h1,h2,Calls.callWith_builtin rfl (PySem.evalArgs_none (hm pins s1 σ H1 x [] v [] Q I1 r1 .nil q1))⟩
theorem pe_bm(pa:PlainAttrs T)(slot:Slot T name id)(hty:typeOf (.builtin id)=pure (.type "method_descriptor"))(hm:MtR X id r)(ho:PE X o to)(ha:PA X (e::es) t)
  (hbase:attributeBase o name X.env (eval o X.env)=eval o X.env:=by rfl)
  (hfew:((backTo cpos (starEach (e::es) X.env)).all (λx=>!x.1)&&(backToKw cpos (keywordEach [] X.env)).all (λx=>x.1.isSome)
   && decide ((e::es).length+([]:List Keyword).length+(if ([]:List Keyword).isEmpty then 0 else 1)<30))=true:=by rfl)
  (hline:(apos.endLine==cpos.line)=true:=by rfl) (hs:starEach (e::es) X.env=(false,eval e X.env)::starEach es X.env:=by rfl) (hplain:(backTo cpos (starEach es X.env)).any (·.1)=false:=by rfl):
  PE X (.Call (.Attribute o name apos) (e::es) [] cpos) (tBM X.K T r to t):=by
 intro pins s σ H Q I h;refine wpAny_Call_method_late hbase hfew hline rfl (thn (ho pins s σ H _ I h) λv s1 ⟨x,H1,I1,r1,ty,q1⟩=>?_);obtain⟨h1,h2⟩:=h9 I1 r1 ty;refine⟨T,id,pa,slot,hty,h1,h2,?_⟩;have hA:=ha cpos pins s1 σ H1 _ I1 q1;rw[hs]at hA ⊢;refine Calls.callWith_builtin (by show (false||(backTo cpos (starEach es X.env)).any (·.1))=false;rw[hplain]<;>rfl) (Calls.evalArgs_plain ?_);exact thn hA λus s2 ⟨vs,H2,I2,r2,q2⟩=>hm pins s2 σ H2 x vs v us Q I2 r1 r2 q2
end
def MtM(X:Cx)(id:String)(r:V->List V->Hp->VK->Prop):Prop:=
 ∀(pins:List (Addr×Obj)) (s:Shared) (σ:St) (H:Hp) (x:V) (xs:List V) (v:Value) (us:List Value) (Q:VK),Inv X pins σ H s->RelV x v->Vals xs us->r x xs H Q ->
  wpAny (model X.prog X.w) X.A (call (.builtin id) (v::us)) (EP X pins σ Q) X.xe s
theorem Vals.one:∀{x:V}{us:List Value},Vals [x] us->∃u,us=[u]/\RelV x u
 |_,_,.cons r .nil=>⟨_,rfl,r⟩
theorem Vals.zero:∀{us:List Value},Vals [] us->us=[]
 |_,.nil=>rfl
theorem Vals.dropLast{xs:List V}{us:List Value}(h:Vals xs us):Vals xs.dropLast us.dropLast:=by
 induction h with
 |nil=>exact .nil
 |cons r t ih=>
  cases t with
  |nil=>exact .nil
  |cons q t'=>exact .cons r ih
theorem Vals.eraseIdx:∀{xs:List V}{us:List Value}(i:Nat),Vals xs us->Vals (xs.eraseIdx i) (us.eraseIdx i)
 |_,_,_,.nil=>.nil
 |_,_,0,.cons _ t=>t
 |_,_,i+1,.cons r t=>.cons r (Vals.eraseIdx i t)
theorem Vals.reverse{xs:List V}{us:List Value}(h:Vals xs us):Vals xs.reverse us.reverse:=by
 induction h with
 |nil=>exact .nil
 |cons r t ih=>rw[wf,wf];exact Vals.append ih (.cons r .nil)
theorem Vals.rep{xs:List V}{us:List Value}(h:Vals xs us):∀k:Nat,Vals (List.replicate k xs).flatten (List.replicate k us).flatten
 | 0=>.nil
 |k+1=>by
  rw[List.replicate_succ,List.replicate_succ,List.flatten_cons,List.flatten_cons];exact Vals.append h (Vals.rep h k)
theorem K1{α:Type}(l:List α):l.eraseIdx (l.length-1)=l.dropLast:=by
 induction l with
 |nil=>rfl
 |cons a r ih=>
  cases r with
  |nil=>rfl
  |cons b r=>
   have e:(a::b::r).length-1=((b::r).length-1)+1:=by
    have h1:(a::b::r).length=r.length+2:=rfl;have h2:(b::r).length=r.length+1:=rfl;omega
   rw[e,List.eraseIdx_cons_succ,ih]
   all_goals rfl
theorem JU{α:Type}:∀(l:List α) (i:Nat),(l.eraseIdx i).length<=l.length
 | [],_=>Nat.le_refl _
 |_::_,0=>Nat.le_succ _
 |_::r,i+1=>Nat.succ_le_succ (JU r i)
theorem JD(its:List Value):∀(k:Nat) (acc:List Value),
  List.foldl (λx1 x2=>x1++x2) acc.toArray (List.replicate k its.toArray)=(acc++(List.replicate k its).flatten).toArray
 | 0,acc=>by simp
 |k+1,acc=>by
  have e:acc.toArray++its.toArray=(acc++its).toArray:=by simp
  have e2:(acc++its)++(List.replicate k its).flatten=acc++(List.replicate (k+1) its).flatten:=by
   rw[List.replicate_succ,List.flatten_cons,wL]
  rw[<-e2,<-JD its k (acc++its),<-e,List.replicate_succ,List.foldl_cons]
section
variable{X:Cx}{pins:List (Addr×Obj)}{σ:St}{H:Hp}{s:Shared}{l b:Addr}{xs ys zs:List V}
theorem Inv.lset{its its':List Value}{n:Nat}{f:Array Value->Array Value}{t':Nat}(I:Inv X pins σ H s)(hH:H l=some (.lst xs))
  (e:s.heap.get? l=some { cls:=.type "list",data:=.seq its.toArray n }) (hf:f its.toArray=its'.toArray) (hv:Vals ys its') (hz:ys.length<=sizeLine):
  Inv X pins σ (upd H l (.lst ys)) { s with heap:=s.heap.update l (Obj.mapSeq f),toks:=t' }:=by
 have q:=PySem.IsL.update e f;rw[hf]at q;refine I.write (x:=l) (e:=l) (by rw[hH];exact trivial) (.inl rfl) (λb' u hb hu=>(Heap.get?_update_other s.heap (Obj.mapSeq f) (Ne.symm hb)).trans hu) ⟨_,q⟩ ?_;exact⟨hz,its',_,hv,q⟩
theorem Inv.lnew{its:List Value}{t':Nat}(I:Inv X pins σ H s)(hv:Vals ys its)(hz:ys.length<=sizeLine):
  Inv X pins σ (upd H s.heap.objs.size (.lst ys)) { s with heap:=s.heap.push { cls:=.type "list",data:=.seq its.toArray },toks:=t' }:=
 I.laid (λ_ _ q=>Heap.get?_push_of_some _ q) (Nat.le_refl _) ⟨hz,its,0,hv,Heap.get?_push_size _ rfl⟩
theorem Inv.fresh(I:Inv X pins σ H s):H s.heap.objs.size=none:=I.hok.fresh (Nat.le_refl _)
theorem Inv.lstM(I:Inv X pins σ H s)(hH:H l=some (.lst xs)):xs.length<=sizeLine/\∃(its:List Value) (n:Nat),Vals xs its/\xs.length=its.length/\s.heap.get? l=some { cls:=.type "list",data:=.seq its.toArray n }:=by
 obtain⟨z,its,n,r,e⟩:=I.hok l _ hH;exact⟨z,its,n,r,r.length,e⟩
theorem c9{n:Nat}(h:n<=sizeLine):Builtin.List.listTooLong n=false:=by
 unfold Builtin.List.listTooLong;exact vM (by omega)
end
section
variable{X:Cx}
def qAa:V->List V->Hp->VK->Prop:=λx vs H Q=>∃l xs y,x=.ref l/\vs=[y]/\H l=some (.lst xs)/\xs.length<sizeLine/\Q .non (upd H l (.lst (xs++[y])))
theorem mt_append:MtM X "list.append" qAa:=by
 intro pins s σ H x vs v us Q I rx rv h;obtain⟨l,xs,y,rfl,rfl,hH,hz,q⟩:=h;cases rx;obtain⟨u,rfl,ru⟩:=rv.one;obtain⟨z,its,n,r,hl,e⟩:=I.lstM hH;refine call_meets F.slot_list_append ⟨_,e,rfl⟩ F.entry_list_append (F.args_list_append_2 _ _) (PySem.list_append l its.toArray n u (by rw[wD];omega)) ⟨e,?_⟩;refine⟨.non,_,I.lset (its':=its++[u]) hH e (by simp) (r.append (.cons ru .nil)) ?_,rfl,q⟩;rw[List.length_append,List.length_singleton];omega
def rPop:V->List V->Hp->VK->Prop:=λx vs H Q=>∃l xs y,x=.ref l/\vs=[]/\H l=some (.lst xs)/\xs[xs.length-1]?=some y/\Q y (upd H l (.lst xs.dropLast))
theorem mt_pop:MtM X "list.pop" rPop:=by
 intro pins s σ H x vs v us Q I rx rv h;obtain⟨l,xs,y,rfl,rfl,hH,hy,q⟩:=h;cases rx;have hus:=rv.zero;subst hus;obtain⟨z,its,n,r,hl,e⟩:=I.lstM hH;obtain⟨u,hu,ru⟩:=r.get hy;have hy':its.toArray[its.toArray.size-1]?=some u:=by
  show its.toArray[its.length-1]?=some u;rw[<-Array.getElem?_toList,<-hl];exact hu
 refine call_meets F.slot_list_pop ⟨_,e,rfl⟩ F.entry_list_pop (F.args_list_pop_1 _) (MeetsSeq.list_pop_last l its.toArray n u hy' (by rw[wD];omega)) ⟨e,?_⟩;refine⟨y,_,I.lset (its':=its.dropLast) hH e ?_ r.dropLast ?_,ru,q⟩
 ·show its.toArray.eraseIdxIfInBounds (its.toArray.size-1)=its.dropLast.toArray;rw[wD,List.eraseIdxIfInBounds_toArray,K1]
 ·rw[List.length_dropLast];omega
def rPopAt:V->List V->Hp->VK->Prop:=λx vs H Q=>∃l xs i k y,x=.ref l/\vs=[.int i]/\H l=some (.lst xs)/\-(2 ^ 63)<=i/\i<2 ^ 63/\seqIndex? i xs.length=some k/\xs[k]?=some y/\Q y (upd H l (.lst (xs.eraseIdx k)))
theorem mt_popAt:MtM X "list.pop" rPopAt:=by
 intro pins s σ H x vs v us Q I rx rv h;obtain⟨l,xs,i,k,y,rfl,rfl,hH,h1,h2,hk,hy,q⟩:=h;cases rx;obtain⟨u,rfl,ru⟩:=rv.one;obtain⟨t,rfl⟩:=ru;obtain⟨z,its,n,r,hl,e⟩:=I.lstM hH;obtain⟨w,hw,rw'⟩:=r.get hy;refine call_meets F.slot_list_pop ⟨_,e,rfl⟩ F.entry_list_pop (F.args_list_pop_2 _ _)
  (MeetsSeq.list_pop_at l its.toArray n i t k w (fitsIndex_both h1 h2) (by rw[wD,<-hl];exact hk) (by rw[<-Array.getElem?_toList];exact hw) (by rw[wD];omega)) ⟨e,?_⟩
 refine⟨y,_,I.lset (its':=its.eraseIdx k) hH e ?_ (r.eraseIdx k) ?_,rw',q⟩
 ·show its.toArray.eraseIdxIfInBounds k=(its.eraseIdx k).toArray;rw[List.eraseIdxIfInBounds_toArray]
 ·have:=JU xs k;omega
def rReverse:V->List V->Hp->VK->Prop:=λx vs H Q=>∃l xs,x=.ref l/\vs=[]/\H l=some (.lst xs)/\Q .non (upd H l (.lst xs.reverse))
theorem mt_reverse:MtM X "list.reverse" rReverse:=by
 intro pins s σ H x vs v us Q I rx rv h;obtain⟨l,xs,rfl,rfl,hH,q⟩:=h;cases rx;have hus:=rv.zero;subst hus;obtain⟨z,its,n,r,hl,e⟩:=I.lstM hH;refine call_meets F.slot_list_reverse ⟨_,e,rfl⟩ F.entry_list_reverse (F.args_list_reverse_1 _) (AutoSeq1.list_reverse_list_0 l its.toArray n (by rw[wD];omega)) ⟨e,?_⟩;refine⟨.non,_,I.lset (its':=its.reverse) hH e (by simp) r.reverse ?_,rfl,q⟩;rw[List.length_reverse];omega
def rClear:V->List V->Hp->VK->Prop:=λx vs H Q=>∃l xs,x=.ref l/\vs=[]/\H l=some (.lst xs)/\Q .non (upd H l (.lst []))
theorem mt_clear:MtM X "list.clear" rClear:=by
 intro pins s σ H x vs v us Q I rx rv h;obtain⟨l,xs,rfl,rfl,hH,q⟩:=h;cases rx;have hus:=rv.zero;subst hus;obtain⟨z,its,n,r,hl,e⟩:=I.lstM hH;refine call_meets F.slot_list_clear ⟨_,e,rfl⟩ F.entry_list_clear (F.args_list_clear_1 _) (AutoSeq1.list_clear_list_0 l its.toArray n (by rw[wD];omega)) ⟨e,?_⟩;exact⟨.non,_,I.lset (its':=[]) (ys:=[]) hH e rfl .nil (Nat.zero_le _),rfl,q⟩
noncomputable def rCat:R2:=λx y H Q=>∃l b xs zs,x=.ref l/\y=.ref b/\H l=some (.lst xs)/\H b=some (.lst zs)/\xs.length+zs.length<=sizeLine/\∀p,H p=none->Q (.ref p) (upd H p (.lst (xs++zs)))
theorem op_cat:OpR X (binaryOp .Add) rCat:=by
 intro pins s σ H x y v u Q I rx ry h;obtain⟨l,b,xs,zs,rfl,rfl,hH,hB,hz,q⟩:=h;cases rx;cases ry;obtain⟨z,its,n,r,hl,e⟩:=I.lstM hH;obtain⟨z2,its2,n2,r2,hl2,e2⟩:=I.lstM hB;refine PySem.P.add_list e e2 ?_ (by rw[wD,wD];omega);have ea:its.toArray++its2.toArray=(its++its2).toArray:=by simp
 rw[ea];exact⟨.ref _,_,I.lnew (t':=s.toks) (r.append r2) (by rw[List.length_append];omega),rfl,q _ I.fresh⟩
noncomputable def rRep:R2:=λx y H Q=>∃l k xs,x=.ref l/\y=.int k/\H l=some (.lst xs)/\-(2 ^ 63)<=k/\k<2 ^ 63/\xs.length*k.toNat<=sizeLine/\
 ∀p,H p=none->Q (.ref p) (upd H p (.lst (List.replicate k.toNat xs).flatten))
theorem y6{α:Type}(xs:List α)(k:Nat):(List.replicate k xs).flatten.length=k*xs.length:=by
 induction k with
 |zero=>simp
 |succ k ih=>rw[List.replicate_succ,List.flatten_cons,List.length_append,ih,Nat.succ_mul,Nat.add_comm]
theorem op_rep:OpR X (binaryOp .Mult) rRep:=by
 intro pins s σ H x y v u Q I rx ry h;obtain⟨l,k,xs,rfl,rfl,hH,h1,h2,hz,q⟩:=h;cases rx;obtain⟨t,rfl⟩:=ry;obtain⟨z,its,n,r,hl,e⟩:=I.lstM hH;have hlen:its.toArray.size*k.toNat<=sizeLine:=by rw[wD,<-hl];exact hz
 have hcap:¬ its.toArray.size*k.toNat>(2 ^ 63-1) / 8:=by
  have:(sizeLine:Nat)<=(2 ^ 63-1) / 8:=by decide
  omega
 have hfit:¬ (!Builtin.List.listFitsIndex k)=true:=by
  rw[fitsIndex_both h1 h2];exact wW
 have hlong:¬ Builtin.List.listTooLong (its.toArray.size*k.toNat)=true:=by
  rw[c9 hlen];exact wW
 have hnew:List.foldl (λx1 x2=>x1++x2) #[] (List.replicate (if its.toArray.isEmpty=true then 0 else k.toNat) its.toArray)=(List.replicate k.toNat its).flatten.toArray:=by
  have f0:∀m:Nat,List.foldl (λx1 x2=>x1++x2) #[] (List.replicate m its.toArray)=(List.replicate m its).flatten.toArray:=λm=>by
   have:=JD its m [];rw[List.nil_append]at this;exact this
  rw[f0];cases its with
  |nil=>simp
  |cons a r'=>rw[if_neg (by simp)]
 refine wpAny_binaryOp_repeat_ref (T:="list") (U:="int") (by decide) ⟨_,e,rfl⟩ (λs'=>typeIs_int s' k t) noFill_list_mul F.fills_int_mul F.slot_int_rmul repeat_list F.slot_int_index.lookup
  (call_meets F.slot_int_rmul (typeIs_int s k t) F.entry_int_rmul (F.args_int_rmul_2 _ _) (int___rmul___int_list k t l its.toArray n)
   ⟨e,rfl,⟨_,e,rfl⟩,call_meets F.slot_list_mul ⟨_,e,rfl⟩ F.entry_list_mul (F.args_list_mul_2 _ _) (AutoListH.list___mul___list_int_3 l its.toArray n k t hfit hcap hlong) ⟨e,?_⟩⟩)
 rw[hnew];exact⟨.ref _,_,I.lnew (t':=s.toks) (r.rep k.toNat) (by rw[y6,Nat.mul_comm];exact hz),rfl,q _ I.fresh⟩
end
end L2
namespace Att
open PySem PySem.W PySem.Calls PyProof.Rows
theorem QV{P:Params}{h:Heap}:∀(ns:List Int) (vs:List Value),WellAll P h vs (ns.map WData.int)->IntsAre vs ns:=by
 intro ns
 induction ns with
 |nil=>
  intro vs w;rw[List.map_nil]at w;cases w;exact .nil
 |cons n ns ih=>
  intro vs w;rw[List.map_cons]at w;cases w with
  |cons a b=>
   cases a;exact .cons _ _ (ih _ b)
theorem Q6{l:OpenLaw}{n:Nat}(hn:l.most=some n){P:Params}{h:Heap}{args:List WData}{vals:List Value}
  (hpre:l.row.toRowW.claim.pre args=true) (hwl:WellAll P h vals args):
  ∃a vs ns,vals=[Value.ref a]/\args=[WData.list (ns.map WData.int)]/\h.get? a=some { cls:=.type "list",data:=.seq vs.toArray }/\IntsAre vs ns/\ns.length<=n:=by
 have hsh:WShape.hasAll [] args [.list .int]=true:=(pre_splitW hpre).1;have hc:l.pre.holds [] { args:=args }=true:=(pre_splitW hpre).2;obtain⟨d,r,rfl,h1,h2⟩:=hasAllW_cons hsh;obtain rfl:=hasAllW_nil h2;obtain⟨xs,rfl,h3⟩:=hasW_list h1;obtain⟨ns,rfl⟩:=items_int h3;have hlen:ns.length<=n:=by
  unfold OpenLaw.pre at hc;have h4:(WTm.not (.lt (.lit (.int (n:Int))) (.len (.arg 0)))).holds [] { args:=[.list (ns.map .int)] }=true:=by
   have h4:=(holds_andW hc).1;rw[hn]at h4;exact h4
  have h5:=condW_of h4 (w_not (w_lt w_lit (w_len_list (w_arg rfl))));rw[wH]at h5;refine Nat.le_of_not_lt λq=>?_;have q':(n:Int)<((ns.length:Nat):Int):=by omega
  first
   | (rw[vN q']at h5;exact absurd h5 (by decide))
   | (simp at h5;omega)
 cases hwl with
 |cons w1 w2=>
  cases w2;cases w1 with
  |list ho hall=>exact⟨_,_,ns,rfl,rfl,ho,QV ns _ hall,hlen⟩
theorem U3(l:OpenLaw)(args:List WData):l.row.toRowW.claim.post args (.bool true) args=true:=
 postW_of (r:=l.row.toRowW) (X:=(true==true))
  (show WShape.has [] (.bool true) .bool=true by first|rfl|decide|simp[WShape.has,WShape.arms,WShape.armsAll])
  (show (WTm.eq .res (.lit (.bool true))).value [] { args:=args,res:=some (.bool true),after:=args }=some (.bool (true==true)) from w_eq_bool (w_res rfl) w_lit) rfl
theorem attach_call{l:OpenLaw}{n:Nat}{q:Program}{loose:List Str}{XP:(Str->Option Value)->Heap->Prop}{YP:World->Heap->Prop}{d:DefRec}
  (hn:l.most=some n) (hdf:d.params.defaults=[])
  (call:∀(w:World) (s₀ s₁:Shared) (mg mb:Str->Option Value) (fa:Addr) (o:Obj) (pm cd doc:Value) (a:Addr) (vs:List Value) (ns:List Int),
   Ground q loose [] XP w s₀ mg mb s₁.heap->YP w s₁.heap ->
   s₁.heap.get? fa=some o->o.data=.func (docDef d.name d.params d.body d.scope pm cd doc)->s₁.heap.CodeRec cd d.name->mg d.name=some (.ref fa) ->
   s₁.heap.get? a=some { cls:=.type "list",data:=.seq vs.toArray }->IntsAre vs ns->ns.length<=n->s₁.gens=#[] ->
   codeAny (model l.prog w) callerA (.call (.ref fa) ⟨[.ref a],[]⟩) (λr s'=>r=.ok (.ret (.bool true))/\OldK s₁.heap s'.heap/\s'.os=s₁.os/\AllBare s'.gens) s₁):
  WalkO q loose XP YP l.row.toRowW d [] (λf vs=>PySem.call f vs):=by
 intro w s₀ s₁ mg mb G Y fa o pm cd doc dV kV ho hd hcd hD hmg hg args vals as hpre hlay hrd hwl hlo;obtain rfl:dV=.none:=Dflts.none hD hdf;obtain rfl:kV=.none:=Dflts.noKw hD;obtain⟨a,vs,ns,rfl,rfl,hobj,hints,hlen⟩:=Q6 hn hpre hwl;refine enter_call (codeAny_mono (call w s₀ s₁ mg mb fa o pm cd doc a vs ns G Y ho (fd_plain hd) hcd hmg hobj hints hlen hg) λr s' hq=>?_);obtain⟨rfl,h2,h3,h4⟩:=hq;exact⟨.inl ⟨.bool true,.bool true,[],rfl,λ_=>rfl,.bool true,U3 l _,λ_=>⟨List.Pairwise.nil,λ_ hm=>(nomatch hm)⟩⟩,h2,h3,h4⟩
end Att
namespace L2
open PySem PySem.Spec PyProof.Rows
theorem ja:∀{vs:List Value}{ns:List Int},IntsAre vs ns->Vals (ns.map V.int) vs
 |_,_,.nil=>.nil
 |_,_,.cons n t h=>.cons ⟨t,rfl⟩ (ja h)
def Only(H:Hp):Prop:=∀b,H b=none\/∃o xs,H b=some (.frz o (.lst xs))
theorem X0{P:Program}{w:World}{K:PySem.W.Frag}{mg mb:Str->Option Value}{CX:CXT}{k:Nat}{fa a:Addr}{fd:FuncData}{x:Str}{sp:Sp}{s₁:Shared}{vs:List Value}{ns:List Int}
  (KX:K.In s₁.heap) (hns:s₁.heap.Ns mainGlobals mg) (hb:s₁.heap.Ns builtinsNs mb) (hbb:∀x:Str,x≠"__name__" -> mb x=bootBuiltins x) (hlim:s₁.heap.NoLimit) (hg:s₁.gens=#[])
  (ha:s₁.heap.get? a=some { cls:=.type "list",data:=.seq vs.toArray }) (hi:IntsAre vs ns) (hl:ns.length<=sizeLine) (hr:Room k callerA)
  (F:∀base:Heap,K.In base->base.Ns mainGlobals mg->FnOk P w K mg base CX k fa fd [x] sp) (hbind:∀(s:Shared) (u:Value),BindsTo s fd ⟨[u],[]⟩ [(x,u)])
  (hsp:∀H:Hp,Only H->SqL K H a (ns.map V.int)->sp [.ref a] H (λv _=>v=.bl true) λ_ _ _=>False)
  (hCX:∀H e s',CX [] H s₁ (λ_ _ _=>False) e s'->False):
  codeAny (model P w) callerA (.call (.ref fa) ⟨[.ref a],[]⟩) (λr s'=>r=.ok (.ret (.bool true))/\OldK s₁.heap s'.heap/\s'.os=s₁.os/\AllBare s'.gens) s₁:=by
 have rv:=ja hi;have lenV:=hi.length;have core:∀H:Hp,Only H->SqL K H a (ns.map V.int)->HOk P w H s₁.heap->(∀b,H b≠none->b=a)->(H a≠none->K.lookup a=none) ->
   codeAny (model P w) callerA (.call (.ref fa) ⟨[.ref a],[]⟩) (λr s'=>r=.ok (.ret (.bool true))/\OldK s₁.heap s'.heap/\s'.os=s₁.os/\AllBare s'.gens) s₁:=by
  intro H hO hS hok hA hK;have base_of:∀{b:Addr}{o:Obj},s₁.heap.get? b=some o->H b=none->(Y3 s₁.heap H).get? b=some o:=λe n=>Y6 e n;have noA:∀{b:Addr}{o:Obj}{es:Array DictEntry}{ep:Nat},s₁.heap.get? b=some o->o.data=.dict es ep->H b=none:=λ{b o es ep} e d=>by
   cases q:H b with
   |none=>rfl
   |some u=>
    have e':b=a:=hA b (by rw[q];simp);subst e';rw[ha]at e;cases e;have d':Data.seq vs.toArray _=Data.dict es ep:=d;cases d'
  have nsK:∀{b:Addr}{m:Str->Option Value},s₁.heap.Ns b m->(Y3 s₁.heap H).Ns b m:=λ{b m} ⟨o,es,ep,e,d,r⟩=>⟨o,es,ep,base_of e (noA e d),d,r⟩
  have hKb:K.In (Y3 s₁.heap H):=λb o e=>base_of (KX b o e) (by
   cases q:H b with
   |none=>rfl
   |some u=>
    have e':b=a:=hA b (by rw[q];simp);subst e';rw[hK (by rw[q];simp)]at e;cases e)
  have hM:Mod K mg (Y3 s₁.heap H):=⟨hKb,nsK hns,⟨mb,nsK hb,hbb⟩,let ⟨mc,h1,h2⟩:=hlim;⟨mc,nsK h1,h2⟩⟩
  have e0:qCQ P w K mg (Y3 s₁.heap H) callerA [] s₁ H:=⟨rfl,hM,λb o e=>qAR e,Nat.le_of_eq (S3 _ _),trivial,λb hb=>absurd (show b∈([]:List Addr) from hb) (by simp),hok,.of_eq hg⟩
  refine codeAny_mono ((F _ hKb (nsK hns)).run callerA [] s₁ H ⟨[.ref a],[]⟩ [.ref a] [.ref a] _ _ hr e0 (hbind s₁ (.ref a)) (.cons rfl .nil) (hsp H hO hS)) λr s' h=>?_;cases r with
  |error e=>exact(hCX H e s' h).elim
  |ok fl=>
   cases fl with
   |next=>exact False.elim h
   |brk=>exact False.elim h
   |cont=>exact False.elim h
   |ret u=>
    obtain⟨v,H',os,bare,un,hok',r',q⟩:=h;have q':v=.bl true:=q;subst q';obtain rfl:u=Value.bool true:=r';refine⟨rfl,OldK.of_keep λb o e=>?_,os,bare⟩;cases q:H b with
    |none=>exact un.keep b o e q (by intro z;exact absurd (show b∈([]:List Addr) from z) (by simp)) (by simp)
    |some u=>
     rcases hO b with z|⟨ob,xs,z⟩
     ·rw[q]at z;cases z
     ·have z2:=un.frzs b ob _ z;obtain⟨e1,_⟩:=hok b _ z;obtain⟨e2,_⟩:=hok' b _ z2;rw[e]at e1;cases e1;exact e2
 cases hk:K.lookup a with
 |some o=>
  have e:=KX a o hk;rw[ha]at e;cases e;refine core (λ_=>none) (λ_=>.inl rfl) (.inr ⟨_,vs.toArray,_,hk,rfl,rfl,rfl,by rw[wD,lenV];exact hl,by simpa using rv⟩) (λb u z=>by have z':(none:Option HO)=some u:=z;cases z') (λb z=>absurd rfl z) λz=>absurd rfl z
 |none=>
  refine core (λb=>if b=a then some (.frz { cls:=.type "list",data:=.seq vs.toArray } (.lst (ns.map V.int))) else none) (λb=>?_) (.inl (.inr ⟨{ cls:=.type "list",data:=.seq vs.toArray },if_pos rfl⟩)) (λb u z=>?_) (λb z=>?_) λ_=>hk
  ·by_cases hb:b=a
   ·exact .inr ⟨_,_,if_pos hb⟩
   ·exact .inl (if_neg hb)
  ·by_cases hb:b=a
   ·have z':=(if_pos hb).symm.trans z;cases z';subst hb;exact⟨ha,by rw[wH];exact hl,vs,_,rv,ha⟩
   ·have z':=(if_neg hb).symm.trans z;cases z'
  ·by_cases hb:b=a
   ·exact hb
   ·exact absurd (if_neg hb) z
theorem walk_of{l:PySem.W.OpenLaw}{n k:Nat}{q:Program}{loose:List Str}{XP:(Str->Option Value)->Heap->Prop}{YP:World->Heap->Prop}{d:DefRec}{K:Params->PySem.W.Frag}{CX:World->CXT}{sp:World->Sp}{x:Str}
  (hn:l.most=some n) (hn2:n<=sizeLine) (hdf:d.params.defaults=[]) (hr:Room k callerA)
  (hY:∀(w:World) (h:Heap),YP w h->(K w.params).In h)
  (F:∀(w:World) (mg:Str->Option Value) (fa:Addr) (h:Heap),(K w.params).In h->h.Ns mainGlobals mg->mg d.name=some (.ref fa) ->
   ∃fd:FuncData,(∀(s:Shared) (u:Value),BindsTo s fd ⟨[u],[]⟩ [(x,u)])/\
    ∀base:Heap,(K w.params).In base->base.Ns mainGlobals mg->FnOk l.prog w (K w.params) mg base (CX w) k fa fd [x] (sp w))
  (hsp:∀(w:World) (H:Hp) (a:Addr) (ns:List Int),ns.length<=n->Only H->SqL (K w.params) H a (ns.map V.int)->sp w [.ref a] H (λv _=>v=.bl true) λ_ _ _=>False)
  (hCX:∀(w:World) (H:Hp) (s:Shared) (e:Value) (s':Shared),CX w [] H s (λ_ _ _=>False) e s'->False):
  PySem.W.WalkO q loose XP YP l.row.toRowW d [] (λf vs=>PySem.call f vs):=by
 refine Att.attach_call hn hdf λw s₀ s₁ mg mb fa o pm cd doc a vs ns G Y ho hd hcd hmg hobj hints hlen hg=>?_;have KX:=hY w _ Y;obtain⟨fd,hb,hF⟩:=F w mg fa _ KX G.T.g hmg;exact X0 KX G.T.g G.T.b G.T.builtins G.T.nolimit hg hobj hints (Nat.le_trans hlen hn2) hr hF hb (λH hO hS=>hsp w H a ns hlen hO hS) λH e s'=>hCX w H s₁ e s'
noncomputable def jJ(s:Stmt):Arguments:=match s with
 | .FunctionDef _ a _ _ _ _ _ _ _ _=>a
 |_=>{ posonlyargs:=[],args:=[],vararg:=none,kwonlyargs:=[],kw_defaults:=[],kwarg:=none,defaults:=[] }
noncomputable def defBody(s:Stmt):List Stmt:=match s with
 | .FunctionDef _ _ b _ _ _ _ _ _ _=>b
 |_=>[]
noncomputable def defScope(s:Stmt):Scope:=match s with
 | .FunctionDef _ _ _ _ _ _ sc _ _ _=>sc
 |_=>{ kind:=.function,names:=[],isGenerator:=false,isCoroutine:=false }
noncomputable abbrev CX0:CXT:=λ_ _ _ _ _ _=>False
noncomputable abbrev E0:XK:=λ_ _ _=>False
theorem pass0{X:Cx}:F8 CX0 X E0:=λ_ _ _ _ _ _ _ h=>h.elim
structure Fun(K:PySem.W.Frag)(x qual:Str)(st:Stmt)(f:Addr)(fd:FuncData):Prop where
 ex:∃(oc:Value) (od:Option Addr) (kV doc pm:Value) (an:Option Addr) (cdv ct:Value) (osl:Array (Option Value)),
  fd=PySem.W.fnOf x qual (jJ st) (defBody st) (defScope st) .none kV doc pm an cdv ct/\K.lookup f=some ⟨oc,od,.func fd,osl⟩/\PySem.W.codeIn K cdv qual=true
 kp:PySem.W.keepIn K (.ref f)=true
section
variable{P:Program}{w:World}{K:PySem.W.Frag}{mg:Str->Option Value}{base:Heap}
theorem Fun.ok{x qual:Str}{st:Stmt}{f:Addr}{fd:FuncData}{N ps:List Str}{k:Nat}{sp:Sp}(F:Fun K x qual st f fd)(S:zm N ps (defScope st))(len:∀vs H Q E,sp vs H Q E->vs.length=ps.length)
  (hbody:∀(cdv:Value) (A:Around) (outer:List Env) (s:Shared) (H:Hp) (vs:List V) (Q:VK) (E:XK),Room k (A.deeper (envOfC qual (defScope st) s.heap.objs.size f cdv))->sp vs H Q E ->
   ∃t,PSs (cxOf CX0 P w K mg base N qual (defScope st) f cdv A outer s H E).nox (defBody st) t/\t { nx:=λ_ H'=>Q .non H',rt:=Q } (start N vs) H):FnOk P w K mg base CX0 (k+1) f fd ps sp:=by
 obtain⟨oc,od,kV,doc,pm,an,cdv,ct,osl,rfl,lk,hcd⟩:=F.ex;refine qDL lk hcd S len λA outer s H vs Q E hr hsp=>?_;obtain⟨t,h,q⟩:=hbody cdv A outer s H vs Q E hr hsp;exact⟨t,h.nox,q⟩
theorem Fun.binds{x qual:Str}{st:Stmt}{f:Addr}{fd:FuncData}{ps:List Str}(F:Fun K x qual st f fd)
  (h:∀(kV doc pm:Value) (an:Option Addr) (cdv ct:Value) (us:List Value),us.length=ps.length->bindArgs (PySem.W.fnOf x qual (jJ st) (defBody st) (defScope st) .none kV doc pm an cdv ct) ⟨us,[]⟩=pure (ps.zip us)):Binds K fd ps []:=by
 obtain⟨oc,od,kV,doc,pm,an,cdv,ct,osl,rfl,lk,hcd⟩:=F.ex;exact .all (h kV doc pm an cdv ct)
theorem i4{x qual:Str}{st:Stmt}{f:Addr}{oc:Value}{od an:Option Addr}{osl:Array (Option Value)}{kV doc pm cdv ct:Value}(l:K.lookup f=some ⟨oc,od,.func (PySem.W.fnOf x qual (jJ st) (defBody st) (defScope st) .none kV doc pm an cdv ct),osl⟩)
  (c:PySem.W.codeIn K cdv qual=true) (k:PySem.W.keepIn K (.ref f)=true):Fun K x qual st f (PySem.W.fnOf x qual (jJ st) (defBody st) (defScope st) .none kV doc pm an cdv ct):=⟨⟨oc,od,kV,doc,pm,an,cdv,ct,osl,rfl,l,c⟩,k⟩
end
def ZK(H H':Hp):Prop:=∀b o,H b=some o->H' b=some o
section
variable{κ:Type}[DecidableEq κ]
noncomputable def valV(kvs:List (κ×V))(k:κ):Option V:=(kvs.find? λkv=>decide (kv.1=k)).map (·.2)
noncomputable def putK(kvs:List (κ×V))(k:κ)(v:V):List (κ×V):=
 if (kvs.any λkv=>decide (kv.1=k))=true then kvs.map (λkv=>if kv.1=k then (kv.1,v) else kv) else kvs++[(k,v)]
noncomputable def qBe(kvs:List (κ×V))(k:κ):List (κ×V):=kvs.filter λkv=>decide (kv.1≠k)
theorem Zd{p:κ×V}{r:List (κ×V)}{k:κ}(e:p.1=k):valV (p::r) k=some p.2:=by simp[valV,List.find?_cons,e]
theorem ZQ{p:κ×V}{r:List (κ×V)}{k:κ}(e:¬ p.1=k):valV (p::r) k=valV r k:=by simp[valV,List.find?_cons,e]
theorem valV_any(k:κ):∀kvs:List (κ×V),(kvs.any λkv=>decide (kv.1=k))=(valV kvs k).isSome
 | []=>rfl
 |p::r=>by
  rw[List.any_cons];by_cases e:p.1=k
  ·simp only[Zd e,vN e,Bool.true_or,Option.isSome_some]
  ·rw[ZQ e,vM e,Bool.false_or];exact valV_any k r
theorem Qc(kvs:List (κ×V))(k:κ)(v:V):(putK kvs k v).length<=kvs.length+1:=by
 unfold putK;split
 ·rw[wH];omega
 ·rw[List.length_append,List.length_cons,List.length_nil];omega
theorem RelO.isSome_eq{o:Option V}{u:Option Value}(r:RelO o u):o.isSome=u.isSome:=by
 cases o with
 |none=>cases u with
  |none=>rfl
  |some _=>exact(show False from r).elim
 |some _=>cases u with
  |none=>exact(show False from r).elim
  |some _=>rfl
theorem RelO.getD{o:Option V}{u:Option Value}{d:V}{d':Value}(r:RelO o u)(rd:RelV d d'):RelV (o.getD d) (u.getD d'):=by
 cases o with
 |none=>cases u with
  |none=>exact rd
  |some _=>exact(show False from r).elim
 |some _=>cases u with
  |none=>exact(show False from r).elim
  |some _=>exact r
theorem KV.val{kvs:List (κ×V)}{vs:List (κ×Value)}(r:KV kvs vs)(k:κ):RelO (valV kvs k) (valueAt vs k):=by
 unfold KV at r
 induction r with
 |nil=>exact True.intro
 | @cons p q ps qs h t ih=>
  obtain⟨h1,h2⟩:=h;by_cases e:p.1=k
  ·have e':q.1=k:=h1.symm.trans e;have b:valueAt (q::qs) k=some q.2:=by simp[valueAt,List.find?_cons,e']
   rw[Zd e,b];exact h2
  ·have e':¬ q.1=k:=λz=>e (h1.trans z);have b:valueAt (q::qs) k=valueAt qs k:=by simp[valueAt,List.find?_cons,e']
   rw[ZQ e,b];exact ih
theorem KV.any{kvs:List (κ×V)}{vs:List (κ×Value)}(r:KV kvs vs)(k:κ):(kvs.any λkv=>decide (kv.1=k))=vs.any λkv=>decide (kv.1=k):=by
 unfold KV at r
 induction r with
 |nil=>rfl
 |cons h t ih=>rw[List.any_cons,List.any_cons,ih,h.1]
theorem KV.repl{kvs:List (κ×V)}{vs:List (κ×Value)}(r:KV kvs vs)(k:κ){y:V}{u:Value}(ry:RelV y u):
  KV (kvs.map λkv=>if kv.1=k then (kv.1,y) else kv) (vs.map λkv=>if kv.1=k then (kv.1,u) else kv):=by
 unfold KV at r ⊢
 induction r with
 |nil=>exact .nil
 | @cons p q ps qs h t ih=>
  rw[List.map_cons,List.map_cons];refine .cons ?_ ih;obtain⟨h1,h2⟩:=h;by_cases e:p.1=k
  ·rw[if_pos e,if_pos (h1.symm.trans e)];exact⟨h1,ry⟩
  ·rw[if_neg e,if_neg (λz=>e (h1.trans z))];exact⟨h1,h2⟩
theorem KV.put{kvs:List (κ×V)}{vs:List (κ×Value)}(r:KV kvs vs)(k:κ){y:V}{u:Value}(ry:RelV y u):KV (putK kvs k y) (stored vs k u):=by
 unfold putK stored;rw[r.any k];by_cases e:(vs.any λkv=>decide (kv.1=k))=true
 ·rw[if_pos e,if_pos e];exact r.repl k ry
 ·rw[if_neg e,if_neg e];exact Paired.snoc r ⟨rfl,ry⟩
theorem KV.drop{kvs:List (κ×V)}{vs:List (κ×Value)}(r:KV kvs vs)(k:κ):KV (qBe kvs k) (without vs k):=by
 unfold KV at r ⊢;unfold qBe without
 induction r with
 |nil=>exact .nil
 | @cons p q ps qs h t ih=>
  obtain⟨h1,h2⟩:=h;rw[List.filter_cons,List.filter_cons];by_cases e:p.1=k
  ·have a:¬ decide (p.1≠k)=true:=by simp[e]
   have b:¬ decide (q.1≠k)=true:=by simp[h1.symm.trans e]
   rw[if_neg a,if_neg b];exact ih
  ·have e':¬ q.1=k:=λz=>e (h1.trans z);have a:decide (p.1≠k)=true:=by simp[e]
   have b:decide (q.1≠k)=true:=by simp[e']
   rw[if_pos a,if_pos b];exact .cons ⟨h1,h2⟩ ih
theorem KV.length{kvs:List (κ×V)}{vs:List (κ×Value)}(r:KV kvs vs):kvs.length=vs.length:=Paired.length r
end
theorem X4{P:Program}{w:World}{k:Key}{u:Value}(r:RelV (kV k) u):(qt P w).is k u=true:=by
 cases k with
 |inl i=>obtain⟨t,e⟩:=(show ∃t,u=Value.int i t from r);subst e;exact A0 P w i t
 |inr x=>obtain⟨t,e⟩:=(show ∃t,u=Value.str x t from r);subst e;exact A5 P w x t
theorem JM{P:Program}{w:World}:∀{ks:List Key}{us:List Value},Vals (ks.map kV) us->ItemsAre (qt P w) ks us
 | [],_,r=>by rw[List.map_nil]at r;cases r;exact .nil
 |k::ks,_,r=>by
  rw[List.map_cons]at r;cases r with
  |cons h t=>exact .cons (X4 h) (JM t)
abbrev KT(H:Hp):List (List Key×V)->List (List Key×Addr×Value)->Prop:=Paired λp q=>p.1=q.1/\H q.2.1=some (.tup (p.1.map kV))/\RelV p.2 q.2.2
theorem KT.val{H:Hp}{kvs:List (List Key×V)}{xs:List (List Key×Addr×Value)}(r:KT H kvs xs)(k:List Key):RelO (valV kvs k) ((atKey xs k).map (·.2)):=by
 induction r with
 |nil=>exact True.intro
 | @cons p q ps qs h t ih=>
  obtain⟨h1,_,h2⟩:=h;by_cases e:p.1=k
  ·have e':q.1=k:=h1.symm.trans e;have b:atKey (q::qs) k=some q.2:=by simp[atKey,List.find?_cons,e']
   rw[Zd e,b];exact h2
  ·have e':¬ q.1=k:=λz=>e (h1.trans z);have b:atKey (q::qs) k=atKey qs k:=by simp[atKey,List.find?_cons,e']
   rw[ZQ e,b];exact ih
theorem KT.repl{H:Hp}{kvs:List (List Key×V)}{xs:List (List Key×Addr×Value)}(r:KT H kvs xs)(k:List Key){y:V}{u:Value}(ry:RelV y u):
  KT H (kvs.map λkv=>if kv.1=k then (kv.1,y) else kv) (xs.map (putAt k u)):=by
 induction r with
 |nil=>exact .nil
 | @cons p q ps qs h t ih=>
  rw[List.map_cons,List.map_cons];refine .cons ?_ ih;obtain⟨h1,h2,h3⟩:=h;unfold putAt;by_cases e:p.1=k
  ·rw[if_pos e,if_pos (h1.symm.trans e)];exact⟨h1,h2,ry⟩
  ·rw[if_neg e,if_neg (λz=>e (h1.trans z))];exact⟨h1,h2,h3⟩
theorem KT.put{H:Hp}{kvs:List (List Key×V)}{xs:List (List Key×Addr×Value)}(r:KT H kvs xs)(k:List Key){b:Addr}{y:V}{u:Value}(hb:H b=some (.tup (k.map kV)))(ry:RelV y u):
  KT H (putK kvs k y) (storedH xs k b u):=by
 have e:(kvs.any λkv=>decide (kv.1=k))=(atKey xs k).isSome:=by
  rw[valV_any,(r.val k).isSome_eq,Option.isSome_map]
 unfold putK storedH;rw[e];by_cases q:(atKey xs k).isSome=true
 ·rw[if_pos q,if_pos q];exact r.repl k ry
 ·rw[if_neg q,if_neg q];exact Paired.snoc r ⟨rfl,hb,ry⟩
theorem KT.keeps{H H':Hp}{kvs:List (List Key×V)}{xs:List (List Key×Addr×Value)}(r:KT H kvs xs)(ht:∀b ys,H b=some (.tup ys)->H' b=some (.tup ys)):KT H' kvs xs:=
 Paired.mapP r λ_ _ z=>⟨z.1,ht _ _ z.2.1,z.2.2⟩
section
variable{P:Program}{w:World}{H:Hp}{h:Heap}{a:Addr}
theorem qAm{u:HO}(ok:HOk P w H h)(e:Rd H a u):ObjOk P w H h a u:=e.ok ok
theorem qAW{kvs:List (Key×V)}(ok:HOk P w H h)(e:Rd H a (.dK kvs)):kvs.length<=sizeLine/\(a==sysModules)=false/\∃vs,KV kvs vs/\h.DictOf (qt P w) a vs:=
 show ObjOk P w H h a (.dK kvs) from qAm ok e
theorem qDW{kvs:List (Key×V)}(ok:HOk P w H h)(e:H a=some (.dK kvs)):kvs.length<=sizeLine/\(a==sysModules)=false/\∃vs,KV kvs vs/\h.DictOf (qt P w) a vs:=qAW ok (.inl e)
theorem F9{ks:List Key}(ok:HOk P w H h)(e:H a=some (.tup (ks.map kV))):(tupleKind (qt P w)).is h ks a:=by
 obtain⟨_,its,r,o,h1,h2,n,h3⟩:=(show ObjOk P w H h a (.tup (ks.map kV)) from ok a _ e)
 exact⟨o,its.toArray,n,h1,h2,h3,by simpa using JM r⟩
theorem qAE{kvs:List (List Key×V)}(ok:HOk P w H h)(e:Rd H a (.dT kvs)):kvs.length<=sizeLine/\(a==sysModules)=false/\
  ∃xs,KT H kvs xs/\h.DictOfH (tupleKind (qt P w)) a xs:=by
 obtain⟨z,y,xs,r,o,es,ep,h1,h2,h3,h4,h5⟩:=(show ObjOk P w H h a (.dT kvs) from qAm ok e)
 refine⟨z,y,xs,r,o,es,ep,h1,h2,h3,h4,λx hx=>?_,h5⟩;have all:∀{l:List (List Key×V)}{m:List (List Key×Addr×Value)},KT H l m->∀x∈m,(tupleKind (qt P w)).is h x.1 x.2.1:=by
  intro l m q
  induction q with
  |nil=>intro x hx;exact nomatch hx
  | @cons p q ps qs hq t ih=>
   intro x hx;rcases List.mem_cons.mp hx with e|hx
   ·subst e;exact F9 ok (by rw[<-hq.1];exact hq.2.1)
   ·exact ih x hx
 exact all r x hx
theorem qCt{kvs:List (List Key×V)}(ok:HOk P w H h)(e:H a=some (.dT kvs)):kvs.length<=sizeLine/\(a==sysModules)=false/\
  ∃xs,KT H kvs xs/\h.DictOfH (tupleKind (qt P w)) a xs:=qAE ok (.inl e)
end
def DGet(H:Hp)(a:Addr)(y:V)(r:Option V):Prop:=
 (∃kvs k,Rd H a (.dK kvs)/\y=kV k/\r=valV kvs k)\/∃kvs k b,Rd H a (.dT kvs)/\y=.ref b/\H b=some (.tup (k.map kV))/\r=valV kvs k
def DPut(H:Hp)(a:Addr)(y v:V)(H':Hp):Prop:=
 (∃kvs k,H a=some (.dK kvs)/\y=kV k/\kvs.length<sizeLine/\H'=upd H a (.dK (putK kvs k v)))\/
 ∃kvs k b,H a=some (.dT kvs)/\y=.ref b/\H b=some (.tup (k.map kV))/\kvs.length<sizeLine/\H'=upd H a (.dT (putK kvs k v))
theorem DGet.k{H:Hp}{a:Addr}{kvs:List (Key×V)}{k:Key}(e:H a=some (.dK kvs)):DGet H a (kV k) (valV kvs k):=.inl ⟨kvs,k,.inl e,rfl,rfl⟩
theorem DGet.t{H:Hp}{a b:Addr}{kvs:List (List Key×V)}{k:List Key}(e:H a=some (.dT kvs))(eb:H b=some (.tup (k.map kV))):DGet H a (.ref b) (valV kvs k):=.inr ⟨kvs,k,b,.inl e,rfl,eb,rfl⟩
theorem DPut.k{H:Hp}{a:Addr}{kvs:List (Key×V)}{k:Key}{v:V}(e:H a=some (.dK kvs))(hl:kvs.length<sizeLine):DPut H a (kV k) v (upd H a (.dK (putK kvs k v))):=.inl ⟨kvs,k,e,rfl,hl,rfl⟩
theorem DPut.t{H:Hp}{a b:Addr}{kvs:List (List Key×V)}{k:List Key}{v:V}(e:H a=some (.dT kvs))(eb:H b=some (.tup (k.map kV)))(hl:kvs.length<sizeLine):
  DPut H a (.ref b) v (upd H a (.dT (putK kvs k v))):=.inr ⟨kvs,k,b,e,rfl,eb,hl,rfl⟩
section
variable{X:Cx}{pins:List (Addr×Obj)}{σ:St}{H:Hp}{s:Shared}{a:Addr}{y v:V}{u r:Value}{o:Option V}{A:Around}{E:Value->Shared->Prop}
theorem d_in{Q:Value->Shared->Prop}(hu:A.units+1<cLine)(I:Inv X pins σ H s)(g:DGet H a y o)(ry:RelV y u)(h:∀s',Inv X pins σ H s'->Q (.bool o.isSome) s'):
  wpAny (model X.prog X.w) A (compareOp .In u (.ref a)) Q E s:=by
 rcases g with⟨kvs,k,e,ey,l⟩|⟨kvs,k,b,e,ey,eb,l⟩
 ·subst ey;obtain⟨z,hd,vs,rel,dd⟩:=qAW I.hok e;refine wpAny_in_of (X4 ry) hd dd.mapOf ?_;rw[<-(rel.val k).isSome_eq,<-l];exact h _ (I.tok _)
 ·subst ey;cases (show u=Value.ref b from ry);obtain⟨z,hd,xs,rel,dd⟩:=qAE I.hok e;refine wpAny_in_heap (tupleKind_room_in1 hu) (F9 I.hok eb) hd dd ?_;have q:=(rel.val k).isSome_eq;rw[Option.isSome_map]at q;rw[<-q,<-l];exact h _ (I.tok _)
theorem d_notIn{Q:Value->Shared->Prop}(hu:A.units+1<cLine)(I:Inv X pins σ H s)(g:DGet H a y o)(ry:RelV y u)(h:∀s',Inv X pins σ H s'->Q (.bool (!o.isSome)) s'):
  wpAny (model X.prog X.w) A (compareOp .NotIn u (.ref a)) Q E s:=by
 rcases g with⟨kvs,k,e,ey,l⟩|⟨kvs,k,b,e,ey,eb,l⟩
 ·subst ey;obtain⟨z,hd,vs,rel,dd⟩:=qAW I.hok e;refine wpAny_notIn_of (X4 ry) hd dd.mapOf ?_;rw[<-(rel.val k).isSome_eq,<-l];exact h _ (I.tok _)
 ·subst ey;cases (show u=Value.ref b from ry);obtain⟨z,hd,xs,rel,dd⟩:=qAE I.hok e;refine wpAny_notIn_heap (tupleKind_room_in1 hu) (F9 I.hok eb) hd dd ?_;have q:=(rel.val k).isSome_eq;rw[Option.isSome_map]at q;rw[<-q,<-l];exact h _ (I.tok _)
theorem Q3{h':Heap}{t':Nat}{ob:HO}(I:Inv X pins σ H s)(mu:Mut (H a))(hs:Heap.SameBut a s.heap h')(he:∃q,h'.get? a=some q)(new:ObjOk X.prog X.w (upd H a ob) h' a ob):
  Inv X pins σ (upd H a ob) { s with heap:=h',toks:=t' }:=
 I.write (x:=a) (e:=a) mu (.inl rfl) (λb q hb z=>(hs.2 b hb).trans z) he new
theorem qB3{P:Program}{w:World}{H':Hp}{h':Heap}{kvs:List (Key×V)}{vs:List (Key×Value)}(z:kvs.length<=sizeLine)(hd:(a==sysModules)=false)(rel:KV kvs vs)(dd:h'.DictOf (qt P w) a vs):
  ObjOk P w H' h' a (.dK kvs):=⟨z,hd,vs,rel,dd⟩
theorem d_setItem{H':Hp}{Q:Unit->Shared->Prop}(hu:A.units+1<cLine)(I:Inv X pins σ H s)(g:DPut H a y v H')(ry:RelV y u)(rv:RelV v r)(h:∀s',Inv X pins σ H' s'->Q () s'):
  wpAny (model X.prog X.w) A (setItem (.ref a) u r) Q E s:=by
 rcases g with⟨kvs,k,e,ey,l,eH⟩|⟨kvs,k,b,e,ey,eb,l,eH⟩
 ·subst ey eH;obtain⟨z,hd,vs,rel,dd⟩:=qDW I.hok e;have hz:vs.length<=sizeLine:=by rw[<-rel.length];exact z
  have hl:(putK kvs k v).length<=sizeLine:=by have:=Qc kvs k v;omega
  refine wpAny_setItem_pairs (hsz:=hz) (X4 ry) dd λh' dd' hs=>h _ ?_;have he:∃q,h'.get? a=some q:=let ⟨q,_,_,hq,_⟩:=dd';⟨q,hq⟩
  exact Q3 I (by rw[e];exact True.intro) hs he (qB3 hl hd (rel.put k rv) dd')
 ·subst ey eH;cases (show u=Value.ref b from ry);obtain⟨z,hd,xs,rel,dd⟩:=qCt I.hok e;have hz:xs.length<=sizeLine:=by rw[<-Paired.length rel];exact z
  have hl:(putK kvs k v).length<=sizeLine:=by have:=Qc kvs k v;omega
  refine wpAny_setItem_heap (hsz:=hz) (tupleKind_room_in1 hu) (F9 I.hok eb) dd λh' dd' hs=>h _ ?_;obtain⟨q,es,ep,hq,h2,h3,h4,_,h5⟩:=dd';refine Q3 I (by rw[e];exact True.intro) hs ⟨q,hq⟩ ⟨hl,hd,_,(rel.put k eb rv).keeps λc ys ec=>?_,q,es,ep,hq,h2,h3,h4,h5⟩;rw[qE (qCw ec e (λz=>nomatch z))];exact ec
end
noncomputable def qA6(kvs more:List (Key×V)):List (Key×V):=more.foldl (λacc kv=>putK acc kv.1 kv.2) kvs
structure M1(X:Cx)(o:Expr)(m:Str)(apos:Pos)(e:Expr)(cpos:Pos):Prop where
 base:attributeBase o m X.env (eval o X.env)=eval o X.env
 few:((backTo cpos (starEach [e] X.env)).all (λx=>!x.1)&&(backToKw cpos (keywordEach [] X.env)).all (λx=>x.1.isSome)
  && decide (([e]:List Expr).length+([]:List Keyword).length+(if ([]:List Keyword).isEmpty then 0 else 1)<30))=true
 line:(apos.endLine==cpos.line)=true
 trees:backTo cpos (starEach [e] X.env)=[(false,eval e X.env)]
structure M2(X:Cx)(o:Expr)(m:Str)(apos:Pos)(e f:Expr)(cpos:Pos):Prop where
 base:attributeBase o m X.env (eval o X.env)=eval o X.env
 few:((backTo cpos (starEach [e,f] X.env)).all (λx=>!x.1)&&(backToKw cpos (keywordEach [] X.env)).all (λx=>x.1.isSome)
  && decide (([e,f]:List Expr).length+([]:List Keyword).length+(if ([]:List Keyword).isEmpty then 0 else 1)<30))=true
 line:(apos.endLine==cpos.line)=true
 trees:backTo cpos (starEach [e,f] X.env)=[(false,eval e X.env),(false,eval f X.env)]
end L2
set_option maxHeartbeats 4000000
namespace L2
open PySem PySem.Spec PyProof.Rows
theorem KV.len{kvs:List (Key×V)}{vs:List (Key×Value)}(r:KV kvs vs):vs.length=kvs.length:=(Paired.length r).symm
theorem KV.key{kvs:List (Key×V)}{vs:List (Key×Value)}(r:KV kvs vs){i:Nat}{k:Key×V}(e:kvs[i]?=some k):∃v,vs[i]?=some (k.1,v):=by
 induction r generalizing i with
 |nil=>simp at e
 |cons h t ih=>
  cases i with
  |zero=>cases e;exact⟨_,by rw[List.getElem?_cons_zero];congr 1;exact Prod.ext h.1.symm rfl⟩
  |succ i=>exact ih (by simpa using e)
noncomputable def L1(cells:List (Str×Addr)):List (Str×NameKind)->List (Str×Addr)->List (Str×Addr)
 | [],cs=>cs
 | (n,k)::r,cs=>L1 cells r (if k=.free then (match cells.lookup n with|some c=>(n,c)::cs|none=>cs) else cs)
theorem zf{scope:Scope}{env:Env}(h:∀y∈scope.names,y.2=.free->∃c,env.cells.lookup y.1=some c):closureFor scope env=pure (L1 env.cells scope.names []):=by
 simp only[closureFor];generalize scope.names=names at h;have key:∀(names:List (Str×NameKind)) (cs:List (Str×Addr)),(∀y∈names,y.2=.free->∃c,env.cells.lookup y.1=some c) ->
   (forIn names cs λx r=>if (x.2==NameKind.free)=true then do let c <- cellOf env x.1;pure (ForInStep.yield ((x.1,c)::r)) else pure (ForInStep.yield r))=(pure (L1 env.cells names cs):Sem _):=by
  intro names
  induction names with
  |nil=>intro cs _;rfl
  |cons y r ih=>
   intro cs hy;obtain⟨n,k⟩:=y;rw[List.forIn_cons];by_cases hk:k=.free
   ·subst hk;obtain⟨c,hc⟩:=hy (n,.free) List.mem_cons_self rfl;have hc':List.lookup n env.cells=some c:=hc;have e:cellOf env n=pure c:=by unfold cellOf;rw[hc']
    simp only[vR,if_true,e,pure_bind,L1,hc'];exact ih _ λy hm=>hy y (List.mem_cons_of_mem _ hm)
   ·have hb:(k==NameKind.free)=false:=by simpa using hk
    simp only[hb,Bool.false_eq_true,if_false,pure_bind,L1,if_neg hk];exact ih _ λy hm=>hy y (List.mem_cons_of_mem _ hm)
 rw[key names [] h];rfl
theorem l7{cells:List (Str×Addr)}{x:Str}{c:Addr}:∀{names:List (Str×NameKind)}{cs:List (Str×Addr)},(L1 cells names cs).lookup x=some c->cs.lookup x=some c\/cells.lookup x=some c
 | [],cs,h=>.inl h
 | (n,k)::r,cs,h=>by
  unfold L1 at h;rcases l7 h with h2|h2
  ·clear h;by_cases hk:k=.free
   ·rw[if_pos hk]at h2;cases e:cells.lookup n with
    |none=>rw[e]at h2;exact .inl h2
    |some c'=>
     rw[e]at h2;simp only[List.lookup_cons]at h2;cases hx:x==n with
     |true=>
      have hx':x=n:=by simpa using hx
      rw[hx]at h2;subst hx';cases h2;exact .inr e
     |false=>
      rw[hx]at h2;exact .inl h2
   ·rw[if_neg hk]at h2;exact .inl h2
  ·exact .inr h2
theorem l8{cells:List (Str×Addr)}{x:Str}{c:Addr}(hc:cells.lookup x=some c):∀{names:List (Str×NameKind)}{cs:List (Str×Addr)},((x,NameKind.free)∈names\/cs.lookup x=some c)->(∀c',cs.lookup x=some c'->c'=c)->(L1 cells names cs).lookup x=some c
 | [],cs,h,_=>by
  rcases h with h|h
  ·exact nomatch h
  ·exact h
 | (n,k)::r,cs,h,hu=>by
  unfold L1;refine l8 hc ?_ ?_
  ·rcases h with h|h
   ·rcases List.mem_cons.mp h with h|h
    ·cases h;right;rw[if_pos rfl,hc];simp
    ·exact .inl h
   ·right;by_cases hk:k=.free
    ·rw[if_pos hk];cases e:cells.lookup n with
     |none=>exact h
     |some c'=>
      simp only[List.lookup_cons];cases hx:x==n with
      |true=>
       have hx':x=n:=by simpa using hx
       subst hx';rw[hc]at e;cases e;rfl
      |false=>exact h
    ·rw[if_neg hk];exact h
  ·intro c' h';by_cases hk:k=.free
   ·rw[if_pos hk]at h';cases e:cells.lookup n with
    |none=>rw[e]at h';exact hu c' h'
    |some c2=>
     rw[e]at h';simp only[List.lookup_cons]at h';cases hx:x==n with
     |true=>
      have hx':x=n:=by simpa using hx
      subst hx';rw[hx]at h';rw[hc]at e;cases e;cases h';rfl
     |false=>
      rw[hx]at h';exact hu c' h'
   ·rw[if_neg hk]at h';exact hu c' h'
theorem QB{env:Env}:∀{names:List (Str×NameKind)}{x:Str},names.lookup x=some .free ->
  (names.map λ(n,k)=>if (k==NameKind.free&&env.scope.kind==.function&&env.kindOf n==some .cell) then (n,NameKind.cell) else (n,k)).lookup x=some .cell\/
  (names.map λ(n,k)=>if (k==NameKind.free&&env.scope.kind==.function&&env.kindOf n==some .cell) then (n,NameKind.cell) else (n,k)).lookup x=some .free
 | [],_,h=>by simp at h
 | (n,k)::r,x,h=>by
  have ih:=@QB env r x;simp only[List.map_cons];cases hx:x==n with
  |true=>
   simp only[List.lookup_cons,hx]at h;cases h;by_cases hc:(NameKind.free==NameKind.free&&env.scope.kind==.function&&env.kindOf n==some .cell)=true
   ·rw[if_pos hc];left;simp[List.lookup_cons,hx]
   ·rw[if_neg hc];right;simp[List.lookup_cons,hx]
  |false=>
   simp only[List.lookup_cons,hx]at h;by_cases hc:(k==NameKind.free&&env.scope.kind==.function&&env.kindOf n==some .cell)=true
   ·rw[if_pos hc];simp only[List.lookup_cons,hx];exact ih h
   ·rw[if_neg hc];simp only[List.lookup_cons,hx];exact ih h
theorem zj{env:Env}:∀{names:List (Str×NameKind)}{x:Str},
  ((names.map λ(n,k)=>if (k==NameKind.free&&env.scope.kind==.function&&env.kindOf n==some .cell) then (n,NameKind.cell) else (n,k)).lookup x=some .cell\/
  (names.map λ(n,k)=>if (k==NameKind.free&&env.scope.kind==.function&&env.kindOf n==some .cell) then (n,NameKind.cell) else (n,k)).lookup x=some .free)->names.lookup x=some .free\/names.lookup x=some .cell
 | [],_,h=>by simp at h
 | (n,k)::r,x,h=>by
  have ih:=@zj env r x;simp only[List.map_cons]at h;cases hx:x==n with
  |true=>
   simp only[List.lookup_cons,hx];by_cases hc:(k==NameKind.free&&env.scope.kind==.function&&env.kindOf n==some .cell)=true
   ·rw[if_pos hc]at h;have hk:k=.free:=by
     cases k<;>first|rfl|(simp at hc)
    rw[hk];exact .inl rfl
   ·rw[if_neg hc]at h;simp only[List.lookup_cons,hx]at h;exact h.symm
  |false=>
   simp only[List.lookup_cons,hx];by_cases hc:(k==NameKind.free&&env.scope.kind==.function&&env.kindOf n==some .cell)=true
   ·rw[if_pos hc]at h;simp only[List.lookup_cons,hx]at h;exact ih h
   ·rw[if_neg hc]at h;simp only[List.lookup_cons,hx]at h;exact ih h
theorem jB:∀(names:List (Str×NameKind)) (a:Nat) (acc:List (Str×Addr)),cellsFrom a names acc=cellsFrom a names []++acc
 | [],a,acc=>rfl
 | (n,k)::r,a,acc=>by
  unfold cellsFrom;split
  ·rw[jB r (a+1) ((n,a)::acc),jB r (a+1) [(n,a)],wL];rfl
  ·exact jB r a acc
theorem ZU{x:Str}{c:Addr}:∀{names:List (Str×NameKind)}{a:Nat},(x,c)∈cellsFrom a names []->(x,NameKind.cell)∈names
 | [],a,h=>nomatch h
 | (n,k)::r,a,h=>by
  unfold cellsFrom at h;split at h
  ·rename_i hk;rw[jB,wE]at h;rcases h with h|h
   ·exact List.mem_cons_of_mem _ (ZU h)
   ·have:(x,c)=(n,a):=wJ.mp h;cases this;rw[beq_iff_eq.mp hk];exact List.mem_cons_self
  ·exact List.mem_cons_of_mem _ (ZU h)
theorem G5{x:Str}:∀{names:List (Str×NameKind)}{a:Nat},(x,NameKind.cell)∈names->∃c,(cellsFrom a names []).lookup x=some c
 | [],a,h=>nomatch h
 | (n,k)::r,a,h=>by
  unfold cellsFrom;rcases List.mem_cons.mp h with h|h
  ·cases h;rw[if_pos (by decide),jB,wc];cases (cellsFrom (a+1) r []).lookup x with
   |none=>exact⟨a,by simp⟩
   |some c=>exact⟨c,rfl⟩
  ·split
   ·obtain⟨c,hc⟩:=G5 (a:=a+1) h;exact⟨c,by rw[jB,wc,hc];rfl⟩
   ·exact G5 h
noncomputable def zp(X:Cx)(scope:Scope)(C:Addr):List (Str×Addr):=cellsFrom (C+1) scope.names (L1 X.env.cells scope.names [])
noncomputable def cxComp(X:Cx)(scope:Scope)(C:Addr)(fp:List Addr)(s₂:Shared)(H₂:Hp)(N:List Str):Cx:=
 { X with N:=N,s₀:=s₂,H₀:=H₂,env:=compEnvC scope (zp X scope C) C X.env,outer:=X.stack,ex:=fp,fn:=λx=>decide (scope.names.lookup x=some .cell),pn:=[],xe:=λ_ _=>False }
noncomputable def inner(src:List (Option Nat))(σ:St):St:=src.map λo=>match o with|none=>none|some j=>(σ[j]?).join
structure CompScope(X:Cx)(scope:Scope)(N:List Str)(src:List (Option Nat)):Prop where
 kind:scope.kind=.function
 uniq:∀y∈scope.names,scope.names.lookup y.1=some y.2
 frees:∀y∈scope.names,y.2=NameKind.free->X.env.kindOf y.1=some .cell\/X.env.kindOf y.1=some .free
 nd:N.Nodup
 len:src.length=N.length
 from_:∀(i:Nat) x j,N[i]?=some x->src[i]?=some (some j)->X.N[j]?=some x/\scope.names.lookup x=some .free
theorem qf{x:Str}{k:NameKind}:∀{names:List (Str×NameKind)},names.lookup x=some k->(x,k)∈names
 | [],h=>by simp at h
 | (n,k')::r,h=>by
  cases hx:x==n with
  |true=>
   simp only[List.lookup_cons,hx]at h;have hx':x=n:=by simpa using hx
   cases h;subst hx';exact List.mem_cons_self
  |false=>
   simp only[List.lookup_cons,hx]at h;exact List.mem_cons_of_mem _ (qf h)
section
variable{X:Cx}{pins:List (Addr×Obj)}{σ:St}{H₂:Hp}{s₂:Shared}{scope:Scope}{N:List Str}{src:List (Option Nat)}{fp:List Addr}
theorem CompScope.cells(S:CompScope X scope N src)(ok:X.Ok):∀y∈scope.names,y.2=.free->∃c,X.env.cells.lookup y.1=some c:=λy hy hk=>ok.has y.1 (S.frees y hy hk)
theorem CompScope.names(S:CompScope X scope N src):∀y∈scope.names,y.2=NameKind.local->scope.names.lookup y.1=some .local:=λy hy hk=>by rw[<-hk];exact S.uniq y hy
theorem zC{C:Addr}{h₁:Heap}(ow:CellsOk h₁ (C+1) (cellsFrom (C+1) scope.names [])){x:Str}{c:Addr}(h:(zp X scope C).lookup x=some c):
  ((x,c)∈cellsFrom (C+1) scope.names []/\(x,NameKind.cell)∈scope.names/\h₁.IsCell c none/\C<c)\/X.env.cells.lookup x=some c:=by
 unfold zp at h;rw[jB,wc]at h;cases e:(cellsFrom (C+1) scope.names []).lookup x with
 |some c'=>
  rw[e]at h;cases h;have m:=PySem.mem_of_lookup e;exact .inl ⟨m,ZU m,(ow.empty x c m).1,(ow.empty x c m).2⟩
 |none=>
  rw[e]at h;rcases l7 (show (L1 X.env.cells scope.names []).lookup x=some c by simpa using h) with h|h
  ·simp at h
  ·exact .inr h
theorem Qz(S:CompScope X scope N src){C:Addr}{x:Str}{c:Addr}(hf:scope.names.lookup x=some .free)(h:X.env.cells.lookup x=some c):(zp X scope C).lookup x=some c:=by
 unfold zp;rw[jB,wc];have:(cellsFrom (C+1) scope.names []).lookup x=none:=by
  cases e:(cellsFrom (C+1) scope.names []).lookup x with
  |none=>rfl
  |some c'=>
   have:=S.uniq _ (ZU (PySem.mem_of_lookup e));rw[hf]at this;cases this
 rw[this,l8 h (.inl (qf hf)) (by intro c' h';simp at h')];rfl
theorem u4(S:CompScope X scope N src)(I:Inv X pins σ H₂ s₂)(f2:∀b∈fp,Qr X pins H₂ b)(ob:∀b∈fp,∃o,s₂.heap.get? b=some o/\∀v,o.data≠.cell v){C:Addr}(hC:s₂.heap.objs.size<=C){h₁:Heap}(ow:CellsOk h₁ (C+1) (cellsFrom (C+1) scope.names [])):
  (cxComp X scope C fp s₂ H₂ N).Ok:=by
 have lt:∀x c,X.env.cells.lookup x=some c->c<s₂.heap.objs.size:=λx c h=>let ⟨v,q⟩:=I.cell x c h;q.lt
 refine⟨I.ok.mod,S.kind,I.ok.glob,I.ok.blt,hC,λx y c h1 h2=>?_,λx hx=>?_,λx c hf h=>?_,I.ok.hd,I.ok.frames,.inl rfl,λb hb=>⟨?_,λx c h=>?_⟩,λb o e=>I.bs b o e,?_,λb o e hb=>?_,λb hb=>?_,I.stack,I.stkFree⟩
 ·rcases zC ow h1 with⟨m1,_,_,g1⟩|g1<;>rcases zC ow h2 with⟨m2,_,_,g2⟩|g2
  ·exact PySem.name_of_addr ow.apart m1 m2
  ·exact absurd (wa (wC (lt y c g2) hC) g1) (Nat.lt_irrefl _)
  ·exact absurd (wa (wC (lt x c g1) hC) g2) (Nat.lt_irrefl _)
  ·exact I.ok.inj x y c g1 g2
 ·rcases zj hx with hf|hf
  ·obtain⟨c,hc⟩:=S.cells I.ok (x,.free) (qf hf) rfl;exact⟨c,Qz S hf hc⟩
  ·obtain⟨c,hc⟩:=G5 (a:=C+1) (qf hf);exact⟨c,by show (zp X scope C).lookup x=_;unfold zp;rw[jB,wc,hc];rfl⟩
 ·have hf':scope.names.lookup x=some .cell:=vP hf;rcases zC ow h with⟨_,_,_,g⟩|g
  ·exact wm (Nat.lt_of_le_of_lt hC g)
  ·unfold cxComp at h;have h:(zp X scope C).lookup x=some c:=h;obtain⟨c',hc'⟩:=G5 (a:=C+1) (qf hf');have e:(zp X scope C).lookup x=some c':=by unfold zp;rw[jB,wc,hc'];rfl
   rw[e]at h;cases h;have:=(ow.empty x c (PySem.mem_of_lookup hc')).2;exact Nat.le_trans hC (Nat.le_of_succ_le this)
 ·obtain⟨o,e,_⟩:=ob b hb;exact wM (wC (Heap.lt_size e) hC)
 ·rcases zC ow h with⟨_,_,_,g⟩|g
  ·obtain⟨o,e,_⟩:=ob b hb;exact Nat.ne_of_gt (wa (wC (Heap.lt_size e) hC) g)
  ·exact(f2 b hb).2.2.2.2.1 x c g
 ·exact Nat.le_trans I.ok.bsz I.sz
 ·rcases(f2 b hb).2.2.2.1 with z|z
  ·exact I.ok.noex b o e z
  ·exact absurd (wC (Heap.lt_size e) (Nat.le_trans I.ok.bsz z)) (Nat.lt_irrefl _)
 ·intro hz;rcases List.mem_cons.mp (I.stkSub b hz) with e|e
  ·exact(f2 b hb).2.1 e
  ·exact(f2 b hb).2.2.1 e
theorem Zk(S:CompScope X scope N src)(I:Inv X pins σ H₂ s₂)(f2:∀b∈fp,Qr X pins H₂ b)(ob:∀b∈fp,∃o,s₂.heap.get? b=some o/\∀v,o.data≠.cell v){C:Addr}{h₁:Heap}{m:Str->Option Value}{tk n:Nat}
  (hC:s₂.heap.objs.size<C) (keep:∀b o,s₂.heap.get? b=some o->h₁.get? b=some o) (hD:h₁.get? s₂.heap.objs.size=some { cls:=.type "list",data:=.seq #[] n }) (hn:h₁.Ns C m) (ow:CellsOk h₁ (C+1) (cellsFrom (C+1) scope.names [])):
  Inv (cxComp X scope C fp s₂ H₂ N) [] (inner src σ) (upd H₂ s₂.heap.objs.size (.lst [])) { s₂ with heap:=h₁,toks:=tk }:=by
 have lt:∀x c,X.env.cells.lookup x=some c->c<s₂.heap.objs.size:=λx c h=>let ⟨v,q⟩:=I.cell x c h;q.lt
 have hfr:H₂ s₂.heap.objs.size=none:=I.hok.fresh (Nat.le_refl _);refine⟨u4 S I f2 ob (wm hC) ow,rfl,I.bare,Un.laid keep (Nat.le_refl _) hfr,⟨m,hn,λi x v e1 e2 e3=>?_⟩,λx c h=>?_,?_,λx c h=>?_,λp hp=>absurd (show p∈([]:List (Addr×Obj)) from hp) (by simp),I.hok.laid keep (Nat.le_refl _) ⟨by simp,[],n,.nil,hD⟩,?_⟩
 ·have e2':(inner src σ)[i]?=some (some v):=e2;unfold inner at e2';rw[wQ]at e2';cases q:src[i]? with
  |none=>rw[q]at e2';cases e2'
  |some o=>
   rw[q]at e2';cases o with
   |none=>cases e2'
   |some j=>
    have ej:(σ[j]?).join=some v:=Option.some.inj e2';have ej':σ[j]?=some (some v):=by
     cases z:σ[j]? with
     |none=>rw[z]at ej;cases ej
     |some w=>rw[z]at ej;exact congrArg some ej
    obtain⟨n1,n2⟩:=S.from_ i x j e1 q;obtain⟨m0,hn0,hl⟩:=I.loc;have hfr':=S.frees (x,.free) (qf n2) rfl;obtain⟨u,r,l⟩:=hl j x v n1 ej' (by rcases hfr' with z|z;exact .inr (.inl z);exact .inr (.inr z));refine⟨u,r,.inr ⟨QB n2,?_⟩⟩;rcases l with⟨k,_⟩|⟨_,c,hc,o,ho,hd⟩
    ·have k':X.env.kindOf x=some .local:=k;rcases hfr' with z|z
     ·have z':X.env.kindOf x=some .cell:=z;rw[k']at z';cases z'
     ·have z':X.env.kindOf x=some .free:=z;rw[k']at z';cases z'
    ·exact⟨c,Qz S n2 hc,o,keep c o ho,hd⟩
 ·rcases zC ow h with⟨_,_,g,_⟩|g
  ·exact⟨none,g⟩
  ·obtain⟨v,o,ho,hd⟩:=I.cell x c g;exact⟨v,o,keep c o ho,hd⟩
 ·show upd H₂ s₂.heap.objs.size (.lst []) C=none;rw[qE (Nat.ne_of_gt hC)];exact I.hok.fresh (wm hC)
 ·rcases zC ow h with⟨_,_,_,g⟩|g
  ·rw[qE (Nat.ne_of_gt (wa hC g))];exact I.hok.fresh (wm (wa hC g))
  ·rw[qE (wM (lt x c g))];exact I.freeC x c g
 ·show (inner src σ).length=N.length;unfold inner;rw[wH,S.len]
theorem JY(I:Inv X pins σ H₂ s₂)(f2:∀b∈fp,Qr X pins H₂ b){C:Addr}{pins':List (Addr×Obj)}{σ':St}{H':Hp}{s':Shared}{h':Heap}(hC:s₂.heap.objs.size<=C)(J:Inv (cxComp X scope C fp s₂ H₂ N) pins' σ' H' s')
  (kp:∀b o,b≠C->s'.heap.get? b=some o->h'.get? b=some o):Inv X pins σ H' { s' with heap:=h' }:=by
 have neC:∀b o,s₂.heap.get? b=some o->b≠C:=λb o e=>wM (wC (Heap.lt_size e) hC);have B:=J.base;refine I.call' (s':={ s' with heap:=h' }) (ch:=fp) J.os ⟨λb o e n hb hx=>kp b o (neC b o e) (B.keep b o e n hb hx),λb o e n hb hx=>?_,B.free,λb o e hx=>?_,B.tups,B.frzs,B.tbls⟩ (λa o e=>?_) J.bare λb hb=>⟨(f2 b hb).2.2.2.1,(f2 b hb).2.1,(f2 b hb).2.2.2.2⟩
 ·obtain⟨sl,q⟩:=B.slot b o e n hb hx;exact⟨sl,kp b _ (neC b o e) q⟩
 ·obtain⟨o',q⟩:=B.there b o e hx;exact⟨o',kp b o' (neC b o e) q⟩
 ·have nC:H' C=none:=J.free;have ne:∀b u,H' b=some u->b≠C:=λb u q z=>by rw[z,nC]at q;cases q
  refine(J.hok a o e).stay (λc v hc q=>kp c v ?_ q) (λ_ q=>q) λ_ _ q=>q;rcases hc with z|z
  ·rw[z];exact ne a o e
  ·exact ne c _ z
end
def PTs(X:Cx)(ifs:List Expr)(t:TT):Prop:=
 ∀(pins:List (Addr×Obj)) (s:Shared) (σ:St) (H:Hp) (Q:Bool->Hp->Prop),Inv X pins σ H s->t σ H Q ->
  wpAny (model X.prog X.w) X.A (forIn ifs true λc r=>if r=true then do let ok <- isTrue c X.env (eval c X.env);pure (ForInStep.yield ok) else pure (ForInStep.yield r)) (TP X pins σ Q) X.xe s
theorem pts_nil{X:Cx}:PTs X [] (λ_ H Q=>Q true H):=λpins s σ H Q I h=>vL ⟨H,I,h⟩
theorem pts_one{X:Cx}{c:Expr}{t:TT}(hc:PT X c t):PTs X [c] t:=by
 intro pins s σ H Q I h;rw[List.forIn_cons];simp only[if_true];refine vK (vK (thn (hc pins s σ H Q I h) λb s1 q=>?_));exact vL (vL q)
noncomputable def tComp(wi:TI)(src:List (Option Nat))(g:TG)(tc:TT)(te:TE):TE:=λσ H Q=>wi σ H λJ H1=>∀D,H1 D=none ->
 ∃W:Nat->Nat->List V->St->Hp->Prop,(∃m,W 0 m [] (inner src σ) (upd H1 D (.lst [])))/\∀i m ys σ' H',W i m ys σ' H'->H' D=some (.lst ys) ->
  (J.stop i H'/\Q (.ref D) H')\/
  (J.go i H'/\∀x H2,J.yld i H' x H2->g x σ' H2 λσ3 H3=>tc σ3 H3 λb H4=>
   if b=true then te σ3 H4 λy H5=>H5 D=some (.lst ys)/\ys.length<sizeLine/\∃m',m'<m/\W (i+1) m' (ys++[y]) σ3 (upd H5 D (.lst (ys++[y])))
   else H4 D=some (.lst ys)/\∃m',m'<m/\W (i+1) m' ys σ3 H4)
section
variable{X:Cx}{pins:List (Addr×Obj)}{σ:St}{H₂:Hp}{s₂:Shared}{scope:Scope}{N:List Str}{src:List (Option Nat)}
theorem A7{M:Model}{A:Around}{E:Value->Shared->Prop}{s:Shared}{scope:Scope}{globals:Addr}{cl:List (Str×Addr)}{qual:Str}{env:Env}{Q:Env->Shared->Prop}
  (h:Q (newEnv scope s.heap.objs.size globals (cellsFrom (s.heap.objs.size+1) scope.names cl) qual none .none (some env) builtinsNs) { s with heap:=pushCells (s.heap.push { cls:=.type "dict",data:=.dict #[] }) scope.names }):
  wpAny M A (newFunctionEnv scope globals cl [] qual none .none (some env)) Q E s:=by
 simp only[newFunctionEnv,Option.isSome_some,if_true];refine vK (wpAny_alloc ?_);refine vK (wpAny_layCells _ (λname kind cells=>by cases hkc:kind==NameKind.cell<;>simp[hkc]) _ _ _ _ ?_);rw[show ({ s with heap:=s.heap.push { cls:=.type "dict",data:=.dict #[] } }:Shared).heap.objs.size=s.heap.objs.size+1 from Heap.size_push ..];refine vK ?_;rw[List.forIn_nil];exact vL (vL h)
theorem F2{elt tg iter:Expr}{ifs:List Expr}{pos:Pos}{g:TG}{tc:TT}{te:TE}{it:Addr}{fp:List Addr}{tn:Nat->Heap->Prop}{J:It}{Q:VK}{E:Value->Shared->Prop}{RR:Value->Addr->Result->Shared->Prop}
  (hc:X.calm=true) (S:CompScope X scope N src) (I2:Inv X pins σ H₂ s₂) (T:Jg X.prog X.w X.K tg J fp it tn) (st2:tn 0 s₂.heap) (f2:∀b∈fp,Qr X pins H₂ b)
  (hg:∀C fp s H,PG (cxComp X scope C fp s H N) tg g) (ht:∀C fp s H,PTs (cxComp X scope C fp s H N) ifs tc) (he:∀C fp s H,PE (cxComp X scope C fp s H N) elt te)
  (h:∀D,H₂ D=none->∃W:Nat->Nat->List V->St->Hp->Prop,(∃m,W 0 m [] (inner src σ) (upd H₂ D (.lst [])))/\∀i m ys σ' H',W i m ys σ' H'->H' D=some (.lst ys) ->
   (J.stop i H'/\Q (.ref D) H')\/
   (J.go i H'/\∀x H2,J.yld i H' x H2->g x σ' H2 λσ3 H3=>tc σ3 H3 λb H4=>
    if b=true then te σ3 H4 λy H5=>H5 D=some (.lst ys)/\ys.length<sizeLine/\∃m',m'<m/\W (i+1) m' (ys++[y]) σ3 (upd H5 D (.lst (ys++[y])))
    else H4 D=some (.lst ys)/\∃m',m'<m/\W (i+1) m' ys σ3 H4))
  (hRR:∀(D C:Addr) (σ':St) (H':Hp) (s':Shared),s₂.heap.objs.size<=C->Inv (cxComp X scope C fp s₂ H₂ N) [] σ' H' s'->Q (.ref D) H'->RR (.ref D) C (.ok .next) s'):
  wpAny (model X.prog X.w) X.A (newList []) (λacc s₃=>wpAny (model X.prog X.w) X.A (newFunctionEnv scope X.env.globals (L1 X.env.cells scope.names []) [] X.env.qual none .none (some X.env)) (λcenv s₄=>
   codeAny (model X.prog X.w) X.A (.compStart (.ListComp elt [⟨tg,iter,ifs,0⟩] scope pos) 0 (.ref it) acc { cenv with scope:=relabel scope X.env }) (RR acc cenv.locals) s₄) E s₃) E s₂:=by
 refine wpAny_newObj_type (A7 ?_);dsimp only;generalize hH2:s₂.heap.push { cls:=.type "list",dict:=none,data:=.seq ([]:List Value).toArray }=P2;have hC:P2.objs.size=s₂.heap.objs.size+1:=by rw[<-hH2,Heap.size_push]
 have ow:=cellsFrom_ok scope.names (P2.push { cls:=.type "dict",data:=.dict #[] }) (P2.objs.size+1) [] ⟨λ_ _ hm=>(nomatch hm),List.Pairwise.nil⟩ (by rw[Heap.size_push];exact Nat.le_refl _);rw[Heap.size_push]at ow;generalize hh1:pushCells (P2.push { cls:=.type "dict",data:=.dict #[] }) scope.names=h₁ at ow ⊢;have kp:∀b o,P2.get? b=some o->h₁.get? b=some o:=λb o e=>hh1 ▸ pushCells_keeps _ _ b o (Heap.get?_push_of_some _ e);have hns₁:h₁.Ns P2.objs.size (λ_=>none):=hh1 ▸ (Heap.Ns.new P2 (.type "dict")).keeps (pushCells_keeps _ _);have old:∀b o,s₂.heap.get? b=some o->h₁.get? b=some o:=λb o e=>kp b o (hH2 ▸ Heap.get?_push_of_some _ e);have hacc:h₁.get? s₂.heap.objs.size=some { cls:=.type "list",data:=.seq #[] }:=kp _ _ (hH2 ▸ Heap.get?_push_size _ rfl);have st1:tn 0 h₁:=T.keep _ _ _ st2 λb _ o e=>old b o e;have ob:=T.obj _ _ st2;have lt:s₂.heap.objs.size<P2.objs.size:=by rw[hC];exact Nat.lt_succ_self _
 have I3:=Zk (tk:=s₂.toks) S I2 f2 ob lt old hacc hns₁ ow;obtain⟨W,⟨m0,w0⟩,step⟩:=h s₂.heap.objs.size I2.fresh;have fpn:∀b∈fp,b≠s₂.heap.objs.size:=λb hb=>by
  obtain⟨o,e,_⟩:=ob b hb;exact wM (Heap.lt_size e)
 have fok:∀{pins':List (Addr×Obj)}{H':Hp},(∀b∈fp,H' b=none)->(∀p∈pins',p.1∉fp)->∀b∈fp,Qr (cxComp X scope P2.objs.size fp s₂ H₂ N) pins' H' b:=λ{pins' H'} hn hp b hb=>by
  have okc:=I3.ok;exact⟨hn b hb,(okc.exf b hb).1,okc.exfs b hb,.inl hb,(okc.exf b hb).2,λp hp' z=>hp p (by simpa [cxComp] using hp') (z ▸ hb)⟩
 have loop:∀s₃:Shared,s₃={ s₂ with heap:=h₁,toks:=s₂.toks } ->
   codeAny (model X.prog X.w) X.A (.compLoop (.ListComp elt [⟨tg,iter,ifs,0⟩] scope pos) 0 (.ref it) (.ref s₂.heap.objs.size) (compEnvC scope (zp X scope P2.objs.size) P2.objs.size X.env))
    (RR (.ref s₂.heap.objs.size) P2.objs.size) s₃:=by
  rintro s₃ rfl;refine codeAny_loop rfl (λn s'=>∃i ys σ' H',Inv (cxComp X scope P2.objs.size fp s₂ H₂ N) [] σ' H' s'/\tn i s'.heap/\(∀b∈fp,H' b=none)/\H' s₂.heap.objs.size=some (.lst ys)/\W i n ys σ' H') (λn s' hI=>?_) m0
   ⟨0,[],inner src σ,_,I3,st1,λb hb=>by rw[qE (fpn b hb)];exact(f2 b hb).1,qH,w0⟩
  obtain⟨i,ys,σ3,H3,J3,st3,fr3,hD3,w3⟩:=hI;show wpAny _ X.A ((compTurn (.ListComp elt [⟨tg,iter,ifs,0⟩] scope pos) 0 (.ref it) (.ref s₂.heap.objs.size) _).onRaise (λx=>do noteFrame x _;theTreesLotGoes x)) _ _ s';refine wpAny_noted ?_;rw[compTurn_list];have never:∀{α:Type}{t:Sem α}{Q1:α->Shared->Prop}{E1:Value->Shared->Prop}{s1:Shared},wpAny (model X.prog X.w) X.A t Q1 (λ_ _=>False) s1->wpAny (model X.prog X.w) X.A t Q1 E1 s1:=λh=>wpAny_mono h (λ_ _ q=>q) λ_ _ f=>f.elim;refine vK (wpAny_standAt (vK ?_));rcases step i n ys σ3 H3 w3 hD3 with⟨stop,qn⟩|⟨go,qBA⟩
  ·refine never (thn (T.done (cxComp X scope P2.objs.size fp s₂ H₂ N) rfl rfl rfl hc i [] s' σ3 H3 _ J3 (fok fr3 (by simp)) st3 stop) λr s4 ⟨hr,I4⟩=>?_);subst hr;exact vL (hRR _ _ σ3 H3 s4 (wm lt) I4 qn)
  ·refine never (thn (T.item (cxComp X scope P2.objs.size fp s₂ H₂ N) rfl rfl rfl hc i [] s' σ3 H3 _ J3 (fok fr3 (by simp)) st3 go) λr s4 ⟨u,hr,h4⟩=>?_);subst hr;refine vK (never (thn h4 λ_ s5 ⟨x,H5,I5,r5,y5,st5,fr5⟩=>?_));have I5':=I5.pinned (fok fr5 (by simp)) (T.obj _ _ st5);have kept:∀{σ7:St}{H7:Hp}{s7:Shared},Inv (cxComp X scope P2.objs.size fp s₂ H₂ N) ([]++Jc fp s5.heap) σ7 H7 s7->Inv (cxComp X scope P2.objs.size fp s₂ H₂ N) [] σ7 H7 s7/\tn (i+1) s7.heap/\∀b∈fp,H7 b=none:=λ{σ7 H7 s7} I7=>by
    refine⟨I7.unpinned,T.keep _ _ _ st5 λb hb o e=>(I7.pin (b,o) (wG _ (wG _ (zx hb e)))).1,λb hb=>?_⟩;obtain⟨o,e,d⟩:=T.obj _ _ st5 b hb;exact(I7.pin (b,o) (wG _ (wG _ (zx hb e)))).2.1
   refine vK (never (thn (hg _ _ _ _ _ s5 σ3 H5 x u _ I5' r5 (qBA x H5 y5)) λ_ s6 ⟨σ6,H6,I6,q6⟩=>?_));refine vK (never (thn (ht _ _ _ _ _ s6 σ6 H6 _ I6 q6) λb s7 ⟨H7,I7,q7⟩=>?_));cases b with
   |false=>
    rw[if_neg (by decide)]at q7;obtain⟨hD7,m',hm,w7⟩:=q7;obtain⟨I7',st7,fr7⟩:=kept I7;exact vL ⟨rfl,m',hm,i+1,ys,σ6,H7,I7',st7,fr7,hD7,w7⟩
   |true=>
    rw[if_pos rfl]at q7;refine vK (vK (never (thn (he _ _ _ _ _ s7 σ6 H7 _ I7 q7) λyv s8 ⟨y,H8,I8,r8,hD8,hz,m',hm,w8⟩=>?_)));refine vK (never (thn (mt_append (X:=cxComp X scope P2.objs.size fp s₂ H₂ N) _ s8 σ6 H8 (.ref s₂.heap.objs.size) [y] _ [yv] (λv H'=>v=.non/\H'=upd H8 s₂.heap.objs.size (.lst (ys++[y]))) I8 rfl (.cons r8 .nil) ⟨_,ys,y,rfl,rfl,hD8,hz,rfl,rfl⟩) λ_ s9 ⟨v9,H9,I9,_,_,e9⟩=>?_));subst e9;obtain⟨I9',st9,fr9⟩:=kept I9;exact vL (vL ⟨rfl,m',hm,i+1,_,σ6,_,I9',st9,fr9,qH,w8⟩)
 exact codeAny_compStart_list (loop _ rfl) (T.self _ 0 _ _ _ st1 (loop _ rfl))
end
section
variable{X:Cx}{scope:Scope}{N:List Str}{src:List (Option Nat)}{elt tg iter:Expr}{ifs:List Expr}{pos:Pos}{wi:TI}{g:TG}{tc:TT}{te:TE}
theorem pe_comp(hc:X.calm=true)(hi:PI X tg iter wi)(S:CompScope X scope N src)
  (hg:∀C fp s H,PG (cxComp X scope C fp s H N) tg g) (ht:∀C fp s H,PTs (cxComp X scope C fp s H N) ifs tc) (he:∀C fp s H,PE (cxComp X scope C fp s H N) elt te)
  (hs:∀x,foldedSetIterable iter X.env x=pure x:=by intro _;rfl):PE X (.ListComp elt [⟨tg,iter,ifs,0⟩] scope pos) (tComp wi src g tc te):=by
 intro pins s σ H Q I h;rw[eval_ListComp];refine wpAny_comprehension_free (use:=none) rfl hs (zf (S.cells I.ok)) S.kind S.names (thn (hi pins s σ H _ I h) λv s1 h1=>thn h1 λitv s2 h2=>?_);obtain⟨it,fp,tn,J,H2,rfl,I2,T,st2,f2,hW⟩:=h2;refine F2 (Q:=Q) (RR:=λacc C=>compPost (model X.prog X.w) X.A X.xe none (EP X pins σ Q) acc C) hc S I2 T st2 f2 hg ht he hW ?_;intro D C σ' H' s' hC J q;obtain⟨m,hn,_⟩:=id J.loc;exact⟨m,hn,λh' hs'=>⟨.ref D,H',JY I2 f2 hC J (λb o hb e=>hs'.extBut b o hb e),rfl,q⟩⟩
theorem ps_setcomp{i:Nat}{x:Str}{pos' spos:Pos}(hc:X.calm=true)(hi:PI X tg iter wi)(S:CompScope X scope N src)
  (hg:∀C fp s H,PG (cxComp X scope C fp s H N) tg g) (ht:∀C fp s H,PTs (cxComp X scope C fp s H N) ifs tc) (he:∀C fp s H,PE (cxComp X scope C fp s H N) elt te)
  (hsw:swapsWith (.ListComp elt [⟨tg,iter,ifs,0⟩] scope pos) (some (.Name x pos')) spos.line X.env=pure true)
  (hN:X.N.Nodup) (hx:X.N[i]?=some x) (hl:X.env.scope.names.lookup x=some .local)
  (hs:∀x,foldedSetIterable iter X.env x=pure x:=by intro _;rfl):PS X (.Assign [.Name x pos'] (.ListComp elt [⟨tg,iter,ifs,0⟩] scope pos) spos) (tAsg (tComp wi src g tc te) (qB1 i)):=by
 intro pins s σ H D I h;rw[exec_Assign_Name_used _ _ _ _ hsw];refine vK (wpAny_standAt (vK ?_));show wpAny _ X.A (do let _ <- comprehension (.ListComp elt [⟨tg,iter,ifs,0⟩] scope pos) scope X.env _ (newList []) false (eval iter X.env) (some (assign (.Name x pos') X.env))) _ _ s;refine vK (wpAny_mono (wpAny_comprehension_free (use:=some (assign (.Name x pos') X.env)) (Q:=λ_ s'=>SP X pins D .next s') rfl hs (zf (S.cells I.ok)) S.kind S.names
  (thn (hi pins s σ H _ I h) λv s1 h1=>thn h1 λitv s2 h2=>?_)) (λ_ s' hq=>vL (vL hq)) λ_ _ e=>e)
 obtain⟨it,fp,tn,J,H2,rfl,I2,T,st2,f2,hW⟩:=h2;refine F2 (Q:=λv H'=>D.nx (σ.set i (some v)) H') (RR:=λacc C=>compPost (model X.prog X.w) X.A X.xe (some (assign (.Name x pos') X.env)) (λ_ s'=>SP X pins D .next s') acc C) hc S I2 T st2 f2 hg ht he hW ?_;intro L C σ' H' s' hC J q;obtain⟨m,hn,_⟩:=id J.loc;have I3:Inv X pins σ H' s':=JY (h':=s'.heap) I2 f2 hC J (λb o hb e=>e);show wpAny _ X.A (assign (.Name x pos') X.env (.ref L)) _ _ _;have nL:X.env.locals≠C:=wM (wC I2.lt hC);refine wpAny_assign_Name (Zy I3 hN hx (.inl hl) (show RelV (.ref L) (.ref L) from rfl) (λs4 I4 hsb=>?_) (.inr hl));obtain⟨a,sb,ha⟩:=hsb;have ha':a≠C:=by
  rcases ha with z|z
  ·rw[z];exact nL
  ·obtain⟨v,hv⟩:=I2.cell x a z;exact wM (wC hv.lt hC)
 refine⟨m,hn.sameBut sb (Ne.symm ha'),λh5 sb5=>?_⟩;have I5:Inv X pins (σ.set i (some (V.ref L))) H' { s4 with heap:=h5,toks:=s4.toks }:=I4.turned (it:=C) (λb o hb e=>sb5.extBut b o hb e) J.free (Ne.symm nL) (.inr (Nat.le_trans I2.sz hC)) (λy c e z=>by
   obtain⟨v,hv⟩:=I2.cell y c e;exact absurd (wC hv.lt (by rw[z];exact hC)) (Nat.lt_irrefl _)) λp hp z=>absurd (wC (Heap.lt_size (I2.pin p hp).1) (by rw[z];exact hC)) (Nat.lt_irrefl _)
 exact⟨_,H',I5,q⟩
end
end L2
namespace PI
open L2 (V Key)
open PySem (Str)
inductive BOp|add|sub|mul|fdiv|mod|pow|band|shl|shr
 deriving DecidableEq
inductive COp|lt|le|gt|ge|eq|ne|inn|notin|is|isnot
 deriving DecidableEq
inductive BF|len|sum|all|any|max|min|list|int|bits
 deriving DecidableEq
inductive Mt|pop|popAt|rev|clr|ins
 deriving DecidableEq
inductive Tg|name(i:Nat)|tup(is:List Nat)
 deriving DecidableEq
mutual
inductive E
 |var (i:Nat)|cst (v:V)|glob (g:Nat)
 |bin (op:BOp) (a b:E)|neg (a:E)
 |cmp (op:COp) (a b:E)|cmp2 (o1 o2:COp) (a b c:E)
 |and (a b:E)|or (a b:E)|not (a:E)|ite (c a b:E)
 |call (f:Nat) (as:Es)|blt (f:BF) (as:Es)|isi (a:E) (ts:List String)
 |idx (a b:E)|sl (a:E) (lo hi:Es)   | lst (as:Es)|tup (as:Es)
 |comp (it:Itr) (src:List (Option Nat)) (g:Tg) (c:Es) (e:E)
 |app (a b:E)|lrng (a:E)|dnew|meth (m:Mt) (a:E) (as:Es)
inductive Es|nil|cons(a:E)(as:Es)
inductive Itr|list(a:E)|rng1(a:E)|rng2(a b:E)|zip(a b:E)
end
mutual
inductive S
 |asg (g:Tg) (e:E)  | put (o i v:E)
 |expr (e:E)|ret (e:E)  | ifs (c:E) (t u:Ss)
 |for_ (g:Tg) (it:Itr) (b:Ss)     | stop
  |nloop (u x f i:Nat) (a:E)
inductive Ss|nil|cons(s:S)(r:Ss)
end
noncomputable def Es.snoc:Es->E->Es
 | .nil,e=>.cons e .nil
 | .cons a as,e=>.cons a (Es.snoc as e)
inductive Ob|dct(kvs:List (Int×V))|exn(c:Str)
 deriving DecidableEq
inductive O|lst(fz:Bool)(xs:List V)|tup(xs:List V)|ob(o:Ob)
 deriving DecidableEq
noncomputable abbrev AH:=List O
noncomputable abbrev St:=List (Option V)
inductive Res(α:Type)|ok(a:α)|exc(c:Nat)(h:AH)|stuck
noncomputable def Res.bind{α β:Type}:Res α->(α->Res β)->Res β
 | .ok a,f=>f a
 | .exc c h,_=>.exc c h
 | .stuck,_=>.stuck
noncomputable def Res.nx{α:Type}:Res α->Res α
 | .ok a=>.ok a
 | .exc _ _=>.stuck
 | .stuck=>.stuck
@[simp] theorem Res.bind_ok{α β:Type}(a:α)(f:α->Res β):(Res.ok a).bind f=f a:=rfl
noncomputable abbrev RV:=Res (V×AH)
noncomputable def items(h:AH)(a:Nat):Option (List V):=match h[a]? with
 |some (.lst _ xs)=>some xs
 |some (.tup xs)=>some xs
 |_=>none
noncomputable def qS(h:AH)(a:Nat):Option (List V):=match h[a]? with
 |some (.lst _ xs)=>some xs
 |_=>none
noncomputable def qY(h:AH)(a:Nat):Option (List V):=match h[a]? with
 |some (.tup xs)=>some xs
 |_=>none
noncomputable def QJ(h:AH)(a:Nat):Option (List (Int×V)):=match h[a]? with
 |some (.ob (.dct kvs))=>some kvs
 |_=>none
noncomputable def ZI(kvs:List (Int×V))(k:Int):Bool:=kvs.any λp=>decide (p.1=k)
noncomputable def jx(kvs:List (Int×V))(k:Int)(v:V):List (Int×V):=if ZI kvs k=true then kvs.map (λp=>if p.1=k then (p.1,v) else p) else kvs++[(k,v)]
noncomputable def qBZ(h:AH)(a:Nat):Option Str:=match h[a]? with
 |some (.ob (.exn c))=>some c
 |_=>none
noncomputable def qe(h:AH)(a:Nat):Option (List V):=match h[a]? with
 |some (.lst false xs)=>some xs
 |_=>none
noncomputable def lim:Nat:=100000
noncomputable def newL(xs:List V)(h:AH):RV:=.ok (.ref h.length,h++[.lst false xs])
noncomputable def newT(xs:List V)(h:AH):RV:=.ok (.ref h.length,h++[.tup xs])
noncomputable def flat:V->Bool
 | .non=>true | .bl _=>true | .int _=>true | .str _=>true|_=>false
noncomputable def eqF:V->V->Option Bool
 | .int i,.int j=>some (i==j)
 | .bl i,.bl j=>some (i==j)
 | .str i,.str j=>some (i==j)
 | .non,.non=>some true
 | .int i,.bl b=>some (i==(if b then 1 else 0))
 | .bl b,.int i=>some ((if b then 1 else 0)==i)
 | .non,.int _=>some false | .int _,.non=>some false
 | .non,.bl _=>some false | .bl _,.non=>some false
 | .non,.str _=>some false | .str _,.non=>some false
 | .int _,.str _=>some false | .str _,.int _=>some false
 | .bl _,.str _=>some false | .str _,.bl _=>some false
 |_,_=>none
noncomputable def Qt(f:V->V->Option Bool):List V->List V->Option (List Bool)
 | [],[]=>some []
 |x::xs,y::ys=>match f x y,Qt f xs ys with
  |some b,some bs=>some (b::bs)
  |_,_=>none
 |_,_=>none
noncomputable def eqD(h:AH):Nat->V->V->Option Bool
 | 0,x,y=>eqF x y
 |n+1,.ref a,.ref b=>match h[a]?,h[b]? with
  |some (.lst _ xs),some (.lst _ ys)=>if a=b then some true else if xs.length=ys.length then (Qt (eqD h n) xs ys).map λbs=>bs.all id else some false
  |some (.tup xs),some (.tup ys)=>if a=b then some true else if xs.length=ys.length then (Qt (eqD h n) xs ys).map λbs=>bs.all id else (Qt (eqD h n) (xs.take ys.length) (ys.take xs.length)).map λ_=>false
  |some (.lst _ _),some (.tup _)=>some false
  |some (.tup _),some (.lst _ _)=>some false
  |_,_=>none
 |_+1,.ref a,y=>if (items h a).isSome&&flat y then some false else none
 |_+1,x,.ref b=>if flat x&&(items h b).isSome then some false else none
 |_+1,x,y=>eqF x y
noncomputable abbrev ixN(n:Nat)(i:Int):Option Nat:=L2.ixN n i
noncomputable abbrev cut(xs:List V)(lo hi:Option Int):List V:=L2.cutV xs lo hi
noncomputable def two64:Int:=18446744073709551616
noncomputable def QH(i:Int):Bool:=decide (-two64<i/\i<two64)
noncomputable def mid(i:Int):Bool:=decide (i.natAbs.log2<9000)
noncomputable def J9(x y:V)(f:Int->Int->RV):RV:=match x with
 | .int i=>(match y with | .int j=>f i j|_=>.stuck)
 |_=>.stuck
theorem qx{x y:V}{f:Int->Int->RV}{r:V×AH}(e:J9 x y f=.ok r):∃i j,x=.int i/\y=.int j/\f i j=.ok r:=by
 unfold J9 at e;split at e
 ·split at e
  ·exact⟨_,_,rfl,rfl,e⟩
  ·cases e
 ·cases e
noncomputable def k5(x:V)(f:Nat->RV):RV:=match x with
 | .ref a=>f a
 |_=>.stuck
theorem zv{x:V}{f:Nat->RV}{r:V×AH}(e:k5 x f=.ok r):∃a,x=.ref a/\f a=.ok r:=by
 unfold k5 at e;split at e
 ·exact⟨_,rfl,e⟩
 ·cases e
noncomputable def qBi:BOp->V->V->AH->RV
 | .add,x,y,h=>(match x with
  | .ref a=>k5 y λb=>(match qe h a,qe h b with
   |some xs,some ys=>if xs.length+ys.length<=lim then newL (xs++ys) h else .stuck
   |_,_=>(match qY h a,qY h b with
    |some xs,some ys=>if xs≠[]/\xs.length+ys.length<=lim then (if ys=[] then .ok (.ref a,h) else newT (xs++ys) h) else .stuck
    |_,_=>.stuck))
  |x=>J9 x y λi j=>.ok (.int (i+j),h))
 | .sub,x,y,h=>J9 x y λi j=>.ok (.int (i-j),h)
 | .mul,x,y,h=>(match x with
  | .ref a=>(match y with
   | .int k=>(match qe h a with
    |some xs=>if 0<=k/\xs.length*k.toNat<=lim/\k<1000000 then newL (List.replicate k.toNat xs).flatten h else .stuck
    |none=>.stuck)
   |_=>.stuck)
  |x=>J9 x y λi j=>if QH i||QH j||(mid i&&mid j) then .ok (.int (i*j),h) else .stuck)
 | .fdiv,x,y,h=>J9 x y λi j=>if 0<j/\(j<1073741824\/mid j=true) then .ok (.int (i / j),h) else if j<0/\mid j=true then .ok (.int (i.fdiv j),h) else .stuck
 | .mod,x,y,h=>J9 x y λi j=>if 0<j then .ok (.int (i % j),h) else if j<0 then .ok (.int (i.fmod j),h) else .stuck
 | .pow,x,y,h=>J9 x y λi j=>if 0<=j/\j<=1000/\i.natAbs<18446744073709551616 then .ok (.int (i ^ j.toNat),h) else .stuck
 | .band,x,y,h=>J9 x y λi j=>.ok (.int (PySem.Builtin.bitAnd i j),h)
 | .shl,x,y,h=>J9 x y λi j=>if 0<=j/\j<=1000/\i.natAbs<18446744073709551616 then .ok (.int (i*2 ^ j.toNat),h) else .stuck
 | .shr,x,y,h=>J9 x y λi j=>if 0<=j/\j<=1000 then .ok (.int (i / 2 ^ j.toNat),h) else .stuck
noncomputable def qAh(x y:V)(f:Int->Int->Bool):Option Bool:=match x with
 | .int i=>(match y with | .int j=>some (f i j)|_=>none)
 |_=>none
theorem QN{x y:V}{f:Int->Int->Bool}{r:Bool}(e:qAh x y f=some r):∃i j,x=.int i/\y=.int j/\f i j=r:=by
 unfold qAh at e;split at e
 ·split at e
  ·exact⟨_,_,rfl,rfl,Option.some.inj e⟩
  ·cases e
 ·cases e
noncomputable def Y9(y:V)(f:Nat->Option Bool):Option Bool:=match y with
 | .ref a=>f a
 |_=>none
theorem B9{y:V}{f:Nat->Option Bool}{r:Bool}(e:Y9 y f=some r):∃a,y=.ref a/\f a=some r:=by
 unfold Y9 at e;split at e
 ·exact⟨_,rfl,e⟩
 ·cases e
noncomputable def isC(x y:V)(f:Bool->Bool):Option Bool:=match y with
 | .non=>some (f (decide (x=.non)))
 | .bl d=>(match x with | .bl c=>some (f (c==d))|_=>none)
 |_=>none
theorem M6{x y:V}{f:Bool->Bool}{r:Bool}(e:isC x y f=some r):(y=.non/\f (decide (x=.non))=r)\/∃c d,x=.bl c/\y=.bl d/\f (c==d)=r:=by
 unfold isC at e;split at e
 ·exact .inl ⟨rfl,Option.some.inj e⟩
 ·split at e
  ·exact .inr ⟨_,_,rfl,rfl,Option.some.inj e⟩
  ·cases e
 ·cases e
noncomputable def T2:COp->V->V->AH->Option Bool
 | .lt,x,y,_=>qAh x y λi j=>decide (i<j)
 | .le,x,y,_=>qAh x y λi j=>decide (i<=j)
 | .gt,x,y,_=>qAh x y λi j=>decide (j<i)
 | .ge,x,y,_=>qAh x y λi j=>decide (j<=i)
 | .eq,x,y,h=>eqD h 4 x y
 | .ne,x,y,h=>(eqD h 4 x y).map (!·)
 | .inn,x,y,h=>Y9 y λa=>(match items h a with
  |some xs=>if flat x&&xs.all flat then some (xs.any λy=>L2.eqV y x) else none
  |none=>match QJ h a with
   |some kvs=>(match x with | .int i=>some (ZI kvs i)|_=>none)
   |none=>none)
 | .notin,x,y,h=>Y9 y λa=>(match items h a with
  |some xs=>if flat x&&xs.all flat then some (!(xs.any λy=>L2.eqV y x)) else none
  |none=>match QJ h a with
   |some kvs=>(match x with | .int i=>some (!ZI kvs i)|_=>none)
   |none=>none)
 | .is,x,y,_=>isC x y id
 | .isnot,x,y,_=>isC x y (!·)
noncomputable def j0(op:COp)(x y:V)(h:AH):RV:=match T2 op x y h with
 |some b=>.ok (.bl b,h)
 |none=>.stuck
noncomputable def jC:List V->Option (List Int)
 | []=>some []
 | .int i::r=>(jC r).map (i::·)
 |_::_=>none
noncomputable def jM:List V->Option (List Bool)
 | []=>some []
 | .bl b::r=>(jM r).map (b::·)
 |_::_=>none
noncomputable def zl:List V->Option (List Int)
 | []=>some []
 | .int i::r=>(zl r).map (i::·)
 | .bl b::r=>(zl r).map ((if b=true then 1 else 0)::·)
 |_::_=>none
noncomputable def jD(lo:Int)(n:Nat):List V:=(List.range n).map λ(i:Nat)=>V.int (lo+(i:Int))
noncomputable def ins(x:Int):List Int->List Int
 | []=>[x]
 |y::r=>if x<=y then x::y::r else y::ins x r
noncomputable def one(as:List V)(f:V->RV):RV:=match as with
 | [a]=>f a
 |_=>.stuck
theorem jQ{as:List V}{f:V->RV}{r:V×AH}(e:one as f=.ok r):∃a,as=[a]/\f a=.ok r:=by
 unfold one at e;split at e
 ·exact⟨_,rfl,e⟩
 ·cases e
noncomputable def two(as:List V)(f:V->V->RV):RV:=match as with
 | [a,b]=>f a b
 |_=>.stuck
theorem two_inv{as:List V}{f:V->V->RV}{r:V×AH}(e:two as f=.ok r):∃a b,as=[a,b]/\f a b=.ok r:=by
 unfold two at e;split at e
 ·exact⟨_,_,rfl,e⟩
 ·cases e
noncomputable def qCX:BF->List V->AH->RV
 | .len,as,h=>one as λx=>k5 x λa=>(match items h a with|some xs=>.ok (.int xs.length,h)|none=>.stuck)
 | .sum,as,h=>one as λx=>k5 x λa=>(match qS h a with
  |some xs=>match zl xs with|some is=>.ok (.int is.sum,h)|none=>.stuck
  |none=>.stuck)
 | .all,as,h=>one as λx=>k5 x λa=>(match qS h a with
  |some xs=>match jM xs with|some bs=>.ok (.bl (bs.all id),h)|none=>.stuck
  |none=>.stuck)
 | .any,as,h=>one as λx=>k5 x λa=>(match qS h a with
  |some xs=>match jM xs with|some bs=>.ok (.bl (bs.any id),h)|none=>.stuck
  |none=>.stuck)
 | .max,as,h=>two as λx y=>J9 x y λi j=>.ok (.int (if j>i then j else i),h)
 | .min,as,h=>two as λx y=>J9 x y λi j=>.ok (.int (if j<i then j else i),h)
 | .list,as,h=>one as λx=>k5 x λa=>(match items h a with|some xs=>newL xs h|none=>.stuck)
 | .int,as,h=>one as λx=>(match x with | .int i=>.ok (.int i,h) | .bl b=>.ok (.int (if b then 1 else 0),h)|_=>.stuck)
 | .bits,as,h=>one as λx=>(match x with | .int i=>.ok (.int ((PySem.Builtin.Int.intBits i:Nat):Int),h)|_=>.stuck)
noncomputable def jX:Mt->Nat->List V->AH->RV
 | .pop,p,[],h=>match qe h p with
  |some xs=>match xs[xs.length-1]? with|some y=>.ok (y,h.set p (.lst false xs.dropLast))|none=>.stuck
  |none=>.stuck
 | .popAt,p,[.int i],h=>match qe h p with
  |some xs=>if xs.length<=lim then (match ixN xs.length i with|some k=>(match xs[k]? with|some y=>.ok (y,h.set p (.lst false (xs.eraseIdx k)))|none=>.stuck)|none=>.stuck) else .stuck
  |none=>.stuck
 | .rev,p,[],h=>match qe h p with|some xs=>.ok (.non,h.set p (.lst false xs.reverse))|none=>.stuck
 | .clr,p,[],h=>match qe h p with|some _=>.ok (.non,h.set p (.lst false []))|none=>.stuck
 | .ins,p,[.int i,y],h=>match qe h p with
  |some xs=>if 0<=i/\i<=xs.length/\xs.length<lim then .ok (.non,h.set p (.lst false (xs.take i.toNat++y::xs.drop i.toNat))) else .stuck
  |none=>.stuck
 |_,_,_,_=>.stuck
noncomputable def zg(h:AH):V->Option String
 | .non=>some "NoneType"
 | .bl _=>some "bool"
 | .int _=>some "int"
 | .str _=>some "str"
 | .ref a=>match h[a]? with|some (.lst _ _)=>some "list" | some (.tup _)=>some "tuple" | some (.ob (.dct _))=>some "dict" | _=>none
 |_=>none
noncomputable def zh(t c:String):Bool:=t==c||(t=="bool"&&c=="int")
inductive Src|list(a:Nat)|tupl(a:Nat)|rng(lo:Int)(n:Nat)|zip(a b:Nat)
noncomputable def D1(h:AH):Src->Option Nat
 | .list a=>(qS h a).map List.length
 | .tupl a=>(qY h a).map List.length
 | .rng _ n=>some n
 | .zip a b=>match qS h a,qS h b with|some xs,some ys=>some (min xs.length ys.length)|_,_=>none
noncomputable def zA(h:AH)(i:Nat):Src->Option (V×AH)
 | .list a=>match qS h a with|some xs=>xs[i]?.map λx=>(x,h)|none=>none
 | .tupl a=>match qY h a with|some xs=>xs[i]?.map λx=>(x,h)|none=>none
 | .rng lo n=>if i<n then some (.int (lo+(i:Int)),h) else none
 | .zip a b=>match qS h a,qS h b with
  |some xs,some ys=>match xs[i]?,ys[i]? with|some x,some y=>some (.ref h.length,h++[.tup [x,y]])|_,_=>none
  |_,_=>none
noncomputable def jF(h:AH)(i:Nat):Src->Bool
 | .list a=>match qS h a with|some xs=>decide (xs.length<=i)|none=>false
 | .tupl a=>match qY h a with|some xs=>decide (xs.length<=i)|none=>false
 | .rng _ n=>decide (n<=i)
 | .zip a b=>match qS h a,qS h b with|some xs,some ys=>decide (xs.length<=i\/ys.length<=i)|_,_=>false
noncomputable def ZD:List Nat->List V->St->Option St
 | [],[],σ=>some σ
 |i::is,x::xs,σ=>ZD is xs (σ.set i (some x))
 |_,_,_=>none
noncomputable def store:Tg->V->St->AH->Option St
 | .name i,v,σ,_=>some (σ.set i (some v))
 | .tup is,.ref a,σ,h=>match qY h a with|some xs=>ZD is xs σ | none=>none
 | .tup _,_,_,_=>none
noncomputable def Jd(s:Src)(g:Tg)(c:St->AH->Res (Bool×AH))(e:St->AH->RV)(D:Nat):Nat->Nat->List V->St->AH->RV
 | 0,i,_,_,h=>if jF h i s then .ok (.ref D,h) else .stuck
 |n+1,i,ys,σ,h=>match zA h i s with
  |some (x,h1)=>match store g x σ h1 with
   |some σ1=>(c σ1 h1).bind λ(b,h2)=>
    if b then (e σ1 h2).bind λ(y,h3)=>if h3[D]?=some (.lst false ys)/\ys.length<lim then Jd s g c e D n (i+1) (ys++[y]) σ1 (h3.set D (.lst false (ys++[y]))) else .stuck
    else if h2[D]?=some (.lst false ys) then Jd s g c e D n (i+1) ys σ1 h2 else .stuck
   |none=>.stuck
  |none=>.stuck
noncomputable def asB(r:RV):Res (Bool×AH):=r.bind λ(v,h)=>match v with | .bl b=>.ok (b,h)|_=>.stuck
section
variable (F:Nat->List V->AH->RV)
mutual
noncomputable def ev:E->St->AH->RV
 | .var i=>λσ h=>match σ[i]? with|some (some v)=>.ok (v,h)|_=>.stuck
 | .cst v=>λ_ h=>.ok (v,h)
 | .glob g=>λ_ h=>.ok (.ref g,h)
 | .bin op a b=>λσ h=>(ev a σ h).bind λ(x,h1)=>(ev b σ h1).bind λ(y,h2)=>qBi op x y h2
 | .neg a=>λσ h=>(ev a σ h).bind λ(x,h1)=>match x with | .int i=>.ok (.int (-i),h1)|_=>.stuck
 | .cmp op a b=>λσ h=>(ev a σ h).bind λ(x,h1)=>(ev b σ h1).bind λ(y,h2)=>j0 op x y h2
 | .cmp2 o1 o2 a b c=>λσ h=>(ev a σ h).bind λ(x,h1)=>(ev b σ h1).bind λ(y,h2)=>match T2 o1 x y h2 with
  |some true=>(ev c σ h2).bind λ(z,h3)=>j0 o2 y z h3
  |some false=>.ok (.bl false,h2)
  |none=>.stuck
 | .and a b=>λσ h=>(asB (ev a σ h)).bind λ(x,h1)=>if x then ev b σ h1 else .ok (.bl false,h1)
 | .or a b=>λσ h=>(asB (ev a σ h)).bind λ(x,h1)=>if x then .ok (.bl true,h1) else ev b σ h1
 | .not a=>λσ h=>(asB (ev a σ h)).bind λ(x,h1)=>.ok (.bl (!x),h1)
 | .ite c a b=>λσ h=>(asB (ev c σ h)).bind λ(x,h1)=>if x then ev a σ h1 else ev b σ h1
 | .call f as=>λσ h=>(evs as σ h).bind λ(xs,h1)=>(F f xs h1).nx
 | .blt f as=>λσ h=>(evs as σ h).bind λ(xs,h1)=>qCX f xs h1
 | .isi a ts=>λσ h=>(ev a σ h).bind λ(x,h1)=>match zg h1 x with|some t=>.ok (.bl (ts.any (zh t)),h1)|none=>.stuck
 | .idx a b=>λσ h=>(ev a σ h).bind λ(x,h1)=>(ev b σ h1).bind λ(y,h2)=>match x,y with
  | .ref p,.int i=>match items h2 p with
   |some xs=>match (ixN xs.length i).bind λj=>xs[j]? with|some v=>.ok (v,h2)|none=>.stuck
   |none=>.stuck
  |_,_=>.stuck
 | .sl a lo hi=>λσ h=>(ev a σ h).bind λ(x,h1)=>(evs lo σ h1).bind λ(l,h2)=>(evs hi σ h2).bind λ(u,h3)=>
  match x,jC l,jC u with
  | .ref p,some l,some u=>match qS h3 p with
   |some xs=>newL (cut xs l.head? u.head?) h3
   |none=>match qY h3 p with
    |some xs=>if HT.sIx xs.length 0 l.head?=0/\HT.sIx xs.length xs.length u.head?=xs.length then .stuck else newT (cut xs l.head? u.head?) h3
    |none=>.stuck
  |_,_,_=>.stuck
 | .lst as=>λσ h=>(evs as σ h).bind λ(xs,h1)=>if xs.length<=lim then newL xs h1 else .stuck
 | .tup as=>λσ h=>(evs as σ h).bind λ(xs,h1)=>if xs.length<=lim then newT xs h1 else .stuck
 | .comp it src g c e=>λσ h=>(evi it σ h).bind λ(s,h1)=>match D1 (h1++[.lst false []]) s with
  |some n=>Jd s g (evc c) (ev e) h1.length n 0 [] (L2.inner src σ) (h1++[.lst false []])
  |none=>.stuck
 | .app a b=>λσ h=>(ev a σ h).bind λ(x,h1)=>match x with
  | .ref p=>(match qS h1 p with
   |some _=>(ev b σ h1).bind λ(y,h2)=>match qe h2 p with
    |some xs=>if xs.length<lim then .ok (.non,h2.set p (.lst false (xs++[y]))) else .stuck
    |none=>.stuck
   |none=>.stuck)
  |_=>.stuck
 | .lrng a=>λσ h=>(ev a σ h).bind λ(x,h1)=>match x with | .int j=>if -1000000<=j/\j<=100000 then newL (jD 0 j.toNat) h1 else .stuck|_=>.stuck
 | .dnew=>λ_ h=>.ok (.ref h.length,h++[.ob (.dct [])])
 | .meth m a as=>λσ h=>(ev a σ h).bind λ(x,h1)=>match x with
  | .ref p=>(match qS h1 p with
   |some _=>(evs as σ h1).bind λ(ys,h2)=>jX m p ys h2
   |none=>.stuck)
  |_=>.stuck
noncomputable def evs:Es->St->AH->Res (List V×AH)
 | .nil=>λ_ h=>.ok ([],h)
 | .cons a as=>λσ h=>(ev a σ h).bind λ(x,h1)=>(evs as σ h1).bind λ(xs,h2)=>.ok (x::xs,h2)
noncomputable def evc:Es->St->AH->Res (Bool×AH)
 | .nil=>λ_ h=>.ok (true,h)
 | .cons a _=>λσ h=>asB (ev a σ h)
noncomputable def evi:Itr->St->AH->Res (Src×AH)
 | .list a=>λσ h=>(ev a σ h).bind λ(x,h1)=>match x with | .ref p=>(match h1[p]? with|some (.lst _ _)=>.ok (.list p,h1)|some (.tup _)=>.ok (.tupl p,h1)|_=>.stuck)|_=>.stuck
 | .rng1 a=>λσ h=>(ev a σ h).bind λ(x,h1)=>match x with | .int j=>if -1000000<=j/\j<=1000000 then .ok (.rng 0 j.toNat,h1) else .stuck|_=>.stuck
 | .rng2 a b=>λσ h=>(ev a σ h).bind λ(x,h1)=>(ev b σ h1).bind λ(y,h2)=>match x,y with
  | .int i,.int j=>if (-1000000<=i/\i<=1000000)/\-1000000<=j/\j<=1000000 then .ok (.rng i (j-i).toNat,h2) else .stuck
  |_,_=>.stuck
 | .zip a b=>λσ h=>(ev a σ h).bind λ(x,h1)=>(ev b σ h1).bind λ(y,h2)=>match x,y with
  | .ref p,.ref q=>match qS h2 p,qS h2 q with|some _,some _=>.ok (.zip p q,h2)|_,_=>.stuck
  |_,_=>.stuck
end
inductive Out|nx(σ:St)|rt(v:V)|bk(σ:St)|ct(σ:St)
noncomputable abbrev RS:=Res (Out×AH)
noncomputable def F7(s:Src)(g:Tg)(b:St->AH->RS):Nat->Nat->St->AH->RS
 | 0,i,σ,h=>if jF h i s then .ok (.nx σ,h) else .stuck
 |n+1,i,σ,h=>match zA h i s with
  |some (x,h1)=>match store g x σ h1 with
   |some σ1=>(b σ1 h1).bind λ(o,h2)=>match o with
    | .nx σ2=>F7 s g b n (i+1) σ2 h2
    | .ct σ2=>F7 s g b n (i+1) σ2 h2
    | .bk σ2=>.ok (.nx σ2,h2)
    | .rt v=>.ok (.rt v,h2)
   |none=>.stuck
  |none=>.stuck
noncomputable def qDk(u x f i:Nat):E:=.or (.not (.call f (.cons (.var i) (.cons (.var x) .nil)))) (.or (.cmp .inn (.idx (.var x) (.cst (.int 0))) (.var u)) (.cmp .inn (.idx (.var x) (.cst (.int 1))) (.var u)))
noncomputable def n9(F:Nat->List V->AH->RV)(u x:Nat)(k:Int)(σ:St)(h:AH):RS:=(ev F (.cst (.bl true)) σ h).bind λ(x1,h1)=>(ev F (.var u) σ h1).bind λ(p,h2)=>(ev F (.idx (.var x) (.cst (.int k))) σ h2).bind λ(k,h3)=>match p,k with
  | .ref a,.int k=>match qe h3 a with
   |some xs=>match ixN xs.length k with|some j=>.ok (.nx σ,h3.set a (.lst false (xs.set j x1)))|none=>.stuck
   |none=>match QJ h3 a with
    |some kvs=>if flat x1=true/\kvs.length<lim then .ok (.nx σ,h3.set a (.ob (.dct (jx kvs k x1)))) else .stuck
    |none=>.stuck
  |_,_=>.stuck
noncomputable def A6(r:RS)(k:St->AH->RS):RS:=r.bind λ(o,h1)=>match o with
  | .nx σ1=>k σ1 h1
  |o=>.ok (o,h1)
noncomputable def jN(F:Nat->List V->AH->RV)(u x f i:Nat)(σ:St)(h:AH):RS:=A6 ((asB (ev F (qDk u x f i) σ h)).bind λ(b,h1)=>if b then A6 ((ev F (.cst (.bl false)) σ h1).bind λ(y,h2)=>.ok (.rt y,h2)) (λσ h=>.ok (.nx σ,h)) else .ok (.nx σ,h1)) λσ h=>A6 (n9 F u x 0 σ h) λσ h=>A6 (n9 F u x 1 σ h) λσ h=>.ok (.nx σ,h)
mutual
noncomputable def ex:S->St->AH->RS
 | .asg g e=>λσ h=>(ev F e σ h).bind λ(x,h1)=>match store g x σ h1 with|some σ1=>.ok (.nx σ1,h1)|none=>.stuck
 | .put o i v=>λσ h=>(ev F v σ h).bind λ(x,h1)=>(ev F o σ h1).bind λ(p,h2)=>(ev F i σ h2).bind λ(k,h3)=>match p,k with
  | .ref a,.int k=>match qe h3 a with
   |some xs=>match ixN xs.length k with|some j=>.ok (.nx σ,h3.set a (.lst false (xs.set j x)))|none=>.stuck
   |none=>match QJ h3 a with
    |some kvs=>if flat x=true/\kvs.length<lim then .ok (.nx σ,h3.set a (.ob (.dct (jx kvs k x)))) else .stuck
    |none=>.stuck
  |_,_=>.stuck
 | .expr e=>λσ h=>(ev F e σ h).bind λ(_,h1)=>.ok (.nx σ,h1)
 | .ret e=>λσ h=>(ev F e σ h).bind λ(x,h1)=>.ok (.rt x,h1)
 | .ifs c t u=>λσ h=>(asB (ev F c σ h)).bind λ(x,h1)=>if x then exs t σ h1 else exs u σ h1
 | .for_ g it b=>λσ h=>(evi F it σ h).bind λ(s,h1)=>match D1 h1 s with
  |some n=>F7 s g (exs b) n 0 σ h1
  |none=>.stuck
 | .stop=>λ_ _=>.stuck
 | .nloop u x f i a=>λσ h=>(evi F (.list a) (σ.set u (some (.ref h.length))) (h++[.ob (.dct [])])).bind λ(s,h1)=>match D1 h1 s with
  |some n=>F7 s (.name x) (jN F u x f i) n 0 (σ.set u (some (.ref h.length))) h1
  |none=>.stuck
noncomputable def exs:Ss->St->AH->RS
 | .nil=>λσ h=>.ok (.nx σ,h)
 | .cons s r=>λσ h=>(ex s σ h).bind λ(o,h1)=>match o with
  | .nx σ1=>exs r σ1 h1
  |o=>.ok (o,h1)
end
end
structure Fn where
 npar:Nat
 nslot:Nat
 body:Ss
noncomputable def Fk(tb:List Fn):Nat->Nat->List V->AH->RV
 | 0,_,_,_=>.stuck
 |k+1,f,vs,h=>match tb[f]? with
  |some d=>if vs.length=d.npar/\d.npar<=d.nslot then (exs (Fk tb k) d.body (vs.map some++List.replicate (d.nslot-d.npar) none) h).bind λ(o,h1)=>match o with
    | .nx _=>.ok (.non,h1)
    | .rt v=>.ok (v,h1)
    |_=>.stuck
   else .stuck
  |none=>.stuck
open PySem PySem.Spec PyProof.Rows
open L2 (Hp HO Cx PE PT PA PS PSs TE TT TA TS VK upd qH qE SqL SqT ZK)
def rv(φ:List Addr):V->V->Prop
 | .ref i,.ref a=>φ[i]?=some a
 | .non,.non=>True
 | .bl b,.bl c=>b=c
 | .int i,.int j=>i=j
 | .str x,.str y=>x=y
 |_,_=>False
abbrev rvs(φ:List Addr):List V->List V->Prop:=Paired (rv φ)
def ropt(φ:List Addr):Option V->Option V->Prop
 |some v,oc=>∃w,oc=some w/\rv φ v w
 |none,_=>True
abbrev rst(φ:List Addr):St->St->Prop:=Paired (ropt φ)
def Ext(φ φ':List Addr):Prop:=∃r,φ'=φ++r
theorem Ext.refl(φ:List Addr):Ext φ φ:=⟨[],by simp⟩
theorem Ext.trans{a b c:List Addr}(h:Ext a b)(g:Ext b c):Ext a c:=by
 obtain⟨r,rfl⟩:=h;obtain⟨q,rfl⟩:=g;exact⟨r++q,by simp⟩
theorem Ext.get{φ φ':List Addr}(x:Ext φ φ'){i:Nat}{a:Addr}(h:φ[i]?=some a):φ'[i]?=some a:=by
 obtain⟨r,rfl⟩:=x;rw[List.getElem?_append_left (List.getElem?_eq_some_iff.mp h).1];exact h
theorem rv.mono{φ φ':List Addr}(x:Ext φ φ'):∀{v w:V},rv φ v w->rv φ' v w
 | .ref i,.ref a,h=>x.get h
 | .non,.non,h=>h
 | .bl _,.bl _,h=>h
 | .int _,.int _,h=>h
 | .str _,.str _,h=>h
 | .byt _,_,h=>by cases h
 | .flt _,_,h=>by cases h
 | .ty _,_,h=>by cases h
theorem rvs.mono{φ φ':List Addr}(x:Ext φ φ'){vs ws:List V}(h:rvs φ vs ws):rvs φ' vs ws:=L2.Paired.mapP h λ_ _ r=>rv.mono x r
theorem ropt.mono{φ φ':List Addr}(x:Ext φ φ'):∀{v w:Option V},ropt φ v w->ropt φ' v w
 |some v,oc,h=>by obtain⟨w,e,r⟩:=h;exact⟨w,e,rv.mono x r⟩
 |none,_,_=>trivial
theorem rst.mono{φ φ':List Addr}(x:Ext φ φ'){σ τ:St}(h:rst φ σ τ):rst φ' σ τ:=L2.Paired.mapP h λ_ _ r=>ropt.mono x r
theorem qK{α β:Type}{R:α->β->Prop}:∀{xs:List α}{ys:List β}{i:Nat}{x:α},Paired R xs ys->xs[i]?=some x->∃y,ys[i]?=some y/\R x y
 |_,_,_,_,.nil,e=>by simp at e
 |_,_,0,_,.cons r _,e=>by simp at e;subst e;exact⟨_,rfl,r⟩
 |_,_,i+1,x,.cons _ t,e=>by
  obtain⟨u,h1,h2⟩:=qK (i:=i) (x:=x) t (by simpa using e);exact⟨u,by simpa using h1,h2⟩
theorem zS{α β:Type}{R:α->β->Prop}{x:α}{u:β}(r:R x u):∀{xs:List α}{us:List β}(i:Nat),Paired R xs us->Paired R (xs.set i x) (us.set i u)
 |_,_,_,.nil=>.nil
 |_,_,0,.cons _ t=>.cons r t
 |_,_,i+1,.cons q t=>.cons q (zS r i t)
theorem qI{α β:Type}{R:α->β->Prop}:∀{xs ys:List α}{us ws:List β},Paired R xs us->Paired R ys ws->Paired R (xs++ys) (us++ws)
 |_,_,_,_,.nil,s=>s
 |_,_,_,_,.cons r t,s=>.cons r (qI t s)
theorem qg{α β:Type}{R:α->β->Prop}:∀{xs:List α}{us:List β}(n:Nat),Paired R xs us->Paired R (xs.take n) (us.take n)
 |_,_,0,_=>.nil
 |_,_,_+1,.nil=>.nil
 |_,_,n+1,.cons r t=>.cons r (qg n t)
theorem zL{α β:Type}{R:α->β->Prop}:∀{xs:List α}{us:List β}(n:Nat),Paired R xs us->Paired R (xs.drop n) (us.drop n)
 |_,_,0,r=>r
 |_,_,_+1,.nil=>.nil
 |_,_,n+1,.cons _ t=>zL n t
theorem ZC{α β:Type}{R:α->β->Prop}{xs:List α}{us:List β}(h:Paired R xs us):∀k:Nat,Paired R (List.replicate k xs).flatten (List.replicate k us).flatten
 | 0=>.nil
 |k+1=>by
  rw[List.replicate_succ,List.replicate_succ,List.flatten_cons,List.flatten_cons];exact qI h (ZC h k)
noncomputable def kk(p:Int×V):L2.Key×V:=(.inl p.1,p.2)
noncomputable def O.mu:O->Bool
 | .lst false _=>true | .ob (.dct _)=>true|_=>false
def exP(a C:Addr):Heap->Prop:=λh=>∃o,h.get? a=some o/\o.cls=.ref C
def ro(K:PySem.W.Frag)(φ:List Addr)(H:Hp)(a:Addr):O->Prop
 | .lst false xs=>∃ys,H a=some (.lst ys)/\rvs φ xs ys
 | .lst true xs=>∃ys,((∃o,H a=some (.frz o (.lst ys)))\/SqL K (λ_=>none) a ys)/\rvs φ xs ys
 | .tup xs=>∃ys,SqT K H a ys/\rvs φ xs ys
 | .ob (.dct kvs)=>H a=some (.dK (kvs.map kk))
 | .ob (.exn x)=>∃C,PySem.W.nsIn K mainGlobals x=some (some (.ref C))/\H a=some (.ext (exP a C))
structure Rl(K:PySem.W.Frag)(G:List Addr)(φ:List Addr)(h:AH)(H:Hp):Prop where
 len:φ.length=h.length
 glob:Ext G φ
 obj:∀(i:Nat) o a,h[i]?=some o->φ[i]?=some a->ro K φ H a o
 inj:∀(i j:Nat) x y a,x.mu=true->y.mu=true->h[i]?=some x->h[j]?=some y->φ[i]?=some a->φ[j]?=some a->i=j
section
variable{K:PySem.W.Frag}{G φ φ':List Addr}{h:AH}{H H':Hp}{a b p:Addr}
theorem a9{xs:List V}(s:ZK H H')(q:SqT K H a xs):SqT K H' a xs:=by
 rcases q with(h|⟨o,h⟩)|h
 ·exact .inl (.inl (s _ _ h))
 ·exact .inl (.inr ⟨o,s _ _ h⟩)
 ·exact .inr h
theorem Y7{xs:List V}(q:SqL K (λ_=>none) a xs):SqL K H a xs:=by
 rcases q with(h|⟨o,h⟩)|h
 ·cases h
 ·cases h
 ·exact .inr h
theorem ZM{o:HO}(hp:H p=none):ZK H (upd H p o):=λb u e=>by rw[qE (L2.ne_of_none e hp)];exact e
theorem ro.keep{o:O}(x:Ext φ φ')(s:ZK H H')(r:ro K φ H a o):ro K φ' H' a o:=by
 match o,r with
 | .lst false xs,⟨ys,e,r⟩=>exact⟨ys,s _ _ e,rvs.mono x r⟩
 | .lst true xs,⟨ys,.inl ⟨o,e⟩,r⟩=>exact⟨ys,.inl ⟨o,s _ _ e⟩,rvs.mono x r⟩
 | .lst true xs,⟨ys,.inr e,r⟩=>exact⟨ys,.inr e,rvs.mono x r⟩
 | .tup xs,⟨ys,e,r⟩=>exact⟨ys,a9 s e,rvs.mono x r⟩
 | .ob (.dct _),e=>exact s _ _ e
 | .ob (.exn _),⟨C,e1,e2⟩=>exact⟨C,e1,s _ _ e2⟩
def Wr(w:HO):Prop:=(∃zs,w=.lst zs)\/∃ks,w=.dK ks
theorem ro.wr{o:O}(m:o.mu=true)(r:ro K φ H a o):∃w,H a=some w/\Wr w:=by
 match o,m,r with
 | .lst false xs,_,⟨ys,e,r⟩=>exact⟨_,e,.inl ⟨_,rfl⟩⟩
 | .ob (.dct _),_,e=>exact⟨_,e,.inr ⟨_,rfl⟩⟩
theorem Wr.ne{w v:HO}(h:Wr w)(e:H a=some v)(hb:H b=some w)(h1:∀zs,v≠.lst zs)(h2:∀ks,v≠.dK ks):a≠b:=λz=>by
 subst z;rw[e]at hb;cases hb;rcases h with⟨zs,rfl⟩|⟨ks,rfl⟩
 ·exact h1 _ rfl
 ·exact h2 _ rfl
theorem ro.other{o:O}{w w':HO}(hw:Wr w)(hb:H b=some w)(hne:o.mu=true->a≠b)(r:ro K φ H a o):ro K φ (upd H b w') a o:=by
 match o,r with
 | .lst false xs,⟨ys,e,r⟩=>exact⟨ys,by rw[qE (hne rfl)];exact e,r⟩
 | .lst true xs,⟨ys,.inl ⟨o,e⟩,r⟩=>exact⟨ys,.inl ⟨o,by rw[qE (hw.ne e hb (λ_ z=>by cases z) (λ_ z=>by cases z))];exact e⟩,r⟩
 | .lst true xs,⟨ys,.inr e,r⟩=>exact⟨ys,.inr e,r⟩
 | .tup xs,⟨ys,e,r⟩=>
  refine⟨ys,?_,r⟩;rcases e with(h|⟨o,h⟩)|h
  ·exact .inl (.inl (by rw[qE (hw.ne h hb (λ_ z=>by cases z) (λ_ z=>by cases z))];exact h))
  ·exact .inl (.inr ⟨o,by rw[qE (hw.ne h hb (λ_ z=>by cases z) (λ_ z=>by cases z))];exact h⟩)
  ·exact .inr h
 | .ob (.dct _),e=>exact(by show upd H b _ a=_;rw[qE (hne rfl)];exact e)
 | .ob (.exn _),⟨C,e1,e2⟩=>exact⟨C,e1,by rw[qE (hw.ne e2 hb (λ_ z=>by cases z) (λ_ z=>by cases z))];exact e2⟩
theorem Rl.at(R:Rl K G φ h H){i:Nat}{o:O}(e:h[i]?=some o):∃a,φ[i]?=some a/\ro K φ H a o:=by
 have hi:i<φ.length:=by rw[R.len];exact(List.getElem?_eq_some_iff.mp e).1
 exact⟨φ[i],wA hi,R.obj i o _ e (wA hi)⟩
theorem Rl.new(R:Rl K G φ h H)(hp:H p=none){o:O}{ob:HO}(n:ro K (φ++[p]) (upd H p ob) p o):Rl K G (φ++[p]) (h++[o]) (upd H p ob):=by
 have x:Ext φ (φ++[p]):=⟨[p],rfl⟩
 refine⟨by simp[R.len],R.glob.trans x,λi u a e1 e2=>?_,λi j xs ys a m1 m2 e1 e2 e3 e4=>?_⟩
 ·by_cases hi:i<h.length
  ·rw[List.getElem?_append_left hi]at e1;rw[List.getElem?_append_left (by rw[R.len];exact hi)]at e2;exact(R.obj i u a e1 e2).keep x (ZM hp)
  ·have hi':i=h.length:=by
    have:=(List.getElem?_eq_some_iff.mp e1).1;simp at this;omega
   subst hi';simp at e1;rw[<-R.len]at e2;simp at e2;subst e1 e2;exact n
 ·have lt:∀{k:Nat}{z:O},(h++[o])[k]?=some z->(h[k]?=some z/\k<h.length)\/k=h.length:=λ{k zs} e=>by
   by_cases hk:k<h.length
   ·rw[List.getElem?_append_left hk]at e;exact .inl ⟨e,hk⟩
   ·have:=(List.getElem?_eq_some_iff.mp e).1;simp at this;exact .inr (by omega)
  have old:∀{k:Nat}{b:Addr},k<h.length->(φ++[p])[k]?=some b->φ[k]?=some b:=λ{k b} hk e=>by
   rwa [List.getElem?_append_left (by rw[R.len];exact hk)]at e
  have newA:∀{b:Addr},(φ++[p])[h.length]?=some b->b=p:=λ{b} e=>by
   rw[<-R.len]at e;simp at e;exact e.symm
  rcases lt e1 with⟨e1,h1⟩|rfl<;>rcases lt e2 with⟨e2,h2⟩|rfl
  ·exact R.inj i j xs ys a m1 m2 e1 e2 (old h1 e3) (old h2 e4)
  ·have ea:=newA e4;subst ea;obtain⟨w,hz,_⟩:=(R.obj i _ a e1 (old h1 e3)).wr m1;rw[hp]at hz;cases hz
  ·have ea:=newA e3;subst ea;obtain⟨w,hz,_⟩:=(R.obj j _ a e2 (old h2 e4)).wr m2;rw[hp]at hz;cases hz
  ·rfl
theorem Rl.more(R:Rl K G φ h H)(hp:H p=none){ob:HO}:Rl K G φ h (upd H p ob):=
 ⟨R.len,R.glob,λi u a e1 e2=>(R.obj i u a e1 e2).keep (Ext.refl _) (ZM hp),R.inj⟩
theorem Rl.exn(R:Rl K G φ h H){i:Nat}{x:Str}(e:qBZ h i=some x):∃a C,φ[i]?=some a/\PySem.W.nsIn K mainGlobals x=some (some (.ref C))/\H a=some (.ext (exP a C)):=by
 unfold qBZ at e;split at e
 ·rename_i c q;cases e;obtain⟨a,ea,C,r1,r2⟩:=R.at q;exact⟨a,C,ea,r1,r2⟩
 ·cases e
theorem Rl.newL(R:Rl K G φ h H)(hp:H p=none){xs ys:List V}(r:rvs φ xs ys):Rl K G (φ++[p]) (h++[.lst false xs]) (upd H p (.lst ys)):=
 R.new hp ⟨ys,qH,rvs.mono ⟨[p],rfl⟩ r⟩
theorem Rl.newT(R:Rl K G φ h H)(hp:H p=none){xs ys:List V}(r:rvs φ xs ys):Rl K G (φ++[p]) (h++[.tup xs]) (upd H p (.tup ys)):=
 R.new hp ⟨ys,.inl (.inl qH),rvs.mono ⟨[p],rfl⟩ r⟩
theorem Rl.lastRef(R:Rl K G φ h H):(φ++[p])[h.length]?=some p:=by rw[<-R.len];simp
theorem Rl.write(R:Rl K G φ h H){i:Nat}{x y:O}{w':HO}(mx:x.mu=true)(my:y.mu=true)(e:h[i]?=some x)(ea:φ[i]?=some a)(n:ro K φ (upd H a w') a y):Rl K G φ (h.set i y) (upd H a w'):=by
 have hi:=(List.getElem?_eq_some_iff.mp e).1;obtain⟨w,hw,ww⟩:=(R.obj i _ a e ea).wr mx;have lk:∀{k:Nat}{z:O},z.mu=true->(h.set i y)[k]?=some z->∃z',z'.mu=true/\h[k]?=some z':=λ{k zs} m q=>by
  by_cases hk:k=i
  ·subst hk;exact⟨x,mx,e⟩
  ·rw[List.getElem?_set_ne (Ne.symm hk)]at q;exact⟨zs,m,q⟩
 refine⟨by simp[R.len],R.glob,λk u b e1 e2=>?_,λk l us vs b m1 m2 e1 e2 e3 e4=>?_⟩
 ·by_cases hk:k=i
  ·subst hk;rw[List.getElem?_set_self hi]at e1;rw[ea]at e2;cases e1;cases e2;exact n
  ·rw[List.getElem?_set_ne (Ne.symm hk)]at e1;refine(R.obj k u b e1 e2).other ww hw λmu hb=>?_;subst hb;exact hk (R.inj k i u x b mu mx e1 e e2 ea)
 ·obtain⟨z1,n1,q1⟩:=lk m1 e1;obtain⟨z2,n2,q2⟩:=lk m2 e2;exact R.inj k l z1 z2 b n1 n2 q1 q2 e3 e4
theorem Rl.set(R:Rl K G φ h H){i:Nat}{xs ys zs:List V}(e:h[i]?=some (.lst false xs))(ea:φ[i]?=some a)(r:rvs φ ys zs):Rl K G φ (h.set i (.lst false ys)) (upd H a (.lst zs)):=
 R.write rfl rfl e ea ⟨zs,qH,r⟩
theorem Rl.dct(R:Rl K G φ h H){i:Nat}{kvs:List (Int×V)}(e:QJ h i=some kvs):∃a,φ[i]?=some a/\h[i]?=some (.ob (.dct kvs))/\H a=some (.dK (kvs.map kk)):=by
 unfold QJ at e;split at e
 ·rename_i zs q;cases e;obtain⟨a,ea,r⟩:=R.at q;exact⟨a,ea,q,r⟩
 ·cases e
theorem Rl.lst(R:Rl K G φ h H){i:Nat}{xs:List V}(e:qS h i=some xs):∃a ys,φ[i]?=some a/\SqL K H a ys/\rvs φ xs ys:=by
 unfold qS at e;split at e
 ·rename_i fz zs q;cases e;obtain⟨a,ea,r⟩:=R.at q;cases fz with
  |false=>obtain⟨ys,e,r⟩:=r;exact⟨a,ys,ea,.inl (.inl e),r⟩
  |true=>
   obtain⟨ys,e,r⟩:=r;rcases e with⟨o,e⟩|e
   ·exact⟨a,ys,ea,.inl (.inr ⟨o,e⟩),r⟩
   ·exact⟨a,ys,ea,Y7 e,r⟩
 ·cases e
theorem Rl.tup(R:Rl K G φ h H){i:Nat}{xs:List V}(e:qY h i=some xs):∃a ys,φ[i]?=some a/\SqT K H a ys/\rvs φ xs ys:=by
 unfold qY at e;split at e
 ·rename_i zs q;cases e;obtain⟨a,ea,ys,e,r⟩:=R.at q;exact⟨a,ys,ea,e,r⟩
 ·cases e
theorem Rl.mut(R:Rl K G φ h H){i:Nat}{xs:List V}(e:qe h i=some xs):h[i]?=some (.lst false xs)/\∃a ys,φ[i]?=some a/\H a=some (.lst ys)/\rvs φ xs ys:=by
 unfold qe at e;split at e
 ·rename_i zs q;cases e;obtain⟨a,ea,ys,e,r⟩:=R.at q;exact⟨q,a,ys,ea,e,r⟩
 ·cases e
theorem Rl.its(R:Rl K G φ h H){i:Nat}{xs:List V}(e:items h i=some xs):∃a ys,φ[i]?=some a/\(SqL K H a ys\/SqT K H a ys)/\rvs φ xs ys:=by
 unfold items at e;split at e
 ·rename_i fz zs q;cases e;obtain⟨a,ys,h1,h2,h3⟩:=R.lst (i:=i) (xs:=xs) (by unfold qS;rw[q]);exact⟨a,ys,h1,.inl h2,h3⟩
 ·rename_i zs q;cases e;obtain⟨a,ys,h1,h2,h3⟩:=R.tup (i:=i) (xs:=xs) (by unfold qY;rw[q]);exact⟨a,ys,h1,.inr h2,h3⟩
 ·cases e
end
open L2 (PG Inv RelV Vals EP TP AP SP OpR zE R2)
theorem Res.bind_inv{α β:Type}{r:Res α}{f:α->Res β}{x:β}(h:r.bind f=.ok x):∃a,r=.ok a/\f a=.ok x:=by
 cases r with
 |ok a=>exact⟨a,rfl,h⟩
 |exc c h'=>cases h
 |stuck=>cases h
theorem qA{φ:List Addr}{i:Int}{w:V}(h:rv φ (.int i) w):w=.int i:=by
 cases w with
 |int j=>exact congrArg V.int (show i=j from h).symm
 |_=>exact False.elim h
theorem zO{φ:List Addr}{i:Bool}{w:V}(h:rv φ (.bl i) w):w=.bl i:=by
 cases w with
 |bl j=>exact congrArg V.bl (show i=j from h).symm
 |_=>exact False.elim h
theorem ze{φ:List Addr}{i:Str}{w:V}(h:rv φ (.str i) w):w=.str i:=by
 cases w with
 |str j=>exact congrArg V.str (show i=j from h).symm
 |_=>exact False.elim h
theorem zM{φ:List Addr}{w:V}(h:rv φ .non w):w=.non:=by
 cases w with
 |non=>rfl
 |_=>exact False.elim h
theorem qO{φ:List Addr}{i:Nat}{w:V}(h:rv φ (.ref i) w):∃a,w=.ref a/\φ[i]?=some a:=by
 cases w with
 |ref j=>exact⟨j,rfl,h⟩
 |_=>exact False.elim h
section
variable (K:PySem.W.Frag)(G:List Addr)(F:Nat->List V->AH->RV)
noncomputable def tE(e:E):TE:=λσc H Q=>∃φ h σ v h',Rl K G φ h H/\rst φ σ σc/\ev F e σ h=.ok (v,h')/\∀φ' H' w,Ext φ φ'->Rl K G φ' h' H'->rv φ' v w->Q w H'
noncomputable def tB(r:St->AH->Res (Bool×AH)):TT:=λσc H Q=>∃φ h σ b h',Rl K G φ h H/\rst φ σ σc/\r σ h=.ok (b,h')/\∀φ' H',Ext φ φ'->Rl K G φ' h' H'->Q b H'
noncomputable abbrev tT(e:E):TT:=tB K G (λσ h=>asB (ev F e σ h))
noncomputable def tL(as:Es):TA:=λσc H Q=>∃φ h σ vs h',Rl K G φ h H/\rst φ σ σc/\evs F as σ h=.ok (vs,h')/\∀φ' H' ws,Ext φ φ'->Rl K G φ' h' H'->rvs φ' vs ws->Q ws H'
end
section
variable{X:Cx}{G:List Addr}{F:Nat->List V->AH->RV}
theorem qi{e:Expr}{t t':TE}(h:PE X e t)(w:∀σ H Q,t' σ H Q->t σ H Q):PE X e t':=λpins s σ H Q I q=>h pins s σ H Q I (w σ H Q q)
theorem c6{e:Expr}{t t':TT}(h:PT X e t)(w:∀σ H Q,t' σ H Q->t σ H Q):PT X e t':=λpins s σ H Q I q=>h pins s σ H Q I (w σ H Q q)
theorem qBr{e:List Expr}{t t':TA}(h:PA X e t)(w:∀σ H Q,t' σ H Q->t σ H Q):PA X e t':=λpos pins s σ H Q I q=>h pos pins s σ H Q I (w σ H Q q)
variable (X G F) in
abbrev SE(e:Expr)(a:E):Prop:=PE X e (tE X.K G F a)
variable (X G F) in
abbrev ST(e:Expr)(a:E):Prop:=PT X e (tT X.K G F a)
variable (X G F) in
abbrev SA(es:List Expr)(as:Es):Prop:=PA X es (tL X.K G F as)
variable{K:PySem.W.Frag}{φ φ':List Addr}{h h1 h2:AH}{H:Hp}{σ σc:St}{a b:E}{x y:V}
theorem jh(R:Rl K G φ h H)(rs:rst φ σ σc)(ea:ev F a σ h=.ok (x,h1))(eb:ev F b σ h1=.ok (y,h2)){Rr:V->V->Hp->Prop}
  (k:∀φ2 H2 xc yc,Ext φ φ2->Rl K G φ2 h2 H2->rv φ2 x xc->rv φ2 y yc->Rr xc yc H2):tE K G F a σc H (λxc H1=>tE K G F b σc H1 (λyc H2=>Rr xc yc H2)):=
 ⟨φ,h,σ,x,h1,R,rs,ea,λφ1 H1 xc e1 R1 r1=>⟨φ1,h1,σ,y,h2,R1,rst.mono e1 rs,eb,λφ2 H2 yc e2 R2 r2=>k φ2 H2 xc yc (e1.trans e2) R2 (rv.mono e2 r1) r2⟩⟩
theorem qBS{i:Nat}{n:Str}{pos:Pos}(hN:X.N[i]?=some n)(hv:L2.Vis X.env.scope n)(hd:(n==("__debug__":Str))=false)(hcd:(n==("__classdict__":Str))=false):SE X G F (.Name n pos) (.var i):=by
 refine qi (L2.pe_var hN hv hd hcd) λσc H Q q=>?_;obtain⟨φ,h,σ,v,h',R,rs,e,k⟩:=q;unfold ev at e;split at e
 ·rename_i w q;cases e;obtain⟨oc,ec,r⟩:=qK rs q;obtain⟨u,rfl,r⟩:=r;exact⟨u,ec,k φ H u (.refl _) R r⟩
 ·cases e
theorem S9{v:V}{w:V}{σc:St}{H:Hp}{Q:VK}(hr:∀φ,rv φ v w)(q:tE K G F (.cst v) σc H Q):L2.tC w σc H Q:=by
 obtain⟨φ,h,σ,v',h',R,rs,e,k⟩:=q;unfold ev at e;cases e;exact k φ H w (.refl _) R (hr φ)
theorem g6 {i j pos}:SE X G F (.Constant (.int i) j pos) (.cst (.int i)):=qi L2.pe_int λ_ _ _=>S9 λ_=>rfl
theorem qBD {i j pos}:SE X G F (.Constant (.bool i) j pos) (.cst (.bl i)):=qi L2.pe_bl λ_ _ _=>S9 λ_=>rfl
theorem i5 {j pos}:SE X G F (.Constant .none j pos) (.cst .non):=qi L2.pe_non λ_ _ _=>S9 λ_=>trivial
theorem g8 {i j pos}:SE X G F (.Constant (.str i) j pos) (.cst (.str i)):=qi L2.pe_str λ_ _ _=>S9 λ_=>rfl
theorem v5{n:Str}{v:V}{u:Value}{pos:Pos}(hg:L2.Gl X n)(hm:X.mg n=some u)(r:RelV v u)(hv:∀φ,rv φ v v)(hd:(n==("__debug__":Str))=false):SE X G F (.Name n pos) (.cst v):=
 qi (L2.pe_glob hg hm r hd) λ_ _ _=>S9 hv
theorem qAQ{n:Str}{g:Nat}{a:Addr}{pos:Pos}(hg:L2.Gl X n)(hm:X.mg n=some (.ref a))(hG:G[g]?=some a)(hd:(n==("__debug__":Str))=false):SE X G F (.Name n pos) (.glob g):=by
 refine qi (L2.pe_glob (v:=.ref a) hg hm rfl hd) λσc H Q q=>?_;obtain⟨φ,h,σ,v',h',R,rs,e,k⟩:=q;unfold ev at e;cases e;exact k φ H (.ref a) (.refl _) R (R.glob.get hG)
noncomputable def opB:BOp->Operator
 | .add=>.Add | .sub=>.Sub | .mul=>.Mult | .fdiv=>.FloorDiv | .mod=>.Mod | .pow=>.Pow | .band=>.BitAnd | .shl=>.LShift | .shr=>.RShift
def qDz(i j:Int):Prop:=j≠0/\j.natAbs.log2<9000
theorem W9:OpR X (binaryOp .FloorDiv) (L2.rI qDz λi j=>.int (i.fdiv j)):=L2.opI λ_ _ _ _ _ _ _ hc q=>floordiv_int hc.1 q (.inl (PyProof.noPylong_of_log2 hc.2))
def qD3(i j:Int):Prop:=i.natAbs.log2<9000/\j.natAbs.log2<9000
theorem C4{i:Int}(h:i.natAbs.log2<9000):Builtin.Int.intBits i<=2 ^ 20:=by
 unfold Builtin.Int.intBits;have e:(2:Nat) ^ 20=1048576:=by decide
 rw[e];split<;>omega
theorem v3:OpR X (binaryOp .Mult) (L2.rI qD3 λi j=>.int (i*j)):=L2.opI λ_ _ _ _ _ _ _ hc q=>mul_int q (IntMulOk.of_bits (C4 hc.1) (C4 hc.2))
theorem F0{i:Int}(h:mid i=true):i.natAbs.log2<9000:=vP h
noncomputable def qEX(K:PySem.W.Frag):BOp->R2
 | .add=>λx y H Q=>(L2.rI0 (λi j=>.int (i+j)) x y H Q\/L2.rCat x y H Q)\/L2.rCatT K x y H Q
 | .sub=>L2.rI0 λi j=>.int (i-j)
 | .mul=>λx y H Q=>(L2.rI L2.CMul (λi j=>.int (i*j)) x y H Q\/L2.rRep x y H Q)\/L2.rI qD3 (λi j=>.int (i*j)) x y H Q
 | .fdiv=>λx y H Q=>L2.rI L2.CDiv (λi j=>.int (i / j)) x y H Q\/L2.rI qDz (λi j=>.int (i.fdiv j)) x y H Q
 | .mod=>λx y H Q=>L2.rI (λ_ j=>0<j) (λi j=>.int (i % j)) x y H Q\/L2.rI (λ_ j=>j≠0) (λi j=>.int (i.fmod j)) x y H Q
 | .pow=>L2.rI L2.CPow λi j=>.int (i ^ j.toNat)
 | .band=>L2.rI0 λi j=>.int (Builtin.bitAnd i j)
 | .shl=>L2.rI L2.CPow λi j=>.int (i*2 ^ j.toNat)
 | .shr=>L2.rI (λ_ j=>0<=j) λi j=>.int (i / 2 ^ j.toNat)
theorem qAJ:∀op,OpR X (binaryOp (opB op)) (qEX X.K op)
 | .add=>(L2.op_add.or L2.op_cat).or L2.op_catT
 | .sub=>L2.op_sub
 | .mul=>(L2.op_mul.or L2.op_rep).or v3
 | .fdiv=>L2.op_fdiv.or W9
 | .mod=>L2.op_mod.or L2.op_modN
 | .pow=>L2.op_pow
 | .band=>L2.op_and
 | .shl=>L2.op_shl
 | .shr=>L2.op_shr
theorem QA:lim<=sizeLine:=by decide
theorem m6:lim<sizeLine:=by decide
theorem E3{i:Int}(h:QH i=true):-(2 ^ 64)<i/\i<2 ^ 64:=by
 unfold QH two64 at h;have:=vP h;omega
theorem y8{op:BOp}{v xc yc:V}{h':AH}{Q:VK}(e:qBi op x y h=.ok (v,h'))(R:Rl K G φ h H)(rx:rv φ x xc)(ry:rv φ y yc)
  (k:∀φ' H' w,Ext φ φ'->Rl K G φ' h' H'->rv φ' v w->Q w H'):qEX K op xc yc H Q:=by
 cases op with
 |add=>
  dsimp only[qBi]at e;split at e
  ·replace e:=zv e;obtain⟨b,rfl,e⟩:=e;split at e
   ·rename_i xs ys e1 e2;split at e
    ·rename_i hl;cases e;obtain⟨q1,a1,ys1,ha1,hH1,r1⟩:=R.mut e1;obtain⟨q2,a2,ys2,ha2,hH2,r2⟩:=R.mut e2;obtain⟨b1,rfl,hb1⟩:=qO rx;obtain⟨b2,rfl,hb2⟩:=qO ry;rw[ha1]at hb1;cases hb1;rw[ha2]at hb2;cases hb2;refine .inl (.inr ⟨a1,a2,ys1,ys2,rfl,rfl,hH1,hH2,?_,λp hp=>k (φ++[p]) _ _ ⟨[p],rfl⟩ (R.newL hp (qI r1 r2)) R.lastRef⟩);have l1:=Paired.length r1;have l2:=Paired.length r2;have:=QA;omega
    ·cases e
   ·split at e
    ·rename_i xs ys e1 e2;split at e
     ·rename_i hl;obtain⟨a1,ys1,ha1,hH1,r1⟩:=R.tup e1;obtain⟨a2,ys2,ha2,hH2,r2⟩:=R.tup e2;obtain⟨b1,rfl,hb1⟩:=qO rx;obtain⟨b2,rfl,hb2⟩:=qO ry;rw[ha1]at hb1;cases hb1;rw[ha2]at hb2;cases hb2;have l1:=Paired.length r1;have l2:=Paired.length r2;refine .inr ⟨a1,a2,ys1,ys2,rfl,rfl,hH1,hH2,?_,?_,λz=>?_,λz p hp=>?_⟩
      ·rintro rfl;exact hl.1 (List.length_eq_zero_iff.mp l1)
      ·have:=QA;omega
      ·subst z;rw[if_pos (List.length_eq_zero_iff.mp l2)]at e;cases e;exact k φ H _ (.refl _) R ha1
      ·rw[if_neg (λq=>z (by subst q;exact List.length_eq_zero_iff.mp l2.symm))]at e;cases e;exact k (φ++[p]) _ _ ⟨[p],rfl⟩ (R.newT hp (qI r1 r2)) R.lastRef
     ·cases e
    ·cases e
  ·replace e:=qx e;obtain⟨i,j,rfl,rfl,e⟩:=e;cases e;cases qA rx;cases qA ry;exact .inl (.inl ⟨_,_,rfl,rfl,k φ H _ (.refl _) R rfl⟩)
 |sub=>
  replace e:=qx e;obtain⟨i,j,rfl,rfl,e⟩:=e;cases e;cases qA rx;cases qA ry;exact⟨_,_,rfl,rfl,k φ H _ (.refl _) R rfl⟩
 |mul=>
  dsimp only[qBi]at e;split at e
  ·split at e
   ·split at e
    ·rename_i xs e1;split at e
     ·rename_i hl;obtain⟨h0,hl,h3⟩:=hl;cases e;obtain⟨q1,a1,ys1,ha1,hH1,r1⟩:=R.mut e1;obtain⟨b1,rfl,hb1⟩:=qO rx;rw[ha1]at hb1;cases hb1;cases qA ry;refine .inl (.inr ⟨a1,_,ys1,rfl,rfl,hH1,by omega,by omega,?_,λp hp=>k (φ++[p]) _ _ ⟨[p],rfl⟩ (R.newL hp (ZC r1 _)) R.lastRef⟩);have l1:=Paired.length r1;have:=QA;rw[<-l1];omega
     ·cases e
    ·cases e
   ·cases e
  ·replace e:=qx e;obtain⟨i,j,rfl,rfl,e⟩:=e;split at e
   ·rename_i hs;cases e;cases qA rx;cases qA ry;rw[wx,wx,Bool.and_eq_true]at hs;rcases hs with(z|z)|z
    ·exact .inl (.inl ⟨_,_,rfl,rfl,.inl (E3 z),k φ H _ (.refl _) R rfl⟩)
    ·exact .inl (.inl ⟨_,_,rfl,rfl,.inr (E3 z),k φ H _ (.refl _) R rfl⟩)
    ·exact .inr ⟨_,_,rfl,rfl,⟨F0 z.1,F0 z.2⟩,k φ H _ (.refl _) R rfl⟩
   ·cases e
 |fdiv=>
  replace e:=qx e;obtain⟨i,j,rfl,rfl,e⟩:=e;split at e
  ·rename_i hc;cases e;cases qA rx;cases qA ry;rcases hc.2 with z|z
   ·exact .inl ⟨_,_,rfl,rfl,⟨hc.1,z⟩,k φ H _ (.refl _) R rfl⟩
   ·refine .inr ⟨_,_,rfl,rfl,⟨by omega,F0 z⟩,?_⟩;dsimp only;rw[Int.fdiv_eq_ediv_of_nonneg _ (by omega)];exact k φ H _ (.refl _) R rfl
  ·split at e
   ·rename_i hc;cases e;cases qA rx;cases qA ry;exact .inr ⟨_,_,rfl,rfl,⟨by omega,F0 hc.2⟩,k φ H _ (.refl _) R rfl⟩
   ·cases e
 |mod=>
  replace e:=qx e;obtain⟨i,j,rfl,rfl,e⟩:=e;split at e
  ·rename_i hc;cases e;cases qA rx;cases qA ry;exact .inl ⟨_,_,rfl,rfl,hc,k φ H _ (.refl _) R rfl⟩
  ·split at e
   ·rename_i hc;cases e;cases qA rx;cases qA ry;exact .inr ⟨_,_,rfl,rfl,(by omega),k φ H _ (.refl _) R rfl⟩
   ·cases e
 |pow=>
  replace e:=qx e;obtain⟨i,j,rfl,rfl,e⟩:=e;split at e
  ·rename_i hc;cases e;cases qA rx;cases qA ry;refine⟨_,_,rfl,rfl,⟨hc.1,by omega,by omega⟩,k φ H _ (.refl _) R rfl⟩
  ·cases e
 |band=>
  replace e:=qx e;obtain⟨i,j,rfl,rfl,e⟩:=e;cases e;cases qA rx;cases qA ry;exact⟨_,_,rfl,rfl,k φ H _ (.refl _) R rfl⟩
 |shl=>
  replace e:=qx e;obtain⟨i,j,rfl,rfl,e⟩:=e;split at e
  ·rename_i hc;cases e;cases qA rx;cases qA ry;refine⟨_,_,rfl,rfl,⟨hc.1,by omega,by omega⟩,k φ H _ (.refl _) R rfl⟩
  ·cases e
 |shr=>
  replace e:=qx e;obtain⟨i,j,rfl,rfl,e⟩:=e;split at e
  ·rename_i hc;cases e;cases qA rx;cases qA ry;refine⟨_,_,rfl,rfl,hc.1,k φ H _ (.refl _) R rfl⟩
  ·cases e
theorem qCF{op:BOp}{ea eb:Expr}{pos:Pos}(ha:SE X G F ea a)(hb:SE X G F eb b):SE X G F (.BinOp ea (opB op) eb pos) (.bin op a b):=by
 refine qi (L2.pe_op (qAJ op) ha hb) λσc H Q q=>?_;obtain⟨φ,h,σ,v,h',R,rs,e,k⟩:=q;unfold ev at e;obtain⟨⟨x,h1⟩,e1,e⟩:=Res.bind_inv e;obtain⟨⟨y,h2⟩,e2,e⟩:=Res.bind_inv e;exact jh R rs e1 e2 λφ2 H2 xc yc x2 R2 r1 r2=>y8 e R2 r1 r2 λφ' H' w x' R' r'=>k φ' H' w (x2.trans x') R' r'
theorem qCM{ea:Expr}{pos:Pos}(ha:SE X G F ea a):SE X G F (.UnaryOp .USub ea pos) (.neg a):=by
 refine qi (L2.pe_un L2.un_neg ha) λσc H Q q=>?_;obtain⟨φ,h,σ,v,h',R,rs,e,k⟩:=q;unfold ev at e;obtain⟨⟨x,h1⟩,e1,e⟩:=Res.bind_inv e;refine⟨φ,h,σ,x,h1,R,rs,e1,λφ1 H1 xc x1 R1 r1=>?_⟩;dsimp only at e;split at e
 ·cases e;cases qA r1;exact⟨_,rfl,k φ1 H1 _ x1 R1 rfl⟩
 ·cases e
end
open PySem.SeqAt
structure Eq3(A:Around)(s:Shared)(u w:Value)(b:Bool):Prop where
 eq:EqAt A s u w b
 rc:RcAt A s u w b
 ne:RcNeAt A s u w (!b)
theorem JI{A:Around}{s:Shared}{φ:List Addr}:∀{x y xc yc:V}{u w:Value}{b:Bool},eqF x y=some b->rv φ x xc->rv φ y yc->RelV xc u->RelV yc w->Eq3 A s u w b:=by
 intro x y xc yc u w b e rx ry ru rw';cases x with
 |non=>
  cases zM rx;cases ru;cases y with
  |non=>cases zM ry;cases rw';cases e;exact⟨.same _,.none_none,.none_none⟩
  |bl j=>cases zO ry;cases rw';cases e;exact⟨.none_bool _,.none_bool _,.none_bool _⟩
  |int j=>cases qA ry;obtain⟨t,rfl⟩:=rw';cases e;exact⟨.none_int _ _,.none_int _ _,.none_int _ _⟩
  |str j=>cases ze ry;obtain⟨t,rfl⟩:=rw';cases e;exact⟨.none_str _ _,.none_str _ _,.none_str _ _⟩
  |_=>cases e
 |bl i=>
  cases zO rx;cases ru;cases y with
  |non=>cases zM ry;cases rw';cases e;exact⟨.bool_none _,.bool_none _,.bool_none _⟩
  |bl j=>cases zO ry;cases rw';cases e;exact⟨.bool_bool _ _,.bool_bool _ _,.bool_bool _ _⟩
  |int j=>cases qA ry;obtain⟨t,rfl⟩:=rw';cases e;exact⟨.bool_int _ _ _,.bool_int _ _ _,.bool_int _ _ _⟩
  |str j=>cases ze ry;obtain⟨t,rfl⟩:=rw';cases e;exact⟨.bool_str _ _ _,.bool_str _ _ _,.bool_str _ _ _⟩
  |_=>cases e
 |int i=>
  cases qA rx;obtain⟨t,rfl⟩:=ru;cases y with
  |non=>cases zM ry;cases rw';cases e;exact⟨.int_none _ _,.int_none _ _,.int_none _ _⟩
  |bl j=>cases zO ry;cases rw';cases e;exact⟨.int_bool _ _ _,.int_bool _ _ _,.int_bool _ _ _⟩
  |int j=>cases qA ry;obtain⟨t,rfl⟩:=rw';cases e;exact⟨.int_int _ _ _ _,.int_int _ _ _ _,.int_int _ _ _ _⟩
  |str j=>cases ze ry;obtain⟨t,rfl⟩:=rw';cases e;exact⟨.int_str _ _ _ _,.int_str _ _ _ _,.int_str _ _ _ _⟩
  |_=>cases e
 |str i=>
  cases ze rx;obtain⟨t,rfl⟩:=ru;cases y with
  |non=>cases zM ry;cases rw';cases e;exact⟨.str_none _ _,.str_none _ _,.str_none _ _⟩
  |bl j=>cases zO ry;cases rw';cases e;exact⟨.str_bool _ _ _,.str_bool _ _ _,.str_bool _ _ _⟩
  |int j=>cases qA ry;obtain⟨t,rfl⟩:=rw';cases e;exact⟨.str_int _ _ _ _,.str_int _ _ _ _,.str_int _ _ _ _⟩
  |str j=>cases ze ry;obtain⟨t,rfl⟩:=rw';cases e;exact⟨.str_str _ _ _ _,.str_str _ _ _ _,.str_str _ _ _ _⟩
  |_=>cases e
 |_=>cases y<;>cases e
theorem F3{φ:List Addr}{x y w:V}{b:Bool}(e:eqF x y=some b)(rx:rv φ x w)(ry:rv φ y w):b=true:=by
 cases x with
 |non=>cases zM rx;cases y<;>first|exact False.elim ry|(cases e;rfl)|cases e
 |bl i=>cases zO rx;cases y<;>first|exact False.elim ry|(rename_i j;cases (show j=i from ry);cases e;simp)|cases e
 |int i=>cases qA rx;cases y<;>first|exact False.elim ry|(rename_i j;cases (show j=i from ry);cases e;simp)|cases e
 |str i=>cases ze rx;cases y<;>first|exact False.elim ry|(rename_i j;cases (show j=i from ry);cases e;simp)|cases e
 |_=>cases y<;>cases e
theorem QS{f:V->V->Option Bool}:∀{xs ys:List V}{bs:List Bool},Qt f xs ys=some bs->bs.length=xs.length/\ys.length=xs.length/\∀(j:Nat) x y,xs[j]?=some x->ys[j]?=some y->∃b,bs[j]?=some b/\f x y=some b
 | [],[],bs,e=>by
  cases e;exact⟨rfl,rfl,λj x y h=>by simp at h⟩
 | [],_::_,_,e=>by cases e
 |_::_,[],_,e=>by cases e
 |x::xs,y::ys,bs,e=>by
  unfold Qt at e;split at e
  ·rename_i b bs' e1 e2;cases e;obtain⟨l1,l2,k⟩:=QS e2;refine⟨by simp[l1],by simp[l2],λj u v h1 h2=>?_⟩;cases j with
   |zero=>simp at h1 h2;subst h1 h2;exact⟨b,rfl,e1⟩
   |succ j=>obtain⟨b',h3,h4⟩:=k j u v (by simpa using h1) (by simpa using h2);exact⟨b',by simpa using h3,h4⟩
  ·cases e
theorem Zt(bs:List Bool):(List.range bs.length).all (λj=>bs.getD j true)=bs.all id:=by
 rw[wy];simp only[wK,wO,id];constructor
 ·intro h b hb;obtain⟨j,hj,rfl⟩:=List.mem_iff_getElem.mp hb;have:=h j hj;rw[wI,wA hj]at this;exact this
 ·intro h j hj;rw[wI,wA hj];exact h _ (List.getElem_mem hj)
section
variable{X:Cx}{G φ:List Addr}{h:AH}{H:Hp}{pins:List (Addr×Obj)}{σ:L2.St}{s:Shared}
theorem B7(I:Inv X pins σ H s)(R:Rl X.K G φ h H):∀(n:Nat){x y w:V}{b:Bool},eqD h n x y=some b->rv φ x w->rv φ y w->b=true
 | 0,x,y,w,b,e,rx,ry=>F3 e rx ry
 |n+1,x,y,w,b,e,rx,ry=>by
  have all:∀{xs ys zs:List V}{bs:List Bool},rvs φ xs zs->rvs φ ys zs->Qt (eqD h n) xs ys=some bs->bs.all id=true:=λ{xs ys zs bs} r1 r2 e=>by
   obtain⟨l1,l2,k⟩:=QS e;rw[wK];intro b hb;obtain⟨j,hj,rfl⟩:=List.mem_iff_getElem.mp hb;have hx:j<xs.length:=by omega
   have hy:j<ys.length:=by omega
   obtain⟨b',hb',e'⟩:=k j _ _ (wA hx) (wA hy);rw[wA hj]at hb';cases hb';obtain⟨z,hz,q1⟩:=qK r1 (wA hx);obtain⟨z',hz',q2⟩:=qK r2 (wA hy);rw[hz]at hz';cases hz';exact B7 I R n e' q1 q2
  cases x with
  |ref a=>
   obtain⟨p,rfl,hp⟩:=qO rx;cases y with
   |ref c=>
    have hc:φ[c]?=some p:=ry;simp only[eqD]at e;split at e
    ·rename_i f1 xs f2 ys e1 e2;split at e
     ·cases e;rfl
     ·obtain⟨p1,z1,q1,s1,r1⟩:=R.lst (i:=a) (xs:=xs) (by unfold qS;rw[e1]);obtain⟨p2,z2,q2,s2,r2⟩:=R.lst (i:=c) (xs:=ys) (by unfold qS;rw[e2]);rw[hp]at q1;cases q1;rw[hc]at q2;cases q2;have:=I.list_inj s1 s2;subst this;split at e
      ·obtain⟨bs,e3,rfl⟩:=Option.map_eq_some_iff.mp e;exact all r1 r2 e3
      ·rename_i hne;exact absurd ((Paired.length r1).trans (Paired.length r2).symm) hne
    ·rename_i xs ys e1 e2;split at e
     ·cases e;rfl
     ·obtain⟨p1,z1,q1,s1,r1⟩:=R.tup (i:=a) (xs:=xs) (by unfold qY;rw[e1]);obtain⟨p2,z2,q2,s2,r2⟩:=R.tup (i:=c) (xs:=ys) (by unfold qY;rw[e2]);rw[hp]at q1;cases q1;rw[hc]at q2;cases q2;have:=I.tuple_inj s1 s2;subst this;split at e
      ·obtain⟨bs,e3,rfl⟩:=Option.map_eq_some_iff.mp e;exact all r1 r2 e3
      ·rename_i hne;exact absurd ((Paired.length r1).trans (Paired.length r2).symm) hne
    ·rename_i f1 xs ys e1 e2;obtain⟨p1,z1,q1,s1,r1⟩:=R.lst (i:=a) (xs:=xs) (by unfold qS;rw[e1]);obtain⟨p2,z2,q2,s2,r2⟩:=R.tup (i:=c) (xs:=ys) (by unfold qY;rw[e2]);rw[hp]at q1;cases q1;rw[hc]at q2;cases q2;obtain⟨i1,_,t1,_⟩:=I.list s1;obtain⟨i2,_,t2,_⟩:=I.tuple s2;exact absurd rfl (ne_of_list_tuple t1.isList t2)
    ·rename_i xs f1 ys e1 e2;obtain⟨p1,z1,q1,s1,r1⟩:=R.tup (i:=a) (xs:=xs) (by unfold qY;rw[e1]);obtain⟨p2,z2,q2,s2,r2⟩:=R.lst (i:=c) (xs:=ys) (by unfold qS;rw[e2]);rw[hp]at q1;cases q1;rw[hc]at q2;cases q2;obtain⟨i1,_,t1,_⟩:=I.tuple s1;obtain⟨i2,_,t2,_⟩:=I.list s2;exact absurd rfl (ne_of_list_tuple t2.isList t1)
    ·cases e
   |_=>exact False.elim ry
  |_=>
   cases y with
   |ref c=>
    obtain⟨p,rfl,hp⟩:=qO ry;exact False.elim rx
   |_=>exact F3 e rx ry
theorem O3(I:Inv X pins σ H s)(R:Rl X.K G φ h H):∀(n:Nat){A:Around}{x y xc yc:V}{u w:Value}{b:Bool},A.units+n<cLine->eqD h n x y=some b->rv φ x xc->rv φ y yc->RelV xc u->RelV yc w->Eq3 A s u w b
 | 0,A,x,y,xc,yc,u,w,b,hu,e,rx,ry,ru,rw'=>JI e rx ry ru rw'
 |n+1,A,x,y,xc,yc,u,w,b,hu,e,rx,ry,ru,rw'=>by
  have hu0:A.units<cLine:=by omega
  have hu1:A.in1.units+n<cLine:=by show A.units+1+n<cLine;omega
  have item:∀{xs ys zs ts:List V}{us ws:List Value}{bs:List Bool},rvs φ xs zs->rvs φ ys ts->Vals zs us->Vals ts ws->Qt (eqD h n) xs ys=some bs->us.length=bs.length/\ws.length=bs.length/\
    ∀(j:Nat) (h1:j<us.toArray.size) (h2:j<ws.toArray.size),EqAt A.in1 s us.toArray[j] ws.toArray[j] (bs.getD j true):=λ{xs ys zs ts us ws bs} r1 r2 v1 v2 e=>by
   obtain⟨l1,l2,k⟩:=QS e;have n1:=Paired.length r1;have n2:=Paired.length r2;have n3:=v1.length;have n4:=v2.length;refine⟨by omega,by omega,λj h1 h2=>?_⟩;have g1:j<us.length:=by simpa using h1
   have g2:j<ws.length:=by simpa using h2
   have hx:j<xs.length:=by omega
   have hy:j<ys.length:=by omega
   obtain⟨b',hb',e'⟩:=k j _ _ (wA hx) (wA hy);obtain⟨z,hz,q1⟩:=qK r1 (wA hx);obtain⟨t,ht,q2⟩:=qK r2 (wA hy);obtain⟨u',hu',q3⟩:=v1.get hz;obtain⟨w',hw',q4⟩:=v2.get ht;rw[wA g1]at hu';rw[wA g2]at hw';cases hu';cases hw';rw[wI,hb'];have:=(O3 I R n (A:=A.in1) hu1 e' q1 q2 q3 q4).eq;simpa using this
  have refs:∀{a:Nat}{p:Addr}{v:V}{b:Bool},φ[a]?=some p->(if (items h a).isSome&&flat v then some false else none)=some b->b=false/\∃its,s.heap.IsList p its\/s.heap.IsTuple p its:=λ{a p v b} hp e=>by
   cases ea:h[a]? with
   |none=>rw[show items h a=none from(by unfold items;rw[ea])]at e;cases e
   |some o=>
    have hb:b=false:=by
     split at e
     ·cases e;rfl
     ·cases e
    refine⟨hb,?_⟩;cases o with
    |lst f xs=>
     obtain⟨p1,z1,q1,s1,r1⟩:=R.lst (i:=a) (xs:=xs) (by unfold qS;rw[ea]);rw[hp]at q1;cases q1;obtain⟨i1,_,t1,_⟩:=I.list s1;exact⟨_,.inl t1.isList⟩
    |tup xs=>
     obtain⟨p1,z1,q1,s1,r1⟩:=R.tup (i:=a) (xs:=xs) (by unfold qY;rw[ea]);rw[hp]at q1;cases q1;obtain⟨i1,_,t1,_⟩:=I.tuple s1;exact⟨_,.inr t1⟩
    |ob ks=>rw[show items h a=none from(by unfold items;rw[ea])]at e;cases e
  cases x with
  |ref a=>
   obtain⟨p,rfl,hp⟩:=qO rx;cases ru;cases y with
   |ref c=>
    obtain⟨q,rfl,hq⟩:=qO ry;cases rw';have same:p=q->b=true:=λz=>by
     subst z;exact B7 I R (n+1) e rx (show rv φ (.ref c) (.ref p) from hq)
    simp only[eqD]at e;split at e
    ·rename_i f1 xs f2 ys e1 e2;obtain⟨p1,z1,q1,s1,r1⟩:=R.lst (i:=a) (xs:=xs) (by unfold qS;rw[e1]);obtain⟨p2,z2,q2,s2,r2⟩:=R.lst (i:=c) (xs:=ys) (by unfold qS;rw[e2]);rw[hp]at q1;cases q1;rw[hq]at q2;cases q2;obtain⟨i1,v1,t1,_⟩:=I.list s1;obtain⟨i2,v2,t2,_⟩:=I.list s2;split at e
     ·rename_i hac;subst hac;rw[hp]at hq;cases hq;cases e;have rc:=RcAt.lists (A:=A) (e:=λ_=>true) t1.isList t1.isList rfl hu0 λj _ _=>EqAt.same _;have ne:=RcNeAt.lists (A:=A) (e:=λ_=>true) t1.isList t1.isList rfl hu0 λj _ _=>EqAt.same _;have al:∀l:List Nat,(l.all λ_=>true)=true:=λl=>by simp
      rw[al]at rc ne;exact⟨.same _,rc,ne⟩
     ·split at e
      ·obtain⟨bs,e3,rfl⟩:=Option.map_eq_some_iff.mp e;obtain⟨m1,m2,he⟩:=item r1 r2 v1 v2 e3;have hsz:i1.toArray.size=i2.toArray.size:=by simp;omega
       have rc:=RcAt.lists (A:=A) (e:=λj=>bs.getD j true) t1.isList t2.isList hsz hu0 he;have ne:=RcNeAt.lists (A:=A) (e:=λj=>bs.getD j true) t1.isList t2.isList hsz hu0 he;have sz:i1.toArray.size=bs.length:=by simpa using m1
       rw[sz,Zt]at rc ne;refine⟨?_,rc,ne⟩;by_cases hpq:p=q
       ·rw[same hpq];subst hpq;exact .same _
       ·exact .of_refs hpq rc
      ·rename_i hl;cases e;have n1:=Paired.length r1;have n2:=Paired.length r2;have n3:=v1.length;have n4:=v2.length;have hsz:(i1.toArray.size != i2.toArray.size)=true:=by simp;omega
       have rc:=RcAt.lists_lengths (A:=A) t1.isList t2.isList hsz hu0;have ne:=RcNeAt.lists_lengths (A:=A) t1.isList t2.isList hsz hu0;refine⟨?_,rc,ne⟩;by_cases hpq:p=q
       ·exact absurd (same hpq) (by decide)
       ·exact .of_refs hpq rc
    ·rename_i xs ys e1 e2;obtain⟨p1,z1,q1,s1,r1⟩:=R.tup (i:=a) (xs:=xs) (by unfold qY;rw[e1]);obtain⟨p2,z2,q2,s2,r2⟩:=R.tup (i:=c) (xs:=ys) (by unfold qY;rw[e2]);rw[hp]at q1;cases q1;rw[hq]at q2;cases q2;obtain⟨i1,v1,t1,_⟩:=I.tuple s1;obtain⟨i2,v2,t2,_⟩:=I.tuple s2;have t1':s.heap.IsTuple p i1.toArray:=t1;have t2':s.heap.IsTuple q i2.toArray:=t2;split at e
     ·rename_i hac;subst hac;rw[hp]at hq;cases hq;cases e;have rc:=RcAt.tuples (A:=A) (e:=λ_=>true) t1' t1' hu0 λj _ _=>EqAt.same _;have ne:=RcNeAt.tuples (A:=A) (e:=λ_=>true) t1' t1' hu0 λj _ _=>EqAt.same _;have al:∀l:List Nat,(l.all λ_=>true)=true:=λl=>by simp
      rw[al]at rc ne;simp only[vR,Bool.and_self]at rc ne;exact⟨.same _,rc,ne⟩
     ·split at e
      ·obtain⟨bs,e3,rfl⟩:=Option.map_eq_some_iff.mp e;obtain⟨m1,m2,he⟩:=item r1 r2 v1 v2 e3;have hsz:i1.toArray.size=i2.toArray.size:=by simp;omega
       have rc:=RcAt.tuples (A:=A) (e:=λj=>bs.getD j true) t1' t2' hu0 he;have ne:=RcNeAt.tuples (A:=A) (e:=λj=>bs.getD j true) t1' t2' hu0 he;have sz:i1.toArray.size=bs.length:=by simpa using m1
       have sz2:i2.toArray.size=bs.length:=by simpa using m2
       rw[sz,sz2,Nat.min_self,Zt,vR,Bool.and_true]at rc ne;refine⟨?_,rc,ne⟩;by_cases hpq:p=q
       ·rw[same hpq];subst hpq;exact .same _
       ·exact .of_refs hpq rc
      ·rename_i hl;have n1:=Paired.length r1;have n2:=Paired.length r2;have n3:=v1.length;have n4:=v2.length;obtain⟨bs,e3,hb⟩:=Option.map_eq_some_iff.mp e;subst hb;have hsz:(i1.toArray.size==i2.toArray.size)=false:=by simp;omega
       obtain⟨m1,m2,he⟩:=item (qg ys.length r1) (qg xs.length r2) (v1.take ys.length) (v2.take xs.length) e3;have he':∀(j:Nat) (h1:j<i1.toArray.size) (h2:j<i2.toArray.size),EqAt A.in1 s i1.toArray[j] i2.toArray[j] (bs.getD j true):=λj h1 h2=>by
        have g1:j<i1.length:=by simpa using h1
        have g2:j<i2.length:=by simpa using h2
        have:=he j (by simp;omega) (by simp;omega);simpa using this
       have rc:=RcAt.tuples (A:=A) (e:=λj=>bs.getD j true) t1' t2' hu0 he';have ne:=RcNeAt.tuples (A:=A) (e:=λj=>bs.getD j true) t1' t2' hu0 he';rw[hsz,Bool.and_false]at rc ne;refine⟨?_,rc,ne⟩;by_cases hpq:p=q
       ·exact absurd (same hpq) (by decide)
       ·exact .of_refs hpq rc
    ·rename_i f1 xs ys e1 e2;cases e;obtain⟨p1,z1,q1,s1,r1⟩:=R.lst (i:=a) (xs:=xs) (by unfold qS;rw[e1]);obtain⟨p2,z2,q2,s2,r2⟩:=R.tup (i:=c) (xs:=ys) (by unfold qY;rw[e2]);rw[hp]at q1;cases q1;rw[hq]at q2;cases q2;obtain⟨i1,_,t1,_⟩:=I.list s1;obtain⟨i2,_,t2,_⟩:=I.tuple s2;exact⟨.list_tuple t1.isList t2 hu0,.list_tuple t1.isList t2 hu0,.list_tuple t1.isList t2 hu0⟩
    ·rename_i xs f1 ys e1 e2;cases e;obtain⟨p1,z1,q1,s1,r1⟩:=R.tup (i:=a) (xs:=xs) (by unfold qY;rw[e1]);obtain⟨p2,z2,q2,s2,r2⟩:=R.lst (i:=c) (xs:=ys) (by unfold qS;rw[e2]);rw[hp]at q1;cases q1;rw[hq]at q2;cases q2;obtain⟨i1,_,t1,_⟩:=I.tuple s1;obtain⟨i2,_,t2,_⟩:=I.list s2;exact⟨.tuple_list t1 t2.isList hu0,.tuple_list t1 t2.isList hu0,.tuple_list t1 t2.isList hu0⟩
    ·cases e
   |non=>
    cases zM ry;cases rw';rcases refs hp (show (if (items h a).isSome&&flat V.non then some false else none)=some b from e) with⟨rfl,its,t|t⟩
    ·exact⟨.list_none t hu0,.list_none t hu0,.list_none t hu0⟩
    ·exact⟨.tuple_none t hu0,.tuple_none t hu0,.tuple_none t hu0⟩
   |bl j=>
    cases zO ry;cases rw';rcases refs hp (show (if (items h a).isSome&&flat (V.bl j) then some false else none)=some b from e) with⟨rfl,its,t|t⟩
    ·exact⟨.list_bool _ t hu0,.list_bool _ t hu0,.list_bool _ t hu0⟩
    ·exact⟨.tuple_bool _ t hu0,.tuple_bool _ t hu0,.tuple_bool _ t hu0⟩
   |int j=>
    cases qA ry;obtain⟨t',rfl⟩:=rw';rcases refs hp (show (if (items h a).isSome&&flat (V.int j) then some false else none)=some b from e) with⟨rfl,its,t|t⟩
    ·exact⟨.list_int _ _ t hu0,.list_int _ _ t hu0,.list_int _ _ t hu0⟩
    ·exact⟨.tuple_int _ _ t hu0,.tuple_int _ _ t hu0,.tuple_int _ _ t hu0⟩
   |str j=>
    cases ze ry;obtain⟨t',rfl⟩:=rw';rcases refs hp (show (if (items h a).isSome&&flat (V.str j) then some false else none)=some b from e) with⟨rfl,its,t|t⟩
    ·exact⟨.list_str _ _ t hu0,.list_str _ _ t hu0,.list_str _ _ t hu0⟩
    ·exact⟨.tuple_str _ _ t hu0,.tuple_str _ _ t hu0,.tuple_str _ _ t hu0⟩
   |_=>exact False.elim ry
  |non=>
   cases y with
   |ref c=>
    obtain⟨p,rfl,hp⟩:=qO ry;cases rw';cases zM rx;cases ru;rcases refs hp (show (if (items h c).isSome&&flat V.non then some false else none)=some b from(Bool.and_comm _ _) ▸ e) with⟨rfl,its,t|t⟩
    ·exact⟨.none_list t hu0,.none_list t hu0,.none_list t hu0⟩
    ·exact⟨.none_tuple t hu0,.none_tuple t hu0,.none_tuple t hu0⟩
   |_=>exact JI e rx ry ru rw'
  |bl i=>
   cases y with
   |ref c=>
    obtain⟨p,rfl,hp⟩:=qO ry;cases rw';cases zO rx;cases ru;rcases refs hp (show (if (items h c).isSome&&flat (V.bl i) then some false else none)=some b from(Bool.and_comm _ _) ▸ e) with⟨rfl,its,t|t⟩
    ·exact⟨.bool_list _ t hu0,.bool_list _ t hu0,.bool_list _ t hu0⟩
    ·exact⟨.bool_tuple _ t hu0,.bool_tuple _ t hu0,.bool_tuple _ t hu0⟩
   |_=>exact JI e rx ry ru rw'
  |int i=>
   cases y with
   |ref c=>
    obtain⟨p,rfl,hp⟩:=qO ry;cases rw';cases qA rx;obtain⟨t',rfl⟩:=ru;rcases refs hp (show (if (items h c).isSome&&flat (V.int i) then some false else none)=some b from(Bool.and_comm _ _) ▸ e) with⟨rfl,its,t|t⟩
    ·exact⟨.int_list _ _ t hu0,.int_list _ _ t hu0,.int_list _ _ t hu0⟩
    ·exact⟨.int_tuple _ _ t hu0,.int_tuple _ _ t hu0,.int_tuple _ _ t hu0⟩
   |_=>exact JI e rx ry ru rw'
  |str i=>
   cases y with
   |ref c=>
    obtain⟨p,rfl,hp⟩:=qO ry;cases rw';cases ze rx;obtain⟨t',rfl⟩:=ru;rcases refs hp (show (if (items h c).isSome&&flat (V.str i) then some false else none)=some b from(Bool.and_comm _ _) ▸ e) with⟨rfl,its,t|t⟩
    ·exact⟨.str_list _ _ t hu0,.str_list _ _ t hu0,.str_list _ _ t hu0⟩
    ·exact⟨.str_tuple _ _ t hu0,.str_tuple _ _ t hu0,.str_tuple _ _ t hu0⟩
   |_=>exact JI e rx ry ru rw'
  |_=>cases xc<;>exact False.elim rx
end
theorem Ju{φ:List Addr}:∀{x w:V},flat x=true->rv φ x w->w=x
 | .non,_,_,h=>zM h
 | .bl _,_,_,h=>zO h
 | .int _,_,_,h=>qA h
 | .str _,_,_,h=>ze h
 | .ref _,_,f,_=>by cases f
 | .byt _,_,f,_=>by cases f
 | .flt _,_,f,_=>by cases f
 | .ty _,_,f,_=>by cases f
theorem jV{φ:List Addr}:∀{xs ws:List V},xs.all flat=true->rvs φ xs ws->ws=xs
 |_,_,_,.nil=>rfl
 |x::xs,w::ws,f,.cons r t=>by
  simp only[List.all_cons,Bool.and_eq_true]at f;rw[Ju f.1 r,jV f.2 t]
theorem C7:∀x:V,L2.flatV x=flat x:=by intro x;cases x<;>rfl
theorem P9(xs:List V):xs.all L2.flatV=xs.all flat:=by
 induction xs with
 |nil=>rfl
 |cons x xs ih=>rw[List.all_cons,List.all_cons,ih,C7]
section
variable{X:Cx}{G:List Addr}{F:Nat->List V->AH->RV}
noncomputable def opC:COp->CmpOp
 | .lt=>.Lt | .le=>.LtE | .gt=>.Gt | .ge=>.GtE | .eq=>.Eq | .ne=>.NotEq | .inn=>.In | .notin=>.NotIn | .is=>.Is | .isnot=>.IsNot
variable (X G) in
noncomputable def qCR(op:COp):R2:=λx y H Q=>∃φ h xa ya b,Rl X.K G φ h H/\rv φ xa x/\rv φ ya y/\T2 op xa ya h=some b/\Q (.bl b) H
theorem D5{φ:List Addr}{x y:V}(r:rv φ x y):decide (x=V.non)=decide (y=V.non):=by
 by_cases hx:x=V.non
 ·subst hx;cases zM r;rfl
 ·have hy:y≠V.non:=λhy=>by subst hy;cases x<;>first|exact hx rfl|exact False.elim r
  rw[vM hx,vM hy]
theorem Js(kvs:List (Int×V))(i:Int):((kvs.map kk).any λkv=>decide (kv.1=Sum.inl i))=ZI kvs i:=by
 unfold ZI;rw[List.any_map];congr 1
 funext p
 show decide ((Sum.inl p.1:L2.Key)=Sum.inl i)=_;rw[wy];simp
theorem qAL(kvs:List (Int×V))(i:Int)(v:V):L2.putK (kvs.map kk) (Sum.inl i:L2.Key) v=(jx kvs i v).map kk:=by
 unfold L2.putK jx;rw[Js];split
 ·rw[wg,wg];congr 1
  funext p
  show (if (Sum.inl p.1:L2.Key)=Sum.inl i then ((Sum.inl p.1:L2.Key),v) else kk p)=kk (if p.1=i then (p.1,v) else p);by_cases h:p.1=i
  ·rw[if_pos (by rw[h]),if_pos h];rfl
  ·rw[if_neg (λz=>h (Sum.inl.inj z)),if_neg h]
 ·rw[wS];rfl
theorem ji(hu:X.A.units+8<cLine):∀op,OpR X (compareOp (opC op)) (qCR X G op):=by
 intro op pins s σ H x y v u Q I rx ry ⟨φ,h,xa,ya,b,R,r1,r2,e,q⟩;have hin:∀(neg:Bool){p:Nat}{ya':V}(e:(match items h p with|some xs=>if flat xa&&xs.all flat then some (if neg then !(xs.any λy=>L2.eqV y xa) else xs.any λy=>L2.eqV y xa) else none|none=>none)=some b),rv φ (.ref p) y->L2.rIn X.K neg x y H Q:=by
  intro neg p ya' e r2;split at e
  ·rename_i xs ex;split at e
   ·rename_i hf;simp only[Bool.and_eq_true]at hf;obtain⟨a,ys,ha,hs,rs⟩:=R.its ex;obtain⟨a',rfl,ha'⟩:=qO r2;rw[ha]at ha';cases ha';have e1:=Ju hf.1 r1;have e2:=jV hf.2 rs;subst e1 e2;refine⟨a,ys,rfl,hs,by rw[C7];exact hf.1,by rw[P9];exact hf.2,?_⟩;cases e;exact q
   ·cases e
  ·cases e
 cases op with
 |lt=>
  replace e:=QN e;obtain⟨i,j,rfl,rfl,rfl⟩:=e;cases qA r1;cases qA r2;exact L2.op_lt pins s σ H _ _ v u Q I rx ry ⟨_,_,rfl,rfl,q⟩
 |le=>
  replace e:=QN e;obtain⟨i,j,rfl,rfl,rfl⟩:=e;cases qA r1;cases qA r2;exact L2.op_le pins s σ H _ _ v u Q I rx ry ⟨_,_,rfl,rfl,q⟩
 |gt=>
  replace e:=QN e;obtain⟨i,j,rfl,rfl,rfl⟩:=e;cases qA r1;cases qA r2;exact L2.op_gt pins s σ H _ _ v u Q I rx ry ⟨_,_,rfl,rfl,q⟩
 |ge=>
  replace e:=QN e;obtain⟨i,j,rfl,rfl,rfl⟩:=e;cases qA r1;cases qA r2;exact L2.op_ge pins s σ H _ _ v u Q I rx ry ⟨_,_,rfl,rfl,q⟩
 |eq=>exact(O3 I R 4 (by omega) (show eqD h 4 xa ya=some b from e) r1 r2 rx ry).rc _ _ _ _ ⟨.bl b,H,I,rfl,q⟩
 |ne=>
  have e':(eqD h 4 xa ya).map (!·)=some b:=e;obtain⟨c,e1,rfl⟩:=Option.map_eq_some_iff.mp e';exact(O3 I R 4 (by omega) e1 r1 r2 rx ry).ne _ _ _ _ ⟨.bl (!c),H,I,rfl,q⟩
 |inn=>
  replace e:=B9 e;obtain⟨p,rfl,e⟩:=e;cases ei:items h p with
  |some xs=>exact L2.op_in_seq pins s σ H x y v u Q I rx ry (hin false (ya':=.non) (by rw[ei]at e ⊢;exact e) r2)
  |none=>
   rw[ei]at e;dsimp only at e;split at e
   ·rename_i kvs ed;split at e
    ·rename_i i;cases e;obtain⟨a,ea,_,hH⟩:=R.dct ed;obtain⟨a',rfl,ha'⟩:=qO r2;rw[ea]at ha';cases ha';cases qA r1;cases ry;refine L2.d_in (by omega) I (L2.DGet.k (k:=.inl i) hH) rx λs' I'=>⟨.bl (L2.valV (kvs.map kk) (Sum.inl i)).isSome,H,I',rfl,?_⟩
     rw[<-L2.valV_any,Js];exact q
    ·cases e
   ·cases e
 |notin=>
  replace e:=B9 e;obtain⟨p,rfl,e⟩:=e;cases ei:items h p with
  |some xs=>exact L2.op_notIn_seq pins s σ H x y v u Q I rx ry (hin true (ya':=.non) (by rw[ei]at e ⊢;exact e) r2)
  |none=>
   rw[ei]at e;dsimp only at e;split at e
   ·rename_i kvs ed;split at e
    ·rename_i i;cases e;obtain⟨a,ea,_,hH⟩:=R.dct ed;obtain⟨a',rfl,ha'⟩:=qO r2;rw[ea]at ha';cases ha';cases qA r1;cases ry;refine L2.d_notIn (by omega) I (L2.DGet.k (k:=.inl i) hH) rx λs' I'=>⟨.bl (!(L2.valV (kvs.map kk) (Sum.inl i)).isSome),H,I',rfl,?_⟩
     rw[<-L2.valV_any,Js];exact q
    ·cases e
   ·cases e
 |is=>
  rcases M6 (show isC xa ya id=some b from e) with⟨rfl,rfl⟩|⟨c,d,rfl,rfl,rfl⟩
  ·cases zM r2;rw[D5 r1]at q;exact L2.op_isN pins s σ H x _ v u Q I rx ry ⟨rfl,q⟩
  ·cases zO r1;cases zO r2;cases (show v=Value.bool c from rx);cases (show u=Value.bool d from ry);exact PySem.wpAny_is_plain rfl ⟨.bl (c==d),H,I,(by cases c<;>cases d<;>rfl),q⟩
 |isnot=>
  rcases M6 (show isC xa ya (!·)=some b from e) with⟨rfl,rfl⟩|⟨c,d,rfl,rfl,rfl⟩
  ·cases zM r2;rw[D5 r1]at q;exact L2.op_notN pins s σ H x _ v u Q I rx ry ⟨rfl,q⟩
  ·cases zO r1;cases zO r2;cases (show v=Value.bool c from rx);cases (show u=Value.bool d from ry);exact PySem.wpAny_isNot_plain rfl ⟨.bl (!(c==d)),H,I,(by cases c<;>cases d<;>rfl),q⟩
theorem ZP:∀{bs:List Bool}{us:List Value},Vals (bs.map V.bl) us->LSm.BoolsAre us bs
 | [],_,.nil=>.nil
 |b::bs,u::us,.cons r t=>by
  cases (show u=Value.bool b from r);exact .cons b (ZP t)
theorem I0{A:Around}{E:Value->Shared->Prop}{prog:Program}{w:World}{s:Shared}{l:Addr}{vs:List Value}{bs:List Bool}{Q:Value->Shared->Prop}(hh:A.handled=none)(hl:s.heap.IsList l vs.toArray)(hb:LSm.BoolsAre vs bs)
  (h:∀h' tk,(∀b x,s.heap.get? b=some x->h'.get? b=some x)->Q (.bool (bs.all id)) { s with heap:=h',toks:=tk }):wpAny (model prog w) A (call (.builtin "all") [.ref l]) Q E s:=by
 have hlt:l<s.heap.objs.size:=by obtain⟨_,e,_⟩:=hl;exact Heap.lt_size e
 refine call_all_walk (wpAny_pyIter_list hl ?_);refine⟨s.heap.objs.size,[s.heap.objs.size,l],[s.heap.objs.size],vs.toArray.size,_,_,λi=>(bs[i]?).getD true,rfl,Walks.list (A:=A.in1) hh _ l (wM hlt) vs.toArray,
  ⟨⟨_,Heap.get?_push_size _ rfl,rfl,rfl⟩,hl.push _⟩,λi v s' Q' E' hP hQ=>?_,λh' tk hk=>?_⟩
 ·obtain⟨b,e,rfl⟩:=hb.get i v (by simpa using hP);simp only[e,Option.getD_some]at hQ;exact vQ hQ
 ·have e:((List.range vs.toArray.size).all λi=>(bs[i]?).getD true)=bs.all id:=by
   rw[wD,hb.length];exact LSm.range_all bs
  rw[e];exact h h' tk (LSm.kept_iter hk)
theorem K6{A:Around}{E:Value->Shared->Prop}{prog:Program}{w:World}{s:Shared}{l:Addr}{vs:List Value}{bs:List Bool}{Q:Value->Shared->Prop}(hh:A.handled=none)(hl:s.heap.IsList l vs.toArray)(hb:LSm.BoolsAre vs bs)
  (h:∀h' tk,(∀b x,s.heap.get? b=some x->h'.get? b=some x)->Q (.bool (bs.any id)) { s with heap:=h',toks:=tk }):wpAny (model prog w) A (call (.builtin "any") [.ref l]) Q E s:=by
 have hlt:l<s.heap.objs.size:=by obtain⟨_,e,_⟩:=hl;exact Heap.lt_size e
 refine call_any_walk (wpAny_pyIter_list hl ?_);refine⟨s.heap.objs.size,[s.heap.objs.size,l],[s.heap.objs.size],vs.toArray.size,_,_,λi=>(bs[i]?).getD false,rfl,Walks.list (A:=A.in1) hh _ l (wM hlt) vs.toArray,
  ⟨⟨_,Heap.get?_push_size _ rfl,rfl,rfl⟩,hl.push _⟩,λi v s' Q' E' hP hQ=>?_,λh' tk hk=>?_⟩
 ·obtain⟨b,e,rfl⟩:=hb.get i v (by simpa using hP);simp only[e,Option.getD_some]at hQ;exact vQ hQ
 ·have e:((List.range vs.toArray.size).any λi=>(bs[i]?).getD false)=bs.any id:=by
   rw[wD,hb.length];exact LSm.range_any bs
  rw[e];exact h h' tk (LSm.kept_iter hk)
theorem A9:∀{xs:List V}{is:List Int}{us:List Value},zl xs=some is->Vals xs us->us.length=is.length/\∀i v,us[i]?=some v->NumOf (is.getD i 0) v
 | [],is,_,e,.nil=>by cases e;exact⟨rfl,λi v e=>by simp at e⟩
 |x::r,is,u::us,e,.cons a t=>by
  unfold zl at e;split at e
  ·rename_i e';cases e'
  ·rename_i e';cases e';obtain⟨js,e1,rfl⟩:=Option.map_eq_some_iff.mp e;obtain⟨l,g⟩:=A9 e1 t;refine⟨by simp[l],λi v q=>?_⟩;cases i with
   |zero=>
    cases q;obtain⟨w,rfl⟩:=a;exact .inl ⟨w,rfl⟩
   |succ i=>exact g i v q
  ·rename_i e';cases e';obtain⟨js,e1,rfl⟩:=Option.map_eq_some_iff.mp e;obtain⟨l,g⟩:=A9 e1 t;refine⟨by simp[l],λi v q=>?_⟩;cases i with
   |zero=>
    cases q;exact .inr ⟨_,a,rfl⟩
   |succ i=>exact g i v q
  ·cases e
theorem Ql:∀{xs:List V}{is:List Int},zl xs=some is->xs.all flat=true
 | [],_,_=>rfl
 |x::r,is,e=>by
  unfold zl at e;split at e
  ·rename_i e';cases e'
  ·rename_i e';cases e';obtain⟨js,e1,rfl⟩:=Option.map_eq_some_iff.mp e;rw[List.all_cons,Ql e1];rfl
  ·rename_i e';cases e';obtain⟨js,e1,rfl⟩:=Option.map_eq_some_iff.mp e;rw[List.all_cons,Ql e1];rfl
  ·cases e
theorem K9{A:Around}{E:Value->Shared->Prop}{prog:Program}{w:World}{s:Shared}{l:Addr}{vs:List Value}{xs:List V}{is:List Int}{Q:Value->Shared->Prop}(hh:A.handled=none)(hl:s.heap.IsList l vs.toArray)(ei:zl xs=some is)(hb:Vals xs vs)
  (h:∀h' tk t',(∀b x,s.heap.get? b=some x->h'.get? b=some x)->Q (.int is.sum t') { s with heap:=h',toks:=tk }):wpAny (model prog w) A (call (.builtin "sum") [.ref l]) Q E s:=by
 have hlt:l<s.heap.objs.size:=by obtain⟨_,e,_⟩:=hl;exact Heap.lt_size e
 obtain⟨hlen,hn⟩:=A9 ei hb;refine call_sum_walkAnyB (wpAny_pyIter_list hl ?_);refine⟨s.heap.objs.size,_,_,_,_,_,_,λi=>is.getD i 0,rfl,(Walks.list (prog:=prog) (w:=w) (A:=A.in1) hh s.heap.objs.size l (wM hlt) vs.toArray).toS,
  ⟨⟨_,Heap.get?_push_size _ rfl,rfl,rfl⟩,hl.push _⟩,λb hb=>?_,λi v hP=>hn i v (by simpa using hP),λs' t' hm=>?_⟩
 ·rcases List.mem_cons.mp hb with rfl|hb
  ·exact Heap.lt_size (Heap.get?_push_size _ rfl)
  ·obtain rfl:=wJ.mp hb;obtain⟨_,e,_⟩:=hl;exact Heap.lt_size (Heap.get?_push_of_some _ e)
 ·obtain⟨h',g',d',tk',os'⟩:=s';have e1:g'=s.gens:=hm.gens;have e2:d'=s.drawn:=hm.drawn;have e3:os'=s.os:=hm.os;subst e1 e2 e3;have e:=preSum_getD is vs.toArray.size;rw[wD,hlen,vA (Nat.le_refl _),<-hlen,<-wD]at e;rw[e];exact h h' tk' t' λb o e=>hm.heap b o (λhb=>absurd (Heap.lt_size e) ((wJ.mp hb) ▸ Nat.lt_irrefl _)) (Heap.get?_push_of_some _ e)
theorem Qu:∀{xs:List V}{is:List Int},jC xs=some is->xs=is.map V.int
 | [],is,e=>by cases e;rfl
 | .int i::r,is,e=>by
  simp only[jC]at e;obtain⟨js,e1,rfl⟩:=Option.map_eq_some_iff.mp e;rw[Qu e1];rfl
 | .non::_,_,e=>by cases e
 | .bl _::_,_,e=>by cases e
 | .str _::_,_,e=>by cases e
 | .ref _::_,_,e=>by cases e
 | .byt _::_,_,e=>by cases e
 | .flt _::_,_,e=>by cases e
 | .ty _::_,_,e=>by cases e
theorem jH:∀{xs:List V}{is:List Bool},jM xs=some is->xs=is.map V.bl
 | [],is,e=>by cases e;rfl
 | .bl i::r,is,e=>by
  simp only[jM]at e;obtain⟨js,e1,rfl⟩:=Option.map_eq_some_iff.mp e;rw[jH e1];rfl
 | .non::_,_,e=>by cases e
 | .int _::_,_,e=>by cases e
 | .str _::_,_,e=>by cases e
 | .ref _::_,_,e=>by cases e
 | .byt _::_,_,e=>by cases e
 | .flt _::_,_,e=>by cases e
 | .ty _::_,_,e=>by cases e
theorem ja:∀{us:List Value}{ns:List Int},IntsAre us ns->Vals (ns.map V.int) us
 |_,_,.nil=>.nil
 |_,_,.cons n t r=>.cons ⟨_,rfl⟩ (ja r)
theorem R7(is:List Int):(is.map V.int).all flat=true:=by simp[flat]
theorem Qy(is:List Bool):(is.map V.bl).all flat=true:=by simp[flat]
noncomputable def fnB:BF->Value
 | .len=>.builtin "len" | .sum=>.builtin "sum" | .all=>.builtin "all" | .any=>.builtin "any" | .max=>.builtin "max" | .min=>.builtin "min"
 | .list=>.type "list" | .int=>.type "int" | .bits=>.builtin "int.bit_length"
variable (X G) in
def qCr(f:BF):List V->Hp->VK->Prop:=λxs H Q=>∃φ h ws v h',Rl X.K G φ h H/\rvs φ ws xs/\qCX f ws h=.ok (v,h')/\∀φ' H' w,Ext φ φ'->Rl X.K G φ' h' H'->rv φ' v w->Q w H'
def DR(P:Program)(W:World)(h:Heap)(n:Nat)(u:Value)(d:PyData):Prop:=(∃as,Reads h u d as)/\d.depth<=n/\(d.showable=true->d.shown.length<=sizeLine->∃bs,ReadAtMost h d.depth bs/\ReprK P W bs h d.depth u d.shown)
def DRs(P:Program)(W:World)(h:Heap)(n:Nat)(us:List Value)(ds:List PyData):Prop:=(∃as,ReadsAll h us ds as)/\PyData.depthAll ds<=n/\(PyData.showableAll ds=true->(∀t∈PyData.shownAll ds,t.length<=sizeLine)->∃bs,ReadAtMost h (PyData.depthAll ds) bs/\ReprAllK P W bs h (PyData.depthAll ds) us (PyData.shownAll ds))
theorem DR.flat{P:Program}{W:World}{hp:Heap}{n:Nat}{u:Value}{d:PyData}(q:(∃as,Reads hp u d as)/\d.hasDict=false/\d.depth<=0):DR P W hp n u d:=by
 obtain⟨⟨as,q1⟩,q2,q3⟩:=q;exact⟨⟨as,q1⟩,by omega,λhs hz=>ReprK.of_reads q1 hs (λz=>by rw[q2]at z;cases z) hz⟩
theorem DRs.list{P:Program}{W:World}{hp:Heap}{n m:Nat}{p:Addr}{o:Obj}{its:List Value}{ds:List PyData}(q:DRs P W hp n its ds)(ho:hp.get? p=some o)(hc:o.cls=.type "list")(hd:o.data=.seq its.toArray m)(hs:PyData.showableAll ds=true)(hz:(listText (PyData.shownAll ds)).length<=sizeLine):
  ∃bs,ReadAtMost hp (PyData.depthAll ds) bs/\ReprAllK P W bs hp (PyData.depthAll ds) its (PyData.shownAll ds)/\p∉bs:=by
 obtain⟨⟨as,q1⟩,q2,q3⟩:=q;obtain⟨bs,hb,hk⟩:=q3 hs (λt ht=>Nat.le_trans (listText_mem_le ht) hz);exact⟨bs,hb,hk,not_mem_of_deeper (Reads.list ho hc hd (by simpa using q1)) (by simp only[PyData.depth];omega) hb⟩
theorem DRs.tuple{P:Program}{W:World}{hp:Heap}{n m:Nat}{p:Addr}{o:Obj}{its:List Value}{ds:List PyData}(q:DRs P W hp n its ds)(ho:hp.get? p=some o)(hc:o.cls=.type "tuple")(hd:o.data=.seq its.toArray m)(hs:PyData.showableAll ds=true)(hz:(tupleText (PyData.shownAll ds)).length<=sizeLine):
  ∃bs,ReadAtMost hp (PyData.depthAll ds) bs/\ReprAllK P W bs hp (PyData.depthAll ds) its (PyData.shownAll ds)/\p∉bs:=by
 obtain⟨⟨as,q1⟩,q2,q3⟩:=q;obtain⟨bs,hb,hk⟩:=q3 hs (λt ht=>Nat.le_trans (tupleText_mem_le ht) hz);exact⟨bs,hb,hk,not_mem_of_deeper (Reads.tuple ho hc hd (by simpa using q1)) (by simp only[PyData.depth];omega) hb⟩
theorem Jf(hc:X.calm=true)(hu:X.A.units+8<cLine)(hgd:X.A.guards=some []):∀f,zE X (fnB f) (qCr X G f):=by
 intro f pins s σ H xs us Q I r ⟨φ,h,ws,v,h',R,rw',e,k⟩;cases f with
 |len=>
  replace e:=jQ e;obtain⟨x0,rfl,e⟩:=e;replace e:=zv e;obtain⟨a,rfl,e⟩:=e;split at e
  ·rename_i ys ey;cases e;cases rw' with
   |cons r1 t=>
    cases t;obtain⟨p,rfl,hp⟩:=qO r1;obtain⟨p',zs,hp',hs,rs⟩:=R.its ey;rw[hp]at hp';cases hp';refine L2.call_len_seq pins s σ H _ us Q I r ⟨p,zs,rfl,hs,?_⟩;rw[<-Paired.length rs];exact k φ H _ (.refl _) R rfl
  ·cases e
 |sum=>
  replace e:=jQ e;obtain⟨x0,rfl,e⟩:=e;replace e:=zv e;obtain⟨a,rfl,e⟩:=e;split at e
  ·rename_i ys ey;split at e
   ·rename_i is ei;cases e;cases rw' with
    |cons r1 t=>
     cases t;obtain⟨p,rfl,hp⟩:=qO r1;obtain⟨p',zs,hp',hs,rs⟩:=R.lst ey;rw[hp]at hp';cases hp';have hz:=jV (Ql ei) rs;subst hz;obtain⟨its,rv',pl,_⟩:=I.list hs;obtain⟨u,rfl,ru⟩:=L2.vals1 r;cases ru;exact K9 (I.ok.hd hc) pl.isList ei rv' λh1 tk t' hk=>⟨.int is.sum,H,I.kept hk,⟨_,rfl⟩,k φ H _ (.refl _) R rfl⟩
   ·cases e
  ·cases e
 |all=>
  replace e:=jQ e;obtain⟨x0,rfl,e⟩:=e;replace e:=zv e;obtain⟨a,rfl,e⟩:=e;split at e
  ·rename_i ys ey;split at e
   ·rename_i is ei;cases e;cases rw' with
    |cons r1 t=>
     cases t;obtain⟨p,rfl,hp⟩:=qO r1;obtain⟨p',zs,hp',hs,rs⟩:=R.lst ey;rw[hp]at hp';cases hp';have hm:=jH ei;subst hm;have hz:=jV (Qy is) rs;subst hz;obtain⟨its,rv',pl,_⟩:=I.list hs;obtain⟨u,rfl,ru⟩:=L2.vals1 r;cases ru;exact I0 (I.ok.hd hc) pl.isList (ZP rv') λh1 tk hk=>⟨.bl (is.all id),H,I.kept hk,rfl,k φ H _ (.refl _) R rfl⟩
   ·cases e
  ·cases e
 |any=>
  replace e:=jQ e;obtain⟨x0,rfl,e⟩:=e;replace e:=zv e;obtain⟨a,rfl,e⟩:=e;split at e
  ·rename_i ys ey;split at e
   ·rename_i is ei;cases e;cases rw' with
    |cons r1 t=>
     cases t;obtain⟨p,rfl,hp⟩:=qO r1;obtain⟨p',zs,hp',hs,rs⟩:=R.lst ey;rw[hp]at hp';cases hp';have hm:=jH ei;subst hm;have hz:=jV (Qy is) rs;subst hz;obtain⟨its,rv',pl,_⟩:=I.list hs;obtain⟨u,rfl,ru⟩:=L2.vals1 r;cases ru;exact K6 (I.ok.hd hc) pl.isList (ZP rv') λh1 tk hk=>⟨.bl (is.any id),H,I.kept hk,rfl,k φ H _ (.refl _) R rfl⟩
   ·cases e
  ·cases e
 |max=>
  replace e:=two_inv e;obtain⟨x0,y0,rfl,e⟩:=e;replace e:=qx e;obtain⟨i,j,rfl,rfl,e⟩:=e;cases e;cases rw' with
  |cons r1 t=>
   cases t with
   |cons r2 t=>
    cases t;cases qA r1;cases qA r2;exact L2.call_max2 hc pins s σ H _ us Q I r ⟨_,_,rfl,k φ H _ (.refl _) R rfl⟩
 |min=>
  replace e:=two_inv e;obtain⟨x0,y0,rfl,e⟩:=e;replace e:=qx e;obtain⟨i,j,rfl,rfl,e⟩:=e;cases e;cases rw' with
  |cons r1 t=>
   cases t with
   |cons r2 t=>
    cases t;cases qA r1;cases qA r2;exact L2.call_min2 hc pins s σ H _ us Q I r ⟨_,_,rfl,k φ H _ (.refl _) R rfl⟩
 |bits=>
  replace e:=jQ e;obtain⟨x0,rfl,e⟩:=e;split at e
  ·cases e;cases rw' with
   |cons r1 t=>
    cases t;cases qA r1;obtain⟨u,rfl,ru⟩:=L2.vals1 r;obtain⟨t,rfl⟩:=ru;rename_i j;exact call_int_bit_length ⟨.int ((Builtin.Int.intBits j:Nat):Int),H,I.tok _,⟨_,rfl⟩,k φ H _ (.refl _) R rfl⟩
  ·cases e
 |list=>
  replace e:=jQ e;obtain⟨x0,rfl,e⟩:=e;replace e:=zv e;obtain⟨a,rfl,e⟩:=e;split at e
  ·rename_i ys ey;cases e;cases rw' with
   |cons r1 t=>
    cases t;obtain⟨p,rfl,hp⟩:=qO r1;obtain⟨p',zs,hp',hs,rs⟩:=R.its ey;rw[hp]at hp';cases hp';exact L2.call_list_of pins s σ H _ us Q I r ⟨p,zs,rfl,hs,λl hl=>k (φ++[l]) _ _ ⟨[l],rfl⟩ (R.newL hl rs) R.lastRef⟩
  ·cases e
 |int=>
  replace e:=jQ e;obtain⟨x0,rfl,e⟩:=e;split at e
  ·cases e;cases rw' with
   |cons r1 t=>
    cases t;cases qA r1;exact L2.call_int1 pins s σ H _ us Q I r (.inl ⟨_,rfl,k φ H _ (.refl _) R rfl⟩)
  ·cases e;cases rw' with
   |cons r1 t=>
    cases t;cases zO r1;exact L2.call_int1 pins s σ H _ us Q I r (.inr ⟨_,rfl,k φ H _ (.refl _) R rfl⟩)
  ·cases e
end
open L2 (PW)
theorem zn{r:RV}{b:Bool}{h:AH}(e:asB r=.ok (b,h)):r=.ok (.bl b,h):=by
 unfold asB at e;obtain⟨⟨v,h1⟩,e1,e2⟩:=Res.bind_inv e;dsimp only at e2;split at e2
 ·cases e2;exact e1
 ·cases e2
theorem E7{r:RV}{b:Bool}{h:AH}(e:r=.ok (.bl b,h)):asB r=.ok (b,h):=by
 subst e;rfl
section
variable{X:Cx}{G:List Addr}{F:Nat->List V->AH->RV}{a b c:E}{as:Es}{ea eb ec:Expr}{es:List Expr}{pos:Pos}
theorem Zr{K:PySem.W.Frag}{σ:St}{H:Hp}{Q:Bool->Hp->Prop}(q:tT K G F a σ H Q):tE K G F a σ H (λx H'=>∃k,x=.bl k/\Q k H'):=by
 obtain⟨φ,h,σa,b,h',R,rs,e,k⟩:=q;exact⟨φ,h,σa,.bl b,h',R,rs,zn e,λφ' H' w x' R' r'=>⟨b,zO r',k φ' H' x' R'⟩⟩
theorem qQ(h:SE X G F ea a)(he:∀Zh,isTrue ea X.env Zh=(do let v <- Zh;standAt ea.pos;holding [v] (truthy v))):ST X G F ea a:=
 c6 (L2.pt_val h he) λ_ _ _ q=>Zr q
theorem l9{op:COp}{σc:St}{H:Hp}{Q:VK}(q:tE X.K G F (.cmp op a b) σc H Q):L2.tOp (qCR X G op) (tE X.K G F a) (tE X.K G F b) σc H Q:=by
 obtain⟨φ,h,σ,v,h',R,rs,e,k⟩:=q;unfold ev at e;obtain⟨⟨x,h1⟩,e1,e⟩:=Res.bind_inv e;obtain⟨⟨y,h2⟩,e2,e⟩:=Res.bind_inv e;refine jh R rs e1 e2 λφ2 H2 xc yc x2 R2 r1 r2=>?_;unfold j0 at e;dsimp only at e;split at e
 ·rename_i t et;cases e;exact⟨φ2,_,x,y,t,R2,r1,r2,et,k φ2 H2 _ x2 R2 rfl⟩
 ·cases e
theorem qAo{op:COp}(hu:X.A.units+8<cLine)(ha:SE X G F ea a)(hb:SE X G F eb b)(hm:behindInMarks (opC op) eb=false):SE X G F (.Compare ea [opC op] [eb] pos) (.cmp op a b):=
 qi (L2.pe_cmpR (ji hu op) ha hb hm) λ_ _ _=>l9
theorem qBL{op:COp}(hu:X.A.units+8<cLine)(ha:SE X G F ea a)(hb:SE X G F eb b)(hm:behindInMarks (opC op) eb=false):ST X G F (.Compare ea [opC op] [eb] pos) (.cmp op a b):=
 c6 (L2.pt_cmpR (ji hu op) ha hb hm) λ_ _ _ q=>l9 (Zr q)
theorem D4{o1 o2:COp}{σc:St}{H:Hp}{Q:VK}(q:tE X.K G F (.cmp2 o1 o2 a b c) σc H Q):L2.tChain (qCR X G o1) (qCR X G o2) (tE X.K G F a) (tE X.K G F b) (tE X.K G F c) σc H Q:=by
 obtain⟨φ,h,σ,v,h',R,rs,e,k⟩:=q;unfold ev at e;obtain⟨⟨x,h1⟩,e1,e⟩:=Res.bind_inv e;obtain⟨⟨y,h2⟩,e2,e⟩:=Res.bind_inv e;refine jh R rs e1 e2 λφ2 H2 xc yc x2 R2 r1 r2=>?_;dsimp only at e;split at e
 ·rename_i et;refine⟨φ2,_,x,y,true,R2,r1,r2,et,true,rfl,?_⟩;rw[if_pos rfl];obtain⟨⟨z,h3⟩,e3,e⟩:=Res.bind_inv e;refine⟨φ2,_,σ,z,h3,R2,rst.mono x2 rs,e3,λφ3 H3 zc x3 R3 r3=>?_⟩;unfold j0 at e;dsimp only at e;split at e
  ·rename_i t et;cases e;exact⟨φ3,_,y,z,t,R3,rv.mono x3 r2,r3,et,k φ3 H3 _ (x2.trans x3) R3 rfl⟩
  ·cases e
 ·rename_i et;cases e;refine⟨φ2,_,x,y,false,R2,r1,r2,et,false,rfl,?_⟩;rw[if_neg (by decide)];exact k φ2 H2 _ x2 R2 rfl
 ·cases e
theorem Y0{o1 o2:COp}(hu:X.A.units+8<cLine)(ha:SE X G F ea a)(hb:SE X G F eb b)(hc:SE X G F ec c)(hm:lastMarks [opC o1,opC o2] [eb,ec]=false):SE X G F (.Compare ea [opC o1,opC o2] [eb,ec] pos) (.cmp2 o1 o2 a b c):=
 qi (L2.pe_chain (ji hu o1) (ji hu o2) ha hb hc hm) λ_ _ _=>D4
theorem d9{o1 o2:COp}(hu:X.A.units+8<cLine)(ha:SE X G F ea a)(hb:SE X G F eb b)(hc:SE X G F ec c)(hm:lastMarks [opC o1,opC o2] [eb,ec]=false):ST X G F (.Compare ea [opC o1,opC o2] [eb,ec] pos) (.cmp2 o1 o2 a b c):=
 c6 (L2.pt_chain (ji hu o1) (ji hu o2) ha hb hc hm) λ_ _ _ q=>D4 (Zr q)
theorem u8{σc:St}{H:Hp}{Q:VK}(q:tE X.K G F (.and a b) σc H Q):L2.tAndV (tE X.K G F a) (tE X.K G F b) σc H Q:=by
 obtain⟨φ,h,σ,v,h',R,rs,e,k⟩:=q;unfold ev at e;obtain⟨⟨x,h1⟩,e1,e⟩:=Res.bind_inv e;refine⟨φ,h,σ,.bl x,h1,R,rs,zn e1,λφ1 H1 w x1 R1 r1=>⟨x,zO r1,?_⟩⟩;dsimp only at e;cases x with
 |true=>
  rw[if_pos rfl]at e ⊢;exact⟨φ1,h1,σ,v,h',R1,rst.mono x1 rs,e,λφ2 H2 w2 x2 R2 r2=>k φ2 H2 w2 (x1.trans x2) R2 r2⟩
 |false=>
  rw[if_neg (by decide)]at e ⊢;cases e;exact k φ1 H1 _ x1 R1 rfl
theorem qB9{σc:St}{H:Hp}{Q:VK}(q:tE X.K G F (.or a b) σc H Q):L2.tOrV (tE X.K G F a) (tE X.K G F b) σc H Q:=by
 obtain⟨φ,h,σ,v,h',R,rs,e,k⟩:=q;unfold ev at e;obtain⟨⟨x,h1⟩,e1,e⟩:=Res.bind_inv e;refine⟨φ,h,σ,.bl x,h1,R,rs,zn e1,λφ1 H1 w x1 R1 r1=>⟨x,zO r1,?_⟩⟩;dsimp only at e;cases x with
 |false=>
  rw[if_neg (by decide)]at e ⊢;exact⟨φ1,h1,σ,v,h',R1,rst.mono x1 rs,e,λφ2 H2 w2 x2 R2 r2=>k φ2 H2 w2 (x1.trans x2) R2 r2⟩
 |true=>
  rw[if_pos rfl]at e ⊢;cases e;exact k φ1 H1 _ x1 R1 rfl
theorem qBy{σc:St}{H:Hp}{Q:Bool->Hp->Prop}(q:tT X.K G F (.and a b) σc H Q):L2.tAnd (tT X.K G F a) (tT X.K G F b) σc H Q:=by
 obtain⟨φ,h,σ,t,h',R,rs,e,k⟩:=q;have e:=zn e;unfold ev at e;obtain⟨⟨x,h1⟩,e1,e⟩:=Res.bind_inv e;refine⟨φ,h,σ,x,h1,R,rs,e1,λφ1 H1 x1 R1=>?_⟩;dsimp only at e;cases x with
 |true=>
  rw[if_pos rfl]at e ⊢;exact⟨φ1,h1,σ,t,h',R1,rst.mono x1 rs,E7 e,λφ2 H2 x2 R2=>k φ2 H2 (x1.trans x2) R2⟩
 |false=>
  rw[if_neg (by decide)]at e ⊢;cases e;exact k φ1 H1 x1 R1
theorem qC9{σc:St}{H:Hp}{Q:Bool->Hp->Prop}(q:tT X.K G F (.or a b) σc H Q):L2.tOr (tT X.K G F a) (tT X.K G F b) σc H Q:=by
 obtain⟨φ,h,σ,t,h',R,rs,e,k⟩:=q;have e:=zn e;unfold ev at e;obtain⟨⟨x,h1⟩,e1,e⟩:=Res.bind_inv e;refine⟨φ,h,σ,x,h1,R,rs,e1,λφ1 H1 x1 R1=>?_⟩;dsimp only at e;cases x with
 |false=>
  rw[if_neg (by decide)]at e ⊢;exact⟨φ1,h1,σ,t,h',R1,rst.mono x1 rs,E7 e,λφ2 H2 x2 R2=>k φ2 H2 (x1.trans x2) R2⟩
 |true=>
  rw[if_pos rfl]at e ⊢;cases e;exact k φ1 H1 x1 R1
variable (X G F) in
abbrev SW(e:Expr)(a:E):Prop:=PW X e (tT X.K G F a)
theorem qBw{e:Expr}{t t':TT}(h:PW X e t)(w:∀σ H Q,t' σ H Q->t σ H Q):PW X e t':=λwh pins s σ H Q I q=>h wh pins s σ H Q I (w σ H Q q)
theorem qAj{QD:List Expr}(ha:SE X G F ea a)(hb:SE X G F (.BoolOp .And (eb::QD) pos) b):SE X G F (.BoolOp .And (ea::eb::QD) pos) (.and a b):=qi (L2.pe_and ha hb) λ_ _ _=>u8
theorem qC5{QD:List Expr}(ha:SE X G F ea a)(hb:SE X G F (.BoolOp .Or (eb::QD) pos) b):SE X G F (.BoolOp .Or (ea::eb::QD) pos) (.or a b):=qi (L2.pe_or ha hb) λ_ _ _=>qB9
theorem qBa{QD:List Expr}(ha:ST X G F ea a)(hb:SW X G F (.BoolOp .And (eb::QD) pos) b):SW X G F (.BoolOp .And (ea::eb::QD) pos) (.and a b):=qBw (L2.pw_and ha hb) λ_ _ _=>qBy
theorem qCf{QD:List Expr}(ha:ST X G F ea a)(hb:SW X G F (.BoolOp .Or (eb::QD) pos) b):SW X G F (.BoolOp .Or (ea::eb::QD) pos) (.or a b):=qBw (L2.pw_or ha hb) λ_ _ _=>qC9
theorem qBG(ha:SE X G F ea a):SE X G F (.UnaryOp .Not ea pos) (.not a):=by
 refine qi (L2.pe_not ha) λσc H Q q=>?_;obtain⟨φ,h,σ,v,h',R,rs,e,k⟩:=q;unfold ev at e;obtain⟨⟨x,h1⟩,e1,e⟩:=Res.bind_inv e;cases e;exact⟨φ,h,σ,.bl x,_,R,rs,zn e1,λφ1 H1 w x1 R1 r1=>⟨x,zO r1,k φ1 H1 _ x1 R1 rfl⟩⟩
theorem qA7(ha:ST X G F ea a):ST X G F (.UnaryOp .Not ea pos) (.not a):=by
 refine c6 (L2.pt_not ha) λσc H Q q=>?_;obtain⟨φ,h,σ,t,h',R,rs,e,k⟩:=q;have e:=zn e;unfold ev at e;obtain⟨⟨x,h1⟩,e1,e⟩:=Res.bind_inv e;cases e;exact⟨φ,h,σ,x,_,R,rs,e1,λφ1 H1 x1 R1=>k φ1 H1 x1 R1⟩
theorem qAl(hc:ST X G F ec c)(ha:SE X G F ea a)(hb:SE X G F eb b):SE X G F (.IfExp ec ea eb pos) (.ite c a b):=by
 refine qi (L2.pe_ifExp hc ha hb) λσc H Q q=>?_;obtain⟨φ,h,σ,v,h',R,rs,e,k⟩:=q;unfold ev at e;obtain⟨⟨x,h1⟩,e1,e⟩:=Res.bind_inv e;refine⟨φ,h,σ,x,h1,R,rs,e1,λφ1 H1 x1 R1=>?_⟩;dsimp only at e;cases x with
 |true=>
  rw[if_pos rfl]at e ⊢;exact⟨φ1,h1,σ,v,h',R1,rst.mono x1 rs,e,λφ2 H2 w2 x2 R2 r2=>k φ2 H2 w2 (x1.trans x2) R2 r2⟩
 |false=>
  rw[if_neg (by decide)]at e ⊢;exact⟨φ1,h1,σ,v,h',R1,rst.mono x1 rs,e,λφ2 H2 w2 x2 R2 r2=>k φ2 H2 w2 (x1.trans x2) R2 r2⟩
theorem qCH(hc:ST X G F ec c)(ha:ST X G F ea a)(hb:ST X G F eb b):ST X G F (.IfExp ec ea eb pos) (.ite c a b):=by
 intro pins s σc H Q I q;obtain⟨φ,h,σ,t,h',R,rs,e,k⟩:=q;have e:=zn e;unfold ev at e;obtain⟨⟨x,h1⟩,e1,e⟩:=Res.bind_inv e;refine isTrue_IfExp (L2.thn (hc pins s σc H (λz H1=>(z=true->tT X.K G F a σc H1 Q)/\(z=false->tT X.K G F b σc H1 Q)) I ⟨φ,h,σ,x,h1,R,rs,e1,λφ1 H1 x1 R1=>?_⟩) λz s1 ⟨H1,I1,q1,q2⟩=>?_)
 ·dsimp only at e;cases x with
  |true=>
   rw[if_pos rfl]at e;exact⟨λ_=>⟨φ1,h1,σ,t,h',R1,rst.mono x1 rs,E7 e,λφ2 H2 x2 R2=>k φ2 H2 (x1.trans x2) R2⟩,λz=>nomatch z⟩
  |false=>
   rw[if_neg (by decide)]at e;exact⟨(λz=>nomatch z),λ_=>⟨φ1,h1,σ,t,h',R1,rst.mono x1 rs,E7 e,λφ2 H2 x2 R2=>k φ2 H2 (x1.trans x2) R2⟩⟩
 ·cases z with
  |true=>exact ha pins s1 σc H1 Q I1 (q1 rfl)
  |false=>exact hb pins s1 σc H1 Q I1 (q2 rfl)
noncomputable def qU:Expr->Bool
 | .Starred ..=>false
 |_=>true
theorem qD{e:Expr}{env:Env}(h:qU e=true):starEach (e::es) env=(false,eval e env)::starEach es env:=by
 cases e<;>first|rfl|cases h
theorem zt{env:Env}:∀{es:List Expr},es.all qU=true->(backTo pos (starEach es env)).any (·.1)=false
 | [],_=>rfl
 |e::es,h=>by
  simp only[List.all_cons,Bool.and_eq_true]at h;rw[qD h.1];show (false||(backTo pos (starEach es env)).any (·.1))=false;rw[zt h.2];rfl
theorem M8:SA X G F [] .nil:=by
 refine qBr L2.pa_nil λσc H Q q=>?_;obtain⟨φ,h,σ,v,h',R,rs,e,k⟩:=q;unfold evs at e;cases e;exact k φ H [] (.refl _) R .nil
theorem ZR(hn:qU ea=true)(ha:SE X G F ea a)(hr:SA X G F es as):SA X G F (ea::es) (.cons a as):=by
 refine qBr (L2.pa_cons ha hr (qD hn)) λσc H Q q=>?_;obtain⟨φ,h,σ,v,h',R,rs,e,k⟩:=q;unfold evs at e;obtain⟨⟨x,h1⟩,e1,e⟩:=Res.bind_inv e;obtain⟨⟨xs,h2⟩,e2,e⟩:=Res.bind_inv e;cases e;exact⟨φ,h,σ,x,h1,R,rs,e1,λφ1 H1 w x1 R1 r1=>⟨φ1,h1,σ,xs,_,R1,rst.mono x1 rs,e2,λφ2 H2 ws x2 R2 r2=>k φ2 H2 _ (x1.trans x2) R2 (.cons (rv.mono x2 r1) r2)⟩⟩
theorem qB8(h:SA X G F es as):SE X G F (.List es pos) (.lst as):=by
 refine qi (L2.pe_lst h) λσc H Q q=>?_;obtain⟨φ,h,σ,v,h',R,rs,e,k⟩:=q;unfold ev at e;obtain⟨⟨xs,h1⟩,e1,e⟩:=Res.bind_inv e;refine⟨φ,h,σ,xs,h1,R,rs,e1,λφ1 H1 ws x1 R1 r1=>?_⟩;dsimp only at e;split at e
 ·rename_i hl;cases e;refine⟨by rw[<-Paired.length r1];exact Nat.le_trans hl QA,λp hp=>k (φ1++[p]) _ _ (x1.trans ⟨[p],rfl⟩) (R1.newL hp r1) R1.lastRef⟩
 ·cases e
theorem N4:SE X G F (.Dict [] [] pos) .dnew:=by
 intro pins s σc H Q I q;obtain⟨φ,h,σ,v,h',R,rs,e,k⟩:=q;unfold ev at e;cases e;have hbig:sysModules<s.heap.objs.size:=wa (by decide) (I.mod.glob.keeps I.bk).lt;have hn:=I.hok.fresh (Nat.le_refl s.heap.objs.size);exact wpAny_Dict_empty ⟨.ref s.heap.objs.size,_,I.laid (a:=s.heap.objs.size) (o:=.dK []) (t':=s.toks) (λ_ _ q=>Heap.get?_push_of_some _ q) (Nat.le_refl _)
  ⟨Nat.zero_le _,beq_eq_false_iff_ne.mpr (Ne.symm (wM hbig)),[],.nil,Heap.DictOf.new s.heap⟩,rfl,
  k (φ++[s.heap.objs.size]) _ _ ⟨[s.heap.objs.size],rfl⟩ (R.new hn (o:=.ob (.dct [])) qH) R.lastRef⟩
theorem m7 {x1}(h:SA X G F es as):SE X G F (.Tuple es x1 pos) (.tup as):=by
 refine qi (L2.pe_tup h) λσc H Q q=>?_;obtain⟨φ,h,σ,v,h',R,rs,e,k⟩:=q;unfold ev at e;obtain⟨⟨xs,h1⟩,e1,e⟩:=Res.bind_inv e;refine⟨φ,h,σ,xs,h1,R,rs,e1,λφ1 H1 ws x1 R1 r1=>?_⟩;dsimp only at e;split at e
 ·rename_i hl;cases e;refine⟨by rw[<-Paired.length r1];exact Nat.le_trans hl QA,λp hp=>k (φ1++[p]) _ _ (x1.trans ⟨[p],rfl⟩) (R1.newT hp r1) R1.lastRef⟩
 ·cases e
variable (G F) in
noncomputable def spF(K:PySem.W.Frag)(f:Nat):L2.Sp:=λvs H Q _=>∃φ h ws v h',Rl K G φ h H/\rvs φ ws vs/\F f ws h=.ok (v,h')/\∀φ' H' w,Ext φ φ'->Rl K G φ' h' H'->rv φ' v w->Q w H'
variable (X G F) in
structure FnS(f:Nat)(x:Str):Prop where
 ex:∃k fa fd ps,L2.FnOk X.prog X.w X.K X.mg X.base L2.CX0 k fa fd ps (spF G F X.K f)/\L2.Room k X.A/\X.mg x=some (.ref fa)/\PySem.W.keepIn X.K (.ref fa)=true/\L2.Binds X.K fd ps []
theorem P5{f:Nat}{σc:St}{H:Hp}{Q:VK}(q:tE X.K G F (.call f as) σc H Q):L2.tCall (spF G F X.K f) [] L2.E0 (tL X.K G F as) σc H Q:=by
 obtain⟨φ,h,σ,v,h',R,rs,e,k⟩:=q;unfold ev at e;obtain⟨⟨xs,h1⟩,e1,e⟩:=Res.bind_inv e;refine⟨φ,h,σ,xs,h1,R,rs,e1,λφ1 H1 ws x1 R1 r1=>?_⟩;have e:F f xs h1=.ok (v,h'):=by
  have e:(F f xs h1).nx=.ok (v,h'):=e;revert e;generalize F f xs h1=r;cases r<;>intro e<;>first|exact e|cases e
 refine⟨φ1,h1,xs,v,h',R1,by rw[List.append_nil];exact r1,e,λφ2 H2 w x2 R2 r2=>k φ2 H2 w (x1.trans x2) R2 r2⟩
theorem p8{f:Nat}{x:Str}{p:Pos}(hf:FnS X G F f x)(hg:L2.Gl X x)(hd:(x==("__debug__":Str))=false)(hn:qU ea=true)(hs:es.all qU=true)(ha:SA X G F (ea::es) as):SE X G F (.Call (.Name x p) (ea::es) [] pos) (.call f as):=by
 obtain⟨k,fa,fd,ps,h1,h2,h3,h4,h5⟩:=hf.ex;exact qi (L2.pe_call h1 h2 hg h3 h4 h5 .nil L2.pass0 ha hd (qD hn) (zt hs)) λ_ _ _=>P5
theorem Z1{f:Nat}{x:Str}{p:Pos}(hf:FnS X G F f x)(hg:L2.Gl X x)(hd:(x==("__debug__":Str))=false):SE X G F (.Call (.Name x p) [] [] pos) (.call f .nil):=by
 obtain⟨k,fa,fd,ps,h1,h2,h3,h4,h5⟩:=hf.ex;refine qi (L2.pe_call0 h1 h2 hg h3 h4 h5 .nil L2.pass0 hd) λσc H Q q=>?_;obtain⟨φ,h,σ,vs,h',R,rs,e,k⟩:=P5 q;unfold evs at e;cases e;exact k φ H [] (.refl _) R .nil
theorem k9{f:BF}{σc:St}{H:Hp}{Q:VK}(q:tE X.K G F (.blt f as) σc H Q):L2.tCB (qCr X G f) (tL X.K G F as) σc H Q:=by
 obtain⟨φ,h,σ,v,h',R,rs,e,k⟩:=q;unfold ev at e;obtain⟨⟨xs,h1⟩,e1,e⟩:=Res.bind_inv e;exact⟨φ,h,σ,xs,h1,R,rs,e1,λφ1 H1 ws x1 R1 r1=>⟨φ1,h1,xs,v,h',R1,r1,e,λφ2 H2 w x2 R2 r2=>k φ2 H2 w (x1.trans x2) R2 r2⟩⟩
theorem qBh{f:BF}{x:Str}{p:Pos}(hc:X.calm=true)(hu:X.A.units+8<cLine)(hgd:X.A.guards=some [])(hg:L2.Gl X x)(hm:X.mg x=none)(hv:bootBuiltins x=some (fnB f))(hn:qU ea=true)(hs:es.all qU=true)(ha:SA X G F (ea::es) as)
  (h1:x≠"__name__") (h2:(x==("__debug__":Str))=false):SE X G F (.Call (.Name x p) (ea::es) [] pos) (.blt f as):=by
 have rule:=Jf (G:=G) hc hu hgd f;cases f
 all_goals first
  |exact qi (L2.pe_callB rule hg hm hv ha h1 h2 (qD hn) (zt hs)) λ_ _ _=>k9
  |exact qi (L2.pe_callTy rule hg hm hv ha h1 h2 (qD hn) (zt hs)) λ_ _ _=>k9
theorem y3{apos cpos:Pos}(hc:X.calm=true)(hu:X.A.units+8<cLine)(hgd:X.A.guards=some [])(hbase:attributeBase ea "bit_length" X.env (eval ea X.env)=eval ea X.env)(hline:(apos.endLine==cpos.line)=true)(ha:SE X G F ea a):
  SE X G F (.Call (.Attribute ea "bit_length" apos) [] [] cpos) (.blt .bits (.cons a .nil)):=by
 have rule:L2.MtR X "int.bit_length" (λx xs H Q=>∃i,x=.int i/\xs=[]/\qCr X G .bits [.int i] H Q):=λpins s σ H x xs v us Q I rx rs q=>by
  obtain⟨i,rfl,rfl,q⟩:=q;cases rs;exact Jf (G:=G) hc hu hgd .bits pins s σ H [.int i] [v] Q I (.cons rx .nil) q
 refine qi (L2.pe_bm0 PySem.F.plainAttrs_int PyProof.Rows.slot_int_bit_length PyProof.Rows.type_int_bit_length rule ha hbase hline) λσc H Q q=>?_;obtain⟨φ,h,σ,v,h',R,rs,e,k⟩:=q;unfold ev at e;obtain⟨⟨xs,h1⟩,e1,e2⟩:=Res.bind_inv e;unfold evs evs at e1;obtain⟨⟨x,h2⟩,e3,e4⟩:=Res.bind_inv e1;cases e4;replace e2:qCX .bits [x] h1=.ok (v,h'):=e2;cases x with
 |int i=>exact⟨φ,h,σ,_,_,R,rs,e3,λφ1 H1 w x1 R1 r1=>by
   cases qA r1;exact⟨rfl,i,rfl,rfl,φ1,_,[.int i],v,h',R1,.cons rfl .nil,e2,λφ2 H2 w x2 R2 r2=>k φ2 H2 w (x1.trans x2) R2 r2⟩⟩
 |_=>cases e2
noncomputable def Zz(t:String):Bool:=t=="int"||t=="bool"||t=="list"||t=="tuple"||t=="str"||t=="dict"
theorem Qq(K:PySem.W.Frag):∀{t c:String},(t="NoneType"\/t="bool"\/t="int"\/t="str"\/t="list"\/t="tuple"\/t="dict")->Zz c=true->PySem.W.kitOne K (.type t) (.type c)=some (zh t c):=by
 intro t c ht hc;have hc':c="int"\/c="bool"\/c="list"\/c="tuple"\/c="str"\/c="dict":=by
  simp only[Zz,wx,beq_iff_eq]at hc;rcases hc with((((h|h)|h)|h)|h)|h<;>simp[h]
 rcases ht with rfl|rfl|rfl|rfl|rfl|rfl|rfl<;>rcases hc' with rfl|rfl|rfl|rfl|rfl|rfl<;>kernel_rfl
variable (X G) in
def qEi(c:String):List V->Hp->VK->Prop:=λxs H Q=>∃φ h xa x t,xs=[x,.ty c]/\Rl X.K G φ h H/\rv φ xa x/\zg h xa=some t/\Q (.bl (zh t c)) H
theorem O8{c:String}(hc:Zz c=true):zE X (.builtin "isinstance") (qEi X G c):=by
 intro pins s σ H xs us Q I r ⟨φ,h,xa,x,t,e,R,rx,ht,q⟩;subst e;obtain⟨u,u2,rfl,r1,r2⟩:=L2.vals2 r;cases (show u2=Value.type c from r2);have fin:∀tk,EP X pins σ Q (.bool (zh t c)) { s with toks:=tk }:=λtk=>⟨.bl (zh t c),H,I.tok tk,rfl,q⟩
 cases xa with
 |non=>cases zM rx;cases r1;cases ht;exact PySem.W.kia_one PySem.W.kitx_none I.kIn True.intro (Qq _ (by simp) hc) (λz=>nomatch z) fin
 |bl i=>cases zO rx;cases r1;cases ht;exact PySem.W.kia_one PySem.W.kitx_bool I.kIn True.intro (Qq _ (by simp) hc) (λz=>nomatch z) fin
 |int i=>cases qA rx;obtain⟨t',rfl⟩:=r1;cases ht;exact PySem.W.kia_one PySem.W.kitx_int I.kIn True.intro (Qq _ (by simp) hc) (λz=>nomatch z) fin
 |str i=>cases ze rx;obtain⟨t',rfl⟩:=r1;cases ht;exact PySem.W.kia_one PySem.W.kitx_str I.kIn True.intro (Qq _ (by simp) hc) (λz=>nomatch z) fin
 |ref i=>
  obtain⟨p,rfl,hp⟩:=qO rx;cases r1;cases ey:h[i]? with
  |none=>rw[show zg h (.ref i)=none by simp only[zg,ey]]at ht;cases ht
  |some o=>
   cases o with
   |lst fz ys=>
    rw[show zg h (.ref i)=some "list" by simp only[zg,ey]]at ht;cases ht;obtain⟨p',zs,hp',hs,rs⟩:=R.lst (i:=i) (xs:=ys) (by unfold qS;rw[ey]);rw[hp]at hp';cases hp';obtain⟨its,_,pl,_⟩:=I.list hs;obtain⟨o,ho,hcl,_⟩:=pl.isList;exact PySem.W.kia_one PySem.W.kitx_list I.kIn ⟨o,ho,hcl⟩ (Qq _ (by simp) hc) (λz=>nomatch z) fin
   |tup ys=>
    rw[show zg h (.ref i)=some "tuple" by simp only[zg,ey]]at ht;cases ht;obtain⟨p',zs,hp',hs,rs⟩:=R.tup (i:=i) (xs:=ys) (by unfold qY;rw[ey]);rw[hp]at hp';cases hp';obtain⟨its,_,pl,_⟩:=I.tuple hs;obtain⟨o,ho,hcl,_⟩:=pl;exact PySem.W.kia_one PySem.W.kitx_tuple I.kIn ⟨o,ho,hcl⟩ (Qq _ (by simp) hc) (λz=>nomatch z) fin
   |ob ks=>
    cases ks with
    |exn c=>rw[show zg h (.ref i)=none by simp only[zg,ey]]at ht;cases ht
    |dct kvs=>
     rw[show zg h (.ref i)=some "dict" by simp only[zg,ey]]at ht;cases ht;obtain⟨p',hp',hs⟩:=R.at ey;rw[hp]at hp';cases hp';obtain⟨_,_,vs,_,o,es,ep,h1,h2,_⟩:=(show L2.ObjOk X.prog X.w H s.heap p (.dK (kvs.map kk)) from I.hok p _ hs)
     exact PySem.W.kia_one PySem.W.kitx_dict I.kIn ⟨o,h1,h2.1⟩ (Qq _ (by simp) hc) (λz=>nomatch z) fin
 |_=>cases ht
theorem qBY{c:String}{xc:Str}{p pc:Pos}(hc:Zz c=true)(hg:L2.Gl X "isinstance")(hm:X.mg "isinstance"=none)(hgc:L2.Gl X xc)(hmc:X.mg xc=none)(hvc:bootBuiltins xc=some (.type c))(hn1:xc≠"__name__")(hn2:(xc==("__debug__":Str))=false)
  (hn:qU ea=true) (ha:SE X G F ea a):SE X G F (.Call (.Name "isinstance" p) [ea,.Name xc pc] [] pos) (.isi a [c]):=by
 refine qi (L2.pe_callB (O8 (G:=G) hc) hg hm PyProof.Rows.boot_isinstance (L2.pa_cons ha (L2.pa_cons (L2.pe_bltn (v:=.ty c) hgc hmc hvc rfl hn1 hn2) L2.pa_nil rfl) (qD hn)) (by decide) (by decide) (qD hn) rfl) λσc H Q q=>?_;obtain⟨φ,h,σ,v,h',R,rs,e,k⟩:=q;unfold ev at e;obtain⟨⟨x,h1⟩,e1,e⟩:=Res.bind_inv e;refine⟨φ,h,σ,x,h1,R,rs,e1,λφ1 H1 w x1 R1 r1=>?_⟩;dsimp only at e;split at e
 ·rename_i t et;cases e;refine⟨φ1,_,x,w,t,rfl,R1,r1,et,?_⟩;have:=k φ1 H1 (.bl ([c].any (zh t))) x1 R1 rfl;simpa using this
 ·cases e
noncomputable def Qn:Expr->Bool
 | .Slice ..=>false
 |_=>true
theorem J0{e:Expr}(h:Qn e=true):L2.PlainIx e:=by
 intro o i;cases e<;>first|rfl|cases h
theorem qCB(hb':Qn eb=true)(ha:SE X G F ea a)(hb:SE X G F eb b):SE X G F (.Subscript ea eb pos) (.idx a b):=by
 refine qi (L2.pe_ix (L2.ix_list.or L2.ix_tup) ha hb (J0 hb')) λσc H Q q=>?_;obtain⟨φ,h,σ,v,h',R,rs,e,k⟩:=q;unfold ev at e;obtain⟨⟨x,h1⟩,e1,e⟩:=Res.bind_inv e;obtain⟨⟨y,h2⟩,e2,e⟩:=Res.bind_inv e;refine jh R rs e1 e2 λφ2 H2 xc yc x2 R2 r1 r2=>?_;cases x with
 |ref p=>
  cases y with
  |int i=>
   dsimp only at e;split at e
   ·rename_i xs ex;split at e
    ·rename_i w ew;cases e;obtain⟨p',zs,hp',hs,rs'⟩:=R2.its ex;obtain⟨q,rfl,hq⟩:=qO r1;rw[hp']at hq;cases hq;cases qA r2;obtain⟨j,ej,ew⟩:=Option.bind_eq_some_iff.mp ew;obtain⟨w',hw',rw'⟩:=qK rs' ew;have hat:L2.atI zs i=some w':=by
      unfold L2.atI;rw[<-Paired.length rs'];exact Option.bind_eq_some_iff.mpr ⟨j,ej,hw'⟩
     rcases hs with hs|hs
     ·exact .inl ⟨_,zs,i,w',rfl,rfl,hs,hat,k φ2 H2 w' x2 R2 rw'⟩
     ·exact .inr ⟨_,zs,i,w',rfl,rfl,hs,hat,k φ2 H2 w' x2 R2 rw'⟩
    ·cases e
   ·cases e
  |_=>cases e
 |_=>cases e
theorem ZJ{φ:List Addr}{xs ys:List V}(r:rvs φ xs ys)(lo hi:Option Int):rvs φ (L2.cutV xs lo hi) (L2.cutV ys lo hi):=by
 unfold L2.cutV;rw[Paired.length r];exact qg _ (zL _ r)
variable (X G F) in
def SO(o:Option Expr)(as:Es):Prop:=L2.PO X o λσc H Q=>∃φ h σ is h',Rl X.K G φ h H/\rst φ σ σc/\(∃vs,evs F as σ h=.ok (vs,h')/\jC vs=some is)/\∀φ' H',Ext φ φ'->Rl X.K G φ' h' H'->Q is.head? H'
theorem qAV:SO X G F none .nil:=by
 intro pins s σc H Q I q;obtain⟨φ,h,σ,is,h',R,rs,⟨vs,e,ei⟩,k⟩:=q;unfold evs at e;cases e;cases ei;exact L2.po_none pins s σc H Q I (k φ H (.refl _) R)
theorem qAG(ha:SE X G F ea a):SO X G F (some ea) (.cons a .nil):=by
 intro pins s σc H Q I q;obtain⟨φ,h,σ,is,h',R,rs,⟨vs,e,ei⟩,k⟩:=q;unfold evs at e;obtain⟨⟨x,h1⟩,e1,e⟩:=Res.bind_inv e;unfold evs at e;cases e;refine L2.po_some ha pins s σc H Q I ⟨φ,h,σ,x,_,R,rs,e1,λφ1 H1 w x1 R1 r1=>?_⟩;have hm:=Qu ei;cases is with
 |nil=>cases hm
 |cons i r=>
  simp only[List.map_cons,List.cons.injEq]at hm;obtain⟨rfl,_⟩:=hm;cases qA r1;exact⟨i,rfl,k φ1 H1 x1 R1⟩
theorem qCC{lo hi:Option Expr}{al ah:Es}{p2:Pos}(ha:SE X G F ea a)(hl:SO X G F lo al)(hh:SO X G F hi ah):SE X G F (.Subscript ea (.Slice lo hi none p2) pos) (.sl a al ah):=by
 refine qi (L2.pe_slice (L2.SlR.or L2.sl_list L2.sl_tup) ha hl hh) λσc H Q q=>?_;obtain⟨φ,h,σ,v,h',R,rs,e,k⟩:=q;unfold ev at e;obtain⟨⟨x,h1⟩,e1,e⟩:=Res.bind_inv e;obtain⟨⟨l,h2⟩,e2,e⟩:=Res.bind_inv e;obtain⟨⟨u,h3⟩,e3,e⟩:=Res.bind_inv e;cases x with
 |ref p=>
  cases eil:jC l with
  |none=>dsimp only at e;rw[eil]at e;cases e
  |some il=>
   cases eiu:jC u with
   |none=>dsimp only at e;rw[eil,eiu]at e;cases e
   |some iu=>
    dsimp only at e;rw[eil,eiu]at e;dsimp only at e;split at e
    ·rename_i xs ex;cases e;refine⟨φ,h,σ,_,h1,R,rs,e1,λφ1 H1 w x1 R1 r1=>?_⟩;refine⟨φ1,h1,σ,il,h2,R1,rst.mono x1 rs,⟨l,e2,eil⟩,λφ2 H2 x2 R2=>?_⟩;refine⟨φ2,h2,σ,iu,h3,R2,rst.mono (x1.trans x2) rs,⟨u,e3,eiu⟩,λφ3 H3 x3 R3=>?_⟩;obtain⟨p',zs,hp',hs,rs'⟩:=R3.lst ex;obtain⟨q,rfl,hq⟩:=qO (rv.mono (x2.trans x3) r1);rw[hp']at hq;cases hq;exact .inl ⟨_,zs,rfl,hs,λm hm=>k (φ3++[m]) _ _ ((x1.trans (x2.trans x3)).trans ⟨[m],rfl⟩) (R3.newL hm (ZJ rs' _ _)) R3.lastRef⟩
    ·split at e
     ·rename_i xs ex;split at e
      ·cases e
      ·rename_i hw;cases e;refine⟨φ,h,σ,_,h1,R,rs,e1,λφ1 H1 w x1 R1 r1=>?_⟩;refine⟨φ1,h1,σ,il,h2,R1,rst.mono x1 rs,⟨l,e2,eil⟩,λφ2 H2 x2 R2=>?_⟩;refine⟨φ2,h2,σ,iu,h3,R2,rst.mono (x1.trans x2) rs,⟨u,e3,eiu⟩,λφ3 H3 x3 R3=>?_⟩;obtain⟨p',zs,hp',hs,rs'⟩:=R3.tup ex;obtain⟨q,rfl,hq⟩:=qO (rv.mono (x2.trans x3) r1);rw[hp']at hq;cases hq;exact .inr ⟨_,zs,rfl,hs,by rw[<-Paired.length rs'];exact hw,λm hm=>k (φ3++[m]) _ _ ((x1.trans (x2.trans x3)).trans ⟨[m],rfl⟩) (R3.newT hm (ZJ rs' _ _)) R3.lastRef⟩
     ·cases e
 |_=>cases e
theorem qAp{apos cpos:Pos}(hbase:attributeBase ea "append" X.env (eval ea X.env)=eval ea X.env)(hline:(apos.endLine==cpos.line)=true)(hn:qU eb=true)(ha:SE X G F ea a)(hb:SE X G F eb b):
  SE X G F (.Call (.Attribute ea "append" apos) [eb] [] cpos) (.app a b):=by
 refine qi (L2.pe_bm PySem.F.plainAttrs_list PySem.F.slot_list_append PySem.F.type_list_append L2.mt_append ha (L2.pa_cons hb L2.pa_nil (qD hn)) hbase (by rw[qD hn];rfl) hline (qD hn) rfl) λσc H Q q=>?_;obtain⟨φ,h,σ,v,h',R,rs,e,k⟩:=q;unfold ev at e;obtain⟨⟨x,h1⟩,e1,e⟩:=Res.bind_inv e;dsimp only at e;split at e
 ·rename_i p;split at e
  ·rename_i ys ey;obtain⟨⟨y,h2⟩,e2,e⟩:=Res.bind_inv e;dsimp only at e;split at e
   ·rename_i xs ex;split at e
    ·rename_i hl;cases e;refine⟨φ,h,σ,_,h1,R,rs,e1,λφ1 H1 w x1 R1 r1=>?_⟩;obtain⟨p1,zs1,hp1,hs1,_⟩:=R1.lst ey;obtain⟨q,rfl,hq⟩:=qO r1;rw[hp1]at hq;cases hq;refine⟨.inl ⟨rfl,_,hs1⟩,φ1,h1,σ,y,h2,R1,rst.mono x1 rs,e2,λφ2 H2 yc x2 R2 r2=>?_⟩;obtain⟨q1,p2,zs2,hp2,hH2,rs2⟩:=R2.mut ex;have:=x2.get hp1;rw[hp2]at this;cases this;refine⟨_,zs2,yc,rfl,rfl,hH2,?_,k φ2 _ _ (x1.trans x2) (R2.set q1 hp2 (qI rs2 (.cons r2 .nil))) trivial⟩;rw[<-Paired.length rs2];exact wa hl m6
    ·cases e
   ·cases e
  ·cases e
 ·cases e
theorem Rl.same{K:PySem.W.Frag}{G φ:List Addr}{h:AH}{H H':Hp}(R:Rl K G φ h H)(s:ZK H H'):Rl K G φ h H':=⟨R.len,R.glob,λi o a e1 e2=>(R.obj i o a e1 e2).keep (.refl _) s,R.inj⟩
theorem Zu{φ:List Addr}:∀{xs:List V},xs.all flat=true->rvs φ xs xs
 | [],_=>.nil
 |x::xs,h=>by
  simp only[List.all_cons,Bool.and_eq_true]at h;refine .cons ?_ (Zu h.2);cases x<;>first|rfl|exact trivial|(cases h.1)
theorem Qm{α β:Type}{R:α->β->Prop}{xs:List α}{us:List β}(h:Paired R xs us):Paired R xs.dropLast us.dropLast:=by
 rw[wo,wo,<-Paired.length h];exact qg _ h
theorem Qo{α β:Type}{R:α->β->Prop}{xs:List α}{us:List β}(h:Paired R xs us)(k:Nat):Paired R (xs.eraseIdx k) (us.eraseIdx k):=by
 rw[wX,wX];exact qI (qg _ h) (zL _ h)
theorem jA{α β:Type}{R:α->β->Prop}:∀{xs:List α}{us:List β},Paired R xs us->Paired R xs.reverse us.reverse
 |_,_,.nil=>.nil
 |_,_,.cons r t=>by
  rw[wf,wf];exact qI (jA t) (.cons r .nil)
theorem U7:zE X (.type "range") (λxs H Q=>∃j:Int,xs=[.int j]/\∀p,H p=none->Q (.ref p) (upd H p (.rng 0 j))):=by
 intro pins s σ H xs us Q I r ⟨j,e,q⟩;subst e;obtain⟨u,rfl,ru⟩:=L2.vals1 r;obtain⟨t,rfl⟩:=ru;refine call_range_1 ⟨.ref s.heap.objs.size,_,I.laid (λ_ _ q=>Heap.get?_push_of_some _ q) (Nat.le_refl _) ?_,rfl,q _ (I.hok.fresh (Nat.le_refl _))⟩;exact⟨_,_,_,Heap.get?_push_size _ rfl⟩
theorem Zs{P:Nat->V}:∀{n:Nat}{acc:List Value},acc.length=n->(∀(j:Nat) v,acc[j]?=some v->RelV (P j) v)->Vals ((List.range n).map P) acc:=by
 intro n
 induction n with
 |zero=>intro acc hl _;cases acc with|nil=>exact .nil|cons _ _=>simp at hl
 |succ n ih=>
  intro acc hl ha;have hne:acc≠[]:=by intro z;subst z;simp at hl
  rw[List.range_succ,wS,<-List.dropLast_concat_getLast hne];have hd:acc.dropLast.length=n:=by rw[List.length_dropLast,hl];rfl
  refine qI (ih hd λj v e=>ha j v ?_) (.cons (ha n _ ?_) .nil)
  ·rw[<-List.dropLast_concat_getLast hne,List.getElem?_append_left (List.getElem?_eq_some_iff.mp e).1];exact e
  ·rw[wA (by omega),List.getLast_eq_getElem];congr 1;simp[hl]
theorem ZN(hc:X.calm=true):zE X (.type "list") (λxs H Q=>∃p,∃j:Int,xs=[.ref p]/\H p=some (.rng 0 j)/\(-1000000<=j/\j<=100000)/\∀l,H l=none->Q (.ref l) (upd H l (.lst (jD 0 j.toNat)))):=by
 intro pins s σ H xs us Q I r ⟨p,j,e,hp,hj,q⟩;subst e;obtain⟨u,rfl,ru⟩:=L2.vals1 r;cases ru;obtain⟨t,u,v,hr⟩:=I.hok p _ hp;have hn:Builtin.Range.rangeSize 0 j 1=((j.toNat:Nat):Int):=by rw[rangeSize_one];split<;>omega
 refine call_list_range (I.ok.hd hc) hr (small_one (by omega) (by omega) (by omega) (by omega)) hn (by omega) λh' tk acc' c' hk hS hI=>?_;refine⟨.ref s.heap.objs.size,_,I.laid (t':=tk) hk (Nat.le_refl _) ?_,rfl,q _ (I.hok.fresh (Nat.le_refl _))⟩;obtain⟨i1,i2⟩:=hI;refine⟨?_,acc'.toList,c',Zs (by simpa using i1) λk v e=>?_,by simpa using hS⟩
 ·have:=QA;unfold lim at this;rw[jD,wH,List.length_range];omega
 ·obtain⟨t',rfl⟩:=i2 k v (by simpa using e);exact⟨t',by rw[Int.mul_one]⟩
theorem o0{p p2 pos2:Pos}(hc:X.calm=true)(hg:L2.Gl X "list")(hm:X.mg "list"=none)(hg2:L2.Gl X "range")(hm2:X.mg "range"=none)(hn:qU ea=true)(ha:SE X G F ea a):
  SE X G F (.Call (.Name "list" p) [.Call (.Name "range" p2) [ea] [] pos2] [] pos) (.lrng a):=by
 refine qi (L2.pe_callTy (ZN hc) hg hm PyProof.Rows.boot_list (L2.pa_cons (L2.pe_callTy U7 hg2 hm2 PyProof.Rows.boot_range (L2.pa_cons ha L2.pa_nil (qD hn)) (by decide) (by decide) (qD hn) rfl) L2.pa_nil rfl) (by decide) (by decide) rfl rfl) λσc H Q q=>?_;obtain⟨φ,h,σ,v,h',R,rs,e,k⟩:=q;unfold ev at e;obtain⟨⟨x,h1⟩,e1,e⟩:=Res.bind_inv e;refine⟨φ,h,σ,x,h1,R,rs,e1,λφ1 H1 w x1 R1 r1=>?_⟩;cases x with
 |int j=>
  dsimp only at e;split at e
  ·rename_i hj;cases e;cases qA r1;refine⟨j,rfl,λp hp=>⟨p,j,rfl,qH,hj,λl hl=>?_⟩⟩;have hlp:l≠p:=by rintro rfl;rw[qH]at hl;cases hl
   have R2:Rl X.K G φ1 h1 (upd H1 p (.rng 0 j)):=R1.same (ZM hp);exact k (φ1++[l]) _ _ (x1.trans ⟨[l],rfl⟩) (R2.newL hl (Zu (by simp[jD,flat]))) R2.lastRef
  ·cases e
 |_=>cases e
theorem V7{m:Mt}{r:V->List V->Hp->VK->Prop}{σc:St}{H:Hp}{Q:VK}{as:Es}
  (hr:∀φ h H p ys ws v h' Q,Rl X.K G φ h H->rvs φ ys ws->jX m p ys h=.ok (v,h')->(∀φ' H' w,Ext φ φ'->Rl X.K G φ' h' H'->rv φ' v w->Q w H')->∀a,φ[p]?=some a->r (.ref a) ws H Q)
  (q:tE X.K G F (.meth m a as) σc H Q):L2.tBM X.K "list" r (tE X.K G F a) (tL X.K G F as) σc H Q:=by
 obtain⟨φ,h,σ,v,h',R,rs,e,k⟩:=q;unfold ev at e;obtain⟨⟨x,h1⟩,e1,e⟩:=Res.bind_inv e;dsimp only at e;split at e
 ·rename_i p;split at e
  ·rename_i ys ey;obtain⟨⟨zs,h2⟩,e2,e⟩:=Res.bind_inv e;refine⟨φ,h,σ,_,h1,R,rs,e1,λφ1 H1 w x1 R1 r1=>?_⟩;obtain⟨p1,zs1,hp1,hs1,_⟩:=R1.lst ey;obtain⟨q,rfl,hq⟩:=qO r1;rw[hp1]at hq;cases hq;exact⟨.inl ⟨rfl,_,hs1⟩,φ1,h1,σ,zs,h2,R1,rst.mono x1 rs,e2,λφ2 H2 yc x2 R2 r2=>hr φ2 h2 H2 p zs yc v h' Q R2 r2 e (λφ3 H3 w x3 R3 r3=>k φ3 H3 w (x1.trans (x2.trans x3)) R3 r3) _ (x2.get hp1)⟩
  ·cases e
 ·cases e
theorem Zc{m:Mt}{r:V->List V->Hp->VK->Prop}{σc:St}{H:Hp}{Q:VK}
  (hr:∀φ h H p ys ws v h' Q,Rl X.K G φ h H->rvs φ ys ws->jX m p ys h=.ok (v,h')->(∀φ' H' w,Ext φ φ'->Rl X.K G φ' h' H'->rv φ' v w->Q w H')->∀a,φ[p]?=some a->r (.ref a) ws H Q)
  (q:tE X.K G F (.meth m a .nil) σc H Q):L2.tBM0 X.K "list" r (tE X.K G F a) σc H Q:=by
 obtain⟨φ,h,σ,v,h',R,rs,e,k⟩:=q;unfold ev at e;obtain⟨⟨x,h1⟩,e1,e⟩:=Res.bind_inv e;dsimp only at e;split at e
 ·rename_i p;split at e
  ·rename_i ys ey;obtain⟨⟨zs,h2⟩,e2,e⟩:=Res.bind_inv e;unfold evs at e2;cases e2;refine⟨φ,h,σ,_,h1,R,rs,e1,λφ1 H1 w x1 R1 r1=>?_⟩;obtain⟨p1,zs1,hp1,hs1,_⟩:=R1.lst ey;obtain⟨q,rfl,hq⟩:=qO r1;rw[hp1]at hq;cases hq;exact⟨.inl ⟨rfl,_,hs1⟩,hr φ1 h1 H1 p [] [] v h' Q R1 .nil e (λφ3 H3 w x3 R3 r3=>k φ3 H3 w (x1.trans x3) R3 r3) _ hp1⟩
  ·cases e
 ·cases e
theorem Y5:∀φ h H p ys ws v h' Q,Rl X.K G φ h H->rvs φ ys ws->jX .pop p ys h=.ok (v,h')->(∀φ' H' w,Ext φ φ'->Rl X.K G φ' h' H'->rv φ' v w->Q w H')->∀a,φ[p]?=some a->L2.rPop (.ref a) ws H Q:=by
 intro φ h H p ys ws v h' Q R rw' e k a ha;cases ys with
 |cons y ys=>cases e
 |nil=>
  cases rw';unfold jX at e;dsimp only at e;split at e
  ·rename_i xs ex;split at e
   ·rename_i y ey;cases e;obtain⟨q1,p2,zs2,hp2,hH2,rs2⟩:=R.mut ex;rw[ha]at hp2;cases hp2;obtain⟨w,hw,rw2⟩:=qK rs2 ey;refine⟨a,zs2,w,rfl,rfl,hH2,by rw[<-Paired.length rs2];exact hw,k φ _ _ (.refl _) (R.set q1 ha (Qm rs2)) rw2⟩
   ·cases e
  ·cases e
theorem J7:∀φ h H p ys ws v h' Q,Rl X.K G φ h H->rvs φ ys ws->jX .popAt p ys h=.ok (v,h')->(∀φ' H' w,Ext φ φ'->Rl X.K G φ' h' H'->rv φ' v w->Q w H')->∀a,φ[p]?=some a->L2.rPopAt (.ref a) ws H Q:=by
 intro φ h H p ys ws v h' Q R rw' e k a ha;unfold jX at e;split at e
 all_goals first|(rename_i z _ _;cases z;done)|(rename_i z _;cases z;done)|(rename_i z;cases z;done)|skip
 ·cases rw' with
  |cons r1 t=>
   cases t;cases qA r1;split at e
   ·rename_i xs ex;split at e
    ·rename_i hl;split at e
     ·rename_i j ej;split at e
      ·rename_i y ey;cases e;obtain⟨q1,p2,zs2,hp2,hH2,rs2⟩:=R.mut ex;rw[ha]at hp2;cases hp2;obtain⟨w,hw,rw2⟩:=qK rs2 ey;obtain⟨s1,s2,s3,s4⟩:=L2.ixN_seq ej;have:=QA;unfold lim at hl;refine⟨a,zs2,_,j,w,rfl,rfl,hH2,by omega,by omega,by rw[<-Paired.length rs2];exact s1,hw,k φ _ _ (.refl _) (R.set q1 ha (Qo rs2 j)) rw2⟩
      ·cases e
     ·cases e
    ·cases e
   ·cases e
 ·cases e
theorem Y4:∀φ h H p ys ws v h' Q,Rl X.K G φ h H->rvs φ ys ws->jX .rev p ys h=.ok (v,h')->(∀φ' H' w,Ext φ φ'->Rl X.K G φ' h' H'->rv φ' v w->Q w H')->∀a,φ[p]?=some a->L2.rReverse (.ref a) ws H Q:=by
 intro φ h H p ys ws v h' Q R rw' e k a ha;cases ys with
 |cons y ys=>cases e
 |nil=>
  cases rw';unfold jX at e;dsimp only at e;split at e
  ·rename_i xs ex;cases e;obtain⟨q1,p2,zs2,hp2,hH2,rs2⟩:=R.mut ex;rw[ha]at hp2;cases hp2;exact⟨a,zs2,rfl,rfl,hH2,k φ _ _ (.refl _) (R.set q1 ha (jA rs2)) trivial⟩
  ·cases e
theorem Z9:∀φ h H p ys ws v h' Q,Rl X.K G φ h H->rvs φ ys ws->jX .clr p ys h=.ok (v,h')->(∀φ' H' w,Ext φ φ'->Rl X.K G φ' h' H'->rv φ' v w->Q w H')->∀a,φ[p]?=some a->L2.rClear (.ref a) ws H Q:=by
 intro φ h H p ys ws v h' Q R rw' e k a ha;cases ys with
 |cons y ys=>cases e
 |nil=>
  cases rw';unfold jX at e;dsimp only at e;split at e
  ·rename_i xs ex;cases e;obtain⟨q1,p2,zs2,hp2,hH2,rs2⟩:=R.mut ex;rw[ha]at hp2;cases hp2;exact⟨a,zs2,rfl,rfl,hH2,k φ _ _ (.refl _) (R.set q1 ha .nil) trivial⟩
  ·cases e
section
open L2
def qEE:V->List V->Hp->VK->Prop:=λx vs H Q=>∃l xs y,∃i:Int,x=.ref l/\vs=[.int i,y]/\H l=some (.lst xs)/\0<=i/\i<=xs.length/\xs.length<100000/\Q .non (upd H l (.lst (xs.take i.toNat++y::xs.drop i.toNat)))
theorem qBb{X:L2.Cx}:MtM X "list.insert" qEE:=by
 intro pins s σ H x vs v us Q I rx rv h;obtain⟨l,xs,y,i,rfl,rfl,hH,h0,h1,hlen,q⟩:=h;cases rx;cases rv with
 |cons r1 rr=>
  cases rr with
  |cons r2 rr=>
   cases rr;obtain⟨t,rfl⟩:=r1;rename_i yv;obtain⟨z,its,n,r,hl,e⟩:=I.lstM hH;have b1:its.length=xs.length:=r.length.symm;have sz:=sizeLine_eq;refine call_meets F.slot_list_insert ⟨_,e,rfl⟩ F.entry_list_insert (F.args_list_insert_3 _ _ _)
    (AutoSeq1.list_insert_list_int_val_1 l its.toArray n i t yv ?_ (by rw[wD];omega)) ⟨e,?_⟩
   ·unfold Builtin.List.listFitsIndex;simp;omega
   ·refine⟨.non,_,I.lset (its':=its.take i.toNat++yv::its.drop i.toNat) hH e ?_ (qI (qg _ r) (.cons r2 (zL _ r))) ?_,rfl,q⟩
    ·have hk:(if i<0 then (i+(its.length:Int)).toNat else min i.toNat its.length)=i.toNat:=by rw[if_neg (by omega)];omega
     apply Array.ext';simp only[wD,Array.toList_append,Array.toList_push,Array.toList_extract,hk];simp[vA]
    ·rw[List.length_append,List.length_cons,wN,wb];omega
end
theorem Z2:∀φ h H p ys ws v h' Q,Rl X.K G φ h H->rvs φ ys ws->jX .ins p ys h=.ok (v,h')->(∀φ' H' w,Ext φ φ'->Rl X.K G φ' h' H'->rv φ' v w->Q w H')->∀a,φ[p]?=some a->qEE (.ref a) ws H Q:=by
 intro φ h H p ys ws v h' Q R rw' e k a ha;unfold jX at e;split at e
 all_goals first|(rename_i z _ _;cases z;done)|(rename_i z _;cases z;done)|(rename_i z;cases z;done)|skip
 ·cases rw' with
  |cons r1 t=>
   cases t with
   |cons r2 t=>
    cases t;cases qA r1;split at e
    ·rename_i xs ex;split at e
     ·rename_i hc;cases e;obtain⟨q1,p2,zs2,hp2,hH2,rs2⟩:=R.mut ex;rw[ha]at hp2;cases hp2;have l2:=Paired.length rs2;have hcl:xs.length<100000:=hc.2.2;refine⟨a,_,_,_,rfl,rfl,hH2,hc.1,by rw[<-l2];exact hc.2.1,by rw[<-l2];exact hcl,k φ _ _ (.refl _) (R.set q1 ha (qI (qg _ rs2) (.cons r2 (zL _ rs2)))) trivial⟩
     ·cases e
    ·cases e
 ·cases e
theorem qA9{apos cpos:Pos}(hbase:attributeBase ea "insert" X.env (eval ea X.env)=eval ea X.env)(hline:(apos.endLine==cpos.line)=true)(hn:qU eb=true)(hn2:qU ec=true)(ha:SE X G F ea a)(hb:SE X G F eb b)(hc:SE X G F ec c):
  SE X G F (.Call (.Attribute ea "insert" apos) [eb,ec] [] cpos) (.meth .ins a (.cons b (.cons c .nil))):=
 qi (L2.pe_bm PySem.F.plainAttrs_list PySem.F.slot_list_insert PySem.F.type_list_insert qBb ha (ZR hn hb (ZR hn2 hc M8)) hbase (by rw[qD hn,qD hn2];rfl) hline (qD hn) (zt (by simp[hn2]))) λ_ _ _=>V7 Z2
theorem X9{apos cpos:Pos}(hbase:attributeBase ea "pop" X.env (eval ea X.env)=eval ea X.env)(hline:(apos.endLine==cpos.line)=true)(hn:qU eb=true)(ha:SE X G F ea a)(hb:SE X G F eb b):
  SE X G F (.Call (.Attribute ea "pop" apos) [eb] [] cpos) (.meth .popAt a (.cons b .nil)):=
 qi (L2.pe_bm PySem.F.plainAttrs_list PySem.F.slot_list_pop PySem.F.type_list_pop L2.mt_popAt ha (ZR hn hb M8) hbase (by rw[qD hn];rfl) hline (qD hn) rfl) λ_ _ _=>V7 J7
theorem p7{apos cpos:Pos}(hbase:attributeBase ea "pop" X.env (eval ea X.env)=eval ea X.env)(hline:(apos.endLine==cpos.line)=true)(ha:SE X G F ea a):SE X G F (.Call (.Attribute ea "pop" apos) [] [] cpos) (.meth .pop a .nil):=
 qi (L2.pe_bm0 PySem.F.plainAttrs_list PySem.F.slot_list_pop PySem.F.type_list_pop L2.mt_pop ha hbase hline) λ_ _ _=>Zc Y5
theorem u5{apos cpos:Pos}(hbase:attributeBase ea "reverse" X.env (eval ea X.env)=eval ea X.env)(hline:(apos.endLine==cpos.line)=true)(ha:SE X G F ea a):SE X G F (.Call (.Attribute ea "reverse" apos) [] [] cpos) (.meth .rev a .nil):=
 qi (L2.pe_bm0 PySem.F.plainAttrs_list PySem.F.slot_list_reverse PySem.F.type_list_reverse L2.mt_reverse ha hbase hline) λ_ _ _=>Zc Y4
theorem qAM{apos cpos:Pos}(hbase:attributeBase ea "clear" X.env (eval ea X.env)=eval ea X.env)(hline:(apos.endLine==cpos.line)=true)(ha:SE X G F ea a):SE X G F (.Call (.Attribute ea "clear" apos) [] [] cpos) (.meth .clr a .nil):=
 qi (L2.pe_bm0 PySem.F.plainAttrs_list PySem.F.slot_list_clear PySem.F.type_list_clear L2.mt_clear ha hbase hline) λ_ _ _=>Zc Z9
end
open L2 (It Jg Qr)
abbrev Zf(h:Heap)(z ti to:Addr)(f0 f1:Value):Prop:=
 h.get? z=some { cls:=.type "zip",dict:=none,data:=.fields #[f0,f1,.bool false,.ref ti,.ref to],slots:=#[] }
section
variable{P:Program}{w:World}{K:Type}[DecidableEq K]{knd:KeyKind P w K}{A:Around}{E:Value->Shared->Prop}{z ti to i1 i2 a b d:Addr}{xs ys:Array Value}
def Left(knd:KeyKind P w K)(xs ys:Array Value)(k:Nat)(L:List (K×Value)):Prop:=
 (∀j p,L[j]?=some p->∃x,xs[k+j]?=some x/\knd.is p.1 x=true/\ys[k+j]?=some p.2)/\(xs[k+L.length]?=none\/ys[k+L.length]?=none)
theorem Left.next{k:Nat}{p:K×Value}{L:List (K×Value)}(h:Left knd xs ys k (p::L)):(∃x,xs[k]?=some x/\knd.is p.1 x=true/\ys[k]?=some p.2)/\Left knd xs ys (k+1) L:=by
 refine⟨by simpa using h.1 0 p rfl,λj q e=>?_,?_⟩
 ·have:=h.1 (j+1) q (by simpa using e);rw[show k+(j+1)=k+1+j by omega]at this;exact this
 ·have:=h.2;rw[List.length_cons,show k+(L.length+1)=k+1+L.length by omega]at this;exact this
end
noncomputable def Itz(K:PySem.W.Frag)(a b:Addr):It:=
 ⟨λi H=>∃xs ys x y,SqL K H a xs/\SqL K H b ys/\xs[i]?=some x/\ys[i]?=some y,
  λi H v H'=>∃p x y,H p=none/\v=.ref p/\H'=upd H p (.tup [x,y])/\(∀xs,SqL K H a xs->xs[i]?=some x)/\∀ys,SqL K H b ys->ys[i]?=some y,
  λi H=>∃xs ys,SqL K H a xs/\SqL K H b ys/\(xs.length<=i\/ys.length<=i)⟩
theorem qAF{X:Cx}{pins:List (Addr×Obj)}{σ:L2.St}{H:Hp}{s:Shared}{h':Heap}{T:Addr}{xs:List V}{its:List Value}{ch:List Addr}{t':Nat}(I:Inv X pins σ H s)(hf:∀b∈ch,Qr X pins H b)
  (hT:s.heap.objs.size<=T) (k:∀b o,b∉ch->s.heap.get? b=some o->h'.get? b=some o) (hp:IsTup h' T its.toArray) (hv:Vals xs its) (hz:xs.length<=sizeLine) (hTc:T∉ch):
  Inv X pins σ (upd H T (.tup xs)) { s with heap:=h',toks:=t' }:=by
 have hn:H T=none:=I.hok.fresh hT;have neT:∀b o,s.heap.get? b=some o->b≠T:=λb o e=>wM (wC (Heap.lt_size e) hT);refine I.step (g':=s.gens) (d':=s.drawn) (ch:=ch) (λb hb=>⟨(hf b hb).2.2.2.1,(hf b hb).2.1,(hf b hb).2.2.2.2.1,(hf b hb).2.2.2.2.2⟩) (λb o _ _ hc e _=>k b o hc e) (λb o _ _ hc e _=>⟨o.slots,k b o hc e⟩)
  (λb o _ e n=>by rw[qE (neT b o e)];exact n) (λb o hc e=>⟨o,k b o hc e⟩) (λb ys e=>by rw[qE (L2.ne_of_none e hn)];exact e) (λb o u e=>by rw[qE (L2.ne_of_none e hn)];exact e)
  (λb ps e=>⟨#[],by rw[qE (L2.ne_of_none e hn),e];simp⟩) (λm hm=>?_) (λb u e=>?_) I.bare
 ·obtain⟨o,es,ep,ho,r⟩:=hm;exact⟨o,es,ep,k _ o (λz=>(hf _ z).2.1 rfl) ho,r⟩
 ·by_cases hb:b=T
  ·subst hb;rw[qH]at e;cases e;exact⟨hz,its,hv,hp⟩
  ·rw[qE hb]at e;have nc:∀c u,H c=some u->c∉ch:=λc u q z=>by rw[(hf c z).1]at q;cases q
   refine(I.hok b u e).stay (λc v hc q=>k c v ?_ q) (λc q=>by rw[qE (L2.ne_of_none q hn)];exact q) λc ys q=>by rw[qE (L2.ne_of_none q hn)];exact q
   rcases hc with z|z
   ·rw[z];exact nc b u e
   ·exact nc c _ z
theorem d3{P:Program}{w:World}{K:PySem.W.Frag}{elts:List Expr}{kk:Nat}{tpos:Pos}(z TI TO i1 i2 a b:Addr)(D:ZipApart z TI TO i1 i2 a b):
  Jg P w K (.Tuple elts kk tpos) (Itz K a b) [z,TI,TO,i1,i2] z (λi h=>IsZip h z TI TO .none/\IsPair h TI (.ref i1) (.ref i2)/\(∃x y,IsPair h TO x y)/\h.IsListIter i1 a i/\h.IsListIter i2 b i) where
 mem:=by simp
 obj:=λi h st c hc=>by
  obtain⟨h1,h2,⟨x,y,h3⟩,⟨o4,e4,c4,d4⟩,⟨o5,e5,c5,d5⟩⟩:=st;simp only[List.mem_cons,wU,or_false]at hc;rcases hc with rfl|rfl|rfl|rfl|rfl
  ·exact⟨_,h1,λv q=>by have q':Data.fields _=Data.cell v:=q;cases q'⟩
  ·exact⟨_,h2,λv q=>by have q':Data.seq _ _=Data.cell v:=q;cases q'⟩
  ·exact⟨_,h3,λv q=>by have q':Data.seq _ _=Data.cell v:=q;cases q'⟩
  ·exact⟨o4,e4,λv q=>by rw[d4]at q;cases q⟩
  ·exact⟨o5,e5,λv q=>by rw[d5]at q;cases q⟩
 keep:=λi h h' st k=>by
  obtain⟨h1,h2,⟨x,y,h3⟩,h4,h5⟩:=st;exact⟨k z (by simp) _ h1,k TI (by simp) _ h2,⟨x,y,k TO (by simp) _ h3⟩,h4.at λo e=>k i1 (by simp) o e,h5.at λo e=>k i2 (by simp) o e⟩
 item:=by
  intro X hP hw hK hc i pins s σ H E I hf st hg;subst hP hw hK;obtain⟨xs,ys,x,y,hq1,hq2,hx,hy⟩:=hg;obtain⟨its1,rv1,p1,_⟩:=I.list hq1;obtain⟨its2,rv2,p2,_⟩:=I.list hq2;obtain⟨u,hu,ru⟩:=rv1.get hx;obtain⟨w',hw',rw'⟩:=rv2.get hy;obtain⟨h1,h2,⟨ta,tb,h3⟩,h4,h5⟩:=st;refine wpAny_pyNext_zip_item D h1 h2 h3 h4 h5 p1.isList p2.isList (x:=u) (y:=w') (by simpa using hu) (by simpa using hw') λh' z1 z2 z3 z4 z5 z6 z7=>?_;refine⟨_,rfl,wpAny_letOwnedTupleGo_zip z1 λh'' g1 gs=>?_⟩;have lt:∀c∈[z,TI,TO,i1,i2],c≠s.heap.objs.size:=λc hc=>by
   have ex:∃o,s.heap.get? c=some o:=by
    simp only[List.mem_cons,wU,or_false]at hc;rcases hc with rfl|rfl|rfl|rfl|rfl
    ·exact⟨_,h1⟩
    ·exact⟨_,h2⟩
    ·exact⟨_,h3⟩
    ·obtain⟨o,e,_⟩:=h4;exact⟨o,e⟩
    ·obtain⟨o,e,_⟩:=h5;exact⟨o,e⟩
   obtain⟨o,e⟩:=ex;exact wM (Heap.lt_size e)
  have up:∀c o,c≠z->h'.get? c=some o->h''.get? c=some o:=λc o hz e=>gs.extBut c o hz e;have kp:∀c o,c∉[z,TI,TO,i1,i2]->s.heap.get? c=some o->h''.get? c=some o:=λc o hn e=>by
   simp only[List.mem_cons,wU,or_false,not_or]at hn;exact up c o hn.1 (z7 c o hn.1 hn.2.2.1 hn.2.2.2.1 hn.2.2.2.2 e)
  have ht:IsTup h'' s.heap.objs.size #[u,w']:=⟨_,up _ _ (Ne.symm (lt z (by simp))) z5,rfl,_,rfl⟩
  have I1:=qAF (t':=s.toks) (xs:=[x,y]) (its:=[u,w']) I hf (Nat.le_refl _) kp ht (.cons ru (.cons rw' .nil)) (by show 2<=sizeLine;decide) (λq=>lt _ q rfl);refine⟨.ref s.heap.objs.size,_,I1,rfl,⟨s.heap.objs.size,x,y,I.hok.fresh (Nat.le_refl _),rfl,rfl,λzs hz=>by rw[I.list_inj hz hq1];exact hx,λzs hz=>by rw[I.list_inj hz hq2];exact hy⟩,
   ⟨g1,up _ _ D.TIz (z7 TI _ D.TIz D.TITO D.TIi1 D.TIi2 h2),⟨_,_,up _ _ D.TOz z2⟩,z3.at λo e=>up _ o D.i1z e,z4.at λo e=>up _ o D.i2z e⟩,λc hc=>?_⟩
  rw[qE (lt c hc)];exact(hf c hc).1
 done:=by
  intro X hP hw hK hc i pins s σ H E I hf st hg;subst hP hw hK;obtain⟨xs,ys,hq1,hq2,hl⟩:=hg;obtain⟨its1,rv1,p1,_⟩:=I.list hq1;obtain⟨its2,rv2,p2,_⟩:=I.list hq2;obtain⟨h1,h2,⟨ta,tb,h3⟩,h4,h5⟩:=st;have n1:=rv1.length;have n2:=rv2.length;refine wpAny_pyNext_zip_end (I.ok.hd hc) D h1 h2 h3 h4 h5 p1.isList p2.isList ?_ λh' z7=>⟨rfl,?_⟩
  ·rcases hl with hl|hl
   ·left;simp;omega
   ·right;simp;omega
  ·have kp:∀c o,c∉[z,TI,TO,i1,i2]->s.heap.get? c=some o->h'.get? c=some o:=λc o hn e=>by
    simp only[List.mem_cons,wU,or_false,not_or]at hn;exact z7 c o hn.1 hn.2.2.1 hn.2.2.2.1 hn.2.2.2.2 e
   refine I.step (g':=s.gens) (d':=s.drawn) (t':=s.toks) (ch:=[z,TI,TO,i1,i2]) (λb hb=>⟨(hf b hb).2.2.2.1,(hf b hb).2.1,(hf b hb).2.2.2.2.1,(hf b hb).2.2.2.2.2⟩) (λb o _ _ hc e _=>kp b o hc e) (λb o _ _ hc e _=>⟨o.slots,kp b o hc e⟩)
    (λb o _ e n=>n) (λb o hc e=>⟨o,kp b o hc e⟩) (λb ys e=>e) (λb o u e=>e) (λb ps e=>⟨#[],by rw[e];simp⟩) (λm hm=>?_) (λb u e=>?_) I.bare
   ·obtain⟨o,es,ep,ho,r⟩:=hm;exact⟨o,es,ep,kp _ o (λz=>(hf _ z).2.1 rfl) ho,r⟩
   ·have nc:∀c u,H c=some u->c∉[z,TI,TO,i1,i2]:=λc u q z=>by rw[(hf c z).1]at q;cases q
    refine(I.hok b u e).stay (λc v hc q=>kp c v ?_ q) (λc q=>q) λc ys q=>q;rcases hc with z|z
    ·rw[z];exact nc b u e
    ·exact nc c _ z
 self:=λ_ _ _ _ _ st h=>wpAny_pyIter_zip st.1 h
noncomputable def qFQ(K:PySem.W.Frag)(ta:TA):L2.TI:=λσ H R=>ta σ H λvs H1=>∃a b,vs=[.ref a,.ref b]/\(∃xs,SqL K H1 a xs)/\(∃ys,SqL K H1 b ys)/\R (Itz K a b) H1
theorem qAv{X:Cx}{ea eb:Expr}{ta:TA}{p pos tpos:Pos}{elts:List Expr}{kk:Nat}(hg:L2.Gl X "zip")(hm:X.mg "zip"=none)(ha:PA X [ea,eb] ta)(h1:qU ea=true)(h2:qU eb=true):
  L2.PI X (.Tuple elts kk tpos) (.Call (.Name "zip" p) [ea,eb] [] pos) (qFQ X.K ta):=by
 intro pins s σ H R I h;refine Call_ (L2.ld_blt I hg hm PyProof.Rows.boot_zip (PyProof.Rows.callWith_type1 (L2.thn (ha pos pins s σ H _ I h) λus s1 ⟨vs,H1,I1,r1,q1⟩=>?_) (qD h1) (zt (by simp[h2]))));obtain⟨a,b,e,⟨xs,hq1⟩,⟨ys,hq2⟩,q⟩:=q1;subst e;cases r1 with
 |cons r rr=>
  cases rr with
  |cons r' rr=>
   cases rr;cases r;cases r';obtain⟨its1,rv1,p1,_⟩:=I1.list hq1;obtain⟨its2,rv2,p2,_⟩:=I1.list hq2;have a1:a<s1.heap.objs.size:=by obtain⟨_,e,_⟩:=p1.isList;exact Heap.lt_size e
   have a2:b<s1.heap.objs.size:=by obtain⟨_,e,_⟩:=p2.isList;exact Heap.lt_size e
   refine call_zip_2 p1.isList p2.isList λh' hz hTI hTO hi1 hi2 _ hk=>?_;refine wpAny_pyIter_zip hz ?_;have I2:Inv X pins σ H1 { s1 with heap:=h' }:=I1.kept (t':=s1.toks) hk;refine⟨_,_,_,_,H1,rfl,I2,d3 _ _ _ _ _ a b (zipApart_new a1 a2),⟨hz,hTI,⟨_,_,hTO⟩,hi1,hi2⟩,λc hc=>?_,q⟩;have hge:s1.heap.objs.size<=c:=by
    simp only[List.mem_cons,wU,or_false]at hc;rcases hc with rfl|rfl|rfl|rfl|rfl
    ·exact vC _ 4
    ·exact vC _ 2
    ·exact vC _ 3
    ·exact Nat.le_refl _
    ·exact vC _ 1
   exact I1.fpOk hge (I1.hok.fresh hge)
abbrev Tu(h:Heap)(T:Addr)(vs:Array Value):Prop:=h.get? T=some { cls:=.type "tuple",data:=.seq vs }
section
variable{P:Program}{w:World}{A:Around}{E:Value->Shared->Prop}{s:Shared}{z ti to i1 i2 i3 a b c:Addr}{f0:Value}{k1 k2 k3:Nat}{xs ys us:Array Value}{p q r:Value}
def Kp(z to i1 i2 i3:Addr)(h g:Heap):Prop:=g.objs.size=h.objs.size/\∀c o,c∉[z,to,i1,i2,i3]->h.get? c=some o->g.get? c=some o
theorem Kp.step{h g g':Heap}{d:Addr}(k:Kp z to i1 i2 i3 h g)(hd:d∈[z,to,i1,i2,i3])(e:Heap.SameBut d g g'):Kp z to i1 i2 i3 h g':=
 ⟨by rw[e.1,k.1],λc o hc ho=>e.extBut c o (λx=>hc (x ▸ hd)) (k.2 c o hc ho)⟩
end
open L2 (PGs TG TGs Itl Itt L3)
section
variable (K:PySem.W.Frag)(G:List Addr)
noncomputable def tG(g:Tg):TG:=λv σc H Q=>∃φ h σ w σ',Rl K G φ h H/\rst φ σ σc/\rv φ w v/\store g w σ h=some σ'/\∀σc',rst φ σ' σc'->Q σc' H
noncomputable def tGs(is:List Nat):TGs:=λvs σc H Q=>∃φ σ ws σ',rst φ σ σc/\rvs φ ws vs/\ZD is ws σ=some σ'/\∀σc',rst φ σ' σc'->Q σc' H
end
section
variable{X:Cx}{G:List Addr}{F:Nat->List V->AH->RV}
theorem qCI{e:Expr}{t t':TG}(h:PG X e t)(w:∀v σ H Q,t' v σ H Q->t v σ H Q):PG X e t':=λpins s σ H v u Q I r q=>h pins s σ H v u Q I r (w v σ H Q q)
theorem i9{e:List Expr}{t t':TGs}(h:PGs X e t)(w:∀v σ H Q,t' v σ H Q->t v σ H Q):PGs X e t':=λpins s σ H v u Q I r q=>h pins s σ H v u Q I r (w v σ H Q q)
variable (X G) in
abbrev SG(e:Expr)(g:Tg):Prop:=PG X e (tG X.K G g)
theorem O1{i:Nat}{x:Str}{pos:Pos}(hN:X.N.Nodup)(hi:X.N[i]?=some x)(hx:L2.Loc X.env.scope x)(hf:X.fn x=true\/X.env.scope.names.lookup x=some .local):SG X G (.Name x pos) (.name i):=by
 refine qCI (L2.pg_name hN hi hx hf) λv σc H Q q=>?_;obtain⟨φ,h,σ,w,σ',R,rs,r,e,k⟩:=q;unfold store at e;cases e;exact k _ (zS (R:=ropt φ) (show ropt φ (some w) (some v) from⟨v,rfl,r⟩) i rs)
theorem qAA:PGs X [] (tGs []):=by
 refine i9 L2.pgs_nil λvs σc H Q q=>?_;obtain⟨φ,σ,ws,σ',rs,r,e,k⟩:=q;cases ws with
 |nil=>
  cases r;cases e;exact⟨rfl,k _ rs⟩
 |cons _ _=>cases e
theorem c7{i:Nat}{is:List Nat}{x:Str}{pos:Pos}{es:List Expr}(hN:X.N.Nodup)(hi:X.N[i]?=some x)(hx:L2.Loc X.env.scope x)(hf:X.fn x=true\/X.env.scope.names.lookup x=some .local)(hs:PGs X es (tGs is)):
  PGs X (.Name x pos::es) (tGs (i::is)):=by
 refine i9 (L2.pgs_cons (L2.pg_name hN hi hx hf) hs rfl) λvs σc H Q q=>?_;obtain⟨φ,σ,ws,σ',rs,r,e,k⟩:=q;cases ws with
 |nil=>cases e
 |cons w ws=>
  cases r with
  |cons r1 rr=>exact⟨_,_,rfl,φ,_,ws,σ',zS (R:=ropt φ) (show ropt φ (some w) (some _) from⟨_,rfl,r1⟩) i rs,rr,e,k⟩
theorem Qx:∀{is:List Nat}{xs:List V}{σ σ':St},ZD is xs σ=some σ'->xs.length=is.length
 | [],[],_,_,_=>rfl
 | [],_::_,_,_,e=>by cases e
 |_::_,[],_,_,e=>by cases e
 |i::is,x::xs,σ,σ',e=>by
  have:=Qx (show ZD is xs _=some σ' from e);simp[this]
theorem qCK{is:List Nat}{es:List Expr}{k:Nat}{pos:Pos}(hc:X.calm=true)(h:PGs X es (tGs is))(hn:(assignEach es X.env).length=is.length)(hst:(assignEach es X.env).findIdx? (·.1)=none):SG X G (.Tuple es k pos) (.tup is):=by
 refine qCI (L2.pg_tup hc h hn hst) λv σc H Q q=>?_;obtain⟨φ,h,σ,w,σ',R,rs,r,e,k⟩:=q;cases w with
 |ref a=>
  unfold store at e;dsimp only at e;split at e
  ·rename_i xs ex;obtain⟨p,zs,hp,hs,rz⟩:=R.tup ex;obtain⟨q,rfl,hq⟩:=qO r;rw[hp]at hq;cases hq;exact⟨_,zs,rfl,hs,by rw[<-Paired.length rz];exact Qx e,φ,σ,xs,σ',rs,rz,e,k⟩
  ·cases e
 |_=>cases e
def IsJ(K:PySem.W.Frag)(φ:List Addr):Src->It->Prop
 | .list p,J=>∃a,φ[p]?=some a/\J=Itl K a
 | .tupl p,J=>∃a,φ[p]?=some a/\J=Itt K a
 | .rng lo n,J=>J=L2.Itr lo n
 | .zip p q,J=>∃a b,φ[p]?=some a/\φ[q]?=some b/\J=Itz K a b
theorem IsJ.mono{K:PySem.W.Frag}{φ φ':List Addr}(x:Ext φ φ'):∀{s:Src}{J:It},IsJ K φ s J->IsJ K φ' s J
 | .list _,_,⟨a,h,e⟩=>⟨a,x.get h,e⟩
 | .tupl _,_,⟨a,h,e⟩=>⟨a,x.get h,e⟩
 | .rng _ _,_,e=>e
 | .zip _ _,_,⟨a,b,h,g,e⟩=>⟨a,b,x.get h,x.get g,e⟩
section
variable{K:PySem.W.Frag}{φ:List Addr}{h h1:AH}{H H':Hp}{s:Src}{J:It}{i:Nat}{x v:V}
theorem IsJ.stop(j:IsJ K φ s J)(R:Rl K G φ h H)(e:jF h i s=true):J.stop i H:=by
 cases s with
 |list p=>
  obtain⟨a,ha,rfl⟩:=j;unfold jF at e;dsimp only at e;split at e
  ·rename_i xs ex;obtain⟨q,zs,hq,hs,rz⟩:=R.lst ex;rw[ha]at hq;cases hq;exact⟨zs,hs,by rw[<-Paired.length rz];exact vP e⟩
  ·cases e
 |tupl p=>
  obtain⟨a,ha,rfl⟩:=j;unfold jF at e;dsimp only at e;split at e
  ·rename_i xs ex;obtain⟨q,zs,hq,hs,rz⟩:=R.tup ex;rw[ha]at hq;cases hq;exact⟨zs,hs,by rw[<-Paired.length rz];exact vP e⟩
  ·cases e
 |rng lo n=>
  cases j;show n<=i;exact vP e
 |zip p q=>
  obtain⟨a,b,ha,hb,rfl⟩:=j;unfold jF at e;dsimp only at e;split at e
  ·rename_i xs ys ex ey;obtain⟨a',zs,hq,hs,rz⟩:=R.lst ex;obtain⟨b',ws,hq',hs',rz'⟩:=R.lst ey;rw[ha]at hq;cases hq;rw[hb]at hq';cases hq';exact⟨zs,ws,hs,hs',by rw[<-Paired.length rz,<-Paired.length rz'];exact vP e⟩
  ·cases e
theorem IsJ.go(j:IsJ K φ s J)(R:Rl K G φ h H)(e:zA h i s=some (x,h1)):J.go i H:=by
 cases s with
 |list p=>
  obtain⟨a,ha,rfl⟩:=j;unfold zA at e;dsimp only at e;split at e
  ·rename_i xs ex;obtain⟨y,ey,e2⟩:=Option.map_eq_some_iff.mp e;obtain⟨q,zs,hq,hs,rz⟩:=R.lst ex;rw[ha]at hq;cases hq;obtain⟨z,hz,_⟩:=qK rz ey;exact⟨zs,z,hs,hz⟩
  ·cases e
 |tupl p=>
  obtain⟨a,ha,rfl⟩:=j;unfold zA at e;dsimp only at e;split at e
  ·rename_i xs ex;obtain⟨y,ey,e2⟩:=Option.map_eq_some_iff.mp e;obtain⟨q,zs,hq,hs,rz⟩:=R.tup ex;rw[ha]at hq;cases hq;obtain⟨z,hz,_⟩:=qK rz ey;exact⟨zs,z,hs,hz⟩
  ·cases e
 |rng lo n=>
  cases j;unfold zA at e;dsimp only at e;split at e
  ·rename_i hl;exact hl
  ·cases e
 |zip p q=>
  obtain⟨a,b,ha,hb,rfl⟩:=j;unfold zA at e;dsimp only at e;split at e
  ·rename_i xs ys ex ey;split at e
   ·rename_i u w eu ew;obtain⟨a',zs,hq,hs,rz⟩:=R.lst ex;obtain⟨b',ws,hq',hs',rz'⟩:=R.lst ey;rw[ha]at hq;cases hq;rw[hb]at hq';cases hq';obtain⟨z,hz,_⟩:=qK rz eu;obtain⟨z',hz',_⟩:=qK rz' ew;exact⟨zs,ws,z,z',hs,hs',hz,hz'⟩
   ·cases e
  ·cases e
theorem IsJ.yld(j:IsJ K φ s J)(R:Rl K G φ h H)(e:zA h i s=some (x,h1))(y:J.yld i H v H'):∃φ',Ext φ φ'/\Rl K G φ' h1 H'/\rv φ' x v:=by
 cases s with
 |list p=>
  obtain⟨a,ha,rfl⟩:=j;unfold zA at e;dsimp only at e;split at e
  ·rename_i xs ex;obtain⟨y',ey,e2⟩:=Option.map_eq_some_iff.mp e;cases e2;obtain⟨q,zs,hq,hs,rz⟩:=R.lst ex;rw[ha]at hq;cases hq;obtain⟨z,hz,rz'⟩:=qK rz ey;obtain⟨rfl,k⟩:=y;have:=k zs hs;rw[hz]at this;cases this;exact⟨φ,.refl _,R,rz'⟩
  ·cases e
 |tupl p=>
  obtain⟨a,ha,rfl⟩:=j;unfold zA at e;dsimp only at e;split at e
  ·rename_i xs ex;obtain⟨y',ey,e2⟩:=Option.map_eq_some_iff.mp e;cases e2;obtain⟨q,zs,hq,hs,rz⟩:=R.tup ex;rw[ha]at hq;cases hq;obtain⟨z,hz,rz'⟩:=qK rz ey;obtain⟨rfl,k⟩:=y;have:=k zs hs;rw[hz]at this;cases this;exact⟨φ,.refl _,R,rz'⟩
  ·cases e
 |rng lo n=>
  cases j;unfold zA at e;dsimp only at e;split at e
  ·cases e;obtain⟨rfl,rfl⟩:=y;exact⟨φ,.refl _,R,rfl⟩
  ·cases e
 |zip p q=>
  obtain⟨a,b,ha,hb,rfl⟩:=j;unfold zA at e;dsimp only at e;split at e
  ·rename_i xs ys ex ey;split at e
   ·rename_i u w eu ew;cases e;obtain⟨a',zs,hq,hs,rz⟩:=R.lst ex;obtain⟨b',ws,hq',hs',rz'⟩:=R.lst ey;rw[ha]at hq;cases hq;rw[hb]at hq';cases hq';obtain⟨z,hz,r1⟩:=qK rz eu;obtain⟨z',hz',r2⟩:=qK rz' ew;obtain⟨p',x',y',hn,rfl,rfl,k1,k2⟩:=y;have t1:=k1 zs hs;have t2:=k2 ws hs';rw[hz]at t1;cases t1;rw[hz']at t2;cases t2;exact⟨φ++[p'],⟨[p'],rfl⟩,R.newT hn (.cons r1 (.cons r2 .nil)),R.lastRef⟩
   ·cases e
  ·cases e
end
variable (G F) in
noncomputable def tI(K:PySem.W.Frag)(it:Itr):L2.TI:=λσc H R=>∃φ h σ s h',Rl K G φ h H/\rst φ σ σc/\evi F it σ h=.ok (s,h')/\∀φ' H' J,Ext φ φ'->Rl K G φ' h' H'->IsJ K φ' s J->R J H'
variable (X G F) in
abbrev SI(tg iter:Expr)(it:Itr):Prop:=L2.PI X tg iter (tI G F X.K it)
theorem e6{tg e:Expr}{t t':L2.TI}(h:L2.PI X tg e t)(w:∀σ H Q,t' σ H Q->t σ H Q):L2.PI X tg e t':=λpins s σ H Q I q=>h pins s σ H Q I (w σ H Q q)
variable{a b:E}{ea eb tg:Expr}{pos p:Pos}
noncomputable def qE0(K:PySem.W.Frag)(tl:TE):L2.TI:=λσ H R=>tl σ H λx H1=>∃a,x=.ref a/\(((∃xs,SqL K H1 a xs)/\R (Itl K a) H1)\/((∃xs,SqT K H1 a xs)/\R (Itt K a) H1))
theorem qBH{l:Expr}{tl:TE}(hl:PE X l tl):L2.PI X tg l (qE0 X.K tl):=by
 intro pins s σ H R I h;refine L2.thn (hl pins s σ H _ I h) λv s1 ⟨x,H1,I1,r1,q1⟩=>?_;obtain⟨a,e,q⟩:=q1;subst e;cases r1;rcases q with⟨⟨xs,hq⟩,q⟩|⟨⟨xs,hq⟩,q⟩
 ·obtain⟨its,rv,p,hz⟩:=I1.list hq;refine wpAny_pyIter_list p.isList ?_;refine⟨s1.heap.objs.size,[s1.heap.objs.size],_,_,H1,rfl,I1.kept (t':=s1.toks) λb o e=>Heap.get?_push_of_some _ e,L2.turn_list a _,⟨_,Heap.get?_push_size _ rfl,rfl,rfl⟩,λb hb=>?_,q⟩;have e:b=s1.heap.objs.size:=by simpa using hb
  subst e;exact I1.fpOk (Nat.le_refl _) (I1.hok.fresh (Nat.le_refl _))
 ·obtain⟨its,rv,p,hz⟩:=I1.tuple hq;refine wpAny_pyIter_tuple (show s1.heap.IsTuple a its.toArray from p) ?_;refine⟨s1.heap.objs.size,[s1.heap.objs.size],_,_,H1,rfl,I1.kept (t':=s1.toks) λb o e=>Heap.get?_push_of_some _ e,L2.turn_tuple a _,⟨_,Heap.get?_push_size _ rfl,rfl,rfl⟩,λb hb=>?_,q⟩;have e:b=s1.heap.objs.size:=by simpa using hb
  subst e;exact I1.fpOk (Nat.le_refl _) (I1.hok.fresh (Nat.le_refl _))
theorem T6(ha:SE X G F ea a):SI X G F tg ea (.list a):=by
 refine e6 (qBH ha) λσc H Q q=>?_;obtain⟨φ,h,σ,s,h',R,rs,e,k⟩:=q;unfold evi at e;obtain⟨⟨x,h1⟩,e1,e⟩:=Res.bind_inv e;refine⟨φ,h,σ,x,h1,R,rs,e1,λφ1 H1 w x1 R1 r1=>?_⟩;cases x with
 |ref p=>
  dsimp only at e;cases ey:h1[p]? with
  |none=>rw[ey]at e;cases e
  |some o=>
   cases o with
   |lst fz ys=>
    rw[ey]at e;cases e;obtain⟨q,zs,hq,hs,rz⟩:=R1.lst (i:=p) (xs:=ys) (by unfold qS;rw[ey]);obtain⟨q',rfl,hq'⟩:=qO r1;rw[hq]at hq';cases hq';exact⟨_,rfl,.inl ⟨⟨zs,hs⟩,k φ1 H1 _ x1 R1 ⟨_,hq,rfl⟩⟩⟩
   |tup ys=>
    rw[ey]at e;cases e;obtain⟨q,zs,hq,hs,rz⟩:=R1.tup (i:=p) (xs:=ys) (by unfold qY;rw[ey]);obtain⟨q',rfl,hq'⟩:=qO r1;rw[hq]at hq';cases hq';exact⟨_,rfl,.inr ⟨⟨zs,hs⟩,k φ1 H1 _ x1 R1 ⟨_,hq,rfl⟩⟩⟩
   |ob ks=>rw[ey]at e;cases e
 |_=>cases e
theorem qAI(hg:L2.Gl X "range")(hm:X.mg "range"=none)(hn:qU ea=true)(ha:SE X G F ea a):SI X G F tg (.Call (.Name "range" p) [ea] [] pos) (.rng1 a):=by
 refine e6 (L2.pi_range1 hg hm (L2.pa_cons ha L2.pa_nil (qD hn)) (qD hn)) λσc H Q q=>?_;obtain⟨φ,h,σ,s,h',R,rs,e,k⟩:=q;unfold evi at e;obtain⟨⟨x,h1⟩,e1,e⟩:=Res.bind_inv e;refine⟨φ,h,σ,x,h1,R,rs,e1,λφ1 H1 w x1 R1 r1=>?_⟩;cases x with
 |int j=>
  dsimp only at e;split at e
  ·rename_i hj;cases e;cases qA r1;exact⟨j,rfl,by omega,by omega,k φ1 H1 _ x1 R1 rfl⟩
  ·cases e
 |_=>cases e
theorem v0(hg:L2.Gl X "range")(hm:X.mg "range"=none)(hn:qU ea=true)(hn2:qU eb=true)(ha:SE X G F ea a)(hb:SE X G F eb b):SI X G F tg (.Call (.Name "range" p) [ea,eb] [] pos) (.rng2 a b):=by
 refine e6 (L2.pi_range2 hg hm (L2.pa_cons ha (L2.pa_cons hb L2.pa_nil (qD hn2)) (qD hn)) (by rw[qD hn,qD hn2];rfl) (qD hn2)) λσc H Q q=>?_;obtain⟨φ,h,σ,s,h',R,rs,e,k⟩:=q;unfold evi at e;obtain⟨⟨x,h1⟩,e1,e⟩:=Res.bind_inv e;obtain⟨⟨y,h2⟩,e2,e⟩:=Res.bind_inv e;refine jh R rs e1 e2 λφ2 H2 xc yc x2 R2 r1 r2=>?_;cases x with
 |int i=>
  cases y with
  |int j=>
   dsimp only at e;split at e
   ·rename_i hj;cases e;cases qA r1;cases qA r2;exact⟨i,j,rfl,⟨by omega,by omega,by omega,by omega⟩,k φ2 H2 _ x2 R2 rfl⟩
   ·cases e
  |_=>cases e
 |_=>cases e
theorem qAt{elts:List Expr}{kk:Nat}{tpos:Pos}(hg:L2.Gl X "zip")(hm:X.mg "zip"=none)(hn:qU ea=true)(hn2:qU eb=true)(ha:SE X G F ea a)(hb:SE X G F eb b):
  SI X G F (.Tuple elts kk tpos) (.Call (.Name "zip" p) [ea,eb] [] pos) (.zip a b):=by
 refine e6 (qAv hg hm (L2.pa_cons ha (L2.pa_cons hb L2.pa_nil (qD hn2)) (qD hn)) hn hn2) λσc H Q q=>?_;obtain⟨φ,h,σ,s,h',R,rs,e,k⟩:=q;unfold evi at e;obtain⟨⟨x,h1⟩,e1,e⟩:=Res.bind_inv e;obtain⟨⟨y,h2⟩,e2,e⟩:=Res.bind_inv e;refine jh R rs e1 e2 λφ2 H2 xc yc x2 R2 r1 r2=>?_;cases x with
 |ref i=>
  cases y with
  |ref j=>
   dsimp only at e;split at e
   ·rename_i xs ys ex ey;cases e;obtain⟨a',zs,hq,hs,rz⟩:=R2.lst ex;obtain⟨b',ws,hq',hs',rz'⟩:=R2.lst ey;obtain⟨a2,rfl,ha2⟩:=qO r1;obtain⟨b2,rfl,hb2⟩:=qO r2;rw[hq]at ha2;cases ha2;rw[hq']at hb2;cases hb2;exact⟨_,_,rfl,⟨zs,hs⟩,⟨ws,hs'⟩,k φ2 H2 _ x2 R2 ⟨_,_,hq,hq',rfl⟩⟩
   ·cases e
  |_=>cases e
 |_=>cases e
end
section
variable{X:Cx}{G:List Addr}{F:Nat->List V->AH->RV}
theorem qBR{φ:List Addr}:∀{v w w':V},rv φ v w->rv φ v w'->w=w'
 | .ref _,w,w',h,g=>by
  obtain⟨a,e1,h1⟩:=qO h;obtain⟨b,e2,g1⟩:=qO g;rw[h1]at g1;cases g1;rw[e1,e2]
 | .non,_,_,h,g=>by rw[zM h,zM g]
 | .bl _,_,_,h,g=>by rw[zO h,zO g]
 | .int _,_,_,h,g=>by rw[qA h,qA g]
 | .str _,_,_,h,g=>by rw[ze h,ze g]
 | .byt _,w,_,h,_=>by cases w<;>exact False.elim h
 | .flt _,w,_,h,_=>by cases w<;>exact False.elim h
 | .ty _,w,_,h,_=>by cases w<;>exact False.elim h
theorem Jv{φ:List Addr}:∀{vs ws us:List V},rvs φ vs ws->rvs φ vs us->ws=us
 |_,_,_,.nil,.nil=>rfl
 |_,_,_,.cons r t,.cons r' t'=>by rw[qBR r r',Jv t t']
theorem QU{φ:List Addr}{σ σc:St}(r:rst φ σ σc):∀src,rst φ (L2.inner src σ) (L2.inner src σc)
 | []=>.nil
 |none::src=>.cons trivial (QU r src)
 |some j::src=>by
  refine .cons ?_ (QU r src);show ropt φ (σ[j]?).join (σc[j]?).join;cases e:σ[j]? with
  |none=>exact trivial
  |some o=>
   cases o with
   |none=>exact trivial
   |some v=>
    obtain⟨oc,ec,r'⟩:=qK r e;obtain⟨w,rfl,r'⟩:=r';rw[ec];exact⟨w,rfl,r'⟩
variable (X G F) in
abbrev SC(ifs:List Expr)(c:Es):Prop:=L2.PTs X ifs (tB X.K G (evc F c))
theorem qBT:SC X G F [] .nil:=by
 intro pins s σ H Q I q;obtain⟨φ,h,σa,b,h',R,rs,e,k⟩:=q;unfold evc at e;cases e;exact L2.pts_nil pins s σ H Q I (k φ H (.refl _) R)
theorem qA1{c:Expr}{a:E}(hc:ST X G F c a):SC X G F [c] (.cons a .nil):=by
 intro pins s σ H Q I q;obtain⟨φ,h,σa,b,h',R,rs,e,k⟩:=q;unfold evc at e;exact L2.pts_one hc pins s σ H Q I ⟨φ,h,σa,b,h',R,rs,e,k⟩
theorem L9{it:Itr}{src:List (Option Nat)}{g:Tg}{c:Es}{e:E}{σc:St}{H:Hp}{Q:VK}(q:tE X.K G F (.comp it src g c e) σc H Q):
  L2.tComp (tI G F X.K it) src (tG X.K G g) (tB X.K G (evc F c)) (tE X.K G F e) σc H Q:=by
 obtain⟨φ,h,σ,v,h',R,rs,ee,k⟩:=q;unfold ev at ee;obtain⟨⟨s,h1⟩,e1,ee⟩:=Res.bind_inv ee;refine⟨φ,h,σ,s,h1,R,rs,e1,λφ1 H1 J x1 R1 j1=>?_⟩;dsimp only at ee;split at ee
 ·rename_i n hn;intro D hD;have R2:Rl X.K G (φ1++[D]) (h1++[.lst false []]) (upd H1 D (.lst [])):=R1.newL hD .nil;have hDφ:(φ1++[D])[h1.length]?=some D:=R1.lastRef;refine⟨λi m ys σ' H'=>∃φ' h2 σa ya,Ext (φ1++[D]) φ'/\Rl X.K G φ' h2 H'/\rst φ' σa σ'/\rvs φ' ya ys/\h2[h1.length]?=some (.lst false ya)/\Jd s g (evc F c) (ev F e) h1.length m i ya σa h2=.ok (v,h'),
   ⟨n,φ1++[D],_,_,[],.refl _,R2,QU (rst.mono (x1.trans ⟨[D],rfl⟩) rs) src,.nil,by simp,ee⟩,?_⟩
  rintro i m ys σ' H' ⟨φ',h2,σa,ya,x2,Ra,rsa,rya,hya,ec⟩ hys;have jj:IsJ X.K φ' s J:=j1.mono (Ext.trans ⟨[D],rfl⟩ x2);have hDφ':=x2.get hDφ;cases m with
  |zero=>
   unfold Jd at ec;split at ec
   ·rename_i hst;cases ec;exact .inl ⟨jj.stop Ra hst,k φ' H' _ ((x1.trans ⟨[D],rfl⟩).trans x2) Ra hDφ'⟩
   ·cases ec
  |succ m=>
   unfold Jd at ec;split at ec
   ·rename_i x h3 hy;split at ec
    ·rename_i σ3 hst;refine .inr ⟨jj.go Ra hy,λxv H2 hyl=>?_⟩;obtain⟨φ3,x3,R3,rx⟩:=jj.yld Ra hy hyl;refine⟨φ3,h3,σa,x,σ3,R3,rst.mono x3 rsa,rx,hst,λσc3 rs3=>?_⟩;obtain⟨⟨t,h4⟩,e4,ec⟩:=Res.bind_inv ec;refine⟨φ3,h3,σ3,t,h4,R3,rs3,e4,λφ4 H4 x4 R4=>?_⟩;dsimp only at ec;cases t with
     |true=>
      rw[if_pos rfl]at ec ⊢;obtain⟨⟨y,h5⟩,e5,ec⟩:=Res.bind_inv ec;refine⟨φ4,h4,σ3,y,h5,R4,rst.mono x4 rs3,e5,λφ5 H5 yc x5 R5 r5=>?_⟩;dsimp only at ec;split at ec
      ·rename_i hc5;have xx:Ext φ' φ5:=x3.trans (x4.trans x5);have hD5:=xx.get hDφ';obtain⟨zs,hz,rz⟩:=R5.obj _ _ D hc5.1 hD5;have ez:zs=ys:=Jv rz (rvs.mono xx rya);subst ez;refine⟨hz,by rw[<-Paired.length rz];exact wa hc5.2 m6,m,Nat.lt_succ_self _,φ5,_,σ3,_,x2.trans xx,R5.set hc5.1 hD5 (qI rz (.cons r5 .nil)),rst.mono (x4.trans x5) rs3,qI rz (.cons r5 .nil),?_,ec⟩;rw[List.getElem?_set_self (List.getElem?_eq_some_iff.mp hc5.1).1]
      ·cases ec
     |false=>
      rw[if_neg (by decide)]at ec ⊢;split at ec
      ·rename_i hc4;have xx:Ext φ' φ4:=x3.trans x4;have hD4:=xx.get hDφ';obtain⟨zs,hz,rz⟩:=R4.obj _ _ D hc4 hD4;have ez:zs=ys:=Jv rz (rvs.mono xx rya);subst ez;exact⟨hz,m,Nat.lt_succ_self _,φ4,_,σ3,_,x2.trans xx,R4,rst.mono x4 rs3,rz,hc4,ec⟩
      ·cases ec
    ·cases ec
   ·cases ec
 ·cases ee
end
section
variable{X:Cx}{G:List Addr}{F:Nat->List V->AH->RV}{a b c:E}{ea eb ec tg:Expr}{pos:Pos}
theorem N6{iter elt:Expr}{ifs:List Expr}{scope:Scope}{N:List Str}{it:Itr}{src:List (Option Nat)}{g:Tg}{cs:Es}{e:E}(hc:X.calm=true)(hi:SI X G F tg iter it)(S:L2.CompScope X scope N src)
  (hg:∀C fp s H,SG (L2.cxComp X scope C fp s H N) G tg g) (ht:∀C fp s H,SC (L2.cxComp X scope C fp s H N) G F ifs cs) (he:∀C fp s H,SE (L2.cxComp X scope C fp s H N) G F elt e)
  (hs:∀x,foldedSetIterable iter X.env x=pure x):SE X G F (.ListComp elt [⟨tg,iter,ifs,0⟩] scope pos) (.comp it src g cs e):=
 qi (L2.pe_comp hc hi S hg ht he hs) λ_ _ _=>L9
def Post(K:PySem.W.Frag)(G:List Addr)(D:L3)(φ:List Addr)(o:Out)(h':AH):Prop:=∀φ' H',Ext φ φ'->Rl K G φ' h' H'->match o with
 | .nx σ=>∀σc,rst φ' σ σc->D.nx σc H'
 | .rt v=>∀w,rv φ' v w->D.rt w H'
 | .bk σ=>∀σc,rst φ' σ σc->D.bk σc H'
 | .ct σ=>∀σc,rst φ' σ σc->D.ct σc H'
theorem Post.mono{K:PySem.W.Frag}{D:L3}{φ φ1:List Addr}{o:Out}{h':AH}(x:Ext φ φ1)(p:Post K G D φ o h'):Post K G D φ1 o h':=λφ' H' x' R=>p φ' H' (x.trans x') R
noncomputable def tS(K:PySem.W.Frag)(G:List Addr)(r:St->AH->RS):TS:=λD σc H=>∃φ h σ o h',Rl K G φ h H/\rst φ σ σc/\r σ h=.ok (o,h')/\Post K G D φ o h'
variable (X G F) in
abbrev SS(st:Stmt)(s:S):Prop:=PS X st (tS X.K G (ex F s))
variable (X G F) in
abbrev SSs(st:List Stmt)(s:Ss):Prop:=PSs X st (tS X.K G (exs F s))
theorem ZZ{e:Stmt}{t t':TS}(h:PS X e t)(w:∀D σ H,t' D σ H->t D σ H):PS X e t':=λpins s σ H D I q=>h pins s σ H D I (w D σ H q)
theorem h8{e:List Stmt}{t t':TS}(h:PSs X e t)(w:∀D σ H,t' D σ H->t D σ H):PSs X e t':=λpins s σ H D I q=>h pins s σ H D I (w D σ H q)
theorem qc{st:Stmt}:SS X G F st .stop:=by
 intro pins s σ H D I q;obtain⟨φ,h,σa,o,h',R,rs,e,k⟩:=q;unfold ex at e;cases e
noncomputable def jY:Expr->Bool
 | .ListComp ..=>false
 | .SetComp ..=>false
 | .DictComp ..=>false
 |_=>true
noncomputable def qBd:Expr->Bool
 | .Tuple ..=>false
 |_=>true
theorem Qe{e:Expr}{t:Option Expr}{l:Nat}{env:Env}(h:jY e=true):swapsWith e t l env=pure false:=by
 cases e<;>first|rfl|cases h
theorem jl{e t:Expr}{l:Nat}{env:Env}(h:jY e=true):swapsWithSole [t] e l env=pure false:=Qe h
theorem v4{K:PySem.W.Frag}{σ:St}{H:Hp}{Q Q':VK}(q:tE K G F a σ H Q)(w:∀v H,Q v H->Q' v H):tE K G F a σ H Q':=by
 obtain⟨φ,h,σa,v,h',R,rs,e,k⟩:=q;exact⟨φ,h,σa,v,h',R,rs,e,λφ' H' u x' R' r'=>w u H' (k φ' H' u x' R' r')⟩
theorem E5{g:Tg}{D:L3}{σc:St}{H:Hp}(q:tS X.K G (ex F (.asg g a)) D σc H):L2.tAsg (tE X.K G F a) (tG X.K G g) D σc H:=by
 obtain⟨φ,h,σ,o,h',R,rs,e,k⟩:=q;unfold ex at e;obtain⟨⟨x,h1⟩,e1,e⟩:=Res.bind_inv e;dsimp only at e;split at e
 ·rename_i σ1 es;cases e;exact⟨φ,h,σ,x,_,R,rs,e1,λφ1 H1 w x1 R1 r1=>⟨φ1,_,σ,x,σ1,R1,rst.mono x1 rs,r1,es,λσc' rs'=>k φ1 H1 x1 R1 σc' rs'⟩⟩
 ·cases e
theorem qBq{is:List Nat}{es:List Expr}{kk:Nat}{p:Pos}(hg:SG X G (.Tuple es kk p) (.tup is))(ha:SE X G F ea a)(hc:jY ea=true)(ht:qBd ea=true):
  SS X G F (.Assign [.Tuple es kk p] ea pos) (.asg (.tup is) a):=
 ZZ (L2.ps_asg ha hg (jl hc) (by cases ea<;>first|rfl|cases ht) rfl) λ_ _ _=>E5
theorem p9{iter elt:Expr}{ifs:List Expr}{scope:Scope}{N:List Str}{it:Itr}{src:List (Option Nat)}{g:Tg}{cs:Es}{e:E}{i:Nat}{n:Str}{p cpos:Pos}(hc:X.calm=true)(hi:SI X G F tg iter it)(S:L2.CompScope X scope N src)
  (hg:∀C fp s H,SG (L2.cxComp X scope C fp s H N) G tg g) (ht:∀C fp s H,SC (L2.cxComp X scope C fp s H N) G F ifs cs) (he:∀C fp s H,SE (L2.cxComp X scope C fp s H N) G F elt e)
  (hs:∀x,foldedSetIterable iter X.env x=pure x) (hN:X.N.Nodup) (hn:X.N[i]?=some n) (hx:L2.Loc X.env.scope n) (hf:X.fn n=true\/X.env.scope.names.lookup n=some .local):
  SS X G F (.Assign [.Name n p] (.ListComp elt [⟨tg,iter,ifs,0⟩] scope cpos) pos) (.asg (.name i) (.comp it src g cs e)):=by
 have hsw:swapsWith (.ListComp elt [⟨tg,iter,ifs,0⟩] scope cpos) (some (.Name n p)) pos.line X.env=pure (X.env.blockKind==.function&&X.env.kindOf n==some .local&&p.line==(Expr.ListComp elt [⟨tg,iter,ifs,0⟩] scope cpos).pos.line
   && !(scope.names.any λ(m,k)=>m==n&&(k==.local||k==.cell))):=rfl
 generalize hb:(X.env.blockKind==.function&&X.env.kindOf n==some .local&&p.line==(Expr.ListComp elt [⟨tg,iter,ifs,0⟩] scope cpos).pos.line
   && !(scope.names.any λ(m,k)=>m==n&&(k==.local||k==.cell)))=bb at hsw
 cases bb with
 |true=>
  have hl:X.env.scope.names.lookup n=some .local:=by
   simp only[Bool.and_eq_true]at hb;have z:X.env.kindOf n=some .local:=by simpa using hb.1.1.2
   exact z
  refine ZZ (L2.ps_setcomp (i:=i) (g:=tG X.K G g) (tc:=tB X.K G (evc F cs)) (te:=tE X.K G F e) hc hi S hg ht he hsw hN hn hl hs) λD σc H q=>?_;refine L9 (v4 (E5 q) λv H1 z=>?_);obtain⟨φ,h,σ,w,σ',R,rs,r,es,k⟩:=z;unfold store at es;cases es;exact k _ (zS (R:=ropt φ) (show ropt φ (some w) (some v) from⟨v,rfl,r⟩) i rs)
 |false=>exact ZZ (L2.ps_asg (N6 hc hi S hg ht he hs) (O1 hN hn hx hf) hsw rfl rfl) λ_ _ _=>E5
noncomputable def qDQ:L2.TSet:=λo i v H Q=>L2.rSetL o i v H Q\/∃p H',o=.ref p/\L2.DPut H p i v H'/\Q H'
theorem qAD(hu:X.A.units+8<cLine):L2.PSet X qDQ:=by
 intro pins s σ H o i v ov iv u Q I ro ri rv h;rcases h with h|⟨p,H',rfl,g,q⟩
 ·exact L2.set_list pins s σ H o i v ov iv u Q I ro ri rv h
 ·cases ro;exact L2.d_setItem (by omega) I g ri rv λs' I'=>⟨H',I',q⟩
theorem qB0(hu:X.A.units+8<cLine){eo ei:Expr}{o i:E}{p:Pos}(ho:SE X G F eo o)(hi:SE X G F ei i)(ha:SE X G F ea a)(hc:jY ea=true)(hsl:Qn ei=true):SS X G F (.Assign [.Subscript eo ei p] ea pos) (.put o i a):=by
 refine ZZ (L2.ps_asg ha (L2.pg_sub ho hi (qAD hu) (λv=>by cases ei<;>first|rfl|cases hsl)) (jl hc) (by cases ea<;>rfl) rfl) λD σc H q=>?_;obtain⟨φ,h,σ,out,h',R,rs,e,k⟩:=q;unfold ex at e;obtain⟨⟨x,h1⟩,e1,e⟩:=Res.bind_inv e;obtain⟨⟨p1,h2⟩,e2,e⟩:=Res.bind_inv e;obtain⟨⟨k1,h3⟩,e3,e⟩:=Res.bind_inv e;refine⟨φ,h,σ,x,h1,R,rs,e1,λφ1 H1 w x1 R1 r1=>?_⟩;refine⟨φ1,h1,σ,p1,h2,R1,rst.mono x1 rs,e2,λφ2 H2 w2 x2 R2 r2=>?_⟩;refine⟨φ2,h2,σ,k1,h3,R2,rst.mono (x1.trans x2) rs,e3,λφ3 H3 w3 x3 R3 r3=>?_⟩;cases p1 with
 |ref q=>
  cases k1 with
  |int j=>
   dsimp only at e;split at e
   ·rename_i xs ex1;split at e
    ·rename_i jj ej;cases e;obtain⟨q1,a',zs,ha',hH,rz⟩:=R3.mut ex1;obtain⟨a2,rfl,ha2⟩:=qO (rv.mono x3 r2);rw[ha']at ha2;cases ha2;cases qA r3;refine .inl ⟨_,zs,j,jj,rfl,rfl,hH,by rw[<-Paired.length rz];exact ej,?_⟩;have xx:Ext φ φ3:=x1.trans (x2.trans x3);exact k φ3 _ xx (R3.set q1 ha' (zS (rv.mono (x2.trans x3) r1) jj rz)) σc (rst.mono xx rs)
    ·cases e
   ·split at e
    ·rename_i kvs ed;split at e
     ·rename_i hf;cases e;obtain⟨a',ea,eh,hH⟩:=R3.dct ed;obtain⟨a2,rfl,ha2⟩:=qO (rv.mono x3 r2);rw[ea]at ha2;cases ha2;cases qA r3;have hl:(kvs.map kk).length<sizeLine:=by rw[wH];exact wC hf.2 QA
      have xx:Ext φ φ3:=x1.trans (x2.trans x3);have fw:=Ju hf.1 r1;subst fw;refine .inr ⟨_,_,rfl,L2.DPut.k (k:=.inl j) hH hl,?_⟩;rw[qAL];exact k φ3 _ xx (R3.write rfl rfl eh ea qH) σc (rst.mono xx rs)
     ·cases e
    ·cases e
  |_=>cases e
 |_=>cases e
theorem w5(ha:SE X G F ea a)(hc:jY ea=true):SS X G F (.Expr ea pos) (.expr a):=by
 refine ZZ (L2.ps_expr ha (Qe hc)) λD σc H q=>?_;obtain⟨φ,h,σ,out,h',R,rs,e,k⟩:=q;unfold ex at e;obtain⟨⟨x,h1⟩,e1,e⟩:=Res.bind_inv e;cases e;exact⟨φ,h,σ,x,_,R,rs,e1,λφ1 H1 w x1 R1 r1=>k φ1 H1 x1 R1 σc (rst.mono x1 rs)⟩
theorem qCA(ha:SE X G F ea a):SS X G F (.Return (some ea) pos) (.ret a):=by
 refine ZZ (L2.ps_ret ha) λD σc H q=>?_;obtain⟨φ,h,σ,out,h',R,rs,e,k⟩:=q;unfold ex at e;obtain⟨⟨x,h1⟩,e1,e⟩:=Res.bind_inv e;cases e;exact⟨φ,h,σ,x,_,R,rs,e1,λφ1 H1 w x1 R1 r1=>k φ1 H1 x1 R1 w r1⟩
theorem qAK:SSs X G F [] .nil:=by
 refine h8 L2.pss_nil λD σc H q=>?_;obtain⟨φ,h,σ,out,h',R,rs,e,k⟩:=q;unfold exs at e;cases e;exact k φ H (.refl _) R σc rs
theorem c8{st:Stmt}{sts:List Stmt}{s:S}{ss:Ss}(h1:SS X G F st s)(h2:SSs X G F sts ss):SSs X G F (st::sts) (.cons s ss):=by
 refine h8 (L2.pss_cons h1 h2) λD σc H q=>?_;obtain⟨φ,h,σ,out,h',R,rs,e,k⟩:=q;unfold exs at e;obtain⟨⟨o,h1⟩,e1,e⟩:=Res.bind_inv e;refine⟨φ,h,σ,o,h1,R,rs,e1,λφ1 H1 x1 R1=>?_⟩;cases o with
 |nx σ1=>exact λσc1 rs1=>⟨φ1,h1,σ1,out,h',R1,rs1,e,k.mono x1⟩
 |rt v=>cases e;exact k φ1 H1 x1 R1
 |bk σ1=>cases e;exact k φ1 H1 x1 R1
 |ct σ1=>cases e;exact k φ1 H1 x1 R1
theorem qAk{t u:List Stmt}{st su:Ss}(hc:ST X G F ec c)(ht:SSs X G F t st)(hu:SSs X G F u su):SS X G F (.If ec t u pos) (.ifs c st su):=by
 refine ZZ (L2.ps_if hc ht hu) λD σc H q=>?_;obtain⟨φ,h,σ,out,h',R,rs,e,k⟩:=q;unfold ex at e;obtain⟨⟨x,h1⟩,e1,e⟩:=Res.bind_inv e;refine⟨φ,h,σ,x,h1,R,rs,e1,λφ1 H1 x1 R1=>?_⟩;dsimp only at e;cases x with
 |true=>
  rw[if_pos rfl]at e ⊢;exact⟨φ1,h1,σ,out,h',R1,rst.mono x1 rs,e,k.mono x1⟩
 |false=>
  rw[if_neg (by decide)]at e ⊢;exact⟨φ1,h1,σ,out,h',R1,rst.mono x1 rs,e,k.mono x1⟩
theorem qB5{iter:Expr}{body:List Stmt}{it:Itr}{g:Tg}{sb:Ss}(hx:X.xe=λ_ _=>False)(hc:X.calm=true)(hi:SI X G F tg iter it)(hg:SG X G tg g)(hb:SSs X G F body sb)
  (hs:∀x,foldedSetIterable iter X.env x=pure x):SS X G F (.For tg iter body [] pos) (.for_ g it sb):=by
 refine ZZ (L2.ps_for (by rw[hx];exact PassesOwn.never) hc hi hg hb hs) λD σc H q=>?_;obtain⟨φ,h,σ,out,h',R,rs,e,k⟩:=q;unfold ex at e;obtain⟨⟨s,h1⟩,e1,e⟩:=Res.bind_inv e;refine⟨φ,h,σ,s,h1,R,rs,e1,λφ1 H1 J x1 R1 j1=>?_⟩;dsimp only at e;split at e
 ·rename_i n hn;refine⟨λi m σ' H'=>∃φ' h2 σa,Ext φ1 φ'/\Rl X.K G φ' h2 H'/\rst φ' σa σ'/\F7 s g (exs F sb) m i σa h2=.ok (out,h'),⟨n,φ1,h1,σ,.refl _,R1,rst.mono x1 rs,e⟩,?_⟩;rintro i m σ' H' ⟨φ',h2,σa,x2,Ra,rsa,ef⟩;have jj:IsJ X.K φ' s J:=j1.mono x2;cases m with
  |zero=>
   unfold F7 at ef;split at ef
   ·rename_i hst;cases ef;exact .inl ⟨jj.stop Ra hst,k φ' H' (x1.trans x2) Ra σ' rsa⟩
   ·cases ef
  |succ m=>
   unfold F7 at ef;split at ef
   ·rename_i x h3 hy;split at ef
    ·rename_i σ3 hst;refine .inr ⟨jj.go Ra hy,λσ' H'=>∃φ' h2 σa,Ext φ1 φ'/\Rl X.K G φ' h2 H'/\rst φ' σa σ'/\F7 s g (exs F sb) m (i+1) σa h2=.ok (out,h'),λσ2 H2 w=>⟨m,Nat.lt_succ_self _,w⟩,λxv H2 hyl=>?_⟩;obtain⟨φ3,x3,R3,rx⟩:=jj.yld Ra hy hyl;refine⟨φ3,h3,σa,x,σ3,R3,rst.mono x3 rsa,rx,hst,λσc3 rs3=>?_⟩;obtain⟨⟨o,h4⟩,e4,ef⟩:=Res.bind_inv ef;refine⟨φ3,h3,σ3,o,h4,R3,rs3,e4,λφ4 H4 x4 R4=>?_⟩;dsimp only at ef;cases o with
     |nx σ4=>exact λσc4 rs4=>⟨φ4,h4,σ4,x2.trans (x3.trans x4),R4,rs4,ef⟩
     |ct σ4=>exact λσc4 rs4=>⟨φ4,h4,σ4,x2.trans (x3.trans x4),R4,rs4,ef⟩
     |bk σ4=>cases ef;exact k φ4 H4 (x1.trans (x2.trans (x3.trans x4))) R4
     |rt v=>cases ef;exact k φ4 H4 (x1.trans (x2.trans (x3.trans x4))) R4
    ·cases ef
   ·cases ef
 ·cases e
end
structure Gam where
 N:List Str
 sc:Scope
 fns:List Str
 gl:List (Str×E)
 bl:List Str
 own:Str->Bool
 cls:List Str:=[]
 xr:Bool:=false
noncomputable def slot(N:List Str)(x:Str):Option Nat:=(List.range N.length).find? λi=>N[i]?==some x
theorem jg{N:List Str}{x:Str}{i:Nat}(h:slot N x=some i):N[i]?=some x:=by
 unfold slot at h;simpa using List.find?_some h
noncomputable def qCs(sc:Scope)(x:Str):Bool:=match sc.names.lookup x with|some .local=>true|some .cell=>true|some .free=>true|_=>false
theorem u3{sc:Scope}{x:Str}(h:qCs sc x=true):L2.Vis sc x:=by
 unfold qCs at h;unfold L2.Vis;split at h<;>first|(rename_i e;simp[e])|cases h
noncomputable def glB(sc:Scope)(x:Str):Bool:=sc.names.lookup x==some .globalImplicit
noncomputable def okN(x:Str):Bool:=!(x==("__debug__":Str))&&!(x==("__classdict__":Str))&&!decide (x="__name__")
noncomputable def qEC:Operator->Option BOp
 | .Add=>some .add | .Sub=>some .sub | .Mult=>some .mul | .FloorDiv=>some .fdiv | .Mod=>some .mod | .Pow=>some .pow | .BitAnd=>some .band | .LShift=>some .shl | .RShift=>some .shr|_=>none
theorem u6{o:Operator}{b:BOp}(h:qEC o=some b):o=opB b:=by
 cases o<;>cases h<;>rfl
noncomputable def K3:CmpOp->COp
 | .Lt=>.lt | .LtE=>.le | .Gt=>.gt | .GtE=>.ge | .Eq=>.eq | .NotEq=>.ne | .In=>.inn | .NotIn=>.notin | .Is=>.is | .IsNot=>.isnot
theorem Jk(o:CmpOp):o=opC (K3 o):=by cases o<;>rfl
noncomputable def Jr:Expr->Bool
 | .Set ..=>false
 |_=>true
noncomputable def Qv:Expr->Bool
 | .Call ..=>false
 |_=>true
noncomputable def bfL:List (Str×BF):=[("len",.len),("sum",.sum),("all",.all),("any",.any),("max",.max),("min",.min),("list",.list),("int",.int)]
noncomputable def qDw(x:Str):Option BF:=bfL.lookup x
theorem Qw{x:Str}{f:BF}:∀{l:List (Str×BF)},l.lookup x=some f->(x,f)∈l
 | [],h=>by cases h
 | (a,b)::l,h=>by
  rw[List.lookup_cons]at h;split at h
  ·rename_i e;cases h;rw[eq_of_beq e];exact List.mem_cons_self ..
  ·exact List.mem_cons_of_mem _ (Qw h)
theorem qBO:∀p∈bfL,bootBuiltins p.1=some (fnB p.2):=
 wV.mpr ⟨PySem.boot_len,wV.mpr ⟨PyProof.Rows.boot_sum,wV.mpr ⟨PyProof.Rows.boot_all,wV.mpr ⟨PyProof.Rows.boot_any,wV.mpr ⟨PyProof.Rows.boot_max,wV.mpr ⟨PyProof.Rows.boot_min,wV.mpr ⟨PyProof.Rows.boot_list,wV.mpr ⟨PyProof.Rows.boot_int,(λ_ h=>absurd h wU)⟩⟩⟩⟩⟩⟩⟩⟩
theorem v7{x:Str}{f:BF}(h:qDw x=some f):bootBuiltins x=some (fnB f):=qBO _ (Qw h)
noncomputable def mt0(m:Str):Option Mt:=if m="pop" then some .pop else if m="reverse" then some .rev else if m="clear" then some .clr else none
noncomputable def qCa(x:Str):Option String:=
 if x="int" then some "int" else if x="bool" then some "bool" else if x="list" then some "list" else if x="tuple" then some "tuple" else if x="str" then some "str" else if x="dict" then some "dict" else none
theorem q0{x:Str}{t:String}(h:qCa x=some t):bootBuiltins x=some (.type t)/\Zz t=true:=by
 unfold qCa at h
 repeat' split at h
 all_goals first|cases h|skip
 all_goals (rename_i hx;subst hx)
 ·exact⟨PyProof.Rows.boot_int,by decide⟩
 ·exact⟨PyProof.Rows.boot_bool,by decide⟩
 ·exact⟨PyProof.Rows.boot_list,by decide⟩
 ·exact⟨PyProof.Rows.boot_tuple,by decide⟩
 ·exact⟨PyProof.Rows.boot_str,by decide⟩
 ·exact⟨PyProof.Rows.boot_dict,by decide⟩
noncomputable def qCN(scope sc:Scope):Scope:=
 { scope with names:=scope.names.map λ(n,k)=>if (k==.free&&sc.kind==.function&&sc.names.lookup n==some .cell) then (n,.cell) else (n,k) }
noncomputable def L6:Expr->List Str
 | .Name x _=>[x]
 | .Tuple es _ _=>es.filterMap λe:Expr=>match e with | .Name x _=>some x|_=>none
 |_=>[]
noncomputable def qBP(scope:Scope):List Str:=scope.names.filterMap λy=>if y.2=.free then some y.1 else none
noncomputable def Zq(Γ:Gam)(scope:Scope)(N:List Str)(src:List (Option Nat)):Bool:=
 decide (scope.kind=.function)&&scope.names.all (λy=>decide (scope.names.lookup y.1=some y.2))
 && scope.names.all (λy=>decide (y.2=.free->(Γ.sc.names.lookup y.1=some .cell\/Γ.sc.names.lookup y.1=some .free)))&&decide N.Nodup&&decide (src.length=N.length)
 && (List.range N.length).all (λi=>match N[i]?,src[i]? with|some x,some (some j)=>decide (Γ.N[j]?=some x/\scope.names.lookup x=some .free)|_,_=>true)
noncomputable def G2(Γ:Gam)(x:Str):Bool:=match Γ.sc.names.lookup x with|some .local=>true|some .cell=>Γ.own x|_=>false
noncomputable def qCO(Γ:Gam):List Expr->Option (List Nat)
 | []=>some []
 | .Name x _::r=>if G2 Γ x then (match slot Γ.N x,qCO Γ r with|some i,some is=>some (i::is)|_,_=>none) else none
 |_=>none
noncomputable def trT(Γ:Gam):Expr->Option Tg
 | .Name x _=>if G2 Γ x then (slot Γ.N x).map .name else none
 | .Tuple es _ _=>(qCO Γ es).map .tup
 |_=>none
noncomputable def qCi:List Expr->Bool
 | [.Call (.Name r _) [_] [] _]=>decide (r="range")
 | [.Call (.Name r _) [_,_] [] _]=>decide (r="range")
 |_=>false
noncomputable def qD7:E->Bool
 |_=>true
mutual
noncomputable def trE:Nat->Gam->Expr->Option E
 | 0,_,_=>none
 |n+1,Γ,e=>match e with
  | .Constant c _ _=>(match c with
   | .int i=>some (.cst (.int i))
   | .bool i=>some (.cst (.bl i))
   | .none=>some (.cst .non)
   | .str i=>some (.cst (.str i))
   |_=>none)
  | .Name x _=>if okN x then (if qCs Γ.sc x then (slot Γ.N x).map .var else if glB Γ.sc x then Γ.gl.lookup x else none) else none
  | .BinOp a op b _=>match qEC op,trE n Γ a,trE n Γ b with|some o,some a',some b'=>some (.bin o a' b')|_,_,_=>none
  | .UnaryOp op a _=>(match op with
   | .USub=>(trE n Γ a).map .neg
   | .Not=>(trE n Γ a).map .not
   |_=>none)
  | .BoolOp op vs p=>trB n Γ op p vs
  | .IfExp c a b _=>match trE n Γ c,trE n Γ a,trE n Γ b with|some c',some a',some b'=>some (.ite c' a' b')|_,_,_=>none
  | .Compare a ops bs _=>(match ops,bs with
   | [op],[b]=>if Jr b then (match trE n Γ a,trE n Γ b with|some a',some b'=>some (.cmp (K3 op) a' b')|_,_=>none) else none
   | [o1,o2],[b,c]=>if Jr c then (match trE n Γ a,trE n Γ b,trE n Γ c with|some a',some b',some c'=>some (.cmp2 (K3 o1) (K3 o2) a' b' c')|_,_,_=>none) else none
   |_,_=>none)
  | .Call fn args kws cpos=>(match kws with
   | []=>(match fn with
    | .Name f _=>if okN f&&glB Γ.sc f&&args.all qU then trC n Γ f args else none
    | .Attribute o m apos=>(match args with
     | [x]=>if m="append"/\Qv o=true/\qU x=true/\(apos.endLine==cpos.line)=true then (match trE n Γ o,trE n Γ x with|some o',some x'=>some (.app o' x')|_,_=>none)
   else if m="pop"/\Qv o=true/\qU x=true/\(apos.endLine==cpos.line)=true then (match trE n Γ o,trE n Γ x with|some o',some x'=>some (.meth .popAt o' (.cons x' .nil))|_,_=>none)  else none
     | []=>if m="bit_length" then (if Qv o=true/\(apos.endLine==cpos.line)=true then (trE n Γ o).map (λo'=>.blt .bits (.cons o' .nil)) else none) else if Qv o=true/\(apos.endLine==cpos.line)=true then (match trE n Γ o,mt0 m with|some o',some k=>some (.meth k o' .nil)|_,_=>none) else none
     | [x,y]=>if m="insert"/\Qv o=true/\qU x=true/\(apos.endLine==cpos.line)=true/\qU y=true then (match trE n Γ o,trE n Γ x,trE n Γ y with|some o',some x',some y'=>some (.meth .ins o' (.cons x' (.cons y' .nil)))|_,_,_=>none) else none
     |_=>none)
    |_=>none)
   |_=>none)
  | .Subscript a b _=>(match b with
   | .Slice lo hi st _=>(match st with
    |none=>(match trE n Γ a,trO n Γ lo,trO n Γ hi with|some a',some l,some h=>some (.sl a' l h)|_,_,_=>none)
    |some _=>none)
   |b=>if Qn b then (match trE n Γ a,trE n Γ b with|some a',some b'=>some (.idx a' b')|_,_=>none) else none)
  | .List es _=>if es.all qU then (trA n Γ es).map .lst else none
  | .Tuple es _ _=>if es.all qU then (trA n Γ es).map .tup else none
  | .Dict ks vs _=>(match ks,vs with|[],[]=>some .dnew|_,_=>none)
  | .ListComp elt gens scope _=>(match gens with
   | [gen]=>(match gen with
    | ⟨tg,iter,ifs,asy⟩=>(match asy with
     | 0=>
      let N:=L6 tg++qBP scope
      let src:=(L6 tg).map (λ_=>none)++(qBP scope).map (slot Γ.N)
      let Γ':Gam:={ Γ with N:=N,sc:=qCN scope Γ.sc,own:=λx=>decide (scope.names.lookup x=some .cell) }
      if Zq Γ scope N src&&Jr iter then (match trI n Γ tg iter,trT Γ' tg,qAd n Γ' ifs,trE n Γ' elt with|some it,some g,some c,some e'=>some (.comp it src g c e')|_,_,_,_=>none) else none
     |_=>none))
   |_=>none)
  |_=>none
noncomputable def trA:Nat->Gam->List Expr->Option Es
 | 0,_,_=>none
 |_+1,_,[]=>some .nil
 |n+1,Γ,e::es=>match trE n Γ e,trA n Γ es with|some a,some as=>some (.cons a as)|_,_=>none
noncomputable def trB:Nat->Gam->BoolOp->Pos->List Expr->Option E
 | 0,_,_,_,_=>none
 |_+1,_,_,_,[]=>none
 |n+1,Γ,_,_,[a]=>trE n Γ a
 |n+1,Γ,op,p,a::b::r=>match trE n Γ a,trB n Γ op p (b::r) with|some a',some b'=>some (match op with | .And=>.and a' b' | .Or=>.or a' b')|_,_=>none
noncomputable def trC:Nat->Gam->Str->List Expr->Option E
 | 0,_,_,_=>none
 |n+1,Γ,f,args=>match slot Γ.fns f with
  |some i=>(trA n Γ args).map (.call i)
  |none=>if Γ.bl.contains f then
    (if f="isinstance" then (match args with
     | [a,.Name t _]=>if okN t&&glB Γ.sc t&&Γ.bl.contains t then (match trE n Γ a,qCa t with|some a',some t'=>some (.isi a' [t'])|_,_=>none) else none
     |_=>none)
    else if f="list"/\qCi args=true then (match args with
     | [.Call (.Name r _) [a] [] _]=>if okN r&&glB Γ.sc r&&Γ.bl.contains r&&qU a&&decide (r="range") then (trE n Γ a).map .lrng else none
     |_=>none)
    else match qDw f,args with
     |some b,_::_=>(trA n Γ args).map (.blt b)
     |_,_=>none)
   else none
noncomputable def trO:Nat->Gam->Option Expr->Option Es
 | 0,_,_=>none
 |_+1,_,none=>some .nil
 |n+1,Γ,some e=>(trE n Γ e).map λa=>.cons a .nil
noncomputable def qAd:Nat->Gam->List Expr->Option Es
 | 0,_,_=>none
 |_+1,_,[]=>some .nil
 |n+1,Γ,[c]=>(trE n Γ c).map λa=>.cons a .nil
 |_,_,_=>none
noncomputable def trI:Nat->Gam->Expr->Expr->Option Itr
 | 0,_,_,_=>none
 |n+1,Γ,tg,iter=>match iter with
  | .Call (.Name f _) args [] _=>
   if f="range" then (if glB Γ.sc f&&Γ.bl.contains f&&args.all qU then (match args with
    | [a]=>(trE n Γ a).map .rng1
    | [a,b]=>match trE n Γ a,trE n Γ b with|some a',some b'=>some (.rng2 a' b')|_,_=>none
    |_=>none) else none)
   else if f="zip" then (if glB Γ.sc f&&Γ.bl.contains f&&args.all qU then (match tg,args with
    | .Tuple ..,[a,b]=>match trE n Γ a,trE n Γ b with|some a',some b'=>some (.zip a' b')|_,_=>none
    |_,_=>none) else none)
   else (trE n Γ iter).map .list
  |_=>(trE n Γ iter).map .list
end
mutual
noncomputable def trS:Nat->Gam->Stmt->S
 | 0,_,_=>.stop
 |n+1,Γ,st=>match st with
  | .Assign ts v _=>(match ts with
   | [tgt]=>(match tgt with
    | .Name x _=>(match trT Γ (.Name x ⟨0,0,0,0⟩),trE 60 Γ v with|some g,some a=>if qD7 a then .asg g a else .stop|_,_=>.stop)
    | .Tuple es k p=>(match es,v with
     | [.Name _ _,.Name _ _],.Tuple [_,_] _ _=>.stop
     |es,v=>if jY v&&qBd v then (match trT Γ (.Tuple es k p),trE 60 Γ v with|some g,some a=>.asg g a|_,_=>.stop) else .stop)
    | .Subscript o i _=>if jY v&&Qn i then (match trE 60 Γ o,trE 60 Γ i,trE 60 Γ v with|some o',some i',some v'=>.put o' i' v' | _,_,_=>.stop) else .stop
    |_=>.stop)
   |_=>.stop)
  | .Expr e _=>if jY e then (match trE 60 Γ e with|some a=>.expr a|none=>.stop) else .stop
  | .Return r _=>(match r with
   |some e=>(match trE 60 Γ e with|some a=>.ret a|none=>.stop)
   |none=>.stop)
  | .If c t u _=>match trE 60 Γ c with|some c'=>.ifs c' (Q0 n Γ t) (Q0 n Γ u)|none=>.stop
  | .For tg iter b els _=>(match els with
   | []=>if Jr iter then (match trI 60 Γ tg iter,trT Γ tg with|some it,some g=>.for_ g it (Q0 n Γ b)|_,_=>.stop) else .stop
   |_=>.stop)
  |_=>.stop
noncomputable def Q0:Nat->Gam->List Stmt->Ss
 | 0,_,_=>.cons .stop .nil
 |_+1,_,[]=>.nil
 |n+1,Γ,s::r=>.cons (trS n Γ s) (Q0 n Γ r)
end
structure Fit(Γ:Gam)(X:Cx)(G:List Addr)(F:Nat->List V->AH->RV):Prop where
 hN:X.N=Γ.N
 nd:Γ.N.Nodup
 sc:X.env.scope=Γ.sc
 calm:X.calm=true
 fn:∀x,Γ.own x=true->X.fn x=true
 fns:∀(f:Nat) x,Γ.fns[f]?=some x->FnS X G F f x
 gls:∀x e,Γ.gl.lookup x=some e->(∃v u,e=.cst v/\X.mg x=some u/\RelV v u/\∀φ,rv φ v v)\/(∃g a,e=.glob g/\X.mg x=some (.ref a)/\G[g]?=some a)
 blt:∀x,Γ.bl.contains x=true->X.mg x=none
 hu:X.A.units+8<cLine
 gd:X.A.guards=some []
 gtu:∀a∈G,∃o,X.K.lookup a=some o/\o.cls=.type "tuple"/\o.dict=none
section
variable{Γ:Gam}{X:Cx}{G:List Addr}{F:Nat->List V->AH->RV}
theorem N7{x:Str}(h:okN x=true):(x==("__debug__":Str))=false/\(x==("__classdict__":Str))=false/\x≠"__name__":=by
 unfold okN at h;simp only[Bool.and_eq_true,Bool.not_eq_true',decide_eq_false_iff_not]at h;exact⟨h.1.1,h.1.2,h.2⟩
theorem Fit.gl'(f:Fit Γ X G F){x:Str}(h:glB Γ.sc x=true):L2.Gl X x:=by
 unfold L2.Gl Env.kindOf;rw[f.sc];simpa [glB] using h
theorem Fit.store(f:Fit Γ X G F){x:Str}(h:G2 Γ x=true):L2.Loc X.env.scope x/\(X.fn x=true\/X.env.scope.names.lookup x=some .local):=by
 rw[f.sc];unfold G2 at h;unfold L2.Loc;split at h
 ·rename_i e;exact⟨.inl e,.inr e⟩
 ·rename_i e;exact⟨.inr e,.inl (f.fn x h)⟩
 ·cases h
theorem g5(f:Fit Γ X G F):∀{es:List Expr}{is:List Nat},qCO Γ es=some is->PGs X es (tGs is)/\(assignEach es X.env).length=is.length/\(assignEach es X.env).findIdx? (·.1)=none
 | [],is,h=>by
  cases h;exact⟨qAA,rfl,rfl⟩
 |e::es,is,h=>by
  unfold qCO at h;split at h
  ·rename_i e1;cases e1
  ·rename_i x p r e1;cases e1;split at h
   ·rename_i hs;split at h
    ·rename_i i is' ei eis;cases h;obtain⟨h1,h2⟩:=f.store hs;obtain⟨g1,g2,g3⟩:=g5 f eis;refine⟨c7 (by rw[f.hN];exact f.nd) (by rw[f.hN];exact jg ei) h1 h2 g1,?_,?_⟩
     ·show (assignEach es X.env).length+1=_;rw[g2];rfl
     ·show (((false,assign (.Name x p) X.env)::assignEach es X.env).findIdx? (·.1))=none;rw[List.findIdx?_cons,g3];rfl
    ·cases h
   ·cases h
  ·cases h
theorem N1(f:Fit Γ X G F){tg:Expr}{g:Tg}(h:trT Γ tg=some g):SG X G tg g:=by
 unfold trT at h;split at h
 ·rename_i x p;split at h
  ·rename_i hs;obtain⟨i,ei,rfl⟩:=Option.map_eq_some_iff.mp h;obtain⟨h1,h2⟩:=f.store hs;exact O1 (by rw[f.hN];exact f.nd) (by rw[f.hN];exact jg ei) h1 h2
  ·cases h
 ·obtain⟨is,ei,rfl⟩:=Option.map_eq_some_iff.mp h;obtain⟨g1,g2,g3⟩:=g5 f ei;exact qCK f.calm g1 g2 g3
 ·cases h
theorem S5{op:CmpOp}{e:Expr}(h:Jr e=true):behindInMarks op e=false:=by
 cases e<;>first|rfl|cases h
theorem V1{o1 o2:CmpOp}{b c:Expr}(h:Jr c=true):lastMarks [o1,o2] [b,c]=false:=by
 show behindInMarks o2 c=false;exact S5 h
theorem V6{iter:Expr}{env:Env}(h:Jr iter=true):∀x,foldedSetIterable iter env x=pure x:=by
 intro x;cases iter<;>first|rfl|cases h
theorem JO{o:Expr}{n:Str}{env:Env}{w:Sem Value}(h:Qv o=true):attributeBase o n env w=w:=by
 cases o<;>first|rfl|cases h
theorem jr(f:Fit Γ X G F){scope:Scope}{N:List Str}{src:List (Option Nat)}(h:Zq Γ scope N src=true):L2.CompScope X scope N src:=by
 unfold Zq at h;simp only[Bool.and_eq_true,wK,vO]at h;obtain⟨⟨⟨⟨⟨h1,h2⟩,h4⟩,h5⟩,h6⟩,h7⟩:=h;refine⟨h1,h2,λy hy hk=>?_,h5,h6,λi x j e1 e2=>?_⟩
 ·unfold Env.kindOf;rw[f.sc];exact h4 y hy hk
 ·have hi:i<N.length:=(List.getElem?_eq_some_iff.mp e1).1;have:=h7 i (wO.mpr hi);rw[e1,e2]at this;rw[f.hN];simpa using this
theorem zw(f:Fit Γ X G F){scope:Scope}{N:List Str}{src:List (Option Nat)}(h:Zq Γ scope N src=true)(C:Addr)(fp:List Addr)(s:Shared)(H:Hp):
  Fit { Γ with N:=N,sc:=qCN scope Γ.sc,own:=λx=>decide (scope.names.lookup x=some .cell) } (L2.cxComp X scope C fp s H N) G F:=by
 have S:=jr f h;refine⟨rfl,S.nd,?_,f.calm,λx z=>z,λg x e=>?_,f.gls,f.blt,f.hu,f.gd,f.gtu⟩
 ·show relabel scope X.env=qCN scope Γ.sc;unfold relabel qCN Env.kindOf;rw[f.sc]
 ·exact⟨(f.fns g x e).ex⟩
theorem Z0{m:Str}{k:Mt}{o:Expr}{a:E}{apos cpos:Pos}(hk:mt0 m=some k)(hbase:attributeBase o m X.env (eval o X.env)=eval o X.env)(hline:(apos.endLine==cpos.line)=true)(ha:SE X G F o a):SE X G F (.Call (.Attribute o m apos) [] [] cpos) (.meth k a .nil):=by
 unfold mt0 at hk;split at hk
 ·rename_i e;subst e;cases hk;exact p7 hbase hline ha
 ·split at hk
  ·rename_i e;subst e;cases hk;exact u5 hbase hline ha
  ·split at hk
   ·rename_i e;subst e;cases hk;exact qAM hbase hline ha
   ·cases hk
theorem F6(n:Nat):
  (∀ Γ e a,trE n Γ e=some a->∀X:Cx,Fit Γ X G F->SE X G F e a/\ST X G F e a)/\
  (∀ Γ es as,trA n Γ es=some as->es.all qU=true->∀X:Cx,Fit Γ X G F->SA X G F es as)/\
  (∀ Γ op p vs a,trB n Γ op p vs=some a->∀X:Cx,Fit Γ X G F->SE X G F (.BoolOp op vs p) a/\SW X G F (.BoolOp op vs p) a)/\
  (∀ Γ f args a,trC n Γ f args=some a->okN f=true->glB Γ.sc f=true->args.all qU=true->∀X:Cx,Fit Γ X G F->∀p pos,SE X G F (.Call (.Name f p) args [] pos) a)/\
  (∀ Γ o as,trO n Γ o=some as->∀X:Cx,Fit Γ X G F->SO X G F o as)/\
  (∀ Γ ifs as,qAd n Γ ifs=some as->∀X:Cx,Fit Γ X G F->SC X G F ifs as)/\
  (∀ Γ tg iter it,trI n Γ tg iter=some it->∀X:Cx,Fit Γ X G F->SI X G F tg iter it):=by
 induction n with
 |zero=>exact⟨(λ_ _ _ h=>by unfold trE at h;cases h),(λ_ _ _ h=>by unfold trA at h;cases h),(λ_ _ _ _ _ h=>by unfold trB at h;cases h),(λ_ _ _ _ h=>by unfold trC at h;cases h),(λ_ _ _ h=>by unfold trO at h;cases h),(λ_ _ _ h=>by unfold qAd at h;cases h),(λ_ _ _ _ h=>by unfold trI at h;cases h)⟩
 |succ n ih=>
  obtain⟨iE,iA,iB,iC,iO,iIf,iI⟩:=ih;refine⟨?_,?_,?_,?_,?_,?_,?_⟩
  ·intro Γ e a h X f;unfold trE at h;split at h
   ·split at h
    ·cases h;exact⟨g6,qQ g6 λ_=>rfl⟩
    ·cases h;exact⟨qBD,qQ qBD λ_=>rfl⟩
    ·cases h;exact⟨i5,qQ i5 λ_=>rfl⟩
    ·cases h;exact⟨g8,qQ g8 λ_=>rfl⟩
    ·cases h
   ·rename_i x p;split at h
    ·rename_i ho;obtain⟨o1,o2,o3⟩:=N7 ho;split at h
     ·rename_i hv;obtain⟨i,ei,rfl⟩:=Option.map_eq_some_iff.mp h;have s1:SE X G F (.Name x p) (.var i):=qBS (by rw[f.hN];exact jg ei) (by rw[f.sc];exact u3 hv) o1 o2;exact⟨s1,qQ s1 λ_=>rfl⟩
     ·split at h
      ·rename_i hg;rcases f.gls x a h with⟨v,u,rfl,e1,e2,e3⟩|⟨g,ad,rfl,e1,e2⟩
       ·have s1:SE X G F (.Name x p) (.cst v):=v5 (f.gl' hg) e1 e2 e3 o1;exact⟨s1,qQ s1 λ_=>rfl⟩
       ·have s1:SE X G F (.Name x p) (.glob g):=qAQ (f.gl' hg) e1 e2 o1;exact⟨s1,qQ s1 λ_=>rfl⟩
      ·cases h
    ·cases h
   ·split at h
    ·rename_i o a' b' eo ea eb;cases h;rw[u6 eo];have s1:=qCF (op:=o) (pos:=‹Pos›) (iE _ _ _ ea X f).1 (iE _ _ _ eb X f).1;exact⟨s1,qQ s1 λ_=>rfl⟩
    ·cases h
   ·split at h
    ·obtain⟨a',ea,rfl⟩:=Option.map_eq_some_iff.mp h;have s1:=qCM (pos:=‹Pos›) (iE _ _ _ ea X f).1;exact⟨s1,qQ s1 λ_=>rfl⟩
    ·obtain⟨a',ea,rfl⟩:=Option.map_eq_some_iff.mp h;exact⟨qBG (iE _ _ _ ea X f).1,qA7 (iE _ _ _ ea X f).2⟩
    ·cases h
   ·obtain⟨s1,s2⟩:=iB _ _ _ _ _ h X f;exact⟨s1,s2.pt⟩
   ·split at h
    ·rename_i c' a' b' ec ea eb;cases h;exact⟨qAl (iE _ _ _ ec X f).2 (iE _ _ _ ea X f).1 (iE _ _ _ eb X f).1,qCH (iE _ _ _ ec X f).2 (iE _ _ _ ea X f).2 (iE _ _ _ eb X f).2⟩
    ·cases h
   ·split at h
    ·rename_i op b0;split at h
     ·rename_i hs;split at h
      ·rename_i a' b' ea eb;cases h;rw[Jk op];have e1:K3 (opC (K3 op))=K3 op:=by cases op<;>rfl
       rw[e1];exact⟨qAo f.hu (iE _ _ _ ea X f).1 (iE _ _ _ eb X f).1 (S5 hs),qBL f.hu (iE _ _ _ ea X f).1 (iE _ _ _ eb X f).1 (S5 hs)⟩
      ·cases h
     ·cases h
    ·rename_i o1 o2 b0 c0;split at h
     ·rename_i hs;split at h
      ·rename_i a' b' c' ea eb ec;cases h;rw[Jk o1,Jk o2];have e1:K3 (opC (K3 o1))=K3 o1:=by cases o1<;>rfl
       have e2:K3 (opC (K3 o2))=K3 o2:=by cases o2<;>rfl
       rw[e1,e2];exact⟨Y0 f.hu (iE _ _ _ ea X f).1 (iE _ _ _ eb X f).1 (iE _ _ _ ec X f).1 (V1 hs),d9 f.hu (iE _ _ _ ea X f).1 (iE _ _ _ eb X f).1 (iE _ _ _ ec X f).1 (V1 hs)⟩
      ·cases h
     ·cases h
    ·cases h
   ·split at h
    ·split at h
     ·split at h
      ·rename_i hc;simp only[Bool.and_eq_true]at hc;have s1:=iC _ _ _ _ h hc.1.1 hc.1.2 hc.2 X f;exact⟨s1 _ _,qQ (s1 _ _) λ_=>rfl⟩
      ·cases h
     ·split at h
      ·split at h
       ·rename_i hc;obtain⟨rfl,hc1,hc2,hc3⟩:=hc;split at h
        ·rename_i o' x' eo ex;cases h;have s1:=qAp (JO hc1) hc3 hc2 (iE _ _ _ eo X f).1 (iE _ _ _ ex X f).1;exact⟨s1,qQ s1 λ_=>rfl⟩
        ·cases h
       ·split at h
        ·rename_i hc;obtain⟨rfl,hc1,hc2,hc3⟩:=hc;split at h
         ·rename_i o' x' eo ex;cases h;have s1:=X9 (JO hc1) hc3 hc2 (iE _ _ _ eo X f).1 (iE _ _ _ ex X f).1;exact⟨s1,qQ s1 λ_=>rfl⟩
         ·cases h
        ·cases h
      ·split at h
       ·rename_i hm;subst hm;split at h
        ·rename_i hc;obtain⟨o',eo,rfl⟩:=Option.map_eq_some_iff.mp h;have s1:=y3 f.calm f.hu f.gd (JO hc.1) hc.2 (iE _ _ _ eo X f).1;exact⟨s1,qQ s1 λ_=>rfl⟩
        ·cases h
       split at h
       ·rename_i hc;obtain⟨hc1,hc3⟩:=hc;split at h
        ·rename_i o' k eo ek;cases h;have s1:=Z0 ek (JO hc1) hc3 (iE _ _ _ eo X f).1;exact⟨s1,qQ s1 λ_=>rfl⟩
        ·cases h
       ·cases h
      ·split at h
       ·rename_i hc;obtain⟨rfl,hc1,hc2,hc3,hc4⟩:=hc;split at h
        ·rename_i o' x' y' eo ex ey;cases h;have s1:=qA9 (JO hc1) hc3 hc2 hc4 (iE _ _ _ eo X f).1 (iE _ _ _ ex X f).1 (iE _ _ _ ey X f).1;exact⟨s1,qQ s1 λ_=>rfl⟩
        ·cases h
       ·cases h
      ·cases h
     ·cases h
    ·cases h
   ·split at h
    ·split at h
     ·split at h
      ·rename_i a' l h' ea el eh;cases h;exact⟨qCC (iE _ _ _ ea X f).1 (iO _ _ _ el X f) (iO _ _ _ eh X f),qQ (qCC (iE _ _ _ ea X f).1 (iO _ _ _ el X f) (iO _ _ _ eh X f)) λ_=>rfl⟩
      ·cases h
     ·cases h
    ·split at h
     ·rename_i hs;split at h
      ·rename_i a' b' ea eb;cases h;have s1:=qCB (pos:=‹Pos›) hs (iE _ _ _ ea X f).1 (iE _ _ _ eb X f).1;exact⟨s1,qQ s1 λ_=>rfl⟩
      ·cases h
     ·cases h
   ·split at h
    ·rename_i hs;obtain⟨a',ea,rfl⟩:=Option.map_eq_some_iff.mp h;have s1:=qB8 (pos:=‹Pos›) (iA _ _ _ ea hs X f);exact⟨s1,qQ s1 λ_=>rfl⟩
    ·cases h
   ·split at h
    ·rename_i hs;obtain⟨a',ea,rfl⟩:=Option.map_eq_some_iff.mp h;exact⟨m7 (iA _ _ _ ea hs X f),qQ (m7 (iA _ _ _ ea hs X f)) λ_=>rfl⟩
    ·cases h
   ·split at h
    ·cases h;exact⟨N4,qQ N4 λ_=>rfl⟩
    ·cases h
   ·split at h
    ·split at h;split at h
     ·dsimp only at h;split at h
      ·rename_i hc;simp only[Bool.and_eq_true]at hc;split at h
       ·rename_i it g c e' ei eg ec ee;cases h;have s1:=N6 (pos:=‹Pos›) f.calm (iI _ _ _ _ ei X f) (jr f hc.1) (λC fp s H=>N1 (zw f hc.1 C fp s H) eg) (λC fp s H=>iIf _ _ _ ec _ (zw f hc.1 C fp s H)) (λC fp s H=>(iE _ _ _ ee _ (zw f hc.1 C fp s H)).1) (V6 hc.2);exact⟨s1,qQ s1 λ_=>rfl⟩
       ·cases h
      ·cases h
     ·cases h
    ·cases h
   ·cases h
  ·intro Γ es as h hs X f;cases es with
   |nil=>simp only[trA]at h;cases h;exact M8
   |cons e es=>
    simp only[trA]at h;simp only[List.all_cons,Bool.and_eq_true]at hs;split at h
    ·rename_i a as ea eas;cases h;exact ZR hs.1 (iE _ _ _ ea X f).1 (iA _ _ _ eas hs.2 X f)
    ·cases h
  ·intro Γ op p vs a h X f;cases vs with
   |nil=>simp only[trB]at h;cases h
   |cons e r=>
    cases r with
    |nil=>
     simp only[trB]at h;obtain⟨s1,s2⟩:=iE _ _ _ h X f;refine⟨L2.pe_one s1,?_⟩;cases op with
     |And=>exact L2.pw_and1 s2
     |Or=>exact L2.pw_or1 s2
    |cons b r=>
     simp only[trB]at h;split at h
     ·rename_i a' b' ea eb;cases h;obtain⟨s1,s2⟩:=iE _ _ _ ea X f;obtain⟨s3,s4⟩:=iB _ _ _ _ _ eb X f;cases op with
      |And=>exact⟨qAj s1 s3,qBa s2 s4⟩
      |Or=>exact⟨qC5 s1 s3,qCf s2 s4⟩
     ·cases h
  ·intro Γ g args a h ho hg hs X f p pos;obtain⟨o1,o2,o3⟩:=N7 ho;unfold trC at h;split at h
   ·rename_i i ei;obtain⟨as,ea,rfl⟩:=Option.map_eq_some_iff.mp h;have sA:=iA _ _ _ ea hs X f;cases args with
    |nil=>
     have:as=.nil:=by
      cases n with
      |zero=>simp only[trA]at ea;cases ea
      |succ m=>simp only[trA]at ea;cases ea;rfl
     subst this;exact Z1 (f.fns i g (jg ei)) (f.gl' hg) o1
    |cons e es=>
     simp only[List.all_cons,Bool.and_eq_true]at hs;exact p8 (f.fns i g (jg ei)) (f.gl' hg) o1 hs.1 hs.2 sA
   ·split at h
    ·rename_i hb;split at h
     ·rename_i hi;subst hi;split at h
      ·rename_i e0 t pt;split at h
       ·rename_i hc;simp only[Bool.and_eq_true]at hc;obtain⟨t1,t2,t3⟩:=N7 hc.1.1;split at h
        ·rename_i a' t' ea et;cases h;obtain⟨b1,b2⟩:=q0 et;simp only[List.all_cons,Bool.and_eq_true]at hs;exact qBY b2 (f.gl' hg) (f.blt _ hb) (f.gl' hc.1.2) (f.blt _ hc.2) b1 t3 t1 hs.1 (iE _ _ _ ea X f).1
        ·cases h
       ·cases h
      ·cases h
     ·split at h
      ·rename_i hl;obtain⟨rfl,_⟩:=hl;split at h
       ·rename_i r pr e0 pc;split at h
        ·rename_i hc;simp only[Bool.and_eq_true,vO]at hc;obtain⟨⟨⟨⟨c1,c2⟩,c3⟩,c4⟩,rfl⟩:=hc;obtain⟨a',ea,rfl⟩:=Option.map_eq_some_iff.mp h;exact o0 f.calm (f.gl' hg) (f.blt _ hb) (f.gl' c2) (f.blt _ c3) c4 (iE _ _ _ ea X f).1
        ·cases h
       ·cases h
      rename_i hneg;clear hneg;split at h
      ·rename_i b e es eb;obtain⟨as,ea,rfl⟩:=Option.map_eq_some_iff.mp h;have sA:=iA _ _ _ ea hs X f;simp only[List.all_cons,Bool.and_eq_true]at hs;exact qBh f.calm f.hu f.gd (f.gl' hg) (f.blt _ hb) (v7 eb) hs.1 hs.2 sA o3 o1
      ·cases h
    ·cases h
  ·intro Γ o as h X f;cases o with
   |none=>simp only[trO]at h;cases h;exact qAV
   |some e=>
    simp only[trO]at h;obtain⟨a,ea,rfl⟩:=Option.map_eq_some_iff.mp h;exact qAG (iE _ _ _ ea X f).1
  ·intro Γ ifs as h X f;cases ifs with
   |nil=>simp only[qAd]at h;cases h;exact qBT
   |cons e r=>
    cases r with
    |nil=>
     simp only[qAd]at h;obtain⟨a,ea,rfl⟩:=Option.map_eq_some_iff.mp h;exact qA1 (iE _ _ _ ea X f).2
    |cons b r=>simp only[qAd]at h;cases h
  ·intro Γ tg iter it h X f;unfold trI at h;split at h
   ·rename_i fn p args pos;split at h
    ·rename_i hf;subst hf;split at h
     ·rename_i hc;simp only[Bool.and_eq_true]at hc;split at h
      ·rename_i e;obtain⟨a,ea,rfl⟩:=Option.map_eq_some_iff.mp h;have hs:=hc.2;simp only[List.all_cons,Bool.and_eq_true]at hs;exact qAI (f.gl' hc.1.1) (f.blt _ hc.1.2) hs.1 (iE _ _ _ ea X f).1
      ·rename_i e e2;split at h
       ·rename_i a' b' ea eb;cases h;have hs:=hc.2;simp only[List.all_cons,Bool.and_eq_true]at hs;exact v0 (f.gl' hc.1.1) (f.blt _ hc.1.2) hs.1 hs.2.1 (iE _ _ _ ea X f).1 (iE _ _ _ eb X f).1
       ·cases h
      ·cases h
     ·cases h
    ·split at h
     ·rename_i hf;subst hf;split at h
      ·rename_i hc;simp only[Bool.and_eq_true]at hc;split at h
       ·split at h
        ·rename_i a' b' ea eb;cases h;have hs:=hc.2;simp only[List.all_cons,Bool.and_eq_true]at hs;exact qAt (f.gl' hc.1.1) (f.blt _ hc.1.2) hs.1 hs.2.1 (iE _ _ _ ea X f).1 (iE _ _ _ eb X f).1
        ·cases h
       ·cases h
      ·cases h
     ·obtain⟨a,ea,rfl⟩:=Option.map_eq_some_iff.mp h;exact T6 (iE _ _ _ ea X f).1
   ·obtain⟨a,ea,rfl⟩:=Option.map_eq_some_iff.mp h;exact T6 (iE _ _ _ ea X f).1
end
open L2 (FnOk Fun zm Binds Room)
section
variable{G:List Addr}{F:Nat->List V->AH->RV}
theorem Zk{Γ:Gam}{X:Cx}(f:Fit Γ X G F)(hx:∀x,Γ.own x=true){n:Nat}{elt:Expr}{gens:List Comprehension}{scope:Scope}{cpos p pos:Pos}{a:E}{x:Str}{g:Tg}(hd:qD7 a=true)(h:trE n Γ (.ListComp elt gens scope cpos)=some a)
  (hg:trT Γ (.Name x ⟨0,0,0,0⟩)=some g):SS X G F (.Assign [.Name x p] (.ListComp elt gens scope cpos) pos) (.asg g a):=by
 cases n with
 |zero=>unfold trE at h;cases h
 |succ n=>
  unfold trT at hg;dsimp only at hg;split at hg
  ·rename_i hs;obtain⟨i,ei,rfl⟩:=Option.map_eq_some_iff.mp hg;obtain⟨h1,h2⟩:=f.store hs;obtain⟨iE,iA,iB,iC,iO,iIf,iI⟩:=F6 (G:=G) (F:=F) n;unfold trE at h;dsimp only at h;split at h
   ·split at h;split at h
    ·split at h
     ·rename_i hc;simp only[Bool.and_eq_true]at hc;split at h
      ·rename_i it g c e' ei' eg ec ee;cases h;exact p9 f.calm (iI _ _ _ _ ei' X f) (jr f hc.1) (λC fp s H=>N1 (zw f hc.1 C fp s H) eg) (λC fp s H=>iIf _ _ _ ec _ (zw f hc.1 C fp s H)) (λC fp s H=>(iE _ _ _ ee _ (zw f hc.1 C fp s H)).1) (V6 hc.2) (by rw[f.hN];exact f.nd) (by rw[f.hN];exact jg ei) h1 h2
      ·cases h
     ·cases h
    ·cases h
   ·cases h
  ·cases hg
theorem N9(n:Nat):(∀ Γ st (X:Cx),Fit Γ X G F->(∀x,Γ.own x=true)->X.xe=(λ_ _=>False)->SS X G F st (trS n Γ st))/\(∀ Γ sts (X:Cx),Fit Γ X G F->(∀x,Γ.own x=true)->X.xe=(λ_ _=>False)->SSs X G F sts (Q0 n Γ sts)):=by
 induction n with
 |zero=>
  refine⟨fun Γ st X f ho hx=>?_,fun Γ sts X f ho hx=>?_⟩
  ·unfold trS;exact qc
  ·unfold Q0;intro pins s σ H D I q;obtain⟨φ,h,σa,o,h',R,rs,e,k⟩:=q;unfold exs ex at e;cases e
 |succ n ih=>
  obtain⟨i1,i2⟩:=ih;obtain⟨iE,iA,iB,iC,iO,iIf,iI⟩:=F6 (G:=G) (F:=F) 60;refine⟨fun Γ st X f ho hx=>?_,fun Γ sts X f ho hx=>?_⟩
  ·unfold trS;split
   ·split
    ·split
     ·rename_i v pos _ _ x p;split
      ·rename_i g a eg ea;split
       ·rename_i hd;by_cases hc:jY v=true
        ·refine ZZ (L2.ps_asg (iE _ _ _ ea X f).1 (N1 f (tg:=.Name x p) eg) (jl hc) (by cases v<;>rfl) rfl) λ_ _ _=>E5
        ·cases v with
         |ListComp elt gens scope cpos=>exact Zk f ho hd ea eg
         |SetComp elt gens scope cpos=>unfold trE at ea;cases ea
         |DictComp k elt gens scope cpos=>unfold trE at ea;cases ea
         |_=>exact absurd rfl hc
       ·exact qc
      ·exact qc
     ·split
      ·exact qc
      ·split
       ·rename_i hc;simp only[Bool.and_eq_true]at hc;split
        ·rename_i g a eg ea;have hg:=eg;unfold trT at hg;obtain⟨is,ei,rfl⟩:=Option.map_eq_some_iff.mp hg;exact qBq (N1 f eg) (iE _ _ _ ea X f).1 hc.1 hc.2
        ·exact qc
       ·exact qc
     ·split
      ·rename_i hc;simp only[Bool.and_eq_true]at hc;split
       ·rename_i o' i' v' eo ei ev;exact qB0 f.hu (iE _ _ _ eo X f).1 (iE _ _ _ ei X f).1 (iE _ _ _ ev X f).1 hc.1 hc.2
       ·exact qc
      ·exact qc
     ·exact qc
    ·exact qc
   ·split
    ·rename_i hc;split
     ·rename_i a ea;exact w5 (iE _ _ _ ea X f).1 hc
     ·exact qc
    ·exact qc
   ·split
    ·split
     ·rename_i a ea;exact qCA (iE _ _ _ ea X f).1
     ·exact qc
    ·exact qc
   ·split
    ·rename_i a ea;exact qAk (iE _ _ _ ea X f).2 (i2 _ _ X f ho hx) (i2 _ _ X f ho hx)
    ·exact qc
   ·split
    ·split
     ·rename_i hs;split
      ·rename_i it g ei eg;exact qB5 hx f.calm (iI _ _ _ _ ei X f) (N1 f eg) (i2 _ _ X f ho hx) (V6 hs)
      ·exact qc
     ·exact qc
    ·exact qc
   ·exact qc
  ·cases sts with
   |nil=>unfold Q0;exact qAK
   |cons s r=>unfold Q0;exact c8 (i1 _ _ X f ho hx) (i2 _ _ X f ho hx)
end
theorem len0{α:Type}{us:List α}(h:us.length=0):us=[]:=List.length_eq_zero_iff.mp h
theorem len1{α:Type}{us:List α}(h:us.length=1):∃a,us=[a]:=List.length_eq_one_iff.mp h
theorem len2{α:Type}{us:List α}(h:us.length=2):∃a b,us=[a,b]:=by
 cases us with
 |nil=>cases h
 |cons a r=>obtain⟨b,rfl⟩:=len1 (us:=r) (by simpa using h);exact⟨a,b,rfl⟩
theorem len3{α:Type}{us:List α}(h:us.length=3):∃a b c,us=[a,b,c]:=by
 cases us with
 |nil=>cases h
 |cons a r=>obtain⟨b,c,rfl⟩:=len2 (us:=r) (by simpa using h);exact⟨a,b,c,rfl⟩
theorem len4{α:Type}{us:List α}(h:us.length=4):∃a b c d,us=[a,b,c,d]:=by
 cases us with
 |nil=>cases h
 |cons a r=>obtain⟨b,c,d,rfl⟩:=len3 (us:=r) (by simpa using h);exact⟨a,b,c,d,rfl⟩
theorem len5{α:Type}{us:List α}(h:us.length=5):∃a b c d e,us=[a,b,c,d,e]:=by
 cases us with
 |nil=>cases h
 |cons a r=>obtain⟨b,c,d,e,rfl⟩:=len4 (us:=r) (by simpa using h);exact⟨a,b,c,d,e,rfl⟩
theorem len6{α:Type}{us:List α}(h:us.length=6):∃a b c d e f,us=[a,b,c,d,e,f]:=by
 cases us with
 |nil=>cases h
 |cons a r=>obtain⟨b,c,d,e,f,rfl⟩:=len5 (us:=r) (by simpa using h);exact⟨a,b,c,d,e,f,rfl⟩
structure W0 where
 x:Str
 st:Stmt
 ps:List Str
 N:List Str
structure Tbl where
 ds:List W0
 gl:List (Str×E)
 bl:List Str
 cls:List Str:=[]
 xr:List Str:=[]
noncomputable def Tbl.gam(T:Tbl)(d:W0):Gam:=⟨d.N,L2.defScope d.st,T.ds.map (·.x),T.gl,T.bl,λ_=>true,T.cls,T.xr.contains d.x⟩
noncomputable def Tbl.fn(T:Tbl)(d:W0):Fn:=⟨d.ps.length,d.N.length,Q0 60 (T.gam d) (L2.defBody d.st)⟩
noncomputable def Tbl.fns(T:Tbl):List Fn:=T.ds.map T.fn
structure e7(K:PySem.W.Frag)(mg:Str->Option Value)(G:List Addr)(T:Tbl)(fa:List Addr)(fd:List FuncData):Prop where
 def_:∀(i:Nat) d,T.ds[i]?=some d->∃a f,fa[i]?=some a/\fd[i]?=some f/\Fun K d.x d.x d.st a f/\zm d.N d.ps (L2.defScope d.st)/\mg d.x=some (.ref a)/\Binds K f d.ps []
 gls:∀x e,T.gl.lookup x=some e->(∃v u,e=.cst v/\mg x=some u/\RelV v u/\∀φ,rv φ v v)\/(∃g a,e=.glob g/\mg x=some (.ref a)/\G[g]?=some a)
 blt:∀x,T.bl.contains x=true->mg x=none
 gtu:∀a∈G,∃o,K.lookup a=some o/\o.cls=.type "tuple"/\o.dict=none
theorem T1{φ:List Addr}{ws vs:List V}(r:rvs φ ws vs)(n:Nat):rst φ (ws.map some++List.replicate n none) (vs.map some++List.replicate n none):=by
 refine qI ?_ ?_
 ·induction r with
  |nil=>exact .nil
  |cons h t ih=>exact .cons ⟨_,rfl,h⟩ ih
 ·induction n with
  |zero=>exact .nil
  |succ n ih=>exact .cons trivial ih
section
variable{P:Program}{w:World}{K:PySem.W.Frag}{mg:Str->Option Value}{base:Heap}{G:List Addr}{T:Tbl}{fa:List Addr}{fd:List FuncData}
theorem qCD{k i:Nat}{d:W0}(h1:T.ds[i]?=some d){ws:List V}{h h':AH}{v:V}(e:Fk T.fns (k+1) i ws h=.ok (v,h')):ws.length=d.ps.length/\d.ps.length<=d.N.length/\∃o,exs (Fk T.fns k) (Q0 60 (T.gam d) (L2.defBody d.st)) (ws.map some++List.replicate (d.N.length-d.ps.length) none) h=.ok (o,h')/\
  ((∃σ,o=.nx σ/\v=.non)\/o=.rt v):=by
 unfold Fk at e;have ht:T.fns[i]?=some (T.fn d):=by unfold Tbl.fns;rw[wQ,h1];rfl
 rw[ht]at e;dsimp only at e;split at e
 ·rename_i hc;obtain⟨⟨o,h2⟩,e2,e⟩:=Res.bind_inv e;have e4:exs (Fk T.fns k) (Q0 60 (T.gam d) (L2.defBody d.st)) (ws.map some++List.replicate (d.N.length-d.ps.length) none) h=.ok (o,h2):=e2;refine⟨hc.1,hc.2,o,?_,?_⟩
  ·cases o<;>cases e<;>exact e4
  ·cases o with
   |nx σ=>cases e;exact .inl ⟨σ,rfl,rfl⟩
   |rt u=>cases e;exact .inr rfl
   |bk σ=>cases e
   |ct σ=>cases e
 ·cases e
theorem qBm(O:e7 K mg G T fa fd){k:Nat}{d:W0}(f0:∀(i:Nat) d a f,T.ds[i]?=some d->fa[i]?=some a->fd[i]?=some f->FnOk P w K mg base L2.CX0 k a f d.ps (spF G (Fk T.fns k) K i))
  (hS:zm d.N d.ps (L2.defScope d.st)) (CX:L2.CXT) (a:Addr) (cdv:Value) (A:Around) (outer:List Env) (s:Shared) (H:Hp) (E:L2.XK) (E2:Value->Shared->Prop) (hr:Room k (A.deeper (envOfC d.x (L2.defScope d.st) s.heap.objs.size a cdv))):
  Fit (T.gam d) ((L2.cxOf CX P w K mg base d.N d.x (L2.defScope d.st) a cdv A outer s H E).wish E2) G (Fk T.fns k):=by
 have get:∀(g:Nat) x,(T.gam d).fns[g]?=some x->∃d2 a2 f2,T.ds[g]?=some d2/\d2.x=x/\fa[g]?=some a2/\fd[g]?=some f2/\mg x=some (.ref a2)/\PySem.W.keepIn K (.ref a2)=true/\Binds K f2 d2.ps []:=λg x eg=>by
  have eg':(T.ds.map (·.x))[g]?=some x:=eg;rw[wQ]at eg';cases hd:T.ds[g]? with
  |none=>rw[hd]at eg';cases eg'
  |some d2=>
   rw[hd]at eg';cases eg';obtain⟨a2,f2,q1,q2,q3,q4,q5,q6⟩:=O.def_ g d2 hd;exact⟨d2,a2,f2,rfl,rfl,q1,q2,q5,q3.kp,q6⟩
 refine⟨rfl,hS.nd,rfl,rfl,λ_ _=>rfl,λg x eg=>?_,O.gls,O.blt,?_,hr.gd,O.gtu⟩
 ·obtain⟨d2,a2,f2,q1,rfl,q2,q3,q4,q5,q6⟩:=get g x eg;exact⟨k,a2,f2,d2.ps,f0 g d2 a2 f2 q1 q2 q3,hr,q4,q5,q6⟩
 ·have:=hr.units;show (A.deeper (envOfC d.x (L2.defScope d.st) s.heap.objs.size a cdv)).units+8<cLine;omega
theorem C5(O:e7 K mg G T fa fd):∀(k:Nat) (i:Nat) d a f,T.ds[i]?=some d->fa[i]?=some a->fd[i]?=some f->FnOk P w K mg base L2.CX0 k a f d.ps (spF G (Fk T.fns k) K i)
 | 0=>λi d a f h1 h2 h3=>⟨(λvs H Q E h=>by obtain⟨_,_,_,_,_,_,_,e,_⟩:=h;unfold Fk at e;cases e),(λA outer s H args us vs Q E hr e0 hb r h=>by obtain⟨_,_,_,_,_,_,_,e,_⟩:=h;unfold Fk at e;cases e)⟩
 |k+1=>by
  have f0:=C5 O k;refine λi d a f h1 h2 h3=>?_;obtain⟨a',f',e1,e2,hF,hS,hm,hB⟩:=O.def_ i d h1;rw[h2]at e1;cases e1;rw[h3]at e2;cases e2;refine hF.ok hS (λvs H Q E h=>?_) (λcdv A outer s H vs Q E hr h=>?_)
  ·obtain⟨φ,h0,ws,v,h',R,r,e,_⟩:=h;rw[<-Paired.length r];exact(qCD h1 e).1
  ·obtain⟨φ,h0,ws,v,h',R,r,e,kk⟩:=h;obtain⟨l1,l2,o,eo,ho⟩:=qCD h1 e;have fit:=qBm O f0 hS L2.CX0 a cdv A outer s H E (λ_ _=>False) hr;refine⟨_,(N9 (G:=G) (F:=Fk T.fns k) 60).2 (T.gam d) (L2.defBody d.st) _ fit (λ_=>rfl) rfl,φ,h0,_,o,h',R,?_,eo,λφ' H' x' R'=>?_⟩
   ·unfold L2.start;rw[<-Paired.length r,l1];exact T1 r _
   ·rcases ho with⟨σ,rfl,rfl⟩|rfl
    ·exact λσc _=>kk φ' H' .non x' R' trivial
    ·exact λu ru=>kk φ' H' u x' R' ru
end
noncomputable def W4(K:PySem.W.Frag):L2.Sp:=λvs H Q _=>∃(a:Addr) (ns:List Int),vs=[.ref a]/\L2.Only H/\SqL K H a (ns.map V.int)/\ns.length<=63/\∀H',Q (.bl true) H'
noncomputable def JZ(gs:List O)(ns:List Int):AH:=gs++[.lst true (ns.map V.int)]
def B8(K:PySem.W.Frag):List Addr->List O->Prop
 | [],[]=>True
 |a::as,.tup xs::os=>(SqT K (λ_=>none) a xs/\xs.all flat=true)/\B8 K as os
 |_,_=>False
theorem ZX{φ:List Addr}:∀{xs:List V},xs.all flat=true->rvs φ xs xs
 | [],_=>.nil
 |x::xs,h=>by
  simp only[List.all_cons,Bool.and_eq_true]at h;refine .cons ?_ (ZX h.2);cases x<;>first|rfl|exact trivial|(cases h.1)
theorem Z8{K:PySem.W.Frag}{H:Hp}{a:Addr}{xs:List V}(q:SqT K (λ_=>none) a xs):SqT K H a xs:=by
 rcases q with(h|⟨o,h⟩)|h
 ·cases h
 ·cases h
 ·exact .inr h
theorem ZG{K:PySem.W.Frag}:∀{as:List Addr}{os:List O},B8 K as os->as.length=os.length/\∀(i:Nat) o a,os[i]?=some o->as[i]?=some a->∃xs,o=.tup xs/\SqT K (λ_=>none) a xs/\xs.all flat=true
 | [],[],_=>⟨rfl,λi o a h=>by simp at h⟩
 | [],_::_,h=>False.elim h
 |_::_,[],h=>False.elim h
 |a::as,.lst _ _::os,h=>False.elim h
 |a::as,.tup xs::os,h=>by
  obtain⟨h1,h2⟩:=h;obtain⟨l,k⟩:=ZG h2;refine⟨by simp[l],λi o b e1 e2=>?_⟩;cases i with
  |zero=>simp at e1 e2;subst e1 e2;exact⟨xs,rfl,h1⟩
  |succ i=>exact k i o b (by simpa using e1) (by simpa using e2)
theorem O2{P:Program}{w:World}{K:PySem.W.Frag}{mg:Str->Option Value}{base:Heap}{G:List Addr}{gs:List O}{T:Tbl}{fa:List Addr}{fd:List FuncData}(O:e7 K mg G T fa fd)(hG:B8 K G gs){k i:Nat}{d:W0}{a:Addr}{f:FuncData}
  (h1:T.ds[i]?=some d) (h2:fa[i]?=some a) (h3:fd[i]?=some f) (hp:d.ps=(["_law_script"]:List Str)) (main:∀ns:List Int,ns.length<=63->∃h',Fk T.fns k i [.ref gs.length] (JZ gs ns)=.ok (.bl true,h')):
  FnOk P w K mg base L2.CX0 k a f (["_law_script"]:List Str) (W4 K):=by
 have F:=C5 (P:=P) (w:=w) (base:=base) O k i d a f h1 h2 h3;rw[hp]at F;refine⟨λvs H Q E h=>by obtain⟨b,ns,rfl,_⟩:=h;rfl,λA outer s H args us vs Q E hr e0 hb r h=>?_⟩;obtain⟨b,ns,rfl,hO,hS,hl,q⟩:=h;obtain⟨h',e⟩:=main ns hl;obtain⟨lg,kg⟩:=ZG hG;refine F.run A outer s H args us _ Q E hr e0 hb r ⟨G++[b],JZ gs ns,[.ref gs.length],.bl true,h',⟨by unfold JZ;simp[lg],⟨[b],rfl⟩,λj o c e1 e2=>?_,λj l xs ys c e1 e2 e3 e4=>?_⟩,.cons (by show (G++[b])[gs.length]?=some b;rw[<-lg];simp) .nil,e,λφ' H' u x' R' ru=>by rw[zO ru];exact q H'⟩
 ·unfold JZ at e1;by_cases hj:j<gs.length
  ·rw[List.getElem?_append_left hj]at e1;rw[List.getElem?_append_left (by omega)]at e2;obtain⟨xs,rfl,h5,h6⟩:=kg j o c e1 e2;exact⟨xs,Z8 h5,ZX h6⟩
  ·have hj':j=gs.length:=by
    have:=(List.getElem?_eq_some_iff.mp e1).1;simp at this;omega
   subst hj';simp at e1;rw[<-lg]at e2;simp at e2;subst e1 e2;refine⟨ns.map V.int,?_,ZX (R7 ns)⟩;rcases hS with(z|⟨ob,z⟩)|z
   ·rcases hO b with y|⟨ob,xs,y⟩<;>(rw[y]at z;cases z)
   ·exact .inl ⟨ob,z⟩
   ·exact .inr (.inr z)
 ·have no:∀{m:Nat}{z:PI.O},z.mu=true->(JZ gs ns)[m]?=some z->False:=λ{m zs} mz em=>by
   unfold JZ at em;by_cases hj:m<gs.length
   ·rw[List.getElem?_append_left hj]at em;obtain⟨xs,ex,_⟩:=kg m _ (G[m]'(by omega)) em (wA (by omega));subst ex;cases mz
   ·have hj':m=gs.length:=by
     have:=(List.getElem?_eq_some_iff.mp em).1;simp at this;omega
    subst hj';simp at em;subst em;cases mz
  exact(no ‹_› ‹_›).elim
open L2
abbrev qAx(K:PySem.W.Frag)(d:W0):Prop:=∃(f:Addr) (oc:Value) (od an:Option Addr) (sl:Array (Option Value)) (kV dc pm cd ct:Value),PySem.W.nsIn K mainGlobals d.x=some (some (.ref f))/\K.lookup f=some ⟨oc,od,.func (PySem.W.fnOf d.x d.x (jJ d.st) (defBody d.st) (defScope d.st) .none kV dc pm an cd ct),sl⟩/\PySem.W.codeIn K cd d.x=true/\PySem.W.keepIn K (.ref f)=true
structure qDT(d:W0):Prop where
 sc:zm d.N d.ps (defScope d.st)
 bd:∀(kV doc pm:Value) (an:Option Addr) (cdv ct:Value) (us:List Value),us.length=d.ps.length->bindArgs (PySem.W.fnOf d.x d.x (jJ d.st) (defBody d.st) (defScope d.st) .none kV doc pm an cdv ct) ⟨us,[]⟩=pure (d.ps.zip us)
theorem g9{K:PySem.W.Frag}{h:Heap}{mg:Str->Option Value}(X:K.In h)(G:h.Ns mainGlobals mg):∀(ds:List W0),(∀d∈ds,qAx K d)->(∀d∈ds,qDT d)->∃(fa:List Addr) (fd:List FuncData),∀(i:Nat) d,ds[i]?=some d->∃a f,fa[i]?=some a/\fd[i]?=some f/\Fun K d.x d.x d.st a f/\zm d.N d.ps (L2.defScope d.st)/\mg d.x=some (.ref a)/\Binds K f d.ps []
 | [],_,_=>⟨[],[],λi d h=>by simp at h⟩
 |d::ds,h,hk=>by
  obtain⟨fa,fd,k⟩:=g9 X G ds (λx hx=>h x (by simp[hx])) λx hx=>hk x (by simp[hx]);obtain⟨f,oc,od,an,sl,kV,dc,pm,cd,ct,h1,h2,h3,h4⟩:=h d (by simp);have hd:=hk d (by simp);refine⟨f::fa,PySem.W.fnOf d.x d.x (jJ d.st) (defBody d.st) (defScope d.st) .none kV dc pm an cd ct::fd,λi e he=>?_⟩;cases i with
  |zero=>cases he;exact⟨_,_,rfl,rfl,i4 h2 h3 h4,hd.sc,PySem.W.mg_of X G h1,(i4 h2 h3 h4).binds hd.bd⟩
  |succ i=>exact k i e he
theorem qCg{K:PySem.W.Frag}{d:W0}{a:Addr}{f:FuncData}{x:Str}(F:Fun K d.x d.x d.st a f)(h:qDT d)(hp:d.ps=[x])(s:Shared)(v:Value):BindsTo s f ⟨[v],[]⟩ [(x,v)]:=by
 obtain⟨oc,od,kV,doc,pm,an,cdv,ct,osl,rfl,lk,hcd⟩:=F.ex;refine .of_eq ?_;rw[h.bd kV doc pm an cdv ct [v] (by rw[hp];rfl),hp];rfl
inductive T where
 |v (x:V)|cell (n:Nat)|fz (xs:List T)|lst (xs:List T)|tup (xs:List T)|ob (o:Ob)
noncomputable abbrev Mem:=List (List T)
noncomputable abbrev TS:=List (Option T)
inductive PR(α:Type)|ok(a:α)|exc(c:Nat)(M:Mem)|stuck
noncomputable def PR.bind{α β:Type}:PR α->(α->PR β)->PR β
 | .ok a,f=>f a
 | .exc c M,_=>.exc c M
 | .stuck,_=>.stuck
@[simp] theorem PR.bind_ok{α β:Type}(a:α)(f:α->PR β):(PR.ok a).bind f=f a:=Eq.trans rfl rfl
@[simp] theorem PR.bind_stuck{α β:Type}(f:α->PR β):(PR.stuck:PR α).bind f=.stuck:=Eq.trans rfl rfl
noncomputable def PR.nx{α:Type}:PR α->PR α
 | .ok a=>.ok a
 | .exc _ _=>.stuck
 | .stuck=>.stuck
@[simp] theorem PR.nx_ok{α:Type}(a:α):(PR.ok a).nx=.ok a:=Eq.trans rfl rfl
@[simp] theorem PR.nx_stuck{α:Type}:(PR.stuck:PR α).nx=.stuck:=Eq.trans rfl rfl
noncomputable def PR.ofO{α:Type}:Option α->PR α
 |some a=>.ok a
 |none=>.stuck
@[simp] theorem PR.ofO_some{α:Type}(a:α):PR.ofO (some a)=.ok a:=Eq.trans rfl rfl
mutual
noncomputable def T.lf:T->Bool
 | .v _=>true
 | .ob (.exn _)=>true
 | .tup ts=>T.lfs ts
 |_=>false
noncomputable def T.lfs:List T->Bool
 | []=>true
 |t::ts=>T.lf t&&T.lfs ts
end
mutual
noncomputable def T.und(n:Nat):T->Bool
 | .v _=>true
 | .ob _=>true
 | .cell k=>decide (k<n)
 | .fz ts=>T.unds n ts
 | .lst ts=>T.unds n ts
 | .tup ts=>T.unds n ts
noncomputable def T.unds(n:Nat):List T->Bool
 | []=>true
 |t::ts=>T.und n t&&T.unds n ts
end
mutual
noncomputable def T.beq:T->T->Bool
 | .v x,.v y=>decide (x=y)
 | .cell x,.cell y=>decide (x=y)
 | .fz x,.fz y=>T.beqs x y
 | .lst x,.lst y=>T.beqs x y
 | .tup x,.tup y=>T.beqs x y
 | .ob x,.ob y=>decide (x=y)
 |_,_=>false
noncomputable def T.beqs:List T->List T->Bool
 | [],[]=>true
 |x::xs,y::ys=>T.beq x y&&T.beqs xs ys
 |_,_=>false
end
noncomputable abbrev jE:=List (Nat×List T)
noncomputable def qR(d:jE)(M:Mem):Bool:=d.all λp=>match M[p.1]? with|some ts=>T.beqs ts p.2|none=>false
noncomputable def T.its(M:Mem):T->Option (List T)
 | .lst xs=>some xs | .tup xs=>some xs | .fz xs=>some xs | .cell n=>M[n]? | _=>none
noncomputable def T.lis(M:Mem):T->Option (List T)
 | .lst xs=>some xs | .fz xs=>some xs | .cell n=>M[n]? | _=>none
noncomputable def T.mu(M:Mem):T->Option (List T)
 | .lst xs=>some xs | .cell n=>M[n]? | _=>none
noncomputable def za:List T->Option (List Int)
 | []=>some []
 | .v (.int i)::r=>(za r).map (i::·)
 |_::_=>none
noncomputable def jI:List T->Option (List Int)
 | []=>some []
 | .v (.int i)::r=>(jI r).map (i::·)
 | .v (.bl b)::r=>(jI r).map ((if b=true then 1 else 0)::·)
 |_=>none
noncomputable def zG:List T->Option (List Bool)
 | []=>some []
 | .v (.bl i)::r=>(zG r).map (i::·)
 |_::_=>none
noncomputable def ZW:List T->Option (List V)
 | []=>some []
 | .v x::r=>(ZW r).map (x::·)
 |_::_=>none
noncomputable def qz(f:T->T->Option Bool):List T->List T->Option (List Bool)
 | [],[]=>some []
 |x::xs,y::ys=>match f x y,qz f xs ys with
  |some b,some bs=>some (b::bs)
  |_,_=>none
 |_,_=>none
noncomputable def T.isV:T->Option V | .v x=>some x|_=>none
noncomputable def eqT(M:Mem):Nat->T->T->Option Bool
 | 0,s,t=>match s.isV,t.isV with|some x,some y=>eqF x y|_,_=>none
 |n+1,s,t=>match s.isV,t.isV with
  |some x,some y=>eqF x y
  |some _,none=>if (t.its M).isSome then some false else none
  |none,some _=>if (s.its M).isSome then some false else none
  |none,none=>match s.lis M,t.lis M with
   |some xs,some ys=>if xs.length=ys.length then (qz (eqT M n) xs ys).map λbs=>bs.all id else some false
   |some _,none=>if (t.its M).isSome then some false else none
   |none,some _=>if (s.its M).isSome then some false else none
   |none,none=>match s.its M,t.its M with
    |some xs,some ys=>if xs.length=ys.length then (qz (eqT M n) xs ys).map λbs=>bs.all id else (qz (eqT M n) (xs.take ys.length) (ys.take xs.length)).map λ_=>false
    |_,_=>none
noncomputable def jk(xs:List T)(lo hi:Option Int):List T:=(xs.drop (HT.sIx xs.length 0 lo)).take (HT.sIx xs.length xs.length hi-HT.sIx xs.length 0 lo)
noncomputable abbrev TB:=T×Bool
noncomputable def iT(i:Int):TB:=(.v (.int i),true)
noncomputable def bT(b:Bool):TB:=(.v (.bl b),true)
noncomputable def lT(xs:List T):TB:=(.lst xs,T.lfs xs)
noncomputable def m5(x:T)(xs:List T)(lo hi:Option Int):Option TB:=match x with
 | .tup _=>if HT.sIx xs.length 0 lo=0/\HT.sIx xs.length xs.length hi=xs.length then none else some (.tup (jk xs lo hi),T.lfs (jk xs lo hi))
 |_=>some (lT (jk xs lo hi))
noncomputable def qp(M:Mem)(op:BOp)(x y:T):Option TB:=match x.isV,y.isV with
 |some (.int i),some (.int j)=>match op with
  | .add=>some (iT (i+j))
  | .sub=>some (iT (i-j))
  | .mul=>if QH i||QH j||(mid i&&mid j) then some (iT (i*j)) else none
  | .fdiv=>if 0<j/\(j<1073741824\/mid j=true) then some (iT (i / j)) else if j<0/\mid j=true then some (iT (i.fdiv j)) else none
  | .mod=>if 0<j then some (iT (i % j)) else if j<0 then some (iT (i.fmod j)) else none
  | .pow=>if 0<=j/\j<=1000/\i.natAbs<18446744073709551616 then some (iT (i ^ j.toNat)) else none
  | .band=>some (iT (PySem.Builtin.bitAnd i j))
  | .shl=>if 0<=j/\j<=1000/\i.natAbs<18446744073709551616 then some (iT (i*2 ^ j.toNat)) else none
  | .shr=>if 0<=j/\j<=1000 then some (iT (i / 2 ^ j.toNat)) else none
 |none,some (.int k)=>match op with
  | .mul=>(x.mu M).bind λxs=>if 0<=k/\xs.length*k.toNat<=lim/\k<1000000 then some (lT (List.replicate k.toNat xs).flatten) else none
  |_=>none
 |none,none=>match op with
  | .add=>(match x,y with
   | .tup xs,.tup ys=>if xs≠[]/\xs.length+ys.length<=lim then some (.tup (xs++ys),T.lfs (xs++ys)) else none
   |x,y=>(x.mu M).bind λxs=>(y.mu M).bind λys=>if xs.length+ys.length<=lim then some (lT (xs++ys)) else none)
  |_=>none
 |_,_=>none
noncomputable def T.dct:T->Option (List (Int×V))
 | .ob (.dct kvs)=>some kvs
 |_=>none
noncomputable def inT(M:Mem)(x y:T):Option Bool:=match y.dct with
 |some kvs=>(match x with | .v (.int i)=>some (ZI kvs i)|_=>none)
 |none=>x.isV.bind λa=>(y.its M).bind λts=>(ZW ts).map λxs=>xs.any λz=>L2.eqV z a
noncomputable def zP(M:Mem)(op:COp)(x y:T):Option Bool:=match op with
 | .eq=>eqT M 4 x y
 | .ne=>(eqT M 4 x y).map (!·)
 | .inn=>inT M x y
 | .notin=>(inT M x y).map (!·)
 | .is=>match y.isV with|some .non=>some (match x.isV with|some .non=>true|_=>false)|some (.bl d)=>(match x.isV with|some (.bl c)=>some (c==d)|_=>none)|_=>none
 | .isnot=>match y.isV with|some .non=>some (match x.isV with|some .non=>false|_=>true)|some (.bl d)=>(match x.isV with|some (.bl c)=>some (!(c==d))|_=>none)|_=>none
 | .lt=>match x.isV,y.isV with|some (.int i),some (.int j)=>some (decide (i<j))|_,_=>none
 | .le=>match x.isV,y.isV with|some (.int i),some (.int j)=>some (decide (i<=j))|_,_=>none
 | .gt=>match x.isV,y.isV with|some (.int i),some (.int j)=>some (decide (j<i))|_,_=>none
 | .ge=>match x.isV,y.isV with|some (.int i),some (.int j)=>some (decide (j<=i))|_,_=>none
noncomputable def V8(as:List T)(f:T->Option TB):Option TB:=match as with
 | [a]=>f a
 |_=>none
theorem zd{as:List T}{f:T->Option TB}{r:TB}(e:V8 as f=some r):∃a,as=[a]/\f a=some r:=by
 unfold V8 at e;split at e
 ·exact⟨_,rfl,e⟩
 ·cases e
noncomputable def twoT(as:List T)(f:Int->Int->Option TB):Option TB:=match as with
 | [a,b]=>(match a with
  | .v (.int i)=>(match b with | .v (.int j)=>f i j|_=>none)
  |_=>none)
 |_=>none
theorem twoT_inv{as:List T}{f:Int->Int->Option TB}{r:TB}(e:twoT as f=some r):∃i j,as=[.v (.int i),.v (.int j)]/\f i j=some r:=by
 unfold twoT at e;split at e
 ·split at e
  ·split at e
   ·exact⟨_,_,rfl,e⟩
   ·cases e
  ·cases e
 ·cases e
noncomputable def zW(M:Mem):BF->List T->Option TB
 | .len,as=>V8 as λa=>(a.its M).map λxs=>iT xs.length
 | .sum,as=>V8 as λa=>(a.lis M).bind λxs=>(jI xs).map λis=>iT is.sum
 | .all,as=>V8 as λa=>(a.lis M).bind λxs=>(zG xs).map λbs=>bT (bs.all id)
 | .any,as=>V8 as λa=>(a.lis M).bind λxs=>(zG xs).map λbs=>bT (bs.any id)
 | .max,as=>twoT as λi j=>some (iT (if j>i then j else i))
 | .min,as=>twoT as λi j=>some (iT (if j<i then j else i))
 | .list,as=>V8 as λa=>(a.its M).map lT
 | .int,as=>V8 as λa=>(match a with | .v (.int i)=>some (iT i) | .v (.bl b)=>some (iT (if b then 1 else 0))|_=>none)
 | .bits,as=>V8 as λa=>(match a with | .v (.int i)=>some (iT ((PySem.Builtin.Int.intBits i:Nat):Int))|_=>none)
noncomputable def T.isC(n:Nat):T->Bool | .cell k=>decide (k=n)|_=>false
noncomputable def Zp:Mt->Nat->List T->Mem->Option (TB×Mem)
 | .pop,n,[],M=>(M[n]?).bind λxs=>(xs[xs.length-1]?).map λy=>((y,y.lf),M.set n xs.dropLast)
 | .popAt,n,[.v (.int i)],M=>(M[n]?).bind λxs=>if xs.length<=lim then (ixN xs.length i).bind λk=>(xs[k]?).map λy=>((y,y.lf),M.set n (xs.eraseIdx k)) else none
 | .rev,n,[],M=>(M[n]?).map λxs=>((.v .non,true),M.set n xs.reverse)
 | .clr,n,[],M=>(M[n]?).map λ_=>((.v .non,true),M.set n [])
 | .ins,n,[.v (.int i),t],M=>(M[n]?).bind λxs=>if 0<=i/\i<=xs.length/\xs.length<lim then some ((.v .non,true),M.set n (xs.take i.toNat++t::xs.drop i.toNat)) else none
 |_,_,_,_=>none
noncomputable def zz(M:Mem):T->Option String
 | .v .non=>some "NoneType"
 | .v (.bl _)=>some "bool"
 | .v (.int _)=>some "int"
 | .v (.str _)=>some "str"
 | .v _=>none
 | .tup _=>some "tuple"
 | .cell n=>(M[n]?).map λ_=>"list"
 | .ob (.dct _)=>some "dict"
 | .ob _=>none
 |_=>some "list"
noncomputable def jv(M:Mem)(x y:T):Option TB:=match y with
 | .v (.int i)=>(x.its M).bind λxs=>(ixN xs.length i).bind λj=>(xs[j]?).map λt=>(t,t.lf)
 |_=>none
noncomputable def qBv:List Nat->List T->TS->Option TS
 | [],[],σ=>some σ
 |i::is,x::xs,σ=>qBv is xs (σ.set i (some x))
 |_,_,_=>none
noncomputable def qo:Tg->T->TS->Option TS
 | .name i,t,σ=>some (σ.set i (some t))
 | .tup is,.tup ts,σ=>qBv is ts σ
 | .tup _,_,_=>none
noncomputable def jz(src:List (Option Nat))(σ:TS):TS:=src.map λo=>match o with|none=>none|some j=>(σ[j]?).join
noncomputable def qh(lo:Int)(n:Nat):List T:=(List.range n).map λ(i:Nat)=>.v (.int (lo+(i:Int)))
noncomputable def J2(M:Mem):T->Option (List T×jE)
 | .lst ts=>some (ts,[])
 | .fz ts=>some (ts,[])
 | .tup ts=>some (ts,[])
 | .cell n=>(M[n]?).map λts=>(ts,[(n,ts)])
 |_=>none
noncomputable def V9(M:Mem):T->Option (List T×jE)
 | .lst ts=>some (ts,[])
 | .fz ts=>some (ts,[])
 | .cell n=>(M[n]?).map λts=>(ts,[(n,ts)])
 |_=>none
noncomputable def qP(d:jE)(g:Tg)(c:TS->Mem->PR (Bool×Mem))(e:TS->Mem->PR (TB×Mem)):List T->List T->Bool->TS->Mem->PR (TB×Mem)
 | [],ys,f,_,M=>.ok ((.lst ys,f),M)
 |x::r,ys,f,σ,M=>match qo g x σ with
  |some σ1=>(c σ1 M).bind λ(b,M2)=>
   if b then (e σ1 M2).bind λ(y,M3)=>if ys.length<lim/\qR d M3=true then qP d g c e r (ys++[y.1]) (f&&y.2) σ1 M3 else .stuck
   else if qR d M2=true then qP d g c e r ys f σ1 M2 else .stuck
  |none=>.stuck
noncomputable def pB(r:PR (TB×Mem)):PR (Bool×Mem):=r.bind λ(x,M)=>match x.1 with | .v (.bl b)=>.ok (b,M)|_=>.stuck
section
variable (gl:List T)(P:Nat->List T->Mem->PR (TB×Mem))
mutual
noncomputable def pe:E->TS->Mem->PR (TB×Mem)
 | .var i=>λσ M=>match σ[i]? with|some (some t)=>.ok ((t,t.lf),M)|_=>.stuck
 | .cst v=>λ_ M=>if flat v then .ok ((.v v,true),M) else .stuck
 | .glob g=>λ_ M=>match gl[g]? with|some t=>.ok ((t,t.lf),M)|none=>.stuck
 | .bin op a b=>λσ M=>(pe a σ M).bind λ(x,M1)=>(pe b σ M1).bind λ(y,M2)=>(PR.ofO (qp M2 op x.1 y.1)).bind λr=>.ok (r,M2)
 | .neg a=>λσ M=>(pe a σ M).bind λ(x,M1)=>match x.1 with | .v (.int i)=>.ok (iT (-i),M1)|_=>.stuck
 | .cmp op a b=>λσ M=>(pe a σ M).bind λ(x,M1)=>(pe b σ M1).bind λ(y,M2)=>(PR.ofO (zP M2 op x.1 y.1)).bind λr=>.ok (bT r,M2)
 | .cmp2 o1 o2 a b c=>λσ M=>(pe a σ M).bind λ(x,M1)=>(pe b σ M1).bind λ(y,M2)=>(PR.ofO (zP M2 o1 x.1 y.1)).bind λr=>
  if r then (pe c σ M2).bind λ(z,M3)=>(PR.ofO (zP M3 o2 y.1 z.1)).bind λr=>.ok (bT r,M3) else .ok (bT false,M2)
 | .and a b=>λσ M=>(pB (pe a σ M)).bind λ(x,M1)=>if x then pe b σ M1 else .ok (bT false,M1)
 | .or a b=>λσ M=>(pB (pe a σ M)).bind λ(x,M1)=>if x then .ok (bT true,M1) else pe b σ M1
 | .not a=>λσ M=>(pB (pe a σ M)).bind λ(x,M1)=>.ok (bT (!x),M1)
 | .ite c a b=>λσ M=>(pB (pe c σ M)).bind λ(x,M1)=>if x then pe a σ M1 else pe b σ M1
 | .call f as=>λσ M=>(pes as σ M).bind λ(xs,M1)=>(P f (xs.map (·.1)) M1).nx
 | .blt f as=>λσ M=>(pes as σ M).bind λ(xs,M1)=>(PR.ofO (zW M1 f (xs.map (·.1)))).bind λr=>.ok (r,M1)
 | .isi a ts=>λσ M=>(pe a σ M).bind λ(x,M1)=>(PR.ofO (zz M1 x.1)).bind λt=>.ok (bT (ts.any (zh t)),M1)
 | .idx a b=>λσ M=>(pe a σ M).bind λ(x,M1)=>(pe b σ M1).bind λ(y,M2)=>(PR.ofO (jv M2 x.1 y.1)).bind λr=>.ok (r,M2)
 | .sl a lo hi=>λσ M=>(pe a σ M).bind λ(x,M1)=>(pes lo σ M1).bind λ(l,M2)=>(pes hi σ M2).bind λ(u,M3)=>
  (PR.ofO (x.1.its M3)).bind λxs=>(PR.ofO (za (l.map (·.1)))).bind λl=>(PR.ofO (za (u.map (·.1)))).bind λu=>(PR.ofO (m5 x.1 xs l.head? u.head?)).bind λr=>.ok (r,M3)
 | .lst as=>λσ M=>(pes as σ M).bind λ(xs,M1)=>if xs.length<=lim then .ok ((.lst (xs.map (·.1)),xs.all (·.2)),M1) else .stuck
 | .tup as=>λσ M=>(pes as σ M).bind λ(xs,M1)=>if xs.length<=lim then .ok ((.tup (xs.map (·.1)),xs.all (·.2)),M1) else .stuck
 | .comp it src g c e=>λσ M=>(pei it σ M).bind λ(s,M1)=>qP s.2 g (pec c) (pe e) s.1 [] true (jz src σ) M1
 | .app a b=>λσ M=>(pe a σ M).bind λ(x,M1)=>match x.1 with
  | .cell n=>(pe b σ M1).bind λ(y,M2)=>match M2[n]? with
   |some xs=>if xs.length<lim then .ok ((.v .non,true),M2.set n (xs++[y.1])) else .stuck
   |none=>.stuck
  |_=>.stuck
 | .lrng a=>λσ M=>(pe a σ M).bind λ(x,M1)=>match x.1 with | .v (.int j)=>if -1000000<=j/\j<=100000 then .ok ((.lst (qh 0 j.toNat),true),M1) else .stuck|_=>.stuck
 | .dnew=>λ_ M=>.ok ((.ob (.dct []),true),M)
 | .meth m a as=>λσ M=>(pe a σ M).bind λ(x,M1)=>match x.1 with
  | .cell n=>(pes as σ M1).bind λ(ys,M2)=>PR.ofO (Zp m n (ys.map (·.1)) M2)
  |_=>.stuck
noncomputable def pes:Es->TS->Mem->PR (List TB×Mem)
 | .nil=>λ_ M=>.ok ([],M)
 | .cons a as=>λσ M=>(pe a σ M).bind λ(x,M1)=>(pes as σ M1).bind λ(xs,M2)=>.ok (x::xs,M2)
noncomputable def pec:Es->TS->Mem->PR (Bool×Mem)
 | .nil=>λ_ M=>.ok (true,M)
 | .cons a _=>λσ M=>pB (pe a σ M)
noncomputable def pei:Itr->TS->Mem->PR ((List T×jE)×Mem)
 | .list a=>λσ M=>(pe a σ M).bind λ(x,M1)=>(PR.ofO (J2 M1 x.1)).bind λs=>.ok (s,M1)
 | .rng1 a=>λσ M=>(pe a σ M).bind λ(x,M1)=>match x.1 with | .v (.int j)=>if -1000000<=j/\j<=1000000 then .ok ((qh 0 j.toNat,[]),M1) else .stuck|_=>.stuck
 | .rng2 a b=>λσ M=>(pe a σ M).bind λ(x,M1)=>(pe b σ M1).bind λ(y,M2)=>match x.1,y.1 with
  | .v (.int i),.v (.int j)=>if (-1000000<=i/\i<=1000000)/\-1000000<=j/\j<=1000000 then .ok ((qh i (j-i).toNat,[]),M2) else .stuck
  |_,_=>.stuck
 | .zip a b=>λσ M=>(pe a σ M).bind λ(x,M1)=>(pe b σ M1).bind λ(y,M2)=>(PR.ofO (V9 M2 x.1)).bind λs=>(PR.ofO (V9 M2 y.1)).bind λt=>
  .ok ((List.zipWith (λa b=>T.tup [a,b]) s.1 t.1,s.2++t.2),M2)
end
inductive PO|nx(σ:TS)|rt(t:TB)|bk(σ:TS)|ct(σ:TS)
noncomputable abbrev RSt:=PR (PO×Mem)
noncomputable def qm(d:jE)(g:Tg)(b:TS->Mem->RSt):List T->TS->Mem->RSt
 | [],σ,M=>.ok (.nx σ,M)
 |x::r,σ,M=>match qo g x σ with
  |some σ1=>(b σ1 M).bind λ(o,M2)=>match o with
   | .nx σ2=>if qR d M2=true then qm d g b r σ2 M2 else .stuck
   | .ct σ2=>if qR d M2=true then qm d g b r σ2 M2 else .stuck
   | .bk σ2=>.ok (.nx σ2,M2)
   | .rt t=>.ok (.rt t,M2)
  |none=>.stuck
noncomputable def Zl(d:jE)(f x:Nat)(l:T):List T->List (Int×V)->TS->Mem->RSt
 | [],_,σ,M=>.ok (.nx σ,M)
 |t::r,ks,σ,M=>(P f [l,t] M).nx.bind λ(y,M2)=>match y.1 with
  | .v (.bl false)=>.ok (.rt (bT false),M2)
  | .v (.bl true)=>match t with
   | .tup [.v (.int p),.v (.int q)]=>if qR d M2=true/\ks.length+1<lim then (if ZI ks p||ZI ks q then .ok (.rt (bT false),M2) else Zl d f x l r (jx (jx ks p (.bl true)) q (.bl true)) (σ.set x (some t)) M2) else .stuck
   |_=>.stuck
  |_=>.stuck
mutual
noncomputable def thaw(n:Nat):T->T×Mem
 | .lst ts=>let r:=zN n ts;(.cell (n+r.2.length),r.2++[r.1])
 | .tup ts=>let r:=zN n ts;(.tup r.1,r.2)
 |t=>(t,[])
noncomputable def zN(n:Nat):List T->List T×Mem
 | []=>([],[])
 |t::ts=>let r:=thaw n t;let q:=zN (n+r.2.length) ts;(r.1::q.1,r.2++q.2)
end
noncomputable def qBc:E->Bool
 | .bin .add _ _=>true
 | .lst _=>true
 |_=>false
variable (C:List Nat)
mutual
noncomputable def px:S->TS->Mem->RSt
 | .asg g e=>λσ M=>(pe gl P e σ M).bind λ(x,M1)=>match g with
  | .name i=>if C.contains i&&x.2 then .ok (.nx (σ.set i (some (thaw M1.length x.1).1)),M1++(thaw M1.length x.1).2) else if C.contains (i+1000)&&qBc e then (match x.1 with | .lst ts=>.ok (.nx (σ.set i (some (.cell M1.length))),M1++[ts])|_=>.stuck) else .ok (.nx (σ.set i (some x.1)),M1)
  |g=>match qo g x.1 σ with|some σ1=>.ok (.nx σ1,M1)|none=>.stuck
 | .put o i v=>λσ M=>(pe gl P v σ M).bind λ(x,M1)=>(pe gl P o σ M1).bind λ(p,M2)=>(pe gl P i σ M2).bind λ(k,M3)=>match p.1,k.1 with
  | .cell n,.v (.int k)=>match M3[n]? with
   |some xs=>match ixN xs.length k with|some j=>.ok (.nx σ,M3.set n (xs.set j x.1))|none=>.stuck
   |none=>.stuck
  |_,_=>.stuck
 | .expr e=>λσ M=>(pe gl P e σ M).bind λ(_,M1)=>.ok (.nx σ,M1)
 | .ret e=>λσ M=>(pe gl P e σ M).bind λ(x,M1)=>.ok (.rt x,M1)
 | .ifs c t u=>λσ M=>(pB (pe gl P c σ M)).bind λ(x,M1)=>if x then pxs t σ M1 else pxs u σ M1
 | .for_ g it b=>λσ M=>(pei gl P it σ M).bind λ(s,M1)=>qm s.2 g (pxs b) s.1 σ M1
 | .stop=>λ_ _=>.stuck
 | .nloop u x f i a=>λσ M=>if u=i\/x=i\/u=x\/σ.length<=u\/σ.length<=x then .stuck else (pei gl P (.list a) (σ.set u none) M).bind λ(s,M1)=>match σ[i]? with|some (some l)=>Zl P s.2 f x l s.1 [] (σ.set u none) M1|_=>.stuck
noncomputable def pxs:Ss->TS->Mem->RSt
 | .nil=>λσ M=>.ok (.nx σ,M)
 | .cons s r=>λσ M=>(px s σ M).bind λ(o,M1)=>match o with
  | .nx σ1=>pxs r σ1 M1
  |o=>.ok (o,M1)
end
end
noncomputable def qG(M:Mem)(n0:Nat):Nat->T->Option T
 | 0,t=>if t.und n0 then some t else none
 |d+1,t=>if t.und n0 then some t else match t with
  | .lst ts=>(ts.mapM (qG M n0 d)).map .lst
  | .tup ts=>(ts.mapM (qG M n0 d)).map .tup
  | .cell n=>(M[n]?).bind λts=>(ts.mapM (qG M n0 d)).map .lst
  |_=>none
noncomputable def zy(M:Mem)(n0:Nat):Nat->T->Option (List Nat)
 | 0,t=>if t.lf then some [] else none
 |d+1,t=>if t.lf then some [] else match t with
  | .tup ts=>(ts.mapM (zy M n0 d)).map List.flatten
  | .cell n=>if n0<=n then (M[n]?).bind λts=>(ts.mapM (zy M n0 d)).map λl=>l.flatten++[n] else none
  |_=>none
noncomputable def frR(M:Mem)(n0:Nat)(t:T):Bool:=match zy M n0 6 t with|some l=>decide l.Nodup|none=>false
noncomputable def finish(n0:Nat)(x:TB)(M:Mem):PR (TB×Mem):=
 if M.length=n0 then .ok (x,M) else if (M.take n0).all (T.unds n0) then (PR.ofO (qG M n0 6 x.1)).bind λt=>.ok ((t,x.2||frR M n0 x.1),M.take n0) else .stuck
noncomputable def QI(n0:Nat):RSt->PR (TB×Mem)
 | .ok (.nx _,M1)=>finish n0 (.v .non,true) M1
 | .ok (.rt t,M1)=>finish n0 t M1
 | .ok (_,_)=>.stuck
 | .exc c M1=>if M1.length=n0 then .exc c M1 else if (M1.take n0).all (T.unds n0) then .exc c (M1.take n0) else .stuck
 | .stuck=>.stuck
noncomputable def Pk(gl:List T)(tb:List Fn)(Cs:List (List Nat)):Nat->Nat->List T->Mem->PR (TB×Mem)
 | 0,_,_,_=>.stuck
 |k+1,f,vs,M=>match tb[f]? with
  |some d=>if vs.length=d.npar/\d.npar<=d.nslot then QI M.length (pxs gl (Pk gl tb Cs k) (Cs.getD f []) d.body (vs.map some++List.replicate (d.nslot-d.npar) none) M)
   else .stuck
  |none=>.stuck
def qy{α β:Type}(R:α->β->Prop):List α->List β->Prop
 | [],vs=>vs=[]
 |t::ts,vs=>∃v vs',vs=v::vs'/\R t v/\qy R ts vs'
section
variable{α β:Type}{R:α->β->Prop}
theorem qB:∀{xs:List α}{ys:List β},qy R xs ys->xs.length=ys.length
 | [],_,h=>by cases h;rfl
 |x::xs,_,⟨v,vs,rfl,_,h⟩=>by simp[qB h]
theorem qr:∀{xs:List α}{ys:List β}{i:Nat}{x:α},qy R xs ys->xs[i]?=some x->∃y,ys[i]?=some y/\R x y
 | [],_,i,x,h,e=>by simp at e
 |x::xs,_,0,x',⟨v,vs,rfl,r,h⟩,e=>⟨v,rfl,by simp at e;subst e;exact r⟩
 |x::xs,_,i+1,x',⟨v,vs,rfl,r,h⟩,e=>by
  obtain⟨y,e1,r1⟩:=qr (i:=i) h (by simpa using e);exact⟨y,by simpa using e1,r1⟩
theorem qk:∀{xs:List α}{ys:List β}{xs':List α}{ys':List β},qy R xs ys->qy R xs' ys'->qy R (xs++xs') (ys++ys')
 | [],_,_,_,h,k=>by cases h;exact k
 |x::xs,_,_,_,⟨v,vs,rfl,r,h⟩,k=>⟨v,vs++_,rfl,r,qk h k⟩
theorem qq:∀(n:Nat){xs:List α}{ys:List β},qy R xs ys->qy R (xs.take n) (ys.take n)
 | 0,_,_,_=>by simp[qy]
 |n+1,[],_,h=>by cases h;simp[qy]
 |n+1,x::xs,_,⟨v,vs,rfl,r,h⟩=>⟨v,vs.take n,rfl,r,qq n h⟩
theorem zo:∀(n:Nat){xs:List α}{ys:List β},qy R xs ys->qy R (xs.drop n) (ys.drop n)
 | 0,_,_,h=>h
 |n+1,[],_,h=>by cases h;simp[qy]
 |n+1,x::xs,_,⟨v,vs,rfl,r,h⟩=>zo n h
theorem zH:∀{xs:List α}{ys:List β}(j:Nat){x:α}{y:β},qy R xs ys->R x y->qy R (xs.set j x) (ys.set j y)
 | [],_,j,_,_,h,r=>by cases h;simp[qy]
 |x::xs,_,0,_,_,⟨v,vs,rfl,r0,h⟩,r=>⟨_,vs,rfl,r,h⟩
 |x::xs,_,j+1,_,_,⟨v,vs,rfl,r0,h⟩,r=>⟨v,vs.set j _,rfl,r0,zH j h r⟩
theorem Z5(n:Nat){xs:List α}{ys:List β}(h:qy R xs ys):qy R (List.replicate n xs).flatten (List.replicate n ys).flatten:=by
 induction n with
 |zero=>simp[qy]
 |succ n ih=>simp only[List.replicate_succ,List.flatten_cons];exact qk h ih
theorem Qh{S:α->β->Prop}(f:∀x y,R x y->S x y):∀{xs:List α}{ys:List β},qy R xs ys->qy S xs ys
 | [],_,h=>h
 |x::xs,_,⟨v,vs,rfl,r,h⟩=>⟨v,vs,rfl,f _ _ r,Qh f h⟩
end
mutual
def Rep(A X:List Nat)(h:AH):T->V->Prop
 | .v x,w=>w=x/\flat x=true
 | .cell n,w=>∃a:Nat,A[n]?=some a/\w=.ref a
 | .fz ts,w=>∃a vs,w=.ref a/\a∉X/\h[a]?=some (.lst true vs)/\qM A X h ts vs
 | .lst ts,w=>∃a vs,w=.ref a/\a∉X/\h[a]?=some (.lst false vs)/\qM A X h ts vs
 | .tup ts,w=>∃a vs,w=.ref a/\a∉X/\h[a]?=some (.tup vs)/\qM A X h ts vs
 | .ob o,w=>∃a,w=.ref a/\a∉X/\h[a]?=some (.ob o)
def qM(A X:List Nat)(h:AH):List T->List V->Prop
 | [],vs=>vs=[]
 |t::ts,vs=>∃v vs',vs=v::vs'/\Rep A X h t v/\qM A X h ts vs'
end
theorem reps_iff{A X:List Nat}{h:AH}:∀{ts:List T}{vs:List V},qM A X h ts vs↔qy (Rep A X h) ts vs
 | [],vs=>by unfold qM qy;rfl
 |t::ts,vs=>by
  unfold qM qy;constructor
  ·rintro⟨v,vs',e,r,k⟩;exact⟨v,vs',e,r,reps_iff.mp k⟩
  ·rintro⟨v,vs',e,r,k⟩;exact⟨v,vs',e,r,reps_iff.mpr k⟩
mutual
def FP(X:List Nat)(h:AH):T->V->List Nat->Prop
 | .v x,w,fp=>(w=x/\flat x=true)/\fp=[]
 | .lst ts,w,fp=>∃a vs f,w=.ref a/\a∉X/\h[a]?=some (.lst false vs)/\FPs X h ts vs f/\fp=f++[a]
 | .tup ts,w,fp=>∃a vs,w=.ref a/\a∉X/\h[a]?=some (.tup vs)/\FPs X h ts vs fp
 | .ob o,w,fp=>(∃a,w=.ref a/\a∉X/\h[a]?=some (.ob o))/\fp=[]
 | .fz _,_,_=>False
 | .cell _,_,_=>False
def FPs(X:List Nat)(h:AH):List T->List V->List Nat->Prop
 | [],vs,fp=>vs=[]/\fp=[]
 |t::ts,vs,fp=>∃v vs' f1 f2,vs=v::vs'/\FP X h t v f1/\FPs X h ts vs' f2/\fp=f1++f2
end
mutual
theorem ql{A X A' X':List Nat}{h h':AH}(hc:∀(n:Nat) a,A[n]?=some a->A'[n]?=some a)(hn:∀a o,a∉X->h[a]?=some o->a∉X'/\h'[a]?=some o):∀(t:T){w:V},Rep A X h t w->Rep A' X' h' t w
 | .v x,w,r=>by unfold Rep at r ⊢;exact r
 | .cell n,w,r=>by unfold Rep at r ⊢;obtain⟨a,e,q⟩:=r;exact⟨a,hc _ _ e,q⟩
 | .fz ts,w,r=>by unfold Rep at r ⊢;obtain⟨a,vs,e,q1,q2,q3⟩:=r;exact⟨a,vs,e,(hn _ _ q1 q2).1,(hn _ _ q1 q2).2,qN hc hn ts q3⟩
 | .lst ts,w,r=>by unfold Rep at r ⊢;obtain⟨a,vs,e,q1,q2,q3⟩:=r;exact⟨a,vs,e,(hn _ _ q1 q2).1,(hn _ _ q1 q2).2,qN hc hn ts q3⟩
 | .tup ts,w,r=>by unfold Rep at r ⊢;obtain⟨a,vs,e,q1,q2,q3⟩:=r;exact⟨a,vs,e,(hn _ _ q1 q2).1,(hn _ _ q1 q2).2,qN hc hn ts q3⟩
 | .ob o,w,r=>by unfold Rep at r ⊢;obtain⟨a,e,q1,q2⟩:=r;exact⟨a,e,(hn _ _ q1 q2).1,(hn _ _ q1 q2).2⟩
theorem qN{A X A' X':List Nat}{h h':AH}(hc:∀(n:Nat) a,A[n]?=some a->A'[n]?=some a)(hn:∀a o,a∉X->h[a]?=some o->a∉X'/\h'[a]?=some o):∀(ts:List T){ws:List V},qM A X h ts ws->qM A' X' h' ts ws
 | [],w,r=>by unfold qM at r ⊢;exact r
 |t::ts,w,r=>by unfold qM at r ⊢;obtain⟨v,vs,e,q1,q2⟩:=r;exact⟨v,vs,e,ql hc hn t q1,qN hc hn ts q2⟩
end
mutual
theorem Qk{X X':List Nat}{h h':AH}(hn:∀a o,a∉X->h[a]?=some o->a∉X'/\h'[a]?=some o):∀(t:T){w:V}{fp:List Nat},FP X h t w fp->FP X' h' t w fp
 | .v x,w,_,r=>by unfold FP at r ⊢;exact r
 | .cell n,w,_,r=>by unfold FP at r;exact r.elim
 | .fz ts,w,_,r=>by unfold FP at r;exact r.elim
 | .lst ts,w,_,r=>by unfold FP at r ⊢;obtain⟨a,vs,f,e,q1,q2,q3,q4⟩:=r;exact⟨a,vs,f,e,(hn _ _ q1 q2).1,(hn _ _ q1 q2).2,zb hn ts q3,q4⟩
 | .tup ts,w,_,r=>by unfold FP at r ⊢;obtain⟨a,vs,e,q1,q2,q3⟩:=r;exact⟨a,vs,e,(hn _ _ q1 q2).1,(hn _ _ q1 q2).2,zb hn ts q3⟩
 | .ob o,w,_,r=>by unfold FP at r ⊢;obtain⟨⟨a,e,q1,q2⟩,q3⟩:=r;exact⟨⟨a,e,(hn _ _ q1 q2).1,(hn _ _ q1 q2).2⟩,q3⟩
theorem zb{X X':List Nat}{h h':AH}(hn:∀a o,a∉X->h[a]?=some o->a∉X'/\h'[a]?=some o):∀(ts:List T){ws:List V}{fp:List Nat},FPs X h ts ws fp->FPs X' h' ts ws fp
 | [],w,_,r=>by unfold FPs at r ⊢;exact r
 |t::ts,w,_,r=>by unfold FPs at r ⊢;obtain⟨v,vs,f1,f2,e,q1,q2,q3⟩:=r;exact⟨v,vs,f1,f2,e,Qk hn t q1,zb hn ts q2,q3⟩
end
mutual
theorem qB7{A X:List Nat}{h:AH}:∀(t:T){w:V}{fp:List Nat},FP X h t w fp->Rep A X h t w
 | .v x,w,_,r=>by unfold FP at r;unfold Rep;exact r.1
 | .cell n,w,_,r=>by unfold FP at r;exact r.elim
 | .fz ts,w,_,r=>by unfold FP at r;exact r.elim
 | .lst ts,w,_,r=>by unfold FP at r;unfold Rep;obtain⟨a,vs,f,e,q1,q2,q3,q4⟩:=r;exact⟨a,vs,e,q1,q2,B3 ts q3⟩
 | .tup ts,w,_,r=>by unfold FP at r;unfold Rep;obtain⟨a,vs,e,q1,q2,q3⟩:=r;exact⟨a,vs,e,q1,q2,B3 ts q3⟩
 | .ob o,w,_,r=>by unfold FP at r;unfold Rep;exact r.1
theorem B3{A X:List Nat}{h:AH}:∀(ts:List T){ws:List V}{fp:List Nat},FPs X h ts ws fp->qM A X h ts ws
 | [],w,_,r=>by unfold FPs at r;unfold qM;exact r.1
 |t::ts,w,_,r=>by unfold FPs at r;unfold qM;obtain⟨v,vs,f1,f2,e,q1,q2,q3⟩:=r;exact⟨v,vs,e,qB7 t q1,B3 ts q2⟩
end
mutual
theorem j3{X:List Nat}{h:AH}(n:Nat):∀(t:T){w:V}{fp:List Nat},FP X h t w fp->t.und n=true
 | .v x,w,_,r=>rfl
 | .cell n,w,_,r=>by unfold FP at r;exact r.elim
 | .fz ts,w,_,r=>by unfold FP at r;exact r.elim
 | .lst ts,w,_,r=>by unfold FP at r;obtain⟨a,vs,f,e,q1,q2,q3,q4⟩:=r;exact Jj n ts q3
 | .tup ts,w,_,r=>by unfold FP at r;obtain⟨a,vs,e,q1,q2,q3⟩:=r;exact Jj n ts q3
 | .ob o,w,_,r=>rfl
theorem Jj{X:List Nat}{h:AH}(n:Nat):∀(ts:List T){ws:List V}{fp:List Nat},FPs X h ts ws fp->T.unds n ts=true
 | [],w,_,r=>rfl
 |t::ts,w,_,r=>by unfold FPs at r;obtain⟨v,vs,f1,f2,e,q1,q2,q3⟩:=r;unfold T.unds;rw[j3 n t q1,Jj n ts q2];rfl
end
mutual
theorem G6{X:List Nat}{h:AH}:∀(t:T){w:V}{fp:List Nat},FP X h t w fp->∀a∈fp,a∉X/\∃vs,h[a]?=some (.lst false vs)
 | .v x,w,_,r=>by unfold FP at r;obtain⟨_,rfl⟩:=r;intro a ha;simp at ha
 | .cell n,w,_,r=>by unfold FP at r;exact r.elim
 | .fz ts,w,_,r=>by unfold FP at r;exact r.elim
 | .lst ts,w,_,r=>by
  unfold FP at r;obtain⟨a,vs,f,e,q1,q2,q3,rfl⟩:=r;intro b hb;rcases wE.mp hb with hb|hb
  ·exact jq ts q3 b hb
  ·simp at hb;subst hb;exact⟨q1,vs,q2⟩
 | .tup ts,w,_,r=>by unfold FP at r;obtain⟨a,vs,e,q1,q2,q3⟩:=r;exact jq ts q3
 | .ob o,w,_,r=>by unfold FP at r;obtain⟨_,rfl⟩:=r;intro a ha;simp at ha
theorem jq{X:List Nat}{h:AH}:∀(ts:List T){ws:List V}{fp:List Nat},FPs X h ts ws fp->∀a∈fp,a∉X/\∃vs,h[a]?=some (.lst false vs)
 | [],w,_,r=>by unfold FPs at r;obtain⟨_,rfl⟩:=r;intro a ha;simp at ha
 |t::ts,w,_,r=>by
  unfold FPs at r;obtain⟨v,vs,f1,f2,e,q1,q2,rfl⟩:=r;intro b hb;rcases wE.mp hb with hb|hb
  ·exact G6 t q1 b hb
  ·exact jq ts q2 b hb
end
mutual
theorem o9{A X:List Nat}{h:AH}:∀(t:T){w:V},Rep A X h t w->t.lf=true->FP X h t w []
 | .v x,w,r,l=>by unfold Rep at r;unfold FP;exact⟨r,rfl⟩
 | .cell n,w,r,l=>by unfold T.lf at l;cases l
 | .fz ts,w,r,l=>by unfold T.lf at l;cases l
 | .lst ts,w,r,l=>by unfold T.lf at l;cases l
 | .tup ts,w,r,l=>by unfold Rep at r;unfold FP;obtain⟨a,vs,e,q1,q2,q3⟩:=r;exact⟨a,vs,e,q1,q2,R8 ts q3 (by unfold T.lf at l;exact l)⟩
 | .ob o,w,r,l=>by unfold Rep at r;unfold FP;exact⟨r,rfl⟩
theorem R8{A X:List Nat}{h:AH}:∀(ts:List T){ws:List V},qM A X h ts ws->T.lfs ts=true->FPs X h ts ws []
 | [],w,r,l=>by unfold qM at r;unfold FPs;exact⟨r,rfl⟩
 |t::ts,w,r,l=>by
  unfold qM at r;unfold FPs;obtain⟨v,vs,e,q1,q2⟩:=r;unfold T.lfs at l;simp only[Bool.and_eq_true]at l;exact⟨v,vs,[],[],e,o9 t q1 l.1,R8 ts q2 l.2,rfl⟩
end
mutual
theorem S7{A X A1 X1:List Nat}{h:AH}{n0:Nat}(hc:∀n,n<n0->A1[n]?=A[n]?)(hX:∀a∈X,a∈X1):∀(t:T){w:V},Rep A1 X1 h t w->t.und n0=true->Rep A X h t w
 | .v x,w,r,u=>by unfold Rep at r ⊢;exact r
 | .cell n,w,r,u=>by
  unfold Rep at r ⊢;obtain⟨a,e,q⟩:=r;unfold T.und at u;exact⟨a,(hc n (by simpa using u)).symm.trans e,q⟩
 | .fz ts,w,r,u=>by unfold Rep at r ⊢;obtain⟨a,vs,e,q1,q2,q3⟩:=r;exact⟨a,vs,e,λz=>q1 (hX _ z),q2,jS hc hX ts q3 (by unfold T.und at u;exact u)⟩
 | .lst ts,w,r,u=>by unfold Rep at r ⊢;obtain⟨a,vs,e,q1,q2,q3⟩:=r;exact⟨a,vs,e,λz=>q1 (hX _ z),q2,jS hc hX ts q3 (by unfold T.und at u;exact u)⟩
 | .tup ts,w,r,u=>by unfold Rep at r ⊢;obtain⟨a,vs,e,q1,q2,q3⟩:=r;exact⟨a,vs,e,λz=>q1 (hX _ z),q2,jS hc hX ts q3 (by unfold T.und at u;exact u)⟩
 | .ob o,w,r,u=>by unfold Rep at r ⊢;obtain⟨a,e,q1,q2⟩:=r;exact⟨a,e,λz=>q1 (hX _ z),q2⟩
theorem jS{A X A1 X1:List Nat}{h:AH}{n0:Nat}(hc:∀n,n<n0->A1[n]?=A[n]?)(hX:∀a∈X,a∈X1):∀(ts:List T){ws:List V},qM A1 X1 h ts ws->T.unds n0 ts=true->qM A X h ts ws
 | [],w,r,u=>by unfold qM at r ⊢;exact r
 |t::ts,w,r,u=>by
  unfold qM at r ⊢;obtain⟨v,vs,e,q1,q2⟩:=r;unfold T.unds at u;simp only[Bool.and_eq_true]at u;exact⟨v,vs,e,S7 hc hX t q1 u.1,jS hc hX ts q2 u.2⟩
end
theorem zu{x:V}{a:Nat}(h:flat x=true)(e:V.ref a=x):False:=by subst e;cases h
mutual
theorem P3{A X:List Nat}{h:AH}(nd:A.Nodup)(hs:∀a∈A,a∈X):∀(s t:T){w:V},Rep A X h s w->Rep A X h t w->s=t
 | .v x,t,w,r,q=>by
  unfold Rep at r;obtain⟨rfl,f⟩:=r;cases t with
  |v y=>unfold Rep at q;obtain⟨rfl,_⟩:=q;rfl
  |cell n=>unfold Rep at q;obtain⟨a,_,e⟩:=q;subst e;cases f
  |fz ts=>unfold Rep at q;obtain⟨a,vs,e,_⟩:=q;subst e;cases f
  |lst ts=>unfold Rep at q;obtain⟨a,vs,e,_⟩:=q;subst e;cases f
  |tup ts=>unfold Rep at q;obtain⟨a,vs,e,_⟩:=q;subst e;cases f
  |ob o=>unfold Rep at q;obtain⟨a,e,_⟩:=q;subst e;cases f
 | .cell n,t,w,r,q=>by
  unfold Rep at r;obtain⟨a,ea,rfl⟩:=r;have am:a∈X:=hs _ (List.mem_of_getElem? ea);cases t with
  |v y=>unfold Rep at q;obtain⟨e,f⟩:=q;exact(zu f e).elim
  |cell m=>
   unfold Rep at q;obtain⟨b,eb,e⟩:=q;cases e;have:n=m:=(List.getElem?_inj (by exact(List.getElem?_eq_some_iff.mp ea).1) nd).mp (ea.trans eb.symm);rw[this]
  |fz ts=>unfold Rep at q;obtain⟨b,vs,e,k,_⟩:=q;cases e;exact(k am).elim
  |lst ts=>unfold Rep at q;obtain⟨b,vs,e,k,_⟩:=q;cases e;exact(k am).elim
  |tup ts=>unfold Rep at q;obtain⟨b,vs,e,k,_⟩:=q;cases e;exact(k am).elim
  |ob o=>unfold Rep at q;obtain⟨b,e,k,_⟩:=q;cases e;exact(k am).elim
 | .fz ss,t,w,r,q=>by
  unfold Rep at r;obtain⟨a,vs,rfl,k1,k2,k3⟩:=r;cases t with
  |v y=>unfold Rep at q;obtain⟨e,f⟩:=q;exact(zu f e).elim
  |cell m=>unfold Rep at q;obtain⟨b,eb,e⟩:=q;cases e;exact(k1 (hs _ (List.mem_of_getElem? eb))).elim
  |fz ts=>unfold Rep at q;obtain⟨b,vs',e,z1,z2,z3⟩:=q;cases e;rw[k2]at z2;cases z2;rw[QP nd hs ss ts k3 z3]
  |lst ts=>unfold Rep at q;obtain⟨b,vs',e,z1,z2,z3⟩:=q;cases e;rw[k2]at z2;cases z2
  |tup ts=>unfold Rep at q;obtain⟨b,vs',e,z1,z2,z3⟩:=q;cases e;rw[k2]at z2;cases z2
  |ob o=>unfold Rep at q;obtain⟨b,e,z1,z2⟩:=q;cases e;rw[k2]at z2;cases z2
 | .lst ss,t,w,r,q=>by
  unfold Rep at r;obtain⟨a,vs,rfl,k1,k2,k3⟩:=r;cases t with
  |v y=>unfold Rep at q;obtain⟨e,f⟩:=q;exact(zu f e).elim
  |cell m=>unfold Rep at q;obtain⟨b,eb,e⟩:=q;cases e;exact(k1 (hs _ (List.mem_of_getElem? eb))).elim
  |lst ts=>unfold Rep at q;obtain⟨b,vs',e,z1,z2,z3⟩:=q;cases e;rw[k2]at z2;cases z2;rw[QP nd hs ss ts k3 z3]
  |fz ts=>unfold Rep at q;obtain⟨b,vs',e,z1,z2,z3⟩:=q;cases e;rw[k2]at z2;cases z2
  |tup ts=>unfold Rep at q;obtain⟨b,vs',e,z1,z2,z3⟩:=q;cases e;rw[k2]at z2;cases z2
  |ob o=>unfold Rep at q;obtain⟨b,e,z1,z2⟩:=q;cases e;rw[k2]at z2;cases z2
 | .tup ss,t,w,r,q=>by
  unfold Rep at r;obtain⟨a,vs,rfl,k1,k2,k3⟩:=r;cases t with
  |v y=>unfold Rep at q;obtain⟨e,f⟩:=q;exact(zu f e).elim
  |cell m=>unfold Rep at q;obtain⟨b,eb,e⟩:=q;cases e;exact(k1 (hs _ (List.mem_of_getElem? eb))).elim
  |tup ts=>unfold Rep at q;obtain⟨b,vs',e,z1,z2,z3⟩:=q;cases e;rw[k2]at z2;cases z2;rw[QP nd hs ss ts k3 z3]
  |fz ts=>unfold Rep at q;obtain⟨b,vs',e,z1,z2,z3⟩:=q;cases e;rw[k2]at z2;cases z2
  |lst ts=>unfold Rep at q;obtain⟨b,vs',e,z1,z2,z3⟩:=q;cases e;rw[k2]at z2;cases z2
  |ob o=>unfold Rep at q;obtain⟨b,e,z1,z2⟩:=q;cases e;rw[k2]at z2;cases z2
 | .ob o,t,w,r,q=>by
  unfold Rep at r;obtain⟨a,rfl,k1,k2⟩:=r;cases t with
  |v y=>unfold Rep at q;obtain⟨e,f⟩:=q;exact(zu f e).elim
  |cell m=>unfold Rep at q;obtain⟨b,eb,e⟩:=q;cases e;exact(k1 (hs _ (List.mem_of_getElem? eb))).elim
  |fz ts=>unfold Rep at q;obtain⟨b,vs',e,z1,z2,z3⟩:=q;cases e;rw[k2]at z2;cases z2
  |lst ts=>unfold Rep at q;obtain⟨b,vs',e,z1,z2,z3⟩:=q;cases e;rw[k2]at z2;cases z2
  |tup ts=>unfold Rep at q;obtain⟨b,vs',e,z1,z2,z3⟩:=q;cases e;rw[k2]at z2;cases z2
  |ob o'=>unfold Rep at q;obtain⟨b,e,z1,z2⟩:=q;cases e;rw[k2]at z2;cases z2;rfl
theorem QP{A X:List Nat}{h:AH}(nd:A.Nodup)(hs:∀a∈A,a∈X):∀(ss ts:List T){ws:List V},qM A X h ss ws->qM A X h ts ws->ss=ts
 | [],[],w,r,q=>rfl
 | [],t::ts,w,r,q=>by unfold qM at r q;obtain⟨v,vs,e,_⟩:=q;subst r;cases e
 |s::ss,[],w,r,q=>by unfold qM at r q;obtain⟨v,vs,e,_⟩:=r;subst q;cases e
 |s::ss,t::ts,w,r,q=>by
  unfold qM at r q;obtain⟨v,vs,rfl,k1,k2⟩:=r;obtain⟨v',vs',e,z1,z2⟩:=q;cases e;rw[P3 nd hs s t k1 z1,QP nd hs ss ts k2 z2]
end
mutual
theorem qBJ:∀(s t:T),T.beq s t=true->s=t
 | .v x,.v y,h=>by unfold T.beq at h;simp at h;rw[h]
 | .cell x,.cell y,h=>by unfold T.beq at h;simp at h;rw[h]
 | .fz x,.fz y,h=>by unfold T.beq at h;rw[jn x y h]
 | .lst x,.lst y,h=>by unfold T.beq at h;rw[jn x y h]
 | .tup x,.tup y,h=>by unfold T.beq at h;rw[jn x y h]
 | .ob x,.ob y,h=>by unfold T.beq at h;simp at h;rw[h]
 | .ob _,.v _,h | .ob _,.cell _,h | .ob _,.fz _,h | .ob _,.lst _,h | .ob _,.tup _,h=>by simp[T.beq]at h
 | .v _,.ob _,h | .cell _,.ob _,h | .fz _,.ob _,h | .lst _,.ob _,h | .tup _,.ob _,h=>by simp[T.beq]at h
 | .v _,.cell _,h | .v _,.fz _,h | .v _,.lst _,h | .v _,.tup _,h=>by simp[T.beq]at h
 | .cell _,.v _,h | .cell _,.fz _,h | .cell _,.lst _,h | .cell _,.tup _,h=>by simp[T.beq]at h
 | .fz _,.v _,h | .fz _,.cell _,h | .fz _,.lst _,h | .fz _,.tup _,h=>by simp[T.beq]at h
 | .lst _,.v _,h | .lst _,.cell _,h | .lst _,.fz _,h | .lst _,.tup _,h=>by simp[T.beq]at h
 | .tup _,.v _,h | .tup _,.cell _,h | .tup _,.fz _,h | .tup _,.lst _,h=>by simp[T.beq]at h
theorem jn:∀(ss ts:List T),T.beqs ss ts=true->ss=ts
 | [],[],h=>rfl
 | [],_::_,h=>by simp[T.beqs]at h
 |_::_,[],h=>by simp[T.beqs]at h
 |s::ss,t::ts,h=>by unfold T.beqs at h;simp only[Bool.and_eq_true]at h;rw[qBJ s t h.1,jn ss ts h.2]
end
def Frm(A:List Nat)(h h':AH):Prop:=h.length<=h'.length/\∀j,j<h.length->j∉A->h'[j]?=h[j]?
theorem Frm.refl(A:List Nat)(h:AH):Frm A h h:=⟨Nat.le_refl _,λ_ _ _=>rfl⟩
theorem Frm.trans{A:List Nat}{a b c:AH}(x:Frm A a b)(y:Frm A b c):Frm A a c:=⟨Nat.le_trans x.1 y.1,λj hj hA=>(y.2 j (wC hj x.1) hA).trans (x.2 j hj hA)⟩
theorem Frm.trans2{A B:List Nat}{a b c:AH}(x:Frm A a b)(hB:∀k∈B,a.length<=k)(y:Frm (A++B) b c):Frm A a c:=
 ⟨Nat.le_trans x.1 y.1,λj hj hA=>(y.2 j (wC hj x.1) (by rw[wE];rintro(z|z);exact hA z;have:=hB _ z;omega)).trans (x.2 j hj hA)⟩
theorem Frm.app(A:List Nat)(h e:AH):Frm A h (h++e):=⟨by simp,λj hj _=>by rw[List.getElem?_append_left hj]⟩
theorem Frm.set{A:List Nat}{h h':AH}(f:Frm A h h'){a:Nat}(ha:a∈A\/h.length<=a)(o:O):Frm A h (h'.set a o):=⟨by simpa using f.1,λj hj hA=>by
 rw[List.getElem?_set_ne (by rintro rfl;rcases ha with z|z;exact hA z;omega)];exact f.2 j hj hA⟩
theorem qJ{h:AH}{a:Nat}{o:O}(e:h[a]?=some o):a<h.length:=(List.getElem?_eq_some_iff.mp e).1
structure RelM(gl:List T)(A X:List Nat)(h:AH)(M:Mem):Prop where
 len:A.length=M.length
 nd:A.Nodup
 sub:∀a∈A,a∈X
 lt:∀a∈X,a<h.length
 at_:∀(n:Nat) a,A[n]?=some a->∃ts vs,M[n]?=some ts/\h[a]?=some (.lst false vs)/\qM A X h ts vs
 glo:∀(g:Nat) t,gl[g]?=some t->Rep A X h t (.ref g)
section
variable{gl:List T}{A X:List Nat}{h h':AH}{M:Mem}
theorem RelM.keepN(R:RelM gl A X h M)(f:Frm A h h'):∀a o,a∉X->h[a]?=some o->a∉X/\h'[a]?=some o:=λa o hx e=>⟨hx,(f.2 a (qJ e) λz=>hx (R.sub _ z)).trans e⟩
theorem RelM.keep(R:RelM gl A X h M)(f:Frm A h h'){t:T}{w:V}(r:Rep A X h t w):Rep A X h' t w:=ql (λ_ _ e=>e) (R.keepN f) t r
theorem RelM.keeps(R:RelM gl A X h M)(f:Frm A h h'){t:List T}{w:List V}(r:qM A X h t w):qM A X h' t w:=qN (λ_ _ e=>e) (R.keepN f) t r
theorem RelM.up(R:RelM gl A X h M)(e:AH):RelM gl A X (h++e) M:=by
 have f:Frm A h (h++e):=Frm.app A h e;refine⟨R.len,R.nd,R.sub,λa ha=>wC (R.lt a ha) f.1,λn a ea=>?_,λg t eg=>R.keep f (R.glo g t eg)⟩;obtain⟨ts,vs,e1,e2,e3⟩:=R.at_ n a ea;exact⟨ts,vs,e1,by rw[List.getElem?_append_left (qJ e2)];exact e2,R.keeps f e3⟩
theorem RelM.put(R:RelM gl A X h M){n a:Nat}(ea:A[n]?=some a){ts:List T}{vs:List V}(r:qM A X h ts vs):RelM gl A X (h.set a (.lst false vs)) (M.set n ts)/\Frm A h (h.set a (.lst false vs)):=by
 have am:a∈A:=List.mem_of_getElem? ea;have f:Frm A h (h.set a (.lst false vs)):=(Frm.refl A h).set (.inl am) _;have al:a<h.length:=R.lt a (R.sub a am);refine⟨⟨by simpa using R.len,R.nd,R.sub,λb hb=>by simpa using R.lt b hb,λm b eb=>?_,λg t eg=>R.keep f (R.glo g t eg)⟩,f⟩;by_cases hm:n=m
 ·subst hm;rw[ea]at eb;cases eb;have nl:n<M.length:=by rw[<-R.len];exact(List.getElem?_eq_some_iff.mp ea).1
  exact⟨ts,vs,by rw[List.getElem?_set_self nl],by rw[List.getElem?_set_self al],R.keeps f r⟩
 ·obtain⟨ts',vs',e1,e2,e3⟩:=R.at_ m b eb;have hab:a≠b:=by
   rintro rfl;exact hm ((List.getElem?_inj (List.getElem?_eq_some_iff.mp ea).1 R.nd).mp (ea.trans eb.symm))
  exact⟨ts',vs',by rw[List.getElem?_set_ne hm];exact e1,by rw[List.getElem?_set_ne hab];exact e2,R.keeps f e3⟩
end
def New(gl:List T)(A X:List Nat)(n:Nat)(h:AH)(M:Mem)(t:T)(w:V):Prop:=∀kvs,t=.ob (.dct kvs)->∃a,w=.ref a/\n<=a/\RelM gl A (X++[a]) h M
theorem New.of_lf{gl:List T}{A X:List Nat}{n:Nat}{h:AH}{M:Mem}{t:T}{w:V}(l:t.lf=true):New gl A X n h M t w:=λkvs e=>by subst e;cases l
theorem New.lst{gl:List T}{A X:List Nat}{n:Nat}{h:AH}{M:Mem}{ts:List T}{w:V}:New gl A X n h M (.lst ts) w:=λkvs e=>by cases e
theorem New.tup{gl:List T}{A X:List Nat}{n:Nat}{h:AH}{M:Mem}{ts:List T}{w:V}:New gl A X n h M (.tup ts) w:=λkvs e=>by cases e
def Frs(gl:List T)(A X:List Nat)(n:Nat)(h:AH)(M:Mem)(t:T)(w:V):Prop:=∃fp,FP X h t w fp/\fp.Nodup/\(∀a∈fp,n<=a)/\RelM gl A (X++fp) h M/\New gl A X n h M t w
def Frss(gl:List T)(A X:List Nat)(n:Nat)(h:AH)(M:Mem)(t:List T)(w:List V):Prop:=∃fp,FPs X h t w fp/\fp.Nodup/\(∀a∈fp,n<=a)/\RelM gl A (X++fp) h M
theorem Frs.of_lf{gl:List T}{A X:List Nat}{n:Nat}{h:AH}{M:Mem}{t:T}{w:V}(R:RelM gl A X h M)(r:Rep A X h t w)(l:t.lf=true):Frs gl A X n h M t w:=⟨[],o9 t r l,vB,λa ha=>by simp at ha,by rw[List.append_nil];exact R,New.of_lf l⟩
theorem Frss.of_lf{gl:List T}{A X:List Nat}{n:Nat}{h:AH}{M:Mem}{t:List T}{w:List V}(R:RelM gl A X h M)(r:qM A X h t w)(l:T.lfs t=true):Frss gl A X n h M t w:=⟨[],R8 t r l,vB,λa ha=>by simp at ha,by rw[List.append_nil];exact R⟩
def Sim{α β:Type}(gl:List T)(A X:List Nat)(h:AH)(Q:α->β->AH->Mem->Prop):PR (α×Mem)->Res (β×AH)->Prop
 | .ok (x,M'),r=>∃y h',r=.ok (y,h')/\Frm A h h'/\RelM gl A X h' M'/\Q x y h' M'
 | .exc c M',r=>∃h',r=.exc c h'/\Frm A h h'/\RelM gl A X h' M'
 | .stuck,_=>True
theorem Sim.bind{α β α2 β2:Type}{gl:List T}{A X:List Nat}{h:AH}{Q:α->β->AH->Mem->Prop}{Q2:α2->β2->AH->Mem->Prop}{r:PR (α×Mem)}{rh:Res (β×AH)}{f:α×Mem->PR (α2×Mem)}{g:β×AH->Res (β2×AH)}
  (s:Sim gl A X h Q r rh) (k:∀x M' y h',Frm A h h'->RelM gl A X h' M'->Q x y h' M'->Sim gl A X h' Q2 (f (x,M')) (g (y,h'))):Sim gl A X h Q2 (r.bind f) (rh.bind g):=by
 cases r with
 |ok p=>
  obtain⟨x,M'⟩:=p;obtain⟨y,h',rfl,f1,R1,q⟩:=s;have:=k x M' y h' f1 R1 q;rw[PR.bind_ok,Res.bind_ok];revert this;generalize f (x,M')=r2;generalize g (y,h')=rh2;intro s2;cases r2 with
  |ok p2=>
   obtain⟨x2,M2⟩:=p2;obtain⟨y2,h2,e2,f2,R2,q2⟩:=s2;exact⟨y2,h2,e2,f1.trans f2,R2,q2⟩
  |exc c M2=>
   obtain⟨h2,e2,f2,R2⟩:=s2;exact⟨h2,e2,f1.trans f2,R2⟩
  |stuck=>trivial
 |exc c M'=>
  obtain⟨h',rfl,f1,R1⟩:=s;exact⟨h',rfl,f1,R1⟩
 |stuck=>trivial
theorem Sim.nx{α β:Type}{gl:List T}{A X:List Nat}{h:AH}{Q:α->β->AH->Mem->Prop}{r:PR (α×Mem)}{rh:Res (β×AH)}(s:Sim gl A X h Q r rh):Sim gl A X h Q r.nx rh.nx:=by
 cases r with
 |ok p=>obtain⟨x,M'⟩:=p;obtain⟨y,h',rfl,a,b,c⟩:=s;exact⟨y,h',rfl,a,b,c⟩
 |exc c M'=>trivial
 |stuck=>trivial
theorem Sim.stuck{α β:Type}{gl:List T}{A X:List Nat}{h:AH}{Q:α->β->AH->Mem->Prop}{r:Res (β×AH)}:Sim gl A X h Q (.stuck:PR (α×Mem)) r:=trivial
theorem Sim.ofO{α β α2:Type}{gl:List T}{A X:List Nat}{h:AH}{Q:α->β->AH->Mem->Prop}{o:Option α2}{f:α2->PR (α×Mem)}{r:Res (β×AH)}(k:∀x,o=some x->Sim gl A X h Q (f x) r):Sim gl A X h Q ((PR.ofO o).bind f) r:=by
 cases o with
 |none=>trivial
 |some x=>exact k x rfl
def QE(gl:List T)(A X:List Nat)(n:Nat):TB->V->AH->Mem->Prop:=λx w h M=>Rep A X h x.1 w/\(x.2=true->Frs gl A X n h M x.1 w)
def QEs(gl:List T)(A X:List Nat)(n:Nat):List TB->List V->AH->Mem->Prop:=λx w h M=>qM A X h (x.map (·.1)) w/\(x.all (·.2)=true->Frss gl A X n h M (x.map (·.1)) w)
theorem QE.le{gl:List T}{A X:List Nat}{n m:Nat}{x:TB}{w:V}{h:AH}{M:Mem}(q:QE gl A X n x w h M)(l:m<=n):QE gl A X m x w h M:=⟨q.1,λe=>by obtain⟨fp,a,b,c,d,nw⟩:=q.2 e;exact⟨fp,a,b,λz hz=>Nat.le_trans l (c z hz),d,λkvs e=>by obtain⟨z,q1,q2,q3⟩:=nw kvs e;exact⟨z,q1,Nat.le_trans l q2,q3⟩⟩⟩
theorem Sim.le{gl:List T}{A X:List Nat}{h:AH}{n m:Nat}{r:PR (TB×Mem)}{rh:RV}(s:Sim gl A X h (QE gl A X n) r rh)(l:m<=n):Sim gl A X h (QE gl A X m) r rh:=by
 cases r with
 |ok p=>obtain⟨y,h',e,f,R,q⟩:=s;exact⟨y,h',e,f,R,q.le l⟩
 |exc c M=>exact s
 |stuck=>trivial
theorem RelM.weak{gl:List T}{A X X':List Nat}{h:AH}{M:Mem}(R:RelM gl A X' h M)(hX:∀a∈X,a∈X')(hA:∀a∈A,a∈X):RelM gl A X h M:=by
 have hn:∀a o,a∉X'->h[a]?=some o->a∉X/\h[a]?=some o:=λa o x y=>⟨λz=>x (hX _ z),y⟩
 refine⟨R.len,R.nd,hA,λa ha=>R.lt a (hX a ha),λn a e=>?_,λg t e=>ql (λ_ _ e=>e) hn t (R.glo g t e)⟩;obtain⟨ts,vs,e1,e2,e3⟩:=R.at_ n a e;exact⟨ts,vs,e1,e2,qN (λ_ _ e=>e) hn ts e3⟩
theorem RelM.addX{gl:List T}{A X X':List Nat}{h:AH}{M:Mem}(R:RelM gl A X h M){o:O}(h1:∀a,a∈X'↔a=h.length\/a∈X):RelM gl A X' (h++[o]) M:=by
 have hn:∀a o',a∉X->h[a]?=some o'->a∉X'/\(h++[o])[a]?=some o':=λa o' x y=>⟨by
  rw[h1];rintro(z|z)
  ·have:=qJ y;omega
  ·exact x z,by rw[List.getElem?_append_left (qJ y)];exact y⟩
 refine⟨R.len,R.nd,λa ha=>(h1 a).mpr (.inr (R.sub a ha)),λa ha=>?_,λn a e=>?_,λg t e=>ql (λ_ _ e=>e) hn t (R.glo g t e)⟩
 ·rcases(h1 a).mp ha with z|z
  ·simp[z]
  ·have:=R.lt a z;simp;omega
 ·obtain⟨ts,vs,e1,e2,e3⟩:=R.at_ n a e;exact⟨ts,vs,e1,by rw[List.getElem?_append_left (qJ e2)];exact e2,qN (λ_ _ e=>e) hn ts e3⟩
section
variable{gl:List T}{A X:List Nat}{h:AH}{M:Mem}
theorem B6(R:RelM gl A X h M){t:T}{w:V}{ts:List T}(r:Rep A X h t w)(e:t.its M=some ts):∃a vs,w=.ref a/\items h a=some vs/\qM A X h ts vs:=by
 cases t with
 |v x=>cases e
 |cell n=>
  unfold Rep at r;obtain⟨a,ea,rfl⟩:=r;obtain⟨ts',vs,e1,e2,e3⟩:=R.at_ n a ea;have:M[n]?=some ts:=e;rw[e1]at this;cases this;exact⟨a,vs,rfl,by unfold items;rw[e2],e3⟩
 |fz xs=>unfold Rep at r;obtain⟨a,vs,rfl,_,q,k⟩:=r;cases e;exact⟨a,vs,rfl,by unfold items;rw[q],k⟩
 |lst xs=>unfold Rep at r;obtain⟨a,vs,rfl,_,q,k⟩:=r;cases e;exact⟨a,vs,rfl,by unfold items;rw[q],k⟩
 |tup xs=>unfold Rep at r;obtain⟨a,vs,rfl,_,q,k⟩:=r;cases e;exact⟨a,vs,rfl,by unfold items;rw[q],k⟩
 |ob o=>cases e
theorem jG(R:RelM gl A X h M){t:T}{w:V}{ts:List T}(r:Rep A X h t w)(e:t.lis M=some ts):∃a vs f,w=.ref a/\h[a]?=some (.lst f vs)/\qM A X h ts vs:=by
 cases t with
 |v x=>cases e
 |cell n=>
  unfold Rep at r;obtain⟨a,ea,rfl⟩:=r;obtain⟨ts',vs,e1,e2,e3⟩:=R.at_ n a ea;have:M[n]?=some ts:=e;rw[e1]at this;cases this;exact⟨a,vs,false,rfl,e2,e3⟩
 |fz xs=>unfold Rep at r;obtain⟨a,vs,rfl,_,q,k⟩:=r;cases e;exact⟨a,vs,true,rfl,q,k⟩
 |lst xs=>unfold Rep at r;obtain⟨a,vs,rfl,_,q,k⟩:=r;cases e;exact⟨a,vs,false,rfl,q,k⟩
 |tup xs=>cases e
 |ob o=>cases e
theorem Q8(R:RelM gl A X h M){t:T}{w:V}{ts:List T}(r:Rep A X h t w)(e:t.mu M=some ts):∃a vs,w=.ref a/\qe h a=some vs/\qM A X h ts vs:=by
 cases t with
 |v x=>cases e
 |cell n=>
  unfold Rep at r;obtain⟨a,ea,rfl⟩:=r;obtain⟨ts',vs,e1,e2,e3⟩:=R.at_ n a ea;have:M[n]?=some ts:=e;rw[e1]at this;cases this;exact⟨a,vs,rfl,by unfold qe;rw[e2],e3⟩
 |fz xs=>cases e
 |lst xs=>unfold Rep at r;obtain⟨a,vs,rfl,_,q,k⟩:=r;cases e;exact⟨a,vs,rfl,by unfold qe;rw[q],k⟩
 |tup xs=>cases e
 |ob o=>cases e
theorem qa{t:T}{x:V}(e:t.isV=some x):t=.v x:=by cases t<;>cases e;rfl
theorem jR{t:T}{w:V}(e:t.isV=none)(r:Rep A X h t w):∃a:Nat,w=.ref a:=by
 cases t with
 |v x=>cases e
 |cell n=>unfold Rep at r;obtain⟨a,_,e⟩:=r;exact⟨a,e⟩
 |fz xs=>unfold Rep at r;obtain⟨a,vs,e,_⟩:=r;exact⟨a,e⟩
 |lst xs=>unfold Rep at r;obtain⟨a,vs,e,_⟩:=r;exact⟨a,e⟩
 |tup xs=>unfold Rep at r;obtain⟨a,vs,e,_⟩:=r;exact⟨a,e⟩
 |ob o=>unfold Rep at r;obtain⟨a,e,_⟩:=r;exact⟨a,e⟩
theorem B0(R:RelM gl A X h M){ts:List T}{vs:List V}{n:Nat}{f:Bool}(r:qM A X h ts vs)(hn:n<=h.length)(hf:f=true->Frss gl A X n h M ts vs):Sim gl A X h (QE gl A X n) (.ok ((.lst ts,f),M)) (newL vs h):=by
 have fm:Frm A h (h++[O.lst false vs]):=Frm.app A h _;have hx:h.length∉X:=λz=>Nat.lt_irrefl _ (R.lt _ z);have ha:(h++[O.lst false vs])[h.length]?=some (.lst false vs):=by simp
 refine⟨.ref h.length,_,rfl,fm,R.up _,?_,λe=>?_⟩
 ·show Rep A X _ (.lst ts) _;unfold Rep;exact⟨_,vs,rfl,hx,ha,R.keeps fm r⟩
 ·obtain⟨fp,p,nd,l,R'⟩:=hf e;refine⟨fp++[h.length],?_,?_,?_,R'.addX λa=>by simp only[wE,wJ];grind,New.lst⟩
  ·show FP X _ (.lst ts) _ _;unfold FP;exact⟨_,vs,fp,rfl,hx,ha,zb (R.keepN fm) ts p,rfl⟩
  ·rw[wR];refine⟨nd,by simp,?_⟩;rintro a ha b hb rfl;obtain⟨_,vs',q⟩:=jq ts p a ha;simp at hb;have:=qJ q;omega
  ·intro a ha;rcases wE.mp ha with z|z
   ·exact l a z
   ·simp at z;omega
theorem Ji(R:RelM gl A X h M){ts:List T}{vs:List V}{n:Nat}{f:Bool}(r:qM A X h ts vs)(hf:f=true->Frss gl A X n h M ts vs):Sim gl A X h (QE gl A X n) (.ok ((.tup ts,f),M)) (newT vs h):=by
 have fm:Frm A h (h++[O.tup vs]):=Frm.app A h _;have hx:h.length∉X:=λz=>Nat.lt_irrefl _ (R.lt _ z);have ha:(h++[O.tup vs])[h.length]?=some (.tup vs):=by simp
 refine⟨.ref h.length,_,rfl,fm,R.up _,?_,λe=>?_⟩
 ·show Rep A X _ (.tup ts) _;unfold Rep;exact⟨_,vs,rfl,hx,ha,R.keeps fm r⟩
 ·obtain⟨fp,p,nd,l,R'⟩:=hf e;refine⟨fp,?_,nd,l,R'.up _,New.tup⟩;show FP X _ (.tup ts) _ _;unfold FP;exact⟨_,vs,rfl,hx,ha,zb (R.keepN fm) ts p⟩
theorem K2(R:RelM gl A X h M){ts:List T}{vs:List V}(r:qM A X h ts vs):Sim gl A X h (QE gl A X h.length) (.ok (lT ts,M)) (newL vs h):=
 B0 R r (Nat.le_refl _) λe=>Frss.of_lf R r e
theorem qF(R:RelM gl A X h M){x:V}(fx:flat x=true){n:Nat}:Sim gl A X h (QE gl A X n) (.ok ((.v x,true),M)) (.ok (x,h)):=
 have r:Rep A X h (.v x) x:=by unfold Rep;exact⟨rfl,fx⟩
 ⟨x,h,rfl,Frm.refl A h,R,r,λ_=>Frs.of_lf R r rfl⟩
theorem zF{x w:V}(r:Rep A X h (.v x) w):w=x:=by unfold Rep at r;exact r.1
theorem qAB(xs:List T):T.lf (.tup xs)=T.lfs xs:=by rw[T.lf]
theorem y9(R:RelM gl A X h M){op:BOp}{s t:T}{x y:V}{r:TB}(e:qp M op s t=some r)(r1:Rep A X h s x)(r2:Rep A X h t y):Sim gl A X h (QE gl A X h.length) (.ok (r,M)) (qBi op x y h):=by
 unfold qp at e;split at e
 ·rename_i i j e1 e2;cases qa e1;cases qa e2;cases zF r1;cases zF r2;cases op with
  |add=>cases e;exact qF R rfl
  |sub=>cases e;exact qF R rfl
  |mul=>dsimp only at e;split at e<;>cases e;rename_i c;show Sim _ _ _ _ _ _ (if _ then _ else _);rw[if_pos c];exact qF R rfl
  |fdiv=>
   dsimp only at e;show Sim _ _ _ _ _ _ (if _ then _ else _);split at e
   ·rename_i c;cases e;rw[if_pos c];exact qF R rfl
   ·rename_i c;rw[if_neg c];split at e
    ·rename_i c;cases e;rw[if_pos c];exact qF R rfl
    ·cases e
  |mod=>
   dsimp only at e;show Sim _ _ _ _ _ _ (if _ then _ else _);split at e
   ·rename_i c;cases e;rw[if_pos c];exact qF R rfl
   ·rename_i c;rw[if_neg c];split at e
    ·rename_i c;cases e;rw[if_pos c];exact qF R rfl
    ·cases e
  |pow=>dsimp only at e;split at e<;>cases e;rename_i c;show Sim _ _ _ _ _ _ (if _ then _ else _);rw[if_pos c];exact qF R rfl
  |band=>cases e;exact qF R rfl
  |shl=>dsimp only at e;split at e<;>cases e;rename_i c;show Sim _ _ _ _ _ _ (if _ then _ else _);rw[if_pos c];exact qF R rfl
  |shr=>dsimp only at e;split at e<;>cases e;rename_i c;show Sim _ _ _ _ _ _ (if _ then _ else _);rw[if_pos c];exact qF R rfl
 ·rename_i k e1 e2;cases qa e2;cases zF r2;obtain⟨a,rfl⟩:=jR e1 r1;cases op<;>first|cases e|skip
  dsimp only at e;cases em:s.mu M with
  |none=>rw[em]at e;cases e
  |some xs=>
   rw[em]at e;dsimp only[Option.bind_some]at e;split at e<;>cases e;rename_i c;obtain⟨a',vs,ea,m,rs⟩:=Q8 R r1 em;cases ea;have lv:vs.length=xs.length:=(qB (reps_iff.mp rs)).symm;show Sim _ _ _ _ _ _ (match qe h a with|some xs=>_|none=>_);rw[m];dsimp only;rw[if_pos (by rw[lv];exact c)];exact K2 R (reps_iff.mpr (Z5 _ (reps_iff.mp rs)))
 ·rename_i e1 e2;obtain⟨a,rfl⟩:=jR e1 r1;obtain⟨b,rfl⟩:=jR e2 r2;cases op<;>first|cases e|skip
  dsimp only at e;split at e
  ·rename_i xs ys;split at e<;>cases e;rename_i c;unfold Rep at r1 r2;obtain⟨a1,vs,ea,n1,k1,q1⟩:=r1;cases ea;obtain⟨b1,us,eb,n2,k2,q2⟩:=r2;cases eb;have lv:vs.length=xs.length:=(qB (reps_iff.mp q1)).symm;have lu:us.length=ys.length:=(qB (reps_iff.mp q2)).symm;have m1:qe h a=none:=by unfold qe;rw[k1]
   have t1:qY h a=some vs:=by unfold qY;rw[k1]
   have t2:qY h b=some us:=by unfold qY;rw[k2]
   have q3:=reps_iff.mpr (qk (reps_iff.mp q1) (reps_iff.mp q2));show Sim _ _ _ _ _ _ (match qe h a,qe h b with|some xs,some ys=>_|_,_=>_);rw[m1];show Sim _ _ _ _ _ _ (match qY h a,qY h b with|some xs,some ys=>_|_,_=>_);rw[t1,t2];dsimp only;rw[if_pos ⟨λz=>c.1 (by subst z;exact List.length_eq_zero_iff.mp lv.symm),by rw[lv,lu];exact c.2⟩];split
   ·rename_i z;subst z;have y0:ys=[]:=List.length_eq_zero_iff.mp lu.symm;subst y0;have r:Rep A X h (.tup (xs++[])) (.ref a):=by
     rw[List.append_nil];unfold Rep;exact⟨a,vs,rfl,n1,k1,q1⟩
    exact⟨_,h,rfl,Frm.refl A h,R,r,λe=>Frs.of_lf R r (by rw[qAB];exact e)⟩
   ·exact Ji R q3 λe=>Frss.of_lf R q3 e
  cases em:s.mu M with
  |none=>rw[em]at e;cases e
  |some xs=>
   rw[em]at e;dsimp only[Option.bind_some]at e;cases en:t.mu M with
   |none=>rw[en]at e;cases e
   |some ys=>
    rw[en]at e;dsimp only[Option.bind_some]at e;split at e<;>cases e;rename_i c;obtain⟨a',vs,ea,m,rs⟩:=Q8 R r1 em;cases ea;obtain⟨b',us,eb,m2,rs2⟩:=Q8 R r2 en;cases eb;have lv:vs.length=xs.length:=(qB (reps_iff.mp rs)).symm;have lu:us.length=ys.length:=(qB (reps_iff.mp rs2)).symm;show Sim _ _ _ _ _ _ (match qe h a,qe h b with|some xs,some ys=>_|_,_=>_);rw[m,m2];dsimp only;rw[if_pos (by rw[lv,lu];exact c)];exact K2 R (reps_iff.mpr (qk (reps_iff.mp rs) (reps_iff.mp rs2)))
 ·cases e
theorem F4{x:V}{b:Bool}(e:eqF x x=some b):b=true:=by
 cases x with
 |int i=>cases e;exact vR i
 |bl i=>cases e;exact vR i
 |str i=>cases e;exact vR i
 |non=>cases e;rfl
 |_=>cases e
theorem jO{f:T->T->Option Bool}(hf:∀t b,f t t=some b->b=true):∀(ts:List T) bs,qz f ts ts=some bs->bs.all id=true
 | [],bs,e=>by cases e;rfl
 |t::ts,bs,e=>by
  unfold qz at e;split at e
  ·rename_i b bs' e1 e2;cases e;rw[List.all_cons,hf t b e1,jO hf ts bs' e2];rfl
  ·cases e
theorem Za:∀(n:Nat) (t:T) (b:Bool),eqT M n t t=some b->b=true
 | 0,t,b,e=>by
  unfold eqT at e;split at e
  ·rename_i x y e1 e2;rw[e1]at e2;cases e2;exact F4 e
  ·cases e
 |n+1,t,b,e=>by
  unfold eqT at e;split at e
  ·rename_i x y e1 e2;rw[e1]at e2;cases e2;exact F4 e
  ·rename_i e1 e2;rw[e1]at e2;cases e2
  ·rename_i e1 e2;rw[e1]at e2;cases e2
  ·split at e
   ·rename_i xs ys e1 e2;rw[e1]at e2;cases e2;rw[if_pos rfl]at e;obtain⟨bs,eb,rfl⟩:=Option.map_eq_some_iff.mp e;exact jO (Za n) xs bs eb
   ·rename_i e1 e2;rw[e1]at e2;cases e2
   ·rename_i e1 e2;rw[e1]at e2;cases e2
   ·split at e
    ·rename_i xs ys e1 e2;rw[e1]at e2;cases e2;rw[if_pos rfl]at e;obtain⟨bs,eb,rfl⟩:=Option.map_eq_some_iff.mp e;exact jO (Za n) xs bs eb
    ·cases e
theorem QL{f:T->T->Option Bool}{g:V->V->Option Bool}(hf:∀s t x y b,Rep A X h s x->Rep A X h t y->f s t=some b->g x y=some b):∀{ss ts:List T}{xs ys:List V}{bs:List Bool},qM A X h ss xs->qM A X h ts ys->qz f ss ts=some bs->Qt g xs ys=some bs
 | [],[],xs,ys,bs,r1,r2,e=>by unfold qM at r1 r2;subst r1 r2;exact e
 | [],t::ts,xs,ys,bs,r1,r2,e=>by cases e
 |s::ss,[],xs,ys,bs,r1,r2,e=>by cases e
 |s::ss,t::ts,xs,ys,bs,r1,r2,e=>by
  unfold qM at r1 r2;obtain⟨x,xs',rfl,a1,a2⟩:=r1;obtain⟨y,ys',rfl,b1,b2⟩:=r2;unfold qz at e;split at e
  ·rename_i b bs' e1 e2;cases e;unfold Qt;rw[hf s t x y b a1 b1 e1,QL hf a2 b2 e2]
  ·cases e
theorem jw{x w:V}(r:Rep A X h (.v x) w):flat x=true:=by unfold Rep at r;exact r.2
theorem D6(R:RelM gl A X h M){t:T}{a:Nat}(r:Rep A X h t (.ref a))(hs:(t.its M).isSome=true):(items h a).isSome=true:=by
 cases t with
 |v x=>unfold Rep at r;exact(zu r.2 r.1).elim
 |cell n=>unfold Rep at r;obtain⟨b,eb,e⟩:=r;cases e;obtain⟨_,_,_,q,_⟩:=R.at_ n _ eb;unfold items;rw[q];rfl
 |fz xs=>unfold Rep at r;obtain⟨b,vs,e,_,q,_⟩:=r;cases e;unfold items;rw[q];rfl
 |lst xs=>unfold Rep at r;obtain⟨b,vs,e,_,q,_⟩:=r;cases e;unfold items;rw[q];rfl
 |tup xs=>unfold Rep at r;obtain⟨b,vs,e,_,q,_⟩:=r;cases e;unfold items;rw[q];rfl
 |ob o=>cases hs
theorem D0{t:T}{w:V}{ts:List T}(r:Rep A X h t w)(e1:t.isV=none)(e2:t.lis M=none)(e:t.its M=some ts):∃a vs,w=.ref a/\h[a]?=some (.tup vs)/\qM A X h ts vs:=by
 cases t with
 |v x=>cases e1
 |cell n=>have z:M[n]?=some ts:=e;have z2:M[n]?=none:=e2;rw[z]at z2;cases z2
 |fz xs=>cases e2
 |lst xs=>cases e2
 |tup xs=>unfold Rep at r;obtain⟨b,vs,e',_,q,k⟩:=r;cases e;exact⟨b,vs,e',q,k⟩
 |ob o=>cases e
theorem Y8{n:Nat}{x y:V}(fx:flat x=true)(fy:flat y=true):eqD h (n+1) x y=eqF x y:=by
 cases x<;>cases y<;>first|rfl|(simp[flat]at fx;done)|(simp[flat]at fy;done)
theorem JV(R:RelM gl A X h M):∀(n:Nat) (s t:T) (x y:V) (b:Bool),Rep A X h s x->Rep A X h t y->eqT M n s t=some b->eqD h n x y=some b
 | 0,s,t,x,y,b,r1,r2,e=>by
  unfold eqT at e;split at e
  ·rename_i x' y' e1 e2;cases qa e1;cases qa e2;cases zF r1;cases zF r2;unfold eqD;exact e
  ·cases e
 |n+1,s,t,x,y,b,r1,r2,e=>by
  unfold eqT at e;split at e
  ·rename_i x' y' e1 e2;cases qa e1;cases qa e2;cases zF r1;cases zF r2;rw[Y8 (jw r1) (jw r2)];exact e
  ·rename_i x' e1 e2;cases qa e1;cases zF r1;obtain⟨c,rfl⟩:=jR e2 r2;have fx:=jw r1;split at e<;>cases e;rename_i hz;have:=D6 R r2 hz;cases x<;>first|(unfold eqD;simp[flat,this];done)|(simp[flat]at fx;done)
  ·rename_i y' e1 e2;cases qa e2;cases zF r2;obtain⟨c,rfl⟩:=jR e1 r1;have fx:=jw r2;split at e<;>cases e;rename_i hz;have:=D6 R r1 hz;cases y<;>first|(unfold eqD;simp[flat,this];done)|(simp[flat]at fx;done)
  ·rename_i e1 e2;obtain⟨c,rfl⟩:=jR e1 r1;obtain⟨d,rfl⟩:=jR e2 r2;have same:c=d->b=true:=by
    rintro rfl;have:=P3 R.nd R.sub s t r1 r2;subst this;refine Za (M:=M) (n+1) s b ?_;unfold eqT;rw[e1];exact e
   split at e
   ·rename_i xs ys l1 l2;obtain⟨_,vs,f1,q1,k1,m1⟩:=jG R r1 l1;cases q1;obtain⟨_,us,f2,q2,k2,m2⟩:=jG R r2 l2;cases q2;unfold eqD;rw[k1,k2];dsimp only;by_cases hcd:c=d
    ·rw[if_pos hcd,same hcd]
    ·rw[if_neg hcd,<-qB (reps_iff.mp m1),<-qB (reps_iff.mp m2)];split at e
     ·rename_i hl;rw[if_pos hl];obtain⟨bs,eb,rfl⟩:=Option.map_eq_some_iff.mp e;rw[QL (λs t x y b a1 a2 a3=>JV R n s t x y b a1 a2 a3) m1 m2 eb];rfl
     ·rename_i hl;rw[if_neg hl];exact e
   ·rename_i l1 l2;obtain⟨_,vs,f1,q1,k1,m1⟩:=jG R r1 l1;cases q1;split at e<;>cases e;rename_i z;cases ei:t.its M with
    |none=>rw[ei]at z;cases z
    |some ys=>
     obtain⟨_,us,q2,k2,m2⟩:=D0 r2 e2 l2 ei;cases q2;unfold eqD;rw[k1,k2]
   ·rename_i l1 l2;obtain⟨_,vs,f1,q1,k1,m1⟩:=jG R r2 l2;cases q1;split at e<;>cases e;rename_i z;cases ei:s.its M with
    |none=>rw[ei]at z;cases z
    |some ys=>
     obtain⟨_,us,q2,k2,m2⟩:=D0 r1 e1 l1 ei;cases q2;unfold eqD;rw[k1,k2]
   ·rename_i l1 l2;split at e
    ·rename_i xs ys i1 i2;obtain⟨_,vs,q1,k1,m1⟩:=D0 r1 e1 l1 i1;cases q1;obtain⟨_,us,q2,k2,m2⟩:=D0 r2 e2 l2 i2;cases q2;unfold eqD;rw[k1,k2];dsimp only;by_cases hcd:c=d
     ·rw[if_pos hcd,same hcd]
     ·rw[if_neg hcd,<-qB (reps_iff.mp m1),<-qB (reps_iff.mp m2)];split at e
      ·rename_i hl;rw[if_pos hl];obtain⟨bs,eb,rfl⟩:=Option.map_eq_some_iff.mp e;rw[QL (λs t x y b a1 a2 a3=>JV R n s t x y b a1 a2 a3) m1 m2 eb];rfl
      ·rename_i hl;rw[if_neg hl];obtain⟨bs,eb,rfl⟩:=Option.map_eq_some_iff.mp e;rw[QL (λs t x y b a1 a2 a3=>JV R n s t x y b a1 a2 a3) (reps_iff.mpr (qq _ (reps_iff.mp m1))) (reps_iff.mpr (qq _ (reps_iff.mp m2))) eb];rfl
    ·cases e
theorem D2:∀{ts:List T}{vs xs:List V},qM A X h ts vs->ZW ts=some xs->vs=xs/\xs.all flat=true
 | [],vs,xs,r,e=>by unfold qM at r;subst r;cases e;exact⟨rfl,rfl⟩
 |t::ts,vs,xs,r,e=>by
  unfold qM at r;obtain⟨v,vs',rfl,a,b⟩:=r;cases t with
  |v x=>
   unfold ZW at e;obtain⟨xs',e',rfl⟩:=Option.map_eq_some_iff.mp e;obtain⟨rfl,k⟩:=D2 b e';cases zF a;exact⟨rfl,by rw[List.all_cons,jw a,k];rfl⟩
  |_=>cases e
theorem w9{t:T}{kvs:List (Int×V)}{w:V}(e:t.dct=some kvs)(r:Rep A X h t w):∃p:Nat,w=.ref p/\p∉X/\h[p]?=some (.ob (.dct kvs)):=by
 cases t with
 |ob o=>
  cases o with
  |dct k=>cases e;unfold Rep at r;exact r
  |exn c=>cases e
 |_=>cases e
theorem g4(R:RelM gl A X h M){s t:T}{x y:V}{b:Bool}(r1:Rep A X h s x)(r2:Rep A X h t y)(e:inT M s t=some b):T2 .inn x y h=some b/\T2 .notin x y h=some (!b):=by
 unfold inT at e;cases hd:t.dct with
 |some kvs=>
  rw[hd]at e;obtain⟨p,rfl,q1,q2⟩:=w9 hd r2;have i0:items h p=none:=by unfold items;rw[q2]
  have d0:QJ h p=some kvs:=by unfold QJ;rw[q2]
  dsimp only at e;split at e
  ·cases e;cases zF r1;constructor
   ·dsimp only[T2,Y9];rw[i0];dsimp only;rw[d0]
   ·dsimp only[T2,Y9];rw[i0];dsimp only;rw[d0]
  ·cases e
 |none=>
 rw[hd]at e;dsimp only at e;obtain⟨a,ea,e⟩:=Option.bind_eq_some_iff.mp e;obtain⟨ts,et,e⟩:=Option.bind_eq_some_iff.mp e;obtain⟨xs,ex,rfl⟩:=Option.map_eq_some_iff.mp e;cases qa ea;cases zF r1;obtain⟨p,vs,rfl,q1,q2⟩:=B6 R r2 et;obtain⟨rfl,k⟩:=D2 q2 ex;have fx:=jw r1;constructor
 ·dsimp only[T2,Y9];rw[q1];dsimp only;rw[if_pos (by rw[fx,k];rfl)]
 ·dsimp only[T2,Y9];rw[q1];dsimp only;rw[if_pos (by rw[fx,k];rfl)]
theorem Jn(R:RelM gl A X h M){op:COp}{s t:T}{x y:V}{b:Bool}(r1:Rep A X h s x)(r2:Rep A X h t y)(e:zP M op s t=some b):T2 op x y h=some b:=by
 cases op with
 |eq=>exact JV R 4 s t x y b r1 r2 e
 |ne=>
  obtain⟨c,ec,rfl⟩:=Option.map_eq_some_iff.mp (show (eqT M 4 s t).map (!·)=some b from e);show (eqD h 4 x y).map (!·)=_;rw[JV R 4 s t x y c r1 r2 ec];rfl
 |inn=>exact(g4 R r1 r2 e).1
 |notin=>
  obtain⟨c,ec,rfl⟩:=Option.map_eq_some_iff.mp (show (inT M s t).map (!·)=some b from e);exact(g4 R r1 r2 ec).2
 |is=>
  unfold zP at e;dsimp only at e;split at e
  ·rename_i e2;cases qa e2;cases zF r2;cases e;show some (decide (x=V.non))=_;cases hs:s.isV with
   |none=>obtain⟨a,rfl⟩:=jR hs r1;rfl
   |some z=>cases qa hs;cases zF r1;cases x<;>rfl
  ·rename_i e2;cases qa e2;cases zF r2;split at e
   ·rename_i e3;cases qa e3;cases zF r1;exact e
   ·cases e
  ·cases e
 |isnot=>
  unfold zP at e;dsimp only at e;split at e
  ·rename_i e2;cases qa e2;cases zF r2;cases e;show some (!decide (x=V.non))=_;cases hs:s.isV with
   |none=>obtain⟨a,rfl⟩:=jR hs r1;rfl
   |some z=>cases qa hs;cases zF r1;cases x<;>rfl
  ·rename_i e2;cases qa e2;cases zF r2;split at e
   ·rename_i e3;cases qa e3;cases zF r1;exact e
   ·cases e
  ·cases e
 |lt=>unfold zP at e;dsimp only at e;split at e<;>first|(rename_i e1 e2;cases qa e1;cases qa e2;cases zF r1;cases zF r2;exact e)|cases e
 |le=>unfold zP at e;dsimp only at e;split at e<;>first|(rename_i e1 e2;cases qa e1;cases qa e2;cases zF r1;cases zF r2;exact e)|cases e
 |gt=>unfold zP at e;dsimp only at e;split at e<;>first|(rename_i e1 e2;cases qa e1;cases qa e2;cases zF r1;cases zF r2;exact e)|cases e
 |ge=>unfold zP at e;dsimp only at e;split at e<;>first|(rename_i e1 e2;cases qa e1;cases qa e2;cases zF r1;cases zF r2;exact e)|cases e
theorem Jt:∀{ts:List T}{vs:List V}{is:List Int},qM A X h ts vs->za ts=some is->jC vs=some is
 | [],vs,xs,r,e=>by unfold qM at r;subst r;cases e;rfl
 |t::ts,vs,xs,r,e=>by
  unfold qM at r;obtain⟨v,vs',rfl,a,b⟩:=r;unfold za at e;split at e
  ·rename_i e';cases e'
  ·rename_i e';cases e';obtain⟨xs',e',rfl⟩:=Option.map_eq_some_iff.mp e;cases zF a;show (jC vs').map _=_;rw[Jt b e'];rfl
  ·cases e
theorem Jz:∀{ts:List T}{vs:List V}{is:List Int},qM A X h ts vs->jI ts=some is->zl vs=some is
 | [],vs,xs,r,e=>by unfold qM at r;subst r;cases e;rfl
 |t::ts,vs,xs,r,e=>by
  unfold qM at r;obtain⟨v,vs',rfl,a,b⟩:=r;unfold jI at e;split at e
  ·rename_i e';cases e'
  ·rename_i e';cases e';obtain⟨xs',e',rfl⟩:=Option.map_eq_some_iff.mp e;cases zF a;show (zl vs').map _=_;rw[Jz b e'];rfl
  ·rename_i e';cases e';obtain⟨xs',e',rfl⟩:=Option.map_eq_some_iff.mp e;cases zF a;show (zl vs').map _=_;rw[Jz b e'];rfl
  ·cases e
theorem Zm:∀{ts:List T}{vs:List V}{is:List Bool},qM A X h ts vs->zG ts=some is->jM vs=some is
 | [],vs,xs,r,e=>by unfold qM at r;subst r;cases e;rfl
 |t::ts,vs,xs,r,e=>by
  unfold qM at r;obtain⟨v,vs',rfl,a,b⟩:=r;unfold zG at e;split at e
  ·rename_i e';cases e'
  ·rename_i e';cases e';obtain⟨xs',e',rfl⟩:=Option.map_eq_some_iff.mp e;cases zF a;show (jM vs').map _=_;rw[Zm b e'];rfl
  ·cases e
theorem Qi{t:T}{ws:List V}(r:qM A X h [t] ws):∃w,ws=[w]/\Rep A X h t w:=by
 unfold qM at r;obtain⟨v,vs,rfl,a,b⟩:=r;unfold qM at b;subst b;exact⟨v,rfl,a⟩
theorem qA0{s t:T}{ws:List V}(r:qM A X h [s,t] ws):∃w u,ws=[w,u]/\Rep A X h s w/\Rep A X h t u:=by
 unfold qM at r;obtain⟨v,vs,rfl,a,b⟩:=r;obtain⟨u,rfl,c⟩:=Qi b;exact⟨v,u,rfl,a,c⟩
theorem qT{a:Nat}{f:Bool}{vs:List V}(e:h[a]?=some (.lst f vs)):qS h a=some vs:=by unfold qS;rw[e]
theorem Jl(R:RelM gl A X h M){t:T}{w:V}{n:Nat}(r:Rep A X h t w):Sim gl A X h (QE gl A X n) (.ok ((t,t.lf),M)) (.ok (w,h)):=
 ⟨w,h,rfl,Frm.refl A h,R,r,λe=>Frs.of_lf R r e⟩
theorem qAH(R:RelM gl A X h M){f:BF}{ts:List T}{ws:List V}{r:TB}(rs:qM A X h ts ws)(e:zW M f ts=some r):Sim gl A X h (QE gl A X h.length) (.ok (r,M)) (qCX f ws h):=by
 cases f with
 |len=>
  replace e:=zd e;obtain⟨t0,rfl,e⟩:=e;obtain⟨w,rfl,rw_⟩:=Qi rs;obtain⟨xs,ex,rfl⟩:=Option.map_eq_some_iff.mp e;obtain⟨a,vs,rfl,q1,q2⟩:=B6 R rw_ ex;show Sim _ _ _ _ _ _ (match items h a with|some xs=>_|none=>_);rw[q1,qB (reps_iff.mp q2)];exact qF R rfl
 |sum=>
  replace e:=zd e;obtain⟨t0,rfl,e⟩:=e;obtain⟨w,rfl,rw_⟩:=Qi rs;obtain⟨xs,ex,e⟩:=Option.bind_eq_some_iff.mp e;obtain⟨is,ei,rfl⟩:=Option.map_eq_some_iff.mp e;obtain⟨a,vs,f,rfl,q1,q2⟩:=jG R rw_ ex;show Sim _ _ _ _ _ _ (match qS h a with|some xs=>_|none=>_);rw[qT q1];dsimp only;rw[Jz q2 ei];exact qF R rfl
 |all=>
  replace e:=zd e;obtain⟨t0,rfl,e⟩:=e;obtain⟨w,rfl,rw_⟩:=Qi rs;obtain⟨xs,ex,e⟩:=Option.bind_eq_some_iff.mp e;obtain⟨is,ei,rfl⟩:=Option.map_eq_some_iff.mp e;obtain⟨a,vs,f,rfl,q1,q2⟩:=jG R rw_ ex;show Sim _ _ _ _ _ _ (match qS h a with|some xs=>_|none=>_);rw[qT q1];dsimp only;rw[Zm q2 ei];exact qF R rfl
 |any=>
  replace e:=zd e;obtain⟨t0,rfl,e⟩:=e;obtain⟨w,rfl,rw_⟩:=Qi rs;obtain⟨xs,ex,e⟩:=Option.bind_eq_some_iff.mp e;obtain⟨is,ei,rfl⟩:=Option.map_eq_some_iff.mp e;obtain⟨a,vs,f,rfl,q1,q2⟩:=jG R rw_ ex;show Sim _ _ _ _ _ _ (match qS h a with|some xs=>_|none=>_);rw[qT q1];dsimp only;rw[Zm q2 ei];exact qF R rfl
 |max=>
  replace e:=twoT_inv e;obtain⟨i,j,rfl,e⟩:=e;obtain⟨w,u,rfl,a,b⟩:=qA0 rs;cases zF a;cases zF b;cases e;exact qF R rfl
 |min=>
  replace e:=twoT_inv e;obtain⟨i,j,rfl,e⟩:=e;obtain⟨w,u,rfl,a,b⟩:=qA0 rs;cases zF a;cases zF b;cases e;exact qF R rfl
 |bits=>
  replace e:=zd e;obtain⟨t0,rfl,e⟩:=e;split at e
  ·obtain⟨w,rfl,a⟩:=Qi rs;cases zF a;cases e;exact qF R rfl
  ·cases e
 |list=>
  replace e:=zd e;obtain⟨t0,rfl,e⟩:=e;obtain⟨w,rfl,rw_⟩:=Qi rs;obtain⟨xs,ex,rfl⟩:=Option.map_eq_some_iff.mp e;obtain⟨a,vs,rfl,q1,q2⟩:=B6 R rw_ ex;show Sim _ _ _ _ _ _ (match items h a with|some xs=>_|none=>_);rw[q1];exact K2 R q2
 |int=>
  replace e:=zd e;obtain⟨t0,rfl,e⟩:=e;split at e
  ·obtain⟨w,rfl,a⟩:=Qi rs;cases zF a;cases e;exact qF R rfl
  ·obtain⟨w,rfl,a⟩:=Qi rs;cases zF a;cases e;exact qF R rfl
  ·cases e
theorem f9(R:RelM gl A X h M){t:T}{w:V}{s:String}(r:Rep A X h t w)(e:zz M t=some s):zg h w=some s:=by
 cases t with
 |v x=>cases zF r;cases w<;>first|exact e|(cases e;done)
 |cell n=>unfold Rep at r;obtain⟨a,ea,rfl⟩:=r;obtain⟨ts,vs,e1,e2,_⟩:=R.at_ n a ea;unfold zz at e;dsimp only at e;rw[e1]at e;cases e;unfold zg;dsimp only;rw[e2]
 |fz xs=>unfold Rep at r;obtain⟨a,vs,rfl,_,q,_⟩:=r;cases e;unfold zg;dsimp only;rw[q]
 |lst xs=>unfold Rep at r;obtain⟨a,vs,rfl,_,q,_⟩:=r;cases e;unfold zg;dsimp only;rw[q]
 |tup xs=>unfold Rep at r;obtain⟨a,vs,rfl,_,q,_⟩:=r;cases e;unfold zg;dsimp only;rw[q]
 |ob o=>cases o with
  |dct=>unfold Rep at r;obtain⟨a,rfl,_,q⟩:=r;cases e;unfold zg;dsimp only;rw[q]
  |exn c=>cases e
theorem JC{ts:List T}{vs:List V}{lo hi:Option Int}(r:qM A X h ts vs):qM A X h (jk ts lo hi) (L2.cutV vs lo hi):=by
 have l:=qB (reps_iff.mp r);unfold jk L2.cutV;rw[l];exact reps_iff.mpr (qq _ (zo _ (reps_iff.mp r)))
end
def k6(A X:List Nat)(h:AH):Option T->Option V->Prop
 |none,_=>True
 |some t,some w=>Rep A X h t w
 |some _,none=>False
abbrev jL(A X:List Nat)(h:AH):TS->List (Option V)->Prop:=qy (k6 A X h)
section
variable{gl:List T}{A X:List Nat}{h h':AH}{M M':Mem}{σ:TS}{σh:List (Option V)}
theorem ZS{i:Nat}{t:T}(r:jL A X h σ σh)(e:σ[i]?=some (some t)):∃w,σh[i]?=some (some w)/\Rep A X h t w:=by
 obtain⟨o,e1,q⟩:=qr r e;cases o with
 |none=>exact q.elim
 |some w=>exact⟨w,e1,q⟩
theorem zI{A' X':List Nat}(hc:∀(n:Nat) a,A[n]?=some a->A'[n]?=some a)(hn:∀a o,a∉X->h[a]?=some o->a∉X'/\h'[a]?=some o)(r:jL A X h σ σh):jL A' X' h' σ σh:=
 Qh (λx y q=>by
  cases x with
  |none=>trivial
  |some t=>cases y with
   |none=>exact q.elim
   |some w=>exact ql hc hn t q) r
theorem RelM.keepS(R:RelM gl A X h M)(f:Frm A h h')(r:jL A X h σ σh):jL A X h' σ σh:=zI (λ_ _ e=>e) (R.keepN f) r
theorem jm(r:jL A X h σ σh):∀src:List (Option Nat),jL A X h (jz src σ) (L2.inner src σh)
 | []=>rfl
 |none::src=>⟨none,_,rfl,trivial,jm r src⟩
 |some j::src=>by
  refine⟨(σh[j]?).join,_,rfl,?_,jm r src⟩;show k6 A X h (σ[j]?).join _;cases hj:σ[j]? with
  |none=>trivial
  |some o=>cases o with
   |none=>trivial
   |some t=>
    obtain⟨w,e1,q⟩:=ZS r hj;rw[e1];exact q
theorem P8:∀{is:List Nat}{ts:List T}{ws:List V}{σ σ1:TS}{σh:List (Option V)},qBv is ts σ=some σ1->qM A X h ts ws->jL A X h σ σh->∃σh1,ZD is ws σh=some σh1/\jL A X h σ1 σh1
 | [],[],ws,σ,σ1,σh,e,r,rs=>by unfold qM at r;subst r;cases e;exact⟨σh,rfl,rs⟩
 | [],t::ts,ws,σ,σ1,σh,e,r,rs=>by cases e
 |i::is,[],ws,σ,σ1,σh,e,r,rs=>by cases e
 |i::is,t::ts,ws,σ,σ1,σh,e,r,rs=>by
  unfold qM at r;obtain⟨w,ws',rfl,a,b⟩:=r;exact P8 (is:=is) (show qBv is ts (σ.set i (some t))=some σ1 from e) b (zH i rs (show k6 A X h (some t) (some w) from a))
theorem jc{g:Tg}{t:T}{w:V}{σ1:TS}(e:qo g t σ=some σ1)(r:Rep A X h t w)(rs:jL A X h σ σh):∃σh1,store g w σh h=some σh1/\jL A X h σ1 σh1:=by
 cases g with
 |name i=>cases e;exact⟨σh.set i (some w),rfl,zH i rs (show k6 A X h (some t) (some w) from r)⟩
 |tup is=>
  cases t with
  |tup ts=>
   unfold Rep at r;obtain⟨a,vs,rfl,_,q,k⟩:=r;obtain⟨σh1,e1,r1⟩:=P8 (show qBv is ts σ=some σ1 from e) k rs;refine⟨σh1,?_,r1⟩;show (match qY h a with|some xs=>_|none=>_)=_;rw[show qY h a=some vs by unfold qY;rw[q]];exact e1
  |_=>cases e
inductive QK(A X:List Nat)(h:AH):Src->List T->jE->Prop
 |list (a f vs ts):a∉X->h[a]?=some (.lst f vs)->qM A X h ts vs->QK A X h (.list a) ts []
 |cell (n a vs ts):A[n]?=some a->h[a]?=some (.lst false vs)->qM A X h ts vs->QK A X h (.list a) ts [(n,ts)]
 |tupl (a vs ts):a∉X->h[a]?=some (.tup vs)->qM A X h ts vs->QK A X h (.tupl a) ts []
 |rng (lo n):QK A X h (.rng lo n) (qh lo n) []
 |zip (a b ts us d1 d2):QK A X h (.list a) ts d1->QK A X h (.list b) us d2->QK A X h (.zip a b) (List.zipWith (λx y=>T.tup [x,y]) ts us) (d1++d2)
theorem zr{d1 d2:jE}(e:qR (d1++d2) M=true):qR d1 M=true/\qR d2 M=true:=by
 unfold qR at e ⊢;rw[List.all_append,Bool.and_eq_true]at e;exact e
theorem JS{s:Src}{ts:List T}{d:jE}(r:QK A X h s ts d)(hn:∀a o,a∉X->h[a]?=some o->h'[a]?=some o)(R:RelM gl A X h' M')(hd:qR d M'=true):QK A X h' s ts d:=by
 induction r with
 |list a f vs ts q1 q2 q3=>exact .list a f vs ts q1 (hn _ _ q1 q2) (qN (λ_ _ e=>e) (λa o x y=>⟨x,hn a o x y⟩) ts q3)
 |cell n a vs ts q1 q2 q3=>
  obtain⟨ts',vs',e1,e2,e3⟩:=R.at_ n a q1;unfold qR at hd;simp only[List.all_cons,List.all_nil,Bool.and_true]at hd;rw[e1]at hd;have:=jn _ _ hd;subst this;exact .cell n a vs' ts' q1 e2 e3
 |tupl a vs ts q1 q2 q3=>exact .tupl a vs ts q1 (hn _ _ q1 q2) (qN (λ_ _ e=>e) (λa o x y=>⟨x,hn a o x y⟩) ts q3)
 |rng lo n=>exact .rng lo n
 |zip a b ts us d1 d2 _ _ i1 i2=>exact .zip a b ts us d1 d2 (i1 (zr hd).1) (i2 (zr hd).2)
theorem ZE{A' X':List Nat}{s:Src}{ts:List T}{d:jE}(r:QK A X h s ts d)(hn:∀a o,a∉X->h[a]?=some o->a∉X'/\h'[a]?=some o)(R:RelM gl A' X' h' M')(hd:qR d M'=true)(hA:∀(n:Nat) a,A[n]?=some a->A'[n]?=some a:=by exact λ_ _ e=>e):QK A' X' h' s ts d:=by
 induction r with
 |list a f vs ts q1 q2 q3=>exact .list a f vs ts (hn _ _ q1 q2).1 (hn _ _ q1 q2).2 (qN hA hn ts q3)
 |cell n a vs ts q1 q2 q3=>
  obtain⟨ts',vs',e1,e2,e3⟩:=R.at_ n a (hA _ _ q1);unfold qR at hd;simp only[List.all_cons,List.all_nil,Bool.and_true]at hd;rw[e1]at hd;have:=jn _ _ hd;subst this;exact .cell n a vs' ts' (hA _ _ q1) e2 e3
 |tupl a vs ts q1 q2 q3=>exact .tupl a vs ts (hn _ _ q1 q2).1 (hn _ _ q1 q2).2 (qN hA hn ts q3)
 |rng lo n=>exact .rng lo n
 |zip a b ts us d1 d2 _ _ i1 i2=>exact .zip a b ts us d1 d2 (i1 (zr hd).1) (i2 (zr hd).2)
theorem zT{a:Nat}{ts:List T}{d:jE}(r:QK A X h (.list a) ts d):∃vs,qS h a=some vs/\qM A X h ts vs:=by
 cases r with
 |list _ f vs _ q1 q2 q3=>exact⟨vs,qT q2,q3⟩
 |cell n _ vs _ q1 q2 q3=>exact⟨vs,qT q2,q3⟩
theorem ZL{s:Src}{ts:List T}{d:jE}(r:QK A X h s ts d):D1 h s=some ts.length:=by
 cases r with
 |list a f vs ts q1 q2 q3=>show (qS h a).map _=_;rw[qT q2,Option.map_some,qB (reps_iff.mp q3)]
 |cell n a vs ts q1 q2 q3=>show (qS h a).map _=_;rw[qT q2,Option.map_some,qB (reps_iff.mp q3)]
 |tupl a vs ts q1 q2 q3=>show (qY h a).map _=_;rw[show qY h a=some vs by unfold qY;rw[q2],Option.map_some,qB (reps_iff.mp q3)]
 |rng lo n=>show some n=_;simp[qh]
 |zip a b ts us d1 d2 r1 r2=>
  obtain⟨vs,e1,k1⟩:=zT r1;obtain⟨ws,e2,k2⟩:=zT r2;show (match qS h a,qS h b with|some xs,some ys=>_|_,_=>_)=_;rw[e1,e2,List.length_zipWith,qB (reps_iff.mp k1),qB (reps_iff.mp k2)]
theorem Qj{s:Src}{ts:List T}{d:jE}(r:QK A X h s ts d):jF h ts.length s=true:=by
 cases r with
 |list a f vs ts q1 q2 q3=>show (match qS h a with|some xs=>_|none=>_)=_;rw[qT q2,qB (reps_iff.mp q3)];simp
 |cell n a vs ts q1 q2 q3=>show (match qS h a with|some xs=>_|none=>_)=_;rw[qT q2,qB (reps_iff.mp q3)];simp
 |tupl a vs ts q1 q2 q3=>show (match qY h a with|some xs=>_|none=>_)=_;rw[show qY h a=some vs by unfold qY;rw[q2],qB (reps_iff.mp q3)];simp
 |rng lo n=>show decide _=_;simp[qh]
 |zip a b ts us d1 d2 r1 r2=>
  obtain⟨vs,e1,k1⟩:=zT r1;obtain⟨ws,e2,k2⟩:=zT r2;show (match qS h a,qS h b with|some xs,some ys=>_|_,_=>_)=_;rw[e1,e2,List.length_zipWith,qB (reps_iff.mp k1),qB (reps_iff.mp k2)];simp;omega
theorem jt(R:RelM gl A X h M){s:Src}{ts:List T}{d:jE}(r:QK A X h s ts d){i:Nat}{t:T}(ei:ts[i]?=some t):
  ∃w e,zA h i s=some (w,h++e)/\Rep A X (h++e) t w:=by
 cases r with
 |list a f vs ts q1 q2 q3=>
  obtain⟨w,ew,q⟩:=qr (reps_iff.mp q3) ei;refine⟨w,[],?_,by rw[List.append_nil];exact q⟩;show (match qS h a with|some xs=>_|none=>_)=_;rw[qT q2];dsimp only;rw[ew,List.append_nil];rfl
 |cell n a vs ts q1 q2 q3=>
  obtain⟨w,ew,q⟩:=qr (reps_iff.mp q3) ei;refine⟨w,[],?_,by rw[List.append_nil];exact q⟩;show (match qS h a with|some xs=>_|none=>_)=_;rw[qT q2];dsimp only;rw[ew,List.append_nil];rfl
 |tupl a vs ts q1 q2 q3=>
  obtain⟨w,ew,q⟩:=qr (reps_iff.mp q3) ei;refine⟨w,[],?_,by rw[List.append_nil];exact q⟩;show (match qY h a with|some xs=>_|none=>_)=_;rw[show qY h a=some vs by unfold qY;rw[q2]];dsimp only;rw[ew,List.append_nil];rfl
 |rng lo n=>
  have hi:i<n:=by have:=(List.getElem?_eq_some_iff.mp ei).1;simpa [qh] using this
  refine⟨.int (lo+(i:Int)),[],?_,?_⟩
  ·show (if i<n then _ else _)=_;rw[if_pos hi,List.append_nil]
  ·have:t=.v (.int (lo+(i:Int))):=by
    simp only[qh,wQ,List.getElem?_range hi,Option.map_some,Option.some.injEq]at ei;exact ei.symm
   rw[this];unfold Rep;exact⟨rfl,rfl⟩
 |zip a b ts us d1 d2 r1 r2=>
  obtain⟨vs,e1,k1⟩:=zT r1;obtain⟨ws,e2,k2⟩:=zT r2;rw[List.getElem?_zipWith]at ei;cases et:ts[i]? with
  |none=>rw[et]at ei;cases ei
  |some x=>
   cases eu:us[i]? with
   |none=>rw[et,eu]at ei;cases ei
   |some y=>
    rw[et,eu]at ei;cases ei;obtain⟨v,ev,qv⟩:=qr (reps_iff.mp k1) et;obtain⟨w,ew,qw⟩:=qr (reps_iff.mp k2) eu;refine⟨.ref h.length,[.tup [v,w]],?_,?_⟩
    ·show (match qS h a,qS h b with|some xs,some ys=>_|_,_=>_)=_;rw[e1,e2];dsimp only;rw[ev,ew]
    ·have f:=Frm.app A h [O.tup [v,w]];unfold Rep;refine⟨_,[v,w],rfl,λz=>Nat.lt_irrefl _ (R.lt _ z),by simp,?_⟩;unfold qM;refine⟨v,[w],rfl,R.keep f qv,?_⟩;unfold qM;exact⟨w,[],rfl,R.keep f qw,by unfold qM;rfl⟩
theorem Frs.ofD(R:RelM gl A X h M){kvs:List (Int×V)}(r:Rep A X (h++[O.ob (.dct kvs)]) (.ob (.dct kvs)) (.ref h.length)):Frs gl A X h.length (h++[O.ob (.dct kvs)]) M (.ob (.dct kvs)) (.ref h.length):=
 ⟨[],by unfold Rep at r;unfold FP;exact⟨r,rfl⟩,vB,λa ha=>by simp at ha,by rw[List.append_nil];exact R.up _,λ_ _=>⟨h.length,rfl,Nat.le_refl _,R.addX λa=>by simp only[wE,wJ];grind⟩⟩
theorem RelM.setX(R:RelM gl A X h M){D:Nat}(hD:D∈X)(hA:D∉A)(o:O):RelM gl A X (h.set D o) M:=by
 have hn:∀a o',a∉X->h[a]?=some o'->a∉X/\(h.set D o)[a]?=some o':=λa o' x y=>⟨x,by rw[List.getElem?_set_ne (by rintro rfl;exact x hD)];exact y⟩
 refine⟨R.len,R.nd,R.sub,λa ha=>by simpa using R.lt a ha,λn a e=>?_,λg t e=>ql (λ_ _ e=>e) hn t (R.glo g t e)⟩;obtain⟨ts,vs,e1,e2,e3⟩:=R.at_ n a e;exact⟨ts,vs,e1,by rw[List.getElem?_set_ne (by rintro rfl;exact hA (List.mem_of_getElem? e))];exact e2,qN (λ_ _ e=>e) hn ts e3⟩
theorem Sim.bindW{α β α2 β2:Type}{X':List Nat}{h1:AH}{Q:α->β->AH->Mem->Prop}{Q2:α2->β2->AH->Mem->Prop}{r:PR (α×Mem)}{rh:Res (β×AH)}{f:α×Mem->PR (α2×Mem)}{g:β×AH->Res (β2×AH)}
  (hX:∀a∈X,a∈X') (hA:∀a∈A,a∈X) (f0:Frm A h1 h)
  (s:Sim gl A X' h Q r rh) (k:∀x M' y h',Frm A h h'->RelM gl A X' h' M'->Q x y h' M'->Sim gl A X h1 Q2 (f (x,M')) (g (y,h'))):Sim gl A X h1 Q2 (r.bind f) (rh.bind g):=by
 cases r with
 |ok p=>
  obtain⟨x,M'⟩:=p;obtain⟨y,h',rfl,f1,R1,q⟩:=s;exact k x M' y h' f1 R1 q
 |exc c M'=>
  obtain⟨h',rfl,f1,R1⟩:=s;exact⟨h',rfl,f0.trans f1,R1.weak hX hA⟩
 |stuck=>trivial
mutual
theorem qCG{X X':List Nat}{h:AH}:∀(t:T){w:V}{f g:List Nat},FP X h t w f->FP X' h t w g->f=g
 | .v x,w,f,g,p,q=>by unfold FP at p q;rw[p.2,q.2]
 | .cell n,w,f,g,p,q=>by unfold FP at p;exact p.elim
 | .fz ts,w,f,g,p,q=>by unfold FP at p;exact p.elim
 | .ob o,w,f,g,p,q=>by unfold FP at p q;rw[p.2,q.2]
 | .lst ts,w,f,g,p,q=>by
  unfold FP at p q;obtain⟨a,vs,f',rfl,_,e1,k1,rfl⟩:=p;obtain⟨b,us,g',e,_,e2,k2,rfl⟩:=q;cases e;rw[e1]at e2;cases e2;rw[ZV ts k1 k2]
 | .tup ts,w,f,g,p,q=>by
  unfold FP at p q;obtain⟨a,vs,rfl,_,e1,k1⟩:=p;obtain⟨b,us,e,_,e2,k2⟩:=q;cases e;rw[e1]at e2;cases e2;exact ZV ts k1 k2
theorem ZV{X X':List Nat}{h:AH}:∀(ts:List T){ws:List V}{f g:List Nat},FPs X h ts ws f->FPs X' h ts ws g->f=g
 | [],w,f,g,p,q=>by unfold FPs at p q;rw[p.2,q.2]
 |t::ts,w,f,g,p,q=>by
  unfold FPs at p q;obtain⟨v,vs,f1,f2,rfl,a,b,rfl⟩:=p;obtain⟨v',vs',g1,g2,e,a',b',rfl⟩:=q;cases e;rw[qCG t a a',ZV ts b b']
end
theorem C6:∀{ts:List T}{ws:List V}{fp f:List Nat}{t:T}{w:V},FPs X h ts ws fp->FP X h t w f->FPs X h (ts++[t]) (ws++[w]) (fp++f)
 | [],ws,fp,f,t,w,p,q=>by
  unfold FPs at p;obtain⟨rfl,rfl⟩:=p;show FPs X h [t] [w] f;unfold FPs;exact⟨w,[],f,[],rfl,q,by unfold FPs;exact⟨rfl,rfl⟩,by simp⟩
 |s::ts,ws,fp,f,t,w,p,q=>by
  unfold FPs at p;obtain⟨v,vs,f1,f2,rfl,a,b,rfl⟩:=p;show FPs X h (s::(ts++[t])) (v::(vs++[w])) _;unfold FPs;exact⟨v,vs++[w],f1,f2++f,rfl,a,C6 b q,by rw[wL]⟩
end
section
variable{gl:List T}{A X:List Nat}
theorem ZT{s:Src}{its:List T}{d:jE}{g:Tg}{c:TS->Mem->PR (Bool×Mem)}{c':List (Option V)->AH->Res (Bool×AH)}{e:TS->Mem->PR (TB×Mem)}{e':List (Option V)->AH->RV}{D:Nat}{h1:AH}
  (hc:∀X h M σ σh,RelM gl A X h M->jL A X h σ σh->Sim gl A X h (λb b' _ _=>b=b') (c σ M) (c' σh h))
  (he:∀X h M σ σh,RelM gl A X h M->jL A X h σ σh->Sim gl A X h (QE gl A X h.length) (e σ M) (e' σh h))
  (hD:h1.length<=D) (hDX:D∉X) (hA:∀a∈A,a∈X):∀(r:List T) (i:Nat) (ys:List T) (ws:List V) (f:Bool) (fp:List Nat) (Y:List Nat) (σ:TS) (σh:List (Option V)) (M:Mem) (h:AH),
   its.drop i=r->i<=its.length->Y=D::X++fp->Frm A h1 h->RelM gl A Y h M->QK A Y h s its d->h[D]?=some (.lst false ws)->qM A (D::X) h ys ws ->
   (f=true->FPs (D::X) h ys ws fp/\fp.Nodup/\∀a∈fp,h1.length<=a)->jL A Y h σ σh ->
   Sim gl A X h1 (QE gl A X h1.length) (qP d g c e r ys f σ M) (Jd s g c' e' D r.length i ws σh h)
 | [],i,ys,ws,f,fp,Y,σ,σh,M,h,hr,hi,hY,fm,R,sr,eD,ry,hf,rs=>by
  have hi':i=its.length:=by
   have:=vD.mp hr;omega
  subst hi';have hX:∀a∈X,a∈D::X:=λa z=>List.mem_cons_of_mem _ z;have hXY:∀a∈X,a∈Y:=λa z=>by rw[hY];simp[z]
  have hn:∀a o,a∉D::X->h[a]?=some o->a∉X/\h[a]?=some o:=λa o x y=>⟨λz=>x (hX _ z),y⟩
  refine⟨.ref D,h,?_,fm,R.weak hXY hA,?_,λe=>?_⟩
  ·show (if jF h its.length s then _ else _)=_;rw[if_pos (Qj sr)]
  ·show Rep A X h (.lst ys) _;unfold Rep;exact⟨D,ws,rfl,hDX,eD,qN (λ_ _ e=>e) hn ys ry⟩
  ·obtain⟨p,nd,l⟩:=hf e;refine⟨fp++[D],?_,?_,?_,?_⟩
   ·show FP X h (.lst ys) _ _;unfold FP;exact⟨D,ws,fp,rfl,hDX,eD,zb hn ys p,rfl⟩
   ·rw[wR];refine⟨nd,by simp,?_⟩;rintro a ha b hb rfl;simp at hb;exact(jq ys p a ha).1 (by rw[hb];exact List.mem_cons_self ..)
   ·intro a ha;rcases wE.mp ha with z|z
    ·exact l a z
    ·simp at z;omega
   ·refine⟨R.weak (λa z=>?_) λa z=>wF _ (hA a z),New.lst⟩;rw[hY];simp only[wE,List.mem_cons,wJ]at z ⊢
    grind
 |x::r,i,ys,ws,f,fp,Y,σ,σh,M,h,hr,hi,hY,fm,R,sr,eD,ry,hf,rs=>by
  have hXY:∀a∈X,a∈Y:=λa z=>by rw[hY];simp[z]
  have hDY:D∈Y:=by rw[hY];simp
  have hDXY:∀a∈D::X,a∈Y:=λa z=>by rw[hY];exact wF _ z
  have hDA:D∉A:=λz=>hDX (hA D z);have ex:its[i]?=some x:=by
   have:(its.drop i)[0]?=some x:=by rw[hr];rfl
   rwa [wz,Nat.add_zero]at this
  have hi2:i+1<=its.length:=(List.getElem?_eq_some_iff.mp ex).1;have hr2:its.drop (i+1)=r:=by
   rw[<-vI,hr];rfl
  obtain⟨w,ext,ey,rx⟩:=jt R sr ex;have fy:Frm A h (h++ext):=Frm.app A h ext;rw[List.length_cons];unfold qP Jd;rw[ey];dsimp only;cases es:qo g x σ with
  |none=>exact Sim.stuck
  |some σ1=>
   obtain⟨σh1,esh,rs1⟩:=jc es rx (R.keepS fy rs);rw[esh];dsimp only;refine Sim.bindW hXY hA (fm.trans fy) (hc _ _ _ _ _ (R.up ext) rs1) ?_;rintro b M2 b' h2 f2 R2 rfl;have k2:Frm A h h2:=fy.trans f2;have eD2:h2[D]?=some (.lst false ws):=(k2.2 D (qJ eD) hDA).trans eD;have kN:∀{h':AH},Frm A h h'->∀a o,a∉D::X->h[a]?=some o->a∉D::X/\h'[a]?=some o:=λf' a o x y=>⟨x,(f'.2 a (qJ y) λz=>x (List.mem_cons_of_mem _ (hA _ z))).trans y⟩
   cases b with
   |true=>
    simp only[if_true];refine Sim.bindW hXY hA (fm.trans k2) (he _ _ _ _ _ R2 ((R.up ext).keepS f2 rs1)) ?_;intro y M3 w3 h3 f3 R3 q3;have k3:Frm A h h3:=k2.trans f3;have eD3:h3[D]?=some (.lst false ws):=(k3.2 D (qJ eD) hDA).trans eD;have lw:ys.length=ws.length:=qB (reps_iff.mp ry);dsimp only;by_cases hl:ys.length<lim/\qR d M3=true
    ·rw[if_pos hl,if_pos ⟨eD3,by rw[<-lw];exact hl.1⟩];have hs:∀(Z:List Nat),D∈Z->∀a o,a∉Z->h3[a]?=some o->a∉Z/\(h3.set D (.lst false (ws++[w3])))[a]?=some o:=λZ hZ a o x y=>⟨x,by rw[List.getElem?_set_ne (by rintro rfl;exact x hZ)];exact y⟩
     have hnD:∀a o,a∉D::X->h[a]?=some o->a∉D::X/\(h3.set D (.lst false (ws++[w3])))[a]?=some o:=λa o x y=>hs _ (List.mem_cons_self ..) a o x (kN k3 a o x y).2;have ry4:qM A (D::X) (h3.set D (.lst false (ws++[w3]))) (ys++[y.1]) (ws++[w3]):=
      reps_iff.mpr (qk (reps_iff.mp (qN (λ_ _ e=>e) hnD ys ry)) ⟨w3,[],rfl,ql (λ_ _ e=>e) (λa o x y=>hs _ (List.mem_cons_self ..) a o x y) _ (ql (λ_ _ e=>e) (λa o x y=>⟨λz=>x (hDXY _ z),y⟩) _ q3.1),rfl⟩)
     obtain⟨fp2,hp2,R3',hlt2⟩:∃fp2:List Nat,(y.2=true->FP Y h3 y.1 w3 fp2/\fp2.Nodup)/\RelM gl A (Y++fp2) h3 M3/\∀a∈fp2,h2.length<=a:=by
      cases hy2:y.2 with
      |true=>
       obtain⟨fp2,a,b,c,d,_⟩:=q3.2 hy2;exact⟨fp2,λ_=>⟨a,b⟩,d,c⟩
      |false=>exact⟨[],(λz=>by cases z),by rw[List.append_nil];exact R3,λa ha=>by simp at ha⟩
     have old:∀{Z:List Nat}(_:∀a∈Y,a∈Z) (a:Nat) o,a∉Y->h2[a]?=some o->a∉Y++fp2:=λ_ a o x y=>by
      rw[wE];rintro(z|z)
      ·exact x z
      ·have:=hlt2 a z;have:=qJ y;omega
     have R4:=R3'.setX (wF _ hDY) hDA (.lst false (ws++[w3]));have hnY:∀a o,a∉Y->h[a]?=some o->a∉Y++fp2/\(h3.set D (.lst false (ws++[w3])))[a]?=some o:=λa o x y=>⟨old (λ_ z=>z) a o x (R.keepN k2 a o x y).2,(hs Y hDY a o x (R.keepN k3 a o x y).2).2⟩
     have hn2:∀a o,a∉Y->h2[a]?=some o->a∉Y++fp2/\(h3.set D (.lst false (ws++[w3])))[a]?=some o:=λa o x y=>⟨old (λ_ z=>z) a o x y,(hs Y hDY a o x (R2.keepN f3 a o x y).2).2⟩
     refine ZT hc he hD hDX hA r (i+1) (ys++[y.1]) (ws++[w3]) (f&&y.2) (fp++fp2) (Y++fp2) σ1 σh1 M3 _ hr2 hi2 (by rw[hY,wL]) ((fm.trans k3).set (.inr hD) _) R4 ?_ ?_ ry4 ?_ ?_
     ·exact ZE sr hnY R4 hl.2
     ·rw[List.getElem?_set_self (qJ eD3)]
     ·intro ef;rw[Bool.and_eq_true]at ef;obtain⟨p1,nd1,l1⟩:=hf ef.1;obtain⟨p2,nd2⟩:=hp2 ef.2;refine⟨C6 (zb hnD ys p1) (Qk (λa o x y=>hs _ (List.mem_cons_self ..) a o x y) _ (Qk (λa o x y=>⟨λz=>x (hDXY _ z),y⟩) _ p2)),?_,?_⟩
      ·rw[wR];refine⟨nd1,nd2,?_⟩;rintro a ha b hb rfl;exact(G6 y.1 p2 a hb).1 (by rw[hY];exact wG _ ha)
      ·intro a ha;rcases wE.mp ha with z|z
       ·exact l1 a z
       ·have:=hlt2 a z;have:=(fm.trans k2).1;omega
     ·exact zI (λ_ _ e=>e) hn2 ((R.up ext).keepS f2 rs1)
    ·rw[if_neg hl];exact Sim.stuck
   |false=>
    dsimp only;simp only[Bool.false_eq_true,if_false];by_cases hl:qR d M2=true
    ·rw[if_pos hl,if_pos eD2];exact ZT hc he hD hDX hA r (i+1) ys ws f fp Y σ1 σh1 M2 h2 hr2 hi2 hY (fm.trans k2) R2 (JS sr (λa o x y=>(R.keepN k2 a o x y).2) R2 hl) eD2 (qN (λ_ _ e=>e) (kN k2) ys ry)
      (λef=>by obtain⟨a,b,c⟩:=hf ef;exact⟨zb (kN k2) ys a,b,c⟩) ((R.up ext).keepS f2 rs1)
    ·rw[if_neg hl];exact Sim.stuck
end
section
variable{gl:List T}{A X:List Nat}{h h':AH}{M M':Mem}
theorem X7{X':List Nat}{s:Src}{ts:List T}{d:jE}(r:QK A X h s ts d)(hn:∀a o,a∉X->h[a]?=some o->a∉X'/\h'[a]?=some o)(hc:∀(n:Nat) a o,A[n]?=some a->h[a]?=some o->h'[a]?=some o):QK A X' h' s ts d:=by
 induction r with
 |list a f vs ts q1 q2 q3=>exact .list a f vs ts (hn _ _ q1 q2).1 (hn _ _ q1 q2).2 (qN (λ_ _ e=>e) hn ts q3)
 |cell n a vs ts q1 q2 q3=>exact .cell n a vs ts q1 (hc n a _ q1 q2) (qN (λ_ _ e=>e) hn ts q3)
 |tupl a vs ts q1 q2 q3=>exact .tupl a vs ts (hn _ _ q1 q2).1 (hn _ _ q1 q2).2 (qN (λ_ _ e=>e) hn ts q3)
 |rng lo n=>exact .rng lo n
 |zip a b ts us d1 d2 _ _ i1 i2=>exact .zip a b ts us d1 d2 i1 i2
theorem K0{n:Nat}{r:PR (TB×Mem)}{rh:RV}(s:Sim gl A X h (QE gl A X n) r rh):Sim gl A X h (λb b' _ _=>b=b') (pB r) (asB rh):=by
 refine Sim.bind s ?_;intro x M1 w h1 f1 R1 q1;obtain⟨t,fr⟩:=x;dsimp only;split
 ·rename_i b;cases zF q1.1;exact⟨_,h1,rfl,Frm.refl A h1,R1,rfl⟩
 ·exact Sim.stuck
theorem JB:∀(xs:List V),T.lfs (xs.map .v)=true
 | []=>rfl
 |x::xs=>by show (T.lf (.v x)&&T.lfs (xs.map .v))=true;rw[JB xs];rfl
theorem J4(lo:Int)(n:Nat):T.lfs (qh lo n)=true:=by
 have e:qh lo n=(jD lo n).map .v:=by unfold qh jD;rw[wg];rfl
 rw[e];exact JB _
theorem jT{A X:List Nat}{h:AH}:∀{xs:List V},xs.all flat=true->qM A X h (xs.map .v) xs
 | [],_=>by show qM A X h [] [];unfold qM;rfl
 |x::xs,f=>by
  rw[List.all_cons,Bool.and_eq_true]at f;show qM A X h (.v x::xs.map .v) _;unfold qM;exact⟨x,xs,rfl,by unfold Rep;exact⟨rfl,f.1⟩,jT f.2⟩
theorem J1{α β:Type}{R:α->β->Prop}{xs:List α}{ys:List β}(k:Nat)(h:qy R xs ys):qy R (xs.eraseIdx k) (ys.eraseIdx k):=by
 rw[wX,wX];exact qk (qq _ h) (zo _ h)
theorem Zn{α β:Type}{R:α->β->Prop}{xs:List α}{ys:List β}(h:qy R xs ys):qy R xs.dropLast ys.dropLast:=by
 rw[wo,wo,<-qB h];exact qq _ h
theorem D3{α β:Type}{R:α->β->Prop}:∀{xs:List α}{ys:List β},qy R xs ys->qy R xs.reverse ys.reverse
 | [],_,h=>by cases h;rfl
 |x::xs,_,⟨v,vs,rfl,r,h⟩=>by
  rw[wf,wf];exact qk (D3 h) ⟨v,[],rfl,r,rfl⟩
theorem a5(R:RelM gl A X h M){m:Mt}{n p:Nat}{ts:List T}{ws:List V}(ep:A[n]?=some p)(rs:qM A X h ts ws):Sim gl A X h (QE gl A X h.length) (PR.ofO (Zp m n ts M)) (jX m p ws h):=by
 obtain⟨ts2,vs2,g1,g2,g3⟩:=R.at_ n p ep;have hm:qe h p=some vs2:=by unfold qe;rw[g2]
 have l:=qB (reps_iff.mp g3);cases em:Zp m n ts M with
 |none=>exact Sim.stuck
 |some r=>
  unfold Zp at em;split at em
  ·unfold qM at rs;subst rs;rw[g1]at em;dsimp only[Option.bind_some]at em;obtain⟨y,ey,rfl⟩:=Option.map_eq_some_iff.mp em;obtain⟨w,ew,rw2⟩:=qr (reps_iff.mp g3) ey;show Sim _ _ _ _ _ _ (match qe h p with|some xs=>_|none=>_);rw[hm];dsimp only;rw[<-l,ew];obtain⟨R4,f4⟩:=R.put ep (reps_iff.mpr (Zn (reps_iff.mp g3)));have r:=R.keep f4 rw2;exact⟨w,_,rfl,f4,R4,r,λe=>Frs.of_lf R4 r e⟩
  ·rename_i i;obtain⟨w,rfl,a⟩:=Qi rs;cases zF a;rw[g1]at em;dsimp only[Option.bind_some]at em;split at em
   ·rename_i hl;obtain⟨k,ek,em⟩:=Option.bind_eq_some_iff.mp em;obtain⟨y,ey,rfl⟩:=Option.map_eq_some_iff.mp em;obtain⟨w,ew,rw2⟩:=qr (reps_iff.mp g3) ey;show Sim _ _ _ _ _ _ (match qe h p with|some xs=>_|none=>_);rw[hm];dsimp only;rw[<-l,if_pos hl,ek];dsimp only;rw[ew];obtain⟨R4,f4⟩:=R.put ep (reps_iff.mpr (J1 k (reps_iff.mp g3)));have r:=R.keep f4 rw2;exact⟨w,_,rfl,f4,R4,r,λe=>Frs.of_lf R4 r e⟩
   ·cases em
  ·unfold qM at rs;subst rs;rw[g1]at em;cases em;show Sim _ _ _ _ _ _ (match qe h p with|some xs=>_|none=>_);rw[hm];obtain⟨R4,f4⟩:=R.put ep (reps_iff.mpr (D3 (reps_iff.mp g3)));have r:Rep A X (h.set p (.lst false vs2.reverse)) (.v .non) .non:=by unfold Rep;exact⟨rfl,rfl⟩
   exact⟨_,_,rfl,f4,R4,r,λe=>Frs.of_lf R4 r e⟩
  ·unfold qM at rs;subst rs;rw[g1]at em;cases em;show Sim _ _ _ _ _ _ (match qe h p with|some xs=>_|none=>_);rw[hm];obtain⟨R4,f4⟩:=R.put (ts:=[]) (vs:=[]) ep (by unfold qM;rfl);have r:Rep A X (h.set p (.lst false [])) (.v .non) .non:=by unfold Rep;exact⟨rfl,rfl⟩
   exact⟨_,_,rfl,f4,R4,r,λe=>Frs.of_lf R4 r e⟩
  ·rename_i i t;unfold qM at rs;obtain⟨w1,wr,rfl,a1,rs⟩:=rs;obtain⟨w2,rfl,a2⟩:=Qi rs;cases zF a1;rw[g1]at em;dsimp only[Option.bind_some]at em;split at em
   ·rename_i hc;cases em;show Sim _ _ _ _ _ _ (match qe h p with|some xs=>_|none=>_);rw[hm];dsimp only;rw[if_pos (by rw[<-l];exact hc)];obtain⟨R4,f4⟩:=R.put ep (reps_iff.mpr (qk (qq i.toNat (reps_iff.mp g3)) (show qy (Rep A X h) (t::ts2.drop i.toNat) (w2::vs2.drop i.toNat) from⟨_,_,rfl,a2,zo i.toNat (reps_iff.mp g3)⟩)));have r:Rep A X (h.set p (.lst false (vs2.take i.toNat++w2::vs2.drop i.toNat))) (.v .non) .non:=by unfold Rep;exact⟨rfl,rfl⟩
    exact⟨_,_,rfl,f4,R4,r,λe=>Frs.of_lf R4 r e⟩
   ·cases em
  ·cases em
theorem u7(R:RelM gl A X h M){t:T}{w:V}{s:List T×jE}(r:Rep A X h t w)(e:J2 M t=some s):∃p sh,w=.ref p/\(match h[p]? with|some (.lst _ _)=>Res.ok (Src.list p,h)|some (.tup _)=>.ok (.tupl p,h)|_=>.stuck)=.ok (sh,h)/\QK A X h sh s.1 s.2:=by
 cases t with
 |v x=>cases e
 |cell n=>
  unfold Rep at r;obtain⟨a,ea,rfl⟩:=r;obtain⟨ts,vs,e1,e2,e3⟩:=R.at_ n a ea;unfold J2 at e;dsimp only at e;rw[e1]at e;cases e;exact⟨a,_,rfl,by rw[e2],.cell n a vs ts ea e2 e3⟩
 |fz xs=>unfold Rep at r;obtain⟨a,vs,rfl,q,k,z⟩:=r;cases e;exact⟨a,_,rfl,by rw[k],.list a true vs xs q k z⟩
 |lst xs=>unfold Rep at r;obtain⟨a,vs,rfl,q,k,z⟩:=r;cases e;exact⟨a,_,rfl,by rw[k],.list a false vs xs q k z⟩
 |tup xs=>unfold Rep at r;obtain⟨a,vs,rfl,q,k,z⟩:=r;cases e;exact⟨a,_,rfl,by rw[k],.tupl a vs xs q k z⟩
 |ob o=>cases e
theorem S6(R:RelM gl A X h M){t:T}{w:V}{s:List T×jE}(r:Rep A X h t w)(e:V9 M t=some s):∃p vs,w=.ref p/\qS h p=some vs/\QK A X h (.list p) s.1 s.2:=by
 cases t with
 |v x=>cases e
 |cell n=>
  unfold Rep at r;obtain⟨a,ea,rfl⟩:=r;obtain⟨ts,vs,e1,e2,e3⟩:=R.at_ n a ea;unfold V9 at e;dsimp only at e;rw[e1]at e;cases e;exact⟨a,_,rfl,qT e2,.cell n a vs ts ea e2 e3⟩
 |fz xs=>unfold Rep at r;obtain⟨a,vs,rfl,q,k,z⟩:=r;cases e;exact⟨a,_,rfl,qT k,.list a true vs xs q k z⟩
 |lst xs=>unfold Rep at r;obtain⟨a,vs,rfl,q,k,z⟩:=r;cases e;exact⟨a,_,rfl,qT k,.list a false vs xs q k z⟩
 |tup xs=>cases e
 |ob o=>cases e
theorem QEs.len{n:Nat}{xs:List TB}{ws:List V}(q:QEs gl A X n xs ws h M):xs.length=ws.length:=by
 have:=qB (reps_iff.mp q.1);simpa using this
end
section
variable{gl:List T}{P:Nat->List T->Mem->PR (TB×Mem)}{F:Nat->List V->AH->RV}
variable (hF:∀f ts ws A X h M,RelM gl A X h M->qM A X h ts ws->Sim gl A X h (QE gl A X h.length) (P f ts M) (F f ws h))
include hF
mutual
theorem qW:∀(e:E) (A X:List Nat) (h:AH) (M:Mem) (σ:TS) (σh:List (Option V)),RelM gl A X h M->jL A X h σ σh->Sim gl A X h (QE gl A X h.length) (pe gl P e σ M) (ev F e σh h)
 | .var i,A,X,h,M,σ,σh,R,rs=>by
  rw[pe,ev];dsimp only;split
  ·rename_i t e;obtain⟨w,ew,r⟩:=ZS rs e;rw[ew];exact Jl R r
  ·exact Sim.stuck
 | .dnew,A,X,h,M,σ,σh,R,rs=>by
  unfold pe ev;have r:Rep A X (h++[O.ob (.dct [])]) (.ob (.dct [])) (.ref h.length):=by
   unfold Rep;exact⟨h.length,rfl,λz=>by have:=R.lt _ z;omega,by simp⟩
  exact⟨_,_,rfl,Frm.app A h _,R.up _,r,λ_=>Frs.ofD R r⟩
 | .cst v,A,X,h,M,σ,σh,R,rs=>by
  rw[pe,ev];dsimp only;split
  ·rename_i e;exact qF R e
  ·exact Sim.stuck
 | .glob g,A,X,h,M,σ,σh,R,rs=>by
  rw[pe,ev];dsimp only;split
  ·rename_i t e;exact Jl R (R.glo g t e)
  ·exact Sim.stuck
 | .bin op a b,A,X,h,M,σ,σh,R,rs=>by
  rw[pe,ev];dsimp only;refine Sim.bind (qW a A X h M σ σh R rs) ?_;intro x M1 v h1 f1 R1 q1;dsimp only;refine Sim.bind (qW b A X h1 M1 σ σh R1 (R.keepS f1 rs)) ?_;intro y M2 w h2 f2 R2 q2;dsimp only;exact Sim.ofO λr er=>(y9 R2 er (R1.keep f2 q1.1) q2.1).le (Nat.le_trans f1.1 f2.1)
 | .neg a,A,X,h,M,σ,σh,R,rs=>by
  rw[pe,ev];dsimp only;refine Sim.bind (qW a A X h M σ σh R rs) ?_;intro x M1 v h1 f1 R1 q1;dsimp only;obtain⟨t,fr⟩:=x;dsimp only;split
  ·cases zF q1.1;exact qF R1 rfl
  ·exact Sim.stuck
 | .cmp op a b,A,X,h,M,σ,σh,R,rs=>by
  rw[pe,ev];dsimp only;refine Sim.bind (qW a A X h M σ σh R rs) ?_;intro x M1 v h1 f1 R1 q1;dsimp only;refine Sim.bind (qW b A X h1 M1 σ σh R1 (R.keepS f1 rs)) ?_;intro y M2 w h2 f2 R2 q2;dsimp only;refine Sim.ofO λr er=>?_;unfold j0;rw[Jn R2 (R1.keep f2 q1.1) q2.1 er];exact qF R2 rfl
 | .cmp2 o1 o2 a b c,A,X,h,M,σ,σh,R,rs=>by
  rw[pe,ev];dsimp only;refine Sim.bind (qW a A X h M σ σh R rs) ?_;intro x M1 v h1 f1 R1 q1;dsimp only;refine Sim.bind (qW b A X h1 M1 σ σh R1 (R.keepS f1 rs)) ?_;intro y M2 w h2 f2 R2 q2;dsimp only;refine Sim.ofO λr er=>?_;rw[Jn R2 (R1.keep f2 q1.1) q2.1 er];cases r with
  |true=>
   simp only[if_true];refine Sim.bind (qW c A X h2 M2 σ σh R2 (R1.keepS f2 (R.keepS f1 rs))) ?_;intro z M3 u h3 f3 R3 q3;dsimp only;refine Sim.ofO λr er=>?_;unfold j0;rw[Jn R3 (R2.keep f3 q2.1) q3.1 er];exact qF R3 rfl
  |false=>exact qF R2 rfl
 | .and a b,A,X,h,M,σ,σh,R,rs=>by
  rw[pe,ev];dsimp only;refine Sim.bind (K0 (qW a A X h M σ σh R rs)) ?_;rintro x M1 v h1 f1 R1 rfl;dsimp only;cases x with
  |true=>simp only[if_true];exact(qW b A X h1 M1 σ σh R1 (R.keepS f1 rs)).le f1.1
  |false=>exact qF R1 rfl
 | .or a b,A,X,h,M,σ,σh,R,rs=>by
  rw[pe,ev];dsimp only;refine Sim.bind (K0 (qW a A X h M σ σh R rs)) ?_;rintro x M1 v h1 f1 R1 rfl;dsimp only;cases x with
  |false=>simp only[Bool.false_eq_true,if_false];exact(qW b A X h1 M1 σ σh R1 (R.keepS f1 rs)).le f1.1
  |true=>exact qF R1 rfl
 | .not a,A,X,h,M,σ,σh,R,rs=>by
  rw[pe,ev];dsimp only;refine Sim.bind (K0 (qW a A X h M σ σh R rs)) ?_;rintro x M1 v h1 f1 R1 rfl;dsimp only;exact qF R1 rfl
 | .ite c a b,A,X,h,M,σ,σh,R,rs=>by
  rw[pe,ev];dsimp only;refine Sim.bind (K0 (qW c A X h M σ σh R rs)) ?_;rintro x M1 v h1 f1 R1 rfl;dsimp only;cases x with
  |true=>simp only[if_true];exact(qW a A X h1 M1 σ σh R1 (R.keepS f1 rs)).le f1.1
  |false=>simp only[Bool.false_eq_true,if_false];exact(qW b A X h1 M1 σ σh R1 (R.keepS f1 rs)).le f1.1
 | .call f as,A,X,h,M,σ,σh,R,rs=>by
  rw[pe,ev];dsimp only;refine Sim.bind (jf as A X h M σ σh R rs) ?_;intro x M1 v h1 f1 R1 q1;dsimp only;exact(hF f _ _ A X h1 M1 R1 q1.1).nx.le f1.1
 | .blt f as,A,X,h,M,σ,σh,R,rs=>by
  rw[pe,ev];dsimp only;refine Sim.bind (jf as A X h M σ σh R rs) ?_;intro x M1 v h1 f1 R1 q1;dsimp only;exact Sim.ofO λr er=>(qAH R1 q1.1 er).le f1.1
 | .isi a ts,A,X,h,M,σ,σh,R,rs=>by
  rw[pe,ev];dsimp only;refine Sim.bind (qW a A X h M σ σh R rs) ?_;intro x M1 v h1 f1 R1 q1;dsimp only;refine Sim.ofO λr er=>?_;rw[f9 R1 q1.1 er];exact qF R1 rfl
 | .idx a b,A,X,h,M,σ,σh,R,rs=>by
  rw[pe,ev];dsimp only;refine Sim.bind (qW a A X h M σ σh R rs) ?_;intro x M1 v h1 f1 R1 q1;dsimp only;refine Sim.bind (qW b A X h1 M1 σ σh R1 (R.keepS f1 rs)) ?_;intro y M2 w h2 f2 R2 q2;dsimp only;refine Sim.ofO λr er=>?_;obtain⟨ty,fy⟩:=y;unfold jv at er;dsimp only at er;split at er
  ·rename_i i;cases zF q2.1;obtain⟨xs,e1,er⟩:=Option.bind_eq_some_iff.mp er;obtain⟨j,e2,er⟩:=Option.bind_eq_some_iff.mp er;obtain⟨t,e3,rfl⟩:=Option.map_eq_some_iff.mp er;obtain⟨p,vs,rfl,k1,k2⟩:=B6 R2 (R1.keep f2 q1.1) e1;obtain⟨u,e4,k3⟩:=qr (reps_iff.mp k2) e3;dsimp only;rw[k1];dsimp only;rw[<-qB (reps_iff.mp k2),e2];dsimp only[Option.bind_some];rw[e4];exact Jl R2 k3
  ·cases er
 | .sl a lo hi,A,X,h,M,σ,σh,R,rs=>by
  rw[pe,ev];dsimp only;refine Sim.bind (qW a A X h M σ σh R rs) ?_;intro x M1 v h1 f1 R1 q1;dsimp only;refine Sim.bind (jf lo A X h1 M1 σ σh R1 (R.keepS f1 rs)) ?_;intro y M2 w h2 f2 R2 q2;dsimp only;refine Sim.bind (jf hi A X h2 M2 σ σh R2 (R1.keepS f2 (R.keepS f1 rs))) ?_;intro z M3 u h3 f3 R3 q3;dsimp only;refine Sim.ofO λxs ex=>Sim.ofO λl el=>Sim.ofO λm em=>?_;rw[Jt (R2.keeps f3 q2.1) el,Jt q3.1 em];have rp:=R2.keep f3 (R1.keep f2 q1.1);refine Sim.ofO λr er=>?_;refine Sim.le ?_ (Nat.le_trans f1.1 (Nat.le_trans f2.1 f3.1));obtain⟨x1,x2⟩:=x;dsimp only at ex er rp ⊢;cases x1 with
  |v x=>cases ex
  |ob o=>cases ex
  |cell n=>cases er;obtain⟨p,vs,f,rfl,k1,k2⟩:=jG R3 rp ex;dsimp only;rw[qT k1];exact K2 R3 (JC k2)
  |fz xs=>cases er;obtain⟨p,vs,f,rfl,k1,k2⟩:=jG R3 rp ex;dsimp only;rw[qT k1];exact K2 R3 (JC k2)
  |lst xs=>cases er;obtain⟨p,vs,f,rfl,k1,k2⟩:=jG R3 rp ex;dsimp only;rw[qT k1];exact K2 R3 (JC k2)
  |tup ts=>
   cases ex;unfold Rep at rp;obtain⟨a,vs,rfl,_,q,kk⟩:=rp;have ln:=qB (reps_iff.mp kk);dsimp only;rw[show qS h3 a=none by unfold qS;rw[q],show qY h3 a=some vs by unfold qY;rw[q]];dsimp only;unfold m5 at er;dsimp only at er;rw[ln]at er;split at er
   ·cases er
   ·rename_i hw;cases er;rw[if_neg hw];exact Ji R3 (JC kk) λe=>Frss.of_lf R3 (JC kk) e
 | .lst as,A,X,h,M,σ,σh,R,rs=>by
  rw[pe,ev];dsimp only;refine Sim.bind (jf as A X h M σ σh R rs) ?_;intro x M1 v h1 f1 R1 q1;dsimp only;rw[<-q1.len];split
  ·exact B0 R1 q1.1 f1.1 q1.2
  ·exact Sim.stuck
 | .tup as,A,X,h,M,σ,σh,R,rs=>by
  rw[pe,ev];dsimp only;refine Sim.bind (jf as A X h M σ σh R rs) ?_;intro x M1 v h1 f1 R1 q1;dsimp only;rw[<-q1.len];split
  ·exact Ji R1 q1.1 q1.2
  ·exact Sim.stuck
 | .comp it src g c e,A,X,h,M,σ,σh,R,rs=>by
  rw[pe,ev];dsimp only;refine Sim.bind (S4 it A X h M σ σh R rs) ?_;intro s M1 sh h1 f1 R1 q1;dsimp only;have hn:∀a o,a∉X->h1[a]?=some o->a∉h1.length::X/\(h1++[O.lst false []])[a]?=some o:=λa o x y=>⟨by
   rw[List.mem_cons];rintro(z|z)
   ·have:=qJ y;omega
   ·exact x z,by rw[List.getElem?_append_left (qJ y)];exact y⟩
  have sr:QK A (h1.length::X) (h1++[O.lst false []]) sh s.1 s.2:=X7 q1 hn λn a o _ y=>by rw[List.getElem?_append_left (qJ y)];exact y
  rw[ZL sr];dsimp only;refine(ZT (its:=s.1) (λX h M σ σh R rs=>qBU c A X h M σ σh R rs) (λX h M σ σh R rs=>qW e A X h M σ σh R rs) (Nat.le_refl h1.length) (λz=>Nat.lt_irrefl _ (R1.lt _ z)) R1.sub s.1 0 [] [] true [] (h1.length::X) _ _ M1 _ rfl (Nat.zero_le _) (by simp) (Frm.app A h1 _) (R1.addX λa=>List.mem_cons) sr (by simp) (by unfold qM;rfl) ?_ ?_).le f1.1
  ·exact λ_=>⟨by unfold FPs;exact⟨rfl,rfl⟩,vB,λa ha=>by simp at ha⟩
  ·exact zI (λ_ _ e=>e) hn (jm (R.keepS f1 rs) src)
 | .app a b,A,X,h,M,σ,σh,R,rs=>by
  rw[pe,ev];dsimp only;refine Sim.bind (qW a A X h M σ σh R rs) ?_;intro x M1 v h1 f1 R1 q1;dsimp only;obtain⟨t,fr⟩:=x;dsimp only;split
  ·rename_i n;have q:=q1.1;unfold Rep at q;obtain⟨p,ep,rfl⟩:=q;obtain⟨ts,vs,e1,e2,e3⟩:=R1.at_ n p ep;dsimp only;rw[qT e2];dsimp only;refine Sim.bind (qW b A X h1 M1 σ σh R1 (R.keepS f1 rs)) ?_;intro y M2 w h2 f2 R2 q2;dsimp only;obtain⟨ts2,vs2,g1,g2,g3⟩:=R2.at_ n p ep;rw[g1,show qe h2 p=some vs2 by unfold qe;rw[g2]];dsimp only;rw[<-qB (reps_iff.mp g3)];split
   ·have r1:qy (Rep A X h2) [y.1] [w]:=⟨w,[],rfl,q2.1,rfl⟩
    obtain⟨R4,f4⟩:=R2.put ep (reps_iff.mpr (qk (reps_iff.mp g3) r1));have r:Rep A X (h2.set p (.lst false (vs2++[w]))) (.v .non) .non:=by unfold Rep;exact⟨rfl,rfl⟩
    exact⟨.non,_,rfl,f4,R4,r,λ_=>Frs.of_lf R4 r rfl⟩
   ·exact Sim.stuck
  ·exact Sim.stuck
 | .lrng a,A,X,h,M,σ,σh,R,rs=>by
  rw[pe,ev];dsimp only;refine Sim.bind (qW a A X h M σ σh R rs) ?_;intro x M1 v h1 f1 R1 q1;dsimp only;obtain⟨t,fr⟩:=x;dsimp only;split
  ·rename_i j;cases zF q1.1;dsimp only;split
   ·have r:qM A X h1 (qh 0 j.toNat) (jD 0 j.toNat):=by
     have e:qh 0 j.toNat=(jD 0 j.toNat).map .v:=by unfold qh jD;rw[wg];rfl
     rw[e];exact jT (by simp[jD,flat])
    exact(B0 (f:=true) R1 r (Nat.le_refl _) λ_=>Frss.of_lf R1 r (J4 0 _)).le f1.1
   ·exact Sim.stuck
  ·exact Sim.stuck
 | .meth m a as,A,X,h,M,σ,σh,R,rs=>by
  rw[pe,ev];dsimp only;refine Sim.bind (qW a A X h M σ σh R rs) ?_;intro x M1 v h1 f1 R1 q1;dsimp only;obtain⟨t,fr⟩:=x;dsimp only;split
  ·rename_i n;have q:=q1.1;unfold Rep at q;obtain⟨p,ep,rfl⟩:=q;obtain⟨ts,vs,e1,e2,e3⟩:=R1.at_ n p ep;dsimp only;rw[qT e2];dsimp only;refine Sim.bind (jf as A X h1 M1 σ σh R1 (R.keepS f1 rs)) ?_;intro y M2 w h2 f2 R2 q2;dsimp only;exact(a5 R2 ep q2.1).le (Nat.le_trans f1.1 f2.1)
  ·exact Sim.stuck
theorem jf:∀(e:Es) (A X:List Nat) (h:AH) (M:Mem) (σ:TS) (σh:List (Option V)),RelM gl A X h M->jL A X h σ σh->Sim gl A X h (QEs gl A X h.length) (pes gl P e σ M) (evs F e σh h)
 | .nil,A,X,h,M,σ,σh,R,rs=>by
  rw[pes,evs];have r:qM A X h [] []:=by unfold qM;rfl
  exact⟨[],h,rfl,Frm.refl A h,R,r,λ_=>Frss.of_lf R r rfl⟩
 | .cons a as,A,X,h,M,σ,σh,R,rs=>by
  rw[pes,evs];dsimp only;refine Sim.bind (qW a A X h M σ σh R rs) ?_;intro x M1 v h1 f1 R1 q1;dsimp only;obtain⟨fp1,hp1,R1',hlt1⟩:∃fp1:List Nat,(x.2=true->FP X h1 x.1 v fp1/\fp1.Nodup)/\RelM gl A (X++fp1) h1 M1/\∀a∈fp1,h.length<=a:=by
   cases hx2:x.2 with
   |true=>
    obtain⟨fp2,a,b,c,d,_⟩:=q1.2 hx2;exact⟨fp2,λ_=>⟨a,b⟩,d,c⟩
   |false=>exact⟨[],(λz=>by cases z),by rw[List.append_nil];exact R1,λa ha=>by simp at ha⟩
  have hX:∀a∈X,a∈X++fp1:=λa z=>wF _ z;have hn:∀a o,a∉X->h[a]?=some o->a∉X++fp1/\h1[a]?=some o:=λa o x y=>⟨by
   rw[wE];rintro(z|z)
   ·exact x z
   ·have:=hlt1 a z;have:=qJ y;omega,(R.keepN f1 a o x y).2⟩
  refine Sim.bindW hX R.sub (Frm.refl A h1) (jf as A (X++fp1) h1 M1 σ σh R1' (zI (λ_ _ e=>e) hn rs)) ?_;intro y M2 w h2 f2 R2 q2;dsimp only;refine⟨_,h2,rfl,f2,R2.weak hX R.sub,?_,λe=>?_⟩
  ·show qM A X h2 (x.1::y.map (·.1)) (v::w);unfold qM;exact⟨v,w,rfl,R1.keep f2 q1.1,qN (λ_ _ e=>e) (λa o x y=>⟨λz=>x (hX _ z),y⟩) _ q2.1⟩
  ·rw[List.all_cons,Bool.and_eq_true]at e;obtain⟨a1,b1⟩:=hp1 e.1;obtain⟨fp2,a2,b2,c2,d2⟩:=q2.2 e.2;refine⟨fp1++fp2,?_,?_,?_,by rw[<-wL];exact d2⟩
   ·show FPs X h2 (x.1::y.map (·.1)) (v::w) _;unfold FPs;exact⟨v,w,fp1,fp2,rfl,Qk (R1.keepN f2) _ a1,zb (λa o x y=>⟨λz=>x (hX _ z),y⟩) _ a2,rfl⟩
   ·rw[wR];refine⟨b1,b2,?_⟩;rintro a ha b hb rfl;exact(jq _ a2 a hb).1 (wG _ ha)
   ·intro a ha;rcases wE.mp ha with z|z
    ·exact hlt1 a z
    ·exact Nat.le_trans f1.1 (c2 a z)
theorem qBU:∀(e:Es) (A X:List Nat) (h:AH) (M:Mem) (σ:TS) (σh:List (Option V)),RelM gl A X h M->jL A X h σ σh->Sim gl A X h (λb b' _ _=>b=b') (pec gl P e σ M) (evc F e σh h)
 | .nil,A,X,h,M,σ,σh,R,rs=>by
  rw[pec,evc];exact⟨true,h,rfl,Frm.refl A h,R,rfl⟩
 | .cons a as,A,X,h,M,σ,σh,R,rs=>by
  rw[pec,evc];exact K0 (qW a A X h M σ σh R rs)
theorem S4:∀(e:Itr) (A X:List Nat) (h:AH) (M:Mem) (σ:TS) (σh:List (Option V)),RelM gl A X h M->jL A X h σ σh->Sim gl A X h (λs sh h' _=>QK A X h' sh s.1 s.2) (pei gl P e σ M) (evi F e σh h)
 | .list a,A,X,h,M,σ,σh,R,rs=>by
  rw[pei,evi];dsimp only;refine Sim.bind (qW a A X h M σ σh R rs) ?_;intro x M1 v h1 f1 R1 q1;dsimp only;refine Sim.ofO λs es=>?_;obtain⟨p,sh,rfl,e1,e2⟩:=u7 R1 q1.1 es;exact⟨sh,h1,e1,Frm.refl A h1,R1,e2⟩
 | .rng1 a,A,X,h,M,σ,σh,R,rs=>by
  rw[pei,evi];dsimp only;refine Sim.bind (qW a A X h M σ σh R rs) ?_;intro x M1 v h1 f1 R1 q1;dsimp only;obtain⟨t,fr⟩:=x;dsimp only;split
  ·cases zF q1.1;dsimp only;split
   ·exact⟨_,h1,rfl,Frm.refl A h1,R1,.rng 0 _⟩
   ·exact Sim.stuck
  ·exact Sim.stuck
 | .rng2 a b,A,X,h,M,σ,σh,R,rs=>by
  rw[pei,evi];dsimp only;refine Sim.bind (qW a A X h M σ σh R rs) ?_;intro x M1 v h1 f1 R1 q1;dsimp only;refine Sim.bind (qW b A X h1 M1 σ σh R1 (R.keepS f1 rs)) ?_;intro y M2 w h2 f2 R2 q2;dsimp only;obtain⟨t,fr⟩:=x;obtain⟨u,fu⟩:=y;dsimp only;split
  ·cases zF q1.1;cases zF q2.1;dsimp only;split
   ·exact⟨_,h2,rfl,Frm.refl A h2,R2,.rng _ _⟩
   ·exact Sim.stuck
  ·exact Sim.stuck
 | .zip a b,A,X,h,M,σ,σh,R,rs=>by
  rw[pei,evi];dsimp only;refine Sim.bind (qW a A X h M σ σh R rs) ?_;intro x M1 v h1 f1 R1 q1;dsimp only;refine Sim.bind (qW b A X h1 M1 σ σh R1 (R.keepS f1 rs)) ?_;intro y M2 w h2 f2 R2 q2;dsimp only;refine Sim.ofO λs es=>Sim.ofO λt et=>?_;obtain⟨p,vs,rfl,e1,e2⟩:=S6 R2 (R1.keep f2 q1.1) es;obtain⟨q,us,rfl,e3,e4⟩:=S6 R2 q2.1 et;dsimp only;rw[e1,e3];exact⟨_,h2,rfl,Frm.refl A h2,R2,.zip p q _ _ _ _ e2 e4⟩
end
end
mutual
theorem V2{X Af Xf:List Nat}{h:AH}(hX:∀a o,(∀vs,o≠O.lst false vs)->h[a]?=some o->a∉X->a∉Xf):∀(t:T) (n:Nat){w:V}{fp:List Nat},FP X h t w fp->(∀(k:Nat) a,fp[k]?=some a->Af[n+k]?=some a) ->
  (thaw n t).2.length=fp.length/\Rep Af Xf h (thaw n t).1 w/\∀(k:Nat) ts',(thaw n t).2[k]?=some ts'->∃a vs,fp[k]?=some a/\h[a]?=some (.lst false vs)/\qM Af Xf h ts' vs
 | .v x,n,w,fp,p,ha=>by unfold FP at p;obtain⟨p1,rfl⟩:=p;rw[show thaw n (.v x)=(.v x,[]) by simp[thaw]];exact⟨rfl,by unfold Rep;exact p1,λk ts' e=>by simp at e⟩
 | .cell _,n,w,fp,p,ha=>by unfold FP at p;exact p.elim
 | .ob o,n,w,fp,p,ha=>by unfold FP at p;obtain⟨⟨a,rfl,q1,q2⟩,rfl⟩:=p;rw[show thaw n (.ob o)=(.ob o,[]) by simp[thaw]];exact⟨rfl,by unfold Rep;exact⟨a,rfl,hX a _ (by intro _ z;cases z) q2 q1,q2⟩,λk ts' e=>by simp at e⟩
 | .fz _,n,w,fp,p,ha=>by unfold FP at p;exact p.elim
 | .lst ts,n,w,fp,p,ha=>by
  unfold FP at p;obtain⟨a,vs,f,rfl,q1,q2,q3,rfl⟩:=p;obtain⟨l,r,c⟩:=Zb hX ts n q3 (λk a e=>ha k a (by rw[List.getElem?_append_left (List.getElem?_eq_some_iff.mp e).1];exact e));rw[thaw];refine⟨by simp[l],?_,λk ts' e=>?_⟩
  ·show Rep Af Xf h (.cell _) _;unfold Rep;refine⟨a,ha _ a ?_,rfl⟩;rw[l,List.getElem?_append_right (Nat.le_refl _),Nat.sub_self];rfl
  ·dsimp only at e;by_cases hk:k<f.length
   ·rw[List.getElem?_append_left (by rw[l];exact hk)]at e;obtain⟨b,us,e1,e2,e3⟩:=c k ts' e;exact⟨b,us,by rw[List.getElem?_append_left hk];exact e1,e2,e3⟩
   ·rw[List.getElem?_append_right (by rw[l];omega),l]at e;have hk2:k-f.length=0:=by
     have:=(List.getElem?_eq_some_iff.mp e).1;simp at this;omega
    rw[hk2]at e;simp at e;subst e;exact⟨a,vs,by rw[List.getElem?_append_right (by omega),hk2];rfl,q2,r⟩
 | .tup ts,n,w,fp,p,ha=>by
  unfold FP at p;obtain⟨a,vs,rfl,q1,q2,q3⟩:=p;obtain⟨l,r,c⟩:=Zb hX ts n q3 ha;rw[thaw];refine⟨l,?_,c⟩;show Rep Af Xf h (.tup _) _;unfold Rep;exact⟨a,vs,rfl,hX a _ (by intro _ z;cases z) q2 q1,q2,r⟩
theorem Zb{X Af Xf:List Nat}{h:AH}(hX:∀a o,(∀vs,o≠O.lst false vs)->h[a]?=some o->a∉X->a∉Xf):∀(ts:List T) (n:Nat){ws:List V}{fp:List Nat},FPs X h ts ws fp->(∀(k:Nat) a,fp[k]?=some a->Af[n+k]?=some a) ->
  (zN n ts).2.length=fp.length/\qM Af Xf h (zN n ts).1 ws/\∀(k:Nat) ts',(zN n ts).2[k]?=some ts'->∃a vs,fp[k]?=some a/\h[a]?=some (.lst false vs)/\qM Af Xf h ts' vs
 | [],n,ws,fp,p,ha=>by unfold FPs at p;obtain⟨rfl,rfl⟩:=p;rw[zN];exact⟨rfl,by unfold qM;rfl,λk ts' e=>by simp at e⟩
 |t::ts,n,ws,fp,p,ha=>by
  unfold FPs at p;obtain⟨v,vs,f1,f2,rfl,q1,q2,rfl⟩:=p;obtain⟨l1,r1,c1⟩:=V2 hX t n q1 (λk a e=>ha k a (by rw[List.getElem?_append_left (List.getElem?_eq_some_iff.mp e).1];exact e));obtain⟨l2,r2,c2⟩:=Zb hX ts (n+(thaw n t).2.length) q2 (λk a e=>by
   have:=ha (f1.length+k) a (by rw[List.getElem?_append_right (by omega),Nat.add_sub_cancel_left];exact e);rw[l1,Nat.add_assoc];exact this)
  rw[zN];refine⟨by dsimp only;rw[List.length_append,List.length_append,l2,l1],?_,λk ts' e=>?_⟩
  ·show qM Af Xf h (_::_) _;unfold qM;exact⟨v,vs,rfl,r1,r2⟩
  ·dsimp only at e;by_cases hk:k<f1.length
   ·rw[List.getElem?_append_left (by rw[l1];exact hk)]at e;obtain⟨b,us,e1,e2,e3⟩:=c1 k ts' e;exact⟨b,us,by rw[List.getElem?_append_left hk];exact e1,e2,e3⟩
   ·rw[List.getElem?_append_right (by rw[l1];omega)]at e;obtain⟨b,us,e1,e2,e3⟩:=c2 _ ts' e;rw[l1]at e1;exact⟨b,us,by rw[List.getElem?_append_right (by omega)];exact e1,e2,e3⟩
end
theorem RelM.thaw{gl:List T}{A X fp:List Nat}{h:AH}{M:Mem}{t:T}{w:V}(R:RelM gl A (X++fp) h M)(hA:∀a∈A,a∈X)(p:FP X h t w fp)(nd:fp.Nodup):
  RelM gl (A++fp) (X++fp) h (M++(PI.thaw M.length t).2)/\Rep (A++fp) (X++fp) h (PI.thaw M.length t).1 w:=by
 have hX:∀a o,(∀vs,o≠O.lst false vs)->h[a]?=some o->a∉X->a∉X++fp:=λa o hno e x=>by
  rw[wE];rintro(z|z)
  ·exact x z
  ·obtain⟨_,us,e2⟩:=G6 t p a z;rw[e]at e2;cases e2;exact hno _ rfl
 obtain⟨l,r,c⟩:=V2 (Af:=A++fp) hX t M.length p (λk a e=>by rw[<-R.len,List.getElem?_append_right (by omega),Nat.add_sub_cancel_left];exact e);refine⟨⟨by simp[R.len,l],?_,?_,R.lt,λn a e=>?_,λg t e=>?_⟩,r⟩
 ·rw[wR];exact⟨R.nd,nd,by rintro a ha b hb rfl;exact(G6 t p a hb).1 (hA a ha)⟩
 ·intro a ha;rcases wE.mp ha with z|z
  ·exact wF _ (hA a z)
  ·exact wG _ z
 ·by_cases hn:n<A.length
  ·rw[List.getElem?_append_left hn]at e;obtain⟨ts,vs,e1,e2,e3⟩:=R.at_ n a e;exact⟨ts,vs,by rw[List.getElem?_append_left (by rw[<-R.len];exact hn)];exact e1,e2,qN (λk b eb=>by rw[List.getElem?_append_left (List.getElem?_eq_some_iff.mp eb).1];exact eb) (λa o x y=>⟨x,y⟩) ts e3⟩
  ·rw[List.getElem?_append_right (by omega)]at e;have hk:n-A.length<(PI.thaw M.length t).2.length:=by rw[l];exact(List.getElem?_eq_some_iff.mp e).1
   obtain⟨b,us,e1,e2,e3⟩:=c (n-A.length) _ (wA hk);rw[e]at e1;cases e1;have hnm:n-M.length=n-A.length:=by rw[R.len]
   exact⟨_,us,by rw[List.getElem?_append_right (by rw[<-R.len];omega),hnm];exact wA hk,e2,e3⟩
 ·exact ql (λk b eb=>by rw[List.getElem?_append_left (List.getElem?_eq_some_iff.mp eb).1];exact eb) (λa o x y=>⟨x,y⟩) t (R.glo g t e)
def RelO(gl:List T)(A X:List Nat)(n:Nat)(h:AH)(M:Mem):PO->Out->Prop
 | .nx σ,.nx σh=>jL A X h σ σh
 | .bk σ,.bk σh=>jL A X h σ σh
 | .ct σ,.ct σh=>jL A X h σ σh
 | .rt t,.rt w=>QE gl A X n t w h M
 |_,_=>False
theorem RelO.le{gl:List T}{A X:List Nat}{n m:Nat}{h:AH}{M:Mem}{o:PO}{oh:Out}(r:RelO gl A X n h M o oh)(l:m<=n):RelO gl A X m h M o oh:=by
 cases o<;>cases oh<;>first|exact r|exact QE.le r l
def SimS(gl:List T)(A X:List Nat)(h:AH):RSt->RS->Prop
 | .ok (o,M'),r=>∃oh h' B,r=.ok (oh,h')/\Frm A h h'/\(∀b∈B,h.length<=b)/\RelM gl (A++B) (X++B) h' M'/\RelO gl (A++B) (X++B) h.length h' M' o oh
 | .exc c M',r=>∃h' B,r=.exc c h'/\Frm A h h'/\(∀b∈B,h.length<=b)/\RelM gl (A++B) (X++B) h' M'
 | .stuck,_=>True
theorem SimS.stuck{gl:List T}{A X:List Nat}{h:AH}{r:RS}:SimS gl A X h .stuck r:=trivial
theorem SimS.mk{gl:List T}{A X:List Nat}{h:AH}{M:Mem}{o:PO}{oh:Out}(R:RelM gl A X h M)(ro:RelO gl A X h.length h M o oh):SimS gl A X h (.ok (o,M)) (.ok (oh,h)):=
 ⟨oh,h,[],rfl,Frm.refl A h,λb hb=>by simp at hb,by simpa using R,by simpa using ro⟩
theorem SimS.pre{gl:List T}{A X:List Nat}{h h1:AH}{r:RSt}{rh:RS}(s:SimS gl A X h1 r rh)(f:Frm A h h1):SimS gl A X h r rh:=by
 cases r with
 |ok p=>
  obtain⟨o,M'⟩:=p;obtain⟨oh,h',B,e,f1,hB,R,ro⟩:=s;exact⟨oh,h',B,e,f.trans f1,λb hb=>Nat.le_trans f.1 (hB b hb),R,ro.le f.1⟩
 |exc c M'=>
  obtain⟨h',B,e,f1,hB,R⟩:=s;exact⟨h',B,e,f.trans f1,λb hb=>Nat.le_trans f.1 (hB b hb),R⟩
 |stuck=>trivial
theorem Sim.bindS{α β:Type}{gl:List T}{A X:List Nat}{h:AH}{Q:α->β->AH->Mem->Prop}{r:PR (α×Mem)}{rh:Res (β×AH)}{f:α×Mem->RSt}{g:β×AH->RS}
  (s:Sim gl A X h Q r rh) (k:∀x M' y h',Frm A h h'->RelM gl A X h' M'->Q x y h' M'->SimS gl A X h' (f (x,M')) (g (y,h'))):SimS gl A X h (r.bind f) (rh.bind g):=by
 cases r with
 |ok p=>
  obtain⟨x,M'⟩:=p;obtain⟨y,h',rfl,f1,R1,q⟩:=s;exact(k x M' y h' f1 R1 q).pre f1
 |exc c M'=>
  obtain⟨h',rfl,f1,R1⟩:=s;exact⟨h',[],rfl,f1,λb hb=>by simp at hb,by simpa using R1⟩
 |stuck=>trivial
theorem SimS.bind{gl:List T}{A X:List Nat}{h:AH}{r:RSt}{rh:RS}{f:PO×Mem->RSt}{g:Out×AH->RS}
  (s:SimS gl A X h r rh) (k:∀o M' oh h' B,Frm A h h'->(∀b∈B,h.length<=b)->RelM gl (A++B) (X++B) h' M'->RelO gl (A++B) (X++B) h.length h' M' o oh->SimS gl (A++B) (X++B) h' (f (o,M')) (g (oh,h'))\/(f (o,M')=.ok (o,M')/\g (oh,h')=.ok (oh,h'))):SimS gl A X h (r.bind f) (rh.bind g):=by
 cases r with
 |ok p=>
  obtain⟨o,M'⟩:=p;obtain⟨oh,h',B,rfl,f1,hB,R,ro⟩:=s;rw[PR.bind_ok,Res.bind_ok];rcases k o M' oh h' B f1 hB R ro with s2|⟨e1,e2⟩
  ·revert s2;generalize f (o,M')=r2;generalize g (oh,h')=rh2;intro s2;cases r2 with
   |ok p2=>
    obtain⟨o2,M2⟩:=p2;obtain⟨oh2,h2,B2,rfl,f2,hB2,R2,ro2⟩:=s2;rw[wL,wL]at R2 ro2;exact⟨oh2,h2,B++B2,rfl,f1.trans2 hB f2,λb hb=>by
     rcases wE.mp hb with z|z
     ·exact hB b z
     ·exact Nat.le_trans f1.1 (hB2 b z),R2,ro2.le f1.1⟩
   |exc c M2=>
    obtain⟨h2,B2,rfl,f2,hB2,R2⟩:=s2;rw[wL,wL]at R2;exact⟨h2,B++B2,rfl,f1.trans2 hB f2,λb hb=>by
     rcases wE.mp hb with z|z
     ·exact hB b z
     ·exact Nat.le_trans f1.1 (hB2 b z),R2⟩
   |stuck=>trivial
  ·rw[e1,e2];exact⟨oh,h',B,rfl,f1,hB,R,ro⟩
 |exc c M'=>
  obtain⟨h',B,rfl,f1,hB,R⟩:=s;exact⟨h',B,rfl,f1,hB,R⟩
 |stuck=>trivial
theorem JH{A X B:List Nat}{h h':AH}(hs:∀a∈A,a∈X)(f:Frm A h h')(hB:∀b∈B,h.length<=b):∀a o,a∉X->h[a]?=some o->a∉X++B/\h'[a]?=some o:=λa o x y=>⟨by
 rw[wE];rintro(z|z)
 ·exact x z
 ·have:=hB a z;have:=qJ y;omega,(f.2 a (qJ y) λz=>x (hs _ z)).trans y⟩
theorem jP{A B:List Nat}:∀(n:Nat) a,A[n]?=some a->(A++B)[n]?=some a:=λn a e=>by rw[List.getElem?_append_left (List.getElem?_eq_some_iff.mp e).1];exact e
theorem Q9{gl:List T}{s:Src}{its:List T}{d:jE}{g:Tg}{b:TS->Mem->RSt}{b':List (Option V)->AH->RS}
  (hb:∀A X h M σ σh,RelM gl A X h M->jL A X h σ σh->SimS gl A X h (b σ M) (b' σh h)):∀(r:List T) (i:Nat) (σ:TS) (σh:List (Option V)) (M:Mem) (h:AH) (A X:List Nat),
   its.drop i=r->i<=its.length->RelM gl A X h M->QK A X h s its d->jL A X h σ σh->SimS gl A X h (qm d g b r σ M) (F7 s g b' r.length i σh h)
 | [],i,σ,σh,M,h,A,X,hr,hi,R,sr,rs=>by
  have hi':i=its.length:=by
   have:=vD.mp hr;omega
  subst hi';show SimS gl A X h (.ok (.nx σ,M)) (if jF h its.length s then _ else _);rw[if_pos (Qj sr)];exact SimS.mk R rs
 |x::r,i,σ,σh,M,h,A,X,hr,hi,R,sr,rs=>by
  have ex:its[i]?=some x:=by
   have:(its.drop i)[0]?=some x:=by rw[hr];rfl
   rwa [wz,Nat.add_zero]at this
  have hi2:i+1<=its.length:=(List.getElem?_eq_some_iff.mp ex).1;have hr2:its.drop (i+1)=r:=by
   rw[<-vI,hr];rfl
  obtain⟨w,ext,ey,rx⟩:=jt R sr ex;have fy:Frm A h (h++ext):=Frm.app A h ext;rw[List.length_cons];unfold qm F7;rw[ey];dsimp only;cases es:qo g x σ with
  |none=>exact SimS.stuck
  |some σ1=>
   obtain⟨σh1,esh,rs1⟩:=jc es rx (R.keepS fy rs);rw[esh];dsimp only;refine SimS.bind ((hb A X _ M σ1 σh1 (R.up ext) rs1).pre fy) ?_;intro o M2 oh h2 B f2 hB R2 ro;have nxt:∀σ2 σh2,jL (A++B) (X++B) h2 σ2 σh2->SimS gl (A++B) (X++B) h2 (if qR d M2=true then qm d g b r σ2 M2 else .stuck) (F7 s g b' r.length (i+1) σh2 h2):=λσ2 σh2 rs2=>by
    split
    ·rename_i hd;exact Q9 hb r (i+1) σ2 σh2 M2 h2 _ _ hr2 hi2 R2 (ZE sr (JH R.sub f2 hB) R2 hd jP) rs2
    ·exact SimS.stuck
   cases o with
   |nx σ2=>cases oh<;>first|exact .inl (nxt _ _ ro)|exact ro.elim
   |ct σ2=>cases oh<;>first|exact .inl (nxt _ _ ro)|exact ro.elim
   |bk σ2=>cases oh<;>first|exact .inl (SimS.mk R2 ro)|exact ro.elim
   |rt t=>cases oh<;>first|exact .inr ⟨rfl,rfl⟩|exact ro.elim
section
variable{gl:List T}{P:Nat->List T->Mem->PR (TB×Mem)}{F:Nat->List V->AH->RV}(C:List Nat)
variable (hF:∀f ts ws A X h M,RelM gl A X h M->qM A X h ts ws->Sim gl A X h (QE gl A X h.length) (P f ts M) (F f ws h))
include hF
omit hF in
omit hF in
def qEc(gl:List T)(A X:List Nat)(h:AH):PR (TB×Mem)->RV->Prop
 | .ok ((.lst ts,_),M1),r=>∃h1 vs,r=.ok (.ref h1.length,h1++[.lst false vs])/\Frm A h h1/\RelM gl A X h1 M1/\qM A X h1 ts vs
 |_,_=>True
omit hF in
theorem RelM.cellN{gl:List T}{A X:List Nat}{h:AH}{M:Mem}{ts:List T}{vs:List V}(R:RelM gl A X h M)(r:qM A X h ts vs):RelM gl (A++[h.length]) (X++[h.length]) (h++[.lst false vs]) (M++[ts]):=by
 have hn:∀a o,a∉X->h[a]?=some o->a∉X++[h.length]/\(h++[O.lst false vs])[a]?=some o:=JH R.sub (Frm.app A h _) (λb hb=>by simp at hb;omega);refine⟨by simp[R.len],?_,λa ha=>?_,λa ha=>?_,λn a e=>?_,λg t e=>ql jP hn t (R.glo g t e)⟩
 ·rw[wR];refine⟨R.nd,by simp,λa ha b hb=>?_⟩;have:=R.lt a (R.sub a ha);simp at hb;omega
 ·rcases wE.mp ha with z|z
  ·exact wF _ (R.sub a z)
  ·exact wG _ z
 ·rcases wE.mp ha with z|z
  ·have:=R.lt a z;simp;omega
  ·simp at z;simp[z]
 ·by_cases hlt:n<A.length
  ·rw[List.getElem?_append_left hlt]at e;obtain⟨us,ws,e1,e2,e3⟩:=R.at_ n a e;exact⟨us,ws,by rw[List.getElem?_append_left (by rw[<-R.len];exact hlt)];exact e1,by rw[List.getElem?_append_left (qJ e2)];exact e2,qN jP hn us e3⟩
  ·have hl:=(List.getElem?_eq_some_iff.mp e).1;have hnn:n=A.length:=by simp at hl;omega
   subst hnn;simp at e;subst e;exact⟨ts,vs,by rw[R.len];simp,by simp,qN jP hn ts r⟩
omit hF in
theorem O0{e:E}(h:qBc e=true):(∃as,e=.lst as)\/∃a b,e=.bin .add a b:=by
 unfold qBc at h;split at h
 ·exact .inr ⟨_,_,rfl⟩
 ·exact .inl ⟨_,rfl⟩
 ·cases h
theorem y4(e:E)(he:qBc e=true)(A X:List Nat)(h:AH)(M:Mem)(σ:TS)(σh:List (Option V))(R:RelM gl A X h M)(rs:jL A X h σ σh):qEc gl A X h (pe gl P e σ M) (ev F e σh h):=by
 rcases O0 he with⟨as,rfl⟩|⟨a,b,rfl⟩
 ·rw[pe,ev];dsimp only;have s1:=jf hF as A X h M σ σh R rs;revert s1;generalize pes gl P as σ M=r;generalize evs F as σh h=rh;intro s1;cases r with
  |stuck=>trivial
  |exc c M'=>trivial
  |ok p=>
   obtain⟨x,M1⟩:=p;obtain⟨w,h1,rfl,f1,R1,q⟩:=s1;rw[PR.bind_ok,Res.bind_ok];dsimp only;rw[<-q.len];split
   ·exact⟨h1,w,rfl,f1,R1,q.1⟩
   ·trivial
 ·rw[pe,ev];dsimp only;have s1:=qW hF a A X h M σ σh R rs;revert s1;generalize pe gl P a σ M=r;generalize ev F a σh h=rh;intro s1;cases r with
  |stuck=>trivial
  |exc c M'=>trivial
  |ok p=>
   obtain⟨x,M1⟩:=p;obtain⟨v,h1,rfl,f1,R1,q1⟩:=s1;rw[PR.bind_ok,Res.bind_ok];dsimp only;have s2:=qW hF b A X h1 M1 σ σh R1 (R.keepS f1 rs);revert s2;generalize pe gl P b σ M1=r;generalize ev F b σh h1=rh;intro s2;cases r with
   |stuck=>trivial
   |exc c M'=>trivial
   |ok p=>
    obtain⟨y,M2⟩:=p;obtain⟨w,h2,rfl,f2,R2,q2⟩:=s2;rw[PR.bind_ok,Res.bind_ok];dsimp only;have rx:=R1.keep f2 q1.1;cases eb:qp M2 .add x.1 y.1 with
    |none=>trivial
    |some r=>
     rw[PR.ofO_some,PR.bind_ok];unfold qp at eb;split at eb
     ·cases eb;trivial
     ·cases eb
     ·rename_i e1 e2;dsimp only at eb;split at eb
      ·split at eb
       ·cases eb;trivial
       ·cases eb
      rename_i u0 u1 u2;clear u2;obtain⟨xs,m1,eb⟩:=Option.bind_eq_some_iff.mp eb;obtain⟨ys,m2,eb⟩:=Option.bind_eq_some_iff.mp eb;split at eb
      ·rename_i hl;cases eb;obtain⟨a1,vs,rfl,g1,k1⟩:=Q8 R2 rx m1;obtain⟨a2,us,rfl,g2,k2⟩:=Q8 R2 q2.1 m2;refine⟨h2,vs++us,?_,f1.trans f2,R2,reps_iff.mpr (qk (reps_iff.mp k1) (reps_iff.mp k2))⟩;show (match qe h2 a1,qe h2 a2 with|some xs,some ys=>if xs.length+ys.length<=lim then newL (xs++ys) h2 else .stuck|_,_=>_)=_;rw[g1,g2];dsimp only;rw[<-qB (reps_iff.mp k1),<-qB (reps_iff.mp k2),if_pos hl];rfl
      ·cases eb
     ·cases eb
omit hF in
theorem m8{σ:List (Option V)}{h:AH}{x a:Nat}{k:Int}{vs:List V}{v:V}(ex:σ[x]?=some (some (.ref a)))(ea:h[a]?=some (.tup vs))(ev':(ixN vs.length k).bind (λj=>vs[j]?)=some v):ev F (.idx (.var x) (.cst (.int k))) σ h=.ok (v,h):=by
 have e0:ev F (.var x) σ h=.ok (.ref a,h):=by
  show (match σ[x]? with|some (some v)=>Res.ok (v,h)|_=>.stuck)=_;rw[ex]
 show (ev F (.var x) σ h).bind (λp=>match p.1,V.int k with
  | .ref p',.int i=>match items p.2 p' with
   |some xs=>match (ixN xs.length i).bind λj=>xs[j]? with|some v=>Res.ok (v,p.2)|none=>.stuck
   |none=>.stuck
  |_,_=>.stuck)=_
 rw[e0,Res.bind_ok];dsimp only;rw[show items h a=some vs by unfold items;rw[ea]];dsimp only;rw[ev']
omit hF in
theorem F5{σ:List (Option V)}{h:AH}{u:Nat}{v:V}(eu:σ[u]?=some (some v)):ev F (.var u) σ h=.ok (v,h):=by
 show (match σ[u]? with|some (some v)=>Res.ok (v,h)|_=>.stuck)=_;rw[eu]
omit hF in
theorem qBz{σ:List (Option V)}{h:AH}{x u a D:Nat}{k i:Int}{vs:List V}{ks:List (Int×V)}(ex:σ[x]?=some (some (.ref a)))(ea:h[a]?=some (.tup vs))(ev':(ixN vs.length k).bind (λj=>vs[j]?)=some (.int i))(eu:σ[u]?=some (some (.ref D)))(eD:h[D]?=some (.ob (.dct ks))):ev F (.cmp .inn (.idx (.var x) (.cst (.int k))) (.var u)) σ h=.ok (.bl (ZI ks i),h):=by
 show (ev F (.idx (.var x) (.cst (.int k))) σ h).bind (λp=>(ev F (.var u) σ p.2).bind λq=>j0 .inn p.1 q.1 q.2)=_;rw[m8 ex ea ev',Res.bind_ok];dsimp only;rw[F5 eu,Res.bind_ok];unfold j0 T2 Y9;dsimp only;rw[show items h D=none by unfold items;rw[eD]];dsimp only;rw[show QJ h D=some ks by unfold QJ;rw[eD]]
omit hF in
theorem qAs{σ:List (Option V)}{h:AH}{x u a D:Nat}{k i:Int}{vs:List V}{ks:List (Int×V)}(ex:σ[x]?=some (some (.ref a)))(ea:h[a]?=some (.tup vs))(ev':(ixN vs.length k).bind (λj=>vs[j]?)=some (.int i))(eu:σ[u]?=some (some (.ref D)))(eD:h[D]?=some (.ob (.dct ks)))(hl:ks.length<lim):n9 F u x k σ h=.ok (.nx σ,h.set D (.ob (.dct (jx ks i (.bl true))))):=by
 unfold n9;rw[show ev F (.cst (.bl true)) σ h=.ok (.bl true,h) from rfl,Res.bind_ok];dsimp only;rw[F5 eu,Res.bind_ok];dsimp only;rw[m8 ex ea ev',Res.bind_ok];dsimp only;rw[show qe h D=none by unfold qe;rw[eD],show QJ h D=some ks by unfold QJ;rw[eD]];dsimp only;rw[if_pos ⟨rfl,hl⟩]
omit hF in
theorem Zj(ks:List (Int×V))(k:Int)(v:V):(jx ks k v).length<=ks.length+1:=by
 unfold jx;split<;>simp
omit hF in
theorem JL{σ:List (Option V)}{h h2:AH}{u x f i:Nat}{lv w:V}{b:Bool}(ei:σ[i]?=some (some lv))(ex:σ[x]?=some (some w))(ef:F f [lv,w] h=.ok (.bl b,h2)):asB (ev F (qDk u x f i) σ h)=if b then asB (ev F (.or (.cmp .inn (.idx (.var x) (.cst (.int 0))) (.var u)) (.cmp .inn (.idx (.var x) (.cst (.int 1))) (.var u))) σ h2) else .ok (true,h2):=by
 show asB ((asB ((asB (((ev F (.var i) σ h).bind λp=>((ev F (.var x) σ p.2).bind λq=>Res.ok ([q.1],q.2)).bind λq=>Res.ok (p.1::q.1,q.2)).bind λp=>(F f p.1 p.2).nx)).bind λp=>Res.ok (V.bl (!p.1),p.2))).bind λp=>if p.1 then Res.ok (V.bl true,p.2) else ev F (.or (.cmp .inn (.idx (.var x) (.cst (.int 0))) (.var u)) (.cmp .inn (.idx (.var x) (.cst (.int 1))) (.var u))) σ p.2)=_;rw[F5 ei,Res.bind_ok];dsimp only;rw[F5 ex,Res.bind_ok,Res.bind_ok,Res.bind_ok,ef];cases b<;>rfl
omit hF in
theorem K5{σ:List (Option V)}{h h2:AH}{u x f i:Nat}{lv w:V}(ei:σ[i]?=some (some lv))(ex:σ[x]?=some (some w))(ef:F f [lv,w] h=.ok (.bl false,h2)):jN F u x f i σ h=.ok (.rt (.bl false),h2):=by
 unfold jN;rw[JL ei ex ef];rfl
omit hF in
theorem S0{σ:List (Option V)}{h h2:AH}{u x f i a D:Nat}{lv:V}{p q:Int}{ks:List (Int×V)}(ei:σ[i]?=some (some lv))(ex:σ[x]?=some (some (.ref a)))(ef:F f [lv,.ref a] h=.ok (.bl true,h2))(ea:h2[a]?=some (.tup [.int p,.int q]))(eu:σ[u]?=some (some (.ref D)))(eD:h2[D]?=some (.ob (.dct ks)))(hl:ks.length+1<lim):
  jN F u x f i σ h=if ZI ks p||ZI ks q then .ok (.rt (.bl false),h2) else .ok (.nx σ,h2.set D (.ob (.dct (jx (jx ks p (.bl true)) q (.bl true))))):=by
 have i0:(ixN ([V.int p,V.int q]:List V).length 0).bind (λj=>([V.int p,V.int q]:List V)[j]?)=some (.int p):=rfl;have i1:(ixN ([V.int p,V.int q]:List V).length 1).bind (λj=>([V.int p,V.int q]:List V)[j]?)=some (.int q):=rfl;have c0:=qBz (F:=F) ex ea i0 eu eD;have c1:=qBz (F:=F) ex ea i1 eu eD;have ne:a≠D:=by rintro rfl;rw[ea]at eD;cases eD
 have lD:D<h2.length:=qJ eD;have p0:=qAs (F:=F) ex ea i0 eu eD (by omega);have ea':(h2.set D (.ob (.dct (jx ks p (.bl true)))))[a]?=some (.tup [.int p,.int q]):=by rw[List.getElem?_set_ne (Ne.symm ne)];exact ea
 have p1:=qAs (F:=F) ex ea' i1 eu (ks:=jx ks p (.bl true)) (by rw[List.getElem?_set_self lD]) (by have:=Zj ks p (.bl true);omega);unfold jN;rw[JL ei ex ef,if_pos rfl];rw[show ev F (.or (.cmp .inn (.idx (.var x) (.cst (.int 0))) (.var u)) (.cmp .inn (.idx (.var x) (.cst (.int 1))) (.var u))) σ h2=(asB (ev F (.cmp .inn (.idx (.var x) (.cst (.int 0))) (.var u)) σ h2)).bind λp=>if p.1 then .ok (.bl true,p.2) else ev F (.cmp .inn (.idx (.var x) (.cst (.int 1))) (.var u)) σ p.2 from rfl,c0];cases ZI ks p with
 |true=>rfl
 |false=>
  rw[show (asB (.ok (.bl false,h2))).bind (λp:Bool×AH=>if p.1 then .ok (.bl true,p.2) else ev F (.cmp .inn (.idx (.var x) (.cst (.int 1))) (.var u)) σ p.2)=ev F (.cmp .inn (.idx (.var x) (.cst (.int 1))) (.var u)) σ h2 from rfl,c1];cases ZI ks q with
  |true=>rfl
  |false=>
   show A6 (n9 F u x 0 σ h2) (λσ h=>A6 (n9 F u x 1 σ h) λσ h=>Res.ok (Out.nx σ,h))=_;rw[p0];show A6 (n9 F u x 1 σ (h2.set D (.ob (.dct (jx ks p (.bl true)))))) (λσ h=>Res.ok (Out.nx σ,h))=_;rw[p1,List.set_set];rfl
def SimN(gl:List T)(A X:List Nat)(D n0:Nat)(h:AH):RSt->RS->Prop
 | .ok (o,M'),r=>∃oh h',r=.ok (oh,h')/\Frm (A++[D]) h h'/\RelM gl A X h' M'/\RelO gl A X n0 h' M' o oh
 | .exc _ _,_=>False
 | .stuck,_=>True
omit hF in
theorem SimN.pre{A X:List Nat}{D n0:Nat}{h h1:AH}{r:RSt}{rh:RS}(s:SimN gl A X D n0 h1 r rh)(f:Frm (A++[D]) h h1):SimN gl A X D n0 h r rh:=by
 match r,s with
 | .ok (o,M'),⟨oh,h',e,f1,R,ro⟩=>exact⟨oh,h',e,f.trans f1,R,ro⟩
 | .exc _ _,z=>exact z.elim
 | .stuck,_=>trivial
omit hF in
theorem Frm.more{A:List Nat}{D:Nat}{h h':AH}(f:Frm A h h'):Frm (A++[D]) h h':=⟨f.1,λj hj hA=>f.2 j hj λz=>hA (wF _ z)⟩
theorem N5{A X:List Nat}{s:Src}{its:List T}{d:jE}{u x f i D n0:Nat}{l:T}(hi:u≠i/\x≠i/\u≠x)(hD:D∈X)(hA:D∉A):∀(r:List T) (n:Nat) (ks:List (Int×V)) (σ:TS) (σh:List (Option V)) (M:Mem) (h:AH) (lv:V),
   its.drop n=r->n<=its.length->RelM gl A X h M->QK A X h s its d->jL A X h σ σh->σh[u]?=some (some (.ref D))->h[D]?=some (.ob (.dct ks))->σh[i]?=some (some lv)->Rep A X h l lv->x<σh.length->n0<=h.length->SimN gl A X D n0 h (Zl P d f x l r ks σ M) (F7 s (.name x) (jN F u x f i) r.length n σh h)
 | [],n,ks,σ,σh,M,h,lv,hr,hn,R,sr,rs,eu,eD,ei,rl,hx,h0=>by
  have hi':n=its.length:=by
   have:=vD.mp hr;omega
  subst hi';show SimN gl A X D n0 h (.ok (.nx σ,M)) (if jF h its.length s then _ else _);rw[if_pos (Qj sr)];exact⟨_,h,rfl,Frm.refl _ _,R,rs⟩
 |t::r,n,ks,σ,σh,M,h,lv,hr,hn,R,sr,rs,eu,eD,ei,rl,hx,h0=>by
  have ex:its[n]?=some t:=by
   have:(its.drop n)[0]?=some t:=by rw[hr];rfl
   rwa [wz,Nat.add_zero]at this
  have hn2:n+1<=its.length:=(List.getElem?_eq_some_iff.mp ex).1;have hr2:its.drop (n+1)=r:=by
   rw[<-vI,hr];rfl
  obtain⟨w,ext,ey,rx⟩:=jt R sr ex;have fy:Frm A h (h++ext):=Frm.app A h ext;have R1:=R.up ext;have rl1:=R.keep fy rl;rw[List.length_cons];unfold Zl F7;rw[ey];have st:store (.name x) w σh (h++ext)=some (σh.set x (some w)):=rfl;dsimp only;rw[st];dsimp only;have ei1:(σh.set x (some w))[i]?=some (some lv):=by rw[List.getElem?_set_ne hi.2.1];exact ei
  have eu1:(σh.set x (some w))[u]?=some (some (.ref D)):=by rw[List.getElem?_set_ne (Ne.symm hi.2.2)];exact eu
  have ex1:(σh.set x (some w))[x]?=some (some w):=List.getElem?_set_self hx;have sm:=hF f [l,t] [lv,w] A X (h++ext) M R1 (by unfold qM;exact⟨lv,[w],rfl,rl1,by unfold qM;exact⟨w,[],rfl,rx,by unfold qM;rfl⟩⟩);revert sm;generalize P f [l,t] M=rp;intro sm
  match rp,sm with
  | .stuck,_=>trivial
  | .exc _ _,_=>trivial
  | .ok ((y,fl),M2),⟨yv,h2,ef,f2,R2,q⟩=>
   rw[PR.nx_ok,PR.bind_ok];dsimp only;have rt_ok:RelO gl A X n0 h2 M2 (.rt (bT false)) (.rt (.bl false)):=by
    have rr:Rep A X h2 (.v (.bl false)) (.bl false):=by unfold Rep;exact⟨rfl,rfl⟩
    exact⟨rr,λ_=>Frs.of_lf R2 rr rfl⟩
   have fr2:Frm (A++[D]) h h2:=(fy.trans f2).more;split
   ·rename_i ee;have ry:=q.1;unfold Rep at ry;rw[ry.1]at ef;rw[K5 ei1 ex1 ef];exact⟨_,h2,rfl,fr2,R2,rt_ok⟩
   ·rename_i ee;have ry:=q.1;unfold Rep at ry;rw[ry.1]at ef;split
    ·rename_i p q';have rx2:=R1.keep f2 rx;unfold Rep at rx2;obtain⟨a,vs,rfl,ax,ea,rvs⟩:=rx2;have hvs:vs=[.int p,.int q']:=by
      unfold qM at rvs;obtain⟨v1,vs1,rfl,r1,rvs⟩:=rvs;unfold qM at rvs;obtain⟨v2,vs2,rfl,r2,rvs⟩:=rvs;unfold qM at rvs;unfold Rep at r1 r2;rw[rvs,r1.1,r2.1]
     subst hvs;have eD2:h2[D]?=some (.ob (.dct ks)):=by
      rw[(fy.trans f2).2 D (qJ eD) hA];exact eD
     have lD:D<h2.length:=qJ eD2;split
     ·rename_i hd;rw[S0 ei1 ex1 ef ea eu1 eD2 hd.2];split
      ·exact⟨_,h2,rfl,fr2,R2,rt_ok⟩
      ·have kp:∀a o,a∉X->h[a]?=some o->a∉X/\(h2.set D (.ob (.dct (jx (jx ks p (.bl true)) q' (.bl true)))))[a]?=some o:=λa o z e=>⟨z,by
        rw[List.getElem?_set_ne (by rintro rfl;exact z hD)];exact((R.keepN (fy.trans f2)) a o z e).2⟩
       have R3:=R2.setX hD hA (.ob (.dct (jx (jx ks p (.bl true)) q' (.bl true))));have kp2:∀a o,a∉X->h2[a]?=some o->a∉X/\(h2.set D (.ob (.dct (jx (jx ks p (.bl true)) q' (.bl true)))))[a]?=some o:=λa o z e=>⟨z,by
        rw[List.getElem?_set_ne (by rintro rfl;exact z hD)];exact e⟩
       have fr3:Frm (A++[D]) h (h2.set D (.ob (.dct (jx (jx ks p (.bl true)) q' (.bl true))))):=fr2.set (.inl (by simp)) _;refine SimN.pre ?_ fr3;exact N5 hi hD hA r (n+1) _ _ _ M2 _ lv hr2 hn2 R3 (JS sr (λa o z e=>(kp a o z e).2) R3 hd.1) (zH x (zI (λ_ _ e=>e) kp rs) (show k6 A X _ (some _) (some _) from ql (λ_ _ e=>e) kp2 _ (R1.keep f2 rx))) eu1 (List.getElem?_set_self lD) ei1 (ql (λ_ _ e=>e) kp _ rl) (by simpa using hx) (by have:=fr3.1;omega)
     ·trivial
    ·trivial
   ·trivial
mutual
theorem qDU:∀(s:S) (A X:List Nat) (h:AH) (M:Mem) (σ:TS) (σh:List (Option V)),RelM gl A X h M->jL A X h σ σh->SimS gl A X h (px gl P C s σ M) (ex F s σh h)
 | .asg g e,A,X,h,M,σ,σh,R,rs=>by
  rw[px,ex];dsimp only;have se:=qW hF e A X h M σ σh R rs;have tp:=λhe=>y4 hF e he A X h M σ σh R rs;revert se tp;generalize pe gl P e σ M=r;generalize ev F e σh h=rh;intro se tp;cases r with
  |stuck=>trivial
  |exc c M'=>
   obtain⟨h',rfl,f1,R1⟩:=se;exact⟨h',[],rfl,f1,λb hb=>by simp at hb,by simpa using R1⟩
  |ok p=>
   obtain⟨x,M1⟩:=p;obtain⟨w,h1,rfl,f1,R1,q⟩:=se;rw[PR.bind_ok,Res.bind_ok];dsimp only;have gen:∀{g:Tg}{σ1:TS},qo g x.1 σ=some σ1->SimS gl A X h (.ok (.nx σ1,M1)) (match store g w σh h1 with|some σ1=>.ok (.nx σ1,h1)|none=>.stuck):=λe=>by
    obtain⟨σh1,e2,rs2⟩:=jc e q.1 (R.keepS f1 rs);rw[e2];exact(SimS.mk (o:=.nx _) (oh:=.nx _) R1 rs2).pre f1
   cases g with
   |name i=>
    dsimp only;split
    ·rename_i hc;rw[Bool.and_eq_true]at hc;obtain⟨fp,p,nd,l,R',_⟩:=q.2 hc.2;obtain⟨R2,r2⟩:=R'.thaw R.sub p nd;refine⟨.nx (σh.set i (some w)),h1,fp,rfl,f1,l,R2,?_⟩;exact zH i (zI jP (JH R.sub f1 l) rs) (show k6 _ _ h1 (some _) (some w) from r2)
    ·split
     ·rename_i hc;rw[Bool.and_eq_true]at hc;have tp:=tp hc.2;obtain⟨x1,x2⟩:=x;dsimp only;split
      ·rename_i ts;obtain⟨h0,vs,e0,f0,R0,r0⟩:=tp;cases e0;refine⟨.nx (σh.set i (some (.ref h0.length))),_,[h0.length],rfl,f0.trans (Frm.app A h0 _),λb hb=>by simp at hb;have:=f0.1;omega,R0.cellN r0,?_⟩;refine zH i (zI jP (JH R0.sub (Frm.app A h0 _) (λb hb=>by simp at hb;omega)) (R.keepS f0 rs)) (show k6 _ _ _ (some _) (some _) from ?_);have rc:Rep (A++[h0.length]) (X++[h0.length]) (h0++[O.lst false vs]) (.cell M1.length) (.ref h0.length):=by
        unfold Rep;exact⟨h0.length,by rw[<-R0.len];simp,rfl⟩
       exact rc
      ·exact SimS.stuck
     ·exact gen (g:=.name i) rfl
   |tup is=>
    dsimp only;split
    ·rename_i σ1 e;exact gen e
    ·exact SimS.stuck
 | .put o i v,A,X,h,M,σ,σh,R,rs=>by
  rw[px,ex];dsimp only;refine Sim.bindS (qW hF v A X h M σ σh R rs) ?_;intro x M1 vx h1 f1 R1 q1;dsimp only;refine Sim.bindS (qW hF o A X h1 M1 σ σh R1 (R.keepS f1 rs)) ?_;intro y M2 w h2 f2 R2 q2;dsimp only;refine Sim.bindS (qW hF i A X h2 M2 σ σh R2 (R1.keepS f2 (R.keepS f1 rs))) ?_;intro z M3 u h3 f3 R3 q3;dsimp only;obtain⟨ty,fy⟩:=y;obtain⟨tz,fz⟩:=z;dsimp only;split
  ·rename_i n k;cases zF q3.1;have q:=R2.keep f3 q2.1;unfold Rep at q;obtain⟨p,ep,rfl⟩:=q;obtain⟨ts2,vs2,g1,g2,g3⟩:=R3.at_ n p ep;rw[g1];dsimp only;rw[show qe h3 p=some vs2 by unfold qe;rw[g2]];dsimp only;rw[<-qB (reps_iff.mp g3)];split
   ·rename_i j ej
    try simp only[ej]
    obtain⟨R4,f4⟩:=R3.put ep (reps_iff.mpr (zH j (reps_iff.mp g3) (R2.keep f3 (R1.keep f2 q1.1))));exact(SimS.mk (o:=.nx σ) (oh:=.nx σh) R4 (R3.keepS f4 (R2.keepS f3 (R1.keepS f2 (R.keepS f1 rs))))).pre f4
   ·exact SimS.stuck
  ·exact SimS.stuck
 | .expr e,A,X,h,M,σ,σh,R,rs=>by
  rw[px,ex];dsimp only;refine Sim.bindS (qW hF e A X h M σ σh R rs) ?_;intro x M1 v h1 f1 R1 q1;dsimp only;exact SimS.mk (o:=.nx σ) (oh:=.nx σh) R1 (R.keepS f1 rs)
 | .ret e,A,X,h,M,σ,σh,R,rs=>by
  rw[px,ex];dsimp only;have se:=qW hF e A X h M σ σh R rs;revert se;generalize pe gl P e σ M=r;generalize ev F e σh h=rh;intro se;cases r with
  |stuck=>trivial
  |exc c M'=>
   obtain⟨h',rfl,f1,R1⟩:=se;exact⟨h',[],rfl,f1,λb hb=>by simp at hb,by simpa using R1⟩
  |ok p=>
   obtain⟨x,M1⟩:=p;obtain⟨w,h1,rfl,f1,R1,q⟩:=se;exact⟨.rt w,h1,[],rfl,f1,λb hb=>by simp at hb,by simpa using R1,by simpa using (show RelO gl A X h.length h1 M1 (.rt x) (.rt w) from q)⟩
 | .ifs c t u,A,X,h,M,σ,σh,R,rs=>by
  rw[px,ex];dsimp only;refine Sim.bindS (K0 (qW hF c A X h M σ σh R rs)) ?_;rintro x M1 v h1 f1 R1 rfl;dsimp only;cases x with
  |true=>simp only[if_true];exact JE t A X h1 M1 σ σh R1 (R.keepS f1 rs)
  |false=>simp only[Bool.false_eq_true,if_false];exact JE u A X h1 M1 σ σh R1 (R.keepS f1 rs)
 | .for_ g it b,A,X,h,M,σ,σh,R,rs=>by
  rw[px,ex];dsimp only;refine Sim.bindS (S4 hF it A X h M σ σh R rs) ?_;intro s M1 sh h1 f1 R1 q1;dsimp only;rw[ZL q1];exact Q9 (λA X h M σ σh R rs=>JE b A X h M σ σh R rs) s.1 0 σ σh M1 h1 A X rfl (Nat.zero_le _) R1 q1 (R.keepS f1 rs)
 | .nloop u x f i a,A,X,h,M,σ,σh,R,rs=>by
  rw[px,ex];dsimp only;split
  ·exact SimS.stuck
  ·rename_i hne;have hX:∀b,b∈X++[h.length]↔b=h.length\/b∈X:=λb=>by rw[wE,wJ];exact Or.comm
   have R0:=R.addX (o:=.ob (.dct [])) hX;have hn:∀b o,b∉X->h[b]?=some o->b∉X++[h.length]/\(h++[O.ob (.dct [])])[b]?=some o:=JH R.sub (Frm.app A h _) (λb hb=>by simp at hb;omega);have rs0:jL A (X++[h.length]) (h++[O.ob (.dct [])]) (σ.set u none) (σh.set u (some (.ref h.length))):=zH u (zI (λ_ _ e=>e) hn rs) (show k6 A _ _ none _ from trivial);have ll:=qB rs;have sp:=S4 hF (.list a) A (X++[h.length]) _ M _ _ R0 rs0;revert sp;generalize pei gl P (.list a) (σ.set u none) M=rp;generalize evi F (.list a) (σh.set u (some (.ref h.length))) (h++[O.ob (.dct [])])=re;intro sp
   match rp,sp with
   | .stuck,_=>exact SimS.stuck
   | .exc c M1,⟨h1,e,f1,R1⟩=>
    subst e;exact⟨h1,[],rfl,(Frm.app A h _).trans f1,λb hb=>by simp at hb,by simpa using R1.weak (λa ha=>(hX a).mpr (.inr ha)) R.sub⟩
   | .ok (s,M1),⟨sh,h1,e,f1,R1,q1⟩=>
    subst e;rw[PR.bind_ok,Res.bind_ok];dsimp only;rw[ZL q1];dsimp only;split
    ·rename_i l el;obtain⟨lv,elv,rl⟩:=ZS rs el;have hD:h.length∈X++[h.length]:=by simp
     have hA:h.length∉A:=λz=>by have:=R.lt _ (R.sub _ z);omega
     have e1:h1[h.length]?=some (.ob (.dct [])):=by
      rw[f1.2 h.length (by simp) hA];simp
     have kp:∀b o,b∉X->h[b]?=some o->b∉X++[h.length]/\h1[b]?=some o:=λb o z e=>⟨(hn b o z e).1,((R0.keepN f1) b o (hn b o z e).1 (hn b o z e).2).2⟩
     have sn:=N5 (n0:=h.length) hF (u:=u) (x:=x) (f:=f) (i:=i) (D:=h.length) (l:=l) (s:=sh) (its:=s.1) (d:=s.2) (by omega) hD hA s.1 0 [] (σ.set u none) (σh.set u (some (.ref h.length))) M1 h1 lv rfl (Nat.zero_le _) R1 q1 (R0.keepS f1 rs0) (List.getElem?_set_self (by omega)) e1 (by rw[List.getElem?_set_ne (by omega)];exact elv) (ql (λ_ _ e=>e) kp l rl) (by simp;omega) (by have:=f1.1;simp at this;omega);revert sn;generalize Zl P s.2 f x l s.1 [] (σ.set u none) M1=r2;generalize F7 sh (.name x) (jN F u x f i) s.1.length 0 (σh.set u (some (.ref h.length))) h1=re2;intro sn;have wk:∀(h':AH) (b:Nat) (o:O),b∉X++[h.length]->h'[b]?=some o->b∉X/\h'[b]?=some o:=λh' b o z e=>⟨λy=>z ((hX b).mpr (.inr y)),e⟩
     match r2,sn with
     | .stuck,_=>exact SimS.stuck
     | .exc _ _,z=>exact z.elim
     | .ok (o,M2),⟨oh,h2,e,f2,R2,ro⟩=>
      subst e;have R3:RelM gl A X h2 M2:=R2.weak (λa ha=>(hX a).mpr (.inr ha)) R.sub;refine⟨oh,h2,[],rfl,?_,λb hb=>by simp at hb,by simpa using R3,?_⟩
      ·have g1:=(Frm.app A h [O.ob (.dct [])]).trans f1;refine⟨Nat.le_trans g1.1 f2.1,λj hj hjA=>?_⟩;rw[f2.2 j (wC hj g1.1) (λz=>by
        rcases wE.mp z with z|z
        ·exact hjA z
        ·simp at z;omega),g1.2 j hj hjA]
      ·rw[List.append_nil,List.append_nil];cases o<;>cases oh<;>first|exact ro.elim|exact zI (λ_ _ e=>e) (wk h2) ro|skip
       refine⟨ql (λ_ _ e=>e) (wk h2) _ ro.1,λe=>?_⟩;obtain⟨fp,p1,p2,p3,p4,p5⟩:=ro.2 e;have wkr:∀{Z:List Nat},RelM gl A (X++[h.length]++Z) h2 M2->RelM gl A (X++Z) h2 M2:=λ{Z} q=>q.weak (λa ha=>by
        rcases wE.mp ha with z|z
        ·exact wF _ ((hX a).mpr (.inr z))
        ·exact wG _ z) (λa ha=>wF _ (R.sub a ha))
       exact⟨fp,Qk (wk h2) _ p1,p2,p3,wkr p4,λkvs e=>by obtain⟨a,q1,q2,q3⟩:=p5 kvs e;exact⟨a,q1,q2,wkr q3⟩⟩
    ·exact SimS.stuck
 | .stop,A,X,h,M,σ,σh,R,rs=>by rw[px,ex];exact SimS.stuck
theorem JE:∀(s:Ss) (A X:List Nat) (h:AH) (M:Mem) (σ:TS) (σh:List (Option V)),RelM gl A X h M->jL A X h σ σh->SimS gl A X h (pxs gl P C s σ M) (exs F s σh h)
 | .nil,A,X,h,M,σ,σh,R,rs=>by rw[pxs,exs];exact SimS.mk (o:=.nx σ) (oh:=.nx σh) R rs
 | .cons s r,A,X,h,M,σ,σh,R,rs=>by
  rw[pxs,exs];dsimp only;refine SimS.bind (qDU s A X h M σ σh R rs) ?_;intro o M1 oh h1 B f1 hB R1 ro;cases o with
  |nx σ2=>cases oh<;>first|exact .inl (JE r _ _ h1 M1 _ _ R1 ro)|exact ro.elim
  |ct σ2=>cases oh<;>first|exact .inr ⟨rfl,rfl⟩|exact ro.elim
  |bk σ2=>cases oh<;>first|exact .inr ⟨rfl,rfl⟩|exact ro.elim
  |rt t=>cases oh<;>first|exact .inr ⟨rfl,rfl⟩|exact ro.elim
end
end
section
variable{gl:List T}{A X B:List Nat}{h h':AH}{M M1:Mem}
theorem mapM_cons{α β:Type}{f:α->Option β}{x:α}{xs:List α}{ys:List β}(e:(x::xs).mapM f=some ys):∃y ys',f x=some y/\xs.mapM f=some ys'/\ys=y::ys':=by
 rw[vJ]at e;cases hf:f x with
 |none=>rw[hf]at e;cases e
 |some y=>
  rw[hf]at e;cases hg:xs.mapM f with
  |none=>rw[hg]at e;cases e
  |some ys'=>rw[hg]at e;cases e;exact⟨y,ys',rfl,rfl,rfl⟩
theorem mapM_nil{α β:Type}{f:α->Option β}{ys:List β}(e:([]:List α).mapM f=some ys):ys=[]:=by
 rw[List.mapM_nil]at e;cases e;rfl
theorem jU{A1 X1:List Nat}{f:T->Option T}(hf:∀t t' w,f t=some t'->Rep A1 X1 h t w->Rep A X h t' w):∀{ts ts':List T}{vs:List V},ts.mapM f=some ts'->qM A1 X1 h ts vs->qM A X h ts' vs
 | [],ts',vs,e,r=>by cases mapM_nil e;unfold qM at r ⊢;exact r
 |t::ts,ts',vs,e,r=>by
  obtain⟨y,ys,e1,e2,rfl⟩:=mapM_cons e;unfold qM at r ⊢;obtain⟨v,vs',rfl,a,b⟩:=r;exact⟨v,vs',rfl,hf _ _ _ e1 a,jU hf e2 b⟩
theorem G9(R:RelM gl (A++B) (X++B) h M1)(hB:∀b∈B,b∉X):∀(d:Nat) (t t':T) (w:V),qG M1 A.length d t=some t'->Rep (A++B) (X++B) h t w->Rep A X h t' w:=by
 have hu:∀(t:T) (w:V),t.und A.length=true->Rep (A++B) (X++B) h t w->Rep A X h t w:=λt w u r=>S7 (λn hn=>List.getElem?_append_left hn) (λa ha=>wF _ ha) t r u;have hX:∀a,a∉X++B->a∉X:=λa x z=>x (wF _ z);intro d
 induction d with
 |zero=>
  intro t t' w e r;unfold qG at e;split at e
  ·rename_i u;cases e;exact hu _ w u r
  ·cases e
 |succ d ih=>
  intro t t' w e r;unfold qG at e;split at e
  ·rename_i u;cases e;exact hu _ w u r
  ·rename_i u;cases t with
   |v x=>cases e
   |ob o=>cases e
   |fz ts=>cases e
   |lst ts=>
    obtain⟨ts',e1,rfl⟩:=Option.map_eq_some_iff.mp e;unfold Rep at r ⊢;obtain⟨a,vs,rfl,q1,q2,q3⟩:=r;exact⟨a,vs,rfl,hX a q1,q2,jU ih e1 q3⟩
   |tup ts=>
    obtain⟨ts',e1,rfl⟩:=Option.map_eq_some_iff.mp e;unfold Rep at r ⊢;obtain⟨a,vs,rfl,q1,q2,q3⟩:=r;exact⟨a,vs,rfl,hX a q1,q2,jU ih e1 q3⟩
   |cell n=>
    obtain⟨ts,e0,e⟩:=Option.bind_eq_some_iff.mp (show (M1[n]?).bind _=_ from e);obtain⟨ts',e1,rfl⟩:=Option.map_eq_some_iff.mp e;have hn:A.length<=n:=by
     unfold T.und at u;simpa using u
    unfold Rep at r ⊢;obtain⟨a,ea,rfl⟩:=r;obtain⟨ts2,vs,g1,g2,g3⟩:=R.at_ n a ea;rw[e0]at g1;cases g1;rw[List.getElem?_append_right hn]at ea;exact⟨a,vs,rfl,hB a (List.mem_of_getElem? ea),g2,jU ih e1 g3⟩
mutual
theorem Je(n:Nat):∀(t:T),t.lf=true->t.und n=true
 | .v x,_=>rfl
 | .cell _,l=>by unfold T.lf at l;cases l
 | .ob _,_=>rfl
 | .fz _,l=>by unfold T.lf at l;cases l
 | .lst _,l=>by unfold T.lf at l;cases l
 | .tup ts,l=>by unfold T.lf at l;unfold T.und;exact jo n ts l
theorem jo(n:Nat):∀(ts:List T),T.lfs ts=true->T.unds n ts=true
 | [],_=>rfl
 |t::ts,l=>by unfold T.lfs at l;rw[Bool.and_eq_true]at l;unfold T.unds;rw[Je n t l.1,jo n ts l.2];rfl
end
theorem L5{n0:Nat}{f:T->Option (List Nat)}(hf:∀t l,f t=some l->t.und n0=true->t.lf=true):∀{ts:List T}{ls:List (List Nat)},ts.mapM f=some ls->T.unds n0 ts=true->T.lfs ts=true
 | [],ls,e,u=>rfl
 |t::ts,ls,e,u=>by
  obtain⟨y,ys,e1,e2,rfl⟩:=mapM_cons e;unfold T.unds at u;rw[Bool.and_eq_true]at u;unfold T.lfs;rw[hf t _ e1 u.1,L5 hf e2 u.2];rfl
theorem U5{n0:Nat}:∀(d:Nat) (t:T) (l:List Nat),zy M1 n0 d t=some l->t.und n0=true->t.lf=true:=by
 intro d
 induction d with
 |zero=>intro t l e u;unfold zy at e;split at e<;>first|assumption|cases e
 |succ d ih=>
  intro t l e u;unfold zy at e;split at e
  ·assumption
  ·cases t with
   |tup ts=>
    obtain⟨ls,e1,rfl⟩:=Option.map_eq_some_iff.mp e;unfold T.und at u;unfold T.lf;exact L5 ih e1 u
   |cell n=>
    dsimp only at e;split at e
    ·rename_i hn;unfold T.und at u;simp at u;omega
    ·cases e
   |v x=>cases e
   |ob o=>cases e
   |fz ts=>cases e
   |lst ts=>cases e
theorem Ze{A1 X1:List Nat}{n0:Nat}{f:T->Option (List Nat)}{g:T->Option T}(hf:∀t l t' w,f t=some l->g t=some t'->Rep A1 X1 h t w->∃fp,FP X h t' w fp/\fp.map some=l.map (A1[·]?)/\∀n∈l,n0<=n):
  ∀{ts ts':List T}{ls:List (List Nat)}{vs:List V},ts.mapM f=some ls->ts.mapM g=some ts'->qM A1 X1 h ts vs->∃fp,FPs X h ts' vs fp/\fp.map some=ls.flatten.map (A1[·]?)/\∀n∈ls.flatten,n0<=n
 | [],ts',ls,vs,e,e',r=>by
  cases mapM_nil e;cases mapM_nil e';unfold qM at r;exact⟨[],by unfold FPs;exact⟨r,rfl⟩,rfl,λn hn=>by simp at hn⟩
 |t::ts,ts',ls,vs,e,e',r=>by
  obtain⟨y,ys,e1,e2,rfl⟩:=mapM_cons e;obtain⟨z,zs,e3,e4,rfl⟩:=mapM_cons e';unfold qM at r;obtain⟨v,vs',rfl,a,b⟩:=r;obtain⟨f1,p1,q1,n1⟩:=hf _ _ _ _ e1 e3 a;obtain⟨f2,p2,q2,n2⟩:=Ze hf e2 e4 b;refine⟨f1++f2,by unfold FPs;exact⟨v,vs',f1,f2,rfl,p1,p2,rfl⟩,by simp[q1,q2],λn hn=>?_⟩;rw[List.flatten_cons]at hn;rcases wE.mp hn with z|z
  ·exact n1 n z
  ·exact n2 n z
theorem Qa{n0:Nat}{d:Nat}{t t':T}(u:t.und n0=true)(e:qG M1 n0 d t=some t'):t'=t:=by
 cases d<;>(unfold qG at e;rw[if_pos u]at e;cases e;rfl)
theorem Z7(R:RelM gl (A++B) (X++B) h M1)(hB:∀b∈B,b∉X):∀(d:Nat) (t:T) (l:List Nat) (t':T) (w:V),zy M1 A.length d t=some l->qG M1 A.length d t=some t'->Rep (A++B) (X++B) h t w ->
  ∃fp,FP X h t' w fp/\fp.map some=l.map ((A++B)[·]?)/\∀n∈l,A.length<=n:=by
 have hX:∀a,a∉X++B->a∉X:=λa x z=>x (wF _ z);have lfc:∀{d:Nat}{t t':T}{w:V},t.lf=true->qG M1 A.length d t=some t'->Rep (A++B) (X++B) h t w->∃fp:List Nat,FP X h t' w fp/\fp.map some=([]:List Nat).map ((A++B)[·]?)/\∀n∈([]:List Nat),A.length<=n:=by
  intro d t t' w l e r;cases Qa (Je _ t l) e;exact⟨[],Qk (λa o x y=>⟨hX a x,y⟩) _ (o9 _ r l),rfl,λn hn=>by simp at hn⟩
 intro d
 induction d with
 |zero=>
  intro t l t' w e e' r;unfold zy at e;split at e
  ·rename_i hl;cases e;exact lfc hl e' r
  ·cases e
 |succ d ih=>
  intro t l t' w e e' r;unfold zy at e;split at e
  ·rename_i hl;cases e;exact lfc hl e' r
  ·rename_i hl;have hu:t.und A.length≠true:=λu=>hl (U5 (M1:=M1) (d+1) t l (by unfold zy;rw[if_neg hl];exact e) u);unfold qG at e';rw[if_neg hu]at e';cases t with
   |tup ts=>
    obtain⟨ls,e1,rfl⟩:=Option.map_eq_some_iff.mp e;obtain⟨ts',e2,rfl⟩:=Option.map_eq_some_iff.mp e';unfold Rep at r;obtain⟨a,vs,rfl,q1,q2,q3⟩:=r;obtain⟨fp,p1,p2,p3⟩:=Ze ih e1 e2 q3;exact⟨fp,by unfold FP;exact⟨a,vs,rfl,hX a q1,q2,p1⟩,p2,p3⟩
   |cell n=>
    dsimp only at e e';split at e
    ·rename_i hn;obtain⟨ts,e0,e⟩:=Option.bind_eq_some_iff.mp e;obtain⟨ls,e1,rfl⟩:=Option.map_eq_some_iff.mp e;rw[e0]at e';dsimp only[Option.bind_some]at e';obtain⟨ts',e2,rfl⟩:=Option.map_eq_some_iff.mp e';unfold Rep at r;obtain⟨a,ea,rfl⟩:=r;obtain⟨ts2,vs,g1,g2,g3⟩:=R.at_ n a ea;rw[e0]at g1;cases g1;obtain⟨fp,p1,p2,p3⟩:=Ze ih e1 e2 g3;have ea2:=ea;rw[List.getElem?_append_right hn]at ea2;refine⟨fp++[a],by unfold FP;exact⟨a,vs,fp,rfl,hB a (List.mem_of_getElem? ea2),g2,p1,rfl⟩,?_,λm hm=>?_⟩
     ·rw[wS,wS,p2];simp[ea]
     ·rcases wE.mp hm with z|z
      ·exact p3 m z
      ·simp at z;omega
    ·cases e
   |v x=>cases e
   |ob o=>cases e
   |fz ts=>cases e
   |lst ts=>cases e
theorem Zi{X' Y:List Nat}(R:RelM gl (A++B) Y h M1)(hX:∀a∈X',a∈Y)(hA:∀a∈A,a∈X')(hc:(M1.take A.length).all (T.unds A.length)=true)(hg:∀(g:Nat) t,gl[g]?=some t->Rep A X' h t (.ref g)):RelM gl A X' h (M1.take A.length):=by
 have l:=R.len;rw[List.length_append]at l;refine⟨by rw[wN];omega,(wR.mp R.nd).1,hA,λa ha=>R.lt a (hX a ha),λn a e=>?_,hg⟩;have hn:=(List.getElem?_eq_some_iff.mp e).1;obtain⟨ts,vs,e1,e2,e3⟩:=R.at_ n a (jP n a e);refine⟨ts,vs,by rw[wT hn];exact e1,e2,jS (λn hn=>List.getElem?_append_left hn) hX ts e3 ?_⟩;rw[wK]at hc;refine hc ts (List.mem_of_getElem? (i:=n) ?_);rw[wT hn];exact e1
theorem J6{M:Mem}{n0 d:Nat}{t:T}{o:Ob}(h:qG M n0 d t=some (.ob o)):t=.ob o:=by
 cases d with
 |zero=>
  unfold qG at h;split at h
  ·cases h;rfl
  ·cases h
 |succ d=>
  unfold qG at h;split at h
  ·cases h;rfl
  ·cases t with
   |lst ts=>cases hh:ts.mapM (qG M n0 d)<;>simp[hh]at h
   |tup ts=>cases hh:ts.mapM (qG M n0 d)<;>simp[hh]at h
   |cell n=>
    cases hm:M[n]? with
    |none=>simp[hm]at h
    |some ts=>cases hh:ts.mapM (qG M n0 d)<;>simp[hm,hh]at h
   |_=>cases h
theorem Zw(R0:RelM gl A X h M)(f:Frm A h h')(hB:∀b∈B,h.length<=b)(R:RelM gl (A++B) (X++B) h' M1){x:TB}{w:V}(q:QE gl (A++B) (X++B) h.length x w h' M1):Sim gl A X h (QE gl A X h.length) (finish M.length x M1) (.ok (w,h')):=by
 have hBX:∀b∈B,b∉X:=λb z y=>by have:=hB b z;have:=R0.lt b y;omega
 have hX:∀a,a∉X++B->a∉X:=λa x z=>x (wF _ z);have hg:∀{Z:List Nat},(∀a∈Z,h.length<=a)->∀(g:Nat) t,gl[g]?=some t->Rep A (X++Z) h' t (.ref g):=λhZ g t e=>ql (λ_ _ e=>e) (λa o x y=>⟨by
   rw[wE];rintro(z|z)
   ·exact x z
   ·have:=hZ a z;have:=qJ y;omega,(R0.keepN f a o x y).2⟩) t (R0.glo g t e)
 unfold finish;rw[<-R0.len];split
 ·rename_i hl;have hB0:B=[]:=by
   have:=R.len;rw[List.length_append,hl]at this;exact List.length_eq_zero_iff.mp (by omega)
  subst hB0;rw[List.append_nil,List.append_nil]at R q;exact⟨w,h',rfl,f,R,q⟩
 split
 ·rename_i hc;refine Sim.ofO λt' et=>?_;have R':RelM gl A X h' (M1.take A.length):=by
   have:=Zi (X':=X++[]) R (λa ha=>by simp at ha;exact wF _ ha) (λa ha=>by simp;exact R0.sub a ha) hc (hg λa ha=>by simp at ha);simpa using this
  refine⟨w,h',rfl,f,R',G9 R hBX 6 _ _ _ et q.1,λe=>?_⟩;rw[wx]at e;rcases e with e|e
  ·obtain⟨fp,p,nd,l,Rf,nw⟩:=q.2 e;cases Qa (j3 A.length _ p) et;have cr:∀{Z:List Nat},(∀a∈Z,h.length<=a)->RelM gl (A++B) (X++B++Z) h' M1->RelM gl A (X++Z) h' (M1.take A.length):=λ{Z} hZ q=>Zi q (λa ha=>by
    rcases wE.mp ha with z|z
    ·exact wF _ (wF _ z)
    ·exact wG _ z) (λa ha=>wF _ (R0.sub a ha)) hc (hg hZ)
   exact⟨fp,Qk (λa o x y=>⟨hX a x,y⟩) _ p,nd,l,cr l Rf,λkvs e=>by
    obtain⟨a,q1,q2,q3⟩:=nw kvs e;exact⟨a,q1,q2,cr (λz hz=>by rw[wJ.mp hz];exact q2) q3⟩⟩
  ·unfold frR at e;split at e
   ·rename_i l el;have ndl:l.Nodup:=by simpa using e
    obtain⟨fp,p,pm,pn⟩:=Z7 R hBX 6 _ _ _ _ el et q.1;have fB:∀a∈fp,a∈B:=λa ha=>by
     have:some a∈fp.map some:=List.mem_map_of_mem ha;rw[pm]at this;obtain⟨n,hn,en⟩:=wj.mp this;rw[List.getElem?_append_right (pn n hn)]at en;exact List.mem_of_getElem? en
    have nd:fp.Nodup:=by
     have:(fp.map some).Nodup:=by
      rw[pm];refine List.pairwise_map.mpr (List.Pairwise.imp_of_mem ?_ ndl);intro n m hn hm hnm e;have:(A++B)[n]?∈fp.map some:=by rw[pm];exact List.mem_map_of_mem hn
      obtain⟨a,_,ea⟩:=wj.mp this;exact hnm ((List.getElem?_inj (List.getElem?_eq_some_iff.mp ea.symm).1 R.nd).mp e)
     exact(List.pairwise_map.mp this).imp λ{a b} z e=>z (by rw[e])
    refine⟨fp,p,nd,λa ha=>hB a (fB a ha),Zi R (λa ha=>?_) (λa ha=>wF _ (R0.sub a ha)) hc (hg λa ha=>hB a (fB a ha)),λkvs e=>by have e:t'=.ob (.dct kvs):=e;subst e;rw[J6 et]at el;simp[zy,T.lf]at el⟩;rcases wE.mp ha with z|z
    ·exact wF _ z
    ·exact wG _ (fB a z)
   ·cases e
 ·exact Sim.stuck
end
theorem Zv{A X:List Nat}{h:AH}(n:Nat):∀{ts:List T}{ws:List V},qM A X h ts ws->jL A X h (ts.map some++List.replicate n none) (ws.map some++List.replicate n none)
 | [],ws,r=>by
  unfold qM at r;subst r;show jL A X h (List.replicate n none) (List.replicate n none)
  induction n with
  |zero=>rfl
  |succ n ih=>exact⟨none,_,rfl,trivial,ih⟩
 |t::ts,ws,r=>by
  unfold qM at r;obtain⟨v,vs,rfl,a,b⟩:=r;exact⟨some v,_,rfl,a,Zv n b⟩
theorem qBj(gl:List T)(tb:List Fn)(Cs:List (List Nat)):∀(k f:Nat) (ts:List T) (ws:List V) (A X:List Nat) (h:AH) (M:Mem),RelM gl A X h M->qM A X h ts ws->Sim gl A X h (QE gl A X h.length) (Pk gl tb Cs k f ts M) (Fk tb k f ws h)
 | 0,f,ts,ws,A,X,h,M,R,rs=>Sim.stuck
 |k+1,f,ts,ws,A,X,h,M,R,rs=>by
  unfold Pk Fk;cases ed:tb[f]? with
  |none=>exact Sim.stuck
  |some d=>
   dsimp only;rw[<-qB (reps_iff.mp rs)];split
   ·have s:=JE (Cs.getD f []) (qBj gl tb Cs k) d.body A X h M _ _ R (Zv (d.nslot-d.npar) rs);revert s;generalize pxs gl (Pk gl tb Cs k) (Cs.getD f []) d.body (ts.map some++List.replicate (d.nslot-d.npar) none) M=r;generalize exs (Fk tb k) d.body (ws.map some++List.replicate (d.nslot-d.npar) none) h=rh;intro s;cases r with
    |stuck=>exact Sim.stuck
    |exc c M1=>
     obtain⟨h',B,rfl,f1,hB,R1⟩:=s;show Sim gl A X h _ (if _ then _ else if _ then _ else _) _;split
     ·rename_i hl;have hB0:B=[]:=by
       have:=R1.len;rw[List.length_append,hl,R.len]at this;exact List.length_eq_zero_iff.mp (by omega)
      subst hB0;rw[List.append_nil,List.append_nil]at R1;exact⟨h',rfl,f1,R1⟩
     split
     ·rename_i hc;refine⟨h',rfl,f1,?_⟩;rw[<-R.len]at hc ⊢;exact Zi R1 (λa ha=>wF _ ha) R.sub hc λg t e=>R.keep f1 (R.glo g t e)
     ·exact Sim.stuck
    |ok p=>
     obtain⟨o,M1⟩:=p;obtain⟨oh,h',B,rfl,f1,hB,R1,ro⟩:=s;rw[Res.bind_ok];cases o with
     |nx σ=>
      cases oh<;>first|exact ro.elim|skip
      have r:Rep (A++B) (X++B) h' (.v .non) .non:=by unfold Rep;exact⟨rfl,rfl⟩
      exact Zw R f1 hB R1 (show QE gl (A++B) (X++B) h.length (.v .non,true) .non h' M1 from⟨r,λ_=>Frs.of_lf R1 r rfl⟩)
     |rt t=>
      cases oh<;>first|exact ro.elim|skip
      exact Zw R f1 hB R1 ro
     |bk σ=>exact Sim.stuck
     |ct σ=>exact Sim.stuck
   ·exact Sim.stuck
noncomputable def glT(gs:List O):List T:=gs.map λo=>match o with | .tup xs=>.tup (xs.map .v) | .lst _ xs=>.fz (xs.map .v) | .ob _=>.v .non
noncomputable def qAr(gs:List O):Bool:=gs.all λo=>match o with | .tup xs=>xs.all flat|_=>false
theorem qA5{gs:List O}{tb:List Fn}{Cs:List (List Nat)}{k i:Nat}{ns:List Int}{b:Bool}{M':Mem}(hg:qAr gs=true)(e:Pk (glT gs) tb Cs k i [.fz (ns.map λn=>.v (.int n))] []=.ok ((.v (.bl true),b),M')):
  ∃h',Fk tb k i [.ref gs.length] (gs++[.lst true (ns.map V.int)])=.ok (.bl true,h'):=by
 have R:RelM (glT gs) [] [] (gs++[.lst true (ns.map V.int)]) []:=by
  refine⟨rfl,vB,λa ha=>by simp at ha,λa ha=>by simp at ha,λn a e=>by simp at e,λg t eg=>?_⟩;unfold glT at eg;rw[wQ]at eg;obtain⟨o,eo,rfl⟩:=Option.map_eq_some_iff.mp eg;unfold qAr at hg;rw[wK]at hg;have ho:=hg o (List.mem_of_getElem? eo);cases o with
  |lst _ _=>cases ho
  |ob _=>cases ho
  |tup xs=>
   dsimp only;unfold Rep;exact⟨g,xs,rfl,by simp,by rw[List.getElem?_append_left (List.getElem?_eq_some_iff.mp eo).1];exact eo,jT ho⟩
 have rs:qM [] [] (gs++[O.lst true (ns.map V.int)]) [.fz (ns.map λn=>.v (.int n))] [.ref gs.length]:=by
  unfold qM;refine⟨_,[],rfl,?_,by unfold qM;rfl⟩;unfold Rep;refine⟨gs.length,ns.map V.int,rfl,by simp,by simp,?_⟩;have:ns.map (λn=>T.v (.int n))=(ns.map V.int).map .v:=by rw[wg];rfl
  rw[this];exact jT (by simp[flat])
 have s:=qBj (glT gs) tb Cs k i _ _ [] [] _ [] R rs;rw[e]at s;obtain⟨w,h',e1,_,_,q⟩:=s;cases zF q.1;exact⟨h',e1⟩
theorem j5{tb:List Fn}{j:Nat}{d:Fn}{b:Ss}(e:tb[j]?=some d)(hb:∀F σ h,exs F d.body σ h=exs F b σ h):∀(k f:Nat) (vs:List V) (h:AH),Fk tb k f vs h=Fk (tb.set j ⟨d.npar,d.nslot,b⟩) k f vs h
 | 0,_,_,_=>rfl
 |k+1,f,vs,h=>by
  have ih:Fk tb k=Fk (tb.set j ⟨d.npar,d.nslot,b⟩) k:=by funext f vs h;exact j5 e hb k f vs h
  unfold Fk;by_cases hf:f=j
  ·subst hf;rw[e,List.getElem?_set_self (List.getElem?_eq_some_iff.mp e).1,ih];dsimp only;rw[hb]
  ·rw[List.getElem?_set_ne (Ne.symm hf),ih]
noncomputable def qBB(t:T):Option TB:=match t with | .v (.int i)=>some (iT (-i))|_=>none
noncomputable def i7(M:Mem)(p k x:T):Option Mem:=match p,k with
 | .cell n,.v (.int j)=>(M[n]?).bind λxs=>(L2.ixN xs.length j).map λj=>M.set n (xs.set j x)
 |_,_=>none
noncomputable def qA8(M:Mem)(n:Nat)(x:T):Option Mem:=(M[n]?).bind λxs=>if xs.length<lim then some (M.set n (xs++[x])) else none
noncomputable def qAY(t:T):Option (List T):=match t with | .v (.int j)=>if -1000000<=j/\j<=100000 then some (qh 0 j.toNat) else none|_=>none
noncomputable def qCo(t:T):Option (List T):=match t with | .v (.int j)=>if -1000000<=j/\j<=1000000 then some (qh 0 j.toNat) else none|_=>none
noncomputable def qAU(s t:T):Option (List T):=match s,t with | .v (.int i),.v (.int j)=>if (-1000000<=i/\i<=1000000)/\-1000000<=j/\j<=1000000 then some (qh i (j-i).toNat) else none|_,_=>none
section
variable{gl:List T}{P:Nat->List T->Mem->PR (TB×Mem)}{C:List Nat}{σ:TS}{M:Mem}{a b c e:E}{as lo hi:Es}
@[simp] theorem pe_var(i:Nat):pe gl P (.var i) σ M=match σ[i]? with|some (some t)=>.ok ((t,t.lf),M)|_=>.stuck:=Eq.trans rfl rfl
@[simp] theorem pe_int(i:Int):pe gl P (.cst (.int i)) σ M=.ok (iT i,M):=Eq.trans rfl rfl
@[simp] theorem pe_bl(i:Bool):pe gl P (.cst (.bl i)) σ M=.ok (bT i,M):=Eq.trans rfl rfl
@[simp] theorem pe_non:pe gl P (.cst .non) σ M=.ok ((.v .non,true),M):=Eq.trans rfl rfl
@[simp] theorem pe_str(s:PySem.Str):pe gl P (.cst (.str s)) σ M=.ok ((.v (.str s),true),M):=Eq.trans rfl rfl
@[simp] theorem pe_glob(g:Nat):pe gl P (.glob g) σ M=match gl[g]? with|some t=>.ok ((t,t.lf),M)|none=>.stuck:=Eq.trans rfl rfl
@[simp] theorem C8(op:BOp):pe gl P (.bin op a b) σ M=(pe gl P a σ M).bind λp=>(pe gl P b σ p.2).bind λq=>(PR.ofO (qp q.2 op p.1.1 q.1.1)).bind λr=>.ok (r,q.2):=Eq.trans rfl rfl
@[simp] theorem qDy:pe gl P (.neg a) σ M=(pe gl P a σ M).bind λp=>(PR.ofO (qBB p.1.1)).bind λr=>.ok (r,p.2):=by
 show PR.bind _ _=_;dsimp only;congr 1;funext p;obtain⟨⟨p1,p3⟩,p2⟩:=p;dsimp only;unfold qBB;cases p1<;>first|rfl|skip
 rename_i x;cases x<;>rfl
@[simp] theorem C9(op:COp):pe gl P (.cmp op a b) σ M=(pe gl P a σ M).bind λp=>(pe gl P b σ p.2).bind λq=>(PR.ofO (zP q.2 op p.1.1 q.1.1)).bind λr=>.ok (bT r,q.2):=Eq.trans rfl rfl
@[simp] theorem qC2(o1 o2:COp):pe gl P (.cmp2 o1 o2 a b c) σ M=(pe gl P a σ M).bind λp=>(pe gl P b σ p.2).bind λq=>(PR.ofO (zP q.2 o1 p.1.1 q.1.1)).bind λr=>
  if r=true then (pe gl P c σ q.2).bind λz=>(PR.ofO (zP z.2 o2 q.1.1 z.1.1)).bind λr=>.ok (bT r,z.2) else .ok (bT false,q.2):=Eq.trans rfl rfl
@[simp] theorem pe_and:pe gl P (.and a b) σ M=(pB (pe gl P a σ M)).bind λp=>if p.1=true then pe gl P b σ p.2 else .ok (bT false,p.2):=Eq.trans rfl rfl
@[simp] theorem pe_or:pe gl P (.or a b) σ M=(pB (pe gl P a σ M)).bind λp=>if p.1=true then .ok (bT true,p.2) else pe gl P b σ p.2:=Eq.trans rfl rfl
@[simp] theorem pe_not:pe gl P (.not a) σ M=(pB (pe gl P a σ M)).bind λp=>.ok (bT (!p.1),p.2):=Eq.trans rfl rfl
@[simp] theorem qEY:pe gl P (.ite c a b) σ M=(pB (pe gl P c σ M)).bind λp=>if p.1=true then pe gl P a σ p.2 else pe gl P b σ p.2:=Eq.trans rfl rfl
@[simp] theorem pe_call(f:Nat):pe gl P (.call f as) σ M=(pes gl P as σ M).bind λp=>(P f (p.1.map (·.1)) p.2).nx:=Eq.trans rfl rfl
@[simp] theorem ZB(f:BF):pe gl P (.blt f as) σ M=(pes gl P as σ M).bind λp=>(PR.ofO (zW p.2 f (p.1.map (·.1)))).bind λr=>.ok (r,p.2):=Eq.trans rfl rfl
@[simp] theorem M9(ts:List String):pe gl P (.isi a ts) σ M=(pe gl P a σ M).bind λp=>(PR.ofO (zz p.2 p.1.1)).bind λt=>.ok (bT (ts.any (zh t)),p.2):=Eq.trans rfl rfl
@[simp] theorem qCJ:pe gl P (.idx a b) σ M=(pe gl P a σ M).bind λp=>(pe gl P b σ p.2).bind λq=>(PR.ofO (jv q.2 p.1.1 q.1.1)).bind λr=>.ok (r,q.2):=Eq.trans rfl rfl
@[simp] theorem qEb:pe gl P (.sl a lo hi) σ M=(pe gl P a σ M).bind λp=>(pes gl P lo σ p.2).bind λl=>(pes gl P hi σ l.2).bind λu=>
  (PR.ofO (p.1.1.its u.2)).bind λxs=>(PR.ofO (za (l.1.map (·.1)))).bind λi=>(PR.ofO (za (u.1.map (·.1)))).bind λj=>(PR.ofO (m5 p.1.1 xs i.head? j.head?)).bind λr=>.ok (r,u.2):=Eq.trans rfl rfl
@[simp] theorem pe_lst:pe gl P (.lst as) σ M=(pes gl P as σ M).bind λp=>if p.1.length<=lim then .ok ((.lst (p.1.map (·.1)),p.1.all (·.2)),p.2) else .stuck:=Eq.trans rfl rfl
@[simp] theorem pe_tup:pe gl P (.tup as) σ M=(pes gl P as σ M).bind λp=>if p.1.length<=lim then .ok ((.tup (p.1.map (·.1)),p.1.all (·.2)),p.2) else .stuck:=Eq.trans rfl rfl
@[simp] theorem pe_comp(it:Itr)(src:List (Option Nat))(g:Tg)(c:Es):pe gl P (.comp it src g c e) σ M=(pei gl P it σ M).bind λp=>qP p.1.2 g (pec gl P c) (pe gl P e) p.1.1 [] true (jz src σ) p.2:=Eq.trans rfl rfl
@[simp] theorem qDm:pe gl P (.app a b) σ M=(pe gl P a σ M).bind λp=>match p.1.1 with
  | .cell n=>(pe gl P b σ p.2).bind λq=>(PR.ofO (qA8 q.2 n q.1.1)).bind λM'=>.ok ((.v .non,true),M')
  |_=>.stuck:=by
 show PR.bind _ _=_;dsimp only;congr 1;funext p;obtain⟨⟨p1,p3⟩,p2⟩:=p;dsimp only;cases p1<;>dsimp only;congr 1;funext q;obtain⟨⟨q1,q3⟩,q2⟩:=q;dsimp only;unfold qA8;rename_i n;cases h:q2[n]? with
 |none=>rfl
 |some xs=>
  dsimp only[Option.bind_some];split<;>rfl
@[simp] theorem qCz:pe gl P (.lrng a) σ M=(pe gl P a σ M).bind λp=>(PR.ofO (qAY p.1.1)).bind λxs=>.ok ((.lst xs,true),p.2):=by
 show PR.bind _ _=_;dsimp only;congr 1;funext p;obtain⟨⟨p1,p3⟩,p2⟩:=p;dsimp only;unfold qAY;cases p1<;>first|rfl|skip
 rename_i x;cases x<;>first|rfl|skip
 dsimp only;split<;>rfl
@[simp] theorem qDD(m:Mt):pe gl P (.meth m a as) σ M=(pe gl P a σ M).bind λp=>match p.1.1 with
  | .cell n=>(pes gl P as σ p.2).bind λq=>PR.ofO (Zp m n (q.1.map (·.1)) q.2)
  |_=>.stuck:=Eq.trans rfl rfl
@[simp] theorem qC3:pe gl P .dnew σ M=.ok ((.ob (.dct []),true),M):=Eq.trans rfl rfl
@[simp] theorem zi:pes gl P .nil σ M=.ok ([],M):=Eq.trans rfl rfl
@[simp] theorem zQ:pes gl P (.cons a as) σ M=(pe gl P a σ M).bind λp=>(pes gl P as σ p.2).bind λq=>.ok (p.1::q.1,q.2):=Eq.trans rfl rfl
@[simp] theorem zR:pec gl P .nil σ M=.ok (true,M):=Eq.trans rfl rfl
@[simp] theorem QO:pec gl P (.cons a as) σ M=pB (pe gl P a σ M):=Eq.trans rfl rfl
@[simp] theorem QQ:pei gl P (.list a) σ M=(pe gl P a σ M).bind λp=>(PR.ofO (J2 p.2 p.1.1)).bind λs=>.ok (s,p.2):=Eq.trans rfl rfl
@[simp] theorem zY:pei gl P (.rng1 a) σ M=(pe gl P a σ M).bind λp=>(PR.ofO (qCo p.1.1)).bind λxs=>.ok ((xs,[]),p.2):=by
 show PR.bind _ _=_;dsimp only;congr 1;funext p;obtain⟨⟨p1,p3⟩,p2⟩:=p;dsimp only;unfold qCo;cases p1<;>first|rfl|skip
 rename_i x;cases x<;>first|rfl|skip
 dsimp only;split<;>rfl
@[simp] theorem qCY:pei gl P (.rng2 a b) σ M=(pe gl P a σ M).bind λp=>(pe gl P b σ p.2).bind λq=>(PR.ofO (qAU p.1.1 q.1.1)).bind λxs=>.ok ((xs,[]),q.2):=by
 show PR.bind _ _=_;dsimp only;congr 1;funext p;congr 1;funext q;obtain⟨⟨p1,p3⟩,p2⟩:=p;obtain⟨⟨q1,q3⟩,q2⟩:=q;dsimp only;unfold qAU;cases p1<;>first|rfl|skip
 rename_i x;cases x<;>first|rfl|skip
 cases q1<;>first|rfl|skip
 rename_i y;cases y<;>first|rfl|skip
 dsimp only;split<;>rfl
@[simp] theorem qDZ:pei gl P (.zip a b) σ M=(pe gl P a σ M).bind λp=>(pe gl P b σ p.2).bind λq=>(PR.ofO (V9 q.2 p.1.1)).bind λs=>(PR.ofO (V9 q.2 q.1.1)).bind λt=>
  .ok ((List.zipWith (λa b=>T.tup [a,b]) s.1 t.1,s.2++t.2),q.2):=Eq.trans rfl rfl
variable{s:S}{r t u:Ss}
@[simp] theorem Jo(i:Nat):px gl P C (.asg (.name i) e) σ M=(pe gl P e σ M).bind λp=>if (C.contains i&&p.1.2)=true then .ok (.nx (σ.set i (some (thaw p.2.length p.1.1).1)),p.2++(thaw p.2.length p.1.1).2) else if (C.contains (i+1000)&&qBc e)=true then (match p.1.1 with | .lst ts=>.ok (.nx (σ.set i (some (.cell p.2.length))),p.2++[ts])|_=>.stuck) else .ok (.nx (σ.set i (some p.1.1)),p.2):=Eq.trans rfl rfl
@[simp] theorem qEO(is:List Nat):px gl P C (.asg (.tup is) e) σ M=(pe gl P e σ M).bind λp=>match qo (.tup is) p.1.1 σ with|some σ1=>.ok (.nx σ1,p.2)|none=>.stuck:=Eq.trans rfl rfl
@[simp] theorem qEL{o i v:E}:px gl P C (.put o i v) σ M=(pe gl P v σ M).bind λx=>(pe gl P o σ x.2).bind λp=>(pe gl P i σ p.2).bind λk=>(PR.ofO (i7 k.2 p.1.1 k.1.1 x.1.1)).bind λM'=>.ok (.nx σ,M'):=by
 show PR.bind _ _=_;dsimp only;congr 1;funext x;congr 1;funext p;congr 1;funext k;obtain⟨⟨k1,k3⟩,k2⟩:=k;obtain⟨⟨p1,p3⟩,p2⟩:=p;dsimp only;unfold i7;cases p1<;>first|rfl|skip
 rename_i n;cases k1<;>first|rfl|skip
 rename_i y;cases y<;>first|rfl|skip
 rename_i j;dsimp only;cases h:k2[n]? with
 |none=>rfl
 |some xs=>
  dsimp only[Option.bind_some];have hj:PI.ixN xs.length j=L2.ixN xs.length j:=rfl;rw[hj];cases L2.ixN xs.length j with
  |none=>rfl
  |some j=>rfl
@[simp] theorem n8:px gl P C (.expr e) σ M=(pe gl P e σ M).bind λp=>.ok (.nx σ,p.2):=Eq.trans rfl rfl
@[simp] theorem QC:px gl P C (.ret e) σ M=(pe gl P e σ M).bind λp=>.ok (.rt p.1,p.2):=Eq.trans rfl rfl
@[simp] theorem G7:px gl P C (.ifs c t u) σ M=(pB (pe gl P c σ M)).bind λp=>if p.1=true then pxs gl P C t σ p.2 else pxs gl P C u σ p.2:=Eq.trans rfl rfl
@[simp] theorem qEN(g:Tg)(it:Itr):px gl P C (.for_ g it t) σ M=(pei gl P it σ M).bind λp=>qm p.1.2 g (pxs gl P C t) p.1.1 σ p.2:=Eq.trans rfl rfl
theorem Z4(u x f i:Nat):px gl P C (.nloop u x f i a) σ M=if u=i\/x=i\/u=x\/σ.length<=u\/σ.length<=x then .stuck else (pei gl P (.list a) (σ.set u none) M).bind λp=>match σ[i]? with|some (some l)=>Zl P p.1.2 f x l p.1.1 [] (σ.set u none) p.2|_=>.stuck:=Eq.trans rfl rfl
@[simp] theorem qDA:px gl P C .stop σ M=.stuck:=Eq.trans rfl rfl
@[simp] theorem qDc:pxs gl P C .nil σ M=.ok (.nx σ,M):=Eq.trans rfl rfl
@[simp] theorem qu:pxs gl P C (.cons s r) σ M=(px gl P C s σ M).bind λp=>match p.1 with
  | .nx σ1=>pxs gl P C r σ1 p.2
  |o=>.ok (o,p.2):=Eq.trans rfl rfl
@[simp] theorem qEa(x:Bool):pB (.ok (bT x,M))=.ok (x,M):=Eq.trans rfl rfl
@[simp] theorem qFV(x f:Bool):pB (.ok ((T.v (.bl x),f),M))=.ok (x,M):=Eq.trans rfl rfl
@[simp] theorem qCS:pB .stuck=.stuck:=Eq.trans rfl rfl
@[simp] theorem qCU{α β:Type}(c:Nat)(M:Mem)(f:α->PR β):(PR.exc c M:PR α).bind f=.exc c M:=Eq.trans rfl rfl
end
@[simp] theorem qFR(x:V):T.lf (.v x)=true:=by rw[T.lf]
@[simp] theorem v6(n:Nat):T.lf (.cell n)=false:=by rw[T.lf]<;>simp
@[simp] theorem qEK(xs:List T):T.lf (.lst xs)=false:=by rw[T.lf]<;>simp
@[simp] theorem qDv(xs:List T):T.lf (.tup xs)=T.lfs xs:=by rw[T.lf]
@[simp] theorem qCp:T.lfs []=true:=by rw[T.lfs]
@[simp] theorem zX(x:T)(xs:List T):T.lfs (x::xs)=(x.lf&&T.lfs xs):=by rw[T.lfs]
@[simp] theorem iT1(i:Int):(iT i).1=.v (.int i):=rfl
@[simp] theorem iT2(i:Int):(iT i).2=true:=rfl
@[simp] theorem bT1(i:Bool):(bT i).1=.v (.bl i):=rfl
@[simp] theorem bT2(i:Bool):(bT i).2=true:=rfl
@[simp] theorem lT1(xs:List T):(lT xs).1=.lst xs:=rfl
@[simp] theorem lT2(xs:List T):(lT xs).2=T.lfs xs:=rfl
@[simp] theorem qEl(x:V):T.isV (.v x)=some x:=rfl
@[simp] theorem qDK(x:List T):T.isV (.lst x)=none:=rfl
@[simp] theorem qDd(x:List T):T.isV (.tup x)=none:=rfl
@[simp] theorem qCT(x:Nat):T.isV (.cell x)=none:=rfl
section
variable{M:Mem}(i j:Int) (xs ys:List T)
@[simp] theorem qD5:qp M .add (.v (.int i)) (.v (.int j))=some (iT (i+j)):=rfl
@[simp] theorem qD0:qp M .sub (.v (.int i)) (.v (.int j))=some (iT (i-j)):=rfl
@[simp] theorem qAb:qp M .band (.v (.int i)) (.v (.int j))=some (iT (PySem.Builtin.bitAnd i j)):=rfl
theorem qCE{i j:Int}(h:(-18446744073709551616<i/\i<18446744073709551616)\/(-18446744073709551616<j/\j<18446744073709551616)):qp M .mul (.v (.int i)) (.v (.int j))=some (iT (i*j)):=by
 show (if (QH i||QH j||(mid i&&mid j))=true then _ else _)=_;rw[if_pos];rcases h with h|h
 ·have:QH i=true:=by unfold QH two64;exact vN h
  rw[this];rfl
 ·have:QH j=true:=by unfold QH two64;exact vN h
  rw[this,Bool.or_true];rfl
theorem qAP{i j:Int}(h:0<j/\j<1073741824):qp M .fdiv (.v (.int i)) (.v (.int j))=some (iT (i / j)):=by
 show (if 0<j/\(j<1073741824\/mid j=true) then _ else _)=_;rw[if_pos ⟨h.1,.inl h.2⟩]
theorem j6{i j:Int}(h:0<j):qp M .mod (.v (.int i)) (.v (.int j))=some (iT (i % j)):=by
 show (if 0<j then _ else _)=_;rw[if_pos h]
theorem k0{i j:Int}(h:0<=j/\j<=1000/\i.natAbs<18446744073709551616):qp M .pow (.v (.int i)) (.v (.int j))=some (iT (i ^ j.toNat)):=by
 show (if 0<=j/\j<=1000/\i.natAbs<18446744073709551616 then _ else _)=_;rw[if_pos h]
theorem qBC{i j:Int}(h:0<=j/\j<=1000/\i.natAbs<18446744073709551616):qp M .shl (.v (.int i)) (.v (.int j))=some (iT (i*2 ^ j.toNat)):=by
 show (if 0<=j/\j<=1000/\i.natAbs<18446744073709551616 then _ else _)=_;rw[if_pos h]
theorem qBs{i j:Int}(h:0<=j/\j<=1000):qp M .shr (.v (.int i)) (.v (.int j))=some (iT (i / 2 ^ j.toNat)):=by
 show (if 0<=j/\j<=1000 then _ else _)=_;rw[if_pos h]
theorem QX{xs ys:List T}(h:xs.length+ys.length<=lim):qp M .add (.lst xs) (.lst ys)=some (lT (xs++ys)):=by
 show (if xs.length+ys.length<=lim then _ else _)=_;rw[if_pos h]
@[simp] theorem qCu:zP M .lt (.v (.int i)) (.v (.int j))=some (decide (i<j)):=rfl
@[simp] theorem qDC:zP M .le (.v (.int i)) (.v (.int j))=some (decide (i<=j)):=rfl
@[simp] theorem qCq:zP M .gt (.v (.int i)) (.v (.int j))=some (decide (j<i)):=rfl
@[simp] theorem qC8:zP M .ge (.v (.int i)) (.v (.int j))=some (decide (j<=i)):=rfl
@[simp] theorem qC1:zP M .eq (.v (.int i)) (.v (.int j))=some (decide (i=j)):=by
 show some (i==j)=_;congr 1
@[simp] theorem qES:zW M .list [.lst xs]=some (lT xs):=rfl
@[simp] theorem qDu:zW M .list [.tup xs]=some (lT xs):=rfl
@[simp] theorem qA4:zW M .max [.v (.int i),.v (.int j)]=some (iT (if j>i then j else i)):=rfl
@[simp] theorem qB2:zW M .min [.v (.int i),.v (.int j)]=some (iT (if j<i then j else i)):=rfl
@[simp] theorem qEf:zW M .int [.v (.int i)]=some (iT i):=rfl
@[simp] theorem qFc:zz M (.v (.int i))=some "int":=rfl
@[simp] theorem qFX(b:Bool):zz M (.v (.bl b))=some "bool":=rfl
@[simp] theorem qFi:zz M (.lst xs)=some "list":=rfl
@[simp] theorem qFa:zz M (.tup xs)=some "tuple":=rfl
@[simp] theorem qFS(kvs:List (Int×V)):zz M (.ob (.dct kvs))=some "dict":=rfl
@[simp] theorem qFl:zz M (.v .non)=some "NoneType":=rfl
@[simp] theorem qDt:J2 M (.lst xs)=some (xs,[]):=rfl
@[simp] theorem qEU:J2 M (.tup xs)=some (xs,[]):=rfl
@[simp] theorem qEH:J2 M (.fz xs)=some (xs,[]):=rfl
@[simp] theorem qEP:V9 M (.lst xs)=some (xs,[]):=rfl
end
@[simp] theorem lk0{α:Type}(x0:α)(l:List α):(x0::l)[0]?=some x0:=rfl
@[simp] theorem st0{α:Type}(x0 y:α)(l:List α):(x0::l).set 0 y=y::l:=rfl
@[simp] theorem lk1{α:Type}(x0 x1:α)(l:List α):(x0::x1::l)[1]?=some x1:=rfl
@[simp] theorem st1{α:Type}(x0 x1 y:α)(l:List α):(x0::x1::l).set 1 y=x0::y::l:=rfl
@[simp] theorem lk2{α:Type}(x0 x1 x2:α)(l:List α):(x0::x1::x2::l)[2]?=some x2:=rfl
@[simp] theorem st2{α:Type}(x0 x1 x2 y:α)(l:List α):(x0::x1::x2::l).set 2 y=x0::x1::y::l:=rfl
@[simp] theorem lk3{α:Type}(x0 x1 x2 x3:α)(l:List α):(x0::x1::x2::x3::l)[3]?=some x3:=rfl
@[simp] theorem st3{α:Type}(x0 x1 x2 x3 y:α)(l:List α):(x0::x1::x2::x3::l).set 3 y=x0::x1::x2::y::l:=rfl
@[simp] theorem lk4{α:Type}(x0 x1 x2 x3 x4:α)(l:List α):(x0::x1::x2::x3::x4::l)[4]?=some x4:=rfl
@[simp] theorem st4{α:Type}(x0 x1 x2 x3 x4 y:α)(l:List α):(x0::x1::x2::x3::x4::l).set 4 y=x0::x1::x2::x3::y::l:=rfl
@[simp] theorem lk5{α:Type}(x0 x1 x2 x3 x4 x5:α)(l:List α):(x0::x1::x2::x3::x4::x5::l)[5]?=some x5:=rfl
@[simp] theorem st5{α:Type}(x0 x1 x2 x3 x4 x5 y:α)(l:List α):(x0::x1::x2::x3::x4::x5::l).set 5 y=x0::x1::x2::x3::x4::y::l:=rfl
@[simp] theorem lk6{α:Type}(x0 x1 x2 x3 x4 x5 x6:α)(l:List α):(x0::x1::x2::x3::x4::x5::x6::l)[6]?=some x6:=rfl
@[simp] theorem st6{α:Type}(x0 x1 x2 x3 x4 x5 x6 y:α)(l:List α):(x0::x1::x2::x3::x4::x5::x6::l).set 6 y=x0::x1::x2::x3::x4::x5::y::l:=rfl
@[simp] theorem lk7{α:Type}(x0 x1 x2 x3 x4 x5 x6 x7:α)(l:List α):(x0::x1::x2::x3::x4::x5::x6::x7::l)[7]?=some x7:=rfl
@[simp] theorem st7{α:Type}(x0 x1 x2 x3 x4 x5 x6 x7 y:α)(l:List α):(x0::x1::x2::x3::x4::x5::x6::x7::l).set 7 y=x0::x1::x2::x3::x4::x5::x6::y::l:=rfl
@[simp] theorem lk8{α:Type}(x0 x1 x2 x3 x4 x5 x6 x7 x8:α)(l:List α):(x0::x1::x2::x3::x4::x5::x6::x7::x8::l)[8]?=some x8:=rfl
@[simp] theorem st8{α:Type}(x0 x1 x2 x3 x4 x5 x6 x7 x8 y:α)(l:List α):(x0::x1::x2::x3::x4::x5::x6::x7::x8::l).set 8 y=x0::x1::x2::x3::x4::x5::x6::x7::y::l:=rfl
@[simp] theorem lk9{α:Type}(x0 x1 x2 x3 x4 x5 x6 x7 x8 x9:α)(l:List α):(x0::x1::x2::x3::x4::x5::x6::x7::x8::x9::l)[9]?=some x9:=rfl
@[simp] theorem st9{α:Type}(x0 x1 x2 x3 x4 x5 x6 x7 x8 x9 y:α)(l:List α):(x0::x1::x2::x3::x4::x5::x6::x7::x8::x9::l).set 9 y=x0::x1::x2::x3::x4::x5::x6::x7::x8::y::l:=rfl
@[simp] theorem qFg{α:Type}(x0 x1 x2 x3 x4 x5 x6 x7 x8 x9 x10:α)(l:List α):(x0::x1::x2::x3::x4::x5::x6::x7::x8::x9::x10::l)[10]?=some x10:=rfl
@[simp] theorem qFe{α:Type}(x0 x1 x2 x3 x4 x5 x6 x7 x8 x9 x10 y:α)(l:List α):(x0::x1::x2::x3::x4::x5::x6::x7::x8::x9::x10::l).set 10 y=x0::x1::x2::x3::x4::x5::x6::x7::x8::x9::y::l:=rfl
@[simp] theorem qFj{α:Type}(x0 x1 x2 x3 x4 x5 x6 x7 x8 x9 x10 x11:α)(l:List α):(x0::x1::x2::x3::x4::x5::x6::x7::x8::x9::x10::x11::l)[11]?=some x11:=rfl
@[simp] theorem qFb{α:Type}(x0 x1 x2 x3 x4 x5 x6 x7 x8 x9 x10 x11 y:α)(l:List α):(x0::x1::x2::x3::x4::x5::x6::x7::x8::x9::x10::x11::l).set 11 y=x0::x1::x2::x3::x4::x5::x6::x7::x8::x9::x10::y::l:=rfl
@[simp] theorem qFf{α:Type}(x0 x1 x2 x3 x4 x5 x6 x7 x8 x9 x10 x11 x12:α)(l:List α):(x0::x1::x2::x3::x4::x5::x6::x7::x8::x9::x10::x11::x12::l)[12]?=some x12:=rfl
@[simp] theorem qFT{α:Type}(x0 x1 x2 x3 x4 x5 x6 x7 x8 x9 x10 x11 x12 y:α)(l:List α):(x0::x1::x2::x3::x4::x5::x6::x7::x8::x9::x10::x11::x12::l).set 12 y=x0::x1::x2::x3::x4::x5::x6::x7::x8::x9::x10::x11::y::l:=rfl
@[simp] theorem qFZ{α:Type}(x0 x1 x2 x3 x4 x5 x6 x7 x8 x9 x10 x11 x12 x13:α)(l:List α):(x0::x1::x2::x3::x4::x5::x6::x7::x8::x9::x10::x11::x12::x13::l)[13]?=some x13:=rfl
@[simp] theorem qFh{α:Type}(x0 x1 x2 x3 x4 x5 x6 x7 x8 x9 x10 x11 x12 x13 y:α)(l:List α):(x0::x1::x2::x3::x4::x5::x6::x7::x8::x9::x10::x11::x12::x13::l).set 13 y=x0::x1::x2::x3::x4::x5::x6::x7::x8::x9::x10::x11::x12::y::l:=rfl
@[simp] theorem qFm{α:Type}(x0 x1 x2 x3 x4 x5 x6 x7 x8 x9 x10 x11 x12 x13 x14:α)(l:List α):(x0::x1::x2::x3::x4::x5::x6::x7::x8::x9::x10::x11::x12::x13::x14::l)[14]?=some x14:=rfl
@[simp] theorem qFn{α:Type}(x0 x1 x2 x3 x4 x5 x6 x7 x8 x9 x10 x11 x12 x13 x14 y:α)(l:List α):(x0::x1::x2::x3::x4::x5::x6::x7::x8::x9::x10::x11::x12::x13::x14::l).set 14 y=x0::x1::x2::x3::x4::x5::x6::x7::x8::x9::x10::x11::x12::x13::y::l:=rfl
@[simp] theorem qFd{α:Type}(x0 x1 x2 x3 x4 x5 x6 x7 x8 x9 x10 x11 x12 x13 x14 x15:α)(l:List α):(x0::x1::x2::x3::x4::x5::x6::x7::x8::x9::x10::x11::x12::x13::x14::x15::l)[15]?=some x15:=rfl
@[simp] theorem qFk{α:Type}(x0 x1 x2 x3 x4 x5 x6 x7 x8 x9 x10 x11 x12 x13 x14 x15 y:α)(l:List α):(x0::x1::x2::x3::x4::x5::x6::x7::x8::x9::x10::x11::x12::x13::x14::x15::l).set 15 y=x0::x1::x2::x3::x4::x5::x6::x7::x8::x9::x10::x11::x12::x13::x14::y::l:=rfl
theorem qL{gl:List T}{tb:List Fn}{Cs:List (List Nat)}{k f:Nat}{vs:List T}{M:Mem}{np ns:Nat}{b:Ss}(ht:tb[f]?=some ⟨np,ns,b⟩)(hl:vs.length=np/\np<=ns)(hk:1<=k):
  Pk gl tb Cs k f vs M=QI M.length (pxs gl (Pk gl tb Cs (k-1)) (Cs.getD f []) b (vs.map some++List.replicate (ns-np) none) M):=by
 obtain⟨k,rfl⟩:∃j,k=j+1:=⟨k-1,by omega⟩
 rw[Pk,ht];dsimp only;rw[if_pos hl];rfl
theorem qC{M M1:Mem}{t:TB}(h:M1.length=M.length):QI M.length (.ok (.rt t,M1))=.ok (t,M1):=by
 show finish M.length t M1=_;unfold finish;rw[if_pos h]
theorem D7{M M1:Mem}{σ:TS}(h:M1.length=M.length):QI M.length (.ok (.nx σ,M1))=.ok ((.v .non,true),M1):=by
 show finish M.length _ M1=_;unfold finish;rw[if_pos h]
noncomputable def N(n:Nat):T:=.v (.int (n:Int))
noncomputable def NL(L:List Nat):T:=.lst (L.map N)
theorem P4(n:Nat):qh 0 n=(List.range n).map N:=by
 unfold qh N;simp
theorem ZY(L:List Nat):T.lfs (L.map N)=true:=by
 induction L with
 |nil=>rfl
 |cons x L ih=>rw[List.map_cons,zX,ih];rfl
theorem qFK(n:Nat):(N n).lf=true:=by unfold N;rfl
theorem C1{M:Mem}{d:Nat}:∀(L K:List Nat),L.length=K.length->qz (eqT M d) (L.map N) (K.map N)=some (List.zipWith (λ(a b:Nat)=>decide (a=b)) L K)
 | [],[],_=>rfl
 | [],_::_,h=>by simp at h
 |_::_,[],h=>by simp at h
 |a::L,b::K,h=>by
  have e:eqT M d (N a) (N b)=some (decide (a=b)):=by
   have:eqF (.int (a:Int)) (.int (b:Int))=some (decide (a=b)):=by
    show some ((a:Int)==(b:Int))=_;congr 1;rw[wy,beq_iff_eq,vO];omega
   cases d<;>(unfold eqT;exact this)
  rw[List.map_cons,List.map_cons,qz,e,C1 L K (by simpa using h)];rfl
theorem T9:∀(L K:List Nat),L.length=K.length->((List.zipWith (λ(a b:Nat)=>decide (a=b)) L K).all id=decide (L=K))
 | [],[],_=>rfl
 | [],_::_,h=>by simp at h
 |_::_,[],h=>by simp at h
 |a::L,b::K,h=>by
  rw[List.zipWith_cons_cons,List.all_cons,T9 L K (by simpa using h)];by_cases h1:a=b<;>by_cases h2:L=K<;>simp[h1,h2]
theorem g7{M:Mem}{d:Nat}(L K:List Nat):eqT M (d+1) (NL L) (NL K)=some (decide (L=K)):=by
 unfold eqT;show (if (L.map N).length=(K.map N).length then (qz (eqT M d) (L.map N) (K.map N)).map (λbs=>bs.all id) else some false)=_;rw[wH,wH];by_cases h:L.length=K.length
 ·rw[if_pos h,C1 L K h,Option.map_some,T9 L K h]
 ·rw[if_neg h];congr 1;symm;exact vM (λe=>h (by rw[e]))
theorem qCn{M:Mem}(L K:List Nat):zP M .eq (NL L) (NL K)=some (decide (L=K)):=g7 L K
theorem qCc{M:Mem}{L K:List Nat}(h:L.length+K.length<=lim):qp M .add (NL L) (NL K)=some (NL (L++K),true):=by
 unfold NL;rw[QX (by simpa using h)];show some (T.lst (L.map N++K.map N),T.lfs (L.map N++K.map N))=_;rw[<-wS,ZY]
@[simp] theorem qBo{d:jE}{g:Tg}{b:TS->Mem->RSt}{σ:TS}{M:Mem}:qm d g b [] σ M=.ok (.nx σ,M):=rfl
@[simp] theorem zJ{i:Nat}{b:TS->Mem->RSt}{x:T}{r:List T}{σ:TS}{M:Mem}:qm [] (.name i) b (x::r) σ M=(b (σ.set i (some x)) M).bind λp=>match p.1 with
   | .nx σ2=>qm [] (.name i) b r σ2 p.2
   | .ct σ2=>qm [] (.name i) b r σ2 p.2
   | .bk σ2=>.ok (.nx σ2,p.2)
   | .rt t=>.ok (.rt t,p.2):=rfl
theorem Zx{c:TS->Mem->PR (Bool×Mem)}{e:TS->Mem->PR (TB×Mem)}{M:Mem}{σ:TS}(p:Nat->Bool)(f:Nat->T)(fr:Nat->Bool):∀(its:List Nat) (ys:List T) (b:Bool) (o:Option T),ys.length+its.length<=lim ->
  (∀x∈its,c (some (N x)::σ) M=.ok (p x,M))->(∀x∈its,p x=true->e (some (N x)::σ) M=.ok ((f x,fr x),M)) ->
  qP [] (.name 0) c e (its.map N) ys b (o::σ) M=.ok ((.lst (ys++(its.filter p).map f),b&&(its.filter p).all fr),M)
 | [],ys,b,o,hl,hc,he=>by simp[qP]
 |x::r,ys,b,o,hl,hc,he=>by
  rw[List.map_cons];unfold qP;rw[show qo (.name 0) (N x) (o::σ)=some (some (N x)::σ) from rfl];dsimp only;rw[hc x (List.mem_cons_self ..)];rw[PR.bind_ok];dsimp only;cases hp:p x with
  |true=>
   rw[if_pos rfl,he x (List.mem_cons_self ..) hp,PR.bind_ok];dsimp only;rw[if_pos ⟨by simp at hl;omega,rfl⟩];rw[Zx p f fr r (ys++[f x]) (b&&fr x) (some (N x)) (by simp at hl ⊢;omega) (λy hy=>hc y (List.mem_cons_of_mem _ hy)) (λy hy=>he y (List.mem_cons_of_mem _ hy))];rw[List.filter_cons_of_pos hp];simp[Bool.and_assoc]
  |false=>
   rw[if_neg (by decide),if_pos (show qR [] M=true from rfl)];rw[Zx p f fr r ys b (some (N x)) (by simp at hl ⊢;omega) (λy hy=>hc y (List.mem_cons_of_mem _ hy)) (λy hy=>he y (List.mem_cons_of_mem _ hy))];rw[List.filter_cons_of_neg (by rw[hp];decide)]
theorem Jx{c:TS->Mem->PR (Bool×Mem)}{e:TS->Mem->PR (TB×Mem)}{M:Mem}{σ:TS}{o:Option T}{its:List Nat}(p:Nat->Bool)(g:Nat->Nat)(hl:its.length<=lim)
  (hc:∀x∈its,c (some (N x)::σ) M=.ok (p x,M)) (he:∀x∈its,p x=true->e (some (N x)::σ) M=.ok ((N (g x),true),M)):
  qP [] (.name 0) c e (its.map N) [] true (o::σ) M=.ok ((NL ((its.filter p).map g),true),M):=by
 rw[Zx p (λx=>N (g x)) (λ_=>true) its [] true o (by simpa using hl) hc he];unfold NL;simp
@[simp] theorem m4{M:Mem}(a b:Nat):qp M .add (N a) (N b)=some (N (a+b),true):=by unfold N;simp[iT]
theorem O6(L:List Nat):T.lf (NL L)=false:=by unfold NL;simp
noncomputable def nE(n:Nat):E:=.cst (.int (n:Int))
@[simp] theorem W2{gl:List T}{P:Nat->List T->Mem->PR (TB×Mem)}{σ:TS}{M:Mem}(n:Nat):pe gl P (nE n) σ M=.ok ((N n,true),M):=by unfold nE;rw[pe_int];rfl
section
variable{M:Mem}(a b:Nat) (xs:List T)
@[simp] theorem lfN:(N a).lf=true:=qFK a
@[simp] theorem qEw:(N a).isV=some (.int (a:Int)):=rfl
@[simp] theorem qFW:zz M (N a)=some "int":=rfl
@[simp] theorem qEg(L:List Nat):zz M (NL L)=some "list":=rfl
theorem Q7{a b:Nat}(h:a<18446744073709551616\/b<18446744073709551616):qp M .mul (N a) (N b)=some (N (a*b),true):=by
 unfold N;rw[qCE (by omega)];unfold iT;simp
theorem QZ{a b:Nat}(h:0<b/\b<1073741824):qp M .fdiv (N a) (N b)=some (N (a / b),true):=by
 unfold N;rw[qAP (by omega)];unfold iT;simp
theorem jb{a b:Nat}(h:0<b):qp M .mod (N a) (N b)=some (N (a % b),true):=by
 unfold N;rw[j6 (by omega)];unfold iT;simp
theorem qBQ{a b:Nat}(h:b<=1000/\a<1000000):qp M .pow (N a) (N b)=some (N (a ^ b),true):=by
 unfold N;rw[k0 (by omega)];unfold iT;simp
theorem ZF{a b:Nat}(h:b<=1000/\a<1000000):qp M .shl (N a) (N b)=some (N (a*2 ^ b),true):=by
 unfold N;rw[qBC (by omega)];unfold iT;simp
theorem qAq{a b:Nat}(h:b<=1000):qp M .shr (N a) (N b)=some (N (a / 2 ^ b),true):=by
 unfold N;rw[qBs (by omega)];unfold iT;simp
@[simp] theorem qEt:zP M .lt (N a) (N b)=some (decide (a<b)):=by unfold N;rw[qCu];simp
@[simp] theorem qEp:zP M .le (N a) (N b)=some (decide (a<=b)):=by unfold N;rw[qDC];simp
@[simp] theorem qCv:zP M .gt (N a) (N b)=some (decide (b<a)):=by unfold N;rw[qCq];simp
@[simp] theorem qDB:zP M .ge (N a) (N b)=some (decide (b<=a)):=by unfold N;rw[qC8];simp
@[simp] theorem q9:zP M .eq (N a) (N b)=some (decide (a=b)):=by unfold N;rw[qC1];congr 1;rw[wy,vO,vO];omega
@[simp] theorem qC4:zP M .ne (N a) (N b)=some (!decide (a=b)):=by
 show ((eqT M 4 (N a) (N b)).map (!·))=_;rw[show eqT M 4 (N a) (N b)=some (decide (a=b)) from q9 (M:=M) a b];rfl
@[simp] theorem G4:jv M (.lst xs) (N a)=(xs[a]?).map λt=>(t,t.lf):=by
 show ((L2.ixN xs.length (a:Int)).bind λj=>(xs[j]?).map λt=>(t,t.lf))=_;unfold L2.ixN;rw[if_pos (by omega)];split
 ·simp
 ·rw[wp (by omega)];rfl
@[simp] theorem JX:jv M (.tup xs) (N a)=(xs[a]?).map λt=>(t,t.lf):=by
 show ((L2.ixN xs.length (a:Int)).bind λj=>(xs[j]?).map λt=>(t,t.lf))=_;unfold L2.ixN;rw[if_pos (by omega)];split
 ·simp
 ·rw[wp (by omega)];rfl
theorem U2{n:Nat}{xs:List T}(h:M[n]?=some xs):jv M (.cell n) (N a)=(xs[a]?).map λt=>(t,t.lf):=by
 show ((M[n]?).bind λxs=>(L2.ixN xs.length (a:Int)).bind λj=>(xs[j]?).map λt=>(t,t.lf))=_;rw[h];exact G4 (M:=M) a xs
@[simp] theorem E9:zW M .len [.lst xs]=some (N xs.length,true):=rfl
@[simp] theorem qEG:zW M .len [.tup xs]=some (N xs.length,true):=rfl
@[simp] theorem qEJ:zW M .len [.fz xs]=some (N xs.length,true):=rfl
@[simp] theorem qDn:zW M .max [N a,N b]=some (N (max a b),true):=by
 unfold N;rw[qA4];unfold iT;congr 4;split<;>omega
@[simp] theorem qEQ:zW M .min [N a,N b]=some (N (min a b),true):=by
 unfold N;rw[qB2];unfold iT;congr 4;split<;>omega
@[simp] theorem qEo:zW M .int [N a]=some (N a,true):=rfl
@[simp] theorem qET:zW M .bits [N a]=some (N (PySem.Builtin.Int.intBits (a:Int)),true):=rfl
theorem V4:qp M .band (N a) (N b)=some (N (a&&& b),true):=by
 unfold N;rw[qAb];unfold iT;rfl
end
theorem zq{n:Nat}(hn:n<=1000000):qCo (N n)=some ((List.range n).map N):=by
 show (if -1000000<=(n:Int)/\(n:Int)<=1000000 then some (qh 0 (n:Int).toNat) else none)=_;rw[if_pos (by omega),we,P4]
theorem U1{n:Nat}(hn:n<=100000):qAY (N n)=some ((List.range n).map N):=by
 show (if -1000000<=(n:Int)/\(n:Int)<=100000 then some (qh 0 (n:Int).toNat) else none)=_;rw[if_pos (by omega),we,P4]
theorem r6{a b:Nat}(hn:a<=b/\b<=1000000):qAU (N a) (N b)=some ((List.range' a (b-a)).map N):=by
 show (if _ then some (qh (a:Int) ((b:Int)-(a:Int)).toNat) else none)=_;rw[if_pos (by omega),show ((b:Int)-(a:Int)).toNat=b-a by omega];unfold qh;rw[List.range'_eq_map_range,wg];congr 1
theorem C2{M:Mem}{n j:Nat}{xs:List T}{x:T}(h:M[n]?=some xs)(hj:j<xs.length):i7 M (.cell n) (N j) x=some (M.set n (xs.set j x)):=by
 show ((M[n]?).bind λxs=>(L2.ixN xs.length (j:Int)).map λj=>M.set n (xs.set j x))=_;rw[h];show (L2.ixN xs.length (j:Int)).map _=_;unfold L2.ixN;rw[if_pos (by omega),if_pos (by omega)];simp
theorem r9{M:Mem}{n:Nat}{xs:List T}{x:T}(h:M[n]?=some xs)(hl:xs.length<lim):qA8 M n x=some (M.set n (xs++[x])):=by
 unfold qA8;rw[h];show (if xs.length<lim then _ else _)=_;rw[if_pos hl]
@[simp] theorem qBE(n a:Nat):thaw n (N a)=(N a,[]):=by unfold N;simp[thaw]
@[simp] theorem qED{M:Mem}(L:List Nat):J2 M (NL L)=some (L.map N,[]):=rfl
@[simp] theorem qD1{M:Mem}(x f:Bool):pB (PR.ok ((T.v (V.bl x),f),M))=.ok (x,M):=Eq.trans rfl rfl
theorem zV{α:Type}:∀l:List α,l.filter (λ_=>true)=l
 | []=>rfl
 |x::l=>by rw[List.filter_cons_of_pos rfl,zV l]
theorem B1{gl:List T}{P:Nat->List T->Mem->PR (TB×Mem)}{e:TS->Mem->PR (TB×Mem)}{M:Mem}{σ:TS}{o:Option T}{its:List Nat}(g:Nat->Nat)(hl:its.length<=lim)
  (he:∀x∈its,e (some (N x)::σ) M=.ok ((N (g x),true),M)):qP [] (.name 0) (pec gl P .nil) e (its.map N) [] true (o::σ) M=.ok ((NL (its.map g),true),M):=
 (Jx (λ_=>true) g hl (λx _=>by simp) (λx hx _=>he x hx)).trans (by rw[zV])
@[simp] theorem Y2{M:Mem}{n j:Nat}{x:T}:i7 M (.cell n) (N j) x=(M[n]?).bind λxs=>if j<xs.length then some (M.set n (xs.set j x)) else none:=by
 show ((M[n]?).bind λxs=>(L2.ixN xs.length (j:Int)).map λj=>M.set n (xs.set j x))=_;congr 1
 funext xs
 unfold L2.ixN;rw[if_pos (by omega)];by_cases h:j<xs.length
 ·rw[if_pos (by omega),if_pos h];simp
 ·rw[if_neg (by omega),if_neg h];rfl
@[simp] theorem QG{M:Mem}{n a:Nat}:jv M (.cell n) (N a)=(M[n]?).bind λxs=>(xs[a]?).map λt=>(t,t.lf):=by
 show ((M[n]?).bind λxs=>(L2.ixN xs.length (a:Int)).bind λj=>(xs[j]?).map λt=>(t,t.lf))=_;congr 1
 funext xs
 exact G4 (M:=M) a xs
@[simp] theorem qEV(a:Nat):qBB (N a)=some (iT (-(a:Int))):=rfl
@[simp] theorem qEB(a:Int):qBB (.v (.int a))=some (iT (-a)):=rfl
@[simp] theorem qE4(a:Nat):za [N a]=some [(a:Int)]:=rfl
@[simp] theorem qFI:za []=some []:=rfl
@[simp] theorem qFG{M:Mem}(xs:List T):T.its M (.lst xs)=some xs:=rfl
@[simp] theorem qFO{M:Mem}(xs:List T):T.its M (.fz xs)=some xs:=rfl
@[simp] theorem qEx{M:Mem}(xs:List T):T.its M (.tup xs)=some xs:=rfl
@[simp] theorem qEj{M:Mem}(L:List Nat):T.its M (NL L)=some (L.map N):=rfl
@[simp] theorem qEI(ys xs:List T)(lo hi:Option Int):m5 (.lst ys) xs lo hi=some (lT (jk xs lo hi)):=rfl
@[simp] theorem qD6(ys xs:List T)(lo hi:Option Int):m5 (.fz ys) xs lo hi=some (lT (jk xs lo hi)):=rfl
@[simp] theorem qDo(L:List Nat)(xs:List T)(lo hi:Option Int):m5 (NL L) xs lo hi=some (lT (jk xs lo hi)):=rfl
@[simp] theorem qDp(n:Nat)(xs:List T)(lo hi:Option Int):m5 (.cell n) xs lo hi=some (lT (jk xs lo hi)):=rfl
@[simp] theorem qFN{M:Mem}(xs:List T):T.lis M (.lst xs)=some xs:=rfl
@[simp] theorem qE9{M:Mem}(xs:List T):T.lis M (.fz xs)=some xs:=rfl
@[simp] theorem qFD{M:Mem}(L:List Nat):T.lis M (NL L)=some (L.map N):=rfl
@[simp] theorem qCP(i j:Nat)(a b:T)(σ:TS):qo (.tup [i,j]) (.tup [a,b]) σ=some ((σ.set i (some a)).set j (some b)):=rfl
@[simp] theorem qZ(σ:TS):jz [] σ=[]:=rfl
@[simp] theorem qV(r:List (Option Nat))(σ:TS):jz (none::r) σ=none::jz r σ:=rfl
@[simp] theorem qb(j:Nat)(r:List (Option Nat))(σ:TS):jz (some j::r) σ=(σ[j]?).join::jz r σ:=rfl
theorem P7(x:V)(f:Bool)(M1:Mem):∃b M2,QI ([]:Mem).length (.ok (.rt (.v x,f),M1))=.ok ((.v x,b),M2):=by
 show ∃b M2,finish 0 (.v x,f) M1=_;unfold finish;by_cases h:M1.length=0
 ·rw[if_pos h];exact⟨f,M1,rfl⟩
 ·rw[if_neg h,if_pos (by simp)];rw[show qG M1 0 6 (T.v x)=some (.v x) by unfold qG;rw[if_pos (by unfold T.und;rfl)]];exact⟨_,_,rfl⟩
mutual
theorem Y1:∀t:T,T.beq t t=true
 | .v x=>by unfold T.beq;simp
 | .cell x=>by unfold T.beq;simp
 | .ob x=>by unfold T.beq;simp
 | .fz xs=>by unfold T.beq;exact zk xs
 | .lst xs=>by unfold T.beq;exact zk xs
 | .tup xs=>by unfold T.beq;exact zk xs
theorem zk:∀ts:List T,T.beqs ts ts=true
 | []=>rfl
 |t::ts=>by unfold T.beqs;rw[Y1 t,zk ts];rfl
end
mutual
theorem d6{a b:Nat}(h:a<=b):∀t:T,t.und a=true->t.und b=true
 | .v x,_=>rfl
 | .cell k,e=>by unfold T.und at e ⊢;simp at e ⊢;omega
 | .ob x,_=>rfl
 | .fz xs,e=>by unfold T.und at e ⊢;exact zD h xs e
 | .lst xs,e=>by unfold T.und at e ⊢;exact zD h xs e
 | .tup xs,e=>by unfold T.und at e ⊢;exact zD h xs e
theorem zD{a b:Nat}(h:a<=b):∀ts:List T,T.unds a ts=true->T.unds b ts=true
 | [],_=>rfl
 |t::ts,e=>by unfold T.unds at e ⊢;rw[Bool.and_eq_true]at e;rw[d6 h t e.1,zD h ts e.2];rfl
end
def FlatM(M:Mem):Prop:=∀c∈M,T.unds 0 c=true
theorem FlatM.all{M:Mem}(h:FlatM M)(n:Nat):M.all (T.unds n)=true:=by
 rw[wK];exact λc hc=>zD (Nat.zero_le _) c (h c hc)
theorem FlatM.app{A B:Mem}(h:FlatM A)(k:FlatM B):FlatM (A++B):=λc hc=>by
 rcases wE.mp hc with z|z
 ·exact h c z
 ·exact k c z
theorem qDh(n a:Nat):(N a).und n=true:=by unfold N T.und;rfl
theorem k7(n:Nat):∀L:List Nat,T.unds n (L.map N)=true
 | []=>rfl
 |x::L=>by rw[List.map_cons];unfold T.unds;rw[qDh,k7 n L];rfl
theorem Zo{d:jE}{c:TS->Mem->PR (Bool×Mem)}{e:TS->Mem->PR (TB×Mem)}{M:Mem}{σ:TS}(p:Nat->Bool)(f:Nat->T)(fr:Nat->Bool):∀(its:List Nat) (ys:List T) (b:Bool) (o:Option T),qR d M=true->ys.length+its.length<=lim ->
  (∀x∈its,c (some (N x)::σ) M=.ok (p x,M))->(∀x∈its,p x=true->e (some (N x)::σ) M=.ok ((f x,fr x),M)) ->
  qP d (.name 0) c e (its.map N) ys b (o::σ) M=.ok ((.lst (ys++(its.filter p).map f),b&&(its.filter p).all fr),M)
 | [],ys,b,o,hd,hl,hc,he=>by simp[qP]
 |x::r,ys,b,o,hd,hl,hc,he=>by
  rw[List.map_cons];unfold qP;rw[show qo (.name 0) (N x) (o::σ)=some (some (N x)::σ) from rfl];dsimp only;rw[hc x (List.mem_cons_self ..)];rw[PR.bind_ok];dsimp only;cases hp:p x with
  |true=>
   rw[if_pos rfl,he x (List.mem_cons_self ..) hp,PR.bind_ok];dsimp only;rw[if_pos ⟨by simp at hl;omega,hd⟩];rw[Zo p f fr r (ys++[f x]) (b&&fr x) (some (N x)) hd (by simp at hl ⊢;omega) (λy hy=>hc y (List.mem_cons_of_mem _ hy)) (λy hy=>he y (List.mem_cons_of_mem _ hy))];rw[List.filter_cons_of_pos hp];simp[Bool.and_assoc]
  |false=>
   rw[if_neg (by decide),if_pos hd];rw[Zo p f fr r ys b (some (N x)) hd (by simp at hl ⊢;omega) (λy hy=>hc y (List.mem_cons_of_mem _ hy)) (λy hy=>he y (List.mem_cons_of_mem _ hy))];rw[List.filter_cons_of_neg (by rw[hp];decide)]
theorem M0(n:Nat):∀L:List Nat,zN n (L.map N)=(L.map N,[])
 | []=>by simp[zN]
 |x::L=>by
  rw[List.map_cons,zN,qBE];dsimp only;rw[List.length_nil,Nat.add_zero,M0 n L];rfl
@[simp] theorem T8(n:Nat)(L:List Nat):thaw n (NL L)=(.cell n,[L.map N]):=by
 unfold NL;rw[thaw,M0];rfl
theorem qAS{M:Mem}{d:Nat}{a b c e:T}{x y:Bool}(h1:eqT M d a c=some x)(h2:eqT M d b e=some y):eqT M (d+1) (.tup [a,b]) (.tup [c,e])=some (x&&y):=by
 unfold eqT;show (if ([a,b]:List T).length=[c,e].length then (qz (eqT M d) [a,b] [c,e]).map (λ(bs:List Bool)=>bs.all id) else _)=_;rw[if_pos (by simp)];unfold qz;rw[h1];unfold qz;rw[h2];simp[qz]
theorem JP{M:Mem}{n:Nat}{ts:List T}(h:M[n]?=some ts):qR [(n,ts)] M=true:=by
 unfold qR;simp[h,zk]
theorem QW{M:Mem}{n:Nat}{ts:List T}(h:M[n]?=some ts):J2 M (.cell n)=some (ts,[(n,ts)]):=by
 unfold J2;dsimp only;rw[h];rfl
theorem qD4{M:Mem}{n:Nat}{ts:List T}(h:M[n]?=some ts):zz M (.cell n)=some "list":=by
 unfold zz;dsimp only;rw[h];rfl
structure IsL(M:Mem)(t:T)(L:List Nat):Prop where
 its:t.its M=some (L.map N)
 lis:t.lis M=some (L.map N)
 ty:zz M t=some "list"
 src:∃d,J2 M t=some (L.map N,d)/\V9 M t=some (L.map N,d)/\qR d M=true
 nv:t.isV=none
theorem IsL.nl(M:Mem)(L:List Nat):IsL M (NL L) L:=⟨rfl,rfl,rfl,⟨[],rfl,rfl,rfl⟩,rfl⟩
theorem IsL.cell{M:Mem}{n:Nat}{L:List Nat}(h:M[n]?=some (L.map N)):IsL M (.cell n) L:=⟨h,h,qD4 h,⟨_,QW h,QW h,JP h⟩,rfl⟩
section
variable{M:Mem}{t u:T}{L K:List Nat}
theorem IsL.len(h:IsL M t L):zW M .len [t]=some (N L.length,true):=by
 show (t.its M).map _=_;rw[h.its,Option.map_some,wH];rfl
theorem IsL.list(h:IsL M t L):zW M .list [t]=some (NL L,true):=by
 show (t.its M).map lT=_;rw[h.its,Option.map_some];show some (T.lst (L.map N),T.lfs (L.map N))=_;rw[ZY];rfl
theorem n6:∀L:List Nat,jI (L.map N)=some (L.map λ(n:Nat)=>(n:Int))
 | []=>rfl
 |x::L=>by
  show (jI (L.map N)).map _=_;rw[n6 L];rfl
theorem E4:∀L:List Nat,(L.map λ(n:Nat)=>(n:Int)).sum=((L.sum:Nat):Int)
 | []=>rfl
 |x::L=>by rw[List.map_cons,List.sum_cons,E4 L,List.sum_cons];simp
theorem IsL.sum(h:IsL M t L):zW M .sum [t]=some (N L.sum,true):=by
 show (t.lis M).bind _=_;rw[h.lis,Option.bind_some,n6,Option.map_some,E4];rfl
theorem IsL.idx(h:IsL M t L){i:Nat}{x:Nat}(e:L[i]?=some x):jv M t (N i)=some (N x,true):=by
 show ((t.its M).bind λxs=>(L2.ixN xs.length (i:Int)).bind λj=>(xs[j]?).map λt=>(t,t.lf))=_;rw[h.its,Option.bind_some];have:=G4 (M:=M) i (L.map N);rw[show jv M (.lst (L.map N)) (N i)=((L2.ixN (L.map N).length (i:Int)).bind λj=>((L.map N)[j]?).map λt=>(t,t.lf)) from rfl]at this;rw[this,wQ,e];simp
theorem IsL.eq(h:IsL M t L)(k:IsL M u K):eqT M 4 t u=some (decide (L=K)):=by
 have:=g7 (M:=M) (d:=3) L K;unfold eqT at this ⊢;rw[h.nv,k.nv,h.lis,k.lis];exact this
theorem IsL.cne(h:IsL M t L)(k:IsL M u K):zP M .ne t u=some (!decide (L=K)):=by
 show (eqT M 4 t u).map (!·)=_;rw[h.eq k];rfl
end
theorem jZ{xs:List T}{m:Nat}(h:m<=xs.length):jk xs none (some (m:Int))=xs.take m:=by
 unfold jk;rw[HT.sIx_none,HT.sIx_nat,Nat.min_eq_left h,List.drop_zero,Nat.sub_zero]
theorem jd{xs:List T}{m:Nat}(h:m<=xs.length):jk xs (some (m:Int)) none=xs.drop m:=by
 unfold jk;rw[HT.sIx_none,HT.sIx_nat,Nat.min_eq_left h];exact vA (by simp)
theorem G0{gl:List T}{P:Nat->List T->Mem->PR (TB×Mem)}{d:jE}{e:TS->Mem->PR (TB×Mem)}{M:Mem}(f:Nat->Nat->Nat)(hd:qR d M=true):∀(A B ys:List Nat) (b:Bool) (o1 o2:Option T),ys.length+A.length<=lim ->
  (∀x y,x∈A->y∈B->e [some (N x),some (N y)] M=.ok ((N (f x y),true),M)) ->
  qP d (.tup [0,1]) (pec gl P .nil) e (List.zipWith (λa b=>T.tup [a,b]) (A.map N) (B.map N)) (ys.map N) b [o1,o2] M=.ok ((NL (ys++List.zipWith f A B),b),M)
 | [],B,ys,b,o1,o2,hl,he=>by simp[qP,NL]
 |x::A,[],ys,b,o1,o2,hl,he=>by simp[qP,NL]
 |x::A,y::B,ys,b,o1,o2,hl,he=>by
  rw[List.map_cons,List.map_cons,List.zipWith_cons_cons];unfold qP;rw[show qo (.tup [0,1]) (.tup [N x,N y]) [o1,o2]=some [some (N x),some (N y)] from rfl];dsimp only;rw[zR,PR.bind_ok];dsimp only;rw[if_pos rfl,he x y (List.mem_cons_self ..) (List.mem_cons_self ..),PR.bind_ok];dsimp only;rw[if_pos ⟨by simp at hl ⊢;omega,hd⟩];rw[show ys.map N++[N (f x y)]=(ys++[f x y]).map N by simp,Bool.and_true];rw[G0 f hd A B (ys++[f x y]) b _ _ (by simp at hl ⊢;omega) (λu v hu hv=>he u v (List.mem_cons_of_mem _ hu) (List.mem_cons_of_mem _ hv))];simp
theorem Jq{α:Type}(p:α->Bool):∀L:List α,zG (L.map λx=>T.v (.bl (p x)))=some (L.map p)
 | []=>rfl
 |x::L=>by
  show (zG (L.map λx=>T.v (.bl (p x)))).map _=_;rw[Jq p L];rfl
theorem qAu{M:Mem}{α:Type}(p:α->Bool)(L:List α):zW M .all [.lst (L.map λx=>T.v (.bl (p x)))]=some (bT (L.all p)):=by
 show (zG _).map _=_;rw[Jq,Option.map_some,List.all_map];rfl
theorem qDG{M:Mem}{α:Type}(p:α->Bool)(L:List α):zW M .any [.lst (L.map λx=>T.v (.bl (p x)))]=some (bT (L.any p)):=by
 show (zG _).map _=_;rw[Jq,Option.map_some,List.any_map];rfl
theorem qDf(K:List Nat):lT (K.map N)=(NL K,true):=by unfold lT;rw[ZY];rfl
theorem getD_some{L:List Nat}{i:Nat}(h:i<L.length):L[i]?=some (L.getD i 0):=by
 rw[wI,wA h];rfl
def IsS(M:Mem)(t:T)(ts:List T):Prop:=t=.lst ts\/∃m,t=.cell m/\M[m]?=some ts
section
variable{M C:Mem}{t:T}{ts:List T}
theorem IsS.app(h:IsS M t ts):IsS (M++C) t ts:=by
 rcases h with h|⟨m,h,e⟩
 ·exact .inl h
 ·exact .inr ⟨m,h,by rw[List.getElem?_append_left (List.getElem?_eq_some_iff.mp e).1];exact e⟩
theorem IsS.its(h:IsS M t ts):t.its M=some ts:=by rcases h with rfl|⟨m,rfl,e⟩;rfl;exact e
theorem IsS.lis(h:IsS M t ts):t.lis M=some ts:=by rcases h with rfl|⟨m,rfl,e⟩;rfl;exact e
theorem IsS.ty(h:IsS M t ts):zz M t=some "list":=by rcases h with rfl|⟨m,rfl,e⟩;rfl;exact qD4 e
theorem IsS.nv(h:IsS M t ts):t.isV=none:=by rcases h with rfl|⟨m,rfl,e⟩<;>rfl
theorem IsS.lf(h:IsS M t ts):t.lf=false:=by rcases h with rfl|⟨m,rfl,e⟩<;>simp
theorem IsS.src(h:IsS M t ts):∃d,J2 M t=some (ts,d)/\V9 M t=some (ts,d)/\∀C,qR d (M++C)=true:=by
 rcases h with rfl|⟨m,rfl,e⟩
 ·exact⟨[],rfl,rfl,λ_=>rfl⟩
 ·exact⟨_,QW e,QW e,λC=>JP (by rw[List.getElem?_append_left (List.getElem?_eq_some_iff.mp e).1];exact e)⟩
theorem IsS.len(h:IsS M t ts):zW M .len [t]=some (N ts.length,true):=by
 show (t.its M).map _=_;rw[h.its,Option.map_some];rfl
theorem IsS.idx(h:IsS M t ts)(i:Nat):jv M t (N i)=(ts[i]?).map λt=>(t,t.lf):=by
 have a:jv M t (N i)=jv M (.lst ts) (N i):=by
  show (t.its M).bind _=_;rw[h.its];rfl
 rw[a,G4]
theorem IsS.list(h:IsS M t ts):zW M .list [t]=some (lT ts):=by
 show (t.its M).map lT=_;rw[h.its];rfl
theorem IsS.eqT{u:T}{us:List T}{d:Nat}{bs:List Bool}(h:IsS M t ts)(k:IsS M u us)(hl:ts.length=us.length)(e:qz (eqT M d) ts us=some bs):PI.eqT M (d+1) t u=some (bs.all id):=by
 unfold PI.eqT;rw[h.nv,k.nv,h.lis,k.lis];dsimp only;rw[if_pos hl,e];rfl
end
def WfM(M:Mem):Prop:=M.all (T.unds M.length)=true
theorem WfM.app{M C:Mem}(h:WfM M)(hC:∀c∈C,T.unds (M++C).length c=true):WfM (M++C):=by
 unfold WfM at *;rw[wK]at h ⊢;intro c hc;rcases wE.mp hc with z|z
 ·exact zD (by simp) c (h c z)
 ·exact hC c z
theorem WfM.one{M:Mem}(h:WfM M){ts:List T}(l:T.lfs ts=true):WfM (M++[ts]):=h.app λc hc=>by rw[wJ.mp hc];exact jo _ _ l
theorem jK{M:Mem}{n0 d:Nat}:∀ts:List T,T.lfs ts=true->ts.mapM (qG M n0 d)=some ts
 | [],_=>rfl
 |t::ts,h=>by
  rw[zX,Bool.and_eq_true]at h;have e:qG M n0 d t=some t:=by cases d<;>(unfold qG;rw[if_pos (Je n0 t h.1)])
  rw[vJ,e,jK ts h.2];rfl
theorem E8{M:Mem}{n0 d:Nat}:∀ts:List T,T.lfs ts=true->ts.mapM (zy M n0 d)=some (ts.map λ_=>[])
 | [],_=>rfl
 |t::ts,h=>by
  rw[zX,Bool.and_eq_true]at h;have e:zy M n0 d t=some []:=by cases d<;>(unfold zy;rw[if_pos h.1])
  rw[vJ,e,E8 ts h.2];rfl
theorem J5(L:List T):(L.map λ_=>([]:List Nat)).flatten=[]:=by
 induction L with
 |nil=>rfl
 |cons x L ih=>rw[List.map_cons,List.flatten_cons,ih];rfl
theorem zU{M A C:Mem}{c:Nat}{ts:List T}(hA:A.length=M.length)(hW:WfM A)(hc:(A++C)[c]?=some ts)(hn:A.length<=c)(hl:T.lfs ts=true)(f:Bool):QI M.length (.ok (.rt (.cell c,f),A++C))=.ok ((.lst ts,true),A):=by
 show finish M.length _ _=_;unfold finish;have hlt:=(List.getElem?_eq_some_iff.mp hc).1;rw[List.length_append]at hlt;rw[<-hA,if_neg (by rw[List.length_append];omega),List.take_left' rfl,if_pos (show A.all (T.unds A.length)=true from hW)];have r:qG (A++C) A.length 6 (.cell c)=some (.lst ts):=by
  unfold qG;rw[if_neg (by unfold T.und;simp;omega)];dsimp only;rw[hc,Option.bind_some,jK _ hl];rfl
 have i:frR (A++C) A.length (.cell c)=true:=by
  unfold frR;rw[show zy (A++C) A.length 6 (.cell c)=some [c] by
   unfold zy;rw[if_neg (by rw[v6];decide)];dsimp only;rw[if_pos hn,hc,Option.bind_some,E8 _ hl,Option.map_some,J5];rfl]
  simp
 dsimp only;rw[r,PR.ofO_some,PR.bind_ok,i,Bool.or_true]
theorem w6{M A C:Mem}{b:Bool}(hA:A.length=M.length)(hW:WfM A):QI M.length (.ok (.rt (bT b),A++C))=.ok (bT b,A):=by
 show finish M.length _ _=_;unfold finish;rw[<-hA];by_cases hb:(A++C).length=A.length
 ·have:C=[]:=List.length_eq_zero_iff.mp (by simp at hb;simp[hb]);subst this;rw[if_pos hb,List.append_nil]
 ·rw[if_neg hb,List.take_left' rfl,if_pos (show A.all (T.unds A.length)=true from hW)];rw[show qG (A++C) A.length 6 (bT b).1=some (bT b).1 by unfold qG;rw[if_pos (Je _ _ rfl)]];rfl
theorem i8{d:jE}{gl:List T}{P:Nat->List T->Mem->PR (TB×Mem)}{e:TS->Mem->PR (TB×Mem)}{σ:TS}{J:Mem->Prop}{Pr:T->T->Prop}:∀(its ys:List T) (b:Bool) (o:Option T) (M:Mem),ys.length+its.length<=lim->J M->(∀M',J M'->qR d M'=true) ->
  (∀x∈its,∀M',J M'->∃z M'',e (some x::σ) M'=.ok ((z,true),M'')/\J M''/\Pr x z) ->
  ∃zs M',qP d (.name 0) (pec gl P .nil) e its ys b (o::σ) M=.ok ((.lst (ys++zs),b),M')/\J M'/\qy Pr its zs
 | [],ys,b,o,M,_,hJ,_,_=>⟨[],M,by simp[qP],hJ,rfl⟩
 |x::r,ys,b,o,M,hl,hJ,hd,he=>by
  obtain⟨z,M1,e1,j1,p1⟩:=he x (by simp) M hJ;obtain⟨zs,M2,e2,j2,p2⟩:=i8 (d:=d) (gl:=gl) (P:=P) (σ:=σ) r (ys++[z]) b (some x) M1 (by simp at hl ⊢;omega) j1 hd λy hy=>he y (by simp[hy]);refine⟨z::zs,M2,?_,j2,⟨z,zs,rfl,p1,p2⟩⟩;rw[qP,show qo (.name 0) x (o::σ)=some (some x::σ) from rfl];dsimp only;rw[zR,PR.bind_ok];dsimp only;rw[if_pos rfl,e1,PR.bind_ok];dsimp only;rw[if_pos ⟨by simp at hl;omega,hd M1 j1⟩,Bool.and_true,e2];simp
theorem O9{d:jE}{gl:List T}{P:Nat->List T->Mem->PR (TB×Mem)}{e:TS->Mem->PR (TB×Mem)}{σ:TS}{M:Mem}(f:T->T)(fr:T->Bool)(hd:qR d M=true):∀(its ys:List T) (b:Bool) (o:Option T),ys.length+its.length<=lim ->
  (∀x∈its,e (some x::σ) M=.ok ((f x,fr x),M)) ->
  qP d (.name 0) (pec gl P .nil) e its ys b (o::σ) M=.ok ((.lst (ys++its.map f),b&&its.all fr),M)
 | [],ys,b,o,_,_=>by simp[qP]
 |x::r,ys,b,o,hl,he=>by
  rw[qP,show qo (.name 0) x (o::σ)=some (some x::σ) from rfl];dsimp only;rw[zR,PR.bind_ok];dsimp only;rw[if_pos rfl,he x (by simp),PR.bind_ok];dsimp only;rw[if_pos ⟨by simp at hl;omega,hd⟩,O9 f fr hd r (ys++[f x]) (b&&fr x) (some x) (by simp at hl ⊢;omega) λy hy=>he y (by simp[hy])];simp[Bool.and_assoc]
end PI
namespace Nt
noncomputable abbrev Stp:=Nat×Nat
noncomputable def one(x:List Nat)(p:Stp):List Nat:=x.set p.1 ((x.getD p.1 0+x.getD p.2 0) % 2)
noncomputable def row(x:List Nat)(L:List Stp):List Nat:=L.foldl one x
noncomputable def net(x:List Nat)(Ns:List (List Stp)):List Nat:=Ns.foldl row x
def Sg(n:Nat)(x:List Nat):Prop:=x.length=n/\∀v∈x,v<2
def OkS(n:Nat)(p:Stp):Prop:=p.1<n/\p.2<n/\p.1≠p.2
noncomputable def qX(L:List Stp):List Nat:=L.flatMap λp=>[p.1,p.2]
structure OkR(n:Nat)(L:List Stp):Prop where
 st:∀p∈L,OkS n p
 nd:(qX L).Nodup
 le:L.length<=100
noncomputable def add(x y:List Nat):List Nat:=(List.range x.length).map λk=>(x.getD k 0+y.getD k 0) % 2
theorem q8(x:List Nat)(p:Stp):(one x p).length=x.length:=by simp[one]
theorem one_sg{n:Nat}{x:List Nat}(h:Sg n x)(p:Stp):Sg n (one x p):=by
 refine⟨by rw[q8];exact h.1,λv hv=>?_⟩;rcases wY hv with hv|rfl
 ·exact h.2 v hv
 ·omega
theorem row_sg{n:Nat}:∀(L:List Stp){x:List Nat},Sg n x->Sg n (row x L)
 | [],x,h=>h
 |p::L,x,h=>row_sg L (one_sg h p)
theorem spots_app(A B:List Stp):qX (A++B)=qX A++qX B:=by unfold qX;rw[List.flatMap_append]
noncomputable def unit(n j:Nat):List Nat:=(List.range n).map λi=>if i=j then 1 else 0
theorem unit_sg(n j:Nat):Sg n (unit n j):=⟨by simp[unit],λv hv=>by
 obtain⟨i,_,rfl⟩:=wj.mp hv;split<;>decide⟩
noncomputable def pre(x:List Nat)(m:Nat):List Nat:=(List.range x.length).map λi=>if i<m then x.getD i 0 else 0
noncomputable def word(x:List Nat):List Nat:=(List.range x.length).map λt=>(((List.range x.length).filter λp=>decide (p&&& t=t)).map λp=>x.getD p 0).sum % 2
noncomputable def hr(n f:Nat):List Stp:=((List.range n).filter λa=>decide (a&&& f=0)).map λa=>(a,a+f)
noncomputable def hn(s:Nat):List (List Stp):=(List.range s).map λr=>hr (2 ^ s) (2 ^ r)
noncomputable def qCl(n:Nat)(L:List Stp):Bool:=(L.all λp=>decide (p.1<n)&&decide (p.2<n)&&!decide (p.1=p.2))&&decide (qX L).Nodup&&decide (L.length<=100)
theorem qBM{n:Nat}{L:List Stp}(h:qCl n L=true):OkR n L:=by
 unfold qCl at h;simp only[Bool.and_eq_true,vO,wK,Bool.not_eq_true',decide_eq_false_iff_not]at h;exact⟨λp hp=>⟨(h.1.1 p hp).1.1,(h.1.1 p hp).1.2,(h.1.1 p hp).2⟩,h.1.2,h.2⟩
theorem hn_ok{s:Nat}(h1:1<=s)(h5:s<=5):∀L∈hn s,OkR (2 ^ s) L:=by
 have key:(hn s).all (qCl (2 ^ s))=true:=by
  have:s=1\/s=2\/s=3\/s=4\/s=5:=by omega
  rcases this with rfl|rfl|rfl|rfl|rfl<;>decide +kernel
 rw[wK]at key;exact λL hL=>qBM (key L hL)
end Nt
namespace My
open PySem PySem.Spec PyProof.Rows L2 PI
noncomputable def top(i:Nat):Stmt:=PySem.Challenge.pw_healhalves_k12_what_makes_words.main.body.getD i (.Pass ⟨0,0,0,0⟩)
noncomputable def Tb:Tbl:=⟨[⟨"is_whole",top 8,["thing"],["thing"]⟩,
 ⟨"is_number_below",top 9,["thing","end"],["thing","end"]⟩,
 ⟨"length_of",top 10,["size"],["size"]⟩,
 ⟨"is_size",top 11,["thing"],["thing"]⟩,
 ⟨"check_size",top 12,["size"],["size"]⟩,
 ⟨"is_sign",top 14,["thing"],["thing"]⟩,
 ⟨"is_row",top 15,["thing","length"],["thing","length"]⟩,
 ⟨"sum_of",top 16,["signs"],["signs"]⟩,
 ⟨"added",top 17,["one","other"],["one","other"]⟩,
 ⟨"is_net",top 20,["size","thing"],["size","thing"]⟩,
 ⟨"is_net_round",top 21,["length","thing"],["length","thing","used","step"]⟩,
 ⟨"is_net_step",top 22,["length","thing"],["length","thing"]⟩,
 ⟨"check_net",top 23,["size","net"],["size","net"]⟩,
 ⟨"run_steps",top 24,["net","row"],["net","row","signs","steps","step"]⟩,
 ⟨"word_of",top 26,["core"],["core"]⟩,
 ⟨"is_core",top 27,["thing"],["thing"]⟩,
 ⟨"halved_word",top 28,["row"],["row","half","first","second"]⟩,
 ⟨"makes_words",top 30,["size","net"],["size","net"]⟩,
 ⟨"unlike_core",top 31,["size","net"],["size","net","length","place","core"]⟩,
 ⟨"single_core",top 32,["length","place"],["length","place"]⟩,
 ⟨"_law_bag",top 34,["_law_script","_law_k"],["_law_script","_law_k","_law_cell","_law_great"]⟩,
 ⟨"_law_out",top 35,["_law_bag_here","_law_many"],["_law_bag_here","_law_many","_law_found"]⟩,
 ⟨"_law_whole",top 36,["_law_thing"],["_law_thing"]⟩,
 ⟨"_law_round",top 37,["_law_bag_here","_law_size"],["_law_bag_here","_law_size","_law_spots","_law_row","_law_k","_law_one","_law_other"]⟩,
 ⟨"_law_net",top 38,["_law_bag_here","_law_size"],["_law_bag_here","_law_size"]⟩,
 ⟨"_law_run",top 39,["_law_net_here","_law_row"],["_law_net_here","_law_row","_law_found","_law_steps_now","_law_one","_law_other"]⟩,
 ⟨"_law_copy",top 40,["_law_net_here"],["_law_net_here"]⟩,
 ⟨"_law_word",top 41,["_law_core"],["_law_core"]⟩,
 ⟨"_law_mixed",top 42,["_law_bag_here","_law_row"],["_law_bag_here","_law_row","_law_found","_law_one"]⟩,
 ⟨"_law_halving",top 43,["_law_bag_here","_law_size"],["_law_bag_here","_law_size","_law_net_here","_law_r","_law_row","_law_cut","_law_at","_law_more"]⟩,
 ⟨"_law_bent",top 44,["_law_bag_here","_law_size","_law_net_here"],["_law_bag_here","_law_size","_law_net_here","_law_rows","_law_full","_law_at","_law_place","_law_way","_law_step"]⟩,
 ⟨"_law_drawn",top 45,["_law_bag_here","_law_size"],["_law_bag_here","_law_size","_law_way","_law_net_here"]⟩,
 ⟨"_law_makes",top 46,["_law_size","_law_net_here"],["_law_size","_law_net_here","_law_place","_law_core"]⟩,
 ⟨"_law_is_unlike",top 47,["_law_size","_law_net_here","_law_core"],["_law_size","_law_net_here","_law_core"]⟩,
 ⟨"_law_right",top 48,["_law_size","_law_net_here","_law_due"],["_law_size","_law_net_here","_law_due","_law_handed","_law_truth","_law_core","_law_first"]⟩,
 ⟨"law",top 49,["_law_script"],["_law_script","_law_held","_law_k","_law_bag_here","_law_size","_law_net_here","_law_due"]⟩],
 [("LENGTHS",E.glob 0),("GREATEST_SIZE",E.cst (.int 5)),("MOST_ROUNDS",E.cst (.int 40))],
 ["len","sum","all","any","max","min","list","int","tuple","range","zip","isinstance","bool","ValueError"],[],[]⟩
noncomputable def gs:List O:=[O.tup [V.int 1,V.int 2,V.int 4,V.int 8,V.int 16,V.int 32]]
end My
namespace My
open PySem PySem.Spec PI
open L2 (V)
noncomputable def b0:Ss:=(.cons (.ret (.and (.isi (.var 0) ["int"]) (.not (.isi (.var 0) ["bool"])))) .nil)
noncomputable def b1:Ss:=(.cons (.ret (.and (.call 0 (.cons (.var 0) .nil)) (.cmp2 .le .lt (nE 0) (.var 0) (.var 1)))) .nil)
noncomputable def b2:Ss:=(.cons (.ret (.idx (.glob 0) (.var 0))) .nil)
noncomputable def b3:Ss:=(.cons (.ret (.and (.call 0 (.cons (.var 0) .nil)) (.cmp2 .le .le (nE 1) (.var 0) (nE 5)))) .nil)
noncomputable def b4:Ss:=(.cons (.ifs (.not (.call 3 (.cons (.var 0) .nil))) (.cons .stop .nil) .nil) .nil)
noncomputable def b5:Ss:=(.cons (.ret (.call 1 (.cons (.var 0) (.cons (nE 2) .nil)))) .nil)
noncomputable def b6:Ss:=(.cons (.ret (.and (.isi (.var 0) ["list"]) (.and (.cmp .eq (.blt .len (.cons (.var 0) .nil)) (.var 1)) (.blt .all (.cons (.comp (.list (.var 0)) [none] (.name 0) .nil (.call 5 (.cons (.var 0) .nil))) .nil))))) .nil)
noncomputable def b7:Ss:=(.cons (.ret (.bin .mod (.blt .sum (.cons (.var 0) .nil)) (nE 2))) .nil)
noncomputable def b8:Ss:=(.cons (.ret (.comp (.zip (.var 0) (.var 1)) [none,none] (.tup [0,1]) .nil (.call 7 (.cons (.lst (.cons (.var 0) (.cons (.var 1) .nil))) .nil)))) .nil)
noncomputable def b9:Ss:=(.cons (.expr (.call 4 (.cons (.var 0) .nil))) (.cons (.ifs (.or (.not (.isi (.var 1) ["list"])) (.cmp .gt (.blt .len (.cons (.var 1) .nil)) (nE 40))) (.cons (.ret (.cst (V.bl false))) .nil) .nil) (.cons (.ret (.blt .all (.cons (.comp (.list (.var 1)) [none,some 0] (.name 0) .nil (.call 10 (.cons (.call 2 (.cons (.var 1) .nil)) (.cons (.var 0) .nil)))) .nil))) .nil)))
noncomputable def qDe:Ss:=(.cons (.ifs (.or (.not (.call 11 (.cons (.var 0) (.cons (.var 3) .nil)))) (.or (.cmp .inn (.idx (.var 3) (nE 0)) (.var 2)) (.cmp .inn (.idx (.var 3) (nE 1)) (.var 2)))) (.cons (.ret (.cst (V.bl false))) .nil) .nil) (.cons (.put (.var 2) (.idx (.var 3) (nE 0)) (.cst (V.bl true))) (.cons (.put (.var 2) (.idx (.var 3) (nE 1)) (.cst (V.bl true))) .nil)))
noncomputable def qER:Ss:=(.cons (.ifs (.not (.isi (.var 1) ["list"])) (.cons (.ret (.cst (V.bl false))) .nil) .nil) (.cons (.asg (.name 2) .dnew) (.cons (.for_ (.name 3) (.list (.var 1)) qDe) (.cons (.ret (.cst (V.bl true))) .nil))))
theorem qEq:Tb.fns[10]?=some ⟨2,4,qER⟩:=by kernel_rfl
noncomputable def b10:Ss:=(.cons (.ifs (.not (.isi (.var 1) ["list"])) (.cons (.ret (.cst (V.bl false))) .nil) .nil) (.cons (.nloop 2 3 11 0 (.var 1)) (.cons (.ret (.cst (V.bl true))) .nil)))
noncomputable def b11:Ss:=(.cons (.ifs (.or (.not (.isi (.var 1) ["tuple"])) (.cmp .ne (.blt .len (.cons (.var 1) .nil)) (nE 2))) (.cons (.ret (.cst (V.bl false))) .nil) .nil) (.cons (.ret (.and (.blt .all (.cons (.comp (.list (.var 1)) [none,some 0] (.name 0) .nil (.call 1 (.cons (.var 0) (.cons (.var 1) .nil)))) .nil)) (.cmp .ne (.idx (.var 1) (nE 0)) (.idx (.var 1) (nE 1))))) .nil))
noncomputable def b12:Ss:=(.cons (.ifs (.not (.call 9 (.cons (.var 0) (.cons (.var 1) .nil)))) (.cons .stop .nil) .nil) .nil)
noncomputable def Z6:Ss:=(.cons (.put (.var 2) (.idx (.var 4) (nE 0)) (.call 7 (.cons (.lst (.cons (.idx (.var 2) (.idx (.var 4) (nE 0))) (.cons (.idx (.var 2) (.idx (.var 4) (nE 1))) .nil))) .nil))) .nil)
noncomputable def X2:Ss:=(.cons (.for_ (.name 4) (.list (.var 3)) Z6) .nil)
noncomputable def b13:Ss:=(.cons (.asg (.name 2) (.blt .list (.cons (.var 1) .nil))) (.cons (.for_ (.name 3) (.list (.var 0)) X2) (.cons (.ret (.var 2)) .nil)))
noncomputable def b14:Ss:=(.cons (.ifs (.not (.call 15 (.cons (.var 0) .nil))) (.cons .stop .nil) .nil) (.cons (.ret (.call 16 (.cons (.var 0) .nil))) .nil))
noncomputable def b15:Ss:=(.cons (.ret (.blt .any (.cons (.comp (.rng2 (nE 1) (.bin .add (nE 5) (nE 1))) [none,some 0] (.name 0) .nil (.call 6 (.cons (.var 1) (.cons (.call 2 (.cons (.var 0) .nil)) .nil)))) .nil))) .nil)
noncomputable def b16:Ss:=(.cons (.ifs (.cmp .eq (.blt .len (.cons (.var 0) .nil)) (nE 1)) (.cons (.ret (.blt .list (.cons (.var 0) .nil))) .nil) .nil) (.cons (.asg (.name 1) (.bin .fdiv (.blt .len (.cons (.var 0) .nil)) (nE 2))) (.cons (.asg (.name 2) (.call 16 (.cons (.sl (.var 0) .nil (.cons (.var 1) .nil)) .nil))) (.cons (.asg (.name 3) (.call 16 (.cons (.sl (.var 0) (.cons (.var 1) .nil) .nil) .nil))) (.cons (.ret (.bin .add (.call 8 (.cons (.var 2) (.cons (.var 3) .nil))) (.var 3))) .nil)))))
noncomputable def b17:Ss:=(.cons (.ret (.cmp .is (.call 18 (.cons (.var 0) (.cons (.var 1) .nil))) (.cst V.non))) .nil)
noncomputable def M5:Ss:=(.cons (.asg (.name 4) (.call 19 (.cons (.var 2) (.cons (.var 3) .nil)))) (.cons (.ifs (.cmp .ne (.call 13 (.cons (.var 1) (.cons (.var 4) .nil))) (.call 14 (.cons (.var 4) .nil))) (.cons (.ret (.var 4)) .nil) .nil) .nil))
noncomputable def b18:Ss:=(.cons (.expr (.call 4 (.cons (.var 0) .nil))) (.cons (.expr (.call 12 (.cons (.var 0) (.cons (.var 1) .nil)))) (.cons (.asg (.name 2) (.call 2 (.cons (.var 0) .nil))) (.cons (.for_ (.name 3) (.rng1 (.var 2)) M5) (.cons (.ret (.cst V.non)) .nil)))))
noncomputable def b19:Ss:=(.cons (.ret (.comp (.rng1 (.var 0)) [none,some 1] (.name 0) .nil (.ite (.cmp .eq (.var 0) (.var 1)) (nE 1) (nE 0)))) .nil)
noncomputable def b20:Ss:=(.cons (.asg (.name 2) (nE 0)) (.cons (.ifs (.cmp .lt (.var 1) (.blt .len (.cons (.var 0) .nil))) (.cons (.asg (.name 2) (.idx (.var 0) (.var 1))) .nil) .nil) (.cons (.asg (.name 3) (nE 0)) (.cons (.ifs (.cmp .ge (.var 2) (.bin .pow (nE 10) (nE 18))) (.cons (.asg (.name 3) (.var 2)) .nil) .nil) (.cons (.ret (.lst (.cons (.var 3) (.cons (.bin .mod (.bin .pow (.bin .add (.bin .add (.bin .mod (.var 2) (nE 998244353)) (.bin .mul (nE 7368787) (.var 1))) (nE 17)) (nE 3)) (nE 2147483629)) .nil)))) .nil)))))
noncomputable def b21:Ss:=(.cons (.ifs (.cmp .gt (.idx (.var 0) (nE 0)) (nE 0)) (.cons (.asg (.name 2) (.bin .mod (.idx (.var 0) (nE 0)) (.var 1))) (.cons (.put (.var 0) (nE 0) (.bin .fdiv (.idx (.var 0) (nE 0)) (.var 1))) (.cons (.ret (.var 2)) .nil))) .nil) (.cons (.put (.var 0) (nE 1) (.bin .mod (.bin .add (.bin .mul (.idx (.var 0) (nE 1)) (nE 40692)) (nE 12345)) (nE 2147483399))) (.cons (.ret (.bin .mod (.bin .fdiv (.bin .mod (.bin .mul (.idx (.var 0) (nE 1)) (.bin .add (.bin .fdiv (.idx (.var 0) (nE 1)) (nE 1024)) (nE 7))) (nE 2147483647)) (nE 32)) (.var 1))) .nil)))
noncomputable def b22:Ss:=(.cons (.ret (.and (.isi (.var 0) ["int"]) (.not (.isi (.var 0) ["bool"])))) .nil)
noncomputable def U0:Ss:=(.cons (.asg (.name 5) (.meth .popAt (.var 2) (.cons (.call 21 (.cons (.var 0) (.cons (.blt .len (.cons (.var 2) .nil)) .nil))) .nil))) (.cons (.asg (.name 6) (.meth .popAt (.var 2) (.cons (.call 21 (.cons (.var 0) (.cons (.blt .len (.cons (.var 2) .nil)) .nil))) .nil))) (.cons (.expr (.app (.var 3) (.tup (.cons (.var 5) (.cons (.var 6) .nil))))) .nil)))
noncomputable def b23:Ss:=(.cons (.asg (.name 2) (.lrng (.bin .shl (nE 1) (.var 1)))) (.cons (.asg (.name 3) (.lst .nil)) (.cons (.for_ (.name 4) (.rng1 (.call 21 (.cons (.var 0) (.cons (.bin .add (.bin .fdiv (.bin .shl (nE 1) (.var 1)) (nE 2)) (nE 1)) .nil)))) U0) (.cons (.ret (.var 3)) .nil))))
noncomputable def b24:Ss:=(.cons (.ret (.comp (.rng1 (.idx (.lst (.cons (nE 0) (.cons (nE 1) (.cons (nE 2) (.cons (nE 3) (.cons (nE 5) (.cons (nE 40) .nil))))))) (.call 21 (.cons (.var 0) (.cons (nE 6) .nil))))) [none,some 0,some 1] (.name 0) .nil (.call 23 (.cons (.var 1) (.cons (.var 2) .nil))))) .nil)
noncomputable def d8:Ss:=(.cons (.put (.var 2) (.var 4) (.bin .mod (.bin .add (.idx (.var 2) (.var 4)) (.idx (.var 2) (.var 5))) (nE 2))) .nil)
noncomputable def X5:Ss:=(.cons (.for_ (.tup [4,5]) (.list (.var 3)) d8) .nil)
noncomputable def b25:Ss:=(.cons (.asg (.name 2) (.blt .list (.cons (.var 1) .nil))) (.cons (.for_ (.name 3) (.list (.var 0)) X5) (.cons (.ret (.var 2)) .nil)))
noncomputable def b26:Ss:=(.cons (.ret (.comp (.list (.var 0)) [none] (.name 0) .nil (.blt .list (.cons (.var 0) .nil)))) .nil)
noncomputable def b27:Ss:=(.cons (.ret (.comp (.rng1 (.blt .len (.cons (.var 0) .nil))) [none,some 0] (.name 0) .nil (.bin .mod (.blt .sum (.cons (.comp (.rng1 (.blt .len (.cons (.var 1) .nil))) [none,some 1,some 0] (.name 0) (.cons (.cmp .eq (.bin .band (.var 0) (.var 2)) (.var 2)) .nil) (.idx (.var 1) (.var 0))) .nil)) (nE 2)))) .nil)
noncomputable def L7:Ss:=(.cons (.expr (.meth .ins (.var 2) (.cons (.call 21 (.cons (.var 0) (.cons (.bin .add (.blt .len (.cons (.var 2) .nil)) (nE 1)) .nil))) (.cons (.var 3) .nil)))) .nil)
noncomputable def b28:Ss:=(.cons (.asg (.name 2) (.lst .nil)) (.cons (.for_ (.name 3) (.list (.var 1)) L7) (.cons (.ret (.var 2)) .nil)))
noncomputable def T0:Ss:=(.cons (.asg (.name 4) (.call 28 (.cons (.var 0) (.cons (.comp (.rng1 (.bin .shl (nE 1) (.var 1))) [none,some 3] (.name 0) (.cons (.cmp .eq (.bin .band (.bin .shr (.var 0) (.var 1)) (nE 1)) (nE 0)) .nil) (.tup (.cons (.var 0) (.cons (.bin .add (.var 0) (.bin .shl (nE 1) (.var 1))) .nil)))) .nil)))) (.cons (.asg (.name 5) (.call 21 (.cons (.var 0) (.cons (.bin .add (.blt .len (.cons (.var 4) .nil)) (nE 1)) .nil)))) (.cons (.asg (.name 2) (.bin .add (.var 2) (.lst (.cons (.sl (.var 4) .nil (.cons (.var 5) .nil)) (.cons (.sl (.var 4) (.cons (.var 5) .nil) .nil) .nil))))) .nil)))
noncomputable def b29:Ss:=(.cons (.asg (.name 2) (.lst .nil)) (.cons (.for_ (.name 3) (.list (.call 28 (.cons (.var 0) (.cons (.lrng (.var 1)) .nil)))) T0) (.cons (.asg (.name 6) (.call 21 (.cons (.var 0) (.cons (.bin .add (.blt .len (.cons (.var 2) .nil)) (nE 1)) .nil)))) (.cons (.asg (.name 7) (.call 23 (.cons (.var 0) (.cons (.var 1) .nil)))) (.cons (.ret (.bin .add (.bin .add (.sl (.var 2) .nil (.cons (.var 6) .nil)) (.lst (.cons (.var 7) (.cons (.blt .list (.cons (.var 7) .nil)) .nil)))) (.sl (.var 2) (.cons (.var 6) .nil) .nil))) .nil)))))
noncomputable def b30:Ss:=(.cons (.asg (.name 3) (.call 26 (.cons (.var 2) .nil))) (.cons (.asg (.name 4) (.comp (.rng1 (.blt .len (.cons (.var 3) .nil))) [none,some 3] (.name 0) (.cons (.cmp .ne (.idx (.var 1) (.var 0)) (.lst .nil)) .nil) (.var 0))) (.cons (.asg (.name 5) (.idx (.var 4) (.call 21 (.cons (.var 0) (.cons (.blt .len (.cons (.var 4) .nil)) .nil))))) (.cons (.asg (.name 6) (.call 21 (.cons (.var 0) (.cons (.blt .len (.cons (.idx (.var 3) (.var 5)) .nil)) .nil)))) (.cons (.asg (.name 7) (.call 21 (.cons (.var 0) (.cons (nE 3) .nil)))) (.cons (.asg (.name 8) (.idx (.idx (.var 3) (.var 5)) (.var 6))) (.cons (.ifs (.cmp .eq (.var 7) (nE 0)) (.cons (.put (.var 3) (.var 5) (.bin .add (.sl (.idx (.var 3) (.var 5)) .nil (.cons (.var 6) .nil)) (.sl (.idx (.var 3) (.var 5)) (.cons (.bin .add (.var 6) (nE 1)) .nil) .nil))) .nil) (.cons (.ifs (.cmp .eq (.var 7) (nE 1)) (.cons (.put (.idx (.var 3) (.var 5)) (.var 6) (.tup (.cons (.idx (.var 8) (nE 1)) (.cons (.idx (.var 8) (nE 0)) .nil)))) .nil) (.cons (.asg (.name 3) (.bin .add (.bin .add (.sl (.var 3) .nil (.cons (.var 5) .nil)) (.lst (.cons (.lst (.cons (.var 8) .nil)) .nil))) (.sl (.var 3) (.cons (.var 5) .nil) .nil))) .nil)) .nil)) (.cons (.ret (.var 3)) .nil))))))))
noncomputable def b31:Ss:=(.cons (.asg (.name 2) (.call 21 (.cons (.var 0) (.cons (nE 4) .nil)))) (.cons (.ifs (.cmp .eq (.var 2) (nE 3)) (.cons (.ret (.call 24 (.cons (.var 0) (.cons (.var 1) .nil)))) .nil) .nil) (.cons (.asg (.name 3) (.call 29 (.cons (.var 0) (.cons (.var 1) .nil)))) (.cons (.ifs (.cmp .eq (.var 2) (nE 2)) (.cons (.ret (.call 30 (.cons (.var 0) (.cons (.var 1) (.cons (.var 3) .nil))))) .nil) .nil) (.cons (.ret (.var 3)) .nil)))))
noncomputable def a4:Ss:=(.cons (.asg (.name 3) (.comp (.rng1 (.bin .shl (nE 1) (.var 0))) [none,some 2] (.name 0) .nil (.blt .int (.cons (.cmp .eq (.var 1) (.var 0)) .nil)))) (.cons (.ifs (.cmp .ne (.call 25 (.cons (.var 1) (.cons (.var 3) .nil))) (.call 27 (.cons (.var 3) .nil))) (.cons (.ret (.cst (V.bl false))) .nil) .nil) .nil))
noncomputable def b32:Ss:=(.cons (.for_ (.name 2) (.rng1 (.bin .shl (nE 1) (.var 0))) a4) (.cons (.ret (.cst (V.bl true))) .nil))
noncomputable def b33:Ss:=(.cons (.ifs (.or (.not (.isi (.var 2) ["list"])) (.cmp .ne (.blt .len (.cons (.var 2) .nil)) (.bin .shl (nE 1) (.var 0)))) (.cons (.ret (.cst (V.bl false))) .nil) .nil) (.cons (.ifs (.cmp .ne (.comp (.list (.var 2)) [none] (.name 0) (.cons (.or (.not (.call 22 (.cons (.var 0) .nil))) (.cmp .notin (.var 0) (.tup (.cons (nE 0) (.cons (nE 1) .nil))))) .nil) (.var 0)) (.lst .nil)) (.cons (.ret (.cst (V.bl false))) .nil) .nil) (.cons (.ret (.cmp .ne (.call 25 (.cons (.var 1) (.cons (.var 2) .nil))) (.call 27 (.cons (.var 2) .nil)))) .nil)))
noncomputable def b34:Ss:=(.cons (.asg (.name 3) (.call 26 (.cons (.var 1) .nil))) (.cons (.asg (.name 4) (.call 17 (.cons (.var 0) (.cons (.var 3) .nil)))) (.cons (.ifs (.or (.not (.isi (.var 4) ["bool"])) (.or (.cmp .ne (.var 4) (.var 2)) (.cmp .ne (.var 3) (.var 1)))) (.cons (.ret (.cst (V.bl false))) .nil) .nil) (.cons (.asg (.name 5) (.call 18 (.cons (.var 0) (.cons (.var 3) .nil)))) (.cons (.ifs (.or (.cmp .ne (.var 3) (.var 1)) (.cmp .ne (.cmp .is (.var 5) (.cst V.non)) (.var 2))) (.cons (.ret (.cst (V.bl false))) .nil) .nil) (.cons (.ifs (.cmp .isnot (.var 5) (.cst V.non)) (.cons (.ifs (.not (.call 33 (.cons (.var 0) (.cons (.var 1) (.cons (.var 5) .nil))))) (.cons (.ret (.cst (V.bl false))) .nil) .nil) (.cons (.asg (.name 6) (.blt .list (.cons (.var 5) .nil))) (.cons (.expr (.meth .clr (.var 5) .nil)) (.cons (.ifs (.cmp .ne (.call 18 (.cons (.var 0) (.cons (.var 3) .nil))) (.var 6)) (.cons (.ret (.cst (V.bl false))) .nil) .nil) .nil)))) .nil) (.cons (.ifs (.cmp .lt (.blt .len (.cons (.var 3) .nil)) (nE 40)) (.cons (.expr (.app (.var 3) (.lst (.cons (.tup (.cons (nE 0) (.cons (nE 1) .nil))) .nil)))) .nil) (.cons (.expr (.meth .pop (.var 3) .nil)) .nil)) (.cons (.ret (.cmp .eq (.call 17 (.cons (.var 0) (.cons (.var 3) .nil))) (.call 32 (.cons (.var 0) (.cons (.var 3) .nil))))) .nil))))))))
noncomputable def Z3:Ss:=(.cons (.asg (.name 3) (.call 20 (.cons (.var 0) (.cons (.var 2) .nil)))) (.cons (.asg (.name 4) (.bin .add (nE 1) (.call 21 (.cons (.var 3) (.cons (nE 5) .nil))))) (.cons (.asg (.name 5) (.call 31 (.cons (.var 3) (.cons (.var 4) .nil)))) (.cons (.expr (.app (.var 1) (.tup (.cons (.var 4) (.cons (.var 5) (.cons (.call 32 (.cons (.var 4) (.cons (.var 5) .nil))) .nil)))))) (.cons (.ifs (.not (.call 34 (.cons (.var 4) (.cons (.var 5) (.cons (.idx (.idx (.var 1) (.neg (nE 1))) (nE 2)) .nil))))) (.cons (.ret (.cst (V.bl false))) .nil) .nil) .nil)))))
noncomputable def b35:Ss:=(.cons (.asg (.name 1) (.lst .nil)) (.cons (.for_ (.name 2) (.rng1 (.blt .max (.cons (nE 1) (.cons (.blt .min (.cons (.blt .len (.cons (.var 0) .nil)) (.cons (nE 10) .nil))) .nil)))) Z3) (.cons (.asg (.tup [4,5,6]) (.idx (.var 1) (nE 0))) (.cons (.ifs (.and (.cmp .lt (.var 4) (nE 5)) (.cmp .ne (.call 17 (.cons (.bin .add (.var 4) (nE 1)) (.cons (.var 5) .nil))) (.call 32 (.cons (.bin .add (.var 4) (nE 1)) (.cons (.var 5) .nil))))) (.cons (.ret (.cst (V.bl false))) .nil) .nil) (.cons (.ret (.call 34 (.cons (.var 4) (.cons (.var 5) (.cons (.var 6) .nil))))) .nil)))))
noncomputable def Fs:List Fn:=Tb.fns.set 10 ⟨2,4,b10⟩
theorem t0:Fs[0]?=some ⟨1,1,b0⟩:=by kernel_rfl
theorem t1:Fs[1]?=some ⟨2,2,b1⟩:=by kernel_rfl
theorem t2:Fs[2]?=some ⟨1,1,b2⟩:=by kernel_rfl
theorem t3:Fs[3]?=some ⟨1,1,b3⟩:=by kernel_rfl
theorem t4:Fs[4]?=some ⟨1,1,b4⟩:=by kernel_rfl
theorem t5:Fs[5]?=some ⟨1,1,b5⟩:=by kernel_rfl
theorem t6:Fs[6]?=some ⟨2,2,b6⟩:=by kernel_rfl
theorem t7:Fs[7]?=some ⟨1,1,b7⟩:=by kernel_rfl
theorem t8:Fs[8]?=some ⟨2,2,b8⟩:=by kernel_rfl
theorem t9:Fs[9]?=some ⟨2,2,b9⟩:=by kernel_rfl
theorem t11:Fs[11]?=some ⟨2,2,b11⟩:=by kernel_rfl
theorem t12:Fs[12]?=some ⟨2,2,b12⟩:=by kernel_rfl
theorem t13:Fs[13]?=some ⟨2,5,b13⟩:=by kernel_rfl
theorem t14:Fs[14]?=some ⟨1,1,b14⟩:=by kernel_rfl
theorem t15:Fs[15]?=some ⟨1,1,b15⟩:=by kernel_rfl
theorem t16:Fs[16]?=some ⟨1,4,b16⟩:=by kernel_rfl
theorem t17:Fs[17]?=some ⟨2,2,b17⟩:=by kernel_rfl
theorem t18:Fs[18]?=some ⟨2,5,b18⟩:=by kernel_rfl
theorem t19:Fs[19]?=some ⟨2,2,b19⟩:=by kernel_rfl
theorem t20:Fs[20]?=some ⟨2,4,b20⟩:=by kernel_rfl
theorem t21:Fs[21]?=some ⟨2,3,b21⟩:=by kernel_rfl
theorem t22:Fs[22]?=some ⟨1,1,b22⟩:=by kernel_rfl
theorem t23:Fs[23]?=some ⟨2,7,b23⟩:=by kernel_rfl
theorem t24:Fs[24]?=some ⟨2,2,b24⟩:=by kernel_rfl
theorem t25:Fs[25]?=some ⟨2,6,b25⟩:=by kernel_rfl
theorem t26:Fs[26]?=some ⟨1,1,b26⟩:=by kernel_rfl
theorem t27:Fs[27]?=some ⟨1,1,b27⟩:=by kernel_rfl
theorem t28:Fs[28]?=some ⟨2,4,b28⟩:=by kernel_rfl
theorem t29:Fs[29]?=some ⟨2,8,b29⟩:=by kernel_rfl
theorem t30:Fs[30]?=some ⟨3,9,b30⟩:=by kernel_rfl
theorem t31:Fs[31]?=some ⟨2,4,b31⟩:=by kernel_rfl
theorem t32:Fs[32]?=some ⟨2,4,b32⟩:=by kernel_rfl
theorem t33:Fs[33]?=some ⟨3,3,b33⟩:=by kernel_rfl
theorem t34:Fs[34]?=some ⟨3,7,b34⟩:=by kernel_rfl
theorem t35:Fs[35]?=some ⟨1,7,b35⟩:=by kernel_rfl
theorem t10:Fs[10]?=some ⟨2,4,b10⟩:=by kernel_rfl
theorem qFL(k f:Nat)(vs:List V)(h:AH):Fk Tb.fns k f vs h=Fk Fs k f vs h:=j5 (d:=⟨2,4,qER⟩) (b:=b10) qEq (λ_ _ _=>rfl) k f vs h
noncomputable def Cs:List (List Nat):=[[],[],[],[],[],[],[],[],[],[],[],[],[],[2],[],[],[],[],[4],[],[],[],[],[2,3],[],[2],[],[],[2],[],[3],[],[],[],[3,5],[1,3]]
noncomputable abbrev I(x:Int):T:=.v (.int x)
theorem gl0:(glT gs)[0]?=some (.tup [N 1,N 2,N 4,N 8,N 16,N 32]):=rfl
section
variable{k:Nat}
noncomputable def stT(g s:Nat):List T:=[N g,N s]
def Jh(M:Mem)(n:Nat):Prop:=∃g s,M[n]?=some (stT g s)/\s<2147483648
structure Kept(n:Nat)(M M':Mem):Prop where
 good:Jh M' n
 len:M'.length=M.length
 oth:∀j,j≠n->M'[j]?=M[j]?
theorem Kept.trans{n:Nat}{A B C:Mem}(x:Kept n A B)(y:Kept n B C):Kept n A C:=⟨y.good,y.len.trans x.len,λj hj=>(y.oth j hj).trans (x.oth j hj)⟩
theorem qFF(hk:1<=k){M:Mem}{n m g s:Nat}(hm:0<m/\m<=1000000)(hg:0<g)(e:M[n]?=some [N g,N s])(e':∀y,(M.set n y)[n]?=some y):
  Pk (glT gs) Fs Cs k 21 [.cell n,N m] M=.ok ((N (g % m),true),M.set n [N (g / m),N s]):=by
 rw[qL t21 ⟨rfl,by decide⟩ hk,b21,show Cs.getD 21 []=[] from rfl];simp(disch:=omega) [jb,QZ,e,e',hg];rw[qC (by simp)]
theorem qEh(hk:1<=k){M:Mem}{n m s:Nat}(hm:0<m/\m<=1000000)(e:M[n]?=some [N 0,N s])(e':∀y,(M.set n y)[n]?=some y){s':Nat}(hs':(s*40692+12345) % 2147483399=s')(hq:s'<2147483399):
  Pk (glT gs) Fs Cs k 21 [.cell n,N m] M=.ok ((N (s' * (s' / 1024+7) % 2147483647 / 32 % m),true),M.set n [N 0,N s']):=by
 rw[qL t21 ⟨rfl,by decide⟩ hk,b21,show Cs.getD 21 []=[] from rfl];have ml1:∀{M:Mem}(x:Nat),qp M .mul (N x) (N 40692)=some (N (x*40692),true):=λ{M} x=>Q7 (.inr (by decide));have ml3:∀{M:Mem}(y:Nat),qp M .mul (N s') (N y)=some (N (s' * y),true):=λ{M} y=>Q7 (.inl (wa hq (by decide)));have md1:∀{M:Mem}(x:Nat),qp M .mod (N x) (N 2147483399)=some (N (x % 2147483399),true):=λ{M} x=>jb (by decide);have md2:∀{M:Mem}(x:Nat),qp M .mod (N x) (N 2147483647)=some (N (x % 2147483647),true):=λ{M} x=>jb (by decide);have md3:∀{M:Mem}(x:Nat),qp M .mod (N x) (N m)=some (N (x % m),true):=λ{M} x=>jb hm.1;have fd1:∀{M:Mem}(x:Nat),qp M .fdiv (N x) (N 1024)=some (N (x / 1024),true):=λ{M} x=>QZ (by decide);have fd2:∀{M:Mem}(x:Nat),qp M .fdiv (N x) (N 32)=some (N (x / 32),true):=λ{M} x=>QZ (by decide);simp[hs',ml1,ml3,md1,md2,md3,fd1,fd2,e,e'];rw[qC (by simp)]
theorem out(hk:1<=k){M:Mem}{n m:Nat}(g:Jh M n)(hm:0<m/\m<=1000000):∃d M',Pk (glT gs) Fs Cs k 21 [.cell n,N m] M=.ok ((N d,true),M')/\d<m/\Kept n M M':=by
 obtain⟨a,s,e,hb⟩:=g;have hn:n<M.length:=(List.getElem?_eq_some_iff.mp e).1;have e':∀y,(M.set n y)[n]?=some y:=λy=>List.getElem?_set_self hn;rcases Nat.eq_zero_or_pos a with rfl|hp
 ·have hq:(s*40692+12345) % 2147483399<2147483399:=Nat.mod_lt _ (by decide);exact⟨_,_,qEh hk hm e e' rfl hq,Nat.mod_lt _ hm.1,⟨⟨0,_,e' _,wa hq (by decide)⟩,by simp,λj hj=>by rw[List.getElem?_set_ne (Ne.symm hj)]⟩⟩
 ·exact⟨_,_,qFF hk hm hp e e',Nat.mod_lt _ hm.1,⟨⟨a / m,s,e' _,hb⟩,by simp,λj hj=>by rw[List.getElem?_set_ne (Ne.symm hj)]⟩⟩
theorem qDE{M:Mem}:qp M .pow (N 10) (N 18)=some (N 1000000000000000000,true):=by rw[qBQ (by decide)]
theorem qDs(hk:1<=k){S:List T}{kk:Nat}(hkk:kk<=63)(M:Mem){cl:Int}(hc:(kk<S.length/\S[kk]?=some (I cl))\/(S.length<=kk/\cl=0)):∃g s,Pk (glT gs) Fs Cs k 20 [.fz S,N kk] M=.ok ((.lst (stT g s),true),M)/\s<2147483648:=by
 obtain⟨c,hcc⟩:∃c:Nat,cl % 998244353=(c:Int):=⟨(cl % 998244353).toNat,by omega⟩
 have cb:c<998244353:=by omega
 have md:∀{M:Mem},qp M .mod (I cl) (N 998244353)=some (N c,true):=λ{M}=>by
  show qp M .mod (.v (.int cl)) (.v (.int 998244353))=_;rw[j6 (by decide)];unfold iT;rw[hcc];rfl
 have m1:∀{M:Mem},qp M .mul (N 7368787) (N kk)=some (N (7368787*kk),true):=λ{M}=>Q7 (.inl (by decide));have pw:∀{M:Mem},qp M .pow (N (c+7368787*kk+17)) (N 3)=some (N ((c+7368787*kk+17) ^ 3),true):=λ{M}=>by
  unfold N;rw[k0 (by omega)];unfold iT;simp
 have md2:∀{M:Mem}(x:Nat),qp M .mod (N x) (N 2147483629)=some (N (x % 2147483629),true):=λ{M} x=>jb (by decide);have hs:(c+7368787*kk+17) ^ 3 % 2147483629<2147483648:=wa (Nat.mod_lt _ (by decide)) (by decide);generalize (c+7368787*kk+17) ^ 3=q at pw hs;have ge:∀{M:Mem},zP M .ge (I cl) (N 1000000000000000000)=some (decide (1000000000000000000<=cl)):=λ{M}=>rfl;by_cases hg:(1000000000000000000:Int)<=cl
 ·obtain⟨gn,rfl⟩:∃gn:Nat,cl=(gn:Int):=⟨cl.toNat,by omega⟩
  refine⟨gn,q % 2147483629,?_,hs⟩;rw[vN hg]at ge;rcases hc with⟨h1,h2⟩|⟨h1,h2⟩
  ·have ix:∀{M:Mem},jv M (.fz S) (N kk)=some (I gn,true):=λ{M}=>by
    show ((some S).bind λxs=>(L2.ixN xs.length (kk:Int)).bind λj=>(xs[j]?).map λt=>(t,t.lf))=_;rw[Option.bind_some];unfold L2.ixN;rw[if_pos (by omega),if_pos (by omega),Option.bind_some,we,h2];rfl
   rw[qL t20 ⟨rfl,by decide⟩ hk,b20,show Cs.getD 20 []=[] from rfl];simp[h1,ix,qDE,ge,md,m1,pw,md2,lim,stT];rw[qC rfl];rfl
  ·omega
 ·rw[vM hg]at ge;refine⟨0,q % 2147483629,?_,hs⟩;rcases hc with⟨h1,h2⟩|⟨h1,h2⟩
  ·have ix:∀{M:Mem},jv M (.fz S) (N kk)=some (I cl,true):=λ{M}=>by
    show ((some S).bind λxs=>(L2.ixN xs.length (kk:Int)).bind λj=>(xs[j]?).map λt=>(t,t.lf))=_;rw[Option.bind_some];unfold L2.ixN;rw[if_pos (by omega),if_pos (by omega),Option.bind_some,we,h2];rfl
   rw[qL t20 ⟨rfl,by decide⟩ hk,b20,show Cs.getD 20 []=[] from rfl];simp[h1,ix,qDE,ge,md,m1,pw,md2,lim,stT];rw[qC rfl]
  ·subst h2;have h1':¬ kk<S.length:=by omega
   rw[show I 0=N 0 from rfl]at md ge;have ge:∀{M:Mem},zP M .ge (N 0) (N 1000000000000000000)=some false:=λ{M}=>ge;have md:∀{M:Mem},qp M .mod (N 0) (N 998244353)=some (N c,true):=λ{M}=>md;rw[qL t20 ⟨rfl,by decide⟩ hk,b20,show Cs.getD 20 []=[] from rfl];simp[h1',qDE,ge,md,m1,pw,md2,lim,stT,-qDB];rw[qC rfl]
theorem bag(hk:1<=k)(ns:List Int){kk:Nat}(hkk:kk<=63)(M:Mem):∃g s,Pk (glT gs) Fs Cs k 20 [.fz (ns.map λn=>.v (.int n)),N kk] M=.ok ((.lst (stT g s),true),M)/\s<2147483648:=by
 by_cases h:kk<ns.length
 ·exact qDs hk hkk M (cl:=ns[kk]) (.inl ⟨by simpa using h,by rw[wQ,wA h];rfl⟩)
 ·exact qDs hk hkk M (cl:=0) (.inr ⟨by simp;omega,rfl⟩)
theorem f0(hk:1<=k)(x:Int)(M:Mem):Pk (glT gs) Fs Cs k 0 [I x] M=.ok (bT true,M):=by
 rw[qL t0 ⟨rfl,by decide⟩ hk];simp[b0,zh,qC]
theorem f0N(hk:1<=k)(i:Nat)(M:Mem):Pk (glT gs) Fs Cs k 0 [N i] M=.ok (bT true,M):=f0 hk (i:Int) M
theorem f1(hk:2<=k)(i e:Nat)(M:Mem):Pk (glT gs) Fs Cs k 1 [N i,N e] M=.ok (bT (decide (i<e)),M):=by
 rw[qL t1 ⟨rfl,by decide⟩ (by omega)];simp(disch:=omega) [b1,f0N,qC]
theorem f2(hk:1<=k){s:Nat}(hs:s<=5)(M:Mem):Pk (glT gs) Fs Cs k 2 [N s] M=.ok ((N (2 ^ s),true),M):=by
 rw[qL t2 ⟨rfl,by decide⟩ hk];have:s=0\/s=1\/s=2\/s=3\/s=4\/s=5:=by omega
 rcases this with rfl|rfl|rfl|rfl|rfl|rfl<;>simp[b2,gl0,qC]
theorem f3(hk:2<=k){s:Nat}(h1:1<=s)(hs:s<=5)(M:Mem):Pk (glT gs) Fs Cs k 3 [N s] M=.ok (bT true,M):=by
 rw[qL t3 ⟨rfl,by decide⟩ (by omega)];simp(disch:=omega) [b3,f0N,h1,hs,qC]
theorem f4(hk:3<=k){s:Nat}(h1:1<=s)(hs:s<=5)(M:Mem):Pk (glT gs) Fs Cs k 4 [N s] M=.ok ((.v .non,true),M):=by
 rw[qL t4 ⟨rfl,by decide⟩ (by omega)];simp(disch:=omega) [b4,f3,D7,h1,hs]
theorem p5{s:Nat}(h:s<=5):2 ^ s<=32:=Nat.le_trans (wt (by decide) h) (by decide)
end
theorem T7(a b:Nat):T.unds 0 (stT a b)=true:=k7 0 [a,b]
theorem zZ{M:Mem}{n:Nat}{C:Mem}(g:Jh M n):Jh (M++C) n:=by
 obtain⟨a,b,e,h⟩:=g;exact⟨a,b,by rw[List.getElem?_append_left (List.getElem?_eq_some_iff.mp e).1];exact e,h⟩
theorem zB{M C M':Mem}{n:Nat}(hn:n<M.length)(h:Kept n (M++C) M'):∃M1,M'=M1++C/\Kept n M M1:=by
 have hl:=h.len;rw[List.length_append]at hl;refine⟨M'.take M.length,?_,?_⟩
 ·apply List.ext_getElem?;intro i;by_cases hi:i<M.length
  ·rw[List.getElem?_append_left (by rw[wN];omega),wT hi]
  ·rw[List.getElem?_append_right (by rw[wN];omega),h.oth i (by omega),List.getElem?_append_right (by omega),wN,Nat.min_eq_left (by omega)]
 ·obtain⟨a,b,e,hb⟩:=h.good;refine⟨⟨a,b,by rw[wT hn];exact e,hb⟩,by rw[wN];omega,λj hj=>?_⟩;by_cases hi:j<M.length
  ·rw[wT hi,h.oth j hj,List.getElem?_append_left hi]
  ·rw[wp (by rw[wN];omega),wp (by omega)]
end My
namespace My
open PySem PySem.Spec PI
open L2 (V)
open Nt (Stp Sg OkS OkR qX)
noncomputable def sp(p:Stp):T:=.tup [N p.1,N p.2]
noncomputable def SL(L:List Stp):List T:=L.map sp
theorem S8(p:Stp):(sp p).lf=true:=by unfold sp;simp
theorem Qs:∀L:List Stp,T.lfs (SL L)=true
 | []=>by unfold SL;simp
 |p::L=>by
  show T.lfs (sp p::SL L)=true;rw[zX,S8,Qs L];rfl
theorem jy(L:List Stp):(SL L).length=L.length:=by simp[SL]
def IsN(M:Mem)(t:T)(Ns:List (List Stp)):Prop:=∃ts,IsS M t ts/\qy (λt L=>IsS M t (SL L)) ts Ns
theorem IsN.app{M C:Mem}{t:T}{Ns:List (List Stp)}(h:IsN M t Ns):IsN (M++C) t Ns:=by
 obtain⟨ts,a,b⟩:=h;exact⟨ts,a.app,Qh (λ_ _ z=>z.app) b⟩
theorem JG(M:Mem):∀Ns:List (List Stp),qy (λt L=>IsS M t (SL L)) (Ns.map λL=>T.lst (SL L)) Ns
 | []=>rfl
 |L::Ns=>⟨L,Ns,rfl,.inl rfl,JG M Ns⟩
theorem IsN.lst(M:Mem)(Ns:List (List Stp)):IsN M (.lst (Ns.map λL=>.lst (SL L))) Ns:=⟨_,.inl rfl,JG M Ns⟩
theorem JN(ks:List (Int×V))(k j:Int)(v:V):ZI (jx ks k v) j=(ZI ks j||decide (j=k)):=by
 unfold jx;split
 ·rename_i h;unfold ZI at h ⊢;rw[List.any_map];have e:((λp:Int×V=>decide (p.1=j))∘λp=>if p.1=k then (p.1,v) else p)=λp=>decide (p.1=j):=by
   funext p
   show decide ((if p.1=k then (p.1,v) else p).1=j)=_;split<;>rfl
  rw[e];by_cases z:j=k
  ·subst z;rw[h];simp
  ·rw[vM z,Bool.or_false]
 ·unfold ZI;rw[List.any_append];congr 1;simp;exact eq_comm
section
variable{k:Nat}
theorem f5(hk:3<=k)(i:Nat)(M:Mem):Pk (glT gs) Fs Cs k 5 [N i] M=.ok (bT (decide (i<2)),M):=by
 rw[qL t5 ⟨rfl,by decide⟩ (by omega),b5,show Cs.getD 5 []=[] from rfl];simp[f1 (k:=k-1) (by omega),qC]
theorem qDP(hk:3<=k){n:Nat}{p:Stp}(h:OkS n p)(M:Mem):Pk (glT gs) Fs Cs k 11 [N n,sp p] M=.ok (bT true,M):=by
 rw[qL t11 ⟨rfl,by decide⟩ (by omega),b11,show Cs.getD 11 []=[] from rfl];have c:qP [] (.name 0) (pec (glT gs) (Pk (glT gs) Fs Cs (k-1)) .nil) (pe (glT gs) (Pk (glT gs) Fs Cs (k-1)) (.call 1 (.cons (.var 0) (.cons (.var 1) .nil)))) [N p.1,N p.2] [] true [none,some (N n)] M=.ok ((.lst [T.v (.bl true),T.v (.bl true)],true),M):=by
  have:=Zo (d:=[]) (c:=pec (glT gs) (Pk (glT gs) Fs Cs (k-1)) .nil) (e:=pe (glT gs) (Pk (glT gs) Fs Cs (k-1)) (.call 1 (.cons (.var 0) (.cons (.var 1) .nil)))) (M:=M) (σ:=[some (N n)]) (λ_=>true) (λv=>T.v (.bl (decide (v<n)))) (λ_=>true) [p.1,p.2] [] true none rfl (by simp[lim]) (λv _=>by simp) (λv _ _=>by simp[f1 (k:=k-1) (by omega),bT]);rw[zV]at this;simpa [h.1,h.2.1] using this
 have al:∀{M:Mem},zW M .all [.lst [T.v (.bl true),T.v (.bl true)]]=some (bT true):=λ{M}=>rfl;have ne:∀{M:Mem},zP M .ne (N p.1) (N p.2)=some true:=λ{M}=>by rw[qC4,vM h.2.2];rfl
 unfold sp;simp only[qu,G7,QC,pe_or,pe_not,pe_and,M9,pe_var,C9,ZB,zQ,zi,pe_comp,QQ,qV,qb,qZ];simp[zh,c,al,ne,qC,-zR]
theorem qD8(hk:3<=k){M:Mem}{d:jE}(hd:qR d M=true){n:Nat}:∀(L:List Stp) (U:List Nat) (ks:List (Int×V)) (σ:TS),(∀p∈L,OkS n p)->(U++qX L).Nodup->(∀v:Nat,ZI ks (v:Int)=decide (v∈U))->ks.length+2*L.length<=1000->∃σ',Zl (Pk (glT gs) Fs Cs k) d 11 3 (N n) (SL L) ks σ M=.ok (.nx σ',M)
 | [],U,ks,σ,_,_,_,_=>⟨σ,rfl⟩
 |p::L,U,ks,σ,h,nd,hk2,hl=>by
  have hp:=h p (by simp);have e:=qDP hk hp M;have nd':(U++([p.1,p.2]++qX L)).Nodup:=nd;rw[<-wL]at nd';have a1:p.1∉U:=λz=>by
   rw[wR]at nd;exact nd.2.2 p.1 z p.1 (by simp[qX]) rfl
  have a2:p.2∉U:=λz=>by
   rw[wR]at nd;exact nd.2.2 p.2 z p.2 (by simp[qX]) rfl
  have l1:=Zj ks (p.1:Int) (.bl true);have l2:=Zj (jx ks (p.1:Int) (.bl true)) (p.2:Int) (.bl true);have hl':ks.length+2*(L.length+1)<=1000:=hl;obtain⟨σ',e'⟩:=qD8 hk hd L (U++[p.1,p.2]) (jx (jx ks (p.1:Int) (.bl true)) (p.2:Int) (.bl true)) (σ.set 3 (some (sp p))) (λq hq=>h q (by simp[hq])) nd' (λv=>by
   have c1:((v:Int)=(p.1:Int))↔v=p.1:=by omega
   have c2:((v:Int)=(p.2:Int))↔v=p.2:=by omega
   rw[JN,JN,hk2 v,wy];simp only[wx,vO,wE,List.mem_cons,wU,or_false];rw[c1,c2,or_assoc]) (by omega)
  refine⟨σ',?_⟩;show Zl _ d 11 3 (N n) (sp p::SL L) ks σ M=_;unfold Zl;rw[e,PR.nx_ok,PR.bind_ok];show (if qR d M=true/\ks.length+1<lim then (if ZI ks (p.1:Int)||ZI ks (p.2:Int) then _ else _) else _)=_;rw[if_pos ⟨hd,wC (show ks.length+1<2000 by omega) (by decide)⟩,hk2,hk2,vM a1,vM a2,if_neg (by decide)];exact e'
theorem qBn(hk:4<=k){M:Mem}{t:T}{n:Nat}{L:List Stp}(i:IsS M t (SL L))(h:OkR n L):Pk (glT gs) Fs Cs k 10 [N n,t] M=.ok (bT true,M):=by
 rw[qL t10 ⟨rfl,by decide⟩ (by omega),b10,show Cs.getD 10 []=[] from rfl];obtain⟨d,s1,_,s2⟩:=i.src;have s2':=s2 [];rw[List.append_nil]at s2';have le:=h.le;obtain⟨σ',e⟩:=qD8 (k:=k-1) (by omega) s2' L [] [] [some (N n),some t,none,none] h.st (by simpa using h.nd) (λv=>rfl) (by simp;omega);simp[zh,i.ty,i.lf,Z4,s1,e,qC]
theorem qEv(hk:6<=k){M:Mem}{t:T}{s:Nat}(h1:1<=s)(h5:s<=5){Ns:List (List Stp)}(i:IsN M t Ns)(h:∀L∈Ns,OkR (2 ^ s) L)(hl:Ns.length<=40):Pk (glT gs) Fs Cs k 9 [N s,t] M=.ok (bT true,M):=by
 rw[qL t9 ⟨rfl,by decide⟩ (by omega),b9,show Cs.getD 9 []=[] from rfl];obtain⟨ts,i1,i2⟩:=i;obtain⟨d,s1,_,s2⟩:=i1.src;have s2':=s2 [];rw[List.append_nil]at s2';have ll:=qB i2;have rt:∀u∈ts,Pk (glT gs) Fs Cs (k-1) 10 [N (2 ^ s),u] M=.ok (bT true,M):=λu hu=>by
  obtain⟨j,hj⟩:=vE hu;obtain⟨L,eL,r⟩:=qr i2 hj;exact qBn (by omega) r (h L (List.mem_of_getElem? eL))
 have c:qP d (.name 0) (pec (glT gs) (Pk (glT gs) Fs Cs (k-1)) .nil) (pe (glT gs) (Pk (glT gs) Fs Cs (k-1)) (.call 10 (.cons (.call 2 (.cons (.var 1) .nil)) (.cons (.var 0) .nil)))) ts [] true [none,some (N s)] M=.ok ((.lst (ts.map λ_=>T.v (.bl true)),true),M):=by
  have:=O9 (d:=d) (gl:=glT gs) (P:=Pk (glT gs) Fs Cs (k-1)) (e:=pe (glT gs) (Pk (glT gs) Fs Cs (k-1)) (.call 10 (.cons (.call 2 (.cons (.var 1) .nil)) (.cons (.var 0) .nil)))) (σ:=[some (N s)]) (M:=M) (λ_=>T.v (.bl true)) (λ_=>true) s2' ts [] true none (by simp[lim];omega) (λu hu=>by simp[f2 (k:=k-1) (by omega) h5,rt u hu,bT]);rw[show (ts.all λ_=>true)=true from wK.mpr λ_ _=>rfl]at this;simpa using this
 have al:∀{M:Mem},zW M .all [.lst (ts.map λ_=>T.v (.bl true))]=some (bT true):=λ{M}=>by
  rw[qAu (λ_=>true),show (ts.all λ_=>true)=true from wK.mpr λ_ _=>rfl]
 have gt:∀{M:Mem},zP M .gt (N ts.length) (N 40)=some false:=λ{M}=>by rw[qCv,vM (by omega)]
 simp only[qu,n8,pe_call,G7,QC,pe_or,pe_not,M9,pe_var,C9,ZB,zQ,zi,pe_comp,QQ,qV,qb,qZ];simp[f4 (k:=k-1) (by omega) h1 h5,zh,i1.ty,i1.len,gt,s1,c,al,qC,-zR]
theorem qEd(hk:1<=k)(a b:Nat)(M:Mem):Pk (glT gs) Fs Cs k 7 [.lst [N a,N b]] M=.ok ((N ((a+b) % 2),true),M):=by
 rw[qL t7 ⟨rfl,by decide⟩ hk,b7,show Cs.getD 7 []=[] from rfl];have s:∀{M:Mem},zW M .sum [.lst [N a,N b]]=some (N (a+b),true):=λ{M}=>by
  show zW M .sum [NL [a,b]]=_;rw[(IsL.nl M [a,b]).sum];simp
 simp(disch:=omega) [s,jb,qC]
theorem qAe{x:List Nat}{i:Nat}(h:i<x.length):(x.map N)[i]?=some (N (x.getD i 0)):=by
 rw[wQ,wA h,wI,wA h];rfl
theorem qEW(hk:1<=k){M:Mem}{n:Nat}{d:jE}(hd:∀C,qR d (M++C)=true){a0 a1 a3:Option T}:∀(L:List Stp) (x:List Nat) (o:Option T),(∀p∈L,OkS n p)->Sg n x ->
  ∃o',qm d (.name 4) (pxs (glT gs) (Pk (glT gs) Fs Cs k) [2] Z6) (SL L) [a0,a1,some (.cell M.length),a3,o] (M++[x.map N])=.ok (.nx [a0,a1,some (.cell M.length),a3,o'],M++[(Nt.row x L).map N])
 | [],x,o,_,_=>⟨o,rfl⟩
 |p::L,x,o,h,hx=>by
  obtain⟨o',e⟩:=qEW hk hd (a0:=a0) (a1:=a1) (a3:=a3) L (Nt.one x p) (some (sp p)) (λq hq=>h q (by simp[hq])) (Nt.one_sg hx p);refine⟨o',?_⟩;have hp:=h p (by simp);have h1:=qAe (x:=x) (i:=p.1) (by rw[hx.1];exact hp.1);have h2:=qAe (x:=x) (i:=p.2) (by rw[hx.1];exact hp.2.1);have g0:(M++[x.map N])[M.length]?=some (x.map N):=by simp
  have i0:∀j:Nat,jv (M++[x.map N]) (.cell M.length) (N j)=((x.map N)[j]?).map λt=>(t,t.lf):=λj=>by rw[QG,g0];rfl
  have x0:∀{M:Mem},jv M (sp p) (N 0)=some (N p.1,true):=λ{M}=>by unfold sp;rw[JX];simp
  have x1:∀{M:Mem},jv M (sp p) (N 1)=some (N p.2,true):=λ{M}=>by unfold sp;rw[JX];simp
  have st:(x.map N).set p.1 (N ((x.getD p.1 0+x.getD p.2 0) % 2))=(Nt.one x p).map N:=by unfold Nt.one;rw[List.map_set]
  have pt:i7 (M++[x.map N]) (.cell M.length) (N p.1) (N ((x.getD p.1 0+x.getD p.2 0) % 2))=some (M++[(Nt.one x p).map N]):=by
   rw[C2 g0 (by rw[wH,hx.1];exact hp.1),st,wP _ _ (by omega)];simp
  clear st;generalize x.getD p.1 0=va at h1 pt;generalize x.getD p.2 0=vb at h2 pt;have body:pxs (glT gs) (Pk (glT gs) Fs Cs k) [2] Z6 [a0,a1,some (.cell M.length),a3,some (sp p)] (M++[x.map N])=.ok (.nx [a0,a1,some (.cell M.length),a3,some (sp p)],M++[(Nt.one x p).map N]):=by
   rw[Z6];simp[-QG,-Y2,x0,x1,i0,h1,h2,qEd hk,pt,lim]
  show qm d (.name 4) _ (sp p::SL L) _ _=_;rw[qm];rw[show qo (.name 4) (sp p) [a0,a1,some (.cell M.length),a3,o]=some [a0,a1,some (.cell M.length),a3,some (sp p)] from rfl];dsimp only;rw[body,PR.bind_ok];dsimp only;rw[if_pos (hd _)];exact e
theorem qEA(hk:1<=k){M:Mem}{n:Nat}{d:jE}(hd:∀C,qR d (M++C)=true){a0 a1:Option T}:∀(ts:List T) (Ns:List (List Stp)) (x:List Nat) (o3 o4:Option T),qy (λt L=>IsS M t (SL L)) ts Ns->(∀L∈Ns,OkR n L)->Sg n x ->
  ∃p3 p4,qm d (.name 3) (pxs (glT gs) (Pk (glT gs) Fs Cs k) [2] X2) ts [a0,a1,some (.cell M.length),o3,o4] (M++[x.map N])=.ok (.nx [a0,a1,some (.cell M.length),p3,p4],M++[(Nt.net x Ns).map N])
 | [],Ns,x,o3,o4,r,_,_=>by
  cases (show Ns=[] from r);exact⟨o3,o4,rfl⟩
 |t::ts,_,x,o3,o4,⟨L,Ns,rfl,r,rs⟩,h,hx=>by
  obtain⟨d',s1,_,s2⟩:=(r.app (C:=[x.map N])).src;have s2'':∀C,qR d' (M++C)=true:=by
   rcases r with rfl|⟨m,rfl,e⟩
   ·cases s1;exact λ_=>rfl
   ·have e':(M++[x.map N])[m]?=some (SL L):=by rw[List.getElem?_append_left (List.getElem?_eq_some_iff.mp e).1];exact e
    rw[QW e']at s1;cases s1;exact λC=>JP (by rw[List.getElem?_append_left (List.getElem?_eq_some_iff.mp e).1];exact e)
  obtain⟨o',e1⟩:=qEW hk s2'' (a0:=a0) (a1:=a1) (a3:=some t) L x o4 (h L (by simp)).st hx;obtain⟨p3,p4,e2⟩:=qEA hk hd (a0:=a0) (a1:=a1) ts Ns (Nt.row x L) (some t) o' rs (λK hK=>h K (by simp[hK])) (Nt.row_sg L hx);refine⟨p3,p4,?_⟩;rw[qm,show qo (.name 3) t [a0,a1,some (.cell M.length),o3,o4]=some [a0,a1,some (.cell M.length),some t,o4] from rfl];have body:pxs (glT gs) (Pk (glT gs) Fs Cs k) [2] X2 [a0,a1,some (.cell M.length),some t,o4] (M++[x.map N])=.ok (.nx [a0,a1,some (.cell M.length),some t,o'],M++[(Nt.row x L).map N]):=by
   rw[X2];simp[r.lf,s1,e1]
  dsimp only;rw[body,PR.bind_ok];dsimp only;rw[if_pos (hd _)];exact e2
theorem chk(hk:7<=k){M:Mem}{t:T}{s:Nat}(h1:1<=s)(h5:s<=5){Ns:List (List Stp)}(i:IsN M t Ns)(h:∀L∈Ns,OkR (2 ^ s) L)(hl:Ns.length<=40):Pk (glT gs) Fs Cs k 12 [N s,t] M=.ok ((.v .non,true),M):=by
 rw[qL t12 ⟨rfl,by decide⟩ (by omega),b12,show Cs.getD 12 []=[] from rfl];simp[qEv (k:=k-1) (by omega) h1 h5 i h hl,D7]
theorem qFB(hk:2<=k){M:Mem}(hW:WfM M){t r:T}{n:Nat}{Ns:List (List Stp)}(i:IsN M t Ns)(h:∀L∈Ns,OkR n L){x:List Nat}(j:IsS M r (x.map N))(hx:Sg n x):Pk (glT gs) Fs Cs k 13 [t,r] M=.ok ((NL (Nt.net x Ns),true),M):=by
 rw[qL t13 ⟨rfl,by decide⟩ (by omega),b13,show Cs.getD 13 []=[2] from rfl];obtain⟨ts,i1,i2⟩:=i;obtain⟨d,s1,_,s2⟩:=(i1.app (C:=[x.map N])).src;have s2'':∀C,qR d (M++C)=true:=by
  rcases i1 with rfl|⟨m,rfl,e⟩
  ·cases s1;exact λ_=>rfl
  ·have e':(M++[x.map N])[m]?=some ts:=by rw[List.getElem?_append_left (List.getElem?_eq_some_iff.mp e).1];exact e
   rw[QW e']at s1;cases s1;exact λC=>JP (by rw[List.getElem?_append_left (List.getElem?_eq_some_iff.mp e).1];exact e)
 obtain⟨p3,p4,e⟩:=qEA (k:=k-1) (by omega) s2'' (a0:=some t) (a1:=some r) ts Ns x none none i2 h hx;have lt:lT (x.map N)=(NL x,true):=qDf x;simp[j.list,lt,i1.lf,s1,e];exact zU rfl hW (by simp) (Nat.le_refl _) (ZY _) _
end
end My
namespace My
open PySem PySem.Spec PI
open L2 (V)
open Nt (Stp Sg OkS OkR qX)
theorem zK{n:Nat}{M M':Mem}(h:WfM M)(k:Kept n M M'):WfM M':=by
 unfold WfM at *;rw[wK]at h ⊢;intro c hc;rw[k.len];obtain⟨j,hj⟩:=vE hc;by_cases e:j=n
 ·subst e;obtain⟨g,s,e1,_⟩:=k.good;rw[e1]at hj;cases hj;exact zD (Nat.zero_le _) _ (T7 g s)
 ·rw[k.oth j e]at hj;exact h c (List.mem_of_getElem? hj)
theorem j9:∀(S:List Nat) (d:Nat),(S.map N).eraseIdx d=(S.eraseIdx d).map N
 | [],d=>by simp
 |x::S,0=>rfl
 |x::S,d+1=>by
  show N x::(S.map N).eraseIdx d=N x::(S.eraseIdx d).map N;rw[j9 S d]
theorem qBu{M:Mem}{c d:Nat}{S:List Nat}(h:M[c]?=some (S.map N))(hd:d<S.length)(hl:S.length<=1000):Zp .popAt c [N d] M=some ((N (S.getD d 0),true),M.set c ((S.eraseIdx d).map N)):=by
 show ((M[c]?).bind λxs=>if xs.length<=lim then (ixN xs.length (d:Int)).bind λk=>(xs[k]?).map λy=>((y,y.lf),M.set c (xs.eraseIdx k)) else none)=_;have ix:ixN (S.map N).length (d:Int)=some d:=by
  unfold ixN L2.ixN;simp;omega
 rw[h,Option.bind_some,if_pos (by rw[wH];exact Nat.le_trans hl (by decide)),ix,Option.bind_some,qAe hd,Option.map_some,lfN,j9]
theorem G1:∀{L:List Stp},(qX L).Nodup->∀p∈L,p.1≠p.2
 |q::L,h,p,hp=>by
  have h':([q.1,q.2]++qX L).Nodup:=h;rw[wR]at h';rcases List.mem_cons.mp hp with rfl|hp
  ·have:=h'.1;simp at this;exact this
  ·exact G1 h'.2.1 p hp
theorem JF{L:List Stp}{p:Stp}(h:p∈L):p.1∈qX L/\p.2∈qX L:=by
 unfold qX;exact⟨List.mem_flatMap.mpr ⟨p,h,by simp⟩,List.mem_flatMap.mpr ⟨p,h,by simp⟩⟩
theorem ju:∀{S:List Nat}{d:Nat},d<S.length->(S.getD d 0::S.eraseIdx d).Perm S
 | [],d,h=>by simp at h
 |x::S,0,h=>.refl _
 |x::S,d+1,h=>by
  have:=ju (S:=S) (d:=d) (by simpa using h);show (S.getD d 0::x::S.eraseIdx d).Perm (x::S);exact(List.Perm.swap x _ _).trans (this.cons x)
section
variable{k:Nat}
theorem j8(hk:1<=k){n nb c:Nat}{a1:Option T}:∀(m i:Nat) (S:List Nat) (L:List Stp) (A:Mem) (o4 o5 o6:Option T),A.length=c->Jh A nb->2*m<=S.length->S.length<=100->(qX L++S).Nodup->(∀v∈qX L++S,v<n)->L.length+m<=100 ->
  ∃L' S' A' p4 p5 p6,qm [] (.name 4) (pxs (glT gs) (Pk (glT gs) Fs Cs k) [2,3] U0) ((List.range' i m).map N) [some (.cell nb),a1,some (.cell c),some (.cell (c+1)),o4,o5,o6] (A++[S.map N,SL L])=.ok (.nx [some (.cell nb),a1,some (.cell c),some (.cell (c+1)),p4,p5,p6],A'++[S'.map N,SL L'])/\Kept nb A A'/\(qX L'++S').Nodup/\(∀v∈qX L'++S',v<n)/\L'.length<=100
 | 0,i,S,L,A,o4,o5,o6,hc,g,hm,hS,nd,lt,hl=>⟨L,S,A,o4,o5,o6,rfl,⟨g,rfl,λ_ _=>rfl⟩,nd,lt,by omega⟩
 |m+1,i,S,L,A,o4,o5,o6,hc,g,hm,hS,nd,lt,hl=>by
  have hb:∀{B:Mem},Jh B nb->nb<B.length:=λ{B} z=>by
   obtain⟨a,s,e,_⟩:=z;exact(List.getElem?_eq_some_iff.mp e).1
  obtain⟨d1,M1,e1,h1,k1⟩:=out (k:=k) hk (zZ (C:=[S.map N,SL L]) g) (m:=S.length) (by omega);obtain⟨A1,rfl,kk1⟩:=zB (hb g) k1;obtain⟨S1,hS1⟩:∃S1,S1=S.eraseIdx d1:=⟨_,rfl⟩
  have lS1:S1.length=S.length-1:=by rw[hS1,List.length_eraseIdx_of_lt h1]
  obtain⟨d2,M2,e2,h2,k2⟩:=out (k:=k) hk (zZ (C:=[S1.map N,SL L]) kk1.good) (m:=S1.length) (by omega);obtain⟨A2,rfl,kk2⟩:=zB (hb kk1.good) k2;obtain⟨S2,hS2⟩:∃S2,S2=S1.eraseIdx d2:=⟨_,rfl⟩
  have lS2:S2.length=S1.length-1:=by rw[hS2,List.length_eraseIdx_of_lt h2]
  have c1:A1.length=c:=kk1.len.trans hc;have c2:A2.length=c:=kk2.len.trans c1;have pr1:=ju h1;have pr2:=ju h2;rw[<-hS1]at pr1;rw[<-hS2]at pr2;have g0:∀{B:Mem}(X Y:List T),B.length=c->(B++[X,Y])[c]?=some X:=λ{B} X Y z=>by rw[<-z];simp
  have g1:∀{B:Mem}(X Y:List T),B.length=c->(B++[X,Y])[c+1]?=some Y:=λ{B} X Y z=>by rw[<-z,List.getElem?_append_right (by omega)];simp
  have s0:∀{B:Mem}(X Y Z:List T),B.length=c->(B++[X,Y]).set c Z=B++[Z,Y]:=λ{B} X Y Z z=>by rw[<-z,wP _ _ (by omega)];simp
  have s1:∀{B:Mem}(X Y Z:List T),B.length=c->(B++[X,Y]).set (c+1) Z=B++[X,Z]:=λ{B} X Y Z z=>by rw[<-z,wP _ _ (by omega)];simp
  have p1:=qBu (M:=A1++[S.map N,SL L]) (c:=c) (d:=d1) (S:=S) (g0 _ _ c1) h1 (by omega);rw[s0 _ _ _ c1,<-hS1]at p1;have p2:=qBu (M:=A2++[S1.map N,SL L]) (c:=c) (d:=d2) (S:=S1) (g0 _ _ c2) h2 (by omega);rw[s0 _ _ _ c2,<-hS2]at p2;generalize S.getD d1 0=va at p1 pr1;generalize S1.getD d2 0=vb at p2 pr2;have perm:(qX (L++[(va,vb)])++S2).Perm (qX L++S):=by
   rw[Nt.spots_app,wL];refine List.Perm.append_left _ ?_;show (va::vb::S2).Perm S;exact(pr2.cons va).trans pr1
  have ap:qA8 (A2++[S2.map N,SL L]) (c+1) (sp (va,vb))=some (A2++[S2.map N,SL (L++[(va,vb)])]):=by
   rw[r9 (g1 _ _ c2) (by rw[jy];exact wC (show L.length<200 by omega) (by decide)),s1 _ _ _ c2];unfold SL;rw[wS];rfl
  have ln:∀{B:Mem}(X:List Nat) (Y:List T),B.length=c->zW (B++[X.map N,Y]) .len [.cell c]=some (N X.length,true):=λ{B} X Y z=>(IsL.cell (g0 _ _ z)).len;obtain⟨L',S',A',p4,p5,p6,e,kk,n',l',z'⟩:=j8 hk (a1:=a1) m (i+1) S2 (L++[(va,vb)]) A2 (some (N i)) (some (N va)) (some (N vb)) c2 kk2.good (by omega) (by omega) (perm.nodup_iff.mpr nd) (λv hv=>lt v (perm.mem_iff.mp hv)) (by simp;omega);refine⟨L',S',A',p4,p5,p6,?_,(kk1.trans kk2).trans kk,n',l',z'⟩;have body:pxs (glT gs) (Pk (glT gs) Fs Cs k) [2,3] U0 [some (.cell nb),a1,some (.cell c),some (.cell (c+1)),some (N i),o5,o6] (A++[S.map N,SL L])=.ok (.nx [some (.cell nb),a1,some (.cell c),some (.cell (c+1)),some (N i),some (N va),some (N vb)],A2++[S2.map N,SL (L++[(va,vb)])]):=by
   rw[U0];simp[ln S (SL L) hc,e1,p1,ln S1 (SL L) c1,e2,p2,show T.tup [N va,N vb]=sp (va,vb) from rfl,ap,lim]
  rw[wZ,List.map_cons,zJ,show ([some (.cell nb),a1,some (.cell c),some (.cell (c+1)),o4,o5,o6]:TS).set 4 (some (N i))=[some (.cell nb),a1,some (.cell c),some (.cell (c+1)),some (N i),o5,o6] from rfl,body,PR.bind_ok];exact e
theorem qAz(hk:2<=k){M:Mem}{nb s:Nat}(hs:s<=5)(hW:WfM M)(g:Jh M nb):∃L M',Pk (glT gs) Fs Cs k 23 [.cell nb,N s] M=.ok ((.lst (SL L),true),M')/\OkR (2 ^ s) L/\Kept nb M M':=by
 have n5:=p5 hs;have sl:∀{M:Mem},qp M .shl (N 1) (N s)=some (N (2 ^ s),true):=λ{M}=>by rw[ZF (by omega),vF]
 generalize 2 ^ s=n at *;have hb:nb<M.length:=by
  obtain⟨a,s,e,_⟩:=g;exact(List.getElem?_eq_some_iff.mp e).1
 obtain⟨d,M1,e1,h1,k1⟩:=out (k:=k-1) (by omega) (zZ (C:=[(List.range (n)).map N,[]]) g) (m:=n / 2+1) (by omega);obtain⟨A1,rfl,kk1⟩:=zB hb k1;obtain⟨L,S,A,p4,p5,p6,e,kk,nd,lt,ll⟩:=j8 (k:=k-1) (by omega) (n:=n) (nb:=nb) (c:=M.length) (a1:=some (N s)) d 0 (List.range (n)) [] A1 none none none kk1.len kk1.good (by simp;omega) (by simp;omega) (by simpa [qX] using List.nodup_range) (λv hv=>by simpa [qX] using hv) (by simp;omega);rw[<-wu]at e;have kt:=kk1.trans kk;refine⟨L,A,?_,⟨λp hp=>⟨lt _ (wF _ (JF hp).1),lt _ (wF _ (JF hp).2),G1 (wR.mp nd).1 p hp⟩,(wR.mp nd).1,ll⟩,kt⟩;rw[qL t23 ⟨rfl,by decide⟩ (by omega),b23,show Cs.getD 23 []=[2,3] from rfl];have fd:∀{M:Mem},qp M .fdiv (N (n)) (N 2)=some (N (n / 2),true):=λ{M}=>QZ (by decide);have lr:=U1 (n:=n) (by omega);have th:∀m,thaw m (.lst ((List.range (n)).map N))=(.cell m,[(List.range (n)).map N]):=λm=>T8 m _;have th0:∀m,thaw m (.lst [])=(.cell m,[[]]):=λm=>by simp[thaw,zN]
 have rg:=zq (n:=d) (by omega);have e:qm [] (.name 4) (pxs (glT gs) (Pk (glT gs) Fs Cs (k-1)) [2,3] U0) ((List.range d).map N) [some (.cell nb),some (N s),some (.cell M.length),some (.cell (M.length+1)),none,none,none] (A1++[(List.range (n)).map N,[]])=.ok (.nx [some (.cell nb),some (N s),some (.cell M.length),some (.cell (M.length+1)),p4,p5,p6],A++[S.map N,SL L]):=e;simp[sl,fd,lr,th,th0,e1,rg,e,lim];exact zU (c:=M.length+1) kt.len (zK hW kt) (by rw[<-kt.len,List.getElem?_append_right (by omega)];simp) (by rw[kt.len];omega) (Qs L) _
theorem V3{its zs:List T}{n:Nat}:qy (λ_ z=>∃L,z=T.lst (SL L)/\OkR n L) its zs->∃Ns:List (List Stp),zs=Ns.map (λL=>T.lst (SL L))/\(∀L∈Ns,OkR n L)/\Ns.length=its.length:=by
 induction its generalizing zs with
 |nil=>intro h;cases (show zs=[] from h);exact⟨[],rfl,by simp,rfl⟩
 |cons x r ih=>
  rintro⟨z,zs',rfl,⟨L,rfl,hL⟩,h⟩;obtain⟨Ns,rfl,a,b⟩:=ih h;exact⟨L::Ns,rfl,λK hK=>by
   rcases List.mem_cons.mp hK with rfl|hK
   ·exact hL
   ·exact a K hK,by simp[b]⟩
theorem net(hk:3<=k){M:Mem}{nb s:Nat}(hs:s<=5)(hW:WfM M)(g:Jh M nb):∃(Ns:List (List Stp)) (M':Mem),Pk (glT gs) Fs Cs k 24 [.cell nb,N s] M=.ok ((.lst (Ns.map λL=>.lst (SL L)),true),M')/\(∀L∈Ns,OkR (2 ^ s) L)/\Ns.length<=40/\Kept nb M M':=by
 obtain⟨d,M1,e1,h1,k1⟩:=out (k:=k-1) (by omega) g (m:=6) (by decide);obtain⟨w,ew,hw⟩:∃w,([N 0,N 1,N 2,N 3,N 5,N 40]:List T)[d]?=some (N w)/\w<=40:=by
  have:d=0\/d=1\/d=2\/d=3\/d=4\/d=5:=by omega
  rcases this with rfl|rfl|rfl|rfl|rfl|rfl<;>exact⟨_,rfl,by decide⟩
 obtain⟨zs,M2,e2,j2,p2⟩:=i8 (d:=[]) (gl:=glT gs) (P:=Pk (glT gs) Fs Cs (k-1)) (e:=pe (glT gs) (Pk (glT gs) Fs Cs (k-1)) (.call 23 (.cons (.var 1) (.cons (.var 2) .nil)))) (σ:=[some (.cell nb),some (N s)]) (J:=λM'=>Kept nb M M') (Pr:=λ_ z=>∃L,z=T.lst (SL L)/\OkR (2 ^ s) L) ((List.range w).map N) [] true none M1 (by simp[lim];omega) k1 (λ_ _=>rfl) (λx _ M' hJ=>by
  obtain⟨L,M'',e,o,kk⟩:=qAz (k:=k-1) (by omega) hs (zK hW hJ) hJ.good;exact⟨.lst (SL L),M'',by simp[e],hJ.trans kk,L,rfl,o⟩)
 obtain⟨Ns,rfl,a,b⟩:=V3 p2;refine⟨Ns,M2,?_,a,by rw[b];simp;exact hw,j2⟩;rw[qL t24 ⟨rfl,by decide⟩ (by omega),b24,show Cs.getD 24 []=[] from rfl];have rg:=zq (n:=w) (by omega);have e2:qP [] (.name 0) (pec (glT gs) (Pk (glT gs) Fs Cs (k-1)) .nil) (pe (glT gs) (Pk (glT gs) Fs Cs (k-1)) (.call 23 (.cons (.var 1) (.cons (.var 2) .nil)))) ((List.range w).map N) [] true [none,some (.cell nb),some (N s)] M1=.ok ((.lst (Ns.map λL=>.lst (SL L)),true),M2):=by simpa using e2
 simp only[qu,QC,pe_comp,zY,qCJ,pe_lst,pe_call,zQ,zi,pe_var,W2,qV,qb,qZ];simp[e1,ew,rg,e2,lim,-zR];rw[qC j2.len]
end
end My
namespace My
open PySem PySem.Spec PI
open L2 (V)
open Nt (Stp Sg OkS OkR qX)
section
variable{k:Nat}
theorem slm{M:Mem}{t:T}{L:List Nat}(h:IsL M t L)(xs:List T)(lo hi:Option Int):m5 t xs lo hi=some (lT (jk xs lo hi)):=by
 cases t with
 |tup ts=>exact absurd h.ty (by show some "tuple"≠some "list";decide)
 |_=>rfl
theorem f6(hk:4<=k){M:Mem}{t:T}{L:List Nat}(h:IsL M t L)(hl:L.length<=1000)(m:Nat):Pk (glT gs) Fs Cs k 6 [t,N m] M=.ok (bT (decide (L.length=m)&&L.all λx=>decide (x<2)),M):=by
 rw[qL t6 ⟨rfl,by decide⟩ (by omega),b6];obtain⟨d,s1,_,s2⟩:=h.src;have c:=Zo (d:=d) (c:=pec (glT gs) (Pk (glT gs) Fs Cs (k-1)) .nil) (e:=pe (glT gs) (Pk (glT gs) Fs Cs (k-1)) (.call 5 (.cons (.var 0) .nil))) (M:=M) (σ:=[]) (λ_=>true) (λx=>.v (.bl (decide (x<2)))) (λ_=>true) L [] true none s2 (by simp[lim];omega) (λx _=>by simp) (λx _ _=>by simp(disch:=omega) [f5,bT]);rw[zV,List.nil_append]at c;by_cases hm:L.length=m
 ·simp[h.ty,zh,h.len,hm,s1,c,qAu,qC]
 ·simp[h.ty,zh,h.len,hm,qC]
noncomputable def xr(x y:Nat):Nat:=(x+y) % 2
theorem f7(hk:1<=k)(x y:Nat)(M:Mem):Pk (glT gs) Fs Cs k 7 [NL [x,y]] M=.ok ((N (xr x y),true),M):=by
 rw[qL t7 ⟨rfl,by decide⟩ hk];have:=(IsL.nl M [x,y]).sum;simp(disch:=omega) [b7,this,jb,qC,xr,O6]
theorem f8(hk:2<=k){A B:List Nat}(hl:A.length<=1000)(M:Mem):Pk (glT gs) Fs Cs k 8 [NL A,NL B] M=.ok ((NL (List.zipWith xr A B),true),M):=by
 rw[qL t8 ⟨rfl,by decide⟩ (by omega),b8];have c:=G0 (gl:=glT gs) (P:=Pk (glT gs) Fs Cs (k-1)) (d:=[]) (e:=pe (glT gs) (Pk (glT gs) Fs Cs (k-1)) (.call 7 (.cons (.lst (.cons (.var 0) (.cons (.var 1) .nil))) .nil))) (M:=M) xr rfl A B [] true none none (by simp[lim];omega) (λx y _ _=>by
  have:=f7 (k:=k-1) (by omega) x y M;simp[NL]at this;simp[lim,this])
 simp at c;simp[O6,V9,NL];simp[NL]at c;rw[c,PR.bind_ok,PR.bind_ok];simp[qC]
noncomputable def wrd:Nat->List Nat->List Nat
 | 0,L=>L
 |s+1,L=>List.zipWith xr (wrd s (L.take (2 ^ s))) (wrd s (L.drop (2 ^ s)))++wrd s (L.drop (2 ^ s))
theorem Zg:∀(s:Nat) (L:List Nat),L.length=2 ^ s->(wrd s L).length=2 ^ s
 | 0,L,h=>h
 |s+1,L,h=>by
  have h':L.length=2 ^ s+2 ^ s:=by rw[h,vH];omega
  have l1:=Zg s (L.take (2 ^ s)) (by rw[wN];omega);have l2:=Zg s (L.drop (2 ^ s)) (by rw[wb];omega);show (List.zipWith xr _ _++wrd s _).length=_;rw[List.length_append,List.length_zipWith,l1,l2,vH];omega
theorem f16:∀(s:Nat){k:Nat}(hk:s+3<=k) (hs:s<=5){M:Mem}{t:T}{L:List Nat}(h:IsL M t L) (hl:L.length=2 ^ s),Pk (glT gs) Fs Cs k 16 [t] M=.ok ((NL (wrd s L),true),M)
 | 0,k,hk,hs,M,t,L,h,hl=>by
  rw[qL t16 ⟨rfl,by decide⟩ (by omega),b16];simp[h.len,hl,h.list,qC,wrd]
 |s+1,k,hk,hs,M,t,L,h,hl=>by
  have h5:=p5 (show s<=5 by omega);have hp:0<2 ^ s:=Nat.pow_pos (by decide);have hl':L.length=2 ^ s+2 ^ s:=by rw[hl,vH];omega
  have i1:=f16 s (k:=k-1) (by omega) (by omega) (IsL.nl M (L.take (2 ^ s))) (by rw[wN];omega);have i2:=f16 s (k:=k-1) (by omega) (by omega) (IsL.nl M (L.drop (2 ^ s))) (by rw[wb];omega);have l1:=Zg s (L.take (2 ^ s)) (by rw[wN];omega);have l2:=Zg s (L.drop (2 ^ s)) (by rw[wb];omega);have n1:¬ (2 ^ s+2 ^ s=1):=by omega
  have d1:(2 ^ s+2 ^ s) / 2=2 ^ s:=by omega
  have x1:jk (L.map N) none (some ((2 ^ s:Nat):Int))=(L.take (2 ^ s)).map N:=by rw[jZ (by simp;omega),List.map_take]
  have x2:jk (L.map N) (some ((2 ^ s:Nat):Int)) none=(L.drop (2 ^ s)).map N:=by rw[jd (by simp;omega),List.map_drop]
  have hL:∀K:List Nat,lT (K.map N)=(NL K,true):=λK=>by unfold lT;rw[ZY];rfl
  rw[qL t16 ⟨rfl,by decide⟩ (by omega),b16,show Cs.getD 16 []=[] from rfl];have x1':jk (L.map N) none (some ((2:Int) ^ s))=(L.take (2 ^ s)).map N:=by rw[<-x1];simp
  have x2':jk (L.map N) (some ((2:Int) ^ s)) none=(L.drop (2 ^ s)).map N:=by rw[<-x2];simp
  have y1:lT (jk (L.map N) none (some ((2:Int) ^ s)))=(NL (L.take (2 ^ s)),true):=by rw[x1',hL]
  have y2:lT (jk (L.map N) (some ((2:Int) ^ s)) none)=(NL (L.drop (2 ^ s)),true):=by rw[x2',hL]
  simp(disch:=omega) [h.len,hl',n1,QZ,d1,h.its,slm h,y1,y2,i1,i2,O6,f8,l1];rw[qCc (by simp[l1,l2,lim];omega)];simp[qC,wrd]
theorem f15(hk:5<=k){M:Mem}{t:T}{L:List Nat}(h:IsL M t L){s:Nat}(h1:1<=s)(hs:s<=5)(hl:L.length=2 ^ s)(hb:∀x∈L,x<2):Pk (glT gs) Fs Cs k 15 [t] M=.ok (bT true,M):=by
 have h5:=p5 hs;have ha:(L.all λx=>decide (x<2))=true:=by rw[wK];exact λx hx=>vN (hb x hx)
 rw[qL t15 ⟨rfl,by decide⟩ (by omega),b15];have c:=Zx (c:=pec (glT gs) (Pk (glT gs) Fs Cs (k-1)) .nil) (e:=pe (glT gs) (Pk (glT gs) Fs Cs (k-1)) (.call 6 (.cons (.var 1) (.cons (.call 2 (.cons (.var 0) .nil)) .nil)))) (M:=M) (σ:=[some t]) (λ_=>true) (λx=>.v (.bl (decide (L.length=2 ^ x)))) (λ_=>true) (List.range' 1 5) [] true none (by simp[lim]) (λx _=>by simp) (λx hx _=>by
  have hx:x<=5:=by simp[List.mem_range']at hx;omega
  have:=f6 (k:=k-1) (by omega) h (by omega) (2 ^ x);simp(disch:=omega) [f2,hx,this,ha,bT])
 rw[zV,List.nil_append]at c;simp(disch:=omega) [r6,c,qDG,qC];have:s=1\/s=2\/s=3\/s=4\/s=5:=by omega
 rw[hl];rcases this with rfl|rfl|rfl|rfl|rfl<;>simp[List.range']
theorem f14(hk:10<=k){M:Mem}{t:T}{L:List Nat}(h:IsL M t L){s:Nat}(h1:1<=s)(hs:s<=5)(hl:L.length=2 ^ s)(hb:∀x∈L,x<2):Pk (glT gs) Fs Cs k 14 [t] M=.ok ((NL (wrd s L),true),M):=by
 rw[qL t14 ⟨rfl,by decide⟩ (by omega),b14];have e8:=f15 (k:=k-1) (by omega) h h1 hs hl hb;have e9:=f16 s (k:=k-1) (by omega) hs h hl;simp[e8,e9,qC]
end
noncomputable def W(L:List Nat)(t:Nat):Nat:=(((List.range L.length).filter λp=>decide (p&&& t=t)).map λp=>L.getD p 0).sum % 2
noncomputable def W1(n:Nat)(c:Nat->Bool)(f:Nat->Nat):Nat:=(((List.range n).filter c).map f).sum
theorem E6(n:Nat)(c:Nat->Bool)(f:Nat->Nat):W1 (n+n) c f=W1 n c f+W1 n (λp=>c (n+p)) (λp=>f (n+p)):=by
 unfold W1;rw[List.range_add,List.filter_append,List.filter_map,wS,wg,List.sum_append];rfl
theorem jp{n:Nat}{c c':Nat->Bool}{f f':Nat->Nat}(hc:∀p,p<n->c p=c' p)(hf:∀p,p<n->f p=f' p):W1 n c f=W1 n c' f':=by
 unfold W1;rw[List.filter_congr (q:=c') λp hp=>hc p (wO.mp hp)];congr 1;exact wv λp hp=>hf p (wO.mp (wn.mp hp).1)
theorem T5{n:Nat}{c:Nat->Bool}{f:Nat->Nat}(hc:∀p,p<n->c p=false):W1 n c f=0:=by
 unfold W1;rw[List.filter_eq_nil_iff.mpr λp hp=>by rw[hc p (wO.mp hp)];decide];rfl
theorem O4(L:List Nat)(t:Nat):W L t=W1 L.length (λp=>decide (p&&& t=t)) (λp=>L.getD p 0) % 2:=rfl
theorem qEu:∀s,s<5->∀p,p<2 ^ s->∀t,t<2 ^ s->(2 ^ s+p)&&& t=p&&& t:=by decide +kernel
theorem qEk:∀s,s<5->∀p,p<2 ^ s->∀t,t<2 ^ s->(2 ^ s+p)&&& (2 ^ s+t)=2 ^ s+(p&&& t):=by decide +kernel
theorem P0{L:List Nat}{n p:Nat}(h:p<n):L.getD p 0=(L.take n).getD p 0:=by
 rw[wI,wI,wT h]
theorem JR{L:List Nat}{n p:Nat}:L.getD (n+p) 0=(L.drop n).getD p 0:=by
 rw[wI,wI,wz]
theorem qAZ:∀(s:Nat) (L:List Nat),s<=5->L.length=2 ^ s->(∀x∈L,x<2)->wrd s L=(List.range (2 ^ s)).map (W L)
 | 0,L,hs,hl,hb=>by
  match L,hl with
  | [x],_=>
   have hx:x<2:=hb x (List.mem_cons_self ..);have:W [x] 0=x:=by
    show (([x].map λp=>p).sum % 2)=x;simp;omega
   show [x]=[W [x] 0];rw[this]
 |s+1,L,hs,hl,hb=>by
  have hl':L.length=2 ^ s+2 ^ s:=by rw[hl,vH];omega
  have la:(L.take (2 ^ s)).length=2 ^ s:=by rw[wN];omega
  have lb:(L.drop (2 ^ s)).length=2 ^ s:=by rw[wb];omega
  have ia:=qAZ s (L.take (2 ^ s)) (by omega) la λx hx=>hb x (List.mem_of_mem_take hx);have ib:=qAZ s (L.drop (2 ^ s)) (by omega) lb λx hx=>hb x (List.mem_of_mem_drop hx);show List.zipWith xr (wrd s (L.take (2 ^ s))) (wrd s (L.drop (2 ^ s)))++wrd s (L.drop (2 ^ s))=_;rw[ia,ib,show (2:Nat) ^ (s+1)=2 ^ s+2 ^ s by rw[vH];omega,List.range_add,wS,wg];have w1:∀t,t<2 ^ s->W L t=xr (W (L.take (2 ^ s)) t) (W (L.drop (2 ^ s)) t):=λt ht=>by
   rw[O4,O4,O4,hl',la,lb,E6];unfold xr;rw[<-Nat.add_mod];congr 2
   ·exact jp (λp _=>rfl) λp hp=>P0 hp
   ·exact jp (λp hp=>by rw[qEu s (by omega) p hp t ht]) λp _=>JR
  have w2:∀t,t<2 ^ s->W L (2 ^ s+t)=W (L.drop (2 ^ s)) t:=λt ht=>by
   rw[O4,O4,hl',lb,E6,T5 (λp hp=>vM λe=>by
    have:=Nat.and_le_left (n:=p) (m:=2 ^ s+t);omega),Nat.zero_add]
   congr 1;exact jp (λp hp=>by
    rw[qEk s (by omega) p hp t ht];congr 1;rw[eq_iff_iff];omega) λp _=>JR
  congr 1
  ·rw[List.zipWith_map_left,List.zipWith_map_right,List.zipWith_self];exact wv λt ht=>(w1 t (wO.mp ht)).symm
  ·exact wv λt ht=>(w2 t (wO.mp ht)).symm
theorem X3{s:Nat}{L:List Nat}(hs:s<=5)(hl:L.length=2 ^ s)(hb:∀x∈L,x<2):wrd s L=Nt.word L:=by
 rw[qAZ s L hs hl hb];unfold Nt.word;rw[hl];refine wv λt _=>?_;unfold W;rw[hl]
section
variable{k:Nat}
theorem Jp{M:Mem}{t:T}{ts:List T}(r:IsS M t ts)(C:Mem):∃d,J2 (M++C) t=some (ts,d)/\∀C,qR d (M++C)=true:=by
 rcases r with rfl|⟨m,rfl,e⟩
 ·exact⟨[],rfl,λ_=>rfl⟩
 ·have e':∀C:Mem,(M++C)[m]?=some ts:=λC=>by rw[List.getElem?_append_left (List.getElem?_eq_some_iff.mp e).1];exact e
  exact⟨_,QW (e' C),λC=>JP (e' C)⟩
theorem qDj{M:Mem}{n:Nat}{d:jE}(hd:∀C,qR d (M++C)=true){a0 a1 a3:Option T}:∀(L:List Stp) (x:List Nat) (o5 o6:Option T),(∀p∈L,OkS n p)->Sg n x ->
  ∃p5 p6,qm d (.tup [4,5]) (pxs (glT gs) (Pk (glT gs) Fs Cs k) [2] d8) (SL L) [a0,a1,some (.cell M.length),a3,o5,o6] (M++[x.map N])=.ok (.nx [a0,a1,some (.cell M.length),a3,p5,p6],M++[(Nt.row x L).map N])
 | [],x,o5,o6,_,_=>⟨o5,o6,rfl⟩
 |p::L,x,o5,o6,h,hx=>by
  obtain⟨p5,p6,e⟩:=qDj hd (a0:=a0) (a1:=a1) (a3:=a3) L (Nt.one x p) (some (N p.1)) (some (N p.2)) (λq hq=>h q (by simp[hq])) (Nt.one_sg hx p);refine⟨p5,p6,?_⟩;have hp:=h p (by simp);have h1:=qAe (x:=x) (i:=p.1) (by rw[hx.1];exact hp.1);have h2:=qAe (x:=x) (i:=p.2) (by rw[hx.1];exact hp.2.1);have g0:(M++[x.map N])[M.length]?=some (x.map N):=by simp
  have i0:∀j:Nat,jv (M++[x.map N]) (.cell M.length) (N j)=((x.map N)[j]?).map λt=>(t,t.lf):=λj=>by rw[QG,g0];rfl
  have st:(x.map N).set p.1 (N ((x.getD p.1 0+x.getD p.2 0) % 2))=(Nt.one x p).map N:=by unfold Nt.one;rw[List.map_set]
  have pt:i7 (M++[x.map N]) (.cell M.length) (N p.1) (N ((x.getD p.1 0+x.getD p.2 0) % 2))=some (M++[(Nt.one x p).map N]):=by
   rw[C2 g0 (by rw[wH,hx.1];exact hp.1),st,wP _ _ (by omega)];simp
  clear st;generalize x.getD p.1 0=va at h1 pt;generalize x.getD p.2 0=vb at h2 pt;have body:pxs (glT gs) (Pk (glT gs) Fs Cs k) [2] d8 [a0,a1,some (.cell M.length),a3,some (N p.1),some (N p.2)] (M++[x.map N])=.ok (.nx [a0,a1,some (.cell M.length),a3,some (N p.1),some (N p.2)],M++[(Nt.one x p).map N]):=by
   rw[d8];simp(disch:=omega) [-QG,-Y2,i0,h1,h2,jb,pt,lim]
  show qm d (.tup [4,5]) _ (sp p::SL L) _ _=_;rw[qm];rw[show qo (.tup [4,5]) (sp p) [a0,a1,some (.cell M.length),a3,o5,o6]=some [a0,a1,some (.cell M.length),a3,some (N p.1),some (N p.2)] from rfl];dsimp only;rw[body,PR.bind_ok];dsimp only;rw[if_pos (hd _)];exact e
theorem qDr{M:Mem}{n:Nat}{d:jE}(hd:∀C,qR d (M++C)=true){a0 a1:Option T}:∀(ts:List T) (Ns:List (List Stp)) (x:List Nat) (o3 o4 o5:Option T),qy (λt L=>IsS M t (SL L)) ts Ns->(∀L∈Ns,OkR n L)->Sg n x ->
  ∃p3 p4 p5,qm d (.name 3) (pxs (glT gs) (Pk (glT gs) Fs Cs k) [2] X5) ts [a0,a1,some (.cell M.length),o3,o4,o5] (M++[x.map N])=.ok (.nx [a0,a1,some (.cell M.length),p3,p4,p5],M++[(Nt.net x Ns).map N])
 | [],Ns,x,o3,o4,o5,r,_,_=>by
  cases (show Ns=[] from r);exact⟨o3,o4,o5,rfl⟩
 |t::ts,_,x,o3,o4,o5,⟨L,Ns,rfl,r,rs⟩,h,hx=>by
  obtain⟨d',s1,s2⟩:=Jp r [x.map N];obtain⟨q4,q5,e1⟩:=qDj (k:=k) s2 (a0:=a0) (a1:=a1) (a3:=some t) L x o4 o5 (h L (by simp)).st hx;obtain⟨p3,p4,p5,e2⟩:=qDr hd (a0:=a0) (a1:=a1) ts Ns (Nt.row x L) (some t) q4 q5 rs (λK hK=>h K (by simp[hK])) (Nt.row_sg L hx);refine⟨p3,p4,p5,?_⟩;rw[qm,show qo (.name 3) t [a0,a1,some (.cell M.length),o3,o4,o5]=some [a0,a1,some (.cell M.length),some t,o4,o5] from rfl];have body:pxs (glT gs) (Pk (glT gs) Fs Cs k) [2] X5 [a0,a1,some (.cell M.length),some t,o4,o5] (M++[x.map N])=.ok (.nx [a0,a1,some (.cell M.length),some t,q4,q5],M++[(Nt.row x L).map N]):=by
   rw[X5];simp[r.lf,s1,e1]
  dsimp only;rw[body,PR.bind_ok];dsimp only;rw[if_pos (hd _)];exact e2
theorem qEF(hk:2<=k){M:Mem}(hW:WfM M){t r:T}{n:Nat}{Ns:List (List Stp)}(i:IsN M t Ns)(h:∀L∈Ns,OkR n L){x:List Nat}(j:IsS M r (x.map N))(hx:Sg n x):Pk (glT gs) Fs Cs k 25 [t,r] M=.ok ((NL (Nt.net x Ns),true),M):=by
 rw[qL t25 ⟨rfl,by decide⟩ (by omega),b25,show Cs.getD 25 []=[2] from rfl];obtain⟨ts,i1,i2⟩:=i;obtain⟨d,s1,s2⟩:=Jp i1 [x.map N];obtain⟨p3,p4,p5,e⟩:=qDr (k:=k-1) s2 (a0:=some t) (a1:=some r) ts Ns x none none none i2 h hx;have lt:lT (x.map N)=(NL x,true):=qDf x;simp[j.list,lt,i1.lf,s1,e];exact zU rfl hW (by simp) (Nat.le_refl _) (ZY _) _
end
theorem qAC(m:Nat)(p:Stp):thaw m (sp p)=(sp p,[]):=by
 unfold sp;simp[thaw,zN]
theorem C3(m:Nat):∀L:List Stp,zN m (SL L)=(SL L,[])
 | []=>by simp[SL,zN]
 |p::L=>by
  show zN m (sp p::SL L)=_;rw[zN,qAC];simp[C3 m L];rfl
theorem v8(m:Nat)(L:List Stp):thaw m (.lst (SL L))=(.cell m,[SL L]):=by
 rw[thaw,C3];simp
noncomputable def cl(m r:Nat):List T:=(List.range' m r).map T.cell
theorem je(m r:Nat):(cl m r).length=r:=by simp[cl]
theorem JW:∀(Ns:List (List Stp)) (m:Nat),zN m (Ns.map λL=>T.lst (SL L))=(cl m Ns.length,Ns.map SL)
 | [],m=>by simp[zN,cl]
 |L::Ns,m=>by
  rw[List.map_cons,zN,v8];simp only[List.length_cons,List.length_nil];rw[JW Ns (m+(0+1))];simp[cl,wZ]
theorem B5(m:Nat)(Ns:List (List Stp)):thaw m (.lst (Ns.map λL=>T.lst (SL L)))=(.cell (m+Ns.length),Ns.map SL++[cl m Ns.length]):=by
 rw[thaw,JW];simp
section
variable{A:Mem}{Ns:List (List Stp)}
theorem QR{R:Mem}{j:Nat}{L:List Stp}(h:Ns[j]?=some L):(A++(Ns.map SL++R))[A.length+j]?=some (SL L):=by
 have hj:=(List.getElem?_eq_some_iff.mp h).1;rw[List.getElem?_append_right (by omega),show A.length+j-A.length=j by omega,List.getElem?_append_left (by simpa using hj),wQ,h];rfl
theorem QT{R:Mem}(j:Nat):(A++(Ns.map SL++R))[A.length+Ns.length+j]?=R[j]?:=by
 rw[List.getElem?_append_right (by omega),show A.length+Ns.length+j-A.length=Ns.length+j by omega,List.getElem?_append_right (by simp),wH,show Ns.length+j-Ns.length=j by omega]
theorem qBN{M:Mem}:∀(Ns:List (List Stp)) (m:Nat),(∀j L,Ns[j]?=some L->M[m+j]?=some (SL L))->qy (λt L=>IsS M t (SL L)) (cl m Ns.length) Ns
 | [],m,_=>rfl
 |L::Ns,m,h=>by
  have e:cl m (L::Ns).length=.cell m::cl (m+1) Ns.length:=by unfold cl;rw[List.length_cons,wZ];rfl
  rw[e];exact⟨L,Ns,rfl,.inr ⟨m,rfl,h 0 L rfl⟩,qBN Ns (m+1) λj K hj=>by rw[show m+1+j=m+(j+1) by omega];exact h (j+1) K hj⟩
theorem P1{R:Mem}:qy (λt L=>IsS (A++(Ns.map SL++R)) t (SL L)) (cl A.length Ns.length) Ns:=qBN Ns A.length λj L h=>QR h
theorem Jm(m r n:Nat)(h:m+r<=n):T.unds n (cl m r)=true:=by
 induction r generalizing m with
 |zero=>unfold cl;simp[T.unds]
 |succ r ih=>
  have e:cl m (r+1)=.cell m::cl (m+1) r:=by unfold cl;rw[wZ];rfl
  rw[e,T.unds,T.und,ih (m+1) (by omega)];simp;omega
end
theorem ZH{M:Mem}{d:Nat}:∀{ts us:List T},qy (λt u=>eqT M d t u=some true) ts us->qz (eqT M d) ts us=some (ts.map λ_=>true)
 | [],us,h=>by cases (show us=[] from h);rfl
 |t::ts,_,⟨u,us,rfl,e,h⟩=>by
  unfold qz;rw[e,ZH h];rfl
theorem T4(ts:List T):((ts.map λ_=>true).all id)=true:=by rw[wK];simp
theorem m9{M:Mem}{d:Nat}{t u:T}{ts us:List T}(h:IsS M t ts)(k:IsS M u us)(a:qy (λt u=>eqT M d t u=some true) ts us):eqT M (d+1) t u=some true:=by
 rw[h.eqT k (qB a) (ZH a),T4]
theorem qCn{M:Mem}{d:Nat}(n:Nat):eqT M d (N n) (N n)=some true:=by
 cases d<;>simp[eqT,eqF]
theorem qDJ{M:Mem}{d:Nat}(p:Stp):eqT M (d+1) (sp p) (sp p)=some true:=by
 unfold sp;rw[qAS (qCn _) (qCn _)];rfl
theorem Q5{M:Mem}{d:Nat}:∀L:List Stp,qy (λt u=>eqT M (d+1) t u=some true) (SL L) (SL L)
 | []=>rfl
 |p::L=>⟨sp p,SL L,rfl,qDJ p,Q5 L⟩
theorem Jb{M:Mem}{d:Nat}:∀{ts us:List T}{Ns:List (List Stp)},qy (λt L=>IsS M t (SL L)) ts Ns->qy (λt L=>IsS M t (SL L)) us Ns->qy (λt u=>eqT M (d+2) t u=some true) ts us
 | [],us,Ns,h1,h2=>by
  cases (show Ns=[] from h1);cases us with
  |nil=>rfl
  |cons u us=>obtain⟨_,_,z,_⟩:=h2;cases z
 |t::ts,us,_,⟨L,Ns,rfl,a,h1⟩,h2=>by
  cases us with
  |nil=>cases (show (L::Ns)=[] from h2)
  |cons u us=>
   obtain⟨L',Ns',z,b,h2⟩:=h2;cases z;exact⟨u,us,rfl,m9 a b (Q5 L),Jb h1 h2⟩
theorem qB4{M:Mem}{d:Nat}{t u:T}{Ns:List (List Stp)}(h:IsN M t Ns)(k:IsN M u Ns):eqT M (d+3) t u=some true:=by
 obtain⟨ts,a,b⟩:=h;obtain⟨us,c,d⟩:=k;exact m9 a c (Jb b d)
theorem l6{M:Mem}{t u:T}{Ns:List (List Stp)}(h:IsN M t Ns)(k:IsN M u Ns):zP M .ne t u=some false:=by
 show (eqT M 4 t u).map (!·)=_;rw[qB4 (d:=1) h k];rfl
theorem O7(n:Nat)(L:List Stp):(T.lst (SL L)).und n=true:=by rw[T.und];exact jo _ _ (Qs L)
theorem l0{M:Mem}{j:Nat}(h:WfM M){c:List T}(hc:T.unds M.length c=true):WfM (M.set j c):=by
 unfold WfM at *;rw[wK]at h ⊢;intro d hd;rw[wd];rcases wY hd with z|rfl
 ·exact h d z
 ·exact hc
theorem qAT{M:Mem}(x:List Nat):zP M .ne (NL x) (NL x)=some false:=by rw[(IsL.nl M x).cne (IsL.nl M x)];simp
theorem qE2{A:Mem}(h:WfM A){Ns:List (List Stp)}{R:Mem}(u:∀c∈R,T.unds (A.length+Ns.length+R.length) c=true):WfM (A++(Ns.map SL++R)):=h.app λc hc=>by
 rcases wE.mp hc with z|z
 ·obtain⟨L,_,rfl⟩:=wj.mp z;exact jo _ _ (Qs L)
 ·have:=u c z;rw[show (A++(Ns.map SL++R)).length=A.length+Ns.length+R.length by simp;omega];exact this
section
variable{k:Nat}
theorem qBg(hk:1<=k){Ns:List (List Stp)}(hl:Ns.length<=1000)(M:Mem):Pk (glT gs) Fs Cs k 26 [.lst (Ns.map λL=>.lst (SL L))] M=.ok ((.lst (Ns.map λL=>.lst (SL L)),true),M):=by
 rw[qL t26 ⟨rfl,by decide⟩ (by omega),b26,show Cs.getD 26 []=[] from rfl];have c:qP [] (.name 0) (pec (glT gs) (Pk (glT gs) Fs Cs (k-1)) .nil) (pe (glT gs) (Pk (glT gs) Fs Cs (k-1)) (.blt .list (.cons (.var 0) .nil))) (Ns.map λL=>.lst (SL L)) [] true [none] M=.ok ((.lst (Ns.map λL=>.lst (SL L)),true),M):=by
  have:=O9 (d:=[]) (gl:=glT gs) (P:=Pk (glT gs) Fs Cs (k-1)) (e:=pe (glT gs) (Pk (glT gs) Fs Cs (k-1)) (.blt .list (.cons (.var 0) .nil))) (σ:=[]) (M:=M) id (λ_=>true) rfl (Ns.map λL=>.lst (SL L)) [] true none (by simp;exact Nat.le_trans hl (by decide)) (λu hu=>by
   obtain⟨L,_,rfl⟩:=wj.mp hu;simp[lT,Qs])
  rw[show ((Ns.map λL=>T.lst (SL L)).all λ_=>true)=true from wK.mpr λ_ _=>rfl,List.map_id]at this;simpa using this
 simp only[qu,QC,pe_comp,QQ,pe_var,qV,qZ];simp[c,qC,-zR]
theorem cells{M:Mem}(hM:WfM M)(Ns:List (List Stp)):∃B a,M++(Ns.map SL++[cl M.length Ns.length])=B/\a=M.length+Ns.length/\WfM B/\IsN B (.cell a) Ns/\B[a]?=some (cl M.length Ns.length)/\B.length=a+1:=by
 refine⟨_,_,rfl,rfl,qE2 hM λc hc=>?_,⟨_,.inr ⟨_,rfl,QT 0⟩,P1⟩,QT 0,by simp;omega⟩;rw[wJ.mp hc];exact Jm _ _ _ (by simp)
end
end My
namespace My
open PySem PySem.Spec PI
open L2 (V)
open Nt (Stp Sg OkS OkR qX)
theorem G8(p:Stp)(L:List Stp):qX (p::L)=[p.1,p.2]++qX L:=rfl
theorem Qg:∀{A B:List Stp},A.Sublist B->(qX A).Sublist (qX B)
 |_,_,.slnil=>.slnil
 |_,_,.cons p h=>(Qg h).trans (List.sublist_append_right [p.1,p.2] _)
 |_,_,.cons₂ p h=>(List.Sublist.refl [p.1,p.2]).append (Qg h)
theorem A4{n:Nat}{A B:List Stp}(h:OkR n B)(s:A.Sublist B):OkR n A:=⟨λp hp=>h.st p (s.subset hp),(Qg s).nodup h.nd,Nat.le_trans s.length_le h.le⟩
theorem W7{n:Nat}{A B:List Stp}(h:OkR n B)(s:A.Perm B):OkR n A:=⟨λp hp=>h.st p (s.mem_iff.mp hp),(List.Perm.nodup_iff (s.flatMap_right _)).mpr h.nd,by rw[s.length_eq];exact h.le⟩
theorem L4{n:Nat}{p:Stp}(h:OkS n p):OkR n [p]:=⟨λq hq=>by rw[wJ.mp hq];exact h,by rw[G8];simp[qX,h.2.2],by simp⟩
theorem F1{n m:Nat}{L:List Stp}(hn:n<=m)(h:OkR n L):OkR m L:=⟨λp hp=>⟨wC (h.st p hp).1 hn,wC (h.st p hp).2.1 hn,(h.st p hp).2.2⟩,h.nd,h.le⟩
theorem JT:∀(L:List Stp) (i:Nat){p:Stp},L[i]?=some p->(qX (L.set i (p.2,p.1))).Perm (qX L)
 | [],i,p,e=>by simp at e
 |q::L,0,p,e=>by
  simp at e;subst e;show ([q.2,q.1]++qX L).Perm ([q.1,q.2]++qX L);exact(List.Perm.swap _ _ _).append_right _
 |q::L,i+1,p,e=>(JT L i (by simpa using e)).append_left [q.1,q.2]
theorem W5{n:Nat}{L:List Stp}{i:Nat}{p:Stp}(h:OkR n L)(e:L[i]?=some p):OkR n (L.set i (p.2,p.1)):=by
 refine⟨λq hq=>?_,(JT L i e).nodup_iff.mpr h.nd,by rw[wd];exact h.le⟩;rcases wY hq with z|rfl
 ·exact h.st q z
 ·have:=h.st p (List.mem_of_getElem? e);exact⟨this.2.1,this.1,Ne.symm this.2.2⟩
theorem R6{α:Type}{f:α->T}(hf:∀x,(f x).lf=true):∀X:List α,T.lfs (X.map f)=true
 | []=>by simp
 |x::X=>by rw[List.map_cons,zX,hf x,R6 hf X];rfl
theorem qDi{M:Mem}{c i:Nat}{xs:List T}{t:T}(h:M[c]?=some xs)(hi:i<=xs.length)(hl:xs.length<=1000):Zp .ins c [N i,t] M=some ((.v .non,true),M.set c (xs.take i++t::xs.drop i)):=by
 show ((M[c]?).bind λxs=>if 0<=(i:Int)/\(i:Int)<=xs.length/\xs.length<lim then some (((.v .non,true):TB),M.set c (xs.take (i:Int).toNat++t::xs.drop (i:Int).toNat)) else none)=_;rw[h,Option.bind_some,if_pos ⟨by omega,by omega,Nat.lt_of_le_of_lt hl (by decide)⟩,we]
theorem d7{α:Type}(x:α)(Y:List α)(d:Nat):(Y.take d++x::Y.drop d).Perm (Y++[x]):=by
 have a:(Y.take d++x::Y.drop d).Perm (x::(Y.take d++Y.drop d)):=List.perm_middle;rw[wq]at a;exact a.trans (List.perm_append_singleton x Y).symm
noncomputable abbrev NT(Ns:List (List Stp)):T:=.lst (Ns.map λL=>.lst (SL L))
section
variable{k:Nat}
theorem qDl(hk:1<=k){nb c:Nat}{α:Type}(f:α->T){a1:Option T}:∀(X Y:List α) (A:Mem) (o3:Option T),A.length=c->Jh A nb->Y.length+X.length<=100 ->
  ∃(Y':List α) (A':Mem) (p3:Option T),qm [] (.name 3) (pxs (glT gs) (Pk (glT gs) Fs Cs k) [2] L7) (X.map f) [some (.cell nb),a1,some (.cell c),o3] (A++[Y.map f])=.ok (.nx [some (.cell nb),a1,some (.cell c),p3],A'++[Y'.map f])/\Kept nb A A'/\Y'.Perm (Y++X)
 | [],Y,A,o3,hc,g,hl=>⟨Y,A,o3,rfl,⟨g,rfl,λ_ _=>rfl⟩,by simp⟩
 |x::X,Y,A,o3,hc,g,hl=>by
  have hb:nb<A.length:=by
   obtain⟨a,s,e,_⟩:=g;exact(List.getElem?_eq_some_iff.mp e).1
  have hl':Y.length+(X.length+1)<=100:=hl;obtain⟨d,M1,e1,h1,k1⟩:=out (k:=k) hk (zZ (C:=[Y.map f]) g) (m:=Y.length+1) (by omega);obtain⟨A1,rfl,kk1⟩:=zB hb k1;have c1:A1.length=c:=kk1.len.trans hc;have g0:∀{B:Mem}(X:List T),B.length=c->(B++[X])[c]?=some X:=λ{B} X z=>by rw[<-z];simp
  have ic:=qDi (M:=A1++[Y.map f]) (c:=c) (i:=d) (t:=f x) (g0 _ c1) (by rw[wH];omega) (by rw[wH];omega);have st:(A1++[Y.map f]).set c ((Y.map f).take d++f x::(Y.map f).drop d)=A1++[(Y.take d++x::Y.drop d).map f]:=by
   rw[<-c1,wP _ _ (Nat.le_refl _),Nat.sub_self,List.set_cons_zero,wS,List.map_cons,List.map_take,List.map_drop]
  rw[st]at ic;obtain⟨Y',A',p3,e,kk,pm⟩:=qDl hk f (a1:=a1) X (Y.take d++x::Y.drop d) A1 (some (f x)) c1 kk1.good (by simp;omega);refine⟨Y',A',p3,?_,kk1.trans kk,pm.trans ?_⟩
  ·have ln:zW (A++[Y.map f]) .len [.cell c]=some (N Y.length,true):=by
    rw[IsS.len (.inr ⟨c,rfl,g0 _ hc⟩),wH]
   have body:pxs (glT gs) (Pk (glT gs) Fs Cs k) [2] L7 [some (.cell nb),a1,some (.cell c),some (f x)] (A++[Y.map f])=.ok (.nx [some (.cell nb),a1,some (.cell c),some (f x)],A1++[(Y.take d++x::Y.drop d).map f]):=by
    rw[L7];generalize (Y.take d++x::Y.drop d).map f=yy at *;generalize Y.map f=y0 at *;generalize f x=fx at *;simp[ln,e1,ic]
   rw[List.map_cons,zJ,show ([some (.cell nb),a1,some (.cell c),o3]:TS).set 3 (some (f x))=[some (.cell nb),a1,some (.cell c),some (f x)] from rfl,body,PR.bind_ok];exact e
  ·have:=(d7 x Y d).append_right X;rw[wL Y [x] X]at this;exact this
theorem qBI(hk:2<=k){M:Mem}{nb:Nat}(hW:WfM M)(g:Jh M nb){α:Type}(f:α->T)(hf:∀x,(f x).lf=true)(X:List α)(hX:X.length<=100):∃(Y:List α) (M':Mem),Pk (glT gs) Fs Cs k 28 [.cell nb,.lst (X.map f)] M=.ok ((.lst (Y.map f),true),M')/\Y.Perm X/\Kept nb M M':=by
 obtain⟨Y,A,p3,e,kk,pm⟩:=qDl (k:=k-1) (by omega) f (a1:=some (.lst (X.map f))) X [] M none rfl g (by simpa using hX);refine⟨Y,A,?_,by simpa using pm,kk⟩;rw[qL t28 ⟨rfl,by decide⟩ (by omega),b28,show Cs.getD 28 []=[2] from rfl];have th0:∀m,thaw m (.lst [])=(.cell m,[[]]):=λm=>by simp[thaw,zN]
 have e:qm [] (.name 3) (pxs (glT gs) (Pk (glT gs) Fs Cs (k-1)) [2] L7) (X.map f) [some (.cell nb),some (.lst (X.map f)),some (.cell M.length),none] (M++[[]])=.ok (.nx [some (.cell nb),some (.lst (X.map f)),some (.cell M.length),p3],A++[Y.map f]):=e;have z:=zU (M:=M) (A:=A) (C:=[Y.map f]) (c:=M.length) (ts:=Y.map f) kk.len (zK hW kk) (by rw[<-kk.len];simp) (by rw[kk.len];exact Nat.le_refl _) (R6 hf Y) false;generalize X.map f=xx at *;generalize Y.map f=yy at *;simp[th0,e,lim];exact z
end
end My
namespace My
open PySem PySem.Spec PI
open L2 (V)
open Nt (Stp Sg OkS OkR qX)
theorem bits:∀a,a<32->∀r,r<5->decide ((a / 2 ^ r)&&& 1=0)=decide (a&&& 2 ^ r=0):=by decide +kernel
theorem qA2{n f:Nat}(hn:0<n):Nt.hr n f≠[]:=by
 intro e;have:(0,0+f)∈Nt.hr n f:=wj.mpr ⟨0,wn.mpr ⟨wO.mpr hn,by simp⟩,rfl⟩;rw[e]at this;cases this
theorem qBX(n f:Nat):(Nt.hr n f).length<=n:=by
 unfold Nt.hr;rw[wH];exact Nat.le_trans (List.length_filter_le _ _) (by simp)
theorem qAO(L:List Stp)(d:Nat):(SL L).take d=SL (L.take d):=by unfold SL;rw[List.map_take]
theorem u9(L:List Stp)(d:Nat):(SL L).drop d=SL (L.drop d):=by unfold SL;rw[List.map_drop]
theorem V0{L:List Stp}{d:Nat}(h:d<=L.length):lT (jk (SL L) none (some (d:Int)))=(.lst (SL (L.take d)),true):=by
 rw[jZ (by rw[jy];exact h),qAO];unfold lT;rw[Qs]
theorem T3{L:List Stp}{d:Nat}(h:d<=L.length):lT (jk (SL L) (some (d:Int)) none)=(.lst (SL (L.drop d)),true):=by
 rw[jd (by rw[jy];exact h),u9];unfold lT;rw[Qs]
section
variable{k:Nat}
theorem qCj{s j:Nat}(h5:s<=5)(hj:j<s)(M:Mem):qP [] (.name 0) (pec (glT gs) (Pk (glT gs) Fs Cs k) (.cons (.cmp .eq (.bin .band (.bin .shr (.var 0) (.var 1)) (nE 1)) (nE 0)) .nil)) (pe (glT gs) (Pk (glT gs) Fs Cs k) (.tup (.cons (.var 0) (.cons (.bin .add (.var 0) (.bin .shl (nE 1) (.var 1))) .nil)))) ((List.range (2 ^ s)).map N) [] true [none,some (N j)] M=.ok ((.lst (SL (Nt.hr (2 ^ s) (2 ^ j))),true),M):=by
 have n5:=p5 h5;have slj:∀{M:Mem},qp M .shl (N 1) (N j)=some (N (2 ^ j),true):=λ{M}=>by rw[ZF (by omega),vF]
 have:=Zx (c:=pec (glT gs) (Pk (glT gs) Fs Cs k) (.cons (.cmp .eq (.bin .band (.bin .shr (.var 0) (.var 1)) (nE 1)) (nE 0)) .nil)) (e:=pe (glT gs) (Pk (glT gs) Fs Cs k) (.tup (.cons (.var 0) (.cons (.bin .add (.var 0) (.bin .shl (nE 1) (.var 1))) .nil)))) (M:=M) (σ:=[some (N j)]) (λa=>decide (a&&& 2 ^ j=0)) (λa=>sp (a,a+2 ^ j)) (λ_=>true) (List.range (2 ^ s)) [] true none (by simp[lim];omega) (λa ha=>by
  have ha:=wO.mp ha;rw[<-bits a (by omega) j (by omega)];have sr:∀{M:Mem},qp M .shr (N a) (N j)=some (N (a / 2 ^ j),true):=λ{M}=>qAq (by omega);have ba:∀{M:Mem},qp M .band (N (a / 2 ^ j)) (N 1)=some (N (a / 2 ^ j&&& 1),true):=λ{M}=>V4 _ _;have ce:∀{M:Mem},zP M .eq (N (a / 2 ^ j&&& 1)) (N 0)=some (decide (a / 2 ^ j&&& 1=0)):=λ{M}=>q9 _ _;generalize a / 2 ^ j&&& 1=w at *;simp[-q9,sr,ba,ce]) (λa _ _=>by simp[slj,lim,sp])
 rw[show (((List.range (2 ^ s)).filter λa=>decide (a&&& 2 ^ j=0)).all λ_=>true)=true from wK.mpr λ_ _=>rfl]at this;rw[this];unfold SL Nt.hr;rw[wg];rfl
theorem qEM(hk:2<=k){nb s:Nat}(h1:1<=s)(h5:s<=5){a6 a7:Option T}:∀(R:List Nat) (Ns:List (List Stp)) (M:Mem) (o3 o4 o5:Option T),(∀r∈R,r<s)->WfM M->Jh M nb->(∀L∈Ns,OkR (2 ^ s) L)->Ns.length+2*R.length<=30 ->
  ∃(Ns':List (List Stp)) (M':Mem) (p3 p4 p5:Option T),qm [] (.name 3) (pxs (glT gs) (Pk (glT gs) Fs Cs k) [] T0) (R.map N) [some (.cell nb),some (N s),some (NT Ns),o3,o4,o5,a6,a7] M=.ok (.nx [some (.cell nb),some (N s),some (NT Ns'),p3,p4,p5,a6,a7],M')/\Kept nb M M'/\(∀L∈Ns',OkR (2 ^ s) L)/\Ns'.length=Ns.length+2*R.length/\((R≠[]\/∃L∈Ns,L≠[])->∃L∈Ns',L≠[])
 | [],Ns,M,o3,o4,o5,hR,hW,g,hN,hl=>⟨Ns,M,o3,o4,o5,rfl,⟨g,rfl,λ_ _=>rfl⟩,hN,by simp,λh=>h.elim (λz=>absurd rfl z) id⟩
 |r::R,Ns,M,o3,o4,o5,hR,hW,g,hN,hl=>by
  have hr:=hR r (by simp);have n5:=p5 h5;have np:0<2 ^ s:=Nat.two_pow_pos s;have hlr:=qBX (2 ^ s) (2 ^ r);have hrne:=qA2 (n:=2 ^ s) (f:=2 ^ r) np;have hok:OkR (2 ^ s) (Nt.hr (2 ^ s) (2 ^ r)):=Nt.hn_ok h1 h5 _ (wj.mpr ⟨r,wO.mpr hr,rfl⟩);obtain⟨Y,M1,e1,pm,k1⟩:=qBI (k:=k) hk hW g sp S8 (Nt.hr (2 ^ s) (2 ^ r)) (by omega);have yl:=pm.length_eq;have yok:=W7 hok pm;have yne:Y≠[]:=λz=>hrne (by rw[z]at pm;exact pm.symm.eq_nil);obtain⟨d,M2,e2,hd,k2⟩:=out (k:=k) (by omega) k1.good (m:=Y.length+1) (by omega);have kk:=k1.trans k2;have hl':Ns.length+2*(R.length+1)<=30:=hl;obtain⟨Ns',M',p3,p4,p5,e,k3,c1,c2,c3⟩:=qEM hk h1 h5 (a6:=a6) (a7:=a7) R (Ns++[Y.take d,Y.drop d]) M2 (some (N r)) (some (.lst (SL Y))) (some (N d)) (λq hq=>hR q (by simp[hq])) (zK hW kk) k2.good (λL hL=>by
   rcases wE.mp hL with z|z
   ·exact hN L z
   ·rcases List.mem_cons.mp z with rfl|z
    ·exact A4 yok (List.take_sublist _ _)
    ·rw[wJ.mp z];exact A4 yok (List.drop_sublist _ _)) (by simp;omega)
  refine⟨Ns',M',p3,p4,p5,?_,kk.trans k3,c1,by rw[c2];simp;omega,λ_=>c3 (.inr ?_)⟩
  ·have sl:∀{M:Mem},qp M .shl (N 1) (N s)=some (N (2 ^ s),true):=λ{M}=>by rw[ZF (by omega),vF]
   have rg:=zq (n:=2 ^ s) (by omega);have hc:=qCj (k:=k) h5 hr M;have ln:∀{M:Mem},zW M .len [.lst (SL Y)]=some (N Y.length,true):=λ{M}=>by rw[E9,jy]
   have s1:=V0 (L:=Y) (d:=d) (by omega);have s2:=T3 (L:=Y) (d:=d) (by omega);have ad:∀{M:Mem},qp M .add (NT Ns) (.lst [.lst (SL (Y.take d)),.lst (SL (Y.drop d))])=some (lT ((Ns++[Y.take d,Y.drop d]).map λL=>.lst (SL L))):=λ{M}=>by
    rw[QX (by simp[lim];omega),wS];rfl
   have e1:Pk (glT gs) Fs Cs k 28 [.cell nb,.lst (SL (Nt.hr (2 ^ s) (2 ^ r)))] M=.ok ((.lst (SL Y),true),M1):=e1;have body:pxs (glT gs) (Pk (glT gs) Fs Cs k) [] T0 [some (.cell nb),some (N s),some (NT Ns),some (N r),o4,o5,a6,a7] M=.ok (.nx [some (.cell nb),some (N s),some (NT (Ns++[Y.take d,Y.drop d])),some (N r),some (.lst (SL Y)),some (N d),a6,a7],M2):=by
    rw[T0];unfold lT at ad;show _=PR.ok (PO.nx [some (.cell nb),some (N s),some (T.lst ((Ns++[Y.take d,Y.drop d]).map λL=>.lst (SL L))),some (N r),some (.lst (SL Y)),some (N d),a6,a7],M2);generalize ((Ns++[Y.take d,Y.drop d]).map λL=>T.lst (SL L))=nn at *;have ad:∀{M:Mem},qp M .add (.lst (Ns.map λL=>.lst (SL L))) (.lst [.lst (SL (Y.take d)),.lst (SL (Y.drop d))])=some (.lst nn,T.lfs nn):=ad;show pxs (glT gs) (Pk (glT gs) Fs Cs k) [] _ [some (.cell nb),some (N s),some (T.lst (Ns.map λL=>.lst (SL L))),some (N r),o4,o5,a6,a7] M=_;generalize (Ns.map λL=>T.lst (SL L))=n0 at *;generalize SL (Nt.hr (2 ^ s) (2 ^ r))=h0 at *;generalize SL (Y.take d)=y1 at *;generalize SL (Y.drop d)=y2 at *;generalize SL Y=yy at *;simp only[qu,Jo,pe_call,zQ,zi,pe_comp,zY,C8,W2,pe_var,qV,qb,qZ];simp[-E9,sl,rg,hc,e1,ln,e2,s1,s2,ad,lim,-QO]
   rw[List.map_cons,zJ,show ([some (.cell nb),some (N s),some (NT Ns),o3,o4,o5,a6,a7]:TS).set 3 (some (N r))=[some (.cell nb),some (N s),some (NT Ns),some (N r),o4,o5,a6,a7] from rfl,body,PR.bind_ok];exact e
  ·by_cases hz:Y.take d=[]
   ·refine⟨Y.drop d,by simp,λz=>yne ?_⟩;rw[<-wq d Y,hz,z];rfl
   ·exact⟨Y.take d,by simp,hz⟩
theorem qAX(hk:3<=k){M:Mem}{nb s:Nat}(h1:1<=s)(h5:s<=5)(hW:WfM M)(g:Jh M nb):∃(Ns:List (List Stp)) (f:Bool) (M':Mem),Pk (glT gs) Fs Cs k 29 [.cell nb,N s] M=.ok ((NT Ns,f),M')/\(∀L∈Ns,OkR (2 ^ s) L)/\Ns.length<=30/\(∃L∈Ns,L≠[])/\Kept nb M M':=by
 have lr:=U1 (n:=s) (by omega);obtain⟨R,M1,e1,pm,k1⟩:=qBI (k:=k-1) (by omega) hW g N (λx=>by unfold N;rfl) (List.range s) (by simp;omega);have rl:=pm.length_eq;rw[List.length_range]at rl;obtain⟨Ns,M2,p3,p4,p5,e2,k2,c1,c2,c3⟩:=qEM (k:=k-1) (by omega) (nb:=nb) h1 h5 (a6:=none) (a7:=none) R [] M1 none none none (λr hr=>wO.mp (pm.mem_iff.mp hr)) (zK hW k1) k1.good (by simp) (by simp;omega);have c2:Ns.length=2*s:=by rw[c2,rl];simp
 obtain⟨L0,hL0,hne⟩:=c3 (.inl λz=>by rw[z]at rl;simp at rl;omega);have k12:=k1.trans k2;obtain⟨d,M3,e3,hd,k3⟩:=out (k:=k-1) (by omega) k2.good (m:=Ns.length+1) (by omega);have k13:=k12.trans k3;obtain⟨W,M4,e4,wok,k4⟩:=qAz (k:=k-1) (by omega) h5 (zK hW k13) k3.good;have kk:=k13.trans k4;have mm:∀L,L∈Ns.take d++[W,W]++Ns.drop d↔L∈Ns\/L=W:=λL=>by
  conv=>rhs;rw[<-wq d Ns]
  simp only[wE,List.mem_cons,wU,or_false];constructor
  ·rintro((h|h|h)|h)
   ·exact .inl (.inl h)
   ·exact .inr h
   ·exact .inr h
   ·exact .inl (.inr h)
  ·rintro((h|h)|h)
   ·exact .inl (.inl h)
   ·exact .inr h
   ·exact .inl (.inr (.inl h))
 refine⟨Ns.take d++[W,W]++Ns.drop d,T.lfs ((Ns.take d++[W,W]++Ns.drop d).map λL=>.lst (SL L)),M4,?_,λL hL=>?_,by simp;omega,⟨L0,(mm L0).mpr (.inl hL0),hne⟩,kk⟩
 ·rw[qL t29 ⟨rfl,by decide⟩ (by omega),b29,show Cs.getD 29 []=[] from rfl];have ln:∀{M:Mem},zW M .len [NT Ns]=some (N Ns.length,true):=λ{M}=>by rw[E9,wH]
  have s1:lT (jk (Ns.map λL=>T.lst (SL L)) none (some (d:Int)))=lT ((Ns.take d).map λL=>.lst (SL L)):=by rw[jZ (by rw[wH];omega),List.map_take]
  have s2:lT (jk (Ns.map λL=>T.lst (SL L)) (some (d:Int)) none)=lT ((Ns.drop d).map λL=>.lst (SL L)):=by rw[jd (by rw[wH];omega),List.map_drop]
  have ad1:∀{M:Mem},qp M .add (.lst ((Ns.take d).map λL=>T.lst (SL L))) (.lst [.lst (SL W),.lst (SL W)])=some (lT ((Ns.take d++[W,W]).map λL=>.lst (SL L))):=λ{M}=>by
   rw[QX (by simp[lim];omega),wS];rfl
  have ad2:∀{M:Mem},qp M .add (.lst ((Ns.take d++[W,W]).map λL=>T.lst (SL L))) (.lst ((Ns.drop d).map λL=>T.lst (SL L)))=some (lT ((Ns.take d++[W,W]++Ns.drop d).map λL=>.lst (SL L))):=λ{M}=>by
   rw[QX (by simp[lim];omega),wS (l₁:=Ns.take d++[W,W])]
  have wl:∀{M:Mem},zW M .list [.lst (SL W)]=some (.lst (SL W),true):=λ{M}=>by
   rw[IsS.list (.inl rfl)];unfold lT;rw[Qs]
  have e1:Pk (glT gs) Fs Cs (k-1) 28 [.cell nb,.lst ((List.range s).map N)] M=.ok ((.lst (R.map N),true),M1):=e1;have e2:qm [] (.name 3) (pxs (glT gs) (Pk (glT gs) Fs Cs (k-1)) [] T0) (R.map N) [some (.cell nb),some (N s),some (.lst []),none,none,none,none,none] M1=.ok (.nx [some (.cell nb),some (N s),some (NT Ns),p3,p4,p5,none,none],M2):=e2;have fin:∀(t:TB),QI (List.length M) (.ok (.rt t,M4))=.ok (t,M4):=λt=>qC kk.len;unfold lT at s1 s2 ad1 ad2;simp only[NT]at *;generalize ((Ns.take d++[W,W]++Ns.drop d).map λL=>T.lst (SL L))=n4 at *;generalize ((Ns.take d++[W,W]).map λL=>T.lst (SL L))=n3 at *;generalize ((Ns.drop d).map λL=>T.lst (SL L))=n2 at *;generalize ((Ns.take d).map λL=>T.lst (SL L))=n1 at *;generalize (Ns.map λL=>T.lst (SL L))=n0 at *;generalize SL W=ww at *;generalize R.map N=rr at *;simp[-E9,lr,e1,e2,ln,e3,e4,s1,s2,wl,ad1,ad2,lT,lim,fin]
 ·rcases(mm L).mp hL with z|rfl
  ·exact c1 L z
  ·exact wok
end
end My
namespace My
open PySem PySem.Spec PI
open L2 (V)
open Nt (Stp Sg OkS OkR qX)
noncomputable def qDF:S:=(.asg (.name 3) (.call 26 (.cons (.var 2) .nil)))
noncomputable def qDN:S:=(.asg (.name 4) (.comp (.rng1 (.blt .len (.cons (.var 3) .nil))) [none,some 3] (.name 0) (.cons (.cmp .ne (.idx (.var 1) (.var 0)) (.lst .nil)) .nil) (.var 0)))
noncomputable def qCb:S:=(.asg (.name 5) (.idx (.var 4) (.call 21 (.cons (.var 0) (.cons (.blt .len (.cons (.var 4) .nil)) .nil)))))
noncomputable def qDV:S:=(.asg (.name 6) (.call 21 (.cons (.var 0) (.cons (.blt .len (.cons (.idx (.var 3) (.var 5)) .nil)) .nil))))
noncomputable def qDH:S:=(.asg (.name 7) (.call 21 (.cons (.var 0) (.cons (nE 3) .nil))))
noncomputable def qDg:S:=(.asg (.name 8) (.idx (.idx (.var 3) (.var 5)) (.var 6)))
noncomputable def qBF:S:=(.ifs (.cmp .eq (.var 7) (nE 0)) (.cons (.put (.var 3) (.var 5) (.bin .add (.sl (.idx (.var 3) (.var 5)) .nil (.cons (.var 6) .nil)) (.sl (.idx (.var 3) (.var 5)) (.cons (.bin .add (.var 6) (nE 1)) .nil) .nil))) .nil) (.cons (.ifs (.cmp .eq (.var 7) (nE 1)) (.cons (.put (.idx (.var 3) (.var 5)) (.var 6) (.tup (.cons (.idx (.var 8) (nE 1)) (.cons (.idx (.var 8) (nE 0)) .nil)))) .nil) (.cons (.asg (.name 3) (.bin .add (.bin .add (.sl (.var 3) .nil (.cons (.var 5) .nil)) (.lst (.cons (.lst (.cons (.var 8) .nil)) .nil))) (.sl (.var 3) (.cons (.var 5) .nil) .nil))) .nil)) .nil))
noncomputable def qD2:S:=(.ret (.var 3))
theorem qDY:b30=(.cons qDF (.cons qDN (.cons qCb (.cons qDV (.cons qDH (.cons qDg (.cons qBF (.cons qD2 .nil)))))))):=rfl
theorem W6{A:Mem}{Ns:List (List Stp)}{R:Mem}(j:Nat)(c:List T):(A++(Ns.map SL++R)).set (A.length+Ns.length+j) c=A++(Ns.map SL++R.set j c):=by
 rw[wP _ _ (by omega),show A.length+Ns.length+j-A.length=Ns.length+j by omega,wP _ _ (by simp),wH,show Ns.length+j-Ns.length=j by omega]
theorem qBK{M:Mem}{t:T}{ts:List T}(h:IsS M t ts):zP M .ne t (.lst [])=some (!decide (ts=[])):=by
 show (eqT M 4 t (.lst [])).map (!·)=_;unfold eqT;rw[h.nv,h.lis];cases ts with
 |nil=>rfl
 |cons x r=>simp[T.isV,T.lis]
theorem qj{C:List Nat}{P:Nat->List T->Mem->PR (TB×Mem)}{s:S}{r:Ss}{σ σ1:TS}{M M1:Mem}(h:px (glT gs) P C s σ M=.ok (.nx σ1,M1)):pxs (glT gs) P C (.cons s r) σ M=pxs (glT gs) P C r σ1 M1:=by rw[qu,h];rfl
theorem M7:∀(xs ys:List T) (y:List T),T.lfs (xs++.lst y::ys)=false
 | [],ys,y=>by rw[List.nil_append,zX];simp
 |x::xs,ys,y=>by rw[List.cons_append,zX,M7 xs ys y,Bool.and_false]
def Rw(n0:Nat)(M:Mem)(t:T)(L:List Stp):Prop:=t=.lst (SL L)\/∃j,t=.cell j/\n0<=j/\M[j]?=some (SL L)
theorem qBf{M:Mem}{n0 d:Nat}{t:T}{L:List Stp}(h:Rw n0 M t L):qG M n0 (d+1) t=some (.lst (SL L)):=by
 rcases h with rfl|⟨j,rfl,hj,e⟩
 ·unfold qG;rw[if_pos (O7 _ _)]
 ·unfold qG;rw[if_neg (by unfold T.und;simp;omega)];dsimp only;rw[e,Option.bind_some,jK _ (Qs L)];rfl
theorem Jy{M:Mem}{n0 d:Nat}:∀(ts:List T) (Ns:List (List Stp)),qy (Rw n0 M) ts Ns->ts.mapM (qG M n0 (d+1))=some (Ns.map λL=>.lst (SL L))
 | [],Ns,h=>by cases (show Ns=[] from h);rfl
 |t::ts,_,⟨L,Ns,rfl,r,h⟩=>by rw[vJ,qBf r,Jy ts Ns h];rfl
theorem N8{M:Mem}{n0:Nat}:∀(ts:List T) (Ns:List (List Stp)),qy (Rw n0 M) ts Ns->T.unds n0 ts=true->ts=Ns.map λL=>.lst (SL L)
 | [],Ns,h,_=>by cases (show Ns=[] from h);rfl
 |t::ts,_,⟨L,Ns,rfl,r,h⟩,u=>by
  rw[T.unds,Bool.and_eq_true]at u;rw[N8 ts Ns h u.2];rcases r with rfl|⟨j,rfl,hj,e⟩
  ·rfl
  ·have:=u.1;unfold T.und at this;simp at this;omega
theorem N3{M A C:Mem}{t:T}{ts:List T}{Ns:List (List Stp)}(hA:A.length=M.length)(hW:WfM A)(hne:C≠[])(ht:t=.lst ts\/∃a,t=.cell a/\A.length<=a/\(A++C)[a]?=some ts)(h:qy (Rw A.length (A++C)) ts Ns)(f:Bool):∃f',QI M.length (.ok (.rt (t,f),A++C))=.ok ((NT Ns,f'),A):=by
 show ∃f',PI.finish M.length _ _=_;unfold PI.finish;have hc:0<C.length:=List.length_pos_iff.mpr hne;rw[<-hA,if_neg (by rw[List.length_append];omega),List.take_left' rfl,if_pos (show A.all (T.unds A.length)=true from hW)];have r:qG (A++C) A.length 6 t=some (NT Ns):=by
  rcases ht with rfl|⟨a,rfl,ha,e⟩
  ·unfold qG;by_cases u:(T.lst ts).und A.length=true
   ·rw[if_pos u,N8 ts Ns h (by rw[T.und]at u;exact u)]
   ·rw[if_neg u];dsimp only;rw[Jy ts Ns h];rfl
  ·unfold qG;rw[if_neg (by unfold T.und;simp;omega)];dsimp only;rw[e,Option.bind_some,Jy ts Ns h];rfl
 dsimp only;rw[r];exact⟨_,rfl⟩
theorem a8{A C:Mem}:∀(Ns:List (List Stp)) (m:Nat),A.length<=m->(∀j L,Ns[j]?=some L->(A++C)[m+j]?=some (SL L))->qy (Rw A.length (A++C)) (cl m Ns.length) Ns
 | [],m,_,_=>rfl
 |L::Ns,m,hm,h=>by
  have e:cl m (L::Ns).length=.cell m::cl (m+1) Ns.length:=by unfold cl;rw[List.length_cons,wZ];rfl
  rw[e];exact⟨L,Ns,rfl,.inr ⟨m,rfl,hm,h 0 L rfl⟩,a8 Ns (m+1) (by omega) λj K hj=>by rw[show m+1+j=m+(j+1) by omega];exact h (j+1) K hj⟩
theorem qCL{m r j:Nat}(h:j<r):(cl m r)[j]?=some (.cell (m+j)):=by
 unfold cl;rw[wQ,List.getElem?_range' (by omega)];simp
section
variable{k:Nat}
theorem qE5(hk:2<=k){M:Mem}{nb s:Nat}(hW:WfM M)(g:Jh M nb){Ns:List (List Stp)}(hN:∀L∈Ns,OkR (2 ^ s) L)(hl:Ns.length<=30)(hne:∃L∈Ns,L≠[]):∃(Ns':List (List Stp)) (f:Bool) (M':Mem),Pk (glT gs) Fs Cs k 30 [.cell nb,N s,NT Ns] M=.ok ((NT Ns',f),M')/\(∀L∈Ns',OkR (2 ^ s) L)/\Ns'.length<=31/\Kept nb M M':=by
 have hb:nb<M.length:=by
  obtain⟨a,s,e,_⟩:=g;exact(List.getElem?_eq_some_iff.mp e).1
 obtain⟨C0,hC0⟩:∃C0,C0=Ns.map SL++[cl M.length Ns.length]:=⟨_,rfl⟩
 obtain⟨full,hf⟩:∃full,full=(List.range Ns.length).filter λj=>!decide (Ns.getD j []=[]):=⟨_,rfl⟩
 have fl:full.length<=30:=by
  rw[hf];exact Nat.le_trans (List.length_filter_le _ _) (by simp;exact hl)
 have fne:0<full.length:=by
  obtain⟨L,hL,hn⟩:=hne;obtain⟨j,hj⟩:=vE hL;have:j∈full:=by
   rw[hf,wn,wO];exact⟨(List.getElem?_eq_some_iff.mp hj).1,by simp[wI,hj,hn]⟩
  exact List.length_pos_of_mem this
 obtain⟨d,M1,e1,hd,k1⟩:=out (k:=k-1) (by omega) (zZ (C:=C0) g) (m:=full.length) (by omega);obtain⟨A1,rfl,kk1⟩:=zB hb k1;have fa:full[d]?=some full[d]:=wA hd;obtain⟨at_,hat⟩:∃a,full[d]=a:=⟨_,rfl⟩
 rw[hat]at fa;have am:=List.mem_of_getElem? fa;rw[hf,wn,wO]at am;obtain⟨al,an⟩:=am;obtain⟨L,hL⟩:∃L,Ns[at_]?=some L:=⟨_,wA al⟩
 have Ln:L≠[]:=by simpa [wI,hL] using an
 have Lok:=hN L (List.mem_of_getElem? hL);have Lle:=Lok.le;have Lpos:0<L.length:=List.length_pos_iff.mpr Ln;have c1:=kk1.len;obtain⟨pl,M2,e2,hpl,k2⟩:=out (k:=k-1) (by omega) (zZ (C:=C0) kk1.good) (m:=L.length) (by omega);obtain⟨A2,rfl,kk2⟩:=zB (by omega) k2;have c2:A2.length=M.length:=kk2.len.trans c1;obtain⟨w,M3,e3,hw,k3⟩:=out (k:=k-1) (by omega) (zZ (C:=C0) kk2.good) (m:=3) (by decide);obtain⟨A3,rfl,kk3⟩:=zB (by rw[c2];exact hb) k3;have c3:A3.length=M.length:=kk3.len.trans c2;have kk:=(kk1.trans kk2).trans kk3;obtain⟨p,hp⟩:∃p,L[pl]?=some p:=⟨_,wA hpl⟩
 have pok:=Lok.st p (List.mem_of_getElem? hp);obtain⟨a,ha⟩:∃a,a=M.length+Ns.length:=⟨_,rfl⟩
 have gA:∀{A:Mem},A.length=M.length->(A++C0)[a]?=some (cl M.length Ns.length):=λ{A} z=>by rw[hC0,ha,<-z];exact QT 0
 have gR:∀{A:Mem},A.length=M.length->∀{j:Nat}{K:List Stp},Ns[j]?=some K->(A++C0)[M.length+j]?=some (SL K):=λ{A} z {j K} q=>by rw[hC0,<-z];exact QR q
 have gi:∀{A:Mem},A.length=M.length->∀{j:Nat},j<Ns.length->jv (A++C0) (.cell a) (N j)=some (.cell (M.length+j),false):=λ{A} z {j} q=>by rw[U2 _ (gA z),qCL q];simp
 have lnA:∀{A:Mem},A.length=M.length->zW (A++C0) .len [.cell a]=some (N Ns.length,true):=λ{A} z=>by rw[IsS.len (.inr ⟨a,rfl,gA z⟩),je]
 have s0:∀{o3 o4 o5 o6 o7 o8:Option T},px (glT gs) (Pk (glT gs) Fs Cs (k-1)) [3] qDF [some (.cell nb),some (N s),some (NT Ns),o3,o4,o5,o6,o7,o8] M=.ok (.nx [some (.cell nb),some (N s),some (NT Ns),some (.cell a),o4,o5,o6,o7,o8],M++C0):=λ{o3 o4 o5 o6 o7 o8}=>by
  have cp:=qBg (k:=k-1) (by omega) (Ns:=Ns) (by omega) M;have th:=B5 M.length Ns;rw[<-hC0,<-ha]at th;rw[qDF];simp only[NT]at *;generalize (Ns.map λL=>T.lst (SL L))=n0 at *;simp[cp,th]
 have s1:∀{o4 o5 o6 o7 o8:Option T},px (glT gs) (Pk (glT gs) Fs Cs (k-1)) [3] qDN [some (.cell nb),some (N s),some (NT Ns),some (.cell a),o4,o5,o6,o7,o8] (M++C0)=.ok (.nx [some (.cell nb),some (N s),some (NT Ns),some (.cell a),some (NL full),o5,o6,o7,o8],M++C0):=λ{o4 o5 o6 o7 o8}=>by
  have rg:=zq (n:=Ns.length) (by omega);have cc:qP [] (.name 0) (pec (glT gs) (Pk (glT gs) Fs Cs (k-1)) (.cons (.cmp .ne (.idx (.var 1) (.var 0)) (.lst .nil)) .nil)) (pe (glT gs) (Pk (glT gs) Fs Cs (k-1)) (.var 0)) ((List.range Ns.length).map N) [] true [none,some (.cell a)] (M++C0)=.ok ((NL full,true),M++C0):=by
   rw[hf];have:=Jx (c:=pec (glT gs) (Pk (glT gs) Fs Cs (k-1)) (.cons (.cmp .ne (.idx (.var 1) (.var 0)) (.lst .nil)) .nil)) (e:=pe (glT gs) (Pk (glT gs) Fs Cs (k-1)) (.var 0)) (M:=M++C0) (σ:=[some (.cell a)]) (o:=none) (its:=List.range Ns.length) (λj=>!decide (Ns.getD j []=[])) (λj=>j) (by simp[lim];omega) (λj hj=>by
    have hj:=wO.mp hj;obtain⟨K,hK⟩:∃K,Ns[j]?=some K:=⟨_,wA hj⟩
    have q:=qBK (M:=M++C0) (t:=.cell (M.length+j)) (ts:=SL K) (.inr ⟨_,rfl,gR rfl hK⟩);have z:(Ns.getD j []=[])↔SL K=[]:=by
     rw[wI,hK];unfold SL;simp
    rw[<-decide_eq_decide.mpr z]at q;generalize (!decide (Ns.getD j []=[]))=bb at *;simp[-QG,gi rfl hj,q,lim]) (λj _ _=>by simp)
   rw[List.map_id']at this;exact this
  rw[qDN];simp only[NT]at *;generalize (Ns.map λL=>T.lst (SL L))=n0 at *;simp only[Jo,pe_comp,zY,ZB,zQ,zi,pe_var,qV,qb,qZ];simp[lnA rfl,rg,cc,-QO]
 have s2:∀{o5 o6 o7 o8:Option T},px (glT gs) (Pk (glT gs) Fs Cs (k-1)) [3] qCb [some (.cell nb),some (N s),some (NT Ns),some (.cell a),some (NL full),o5,o6,o7,o8] (M++C0)=.ok (.nx [some (.cell nb),some (N s),some (NT Ns),some (.cell a),some (NL full),some (N at_),o6,o7,o8],A1++C0):=λ{o5 o6 o7 o8}=>by
  have ix:∀{M:Mem},jv M (NL full) (N d)=some (N at_,true):=λ{M}=>(IsL.nl M full).idx fa;have ln:∀{M:Mem},zW M .len [NL full]=some (N full.length,true):=λ{M}=>(IsL.nl M full).len;rw[qCb];simp only[NT]at *;generalize (Ns.map λL=>T.lst (SL L))=n0 at *;simp[O6,ln,e1,ix]
 have s3:∀{o6 o7 o8:Option T},px (glT gs) (Pk (glT gs) Fs Cs (k-1)) [3] qDV [some (.cell nb),some (N s),some (NT Ns),some (.cell a),some (NL full),some (N at_),o6,o7,o8] (A1++C0)=.ok (.nx [some (.cell nb),some (N s),some (NT Ns),some (.cell a),some (NL full),some (N at_),some (N pl),o7,o8],A2++C0):=λ{o6 o7 o8}=>by
  have ln:zW (A1++C0) .len [.cell (M.length+at_)]=some (N L.length,true):=by rw[IsS.len (.inr ⟨_,rfl,gR c1 hL⟩),jy]
  have x1:=gi c1 al;rw[qDV];simp only[NT]at *;generalize (Ns.map λL=>T.lst (SL L))=n0 at *;simp[-QG,x1,ln,e2]
 have s4:∀{o7 o8:Option T},px (glT gs) (Pk (glT gs) Fs Cs (k-1)) [3] qDH [some (.cell nb),some (N s),some (NT Ns),some (.cell a),some (NL full),some (N at_),some (N pl),o7,o8] (A2++C0)=.ok (.nx [some (.cell nb),some (N s),some (NT Ns),some (.cell a),some (NL full),some (N at_),some (N pl),some (N w),o8],A3++C0):=λ{o7 o8}=>by
  rw[qDH];simp only[NT]at *;generalize (Ns.map λL=>T.lst (SL L))=n0 at *;simp[e3]
 have s5:∀{o8:Option T},px (glT gs) (Pk (glT gs) Fs Cs (k-1)) [3] qDg [some (.cell nb),some (N s),some (NT Ns),some (.cell a),some (NL full),some (N at_),some (N pl),some (N w),o8] (A3++C0)=.ok (.nx [some (.cell nb),some (N s),some (NT Ns),some (.cell a),some (NL full),some (N at_),some (N pl),some (N w),some (sp p)],A3++C0):=λ{o8}=>by
  have x1:=gi c3 al;have x2:jv (A3++C0) (.cell (M.length+at_)) (N pl)=some (sp p,true):=by
   rw[U2 _ (gR c3 hL)];unfold SL;rw[wQ,hp];simp[S8]
  rw[qDg];simp only[NT]at *;generalize (Ns.map λL=>T.lst (SL L))=n0 at *;simp[-QG,x1,x2]
 have x1:=gi c3 al;have gA3:=gA c3;have gR3:=gR c3 hL;have hW3:=zK hW kk;have clx:=a8 (A:=A3) (C:=C0) Ns M.length (by omega) λj K hj=>gR c3 hj;have fin:∀{t:T}{ts:List T}{C:Mem}{Ns':List (List Stp)},C≠[]->(t=.lst ts\/∃a,t=.cell a/\A3.length<=a/\(A3++C)[a]?=some ts)->qy (Rw A3.length (A3++C)) ts Ns'->(∀K∈Ns',OkR (2 ^ s) K)->Ns'.length<=31 ->
   px (glT gs) (Pk (glT gs) Fs Cs (k-1)) [3] qBF [some (.cell nb),some (N s),some (NT Ns),some (.cell a),some (NL full),some (N at_),some (N pl),some (N w),some (sp p)] (A3++C0)=.ok (.nx [some (.cell nb),some (N s),some (NT Ns),some t,some (NL full),some (N at_),some (N pl),some (N w),some (sp p)],A3++C) ->
   ∃(Ns':List (List Stp)) (f:Bool) (M':Mem),Pk (glT gs) Fs Cs k 30 [.cell nb,N s,NT Ns] M=.ok ((NT Ns',f),M')/\(∀L∈Ns',OkR (2 ^ s) L)/\Ns'.length<=31/\Kept nb M M':=λ{t ts C Ns'} q1 q2 q3 q4 q5 q6=>by
  obtain⟨f',lv⟩:=N3 (M:=M) c3 hW3 q1 q2 q3 t.lf;refine⟨Ns',f',A3,?_,q4,q5,kk⟩;rw[qL t30 ⟨rfl,by decide⟩ (by omega),qDY,show Cs.getD 30 []=[3] from rfl];show QI M.length (pxs (glT gs) (Pk (glT gs) Fs Cs (k-1)) [3] _ [some (.cell nb),some (N s),some (NT Ns),none,none,none,none,none,none] M)=_;rw[qj s0,qj s1,qj s2,qj s3,qj s4,qj s5,qj q6,qD2];simp only[qu,QC,pe_var];exact lv
 have clne:∀r:Mem,Ns.map SL++[cl M.length Ns.length]++r≠[]:=λr=>by simp
 have w3:w=0\/w=1\/w=2:=by omega
 rcases w3 with rfl|rfl|rfl
 ·obtain⟨L',hL'⟩:∃L',L'=L.take pl++L.drop (pl+1):=⟨_,rfl⟩
  have sub:L'.Sublist L:=by
   rw[hL']
   conv=>rhs;rw[<-wq pl L]
   exact(List.Sublist.refl _).append (by rw[<-vI];exact List.drop_sublist _ _)
  refine fin (t:=.cell a) (ts:=(cl M.length Ns.length).set at_ (.lst (SL L'))) (C:=Ns.map SL++[(cl M.length Ns.length).set at_ (.lst (SL L'))]) (Ns':=Ns.set at_ L') (by simp) (.inr ⟨a,rfl,by omega,by rw[ha,<-c3];exact QT 0⟩) ?_ (λK hK=>?_) (by rw[wd];omega) ?_
  ·refine zH at_ (a8 Ns M.length (by omega) λj K hj=>by rw[<-c3];exact QR hj) (.inl rfl)
  ·rcases wY hK with z|rfl
   ·exact hN K z
   ·exact A4 Lok sub
  ·have y1:=V0 (L:=L) (d:=pl) (by omega);have y2:=T3 (L:=L) (d:=pl+1) (by omega);have ad:∀{M:Mem},qp M .add (.lst (SL (L.take pl))) (.lst (SL (L.drop (pl+1))))=some (.lst (SL L'),true):=λ{M}=>by
    rw[QX (by rw[jy,jy];simp[lim];omega),hL'];unfold lT;rw[show SL (L.take pl)++SL (L.drop (pl+1))=SL (L.take pl++L.drop (pl+1)) by unfold SL;rw[wS],Qs]
   have it:T.its (A3++C0) (.cell (M.length+at_))=some (SL L):=gR3;have pt:i7 (A3++C0) (.cell a) (N at_) (.lst (SL L'))=some (A3++(Ns.map SL++[(cl M.length Ns.length).set at_ (.lst (SL L'))])):=by
    rw[C2 gA3 (by rw[je];exact al),hC0,ha,<-c3];exact congrArg some (W6 0 _)
   rw[qBF];simp only[NT]at *;generalize (Ns.map λL=>T.lst (SL L))=n0 at *;generalize SL (L.take pl)=z1 at *;generalize SL (L.drop (pl+1))=z2 at *;generalize SL L'=z3 at *;generalize SL L=z4 at *;generalize (Ns.map SL++[(cl M.length Ns.length).set at_ (.lst z3)])=z5 at *;have y2:lT (jk z4 (some ((pl:Int)+1)) none)=(.lst z2,true):=y2;simp[-QG,-Y2,x1,it,y1,y2,ad,pt]
 ·refine fin (t:=.cell a) (ts:=cl M.length Ns.length) (C:=(Ns.set at_ (L.set pl (p.2,p.1))).map SL++[cl M.length Ns.length]) (Ns':=Ns.set at_ (L.set pl (p.2,p.1))) (by simp) (.inr ⟨a,rfl,by omega,?_⟩) ?_ (λK hK=>?_) (by rw[wd];omega) ?_
  ·have:=QT (A:=A3) (Ns:=Ns.set at_ (L.set pl (p.2,p.1))) (R:=[cl M.length Ns.length]) 0;rw[wd]at this;rw[ha,<-c3]at *;exact this
  ·have:=a8 (A:=A3) (C:=(Ns.set at_ (L.set pl (p.2,p.1))).map SL++[cl M.length Ns.length]) (Ns.set at_ (L.set pl (p.2,p.1))) M.length (by omega) λj K hj=>by rw[<-c3];exact QR hj
   rw[wd]at this;exact this
  ·rcases wY hK with z|rfl
   ·exact hN K z
   ·exact W5 Lok hp
  ·have pt:i7 (A3++C0) (.cell (M.length+at_)) (N pl) (sp (p.2,p.1))=some (A3++((Ns.set at_ (L.set pl (p.2,p.1))).map SL++[cl M.length Ns.length])):=by
    rw[C2 gR3 (by rw[jy];exact hpl),hC0,<-c3,wP _ _ (by omega),show A3.length+at_-A3.length=at_ by omega,List.set_append_left _ _ (by simpa using al),List.map_set];congr 4;unfold SL;rw[List.map_set]
   have i0:∀{M:Mem},jv M (sp p) (N 0)=some (N p.1,true):=λ{M}=>by unfold sp;rw[JX];simp
   have i1:∀{M:Mem},jv M (sp p) (N 1)=some (N p.2,true):=λ{M}=>by unfold sp;rw[JX];simp
   have tp:T.tup [N p.2,N p.1]=sp (p.2,p.1):=rfl;rw[qBF];simp only[NT]at *;generalize (Ns.map λL=>T.lst (SL L))=n0 at *;generalize ((Ns.set at_ (L.set pl (p.2,p.1))).map SL++[cl M.length Ns.length])=z5 at *;generalize sp (p.2,p.1)=z6 at *;simp[-QG,-Y2,x1,i0,i1,S8,tp,pt,lim]
 ·have z1:jk (cl M.length Ns.length) none (some (at_:Int))=(cl M.length Ns.length).take at_:=jZ (by rw[je];omega);have z2:jk (cl M.length Ns.length) (some (at_:Int)) none=(cl M.length Ns.length).drop at_:=jd (by rw[je];omega);refine fin (t:=.lst ((cl M.length Ns.length).take at_++.lst (SL [p])::(cl M.length Ns.length).drop at_)) (ts:=(cl M.length Ns.length).take at_++.lst (SL [p])::(cl M.length Ns.length).drop at_) (C:=C0) (Ns':=Ns.take at_++[p]::Ns.drop at_) (by rw[hC0];simp) (.inl rfl) (qk (qq at_ clx) ⟨_,_,rfl,.inl rfl,zo at_ clx⟩) (λK hK=>?_) (by simp;omega) ?_
  ·rcases wE.mp hK with z|z
   ·exact hN K (List.mem_of_mem_take z)
   ·rcases List.mem_cons.mp z with rfl|z
    ·exact L4 pok
    ·exact hN K (List.mem_of_mem_drop z)
  ·have lc:(cl M.length Ns.length).length=Ns.length:=je _ _;have it:T.its (A3++C0) (.cell a)=some (cl M.length Ns.length):=gA3;have lf:=M7 ((cl M.length Ns.length).take at_) ((cl M.length Ns.length).drop at_) (SL [p]);have ad1:∀{M':Mem},qp M' .add (.lst ((cl M.length Ns.length).take at_)) (.lst [.lst (SL [p])])=some (lT ((cl M.length Ns.length).take at_++[.lst (SL [p])])):=λ{M'}=>QX (by simp[lim];omega);have ad2:∀{M':Mem},qp M' .add (.lst ((cl M.length Ns.length).take at_++[.lst (SL [p])])) (.lst ((cl M.length Ns.length).drop at_))=some (.lst ((cl M.length Ns.length).take at_++.lst (SL [p])::(cl M.length Ns.length).drop at_),false):=λ{M'}=>by
    rw[QX (by simp[lim];omega),wL,List.singleton_append];unfold lT;rw[lf]
   have s1p:T.lst [sp p]=.lst (SL [p]):=rfl;rw[qBF];simp only[NT]at *;generalize (Ns.map λL=>T.lst (SL L))=n0 at *;unfold lT at ad1;generalize ((cl M.length Ns.length).take at_++.lst (SL [p])::(cl M.length Ns.length).drop at_)=z5 at *;generalize ((cl M.length Ns.length).take at_++[.lst (SL [p])])=z6 at *;generalize (cl M.length Ns.length).take at_=z7 at *;generalize (cl M.length Ns.length).drop at_=z8 at *;generalize cl M.length Ns.length=z9 at *;simp[it,z1,z2,S8,s1p,ad1,ad2,lT,lim]
theorem qBp(hk:4<=k){M:Mem}{nb s:Nat}(h1:1<=s)(h5:s<=5)(hW:WfM M)(g:Jh M nb):∃(Ns:List (List Stp)) (f:Bool) (M':Mem),Pk (glT gs) Fs Cs k 31 [.cell nb,N s] M=.ok ((NT Ns,f),M')/\(∀L∈Ns,OkR (2 ^ s) L)/\Ns.length<=40/\Kept nb M M':=by
 obtain⟨w,M1,e1,hw,k1⟩:=out (k:=k-1) (by omega) g (m:=4) (by decide);have w1:=zK hW k1;by_cases h3:w=3
 ·subst h3;obtain⟨Ns,M2,e2,c1,c2,k2⟩:=net (k:=k-1) (by omega) h5 w1 k1.good;have kk:=k1.trans k2;refine⟨Ns,true,M2,?_,c1,c2,kk⟩;rw[qL t31 ⟨rfl,by decide⟩ (by omega),b31,show Cs.getD 31 []=[] from rfl];simp[e1,e2];rw[qC kk.len]
 ·obtain⟨Ns,f,M2,e2,c1,c2,c3,k2⟩:=qAX (k:=k-1) (by omega) h1 h5 w1 k1.good;have kk:=k1.trans k2;by_cases h2:w=2
  ·subst h2;obtain⟨Ns',f',M3,e3,d1,d2,k3⟩:=qE5 (k:=k-1) (by omega) (zK hW kk) k2.good c1 c2 c3;have k4:=kk.trans k3;refine⟨Ns',f',M3,?_,d1,by omega,k4⟩;rw[qL t31 ⟨rfl,by decide⟩ (by omega),b31,show Cs.getD 31 []=[] from rfl];simp only[NT]at *;generalize (Ns.map λL=>T.lst (SL L))=n0 at *;simp[e1,e2,e3];rw[qC k4.len]
  ·refine⟨Ns,false,M2,?_,c1,by omega,kk⟩;rw[qL t31 ⟨rfl,by decide⟩ (by omega),b31,show Cs.getD 31 []=[] from rfl];simp only[NT]at *;generalize (Ns.map λL=>T.lst (SL L))=n0 at *;simp[e1,h3,e2,h2];rw[qC kk.len]
end
end My
namespace My
open PySem PySem.Spec PI
open L2 (V)
open Nt (Stp Sg OkS OkR qX)
theorem U8{d:jE}{gl:List T}{P:Nat->List T->Mem->PR (TB×Mem)}{c:TS->Mem->PR (Bool×Mem)}{e:TS->Mem->PR (TB×Mem)}{σ:TS}{M:Mem}(hd:qR d M=true):∀(its ys:List T) (b:Bool) (o:Option T),(∀x∈its,c (some x::σ) M=.ok (false,M))->qP d (.name 0) c e its ys b (o::σ) M=.ok ((.lst ys,b),M)
 | [],ys,b,o,_=>by simp[qP]
 |x::r,ys,b,o,h=>by
  rw[qP,show qo (.name 0) x (o::σ)=some (some x::σ) from rfl];dsimp only;rw[h x (by simp),PR.bind_ok];dsimp only;rw[if_neg (by decide),if_pos hd];exact U8 (gl:=gl) (P:=P) hd r ys b (some x) λy hy=>h y (by simp[hy])
noncomputable def bad(n:Nat)(Ns:List (List Stp))(j:Nat):Bool:=!decide (Nt.net (Nt.unit n j) Ns=Nt.word (Nt.unit n j))
noncomputable def mkB(n:Nat)(Ns:List (List Stp)):Bool:=(List.range n).all λj=>!bad n Ns j
noncomputable def Qp(n:Nat)(Ns:List (List Stp)):Option Nat:=(List.range n).find? (bad n Ns)
theorem Qd(n:Nat)(Ns:List (List Stp)):mkB n Ns=(Qp n Ns).isNone:=by
 unfold mkB Qp
 induction List.range n with
 |nil=>rfl
 |cons x r ih=>
  rw[List.all_cons,List.find?_cons,ih];cases bad n Ns x<;>simp
noncomputable def unT(n:Nat):Option Nat->T
 |none=>.v .non
 |some q=>NL (Nt.unit n q)
theorem qAN{M A C:Mem}(hA:A.length=M.length)(hW:WfM A):QI M.length (.ok (.rt (.v .non,true),A++C))=.ok ((.v .non,true),A):=by
 show PI.finish M.length _ _=_;unfold PI.finish;rw[<-hA];by_cases hb:(A++C).length=A.length
 ·have:C=[]:=List.length_eq_zero_iff.mp (by simp at hb;simp[hb]);subst this;rw[if_pos hb,List.append_nil]
 ·rw[if_neg hb,List.take_left' rfl,if_pos (show A.all (T.unds A.length)=true from hW)];dsimp only;rw[show qG (A++C) A.length 6 (.v .non)=some (.v .non) by unfold qG;rw[if_pos (Je _ _ rfl)]];rfl
section
variable{k:Nat}
theorem Zh(hk:1<=k)(i:Nat)(M:Mem):Pk (glT gs) Fs Cs k 22 [N i] M=.ok (bT true,M):=by
 rw[qL t22 ⟨rfl,by decide⟩ hk,b22,show Cs.getD 22 []=[] from rfl];simp[zh,qC]
theorem qAw(hk:1<=k){M:Mem}{t:T}{x:List Nat}(h:IsS M t (x.map N))(hl:x.length<=1000):Pk (glT gs) Fs Cs k 27 [t] M=.ok ((NL (Nt.word x),true),M):=by
 rw[qL t27 ⟨rfl,by decide⟩ (by omega),b27,show Cs.getD 27 []=[] from rfl];have rg:=zq (n:=x.length) (by omega);have ll:x.length<=lim:=Nat.le_trans hl (by decide);have ln:zW M .len [t]=some (N x.length,true):=by rw[h.len,wH]
 have c:qP [] (.name 0) (pec (glT gs) (Pk (glT gs) Fs Cs (k-1)) .nil) (pe (glT gs) (Pk (glT gs) Fs Cs (k-1)) (.bin .mod (.blt .sum (.cons (.comp (.rng1 (.blt .len (.cons (.var 1) .nil))) [none,some 1,some 0] (.name 0) (.cons (.cmp .eq (.bin .band (.var 0) (.var 2)) (.var 2)) .nil) (.idx (.var 1) (.var 0))) .nil)) (nE 2))) ((List.range x.length).map N) [] true [none,some t] M=.ok ((NL (Nt.word x),true),M):=by
  refine(B1 (λt=>(((List.range x.length).filter λp=>decide (p&&& t=t)).map λp=>x.getD p 0).sum % 2) (by simpa using ll) λu hu=>?_).trans rfl;have ci:qP [] (.name 0) (pec (glT gs) (Pk (glT gs) Fs Cs (k-1)) (.cons (.cmp .eq (.bin .band (.var 0) (.var 2)) (.var 2)) .nil)) (pe (glT gs) (Pk (glT gs) Fs Cs (k-1)) (.idx (.var 1) (.var 0))) ((List.range x.length).map N) [] true [none,some t,some (N u)] M=.ok ((NL (((List.range x.length).filter λp=>decide (p&&& u=u)).map λp=>x.getD p 0),true),M):=
   Jx (λp=>decide (p&&& u=u)) (λp=>x.getD p 0) (by simpa using ll) (λp _=>by simp[V4]) (λp hp _=>by
    have g1:jv M t (N p)=some (N (x.getD p 0),true):=by rw[h.idx,qAe (wO.mp hp)];rfl
    generalize x.getD p 0=va at *;simp[h.lf,g1])
  have sm:=λ{M:Mem}=>(IsL.nl M (((List.range x.length).filter λp=>decide (p&&& u=u)).map λp=>x.getD p 0)).sum;generalize (((List.range x.length).filter λp=>decide (p&&& u=u)).map λp=>x.getD p 0)=w at *;simp only[C8,ZB,zQ,zi,pe_comp,zY,pe_var,qV,qb,qZ];simp(disch:=omega) [h.lf,ln,rg,ci,sm,jb,-QO]
 simp only[qu,QC,pe_comp,zY,ZB,zQ,zi,pe_var,qV,qb,qZ];simp[h.lf,ln,rg,c,qC,-zR]
theorem X8(n j:Nat):(Nt.unit n j).length=n:=(Nt.unit_sg n j).1
theorem mkL(hk:2<=k){M:Mem}(hW:WfM M){t:T}{s:Nat}(h5:s<=5){Ns:List (List Stp)}(i:IsN M t Ns)(h:∀L∈Ns,OkR (2 ^ s) L):∀(m j:Nat) (o2 o3:Option T),j+m=2 ^ s->∃p2 p3,qm [] (.name 2) (pxs (glT gs) (Pk (glT gs) Fs Cs k) [] a4) ((List.range' j m).map N) [some (N s),some t,o2,o3] M=if ((List.range' j m).all λq=>!bad (2 ^ s) Ns q)=true then .ok (.nx [some (N s),some t,p2,p3],M) else .ok (.rt (bT false),M)
 | 0,j,o2,o3,hj=>⟨o2,o3,rfl⟩
 |m+1,j,o2,o3,hj=>by
  obtain⟨p2,p3,e⟩:=mkL hk hW h5 i h m (j+1) (some (N j)) (some (NL (Nt.unit (2 ^ s) j))) (by omega);have n5:=p5 h5;have sl:∀{M:Mem},qp M .shl (N 1) (N s)=some (N (2 ^ s),true):=λ{M}=>by rw[ZF (by omega),vF]
  have rg:=zq (n:=2 ^ s) (by omega);have c:qP [] (.name 0) (pec (glT gs) (Pk (glT gs) Fs Cs k) .nil) (pe (glT gs) (Pk (glT gs) Fs Cs k) (.blt .int (.cons (.cmp .eq (.var 1) (.var 0)) .nil))) ((List.range (2 ^ s)).map N) [] true [none,some (N j)] M=.ok ((NL (Nt.unit (2 ^ s) j),true),M):=by
   refine(B1 (λq=>if q=j then 1 else 0) (by simp[lim];omega) λq _=>?_).trans rfl;have ib:∀{M:Mem},zW M .int [.v (.bl (decide (j=q)))]=some (N (if q=j then 1 else 0),true):=λ{M}=>by
    by_cases z:q=j
    ·subst z;simp[zW,V8,iT];rfl
    ·rw[if_neg z,vM (λy=>z y.symm)];rfl
   generalize (if q=j then 1 else 0)=vv at *;simp[bT,ib]
  have e1:=qEF (k:=k) hk hW i h (r:=NL (Nt.unit (2 ^ s) j)) (.inl rfl) (Nt.unit_sg (2 ^ s) j);have e2:=qAw (k:=k) (by omega) (M:=M) (t:=NL (Nt.unit (2 ^ s) j)) (x:=Nt.unit (2 ^ s) j) (.inl rfl) (by rw[X8];omega);have cn:=(IsL.nl M (Nt.net (Nt.unit (2 ^ s) j) Ns)).cne (IsL.nl M (Nt.word (Nt.unit (2 ^ s) j)));have hb:(!decide (Nt.net (Nt.unit (2 ^ s) j) Ns=Nt.word (Nt.unit (2 ^ s) j)))=bad (2 ^ s) Ns j:=rfl;have tl:(NL (Nt.unit (2 ^ s) j)).lf=false:=O6 _;refine⟨p2,p3,?_⟩;rw[wZ,List.map_cons,zJ,List.all_cons];have body:pxs (glT gs) (Pk (glT gs) Fs Cs k) [] a4 [some (N s),some t,some (N j),o3] M=if bad (2 ^ s) Ns j=true then .ok (.rt (bT false),M) else .ok (.nx [some (N s),some t,some (N j),some (NL (Nt.unit (2 ^ s) j))],M):=by
   rw[a4];obtain⟨ts,i1,_⟩:=i;rw[hb]at cn;generalize bad (2 ^ s) Ns j=bb at *;generalize Nt.net (Nt.unit (2 ^ s) j) Ns=x1 at *;generalize Nt.word (Nt.unit (2 ^ s) j)=x2 at *;generalize Nt.unit (2 ^ s) j=x3 at *;simp only[qu,Jo,G7,pe_comp,zY,C8,W2,pe_var,qV,qb,qZ];cases bb<;>simp[sl,rg,c,e1,e2,cn,tl,i1.lf,-zR]
  rw[show ([some (N s),some t,o2,o3]:TS).set 2 (some (N j))=[some (N s),some t,some (N j),o3] from rfl,body];cases hq:bad (2 ^ s) Ns j with
  |true=>simp
  |false=>
   rw[Bool.not_false,Bool.true_and];simpa using e
theorem N2(hk:3<=k){M:Mem}(hW:WfM M){t:T}{s:Nat}(h5:s<=5){Ns:List (List Stp)}(i:IsN M t Ns)(h:∀L∈Ns,OkR (2 ^ s) L):Pk (glT gs) Fs Cs k 32 [N s,t] M=.ok (bT (mkB (2 ^ s) Ns),M):=by
 obtain⟨p2,p3,e⟩:=mkL (k:=k-1) (by omega) hW h5 i h (2 ^ s) 0 none none (by omega);rw[<-wu]at e;have n5:=p5 h5;have sl:∀{M:Mem},qp M .shl (N 1) (N s)=some (N (2 ^ s),true):=λ{M}=>by rw[ZF (by omega),vF]
 have rg:=zq (n:=2 ^ s) (by omega);rw[qL t32 ⟨rfl,by decide⟩ (by omega),b32,show Cs.getD 32 []=[] from rfl];have hm:((List.range (2 ^ s)).all λq=>!bad (2 ^ s) Ns q)=mkB (2 ^ s) Ns:=rfl;rw[hm]at e;generalize mkB (2 ^ s) Ns=mm at *;cases mm<;>simp[sl,rg,e,qC]
theorem qBt(hk:1<=k){n j:Nat}(hn:n<=32)(M:Mem):Pk (glT gs) Fs Cs k 19 [N n,N j] M=.ok ((NL (Nt.unit n j),true),M):=by
 have rg:=zq (n:=n) (by omega);have c:qP [] (.name 0) (pec (glT gs) (Pk (glT gs) Fs Cs (k-1)) .nil) (pe (glT gs) (Pk (glT gs) Fs Cs (k-1)) (.ite (.cmp .eq (.var 0) (.var 1)) (nE 1) (nE 0))) ((List.range n).map N) [] true [none,some (N j)] M=.ok ((NL (Nt.unit n j),true),M):=by
  refine(B1 (λq=>if q=j then 1 else 0) (by simp[lim];omega) λq _=>?_).trans rfl;by_cases z:q=j
  ·simp[z]
  ·simp[z]
 rw[qL t19 ⟨rfl,by decide⟩ (by omega),b19,show Cs.getD 19 []=[] from rfl];simp only[qu,QC,pe_comp,zY,pe_var,qV,qb,qZ];simp[rg,c,qC,-zR]
theorem unL(hk:11<=k){M:Mem}(hW:WfM M){t:T}{s:Nat}(h1:1<=s)(h5:s<=5){Ns:List (List Stp)}(i:IsN M t Ns)(h:∀L∈Ns,OkR (2 ^ s) L):∀(m j:Nat) (C:Mem) (o3 o4:Option T),j+m=2 ^ s->(∀c∈C,T.lfs c=true) ->
  ((List.range' j m).find? (bad (2 ^ s) Ns)=none/\∃C' σ,qm [] (.name 3) (pxs (glT gs) (Pk (glT gs) Fs Cs k) [4] M5) ((List.range' j m).map N) [some (N s),some t,some (N (2 ^ s)),o3,o4] (M++C)=.ok (.nx σ,M++C'))\/
  (∃q c C',(List.range' j m).find? (bad (2 ^ s) Ns)=some q/\qm [] (.name 3) (pxs (glT gs) (Pk (glT gs) Fs Cs k) [4] M5) ((List.range' j m).map N) [some (N s),some t,some (N (2 ^ s)),o3,o4] (M++C)=.ok (.rt (.cell c,false),M++C')/\M.length<=c/\(M++C')[c]?=some ((Nt.unit (2 ^ s) q).map N))
 | 0,j,C,o3,o4,hj,hC=>.inl ⟨rfl,C,_,rfl⟩
 |m+1,j,C,o3,o4,hj,hC=>by
  have n5:=p5 h5;obtain⟨U,hU⟩:∃U,U=Nt.unit (2 ^ s) j:=⟨_,rfl⟩
  have usg:Sg (2 ^ s) U:=by rw[hU];exact Nt.unit_sg _ _
  have hC2:∀c∈C++[U.map N],T.lfs c=true:=λc hc=>by
   rcases wE.mp hc with z|z
   ·exact hC c z
   ·rw[wJ.mp z];exact ZY _
  have hW2:WfM (M++(C++[U.map N])):=hW.app λc hc=>jo _ _ (hC2 c hc);have gc:(M++(C++[U.map N]))[M.length+C.length]?=some (U.map N):=by
   rw[List.getElem?_append_right (by omega),show M.length+C.length-M.length=C.length by omega];simp
  have e1:=qFB (k:=k) (by omega) hW2 (i.app (C:=C++[U.map N])) h (r:=.cell (M.length+C.length)) (.inr ⟨_,rfl,gc⟩) usg;have e2:=f14 (k:=k) (by omega) (IsL.cell gc) h1 h5 usg.1 usg.2;rw[X3 h5 usg.1 usg.2]at e2;have e3:=qBt (k:=k) (by omega) (n:=2 ^ s) (j:=j) n5 (M++C);rw[<-hU]at e3;have cn:=(IsL.nl (M++(C++[U.map N])) (Nt.net U Ns)).cne (IsL.nl (M++(C++[U.map N])) (Nt.word U));have hb:(!decide (Nt.net U Ns=Nt.word U))=bad (2 ^ s) Ns j:=by rw[hU];rfl
  rw[hb]at cn;obtain⟨ts,i1,_⟩:=id i;have body:pxs (glT gs) (Pk (glT gs) Fs Cs k) [4] M5 [some (N s),some t,some (N (2 ^ s)),some (N j),o4] (M++C)=if bad (2 ^ s) Ns j=true then .ok (.rt (.cell (M.length+C.length),false),M++(C++[U.map N])) else .ok (.nx [some (N s),some t,some (N (2 ^ s)),some (N j),some (.cell (M.length+C.length))],M++(C++[U.map N])):=by
   rw[M5];generalize bad (2 ^ s) Ns j=bb at *;generalize Nt.net U Ns=x1 at *;generalize Nt.word U=x2 at *;cases bb<;>simp[e3,i1.lf,e1,e2,cn]
  rw[wZ,List.map_cons,zJ,List.find?_cons,show ([some (N s),some t,some (N (2 ^ s)),o3,o4]:TS).set 3 (some (N j))=[some (N s),some t,some (N (2 ^ s)),some (N j),o4] from rfl,body];cases hq:bad (2 ^ s) Ns j with
  |true=>exact .inr ⟨j,M.length+C.length,C++[U.map N],rfl,rfl,by omega,by rw[gc,hU]⟩
  |false=>
   rcases unL hk hW h1 h5 i h m (j+1) (C++[U.map N]) (some (N j)) (some (.cell (M.length+C.length))) (by omega) hC2 with⟨z,C',σ,e⟩|⟨q,c,C',z,e,y1,y2⟩
   ·exact .inl ⟨z,C',σ,e⟩
   ·exact .inr ⟨q,c,C',z,e,y1,y2⟩
theorem R9(hk:12<=k){M:Mem}(hW:WfM M){t:T}{s:Nat}(h1:1<=s)(h5:s<=5){Ns:List (List Stp)}(i:IsN M t Ns)(h:∀L∈Ns,OkR (2 ^ s) L)(hl:Ns.length<=40):Pk (glT gs) Fs Cs k 18 [N s,t] M=.ok ((unT (2 ^ s) (Qp (2 ^ s) Ns),true),M):=by
 have n5:=p5 h5;have e1:=f4 (k:=k-1) (by omega) h1 h5 M;have e2:=chk (k:=k-1) (by omega) h1 h5 i h hl;have e3:=f2 (k:=k-1) (by omega) h5 M;have rg:=zq (n:=2 ^ s) (by omega);obtain⟨ts,i1,_⟩:=id i;rw[qL t18 ⟨rfl,by decide⟩ (by omega),b18,show Cs.getD 18 []=[4] from rfl];have un:=unL (k:=k-1) (by omega) hW h1 h5 i h (2 ^ s) 0 [] none none (by omega) (by simp);rw[<-wu,List.append_nil]at un;unfold Qp;rcases un with⟨z,C',σ,e⟩|⟨q,c,C',z,e,y1,y2⟩
 ·rw[z];generalize 2 ^ s=nn at *;simp[i1.lf,e1,e2,e3,rg,e];exact qAN rfl hW
 ·rw[z];generalize 2 ^ s=nn at *;simp[i1.lf,e1,e2,e3,rg,e];exact zU rfl hW y2 y1 (ZY _) _
theorem Q4(hk:13<=k){M:Mem}(hW:WfM M){t:T}{s:Nat}(h1:1<=s)(h5:s<=5){Ns:List (List Stp)}(i:IsN M t Ns)(h:∀L∈Ns,OkR (2 ^ s) L)(hl:Ns.length<=40):Pk (glT gs) Fs Cs k 17 [N s,t] M=.ok (bT (mkB (2 ^ s) Ns),M):=by
 have e:=R9 (k:=k-1) (by omega) hW h1 h5 i h hl;obtain⟨ts,i1,_⟩:=id i;rw[qL t17 ⟨rfl,by decide⟩ (by omega),b17,show Cs.getD 17 []=[] from rfl,Qd];cases hf:Qp (2 ^ s) Ns with
 |none=>
  rw[hf]at e;have e:Pk (glT gs) Fs Cs (k-1) 18 [N s,t] M=.ok ((.v .non,true),M):=e;have ci:∀{M:Mem},zP M .is (.v .non) (.v .non)=some true:=λ{M}=>rfl;simp[i1.lf,e,ci,qC]
 |some q=>
  rw[hf]at e;have e:Pk (glT gs) Fs Cs (k-1) 18 [N s,t] M=.ok ((NL (Nt.unit (2 ^ s) q),true),M):=e;have ci:∀{M:Mem},zP M .is (NL (Nt.unit (2 ^ s) q)) (.v .non)=some false:=λ{M}=>rfl;generalize Nt.unit (2 ^ s) q=uu at *;simp[i1.lf,e,ci,qC]
theorem qEz(hk:3<=k){M:Mem}(hW:WfM M){t:T}{s c q:Nat}(h1:1<=s)(h5:s<=5){Ns:List (List Stp)}(i:IsN M t Ns)(h:∀L∈Ns,OkR (2 ^ s) L)(hc:M[c]?=some ((Nt.unit (2 ^ s) q).map N)):Pk (glT gs) Fs Cs k 33 [N s,t,.cell c] M=.ok (bT (bad (2 ^ s) Ns q),M):=by
 have n5:=p5 h5;obtain⟨U,hU⟩:∃U,U=Nt.unit (2 ^ s) q:=⟨_,rfl⟩
 have usg:Sg (2 ^ s) U:=by rw[hU];exact Nt.unit_sg _ _
 rw[<-hU]at hc;have iu:IsS M (.cell c) (U.map N):=.inr ⟨c,rfl,hc⟩;have sl:∀{M:Mem},qp M .shl (N 1) (N s)=some (N (2 ^ s),true):=λ{M}=>by rw[ZF (by omega),vF]
 have ln:zW M .len [.cell c]=some (N (2 ^ s),true):=by rw[iu.len,wH,usg.1]
 obtain⟨d,s1,s2⟩:=Jp iu [];rw[List.append_nil]at s1;have s2':=s2 [];rw[List.append_nil]at s2';have cc:=U8 (gl:=glT gs) (P:=Pk (glT gs) Fs Cs (k-1)) (c:=pec (glT gs) (Pk (glT gs) Fs Cs (k-1)) (.cons (.or (.not (.call 22 (.cons (.var 0) .nil))) (.cmp .notin (.var 0) (.tup (.cons (nE 0) (.cons (nE 1) .nil))))) .nil)) (e:=pe (glT gs) (Pk (glT gs) Fs Cs (k-1)) (.var 0)) (σ:=[]) (M:=M) s2' (U.map N) [] true none (λx hx=>by
  obtain⟨v,hv,rfl⟩:=wj.mp hx;have hv:=usg.2 v hv;have ni:∀{M:Mem},zP M .notin (N v) (.tup [N 0,N 1])=some false:=λ{M}=>by
   have:v=0\/v=1:=by omega
   rcases this with rfl|rfl<;>rfl
  simp[Zh (k:=k-1) (by omega),ni,lim])
 have nn:∀{M:Mem},zP M .ne (.lst []) (.lst [])=some false:=λ{M}=>rfl;have e1:=qEF (k:=k-1) (by omega) hW i h iu usg;have e2:=qAw (k:=k-1) (by omega) iu (by rw[usg.1];omega);have cn:=(IsL.nl M (Nt.net U Ns)).cne (IsL.nl M (Nt.word U));have hb:(!decide (Nt.net U Ns=Nt.word U))=bad (2 ^ s) Ns q:=by rw[hU];rfl
 rw[hb]at cn;obtain⟨ts,i1,_⟩:=id i;rw[qL t33 ⟨rfl,by decide⟩ (by omega),b33,show Cs.getD 33 []=[] from rfl];generalize bad (2 ^ s) Ns q=bb at *;generalize Nt.net U Ns=x1 at *;generalize Nt.word U=x2 at *;generalize 2 ^ s=nq at *;have ty:=iu.ty;simp only[qu,G7,QC,pe_or,pe_not,M9,C9,pe_comp,QQ,pe_var,ZB,zQ,zi,C8,W2,qV,qZ];simp[zh,ty,ln,sl,s1,cc,nn,i1.lf,e1,e2,cn,lim,qC,-QO]
end
end My
namespace My
open PySem PySem.Spec PI
open L2 (V)
open Nt (Stp Sg OkS OkR qX)
noncomputable def qC7:S:=(.asg (.name 3) (.call 26 (.cons (.var 1) .nil)))
noncomputable def qDM:S:=(.asg (.name 4) (.call 17 (.cons (.var 0) (.cons (.var 3) .nil))))
noncomputable def qCZ:S:=(.ifs (.or (.not (.isi (.var 4) ["bool"])) (.or (.cmp .ne (.var 4) (.var 2)) (.cmp .ne (.var 3) (.var 1)))) (.cons (.ret (.cst (V.bl false))) .nil) .nil)
noncomputable def qCW:S:=(.asg (.name 5) (.call 18 (.cons (.var 0) (.cons (.var 3) .nil))))
noncomputable def qAg:S:=(.ifs (.or (.cmp .ne (.var 3) (.var 1)) (.cmp .ne (.cmp .is (.var 5) (.cst V.non)) (.var 2))) (.cons (.ret (.cst (V.bl false))) .nil) .nil)
noncomputable def qAf:S:=(.ifs (.cmp .isnot (.var 5) (.cst V.non)) (.cons (.ifs (.not (.call 33 (.cons (.var 0) (.cons (.var 1) (.cons (.var 5) .nil))))) (.cons (.ret (.cst (V.bl false))) .nil) .nil) (.cons (.asg (.name 6) (.blt .list (.cons (.var 5) .nil))) (.cons (.expr (.meth .clr (.var 5) .nil)) (.cons (.ifs (.cmp .ne (.call 18 (.cons (.var 0) (.cons (.var 3) .nil))) (.var 6)) (.cons (.ret (.cst (V.bl false))) .nil) .nil) .nil)))) .nil)
noncomputable def j4:S:=(.ifs (.cmp .lt (.blt .len (.cons (.var 3) .nil)) (nE 40)) (.cons (.expr (.app (.var 3) (.lst (.cons (.tup (.cons (nE 0) (.cons (nE 1) .nil))) .nil)))) .nil) (.cons (.expr (.meth .pop (.var 3) .nil)) .nil))
noncomputable def qAi:S:=(.ret (.cmp .eq (.call 17 (.cons (.var 0) (.cons (.var 3) .nil))) (.call 32 (.cons (.var 0) (.cons (.var 3) .nil)))))
theorem qDa:b34=(.cons qC7 (.cons qDM (.cons qCZ (.cons qCW (.cons qAg (.cons qAf (.cons j4 (.cons qAi .nil)))))))):=rfl
theorem Qf{B:Mem}{a:Nat}{us:List T}:∀(ts:List T) (Ns:List (List Stp)),qy (λt L=>IsS B t (SL L)) ts Ns->(∀t∈ts,t≠.cell a)->qy (λt L=>IsS (B.set a us) t (SL L)) ts Ns
 | [],Ns,h,_=>h
 |t::ts,_,⟨L,Ns,rfl,r,h⟩,hn=>by
  refine⟨L,Ns,rfl,?_,Qf ts Ns h λu hu=>hn u (by simp[hu])⟩;rcases r with rfl|⟨m,rfl,e⟩
  ·exact .inl rfl
  ·exact .inr ⟨m,rfl,by rw[List.getElem?_set_ne (λz=>hn (.cell m) (by simp) (by rw[z]))];exact e⟩
theorem QM(n:Nat):∀a b:List T,T.unds n (a++b)=(T.unds n a&&T.unds n b)
 | [],b=>rfl
 |x::a,b=>by rw[List.cons_append,T.unds,T.unds,QM n a b,Bool.and_assoc]
theorem A8{α:Type}:∀{l:List α},l≠[]->∃(r:List α) (x:α),l=r++[x]
 | [],h=>absurd rfl h
 | [x],_=>⟨[],x,rfl⟩
 |x::y::l,_=>by
  obtain⟨r,z,e⟩:=A8 (l:=y::l) (by simp);exact⟨x::r,z,by rw[e];rfl⟩
theorem qBW{m r a:Nat}(h:m+r<=a):∀t∈cl m r,t≠.cell a:=λt ht z=>by
 unfold cl at ht;obtain⟨j,hj,rfl⟩:=wj.mp ht;rw[List.mem_range'_1]at hj;cases z;omega
theorem U9{n:Nat}{Ns:List (List Stp)}{q:Nat}(h:Qp n Ns=some q):bad n Ns q=true:=List.find?_some h
section
variable{k:Nat}
theorem qE7(hk:14<=k){M C:Mem}{s a:Nat}(h1:1<=s)(h5:s<=5)(hM:WfM M)(hW:WfM (M++C)){Ns:List (List Stp)}(h:∀L∈Ns,OkR (2 ^ s) L)(hl:Ns.length<=40)(ha:a=M.length+Ns.length)(e:(M++C)[a]?=some (cl M.length Ns.length))(i:qy (λt L=>IsS (M++C) t (SL L)) (cl M.length Ns.length) Ns){o2 o4 o5 o6:Option T}:
  ∃C',pxs (glT gs) (Pk (glT gs) Fs Cs k) [3,5] (.cons j4 (.cons qAi .nil)) [some (N s),some (NT Ns),o2,some (.cell a),o4,o5,o6] (M++C)=.ok (.rt (bT true),M++C'):=by
 have alt:=(List.getElem?_eq_some_iff.mp e).1;have ln:zW (M++C) .len [.cell a]=some (N Ns.length,true):=by rw[IsS.len (.inr ⟨a,rfl,e⟩),je]
 have fin:∀(us:List T) (Ns':List (List Stp)),qy (λt L=>IsS ((M++C).set a us) t (SL L)) us Ns'->T.unds (M++C).length us=true->(∀L∈Ns',OkR (2 ^ s) L)->Ns'.length<=40->px (glT gs) (Pk (glT gs) Fs Cs k) [3,5] j4 [some (N s),some (NT Ns),o2,some (.cell a),o4,o5,o6] (M++C)=.ok (.nx [some (N s),some (NT Ns),o2,some (.cell a),o4,o5,o6],(M++C).set a us)->∃C',pxs (glT gs) (Pk (glT gs) Fs Cs k) [3,5] (.cons j4 (.cons qAi .nil)) [some (N s),some (NT Ns),o2,some (.cell a),o4,o5,o6] (M++C)=.ok (.rt (bT true),M++C'):=λus Ns' q1 q2 q3 q4 q5=>by
  have w':=l0 (j:=a) hW q2;have i':IsN ((M++C).set a us) (.cell a) Ns':=⟨us,.inr ⟨a,rfl,List.getElem?_set_self alt⟩,q1⟩
  have m1:=Q4 (k:=k) (by omega) w' h1 h5 i' q3 q4;have m2:=N2 (k:=k) (by omega) w' h5 i' q3;refine⟨C.set (a-M.length) us,?_⟩;rw[qj q5,qAi];have st:(M++C).set a us=M++C.set (a-M.length) us:=wP _ _ (by omega);rw[st]at m1 m2 ⊢;generalize mkB (2 ^ s) Ns'=mm at *;have ce:∀{M:Mem},zP M .eq (.v (.bl mm)) (.v (.bl mm))=some true:=λ{M}=>by cases mm<;>rfl
  simp only[NT]at *;generalize (Ns.map λL=>T.lst (SL L))=n0 at *;simp[m1,m2,bT,ce]
 by_cases hlt:Ns.length<40
 ·have cn:=qBW (m:=M.length) (r:=Ns.length) (a:=a) (by omega);refine fin (cl M.length Ns.length++[.lst (SL [(0,1)])]) (Ns++[[(0,1)]]) (qk (Qf _ _ i cn) ⟨_,_,rfl,.inl rfl,rfl⟩) ?_ (λL hL=>?_) (by simp;omega) ?_
  ·rw[QM,Jm _ _ _ (by omega)];rw[T.unds,O7];rfl
  ·rcases wE.mp hL with z|z
   ·exact h L z
   ·rw[wJ.mp z];have:2<=2 ^ s:=by calc 2=2 ^ 1:=rfl
     _<=2 ^ s:=wt (by decide) h1
    exact L4 ⟨by show 0<2 ^ s;omega,by show 1<2 ^ s;omega,by decide⟩
  ·have ap:=r9 (x:=.lst (SL [(0,1)])) e (by rw[je];exact wC hlt (by decide));have s1:T.lst [.tup [N 0,N 1]]=.lst (SL [(0,1)]):=rfl;rw[j4];simp only[NT]at *;generalize (Ns.map λL=>T.lst (SL L))=n0 at *;generalize (cl M.length Ns.length++[.lst (SL [(0,1)])])=z1 at *;simp[ln,hlt,s1,ap,lim]
 ·obtain⟨us,u,hu⟩:∃us u,cl M.length Ns.length=us++[u]:=by
   have:cl M.length Ns.length≠[]:=λz=>by have:=je M.length Ns.length;rw[z]at this;simp at this;omega
   exact A8 this
  obtain⟨Ks,K,hK⟩:∃Ks K,Ns=Ks++[K]:=by
   have:Ns≠[]:=λz=>by rw[z]at hlt;simp at hlt
   exact A8 this
  have cn:=qBW (m:=M.length) (r:=Ns.length) (a:=a) (by omega);have lu:us.length=Ks.length:=by
   have z:=je M.length Ns.length;rw[hu,hK]at z;simp at z;exact z
  refine fin us Ks ?_ ?_ (λL hL=>h L (by rw[hK];simp[hL])) (by rw[hK]at hl;simp at hl;omega) ?_
  ·refine Qf us Ks ?_ λt ht=>cn t (by rw[hu];simp[ht]);have:=qq us.length i;rw[hu,hK,List.take_left' rfl,List.take_left' lu.symm]at this;exact this
  ·have z:=Jm M.length Ns.length (M++C).length (by omega);rw[hu,QM,Bool.and_eq_true]at z;exact z.1
  ·have mp:Zp .pop a [] (M++C)=some ((u,u.lf),(M++C).set a us):=by
    show ((M++C)[a]?).bind _=_;rw[e,Option.bind_some,hu];simp
   rw[j4];simp only[NT]at *;generalize (Ns.map λL=>T.lst (SL L))=n0 at *;simp[ln,hlt,mp]
theorem j7(hk:16<=k){M:Mem}{s:Nat}(h1:1<=s)(h5:s<=5)(hM:WfM M){Ns:List (List Stp)}(h:∀L∈Ns,OkR (2 ^ s) L)(hl:Ns.length<=40):Pk (glT gs) Fs Cs k 34 [N s,NT Ns,.v (.bl (mkB (2 ^ s) Ns))] M=.ok (bT true,M):=by
 obtain⟨B,a,hB,ha,wB,iB,eB,lB⟩:=cells hM Ns;have cp:=qBg (k:=k-1) (by omega) (Ns:=Ns) (by omega) M;have th:=B5 M.length Ns;rw[<-ha]at th;obtain⟨C0,hC0⟩:∃C0,C0=Ns.map SL++[cl M.length Ns.length]:=⟨_,rfl⟩
 rw[<-hC0]at hB th;obtain⟨mm,hmm⟩:∃mm,mm=mkB (2 ^ s) Ns:=⟨_,rfl⟩
 have m1:=Q4 (k:=k-1) (by omega) wB h1 h5 iB h hl;have un:=R9 (k:=k-1) (by omega) wB h1 h5 iB h hl;rw[<-hmm]at m1 ⊢;have al2:∀D:Mem,qy (λt L=>IsS (M++(C0++D)) t (SL L)) (cl M.length Ns.length) Ns:=λD=>by
  rw[hC0,wL];exact P1
 have ce:∀{M:Mem},zP M .ne (.v (.bl mm)) (.v (.bl mm))=some false:=λ{M}=>by cases mm<;>rfl
 have nn:=l6 iB (IsN.lst B Ns);have s0:px (glT gs) (Pk (glT gs) Fs Cs (k-1)) [3,5] qC7 [some (N s),some (NT Ns),some (.v (.bl mm)),none,none,none,none] M=.ok (.nx [some (N s),some (NT Ns),some (.v (.bl mm)),some (.cell a),none,none,none],B):=by
  rw[qC7];simp only[NT]at *;generalize (Ns.map λL=>T.lst (SL L))=n0 at *;simp[cp,th,hB]
 have s1:px (glT gs) (Pk (glT gs) Fs Cs (k-1)) [3,5] qDM [some (N s),some (NT Ns),some (.v (.bl mm)),some (.cell a),none,none,none] B=.ok (.nx [some (N s),some (NT Ns),some (.v (.bl mm)),some (.cell a),some (.v (.bl mm)),none,none],B):=by
  rw[qDM];simp only[NT]at *;generalize (Ns.map λL=>T.lst (SL L))=n0 at *;simp[m1,bT]
 have s2:px (glT gs) (Pk (glT gs) Fs Cs (k-1)) [3,5] qCZ [some (N s),some (NT Ns),some (.v (.bl mm)),some (.cell a),some (.v (.bl mm)),none,none] B=.ok (.nx [some (N s),some (NT Ns),some (.v (.bl mm)),some (.cell a),some (.v (.bl mm)),none,none],B):=by
  rw[qCZ];simp only[NT]at *;generalize (Ns.map λL=>T.lst (SL L))=n0 at *;simp[zh,ce,nn]
 have tail:∀{D:Mem}{o5 o6:Option T},WfM (B++D)->px (glT gs) (Pk (glT gs) Fs Cs (k-1)) [3,5] qCW [some (N s),some (NT Ns),some (.v (.bl mm)),some (.cell a),some (.v (.bl mm)),none,none] B=.ok (.nx [some (N s),some (NT Ns),some (.v (.bl mm)),some (.cell a),some (.v (.bl mm)),o5,none],B++D)->∀{D':Mem},WfM (B++D')->pxs (glT gs) (Pk (glT gs) Fs Cs (k-1)) [3,5] (.cons qAg (.cons qAf (.cons j4 (.cons qAi .nil)))) [some (N s),some (NT Ns),some (.v (.bl mm)),some (.cell a),some (.v (.bl mm)),o5,none] (B++D)=pxs (glT gs) (Pk (glT gs) Fs Cs (k-1)) [3,5] (.cons j4 (.cons qAi .nil)) [some (N s),some (NT Ns),some (.v (.bl mm)),some (.cell a),some (.v (.bl mm)),o5,o6] (B++D')->Pk (glT gs) Fs Cs k 34 [N s,NT Ns,.v (.bl mm)] M=.ok (bT true,M):=λ{D o5 o6} _ q3 {D'} w' q4=>by
  rw[qL t34 ⟨rfl,by decide⟩ (by omega),qDa,show Cs.getD 34 []=[3,5] from rfl];show QI M.length (pxs (glT gs) (Pk (glT gs) Fs Cs (k-1)) [3,5] _ [some (N s),some (NT Ns),some (.v (.bl mm)),none,none,none,none] M)=_;rw[qj s0,qj s1,qj s2,qj q3,q4];have eq1:B++D'=M++(C0++D'):=by rw[<-hB,wL]
  have e':(M++(C0++D'))[a]?=some (cl M.length Ns.length):=by rw[<-eq1,List.getElem?_append_left (by omega)];exact eB
  rw[eq1]at w' ⊢;obtain⟨C',e⟩:=qE7 (k:=k-1) (by omega) h1 h5 hM w' h hl ha e' (al2 D') (o2:=some (.v (.bl mm))) (o4:=some (.v (.bl mm))) (o5:=o5) (o6:=o6);rw[e];exact w6 rfl hM
 cases hf:Qp (2 ^ s) Ns with
 |none=>
  rw[hf]at un;have un:Pk (glT gs) Fs Cs (k-1) 18 [N s,.cell a] B=.ok ((.v .non,true),B):=un;have mt:mm=true:=by rw[hmm,Qd,hf];rfl
  have th0:∀m,thaw m (.v .non)=(.v .non,[]):=λm=>by simp[thaw]
  refine tail (D:=[]) (o5:=some (.v .non)) (o6:=none) (by rw[List.append_nil];exact wB) ?_ (D':=[]) (by rw[List.append_nil];exact wB) ?_
  ·rw[qCW];simp only[NT]at *;generalize (Ns.map λL=>T.lst (SL L))=n0 at *;simp[un,th0]
  ·subst mt;rw[List.append_nil];have is1:∀{M:Mem},zP M .is (.v .non) (.v .non)=some true:=λ{M}=>rfl;have is2:∀{M:Mem},zP M .isnot (.v .non) (.v .non)=some false:=λ{M}=>rfl;have s4:px (glT gs) (Pk (glT gs) Fs Cs (k-1)) [3,5] qAg [some (N s),some (NT Ns),some (.v (.bl true)),some (.cell a),some (.v (.bl true)),some (.v .non),none] B=.ok (.nx [some (N s),some (NT Ns),some (.v (.bl true)),some (.cell a),some (.v (.bl true)),some (.v .non),none],B):=by
    rw[qAg];simp only[NT]at *;generalize (Ns.map λL=>T.lst (SL L))=n0 at *;simp[nn,is1,bT,ce]
   have s5:px (glT gs) (Pk (glT gs) Fs Cs (k-1)) [3,5] qAf [some (N s),some (NT Ns),some (.v (.bl true)),some (.cell a),some (.v (.bl true)),some (.v .non),none] B=.ok (.nx [some (N s),some (NT Ns),some (.v (.bl true)),some (.cell a),some (.v (.bl true)),some (.v .non),none],B):=by
    rw[qAf];simp only[NT]at *;generalize (Ns.map λL=>T.lst (SL L))=n0 at *;simp[is2]
   rw[qj s4,qj s5]
 |some q=>
  have hb:=U9 hf;rw[hf]at un;obtain⟨U,hU⟩:∃U,U=Nt.unit (2 ^ s) q:=⟨_,rfl⟩
  have un:Pk (glT gs) Fs Cs (k-1) 18 [N s,.cell a] B=.ok ((NL U,true),B):=by rw[hU];exact un
  have mt:mm=false:=by rw[hmm,Qd,hf];rfl
  have w1:WfM (B++[U.map N]):=wB.one (ZY _);have w2:WfM (B++[[]]):=wB.one (by simp);have gc:(B++[U.map N])[B.length]?=some (U.map N):=by simp
  have iu:=qEz (k:=k-1) (by omega) w1 (s:=s) (c:=B.length) (q:=q) h1 h5 (IsN.lst (B++[U.map N]) Ns) h (by rw[gc,hU]);rw[hb]at iu;have un2:=R9 (k:=k-1) (by omega) w2 h1 h5 (iB.app (C:=[[]])) h hl;rw[hf]at un2;have un2:Pk (glT gs) Fs Cs (k-1) 18 [N s,.cell a] (B++[[]])=.ok ((NL U,true),B++[[]]):=by rw[hU];exact un2
  have nn1:=l6 (iB.app (C:=[U.map N])) (IsN.lst (B++[U.map N]) Ns);have li:zW (B++[U.map N]) .list [.cell B.length]=some (NL U,true):=by rw[IsS.list (.inr ⟨_,rfl,gc⟩),qDf]
  have mc:Zp .clr B.length [] (B++[U.map N])=some ((.v .non,true),B++[[]]):=by
   show ((B++[U.map N])[B.length]?).map _=_;rw[gc,Option.map_some,wP _ _ (Nat.le_refl _),Nat.sub_self];rfl
  refine tail (D:=[U.map N]) (o5:=some (.cell B.length)) (o6:=some (NL U)) w1 ?_ (D':=[[]]) w2 ?_
  ·rw[qCW];simp only[NT]at *;generalize (Ns.map λL=>T.lst (SL L))=n0 at *;simp[un]
  ·subst mt;have is1:∀{M:Mem},zP M .is (.cell B.length) (.v .non)=some false:=λ{M}=>rfl;have is2:∀{M:Mem},zP M .isnot (.cell B.length) (.v .non)=some true:=λ{M}=>rfl;have s4:px (glT gs) (Pk (glT gs) Fs Cs (k-1)) [3,5] qAg [some (N s),some (NT Ns),some (.v (.bl false)),some (.cell a),some (.v (.bl false)),some (.cell B.length),none] (B++[U.map N])=.ok (.nx [some (N s),some (NT Ns),some (.v (.bl false)),some (.cell a),some (.v (.bl false)),some (.cell B.length),none],B++[U.map N]):=by
    rw[qAg];simp only[NT]at *;generalize (Ns.map λL=>T.lst (SL L))=n0 at *;simp[nn1,is1,bT,ce]
   have s5:px (glT gs) (Pk (glT gs) Fs Cs (k-1)) [3,5] qAf [some (N s),some (NT Ns),some (.v (.bl false)),some (.cell a),some (.v (.bl false)),some (.cell B.length),none] (B++[U.map N])=.ok (.nx [some (N s),some (NT Ns),some (.v (.bl false)),some (.cell a),some (.v (.bl false)),some (.cell B.length),some (NL U)],B++[[]]):=by
    rw[qAf];simp only[NT]at *;generalize (Ns.map λL=>T.lst (SL L))=n0 at *;simp[is2,iu,li,mc,un2,qAT]
   rw[qj s4,qj s5]
end
end My
namespace My
open PySem PySem.Spec PI
open L2 (V)
open Nt (Stp Sg OkS OkR qX)
noncomputable def qC6:S:=(.asg (.name 3) (.call 20 (.cons (.var 0) (.cons (.var 2) .nil))))
noncomputable def qCy:S:=(.asg (.name 4) (.bin .add (nE 1) (.call 21 (.cons (.var 3) (.cons (nE 5) .nil)))))
noncomputable def qDb:S:=(.asg (.name 5) (.call 31 (.cons (.var 3) (.cons (.var 4) .nil))))
noncomputable def qCk:S:=(.expr (.app (.var 1) (.tup (.cons (.var 4) (.cons (.var 5) (.cons (.call 32 (.cons (.var 4) (.cons (.var 5) .nil))) .nil))))))
noncomputable def qDI:S:=(.ifs (.not (.call 34 (.cons (.var 4) (.cons (.var 5) (.cons (.idx (.idx (.var 1) (.neg (nE 1))) (nE 2)) .nil))))) (.cons (.ret (.cst (V.bl false))) .nil) .nil)
theorem qCe:Z3=(.cons qC6 (.cons qCy (.cons qDb (.cons qCk (.cons qDI .nil))))):=rfl
noncomputable def HT(s:Nat)(Ns:List (List Stp)):T:=.tup [N s,NT Ns,.v (.bl (mkB (2 ^ s) Ns))]
def Hd(t:T):Prop:=∃s Ns,t=HT s Ns/\1<=s/\s<=5/\(∀L∈Ns,OkR (2 ^ s) L)/\Ns.length<=40
theorem qAn(n:Nat)(Ns:List (List Stp)):(NT Ns).und n=true:=by
 rw[T.und]
 induction Ns with
 |nil=>rfl
 |cons L Ns ih=>rw[List.map_cons,T.unds,O7,ih];rfl
theorem l5(n s:Nat)(Ns:List (List Stp)):(HT s Ns).und n=true:=by
 unfold HT;rw[T.und,T.unds,T.unds,T.unds,T.unds,qAn];rfl
theorem m3(n:Nat):∀(H:List T),(∀t∈H,Hd t)->T.unds n H=true
 | [],_=>rfl
 |t::H,h=>by
  obtain⟨s,Ns,rfl,_⟩:=h t (by simp);rw[T.unds,l5,m3 n H λu hu=>h u (by simp[hu])];rfl
theorem X6{M:Mem}{n:Nat}{xs:List T}{y:T}(h:M[n]?=some (xs++[y])):jv M (.cell n) (.v (.int (-1)))=some (y,y.lf):=by
 show (M[n]?).bind _=_;rw[h,Option.bind_some];have:ixN (xs++[y]).length (-1)=some xs.length:=by
  unfold ixN L2.ixN;simp;omega
 rw[this,Option.bind_some];simp
section
variable{k:Nat}
theorem qBA(hk:17<=k)(ns:List Int){i:Nat}(hi:i<=62){M:Mem}(hM:WfM M){H:List T}(eH:M[0]?=some H)(hH:∀t∈H,Hd t)(lH:H.length<=100){o3 o4 o5 o6:Option T}:∃p3 p4 p5 M' h,pxs (glT gs) (Pk (glT gs) Fs Cs k) [1,3] Z3 [some (.fz (ns.map λn=>.v (.int n))),some (.cell 0),some (N i),o3,o4,o5,o6] M=.ok (.nx [some (.fz (ns.map λn=>.v (.int n))),some (.cell 0),some (N i),p3,p4,p5,o6],M')/\WfM M'/\M'[0]?=some (H++[h])/\Hd h:=by
 have hM0:0<M.length:=(List.getElem?_eq_some_iff.mp eH).1;obtain⟨g,s0,e0,hs0⟩:=bag (k:=k) (by omega) ns (kk:=i) (by omega) M;have th:thaw M.length (.lst (stT g s0))=(.cell M.length,[stT g s0]):=T8 M.length [g,s0];have w1:WfM (M++[stT g s0]):=hM.app λc hc=>by rw[wJ.mp hc];exact zD (Nat.zero_le _) _ (T7 g s0)
 have g1:Jh (M++[stT g s0]) M.length:=⟨g,s0,by simp,hs0⟩
 obtain⟨d,M1,e1,hd,k1⟩:=out (k:=k) (by omega) g1 (m:=5) (by decide);have w2:=zK w1 k1;obtain⟨s,hs⟩:∃s,s=1+d:=⟨_,rfl⟩
 obtain⟨Ns,f,M2,e2,c1,c2,k2⟩:=qBp (k:=k) (by omega) (s:=s) (by omega) (by omega) w2 k1.good;have w3:=zK w2 k2;have kk:=k1.trans k2;have e3:=N2 (k:=k) (by omega) w3 (by omega:s<=5) (IsN.lst M2 Ns) c1;have eH2:M2[0]?=some H:=by rw[kk.oth 0 (by omega),List.getElem?_append_left hM0];exact eH
 have ap:=r9 (x:=HT s Ns) eH2 (Nat.lt_of_le_of_lt lH (by decide));have hh:Hd (HT s Ns):=⟨s,Ns,rfl,by omega,by omega,c1,c2⟩
 have w4:WfM (M2.set 0 (H++[HT s Ns])):=l0 w3 (by rw[QM,m3 _ H hH,T.unds,l5];rfl);have l2:0<M2.length:=(List.getElem?_eq_some_iff.mp eH2).1;have eH3:(M2.set 0 (H++[HT s Ns]))[0]?=some (H++[HT s Ns]):=List.getElem?_set_self l2;have e4:=j7 (k:=k) (by omega) (s:=s) (by omega) (by omega) w4 c1 c2;have il:=X6 eH3;have ad:∀{M:Mem},qp M .add (N 1) (N d)=some (N s,true):=λ{M}=>by rw[m4,hs]
 refine⟨some (.cell M.length),some (N s),some (NT Ns),M2.set 0 (H++[HT s Ns]),HT s Ns,?_,w4,eH3,hh⟩;have x2:∀{M:Mem},jv M (HT s Ns) (N 2)=some (.v (.bl (mkB (2 ^ s) Ns)),true):=λ{M}=>by unfold HT;rw[JX];rfl
 have hp:T.tup [N s,NT Ns,.v (.bl (mkB (2 ^ s) Ns))]=HT s Ns:=rfl;generalize M2.set 0 (H++[HT s Ns])=M3 at *;generalize mkB (2 ^ s) Ns=mm at *;generalize HT s Ns=ht at *;simp only[NT]at *;generalize (Ns.map λL=>T.lst (SL L))=n0 at *;generalize (ns.map λn=>T.v (.int n))=scr at *;have ng:qBB (N 1)=some (.v (.int (-1)),true):=rfl;have t0:px (glT gs) (Pk (glT gs) Fs Cs k) [1,3] qC6 [some (.fz scr),some (.cell 0),some (N i),o3,o4,o5,o6] M=.ok (.nx [some (.fz scr),some (.cell 0),some (N i),some (.cell M.length),o4,o5,o6],M++[stT g s0]):=by
  rw[qC6];simp[e0,th]
 have t1:px (glT gs) (Pk (glT gs) Fs Cs k) [1,3] qCy [some (.fz scr),some (.cell 0),some (N i),some (.cell M.length),o4,o5,o6] (M++[stT g s0])=.ok (.nx [some (.fz scr),some (.cell 0),some (N i),some (.cell M.length),some (N s),o5,o6],M1):=by
  rw[qCy];simp[-m4,e1,ad]
 have t2:px (glT gs) (Pk (glT gs) Fs Cs k) [1,3] qDb [some (.fz scr),some (.cell 0),some (N i),some (.cell M.length),some (N s),o5,o6] M1=.ok (.nx [some (.fz scr),some (.cell 0),some (N i),some (.cell M.length),some (N s),some (.lst n0),o6],M2):=by
  rw[qDb];simp[e2]
 have t3:px (glT gs) (Pk (glT gs) Fs Cs k) [1,3] qCk [some (.fz scr),some (.cell 0),some (N i),some (.cell M.length),some (N s),some (.lst n0),o6] M2=.ok (.nx [some (.fz scr),some (.cell 0),some (N i),some (.cell M.length),some (N s),some (.lst n0),o6],M3):=by
  rw[qCk];simp[e3,bT,hp,ap,lim]
 have t4:px (glT gs) (Pk (glT gs) Fs Cs k) [1,3] qDI [some (.fz scr),some (.cell 0),some (N i),some (.cell M.length),some (N s),some (.lst n0),o6] M3=.ok (.nx [some (.fz scr),some (.cell 0),some (N i),some (.cell M.length),some (N s),some (.lst n0),o6],M3):=by
  rw[qDI];simp[-QG,ng,il,x2,e4]
 rw[qCe,qj t0,qj t1,qj t2,qj t3,qj t4];rfl
theorem qDq(hk:17<=k)(ns:List Int):∀(m i:Nat) (M:Mem) (H:List T) (o2 o3 o4 o5 o6:Option T),i+m<=63->WfM M->M[0]?=some H->(∀t∈H,Hd t)->H.length+m<=100->∃p2 p3 p4 p5 M' H',qm [] (.name 2) (pxs (glT gs) (Pk (glT gs) Fs Cs k) [1,3] Z3) ((List.range' i m).map N) [some (.fz (ns.map λn=>.v (.int n))),some (.cell 0),o2,o3,o4,o5,o6] M=.ok (.nx [some (.fz (ns.map λn=>.v (.int n))),some (.cell 0),p2,p3,p4,p5,o6],M')/\WfM M'/\M'[0]?=some H'/\(∀t∈H',Hd t)/\H'.length=H.length+m
 | 0,i,M,H,o2,o3,o4,o5,o6,h,hM,eH,hH,lH=>⟨o2,o3,o4,o5,M,H,rfl,hM,eH,hH,rfl⟩
 |m+1,i,M,H,o2,o3,o4,o5,o6,h,hM,eH,hH,lH=>by
  obtain⟨p3,p4,p5,M1,x,e,w1,e1,hx⟩:=qBA hk ns (i:=i) (by omega) hM eH hH (by omega) (o3:=o3) (o4:=o4) (o5:=o5) (o6:=o6);obtain⟨q2,q3,q4,q5,M',H',e',w',e2,h2,l2⟩:=qDq hk ns m (i+1) M1 (H++[x]) (some (N i)) p3 p4 p5 o6 (by omega) w1 e1 (λt ht=>by
   rcases wE.mp ht with z|z
   ·exact hH t z
   ·rw[wJ.mp z];exact hx) (by simp;omega)
  refine⟨q2,q3,q4,q5,M',H',?_,w',e2,h2,by rw[l2];simp;omega⟩;rw[wZ,List.map_cons,zJ,show ([some (T.fz (ns.map λn=>.v (.int n))),some (.cell 0),o2,o3,o4,o5,o6]:TS).set 2 (some (N i))=[some (.fz (ns.map λn=>.v (.int n))),some (.cell 0),some (N i),o3,o4,o5,o6] from rfl,e,PR.bind_ok];exact e'
theorem main:∀ns:List Int,ns.length<=63->∃h',Fk Tb.fns 30 35 [.ref gs.length] (JZ gs ns)=.ok (.bl true,h'):=by
 intro ns hn;obtain⟨p2,p3,p4,p5,M',H',e,w',eH,hH,lH⟩:=qDq (k:=29) (by omega) ns (max 1 (min ns.length 10)) 0 [[]] [] none none none none none (by omega) rfl rfl (by simp) (by simp;omega);rw[<-wu]at e;obtain⟨x,H2,rfl⟩:∃x H2,H'=x::H2:=by
  cases H' with
  |nil=>simp at lH;omega
  |cons x H2=>exact⟨x,H2,rfl⟩
 obtain⟨s,Ns,rfl,h1,h5,ok,hl⟩:=hH x (by simp);have key:∃b M2,Pk (glT gs) Fs Cs 30 35 [.fz (ns.map λn=>.v (.int n))] []=.ok ((.v (.bl true),b),M2):=by
  rw[qL t35 ⟨rfl,by decide⟩ (by omega),show Cs.getD 35 []=[1,3] from rfl];have th0:∀m,thaw m (.lst [])=(.cell m,[[]]):=λm=>by simp[thaw,zN]
  have x0:jv M' (.cell 0) (N 0)=some (HT s Ns,false):=by rw[U2 _ eH];simp[HT]
  have er:=j7 (k:=29) (by omega) h1 h5 w' ok hl;have ex:pxs (glT gs) (Pk (glT gs) Fs Cs (30-1)) [1,3] b35 ([T.fz (ns.map λn=>.v (.int n))].map some++List.replicate (7-1) none) []=.ok (.rt (bT true),M'):=by
   have st:qo (.tup [4,5,6]) (HT s Ns) [some (T.fz (ns.map λn=>.v (.int n))),some (.cell 0),p2,p3,p4,p5,none]=some [some (T.fz (ns.map λn=>.v (.int n))),some (.cell 0),p2,p3,some (N s),some (NT Ns),some (.v (.bl (mkB (2 ^ s) Ns)))]:=rfl;have lb:(ns.map λn=>T.v (.int n)).length=ns.length:=by simp
   by_cases h4:s<5
   ·have a1:=Q4 (k:=29) (by omega) w' (s:=s+1) (by omega) (by omega) (IsN.lst M' Ns) (λL hL=>F1 (wt (by decide) (by omega)) (ok L hL)) hl;have a2:=N2 (k:=29) (by omega) w' (s:=s+1) (by omega) (IsN.lst M' Ns) (λL hL=>F1 (wt (by decide) (by omega)) (ok L hL));rw[b35];generalize mkB (2 ^ (s+1)) Ns=m2 at *;generalize mkB (2 ^ s) Ns=mm at *;have ce:∀{M:Mem},zP M .ne (.v (.bl m2)) (.v (.bl m2))=some false:=λ{M}=>by cases m2<;>rfl
    generalize HT s Ns=ht at *;simp only[NT]at *;generalize (Ns.map λL=>T.lst (SL L))=n0 at *;generalize (ns.map λn=>T.v (.int n))=scr at *;simp(disch:=omega) [-QG,th0,lb,zq,e,x0,st,h4,a1,a2,bT,ce,er,lim]
   ·rw[b35];generalize mkB (2 ^ s) Ns=mm at *;generalize HT s Ns=ht at *;simp only[NT]at *;generalize (Ns.map λL=>T.lst (SL L))=n0 at *;generalize (ns.map λn=>T.v (.int n))=scr at *;simp(disch:=omega) [-QG,th0,lb,zq,e,x0,st,h4,er,lim]
  rw[ex];exact P7 _ _ _
 obtain⟨b,M2,e2⟩:=key;rw[qFL];exact qA5 rfl e2
end
end My
namespace PySem.W.Fast
theorem tw17436433786604269045:True:=trivial
theorem tw16658400142516802515:True:=trivial
theorem tw9539727476323912945:True:=trivial
theorem tw8984823514662244159:True:=trivial
theorem tw1871087484282420493:True:=trivial
theorem tw2273407093731152729:True:=trivial
theorem tw12864974386148817806:True:=trivial
theorem tw11028481968840301481:True:=trivial
theorem tw7825789029108476540:True:=trivial
theorem tw12401231746587494600:True:=trivial
theorem tw13763869453591278888:True:=trivial
theorem tw9173209496598608739:True:=trivial
theorem tw16118650565502273707:True:=trivial
theorem tw2023673596920862072:True:=trivial
theorem tw10683982188046747762:True:=trivial
theorem tw6277021654959981042:True:=trivial
theorem tw5663763468897583998:True:=trivial
theorem tw8810104610291015234:True:=trivial
theorem tw4505202873078940224:True:=trivial
theorem tw10657446912003758207:True:=trivial
theorem tw8098526859162398617:True:=trivial
theorem tw14933724118976071722:True:=trivial
theorem tw4879899472632829814:True:=trivial
theorem tw2289641223099090834:True:=trivial
theorem tw15550101991915869378:True:=trivial
theorem tw2851225840511567032:True:=trivial
theorem tw12486218860944282822:True:=trivial
theorem tw7570438320672788260:True:=trivial
theorem tw6721399466625628565:True:=trivial
theorem tw1648187061908123201:True:=trivial
theorem tw15061419336297005194:True:=trivial
theorem tw13426516129518016676:True:=trivial
theorem tw8683184842318385197:True:=trivial
theorem tw18314893967645180395:True:=trivial
theorem tw1950312771384013054:True:=trivial
theorem tw12859177018606606788:True:=trivial
theorem tw12729837723949819624:True:=trivial
theorem tw6999143698257872553:True:=trivial
theorem tw16064200008468627017:True:=trivial
theorem tw5210299184314648875:True:=trivial
theorem tw13648336047925575056:True:=trivial
theorem tw10958991683976839118:True:=trivial
theorem tw4445826732844250096:True:=trivial
theorem tw17402230982811866756:True:=trivial
theorem tw871206742261864123:True:=trivial
theorem tw10239969200607376549:True:=trivial
theorem tw18421430688512154596:True:=trivial
theorem tw1103738094143023112:True:=trivial
theorem tw2893264460721054565:True:=trivial
theorem tw14957321571010137744:True:=trivial
theorem tw2767507714039300042:True:=trivial
theorem tw376574689723485434:True:=trivial
theorem tw5933255941154560850:True:=trivial
theorem tw5863812590684427742:True:=trivial
theorem tw8958305752016193798:True:=trivial
theorem tw7894930112681201022:True:=trivial
theorem tw14650915465706066005:True:=trivial
theorem tw1325098972725787477:True:=trivial
theorem tw5053693487629835238:True:=trivial
theorem tw10745523490211051401:True:=trivial
theorem tw9065368704800641167:True:=trivial
theorem tw210316110660836926:True:=trivial
theorem tw226005909230168975:True:=trivial
theorem tw16651427506330038602:True:=trivial
theorem tw5401780567440306533:True:=trivial
theorem tw16928046318726368426:True:=trivial
theorem tw8065170750995731007:True:=trivial
theorem tw1169468950160817340:True:=trivial
theorem tw5727111435874260817:True:=trivial
theorem tw17115947442220234921:True:=trivial
theorem tw3889154969762768036:True:=trivial
theorem tw2400724179495779312:True:=trivial
theorem tw8247692564347832771:True:=trivial
theorem tw3824766880254282153:True:=trivial
theorem tw14184479194933667608:True:=trivial
theorem tw2245898700873855303:True:=trivial
theorem tw4006213814331957607:True:=trivial
theorem tw4306860371128792026:True:=trivial
theorem tw11190824541266366273:True:=trivial
theorem tw14396390584853662192:True:=trivial
theorem tw3942978507974637068:True:=trivial
theorem tw2858272911094487683:True:=trivial
theorem tw3202095756172262704:True:=trivial
theorem tw7875389804418287218:True:=trivial
theorem tw13627867305559172344:True:=trivial
theorem tw11352669010551721524:True:=trivial
theorem tw8293329114077322290:True:=trivial
theorem tw9608291533298802966:True:=trivial
theorem tw14703938651505916979:True:=trivial
theorem tw8209700222140841509:True:=trivial
theorem tw16788289400696798219:True:=trivial
theorem tw3775740468620486927:True:=trivial
theorem tw17729102391337091198:True:=trivial
theorem tw2333765177923097799:True:=trivial
theorem tw9686541004992087824:True:=trivial
theorem tw18333315654824594798:True:=trivial
theorem tw7485602141880360385:True:=trivial
theorem tw10355436774653823144:True:=trivial
theorem tw15106925014432436753:True:=trivial
theorem tw17312366127869868911:True:=trivial
theorem tw3102708052897401424:True:=trivial
theorem tw5363696012377205274:True:=trivial
theorem tw615511001909993034:True:=trivial
theorem tw5909119271802496476:True:=trivial
theorem tw18004255973180055691:True:=trivial
theorem tw8800848831341346783:True:=trivial
theorem tw9538556424113154564:True:=trivial
theorem tw6643059190339360881:True:=trivial
theorem tw12635821724744135558:True:=trivial
theorem tw12911129793830283911:True:=trivial
theorem tw1116321800131552995:True:=trivial
theorem tw5330384195534572575:True:=trivial
theorem tw7016316502214931080:True:=trivial
theorem tw229425067305758710:True:=trivial
theorem tw15121880826723915826:True:=trivial
theorem tw12200189958795383314:True:=trivial
theorem tw10285576331076494476:True:=trivial
theorem tw10137997070231688349:True:=trivial
theorem tw16737142246099238005:True:=trivial
theorem tw7935956887203748593:True:=trivial
theorem tw11152420054138431712:True:=trivial
theorem tw11576148446327516597:True:=trivial
theorem tw16534056233666257241:True:=trivial
theorem tw16467181116442204646:True:=trivial
theorem tw5921103298515149959:True:=trivial
theorem tw2351939320845153172:True:=trivial
theorem tw7505287155897607981:True:=trivial
theorem tw2228688683239838821:True:=trivial
theorem tw503304908899233273:True:=trivial
theorem tw2138400702650934468:True:=trivial
theorem tw3011019285294080584:True:=trivial
theorem tw18435871085432956515:True:=trivial
theorem tw5236104719746113444:True:=trivial
theorem tw140383014554216705:True:=trivial
theorem tw16455349996209817015:True:=trivial
theorem tw4960045859191370014:True:=trivial
theorem tw16735880938235488839:True:=trivial
theorem tw11752262484278838994:True:=trivial
theorem tw696508492868011366:True:=trivial
theorem tw12410452107376443189:True:=trivial
theorem tw7379256216229749987:True:=trivial
theorem tw12192025351247781365:True:=trivial
theorem tw6879942979741820620:True:=trivial
theorem tw3541494816205084175:True:=trivial
theorem tw11057448859038789550:True:=trivial
theorem tw1034461887492202324:True:=trivial
theorem tw4739353803304424806:True:=trivial
theorem tw16137927868881836214:True:=trivial
theorem tw12550074330234724605:True:=trivial
theorem tw13081171498604130206:True:=trivial
theorem tw13052072197241400323:True:=trivial
theorem tw17583321304585735384:True:=trivial
theorem tw16563943334517180119:True:=trivial
theorem tw2363409482152299717:True:=trivial
theorem tw6563700018794608:True:=trivial
theorem tw15752585122558473938:True:=trivial
theorem tw3923043608064068085:True:=trivial
theorem tw13013341640641138995:True:=trivial
theorem tw15614021838332283901:True:=trivial
theorem tw8403940830182850386:True:=trivial
theorem tw3030715039339829657:True:=trivial
theorem tw16824229776930934768:True:=trivial
theorem tw8440271534737380592:True:=trivial
theorem tw5739510589138131345:True:=trivial
theorem tw10444476895668268477:True:=trivial
theorem tw13089068531481577107:True:=trivial
theorem tw18165698183193666379:True:=trivial
theorem tw9850149114868191905:True:=trivial
theorem tw7640974167588990778:True:=trivial
theorem tw337461501363776648:True:=trivial
theorem tw1227169585811430564:True:=trivial
theorem tw6873364398396610713:True:=trivial
theorem tw9092740699308933835:True:=trivial
theorem tw833394426424081440:True:=trivial
theorem tw6700144766440987045:True:=trivial
theorem tw3009323609744432432:True:=trivial
theorem tw1438642909378286331:True:=trivial
theorem tw12345594802227102268:True:=trivial
theorem tw8874281848601457813:True:=trivial
theorem tw1065880365037674865:True:=trivial
theorem tw18277878506169630078:True:=trivial
theorem tw6082754261110572451:True:=trivial
theorem tw2980453588455109791:True:=trivial
theorem tw17980928058863532069:True:=trivial
theorem tw5592617067096016816:True:=trivial
theorem tw16806672313127670756:True:=trivial
theorem tw8761296313161416313:True:=trivial
theorem tw12725771631618429500:True:=trivial
theorem tw13939851683998332123:True:=trivial
theorem tw6413806376769349278:True:=trivial
theorem tw5579103852979804233:True:=trivial
theorem tw9753173443600701275:True:=trivial
theorem tw15402419124279805897:True:=trivial
theorem tw15188163571500752278:True:=trivial
theorem tw17004874117625160928:True:=trivial
theorem tw17534954317393583202:True:=trivial
theorem tw9427842413071457362:True:=trivial
theorem tw14206207620988861216:True:=trivial
theorem tw17791676035247928757:True:=trivial
theorem tw2004433389624302565:True:=trivial
theorem tw1973544120160045573:True:=trivial
theorem tw10954579920024011629:True:=trivial
theorem tw1921421913537395882:True:=trivial
theorem tw4991105218062005668:True:=trivial
theorem tw14949937526648806817:True:=trivial
theorem tw932113643377189795:True:=trivial
theorem tw7987625712485066031:True:=trivial
theorem tw5686329041748132496:True:=trivial
theorem tw17946080784980935777:True:=trivial
theorem tw14396930366556450537:True:=trivial
theorem tw1768501590373066176:True:=trivial
theorem tw2801373122263328145:True:=trivial
theorem tw15418321071464493240:True:=trivial
theorem tw12191163037419488938:True:=trivial
theorem tw1629665061574845816:True:=trivial
theorem tw16347131489121502313:True:=trivial
theorem tw15316220752843270771:True:=trivial
theorem tw14813715551851936660:True:=trivial
theorem tw15352429579538418699:True:=trivial
theorem tw3329175689077110526:True:=trivial
theorem tw3376480934495528259:True:=trivial
theorem tw1741770495590946154:True:=trivial
theorem tw16954378446879010531:True:=trivial
theorem tw15789514670428041084:True:=trivial
theorem tw8784919839417966519:True:=trivial
theorem tw801537173178117008:True:=trivial
theorem tw16494907906781992007:True:=trivial
theorem tw14702086911195949888:True:=trivial
theorem tw14340819652310486970:True:=trivial
theorem tw9264509935651911779:True:=trivial
theorem tw8286218187271262831:True:=trivial
theorem tw5063694101867690984:True:=trivial
theorem tw10667424231067218885:True:=trivial
theorem tw5285721181822351577:True:=trivial
theorem tw7411954568541653192:True:=trivial
theorem tw165300997461167191:True:=trivial
theorem tw14599196845148888418:True:=trivial
theorem tw2450722103462894525:True:=trivial
theorem tw13757042342210193556:True:=trivial
theorem tw3554266822850813247:True:=trivial
theorem tw16616293751877100278:True:=trivial
theorem tw12562490388106201118:True:=trivial
theorem tw5434289612889580907:True:=trivial
theorem tw4961754038233751906:True:=trivial
theorem tw11208999844419602864:True:=trivial
theorem tw1366036701902245729:True:=trivial
theorem tw3196058914801857997:True:=trivial
theorem tw8203782578233215536:True:=trivial
theorem tw15205918752734557180:True:=trivial
theorem tw15630469199422328391:True:=trivial
theorem tw16842449241836825431:True:=trivial
theorem tw5819310883495230116:True:=trivial
theorem tw14590502660246112102:True:=trivial
theorem tw15487367531190492302:True:=trivial
theorem tw10541195652285274942:True:=trivial
theorem tw10240417975331922797:True:=trivial
theorem tw16831784852119577185:True:=trivial
theorem tw13599059500913054638:True:=trivial
theorem tw17666398881938853828:True:=trivial
theorem tw17868783899215136258:True:=trivial
theorem tw12440651707406071942:True:=trivial
theorem tw5485866365203834429:True:=trivial
theorem tw10350658911047049177:True:=trivial
theorem tw17776054303329683697:True:=trivial
theorem tw8690176684389152505:True:=trivial
theorem tw15676444340966428408:True:=trivial
theorem tw4561390916537902727:True:=trivial
theorem tw10448942891971836526:True:=trivial
theorem tw3782517867883071999:True:=trivial
theorem tw15456873098239725221:True:=trivial
theorem tw10112868949958316545:True:=trivial
end PySem.W.Fast
namespace My
open PySem PySem.Spec PyProof.Rows L2 PI
theorem dks:∀d∈Tb.ds,qDT d:=by
 intro d hd;simp only[Tb,List.mem_cons,wU,or_false]at hd;rcases hd with rfl|rfl|rfl|rfl|rfl|rfl|rfl|rfl|rfl|rfl|rfl|rfl|rfl|rfl|rfl|rfl|rfl|rfl|rfl|rfl|rfl|rfl|rfl|rfl|rfl|rfl|rfl|rfl|rfl|rfl|rfl|rfl|rfl|rfl|rfl|rfl
 all_goals exact⟨⟨rfl,rfl,rfl,by decide +kernel,rfl,by decide +kernel,by decide +kernel⟩,λ_ _ _ _ _ _ us hl=>by first|(obtain rfl:=PI.len0 hl;rfl)|(obtain⟨_,rfl⟩:=PI.len1 hl;rfl)|(obtain⟨_,_,rfl⟩:=PI.len2 hl;rfl)|(obtain⟨_,_,_,rfl⟩:=PI.len3 hl;rfl)|(obtain⟨_,_,_,_,rfl⟩:=PI.len4 hl;rfl)|(obtain⟨_,_,_,_,_,rfl⟩:=PI.len5 hl;rfl)|(obtain⟨_,_,_,_,_,_,rfl⟩:=PI.len6 hl;rfl)⟩
theorem all_mk{l:PySem.W.OpenLaw}{w:World}{K:PySem.W.Frag}{h:Heap}{mg:Str->Option Value}{fa:Addr}(X:K.In h)(G:h.Ns mainGlobals mg)(hfa:mg "law"=some (.ref fa))
  (hds:∀d∈Tb.ds,qAx K d)
  {ga0:Addr}{gn0:Nat}{gsl0:Array (Option Value)}{u0_0 u0_1 u0_2 u0_3 u0_4 u0_5:Tok}(g_LENGTHS:PySem.W.nsIn K mainGlobals "LENGTHS"=some (some (.ref ga0))) (m0:K.lookup ga0=some ⟨.type "tuple",none,.seq #[.int 1 u0_0,.int 2 u0_1,.int 4 u0_2,.int 8 u0_3,.int 16 u0_4,.int 32 u0_5] gn0,gsl0⟩)
  {tg_GREATEST_SIZE:Tok}(g_GREATEST_SIZE:PySem.W.nsIn K mainGlobals "GREATEST_SIZE"=some (some (.int 5 tg_GREATEST_SIZE)))
  {tg_MOST_ROUNDS:Tok}(g_MOST_ROUNDS:PySem.W.nsIn K mainGlobals "MOST_ROUNDS"=some (some (.int 40 tg_MOST_ROUNDS)))
  (z_len:PySem.W.nsIn K mainGlobals "len"=some none)
  (z_sum:PySem.W.nsIn K mainGlobals "sum"=some none)
  (z_all:PySem.W.nsIn K mainGlobals "all"=some none)
  (z_any:PySem.W.nsIn K mainGlobals "any"=some none)
  (z_max:PySem.W.nsIn K mainGlobals "max"=some none)
  (z_min:PySem.W.nsIn K mainGlobals "min"=some none)
  (z_list:PySem.W.nsIn K mainGlobals "list"=some none)
  (z_int:PySem.W.nsIn K mainGlobals "int"=some none)
  (z_tuple:PySem.W.nsIn K mainGlobals "tuple"=some none)
  (z_range:PySem.W.nsIn K mainGlobals "range"=some none)
  (z_zip:PySem.W.nsIn K mainGlobals "zip"=some none)
  (z_isinstance:PySem.W.nsIn K mainGlobals "isinstance"=some none)
  (z_bool:PySem.W.nsIn K mainGlobals "bool"=some none)
  (z_ValueError:PySem.W.nsIn K mainGlobals "ValueError"=some none)
  (main:∀ns:List Int,ns.length<=63->∃h',Fk Tb.fns 30 35 [.ref gs.length] (JZ gs ns)=.ok (.bl true,h')):
  ∃fd:FuncData,(∀(s:Shared) (v:Value),BindsTo s fd ⟨[v],[]⟩ [("_law_script",v)])/\∀base:Heap,K.In base->base.Ns mainGlobals mg->FnOk l.prog w K mg base CX0 30 fa fd ["_law_script"] (W4 K):=by
 obtain⟨fas,fds,hT⟩:=g9 X G Tb.ds hds dks;have O:e7 K mg [ga0] Tb fas fds:=by
  refine⟨hT,λx e hx=>?_,λx hx=>?_,λa ha=>(List.mem_cons.mp ha).elim (λz=>by subst z;exact⟨_,m0,rfl,rfl⟩) λha=>nomatch ha⟩
  ·have hx2:List.lookup x ([("LENGTHS",E.glob 0),("GREATEST_SIZE",E.cst (.int 5)),("MOST_ROUNDS",E.cst (.int 40))]:List (Str×E))=some e:=hx;simp only[List.lookup_cons,List.lookup_nil]at hx2;split at hx2
   ·rename_i hq;have hq2:x="LENGTHS":=by simpa using hq
    subst hq2;cases hx2;exact .inr ⟨_,_,rfl,PySem.W.mg_of X G g_LENGTHS,rfl⟩
   split at hx2
   ·rename_i hq;have hq2:x="GREATEST_SIZE":=by simpa using hq
    subst hq2;cases hx2;exact .inl ⟨_,_,rfl,PySem.W.mg_of X G g_GREATEST_SIZE,⟨_,rfl⟩,λ_=>rfl⟩
   split at hx2
   ·rename_i hq;have hq2:x="MOST_ROUNDS":=by simpa using hq
    subst hq2;cases hx2;exact .inl ⟨_,_,rfl,PySem.W.mg_of X G g_MOST_ROUNDS,⟨_,rfl⟩,λ_=>rfl⟩
   cases hx2
  ·have hx2:x∈(["len","sum","all","any","max","min","list","int","tuple","range","zip","isinstance","bool","ValueError"]:List Str):=List.contains_iff_mem.mp hx;simp only[List.mem_cons,wU,or_false]at hx2;rcases hx2 with rfl|rfl|rfl|rfl|rfl|rfl|rfl|rfl|rfl|rfl|rfl|rfl|rfl|rfl
   ·exact PySem.W.mg_none_of X G z_len
   ·exact PySem.W.mg_none_of X G z_sum
   ·exact PySem.W.mg_none_of X G z_all
   ·exact PySem.W.mg_none_of X G z_any
   ·exact PySem.W.mg_none_of X G z_max
   ·exact PySem.W.mg_none_of X G z_min
   ·exact PySem.W.mg_none_of X G z_list
   ·exact PySem.W.mg_none_of X G z_int
   ·exact PySem.W.mg_none_of X G z_tuple
   ·exact PySem.W.mg_none_of X G z_range
   ·exact PySem.W.mg_none_of X G z_zip
   ·exact PySem.W.mg_none_of X G z_isinstance
   ·exact PySem.W.mg_none_of X G z_bool
   ·exact PySem.W.mg_none_of X G z_ValueError
 have hG:B8 K [ga0] gs:=⟨⟨.inr ⟨_,_,_,m0,rfl,rfl,by show 6<=sizeLine;decide,.cons ⟨_,rfl⟩ (.cons ⟨_,rfl⟩ (.cons ⟨_,rfl⟩ (.cons ⟨_,rfl⟩ (.cons ⟨_,rfl⟩ (.cons ⟨_,rfl⟩ (.nil))))))⟩,rfl⟩,True.intro⟩
 obtain⟨a,f,e1,e2,F,_,em,_⟩:=hT 35 _ rfl;have e:=hfa.symm.trans em;cases e;exact⟨f,qCg F (dks _ (List.mem_of_getElem? (i:=35) rfl)) rfl,λbase _ _=>O2 O hG (i:=35) rfl e1 e2 rfl main⟩
theorem walk{l:PySem.W.OpenLaw}{q:Program}{loose:List Str}{XP:(Str->Option Value)->Heap->Prop}{YP:World->Heap->Prop}{d:DefRec}{K:Params->PySem.W.Frag}(hn:l.most=some 63)(hdf:d.params.defaults=[])
  (hY:∀(w:World) (h:Heap),YP w h->(K w.params).In h)
  (F:∀(w:World) (mg:Str->Option Value) (fa:Addr) (h:Heap),(K w.params).In h->h.Ns mainGlobals mg->mg d.name=some (.ref fa) ->
   ∃fd:FuncData,(∀(s:Shared) (u:Value),BindsTo s fd ⟨[u],[]⟩ [("_law_script",u)])/\∀base:Heap,(K w.params).In base->base.Ns mainGlobals mg->FnOk l.prog w (K w.params) mg base CX0 30 fa fd ["_law_script"] (W4 (K w.params))):
  PySem.W.WalkO q loose XP YP l.row.toRowW d [] (λf vs=>PySem.call f vs):=
 L2.walk_of (n:=63) (k:=30) (x:="_law_script") (CX:=λ_=>CX0) (sp:=λw=>W4 (K w.params)) hn (by decide) hdf ⟨rfl,by decide,by decide,rfl⟩ hY F (λ_ _ a ns hl hO hS=>⟨a,ns,rfl,hO,hS,hl,λ_=>rfl⟩) λ_ _ _ _ _ z=>z
end My
open PySem PySem.W PyProof.Rows
set_option maxRecDepth 100000 in
set_option maxHeartbeats 0 in
theorem PySem.Challenge.cw_healhalves_k12_what_makes_words_holds : PySem.Challenge.rw_healhalves_k12_what_makes_words.Holds := by
 w_on;o_law;k_head;(case hw=>w_witness2)
 k_fill
 refine My.walk (l:=PySem.Challenge.rw_healhalves_k12_what_makes_words) rfl rfl (λw h Y=>PySem.W.kIn_of Y) ?F
 case F=>
  intro w mg fa h KX G hmg
  refine' My.all_mk KX G hmg ?ds ?g_LENGTHS ?m0 ?g_GREATEST_SIZE ?g_MOST_ROUNDS ?z_len ?z_sum ?z_all ?z_any ?z_max ?z_min ?z_list ?z_int ?z_tuple ?z_range ?z_zip ?z_isinstance ?z_bool ?z_ValueError My.main
  case ds=>
   intro d hd;simp only[My.Tb,List.mem_cons,wU,or_false]at hd;rcases hd with rfl|rfl|rfl|rfl|rfl|rfl|rfl|rfl|rfl|rfl|rfl|rfl|rfl|rfl|rfl|rfl|rfl|rfl|rfl|rfl|rfl|rfl|rfl|rfl|rfl|rfl|rfl|rfl|rfl|rfl|rfl|rfl|rfl|rfl|rfl|rfl
   all_goals exact⟨_,_,_,_,_,_,_,_,_,_,by k_is,by k_is,by k_is,by k_is⟩
  all_goals (try k_is)
