import PyProof.Rows.All
import Wide.All
import OpenK.AllK
import Wide.FinOn
import Lean
import PyProof.EqAt
import PyProof.EqKinds
import PyProof.TupleCall
import PyProof.NeKinds
import PyProof.ZipIter
import PyProof.ReprRoads
import Wide.Words
import KE.KIntText
import PyProof.StrWalks
import PyProof.StrLawsJoin
import KE.KSortKey
import PyProof.Rows.MinMaxN
import KE.KDictOf
import KE.KItemsList
import PyProof.AttrMissHeap
import KE.KRevIter
import PyProof.EnumMake
import PyProof.EnumFor
import PyProof.WalksEnum
import PyProof.Rows.EnumRows
import PyProof.FactsAll.range_2
import PyProof.AutoRange
import PySem.Challenge.RW_healhalves_k66_seals_held
set_option bootstrap.genMatcherCode false
set_option compiler.extract_closed false
def wA:=@List.getElem?_eq_getElem
def wB:=@List.size_toArray
def wC:=@Nat.lt_of_lt_of_le
def wD:=@List.mem_append
def wE:=@List.mem_append_left
def wF:=@List.mem_append_right
def wG:=@List.length_map
def wH:=@List.getD_eq_getElem?_getD
def wI:=@List.getElem?_set_ne
def wJ:=@List.mem_singleton
def wK:=@Nat.ne_of_lt
def wL:=@List.append_assoc
def wM:=@List.getElem?_take_of_lt
def wN:=@List.all_eq_true
def wO:=@List.forall_mem_cons
def wP:=@List.getElem?_set_self
def wQ:=@List.getElem?_map
def wR:=@List.nodup_append
def wS:=@List.length_take
def wT:=@Bool.false_ne_true
def wU:=@List.eraseIdx_eq_take_drop_succ
def wV:=@List.getElem?_eq_none
def wW:=@Nat.lt_trans
def wX:=@List.lookup_append
def wY:=@List.pairwise_cons
def wZ:=@List.length_filter_le
def wa:=@Bool.eq_iff_iff
def wb:=@List.reverse_cons
def wc:=@List.map_map
def wd:=@List.pairwise_map
def we:=@List.filter_cons_of_neg
def wf:=@Nat.le_of_lt
def wg:=@List.map_append
def wj:=@List.dropLast_eq_take
def wk:=@Int.toNat_natCast
def wl:=@List.mem_range
def wm:=@List.mapM_cons
def wn:=@List.mem_map
def wo:=@List.mem_filter
def wp:=@List.mem_filterMap
def wq:=@List.zip_nil_left
def wt:=@List.of_mem_zip
def wu:=@Bool.or_eq_true
open PySem PySem.Spec in def wv:=@wpAny_bind
open PySem PySem.Spec in def wx:=@wpAny_pure
def wy:=@decide_eq_false
def wz:=@decide_eq_true
def vA:=@decide_eq_true_eq
def vB:=@of_decide_eq_true
open PySem PySem.Spec in def vC:=@wpAny_truthy_bool
def vD:=@beq_self_eq_true
set_option genSizeOf false
set_option genSizeOfSpec false
set_option Elab.async false
set_option linter.all false
set_option maxRecDepth 100000
namespace L2
open PySem PySem.Spec PyProof.Rows
noncomputable abbrev Key:=Sum Int Str
noncomputable def D3:Key->Value->Bool
 | .inl k,v=>Value.isInt k v
 | .inr x,v=>Value.isStrOf x v
noncomputable def qEm(w:World):Key->Int
 | .inl k=>hashInt k
 | .inr x=>hashStr w x
theorem qZ:∀{k:Key}{v:Value},D3 k v=true->(∃i t,k=Sum.inl i/\v=Value.int i t)\/(∃x t,k=Sum.inr x/\v=Value.str x t)
 | .inl i,v,h=>by
  obtain⟨t,e⟩:=Value.isInt_shape (k:=i) (v:=v) h;exact .inl ⟨i,t,rfl,e⟩
 | .inr x,v,h=>by
  obtain⟨t,e⟩:=Value.isStrOf_shape (x:=x) (v:=v) h;exact .inr ⟨x,t,rfl,e⟩
theorem L6(i:Int)(t:Tok):D3 (.inl i) (.int i t)=true:=by simp[D3,Value.isInt]
theorem K1(x:Str)(t:Tok):D3 (.inr x) (.str x t)=true:=by simp[D3,Value.isStrOf]
theorem qBG(a b:Int):decide ((Sum.inl a:Key)=Sum.inl b)=(a==b):=by
 by_cases e:a=b
 ·subst e;simp
 ·have h:¬ (Sum.inl a:Key)=Sum.inl b:=λq=>e (Sum.inl.inj q);rw[wy h];exact(beq_eq_false_iff_ne.mpr e).symm
theorem qA2(a b:Str):decide ((Sum.inr a:Key)=Sum.inr b)=decide (a=b):=by
 by_cases e:a=b
 ·subst e;simp
 ·have h:¬ (Sum.inr a:Key)=Sum.inr b:=λq=>e (Sum.inr.inj q);rw[wy h,wy e]
theorem qA0(a:Int)(b:Str):decide ((Sum.inl a:Key)=Sum.inr b)=false:=wy (λq=>nomatch q)
theorem qAZ(a:Str)(b:Int):decide ((Sum.inr a:Key)=Sum.inl b)=false:=wy (λq=>nomatch q)
noncomputable def qm(prog:Program)(w:World):PySem.KeyKind prog w Key where
 is:=D3
 hash:=qEm w
 inj:=λv a b ha hb=>by
  rcases qZ ha with⟨i,t,rfl,rfl⟩|⟨x,t,rfl,rfl⟩
  ·rcases qZ hb with⟨j,u,rfl,e⟩|⟨y,u,rfl,e⟩
   ·injection e with e1 _;rw[e1]
   ·exact nomatch e
  ·rcases qZ hb with⟨j,u,rfl,e⟩|⟨y,u,rfl,e⟩
   ·exact nomatch e
   ·injection e with e1 _;rw[e1]
 byValue:=λk v h=>by
  rcases qZ h with⟨i,t,rfl,rfl⟩|⟨x,t,rfl,rfl⟩<;>rfl
 pyHash:=λhv h=>by
  rcases qZ hv with⟨i,t,rfl,rfl⟩|⟨x,t,rfl,rfl⟩
  ·exact wpAny_pyHash_int h
  ·exact wpAny_pyHash_str h
 eqBool:=λhu hv h=>by
  rcases qZ hu with⟨i,t,rfl,rfl⟩|⟨x,t,rfl,rfl⟩
  ·rcases qZ hv with⟨j,u,rfl,rfl⟩|⟨y,u,rfl,rfl⟩
   ·rw[qBG]at h;exact wpAny_eqBool_int h
   ·rw[qA0]at h;exact SeqAt.EqAt.int_str i t y u _ _ _ _ h
  ·rcases qZ hv with⟨j,u,rfl,rfl⟩|⟨y,u,rfl,rfl⟩
   ·rw[qAZ]at h;exact SeqAt.EqAt.str_int x t j u _ _ _ _ h
   ·rw[qA2]at h;exact wpAny_eqBool_str h
 «strs»:=λk x t v h=>by
  rcases qZ h with⟨i,u,rfl,e⟩|⟨y,u,rfl,e⟩
  ·exact nomatch e
  ·injection e with e1 _;subst e1;cases v<;>rfl
theorem JG(prog:Program)(w:World)(i:Int)(t:Tok):(qm prog w).is (.inl i) (.int i t)=true:=L6 i t
theorem JQ(prog:Program)(w:World)(x:Str)(t:Tok):(qm prog w).is (.inr x) (.str x t)=true:=K1 x t
inductive V where
 |non|bl (b:Bool)|int (i:Int)|str (x:Str)|byt (b:Array UInt8)|flt (b:UInt64)|ref (a:Addr)|ty (n:String)
 deriving DecidableEq
def RelV:V->Value->Prop
 | .non,u=>u=Value.none
 | .bl b,u=>u=Value.bool b
 | .int i,u=>∃t,u=Value.int i t
 | .str x,u=>∃t,u=Value.str x t
 | .byt b,u=>∃t,u=Value.bytes b t
 | .flt b,u=>∃t,u=Value.float b t
 | .ref a,u=>u=Value.ref a
 | .ty n,u=>u=Value.type n
abbrev Vals:List V->List Value->Prop:=Paired RelV
theorem Vals.length{xs:List V}{us:List Value}(r:Vals xs us):xs.length=us.length:=Paired.length r
theorem Vals.get:∀{xs:List V}{us:List Value}{i:Nat}{x:V},Vals xs us->xs[i]?=some x->∃u,us[i]?=some u/\RelV x u
 |_,_,_,_,.nil,e=>by simp at e
 |_,_,0,_,.cons r _,e=>by simp at e;subst e;exact⟨_,rfl,r⟩
 |_,_,i+1,x,.cons _ t,e=>by
  obtain⟨u,h1,h2⟩:=Vals.get (i:=i) (x:=x) t (by simpa using e);exact⟨u,by simpa using h1,h2⟩
theorem Vals.set{x:V}{u:Value}(r:RelV x u):∀{xs:List V}{us:List Value}(i:Nat),Vals xs us->Vals (xs.set i x) (us.set i u)
 |_,_,_,.nil=>.nil
 |_,_,0,.cons _ t=>.cons r t
 |_,_,i+1,.cons q t=>.cons q (Vals.set r i t)
theorem Vals.append:∀{xs ys:List V}{us ws:List Value},Vals xs us->Vals ys ws->Vals (xs++ys) (us++ws)
 |_,_,_,_,.nil,s=>s
 |_,_,_,_,.cons r t,s=>.cons r (Vals.append t s)
theorem Vals.take:∀{xs:List V}{us:List Value}(n:Nat),Vals xs us->Vals (xs.take n) (us.take n)
 |_,_,0,_=>.nil
 |_,_,_+1,.nil=>.nil
 |_,_,n+1,.cons r t=>.cons r (Vals.take n t)
theorem Vals.drop:∀{xs:List V}{us:List Value}(n:Nat),Vals xs us->Vals (xs.drop n) (us.drop n)
 |_,_,0,r=>r
 |_,_,_+1,.nil=>.nil
 |_,_,n+1,.cons _ t=>Vals.drop n t
def RelO:Option V->Option Value->Prop
 |some v,some u=>RelV v u
 |none,none=>True
 |_,_=>False
def KV{κ:Type}:List (κ×V)->List (κ×Value)->Prop:=Paired λ(p:κ×V) (q:κ×Value)=>p.1=q.1/\RelV p.2 q.2
noncomputable def kV:Key->V
 | .inl i=>.int i
 | .inr x=>.str x
inductive HO where
 |lst (xs:List V)
 |tup (xs:List V)
 |dK (kvs:List (Key×V))|dT (kvs:List (List Key×V))
 |set (S:Int->Bool) (n:Nat)
 |ins (C dx:Addr) (fs:List (Str×V))
 |own (x:Addr)
 |xd (fs:List (Str×V))
 |met (f x:Addr)
 |rng (lo hi:Int)
 |frz (o:Obj) (u:HO)
 |tbl (ps:Array Value)
 |ext (φ:Heap->Prop)
noncomputable abbrev Hp:=Addr->Option HO
noncomputable def upd(H:Hp)(a:Addr)(o:HO):Hp:=λb=>if b=a then some o else H b
theorem qB{H:Hp}{a:Addr}{o:HO}:upd H a o a=some o:=by unfold upd;rw[if_pos rfl]
theorem qC{H:Hp}{a b:Addr}{o:HO}(h:b≠a):upd H a o b=H b:=by unfold upd;rw[if_neg h]
theorem qCQ{H:Hp}{a b:Addr}{o u:HO}(h:H a=some o)(h':H b=some u)(d:o≠u):a≠b:=by
 intro e;subst e;rw[h]at h';exact d (Option.some.inj h')
theorem ne_of_none{H:Hp}{a b:Addr}{o:HO}(h:H a=some o)(h':H b=none):a≠b:=by
 intro e;subst e;rw[h]at h';cases h'
section
variable (P:Program)(w:World)
def ObjOk(H:Hp)(h:Heap)(a:Addr):HO->Prop
 | .lst xs=>xs.length<=sizeLine/\∃(its:List Value) (n:Nat),Vals xs its/\h.get? a=some { cls:=.type "list",data:=.seq its.toArray n }
 | .tup xs=>xs.length<=sizeLine/\∃its:List Value,Vals xs its/\IsTup h a its.toArray
 | .dK kvs=>kvs.length<=sizeLine/\(a==sysModules)=false/\∃vs,KV kvs vs/\h.DictOf (qm P w) a vs
 | .dT kvs=>kvs.length<=sizeLine/\(a==sysModules)=false/\∃xs:List (List Key×Addr×Value),
   Paired (λ(p:List Key×V) (q:List Key×Addr×Value)=>p.1=q.1/\H q.2.1=some (.tup (p.1.map kV))/\RelV p.2 q.2.2) kvs xs/\
   ∃o es ep,h.get? a=some o/\o.ExactDict/\o.data=.dict es ep/\es.toList=xs.map (entryOfKey (tupleKind (qm P w)))/\(xs.map (·.1)).Nodup
 | .set S n=>h.SetOf (intKind P w) a S n
 | .ins C dx fs=>H dx=some (.own a)/\fs.length<=1000/\dx≠a/\h.get? a=some (PySem.W.instObj C dx)/\
   ∃mA,h.Ns1 dx mA/\(∀f,RelO (fs.lookup f) (mA f))/\PySem.Within mA (fs.map (·.1))
 | .own _=>∃o,h.get? a=some o
 | .xd fs=>∃mA,h.Ns1 a mA/\∀f,RelO (fs.lookup f) (mA f)
 | .rng lo hi=>∃t u v,h.get? a=some { cls:=.type "range",data:=.fields #[.int lo t,.int hi u,.int 1 v] }
 | .frz o u=>h.get? a=some o/\ObjOk H h a u
 | .tbl ps=>h.get? a=some { cls:=.none,data:=.fields ps }
 | .met f x=>h.get? a=some (PySem.W.methodObj (.ref f) (.ref x))
 | .ext φ=>φ h/\(∃o,h.get? a=some o)/\∀h1 h2:Heap,φ h1->(∀o,h1.get? a=some o->h2.get? a=some o)->φ h2
def HOk(H:Hp)(h:Heap):Prop:=∀a o,H a=some o->ObjOk P w H h a o
end
section
variable{P:Program}{w:World}{H H':Hp}{h h':Heap}{a:Addr}{o:HO}
theorem ObjOk.lt(x:ObjOk P w H h a o):a<h.objs.size:=by
 cases o with
 |lst xs=>obtain⟨_,_,_,_,e⟩:=x;exact Heap.lt_size e
 |tup xs=>obtain⟨_,_,_,p⟩:=x;exact p.lt
 |dK kvs=>obtain⟨_,_,_,_,o,_,_,e,_⟩:=x;exact Heap.lt_size e
 |dT kvs=>obtain⟨_,_,_,_,o,_,_,e,_⟩:=x;exact Heap.lt_size e
 |set S n=>obtain⟨o,_,_,_,e,_⟩:=x;exact Heap.lt_size e
 |ins C dx fs=>obtain⟨_,_,_,e,_⟩:=x;exact Heap.lt_size e
 |own y=>obtain⟨_,e⟩:=x;exact Heap.lt_size e
 |xd fs=>obtain⟨_,⟨_,_,_,e,_⟩,_⟩:=x;exact Heap.lt_size e
 |rng lo hi=>obtain⟨_,_,_,e⟩:=x;exact Heap.lt_size e
 |frz ob u=>obtain⟨e,_⟩:=x;exact Heap.lt_size e
 |tbl ps=>exact Heap.lt_size (show h.get? a=some _ from x)
 |met f y=>exact Heap.lt_size (show h.get? a=some _ from x)
 |ext φ=>obtain⟨_,⟨_,e⟩,_⟩:=x;exact Heap.lt_size e
theorem Paired.mapP{α β:Type}{F G:α->β->Prop}:∀{l₁:List α}{l₂:List β},Paired F l₁ l₂->(∀a b,F a b->G a b)->Paired G l₁ l₂
 |_,_,.nil,_=>.nil
 |_,_,.cons r t,f=>.cons (f _ _ r) (Paired.mapP t f)
theorem ObjOk.stay(x:ObjOk P w H h a o)(k:∀b u,(b=a\/H b=some (.own a))->h.get? b=some u->h'.get? b=some u)
  (ho:∀b,H b=some (.own a)->H' b=some (.own a)) (ht:∀b xs,H b=some (.tup xs)->H' b=some (.tup xs)):ObjOk P w H' h' a o:=by
 induction o with
 |lst xs=>obtain⟨z,its,n,r,e⟩:=x;exact⟨z,its,n,r,k _ _ (.inl rfl) e⟩
 |tup xs=>obtain⟨z,its,r,ob,e,c⟩:=x;exact⟨z,its,r,ob,k _ _ (.inl rfl) e,c⟩
 |dK kvs=>obtain⟨z,y,vs,r,ob,es,ep,e,c⟩:=x;exact⟨z,y,vs,r,ob,es,ep,k _ _ (.inl rfl) e,c⟩
 |dT kvs=>
  obtain⟨z,y,xs,r,ob,es,ep,e,c⟩:=x;exact⟨z,y,xs,Paired.mapP r λp q z=>⟨z.1,ht _ _ z.2.1,z.2.2⟩,ob,es,ep,k _ _ (.inl rfl) e,c⟩
 |set S n=>obtain⟨ob,es,ep,t,e,c⟩:=x;exact⟨ob,es,ep,t,k _ _ (.inl rfl) e,c⟩
 |ins C dx fs=>
  obtain⟨d,z,ne,e,mA,⟨od,es,ep,e2,c⟩,r⟩:=x;exact⟨ho _ d,z,ne,k _ _ (.inl rfl) e,mA,⟨od,es,ep,k _ _ (.inr d) e2,c⟩,r⟩
 |own y=>obtain⟨ob,e⟩:=x;exact⟨ob,k _ _ (.inl rfl) e⟩
 |xd fs=>obtain⟨mA,⟨od,es,ep,e,c⟩,r⟩:=x;exact⟨mA,⟨od,es,ep,k _ _ (.inl rfl) e,c⟩,r⟩
 |rng lo hi=>obtain⟨t,u,v,e⟩:=x;exact⟨t,u,v,k _ _ (.inl rfl) e⟩
 |frz ob u ih=>obtain⟨e,q⟩:=x;exact⟨k _ _ (.inl rfl) e,ih q⟩
 |tbl ps=>
  have e:h.get? a=some { cls:=.none,data:=.fields ps }:=x;show h'.get? a=some { cls:=.none,data:=.fields ps };exact k a _ (.inl rfl) e
 |met f y=>
  have e:h.get? a=some (PySem.W.methodObj (.ref f) (.ref y)):=x;show h'.get? a=some (PySem.W.methodObj (.ref f) (.ref y));exact k a _ (.inl rfl) e
 |ext φ=>obtain⟨p,⟨o,e⟩,st⟩:=x;exact⟨st _ _ p λo q=>k _ _ (.inl rfl) q,⟨o,k _ _ (.inl rfl) e⟩,st⟩
theorem HOk.lt(x:HOk P w H h)(e:H a=some o):a<h.objs.size:=(x a o e).lt
theorem HOk.fresh(x:HOk P w H h)(e:h.objs.size<=a):H a=none:=by
 cases q:H a with
 |none=>rfl
 |some u=>exact absurd (wC (x.lt q) e) (Nat.lt_irrefl _)
theorem HOk.kept(x:HOk P w H h)(k:∀b u,h.get? b=some u->h'.get? b=some u):HOk P w H h':=λa o e=>
 (x a o e).stay (λb u _ q=>k b u q) (λ_ q=>q) λ_ _ q=>q
theorem HOk.laid(x:HOk P w H h)(k:∀b u,h.get? b=some u->h'.get? b=some u)(hp:h.objs.size<=a)(new:ObjOk P w (upd H a o) h' a o):HOk P w (upd H a o) h':=λb u e=>by
 have hn:=x.fresh hp;by_cases hb:b=a
 ·subst hb;rw[qB]at e;cases e;exact new
 ·rw[qC hb]at e;exact(x b u e).stay (λc v _ q=>k c v q) (λc q=>by rw[qC (ne_of_none q hn)];exact q) λc xs q=>by rw[qC (ne_of_none q hn)];exact q
end
def Rd(H:Hp)(a:Addr)(u:HO):Prop:=H a=some u\/∃o,H a=some (.frz o u)
theorem Rd.ok{P:Program}{w:World}{H:Hp}{h:Heap}{a:Addr}{u:HO}(r:Rd H a u)(x:HOk P w H h):ObjOk P w H h a u:=by
 rcases r with r|⟨o,r⟩
 ·exact x a u r
 ·obtain⟨_,q⟩:=x a _ r;exact q
def Mut:Option HO->Prop
 |some (.lst _)=>True
 |some (.dK _)=>True
 |some (.dT _)=>True
 |some (.set _ _)=>True
 |some (.ins _ _ _)=>True
 |some (.ext _)=>True
 |_=>False
section
variable{P:Program}{w:World}{H:Hp}{h h':Heap}{x e:Addr}{o':HO}
theorem HOk.write(ok:HOk P w H h)(mu:Mut (H x))(he:e=x\/H e=some (.own x))(k:∀b u,b≠e->h.get? b=some u->h'.get? b=some u)(heo:∃u,h'.get? e=some u)
  (new:ObjOk P w (upd H x o') h' x o'):HOk P w (upd H x o') h':=λb u q=>by
 have nown:∀c y,H c=some (.own y)->c≠x:=λc y r z=>by subst z;rw[r]at mu;exact mu
 have ntup:∀c xs,H c=some (.tup xs)->c≠x:=λc xs r z=>by subst z;rw[r]at mu;exact mu
 by_cases hb:b=x
 ·subst hb;rw[qB]at q;cases q;exact new
 ·rw[qC hb]at q;by_cases hbe:b=e
  ·have q':H b=some (.own x):=by
    rcases he with z|z
    ·exact absurd (hbe.trans z) hb
    ·rw[hbe];exact z
   rw[q]at q';cases q';obtain⟨v,hv⟩:=heo;exact⟨v,by rw[hbe];exact hv⟩
  ·refine(ok b u q).stay (λc v hc r=>k c v ?_ r) (λc r=>by rw[qC (nown c b r)];exact r) λc xs r=>by rw[qC (ntup c xs r)];exact r
   rcases hc with rfl|hc
   ·exact hbe
   ·rintro rfl;rcases he with z|z
    ·exact nown c b hc z
    ·rw[hc]at z;cases z;exact hb rfl
end
structure Un(fs ex:List Addr)(H H':Hp)(h h':Heap):Prop where
 keep:∀b o,h.get? b=some o->H b=none->b∉fs->b∉ex->h'.get? b=some o
 slot:∀b o,h.get? b=some o->H b=none->b∈fs->b∉ex->∃sl,h'.get? b=some { o with slots:=sl }
 free:∀b o,h.get? b=some o->H b=none->b∉ex->H' b=none
 there:∀b o,h.get? b=some o->b∉ex->∃o',h'.get? b=some o'
 tups:∀b xs,H b=some (.tup xs)->H' b=some (.tup xs)
 frzs:∀b o u,H b=some (.frz o u)->H' b=some (.frz o u)
 tbls:∀b ps,H b=some (.tbl ps)->∃more,H' b=some (.tbl (ps++more))
section
variable{fs fs' ex ex':List Addr}{H H1 H2:Hp}{h h1 h2 h':Heap}{a x e:Addr}{o:HO}
theorem Un.any(u:Un fs ex H H1 h h1){b:Addr}{ob:Obj}(q:h.get? b=some ob)(n:H b=none)(hx:b∉ex):∃sl,h1.get? b=some { ob with slots:=sl }:=by
 by_cases hb:b∈fs
 ·exact u.slot b ob q n hb hx
 ·exact⟨ob.slots,u.keep b ob q n hb hx⟩
theorem Un.kept(k:∀b u,h.get? b=some u->h'.get? b=some u):Un fs ex H H h h':=
 ⟨λb ob q _ _ _=>k b ob q,λb ob q _ _ _=>⟨ob.slots,k b ob q⟩,λ_ _ _ n _=>n,λb ob q _=>⟨ob,k b ob q⟩,λ_ _ q=>q,λ_ _ _ q=>q,λ_ ps q=>⟨#[],by rw[q];simp⟩⟩
theorem Un.refl:Un fs ex H H h h:=Un.kept λ_ _ q=>q
theorem Un.laid(k:∀b u,h.get? b=some u->h'.get? b=some u)(hp:h.objs.size<=a)(hn:H a=none):Un fs ex H (upd H a o) h h' where
 keep:=λb u q _ _ _=>k b u q
 slot:=λb u q _ _ _=>⟨u.slots,k b u q⟩
 free:=λb u q n _=>by rw[qC (wK (wC (Heap.lt_size q) hp))];exact n
 there:=λb u q _=>⟨u,k b u q⟩
 tups:=λb xs q=>by rw[qC (ne_of_none q hn)];exact q
 frzs:=λb u xs q=>by rw[qC (ne_of_none q hn)];exact q
 tbls:=λb ps q=>⟨#[],by rw[qC (ne_of_none q hn),q];simp⟩
theorem Un.write(mu:Mut (H x))(he:e=x\/H e=some (.own x))(k:∀b u,b≠e->h.get? b=some u->h'.get? b=some u)(heo:∃u,h'.get? e=some u):Un fs ex H (upd H x o) h h':=by
 have hx:∀b,H b=none->b≠x:=λb n z=>by subst z;rw[n]at mu;exact mu
 have hb:∀b,H b=none->b≠e:=λb n z=>by
  subst z;rcases he with r|r
  ·exact hx b n r
  ·rw[n]at r;cases r
 have hm:∀b u,H b=some u->¬ Mut (some u)->b≠x:=λb u q nm z=>by subst z;rw[q]at mu;exact nm mu
 refine⟨λb u q n _ _=>k b u (hb b n) q,λb u q n _ _=>⟨u.slots,k b u (hb b n) q⟩,λb u q n _=>by rw[qC (hx b n)];exact n,λb u q _=>?_,
  λb xs q=>by rw[qC (hm b _ q λz=>z)];exact q,λb u xs q=>by rw[qC (hm b _ q λz=>z)];exact q,λb ps q=>⟨#[],by rw[qC (hm b _ q λz=>z),q];simp⟩⟩
 by_cases hbe:b=e
 ·subst hbe;exact heo
 ·exact⟨u,k b u hbe q⟩
end
noncomputable def trk(h:Heap)(H:Hp):List Addr:=(List.range h.objs.size).filter λa=>(H a).isSome
noncomputable def W7(h:Heap)(H:Hp):Heap:=PySem.W.hideAll h (trk h H)
theorem K7(h:Heap)(H:Hp):(W7 h H).objs.size=h.objs.size:=PySem.W.hideAll_size _ _
theorem T2{h:Heap}{H:Hp}{b:Addr}{o:Obj}(e:h.get? b=some o)(n:H b=none):(W7 h H).get? b=some o:=
 PySem.W.hideAll_get _ e λhm=>by
  have q:(H b).isSome=true:=(wo.mp hm).2;rw[n]at q;simp at q
theorem v7{h:Heap}{H:Hp}{b:Addr}{o:Obj}(e:(W7 h H).get? b=some o):h.get? b=some o/\H b=none:=by
 have e':h.get? b=some o:=PySem.W.of_hideAll (trk h H) e;refine⟨e',?_⟩;cases q:H b with
 |none=>rfl
 |some x=>
  have hm:b∈trk h H:=wo.mpr ⟨wl.mpr (Heap.lt_size e'),by simp[q]⟩;have z:(W7 h H).get? b=none:=PySem.W.hideAll_none (trk h H) hm;rw[z]at e;cases e
noncomputable def i7(g h:Heap)(L:Addr):List (Addr×Obj):=(List.range h.objs.size).filterMap λa=>if a=L\/(g.get? a).isSome=true then none else (h.get? a).map λo=>(a,o)
noncomputable def jd(g h:Heap)(L d:Addr):List (Addr×Obj):=(i7 g h L).filter λp=>decide (p.1≠d)
structure Mod(K:PySem.W.Frag)(mg:Str->Option Value)(base:Heap):Prop where
 kin:K.In base
 glob:base.Ns mainGlobals mg
 blt:∃mb,base.Ns builtinsNs mb/\∀x:Str,x≠"__name__" -> mb x=bootBuiltins x
 nolimit:base.NoLimit
structure Cx where
 prog:Program
 w:World
 K:PySem.W.Frag
 mg:Str->Option Value
 base:Heap
 A:Around
 N:List Str
 s₀:Shared
 H₀:Hp
 env:Env
 outer:List Env
 stack:List Env
 ex:List Addr
 fn:Str->Bool
 calm:Bool
 pn:List (Addr×Obj)
 xe:Value->Shared->Prop
noncomputable def frs(l:List Env):List Addr:=l.filterMap (·.frame)
noncomputable abbrev Cx.fs(X:Cx):List Addr:=frs X.outer
def Vis(sc:Scope)(x:Str):Prop:=sc.names.lookup x=some .local\/sc.names.lookup x=some .cell\/sc.names.lookup x=some .free
def Loc(sc:Scope)(x:Str):Prop:=sc.names.lookup x=some .local\/sc.names.lookup x=some .cell
def qEf(env:Env)(h:Heap)(m:Str->Option Value)(x:Str)(u:Value):Prop:=
 (env.kindOf x=some .local/\m x=some u)\/((env.kindOf x=some .cell\/env.kindOf x=some .free)/\∃c,env.cells.lookup x=some c/\h.IsCell c (some u))
structure Cx.Ok(X:Cx):Prop where
 mod:Mod X.K X.mg X.base
 kind:X.env.scope.kind=.function
 glob:X.env.globals=mainGlobals
 blt:X.env.builtins=builtinsNs
 above:X.s₀.heap.objs.size<=X.env.locals
 inj:∀x y c,X.env.cells.lookup x=some c->X.env.cells.lookup y=some c->x=y
 has:∀x,(X.env.kindOf x=some .cell\/X.env.kindOf x=some .free)->∃c,X.env.cells.lookup x=some c
 cab:∀x c,X.fn x=true->X.env.cells.lookup x=some c->X.s₀.heap.objs.size<=c
 hd:X.calm=true->X.A.handled=none
 frames:X.A.frames=some X.stack
 stk:X.stack=X.outer\/(X.stack=X.env::X.outer/\X.env.frame=some X.env.locals)
 exf:∀b∈X.ex,b≠X.env.locals/\∀x c,X.env.cells.lookup x=some c->c≠b
 bs:∀b o,X.base.get? b=some o->X.s₀.heap.get? b=some o/\X.H₀ b=none
 bsz:X.base.objs.size<=X.s₀.heap.objs.size
 noex:∀b o,X.base.get? b=some o->b∉X.ex
 exfs:∀b∈X.ex,b∉X.fs
 funs:X.s₀.heap.FunFrames X.base X.outer
 frf:∀b∈X.fs,X.H₀ b=none
structure Inv(X:Cx)(pins:List (Addr×Obj))(σ:List (Option V))(H:Hp)(s:Shared):Prop where
 ok:X.Ok
 os:s.os=X.s₀.os
 bare:AllBare s.gens
 base:Un X.fs X.ex X.H₀ H X.s₀.heap s.heap
 loc:∃m,s.heap.Ns X.env.locals m/\∀(i:Nat) (x:Str) (v:V),X.N[i]?=some x->σ[i]?=some (some v)->Vis X.env.scope x->∃u,RelV v u/\qEf X.env s.heap m x u
 cell:∀x c,X.env.cells.lookup x=some c->∃v,s.heap.IsCell c v
 free:H X.env.locals=none
 freeC:∀x c,X.env.cells.lookup x=some c->H c=none
 pin:∀p∈X.pn++pins,s.heap.get? p.1=some p.2/\H p.1=none/\p.1≠X.env.locals/\p.1∉X.fs/\∀v,p.2.data≠.cell v
 hok:HOk X.prog X.w H s.heap
 len:σ.length=X.N.length
section
variable{X:Cx}{pins:List (Addr×Obj)}{σ:List (Option V)}{H H':Hp}{s:Shared}{h':Heap}
theorem Cx.Ok.nofr(ok:X.Ok){b:Addr}{o:Obj}(e:X.base.get? b=some o):b∉X.fs:=λhb=>by
 have:=(ok.funs.mem hb).1;rw[e]at this;cases this
theorem Inv.bs(I:Inv X pins σ H s):∀b o,X.base.get? b=some o->s.heap.get? b=some o/\H b=none:=λb o e=>
 ⟨I.base.keep b o (I.ok.bs b o e).1 (I.ok.bs b o e).2 (I.ok.nofr e) (I.ok.noex b o e),I.base.free b o (I.ok.bs b o e).1 (I.ok.bs b o e).2 (I.ok.noex b o e)⟩
theorem Inv.bk(I:Inv X pins σ H s):∀b o,X.base.get? b=some o->s.heap.get? b=some o:=λb o e=>(I.bs b o e).1
theorem Inv.mod(I:Inv X pins σ H s):Mod X.K X.mg X.base:=I.ok.mod
theorem Inv.kIn(I:Inv X pins σ H s):X.K.In s.heap:=I.ok.mod.kin.keeps I.bk
theorem Inv.lt(I:Inv X pins σ H s):X.env.locals<s.heap.objs.size:=let ⟨_,hn,_⟩:=I.loc;hn.lt
theorem Inv.sz(I:Inv X pins σ H s):X.s₀.heap.objs.size<=s.heap.objs.size:=Nat.le_trans I.ok.above (wf I.lt)
theorem Inv.nofs(I:Inv X pins σ H s){a:Addr}(h:s.heap.objs.size<=a):a∉X.fs:=λhb=>by
 obtain⟨_,o,ho,_⟩:=I.ok.funs.mem hb;exact absurd (wC (Heap.lt_size ho) (Nat.le_trans I.sz h)) (Nat.lt_irrefl _)
theorem Inv.cne(I:Inv X pins σ H s):∀x c,X.env.cells.lookup x=some c->c≠X.env.locals:=λx c e z=>by
 obtain⟨v,o,ho,hd⟩:=I.cell x c e;obtain⟨m,⟨o',es,ep,ho',hd',_⟩,_⟩:=I.loc;rw[z,ho']at ho;cases ho;rw[hd']at hd;cases hd
theorem Inv.funs(I:Inv X pins σ H s):s.heap.FunFrames X.base X.outer:=by
 have all:∀(l:List Env),(∀b∈frs l,b∈X.fs)->X.s₀.heap.FunFrames X.base l->s.heap.FunFrames X.base l:=by
  intro l
  induction l with
  |nil=>intro _ _;trivial
  |cons env r ih=>
   intro hs hl;obtain⟨hk,⟨L,o,hf,hn,ho,hd⟩,hr⟩:=hl;have hL:L∈X.fs:=hs L (by unfold frs;rw[List.filterMap_cons,hf];exact List.mem_cons_self);obtain⟨sl,e⟩:=I.base.slot L o ho (I.ok.frf L hL) hL λz=>I.ok.exfs L z hL;exact⟨hk,⟨L,_,hf,hn,e,hd⟩,ih (λb hb=>hs b (by unfold frs;rw[List.filterMap_cons,hf];exact List.mem_cons_of_mem _ hb)) hr⟩
 exact all X.outer (λ_ hb=>hb) I.ok.funs
theorem Inv.stack(I:Inv X pins σ H s):s.heap.FunFrames X.base X.stack:=by
 rcases I.ok.stk with e|⟨e,hf⟩
 ·rw[e];exact I.funs
 ·rw[e];obtain⟨m,hn,_⟩:=I.loc;refine .cons (by rw[I.ok.kind];decide) hf hn ?_ I.funs;exact Heap.get?_none_of_le (Nat.le_trans I.ok.bsz I.ok.above)
theorem Inv.stkSub(I:Inv X pins σ H s):∀b∈frs X.stack,b∈X.env.locals::X.fs:=λb hb=>by
 rcases I.ok.stk with e|⟨e,hf⟩
 ·rw[e]at hb;exact List.mem_cons_of_mem _ hb
 ·rw[e]at hb;unfold frs at hb;rw[List.filterMap_cons,hf]at hb;exact hb
theorem Inv.stkFree(I:Inv X pins σ H s):∀b∈frs X.stack,H b=none:=λb hb=>by
 rcases List.mem_cons.mp (I.stkSub b hb) with e|hb
 ·rw[e];exact I.free
 ·obtain⟨_,o,ho,_⟩:=I.ok.funs.mem hb;exact I.base.free b o ho (I.ok.frf b hb) λz=>I.ok.exfs b z hb
theorem Inv.step{g':Array GenState}{t':Nat}{d':Drawn}{ch:List Addr}(I:Inv X pins σ H s)
  (hch:∀b∈ch,(b∈X.ex\/X.s₀.heap.objs.size<=b)/\b≠X.env.locals/\(∀x c,X.env.cells.lookup x=some c->c≠b)/\∀p∈X.pn++pins,p.1≠b)
  (keep:∀b o,b≠X.env.locals->b∉X.fs->b∉ch->s.heap.get? b=some o->H b=none->h'.get? b=some o)
  (slot:∀b o,b≠X.env.locals->b∈X.fs->b∉ch->s.heap.get? b=some o->H b=none->∃sl,h'.get? b=some { o with slots:=sl }) (free:∀b o,b∉ch->s.heap.get? b=some o->H b=none->H' b=none)
  (there:∀b o,b∉ch->s.heap.get? b=some o->∃o',h'.get? b=some o')
  (tups:∀b xs,H b=some (.tup xs)->H' b=some (.tup xs)) (frzs:∀b o u,H b=some (.frz o u)->H' b=some (.frz o u)) (tbls:∀b ps,H b=some (.tbl ps)->∃more,H' b=some (.tbl (ps++more)))
  (ns:∀m,s.heap.Ns X.env.locals m->h'.Ns X.env.locals m) (hok:HOk X.prog X.w H' h') (hg:AllBare g'):
  Inv X pins σ H' { s with heap:=h',gens:=g',drawn:=d',toks:=t' }:=by
 have neL:∀b o,X.s₀.heap.get? b=some o->b≠X.env.locals:=λb o e=>wK (wC (Heap.lt_size e) I.ok.above);have neC:∀b o,X.s₀.heap.get? b=some o->b∉X.ex->b∉ch:=λb o e hx hb=>by
  rcases(hch b hb).1 with z|z
  ·exact hx z
  ·exact absurd (wC (Heap.lt_size e) z) (Nat.lt_irrefl _)
 have cellK:∀x c,X.env.cells.lookup x=some c->∀v,s.heap.IsCell c v->h'.IsCell c v:=λx c e v ⟨o,ho,hd⟩=>by
  have nch:c∉ch:=λz=>(hch c z).2.2.1 x c e rfl;by_cases hc:c∈X.fs
  ·obtain⟨sl,q⟩:=slot c o (I.cne x c e) hc nch ho (I.freeC x c e);exact⟨_,q,hd⟩
  ·exact⟨o,keep c o (I.cne x c e) hc nch ho (I.freeC x c e),hd⟩
 refine⟨I.ok,I.os,hg,⟨λb o e n hb hx=>?_,λb o e n hb hx=>?_,λb o e n hx=>?_,λb o e hx=>?_,λb xs e=>tups b xs (I.base.tups b xs e),λb o xs e=>frzs b o xs (I.base.frzs b o xs e),λb ps e=>?_⟩,?_,λx c e=>?_,?_,λx c e=>?_,λp hp=>?_,hok,I.len⟩
 ·exact keep b o (neL b o e) hb (neC b o e hx) (I.base.keep b o e n hb hx) (I.base.free b o e n hx)
 ·obtain⟨sl,e1⟩:=I.base.slot b o e n hb hx;obtain⟨sl',e2⟩:=slot b _ (neL b o e) hb (neC b o e hx) e1 (I.base.free b o e n hx);exact⟨sl',e2⟩
 ·obtain⟨o',e1⟩:=I.base.there b o e hx;exact free b o' (neC b o e hx) e1 (I.base.free b o e n hx)
 ·obtain⟨o',e1⟩:=I.base.there b o e hx;exact there b o' (neC b o e hx) e1
 ·obtain⟨m1,e1⟩:=I.base.tbls b ps e;obtain⟨m2,e2⟩:=tbls b _ e1;exact⟨m1++m2,by rw[e2,Array.append_assoc]⟩
 ·obtain⟨m,hn,hl⟩:=I.loc;refine⟨m,ns m hn,λi x v e1 e2 e3=>?_⟩;obtain⟨u,r,l⟩:=hl i x v e1 e2 e3;refine⟨u,r,?_⟩;rcases l with l|⟨k,c,e,z⟩
  ·exact .inl l
  ·exact .inr ⟨k,c,e,cellK x c e _ z⟩
 ·obtain⟨v,z⟩:=I.cell x c e;exact⟨v,cellK x c e v z⟩
 ·obtain⟨m,⟨o,_,_,ho,_⟩,_⟩:=I.loc;exact free _ o (λz=>(hch _ z).2.1 rfl) ho I.free
 ·obtain⟨v,o,ho,hd⟩:=I.cell x c e;exact free c o (λz=>(hch c z).2.2.1 x c e rfl) ho (I.freeC x c e)
 ·obtain⟨e,n,ne,nf,d⟩:=I.pin p hp;have nch:p.1∉ch:=λz=>(hch p.1 z).2.2.2 p hp rfl;exact⟨keep p.1 p.2 ne nf nch e n,free p.1 p.2 nch e n,ne,nf,d⟩
theorem Inv.un{t':Nat}(I:Inv X pins σ H s)(u:Un X.fs [] H H' s.heap h')(hok:HOk X.prog X.w H' h'):Inv X pins σ H' { s with heap:=h',toks:=t' }:=by
 obtain⟨m,⟨o,es,ep,ho,r⟩,_⟩:=id I.loc;obtain⟨sl,hL⟩:=u.any ho I.free (by simp);exact I.step (g':=s.gens) (d':=s.drawn) (ch:=[]) (λ_ z=>nomatch z) (λb o _ hb _ e n=>u.keep b o e n hb (by simp)) (λb o _ hb _ e n=>u.slot b o e n hb (by simp)) (λb o _ e n=>u.free b o e n (by simp)) (λb o _ e=>u.there b o e (by simp)) u.tups u.frzs u.tbls (λm' hm=>by
  obtain⟨o',es',ep',ho',r'⟩:=hm;rw[ho]at ho';cases ho';exact⟨_,es',ep',hL,r'⟩) hok I.bare
theorem Inv.call{g':Array GenState}{t':Nat}{d':Drawn}{ch:List Addr}(I:Inv X pins σ H s)(u:Un (frs X.stack) ch H H' s.heap h')(hok:HOk X.prog X.w H' h')(hg:AllBare g')
  (hch:∀b∈ch,(b∈X.ex\/X.s₀.heap.objs.size<=b)/\b≠X.env.locals/\(∀x c,X.env.cells.lookup x=some c->c≠b)/\∀p∈X.pn++pins,p.1≠b):
  Inv X pins σ H' { s with heap:=h',gens:=g',drawn:=d',toks:=t' }:=by
 obtain⟨m,⟨o,es,ep,ho,r⟩,_⟩:=id I.loc;obtain⟨sl,hL⟩:=u.any ho I.free λz=>(hch _ z).2.1 rfl;exact I.step (ch:=ch) hch (λb o hL hb hc e n=>u.keep b o e n (λz=>(List.mem_cons.mp (I.stkSub b z)).elim hL hb) hc) (λb o _ _ hc e n=>u.any e n hc) (λb o hc e n=>u.free b o e n hc) (λb o hc e=>u.there b o e hc) u.tups u.frzs u.tbls (λm' hm=>by
  obtain⟨o',es',ep',ho',r'⟩:=hm;rw[ho]at ho';cases ho';exact⟨_,es',ep',hL,r'⟩) hok hg
theorem Inv.turned{t':Nat}{it:Addr}(I:Inv X pins σ H s)(k:∀b o,b≠it->s.heap.get? b=some o->h'.get? b=some o)(hn:H it=none)(hL:it≠X.env.locals)
  (h1:it∈X.ex\/X.s₀.heap.objs.size<=it) (h2:∀x c,X.env.cells.lookup x=some c->c≠it) (h3:∀p∈X.pn++pins,p.1≠it):Inv X pins σ H { s with heap:=h',toks:=t' }:=by
 have nit:∀b u,H b=some u->b≠it:=λb u e z=>by rw[z,hn]at e;cases e
 refine I.step (g':=s.gens) (d':=s.drawn) (ch:=[it]) (λb hb=>?_) (λb o _ _ hc e _=>k b o (λz=>hc (by simp[z])) e) (λb o _ _ hc e _=>⟨o.slots,k b o (λz=>hc (by simp[z])) e⟩) (λ_ _ _ _ n=>n)
  (λb o hc e=>⟨o,k b o (λz=>hc (by simp[z])) e⟩) (λ_ _ e=>e) (λ_ _ _ e=>e) (λb ps e=>⟨#[],by rw[e];simp⟩) (λm hm=>?_) (λb u e=>?_) I.bare
 ·have e:b=it:=by simpa using hb
  subst e;exact⟨h1,hL,h2,h3⟩
 ·obtain⟨o,es,ep,ho,r⟩:=hm;exact⟨o,es,ep,k _ o (Ne.symm hL) ho,r⟩
 ·refine(I.hok b u e).stay (λc v hc q=>k c v ?_ q) (λ_ q=>q) λ_ _ q=>q;rcases hc with z|z
  ·rw[z];exact nit b u e
  ·exact nit c _ z
theorem Inv.tok(I:Inv X pins σ H s)(t:Nat):Inv X pins σ H { s with toks:=t }:=I.un (h':=s.heap) (t':=t) Un.refl I.hok
theorem Inv.kept{t':Nat}(I:Inv X pins σ H s)(k:∀b u,s.heap.get? b=some u->h'.get? b=some u):Inv X pins σ H { s with heap:=h',toks:=t' }:=I.un (Un.kept k) (I.hok.kept k)
theorem Inv.laid{a:Addr}{o:HO}{t':Nat}(I:Inv X pins σ H s)(k:∀b u,s.heap.get? b=some u->h'.get? b=some u)(hp:s.heap.objs.size<=a)(new:ObjOk X.prog X.w (upd H a o) h' a o):
  Inv X pins σ (upd H a o) { s with heap:=h',toks:=t' }:=I.un (Un.laid k hp (I.hok.fresh hp)) (I.hok.laid k hp new)
theorem Inv.write{x e:Addr}{o:HO}{t':Nat}(I:Inv X pins σ H s)(mu:Mut (H x))(he:e=x\/H e=some (.own x))(k:∀b u,b≠e->s.heap.get? b=some u->h'.get? b=some u)(heo:∃u,h'.get? e=some u)
  (new:ObjOk X.prog X.w (upd H x o) h' x o):Inv X pins σ (upd H x o) { s with heap:=h',toks:=t' }:=I.un (Un.write mu he k heo) (I.hok.write mu he k heo new)
theorem Inv.pins_of{pins':List (Addr×Obj)}(I:Inv X pins σ H s)(h:∀p∈pins',s.heap.get? p.1=some p.2/\H p.1=none/\p.1≠X.env.locals/\p.1∉X.fs/\∀v,p.2.data≠.cell v):Inv X pins' σ H s:=
 ⟨I.ok,I.os,I.bare,I.base,I.loc,I.cell,I.free,I.freeC,λp hp=>(wD.mp hp).elim (λz=>I.pin p (wE _ z)) (h p),I.hok,I.len⟩
theorem C2{N:List Str}(hN:N.Nodup){i j:Nat}{x:Str}(a:N[i]?=some x)(b:N[j]?=some x):i=j:=by
 obtain⟨h1,e1⟩:=List.getElem?_eq_some_iff.mp a;obtain⟨h2,e2⟩:=List.getElem?_eq_some_iff.mp b;exact(List.getElem_inj hN).mp (e1.trans e2.symm)
theorem Zq{M:Model}{A:Around}{E:Value->Shared->Prop}{i:Nat}{x:Str}{v:V}{u:Value}{Q:Unit->Shared->Prop}(I:Inv X pins σ H s)(hN:X.N.Nodup)(hi:X.N[i]?=some x)(hx:Loc X.env.scope x)(r:RelV v u)
  (h:∀s',Inv X pins (σ.set i (some v)) H s'->(∃a,Heap.SameBut a s.heap s'.heap/\(a=X.env.locals\/X.env.cells.lookup x=some a))->Q () s') (hf:X.fn x=true\/X.env.scope.names.lookup x=some .local:=by first|exact .inl rfl|exact .inr rfl|assumption):wpAny M A (storeName X.env x u) Q E s:=by
 obtain⟨m,hn,hl⟩:=id I.loc;have hcls:(X.env.scope.kind==.class||(X.env.scope.kind==.module&&X.env.locals != X.env.globals))=false:=by rw[I.ok.kind];rfl
 have hiσ:i<σ.length:=by rw[I.len];exact(List.getElem?_eq_some_iff.mp hi).1
 have cne:=I.cne;have tracked:∀{a:Addr}{h':Heap},(∃o,s.heap.get? a=some o/\H a=none)->Heap.SameBut a s.heap h'->HOk X.prog X.w H h':=λ{a h'} ha hs b ob e=>by
  obtain⟨_,_,hfree⟩:=ha;refine(I.hok b ob e).stay (λc w' hc q=>(hs.2 c ?_).trans q) (λ_ q=>q) λ_ _ q=>q;rintro rfl;rcases hc with rfl|hc
  ·rw[hfree]at e;cases e
  ·rw[hfree]at hc;cases hc
 rcases hx with hk|hk
 ·refine wpAny_storeName_local hk hn (λh' hn' hs=>?_) hcls;obtain⟨oL,_,_,hoL,_⟩:=id hn;refine h _ ⟨I.ok,I.os,I.bare,⟨λb o e n hb hx=>?_,λb o e n hb hx=>?_,I.base.free,λb o e hx=>?_,I.base.tups,I.base.frzs,I.base.tbls⟩,⟨_,hn',λj y v' e1 e2 e3=>?_⟩,λy c e=>?_,I.free,I.freeC,λp hp=>?_,tracked ⟨oL,hoL,I.free⟩ hs,by simpa using I.len⟩ ⟨_,hs,.inl rfl⟩
  ·exact(hs.2 b (wK (wC (Heap.lt_size e) I.ok.above))).trans (I.base.keep b o e n hb hx)
  ·obtain⟨sl,e1⟩:=I.base.slot b o e n hb hx;exact⟨sl,(hs.2 b (wK (wC (Heap.lt_size e) I.ok.above))).trans e1⟩
  ·obtain⟨o',e1⟩:=I.base.there b o e hx;exact⟨o',(hs.2 b (wK (wC (Heap.lt_size e) I.ok.above))).trans e1⟩
  ·by_cases hj:j=i
   ·subst hj;rw[hi]at e1;cases e1;rw[wP hiσ]at e2;cases e2;exact⟨u,r,.inl ⟨hk,by simp⟩⟩
   ·rw[wI (Ne.symm hj)]at e2;obtain⟨u',r',q⟩:=hl j y v' e1 e2 e3;refine⟨u',r',?_⟩;rcases q with⟨k,e⟩|⟨k,c,e,z⟩
    ·refine .inl ⟨k,?_⟩;have:y≠x:=λe=>hj (C2 hN e1 (e ▸ hi));simp[this,e]
    ·exact .inr ⟨k,c,e,z.sameBut hs (cne y c e)⟩
  ·obtain⟨w',z⟩:=I.cell y c e;exact⟨w',z.sameBut hs (cne y c e)⟩
  ·obtain⟨e,n,ne,nf,d⟩:=I.pin p hp;exact⟨(hs.2 p.1 ne).trans e,n,ne,nf,d⟩
 ·have hfn:X.fn x=true:=by
   rcases hf with z|z
   ·exact z
   ·rw[z]at hk;cases hk
  obtain⟨c,hc⟩:=I.ok.has x (.inl hk);obtain⟨w',z⟩:=I.cell x c hc;refine wpAny_storeName_cell I.ok.kind hk hc z (λh' hc' hs=>?_);obtain⟨oc,hoc,hocd⟩:=id z;refine h { s with heap:=h' } ⟨I.ok,I.os,I.bare,⟨λb o e n hb hx=>?_,λb o e n hb hx=>?_,I.base.free,λb o e hx=>?_,I.base.tups,I.base.frzs,I.base.tbls⟩,⟨m,hn.sameBut hs (Ne.symm (cne x c hc)),λj y v' e1 e2 e3=>?_⟩,λy c' e=>?_,I.free,I.freeC,λp hp=>?_,tracked ⟨oc,hoc,I.freeC x c hc⟩ hs,by simpa using I.len⟩ ⟨c,hs,.inr hc⟩
  ·exact(hs.2 b (wK (wC (Heap.lt_size e) (I.ok.cab x c hfn hc)))).trans (I.base.keep b o e n hb hx)
  ·obtain⟨sl,e1⟩:=I.base.slot b o e n hb hx;exact⟨sl,(hs.2 b (wK (wC (Heap.lt_size e) (I.ok.cab x c hfn hc)))).trans e1⟩
  ·obtain⟨o',e1⟩:=I.base.there b o e hx;exact⟨o',(hs.2 b (wK (wC (Heap.lt_size e) (I.ok.cab x c hfn hc)))).trans e1⟩
  ·by_cases hj:j=i
   ·subst hj;rw[hi]at e1;cases e1;rw[wP hiσ]at e2;cases e2;exact⟨u,r,.inr ⟨.inl hk,c,hc,hc'⟩⟩
   ·rw[wI (Ne.symm hj)]at e2;obtain⟨u',r',q⟩:=hl j y v' e1 e2 e3;refine⟨u',r',?_⟩;rcases q with q|⟨k,c',e,z'⟩
    ·exact .inl q
    ·refine .inr ⟨k,c',e,z'.sameBut hs ?_⟩;rintro rfl;exact hj (C2 hN e1 (I.ok.inj _ _ _ e hc ▸ hi))
  ·by_cases hcc:c'=c
   ·subst hcc;exact⟨_,hc'⟩
   ·obtain⟨w2,z2⟩:=I.cell y c' e;exact⟨w2,z2.sameBut hs hcc⟩
  ·obtain⟨e,n,ne,nf,d⟩:=I.pin p hp;refine⟨(hs.2 p.1 ?_).trans e,n,ne,nf,d⟩;intro q;rw[q,hoc]at e;have q':oc=p.2:=Option.some.inj e;exact d w' (by rw[<-q'];exact hocd)
theorem jC{M:Model}{A:Around}{E:Value->Shared->Prop}{i:Nat}{x:Str}{v:V}{u:Value}{Q:Unit->Shared->Prop}(I:Inv X pins σ H s)(hN:X.N.Nodup)(hi:X.N[i]?=some x)(hx:Loc X.env.scope x)(r:RelV v u)
  (h:∀s',Inv X pins (σ.set i (some v)) H s'->Q () s') (hf:X.fn x=true\/X.env.scope.names.lookup x=some .local:=by first|exact .inl rfl|exact .inr rfl|assumption):wpAny M A (storeName X.env x u) Q E s:=
 Zq I hN hi hx r (λs' I' _=>h s' I') hf
theorem Inv.call'{s':Shared}{ch:List Addr}(I:Inv X pins σ H s)(ho:s'.os=s.os)(u:Un (frs X.stack) ch H H' s.heap s'.heap)(hok:HOk X.prog X.w H' s'.heap)(hg:AllBare s'.gens)
  (hch:∀b∈ch,(b∈X.ex\/X.s₀.heap.objs.size<=b)/\b≠X.env.locals/\(∀x c,X.env.cells.lookup x=some c->c≠b)/\∀p∈X.pn++pins,p.1≠b):Inv X pins σ H' s':=by
 obtain⟨h',g',d',t',o'⟩:=s';have e:o'=s.os:=ho;subst e;exact I.call (g':=g') (t':=t') (d':=d') u hok hg hch
end
noncomputable abbrev XK:=Value->Option Addr->Hp->Prop
noncomputable abbrev St:=List (Option V)
noncomputable abbrev VK:=V->Hp->Prop
noncomputable abbrev TE:=St->Hp->VK->Prop
noncomputable abbrev TT:=St->Hp->(Bool->Hp->Prop)->Prop
noncomputable abbrev TA:=St->Hp->(List V->Hp->Prop)->Prop
structure F9 where
 nx:St->Hp->Prop
 rt:VK
 bk:St->Hp->Prop:=λ_ _=>False
 ct:St->Hp->Prop:=λ_ _=>False
noncomputable abbrev TS:=F9->St->Hp->Prop
def EP(X:Cx)(pins:List (Addr×Obj))(σ:St)(Q:VK)(u:Value)(s':Shared):Prop:=∃v H',Inv X pins σ H' s'/\RelV v u/\Q v H'
def TP(X:Cx)(pins:List (Addr×Obj))(σ:St)(Q:Bool->Hp->Prop)(b:Bool)(s':Shared):Prop:=∃H',Inv X pins σ H' s'/\Q b H'
def AP(X:Cx)(pins:List (Addr×Obj))(σ:St)(Q:List V->Hp->Prop)(us:List Value)(s':Shared):Prop:=∃vs H',Inv X pins σ H' s'/\Vals vs us/\Q vs H'
def SP(X:Cx)(pins:List (Addr×Obj))(D:F9)(f:Flow)(s':Shared):Prop:=
 match f with
 | .next=>∃σ' H',Inv X pins σ' H' s'/\D.nx σ' H'
 | .brk=>∃σ' H',Inv X pins σ' H' s'/\D.bk σ' H'
 | .cont=>∃σ' H',Inv X pins σ' H' s'/\D.ct σ' H'
 | .ret u=>∃v σ' H',Inv X pins σ' H' s'/\RelV v u/\D.rt v H'
def PE(X:Cx)(e:Expr)(t:TE):Prop:=
 ∀(pins:List (Addr×Obj)) (s:Shared) (σ:St) (H:Hp) (Q:VK),Inv X pins σ H s->t σ H Q->wpAny (model X.prog X.w) X.A (eval e X.env) (EP X pins σ Q) X.xe s
def PT(X:Cx)(e:Expr)(t:TT):Prop:=
 ∀(pins:List (Addr×Obj)) (s:Shared) (σ:St) (H:Hp) (Q:Bool->Hp->Prop),Inv X pins σ H s->t σ H Q->wpAny (model X.prog X.w) X.A (isTrue e X.env (eval e X.env)) (TP X pins σ Q) X.xe s
def PW(X:Cx)(e:Expr)(t:TT):Prop:=
 ∀(whole:Sem Value) (pins:List (Addr×Obj)) (s:Shared) (σ:St) (H:Hp) (Q:Bool->Hp->Prop),Inv X pins σ H s->t σ H Q->wpAny (model X.prog X.w) X.A (isTrue e X.env whole) (TP X pins σ Q) X.xe s
theorem PW.pt{X:Cx}{e:Expr}{t:TT}(h:PW X e t):PT X e t:=h _
def PA(X:Cx)(es:List Expr)(t:TA):Prop:=
 ∀(pos:Pos) (pins:List (Addr×Obj)) (s:Shared) (σ:St) (H:Hp) (Q:List V->Hp->Prop),Inv X pins σ H s->t σ H Q->wpAny (model X.prog X.w) X.A (spliced (backTo pos (starEach es X.env))) (AP X pins σ Q) X.xe s
def PS(X:Cx)(st:Stmt)(t:TS):Prop:=
 ∀(pins:List (Addr×Obj)) (s:Shared) (σ:St) (H:Hp) (D:F9),Inv X pins σ H s->t D σ H->wpAny (model X.prog X.w) X.A (exec st X.env) (SP X pins D) X.xe s
def PSs(X:Cx)(st:List Stmt)(t:TS):Prop:=
 ∀(pins:List (Addr×Obj)) (s:Shared) (σ:St) (H:Hp) (D:F9),Inv X pins σ H s->t D σ H->wpAny (model X.prog X.w) X.A (execs st X.env) (SP X pins D) X.xe s
theorem thn{α:Type}{t:Sem α}{Q Q':α->Shared->Prop}{M:Model}{A:Around}{E:Value->Shared->Prop}{s:Shared}(h:wpAny M A t Q E s)(hQ:∀a s,Q a s->Q' a s):wpAny M A t Q' E s:=wpAny_mono h hQ λ_ _ x=>x
section
variable{X:Cx}
theorem bin{a b:Expr}{ta tb:TE}(ha:PE X a ta)(hb:PE X b tb){pins:List (Addr×Obj)}{s:Shared}{σ:St}{H:Hp}{R:V->V->Hp->Prop}(I:Inv X pins σ H s)(h:ta σ H λx H1=>tb σ H1 λy H2=>R x y H2)
  {α:Type}{Q:α->Shared->Prop}{f:Value->Value->Sem α}
  (hf:∀v u s2 x y H2,Inv X pins σ H2 s2->RelV x v->RelV y u->R x y H2->wpAny (model X.prog X.w) X.A (f v u) Q X.xe s2):
  wpAny (model X.prog X.w) X.A (eval a X.env) (λv s₁=>wpAny (model X.prog X.w) X.A (eval b X.env) (λu s₂=>wpAny (model X.prog X.w) X.A (f v u) Q X.xe s₂) X.xe s₁) X.xe s:=by
 refine thn (ha pins s σ H _ I h) λv s1 ⟨x,H1,I1,r1,q1⟩=>?_;refine thn (hb pins s1 σ H1 _ I1 q1) λu s2 ⟨y,H2,I2,r2,q2⟩=>?_;exact hf v u s2 x y H2 I2 r1 r2 q2
noncomputable def qEV(i:Nat):TE:=λσ H Q=>∃v,σ[i]?=some (some v)/\Q v H
noncomputable def tC(v:V):TE:=λ_ H Q=>Q v H
theorem pe_var{i:Nat}{x:Str}{pos:Pos}(hN:X.N[i]?=some x)(hv:Vis X.env.scope x)(hd:(x==("__debug__":Str))=false:=by decide)(hcd:(x==("__classdict__":Str))=false:=by decide):PE X (.Name x pos) (qEV i):=by
 intro pins s σ H Q I h;obtain⟨v,e,h⟩:=h;obtain⟨m,hn,hl⟩:=I.loc;obtain⟨u,r,l⟩:=hl i x v hN e hv;have fin:EP X pins σ Q u s:=⟨v,H,I,r,h⟩
 rcases l with⟨hk,hm⟩|⟨hk,c,hc,hcell⟩
 ·exact wpAny_Name (wpAny_loadName_local I.ok.kind hk hn hm fin) hd
 ·rcases hk with hk|hk
  ·exact wpAny_Name (wpAny_loadName_cell I.ok.kind hk hc hcell fin) hd
  ·exact wpAny_Name (wpAny_loadName_free I.ok.kind hk hc hcell fin hcd) hd
theorem pe_int {i j pos}:PE X (.Constant (.int i) j pos) (tC (.int i)):=λ_ _ _ H _ I h=>wpAny_Constant_int ⟨.int i,H,I.tok _,⟨_,rfl⟩,h⟩
theorem pe_bl {b j pos}:PE X (.Constant (.bool b) j pos) (tC (.bl b)):=λ_ _ _ H _ I h=>Constant_bool ⟨.bl b,H,I,rfl,h⟩
theorem pe_non {j pos}:PE X (.Constant .none j pos) (tC .non):=λ_ _ _ H _ I h=>Constant_none ⟨.non,H,I,rfl,h⟩
theorem pe_str {x j pos}:PE X (.Constant (.str x) j pos) (tC (.str x)):=λ_ _ _ H _ I h=>Calls.Constant_str ⟨.str x,H,I.tok _,⟨_,rfl⟩,h⟩
def Gl(X:Cx)(x:Str):Prop:=X.env.kindOf x=some .globalImplicit
theorem ld_glob{E:Value->Shared->Prop}{pins:List (Addr×Obj)}{s:Shared}{σ:St}{H:Hp}{x:Str}{u:Value}{pos:Pos}{Q:Value->Shared->Prop}(I:Inv X pins σ H s)(hg:Gl X x)(hm:X.mg x=some u)(h:Q u s)
  (hd:(x==("__debug__":Str))=false:=by decide):wpAny (model X.prog X.w) X.A (eval (.Name x pos) X.env) Q E s:=
 Calls.Name_function_global I.ok.kind hg (Calls.loadGlobal_global (by rw[I.ok.glob];exact I.mod.glob.keeps I.bk) hm h) hd
theorem ld_blt{E:Value->Shared->Prop}{pins:List (Addr×Obj)}{s:Shared}{σ:St}{H:Hp}{x:Str}{u:Value}{pos:Pos}{Q:Value->Shared->Prop}(I:Inv X pins σ H s)(hg:Gl X x)(hm:X.mg x=none)(hv:bootBuiltins x=some u)(h:Q u s)
  (hn:x≠"__name__":=by decide) (hd:(x==("__debug__":Str))=false:=by decide):wpAny (model X.prog X.w) X.A (eval (.Name x pos) X.env) Q E s:=by
 obtain⟨mb,h1,h2⟩:=I.mod.blt;exact Calls.Name_function_global I.ok.kind hg (Calls.loadGlobal_builtin (by rw[I.ok.glob];exact I.mod.glob.keeps I.bk) hm (by rw[I.ok.blt];exact h1.keeps I.bk) ((h2 x hn).trans hv) h) hd
theorem pe_glob{x:Str}{v:V}{u:Value}{pos:Pos}(hg:Gl X x)(hm:X.mg x=some u)(r:RelV v u)(hd:(x==("__debug__":Str))=false:=by decide):PE X (.Name x pos) (tC v):=
 λ_ _ _ H _ I h=>ld_glob I hg hm ⟨v,H,I,r,h⟩ hd
theorem pe_bltn{x:Str}{v:V}{u:Value}{pos:Pos}(hg:Gl X x)(hm:X.mg x=none)(hv:bootBuiltins x=some u)(r:RelV v u)(hn:x≠"__name__":=by decide)(hd:(x==("__debug__":Str))=false:=by decide):PE X (.Name x pos) (tC v):=
 λ_ _ _ H _ I h=>ld_blt I hg hm hv ⟨v,H,I,r,h⟩ hn hd
variable{a b:Expr}{ta tb:TE}{pos:Pos}
def PC(X:Cx)(op:CmpOp)(a b:Expr)(t:TE):Prop:=
 ∀(pins:List (Addr×Obj)) (s:Shared) (σ:St) (H:Hp) (Q:VK),Inv X pins σ H s->t σ H Q ->
  wpAny (model X.prog X.w) X.A (eval a X.env) (λv s₁=>wpAny (model X.prog X.w) X.A (eval b X.env) (λu s₂=>wpAny (model X.prog X.w) X.A (compareOp op v u) (EP X pins σ Q) X.xe s₂) X.xe s₁) X.xe s
noncomputable def tB(t:TE):TT:=λσ H Q=>t σ H λx H1=>∃c,x=.bl c/\Q c H1
theorem qAf{op:CmpOp}{t:TE}(h:PC X op a b t)(h1:behindInMarks op b=false:=by first|exact nobehind _ (by decide) (by decide)|rfl):PE X (.Compare a [op] [b] pos) t:=λpins s σ H Q I hw=>wpAny_Compare1 (h pins s σ H Q I hw) h1
theorem pt_val{e:Expr}{t:TE}(h:PE X e t)(he:∀whole,isTrue e X.env whole=(do let v <- whole;standAt e.pos;holding [v] (truthy v)):=by intro _;rfl):PT X e (tB t):=by
 intro pins s σ H Q I hw;refine isTrue_plain (thn (h pins s σ H _ I hw) λv s1 ⟨x,H1,I1,r1,q1⟩=>?_) (he _);obtain⟨d,rfl,q⟩:=q1;cases r1;exact vC ⟨H1,I1,q⟩
variable{tA tB':TT}{jd:List Expr}
noncomputable def tAnd(t u:TT):TT:=λσ H Q=>t σ H λc H1=>if c=true then u σ H1 Q else Q false H1
noncomputable def tOr(t u:TT):TT:=λσ H Q=>t σ H λc H1=>if c=true then Q true H1 else u σ H1 Q
noncomputable def qEX(t:TT):TT:=λσ H Q=>t σ H λc H1=>Q (!c) H1
theorem pw_and1(ha:PT X a tA):PW X (.BoolOp .And [a] pos) tA:=by
 intro wh pins s σ H Q I h;refine isTrue_and (thn (ha pins s σ H Q I h) λc s1 e=>?_);cases c with
 |true=>exact isTrue_and_nil e
 |false=>exact e
theorem pw_or1(ha:PT X a tA):PW X (.BoolOp .Or [a] pos) tA:=by
 intro wh pins s σ H Q I h;refine isTrue_or (thn (ha pins s σ H Q I h) λc s1 e=>?_);cases c with
 |false=>exact isTrue_or_nil e
 |true=>exact e
theorem pw_and(ha:PT X a tA)(hb:PW X (.BoolOp .And (b::jd) pos) tB'):PW X (.BoolOp .And (a::b::jd) pos) (tAnd tA tB'):=by
 intro wh pins s σ H Q I h;refine isTrue_and (thn (ha pins s σ H _ I h) λc s1 ⟨H1,I1,q1⟩=>?_);cases c with
 |true=>exact hb wh pins s1 σ H1 Q I1 q1
 |false=>exact⟨H1,I1,q1⟩
theorem pw_or(ha:PT X a tA)(hb:PW X (.BoolOp .Or (b::jd) pos) tB'):PW X (.BoolOp .Or (a::b::jd) pos) (tOr tA tB'):=by
 intro wh pins s σ H Q I h;refine isTrue_or (thn (ha pins s σ H _ I h) λc s1 ⟨H1,I1,q1⟩=>?_);cases c with
 |true=>exact⟨H1,I1,q1⟩
 |false=>exact hb wh pins s1 σ H1 Q I1 q1
theorem pt_not(ha:PT X a tA):PT X (.UnaryOp .Not a pos) (qEX tA):=by
 intro pins s σ H Q I h;exact isTrue_not (ha pins s σ H (λc H1=>Q (!c) H1) I h)
noncomputable def tAndV(ta tb:TE):TE:=λσ H Q=>ta σ H λx H1=>∃c,x=.bl c/\if c=true then tb σ H1 Q else Q (.bl false) H1
noncomputable def tOrV(ta tb:TE):TE:=λσ H Q=>ta σ H λx H1=>∃c,x=.bl c/\if c=true then Q (.bl true) H1 else tb σ H1 Q
noncomputable def qCZ(ta:TE):TE:=λσ H Q=>ta σ H λx H1=>∃c,x=.bl c/\Q (.bl (!c)) H1
theorem pe_one {op}{t:TE}(h:PE X a t):PE X (.BoolOp op [a] pos) t:=λpins s σ H Q I hw=>BoolOp_one (h pins s σ H Q I hw)
theorem pe_and(ha:PE X a ta)(hb:PE X (.BoolOp .And (b::jd) pos) tb):PE X (.BoolOp .And (a::b::jd) pos) (tAndV ta tb):=by
 intro pins s σ H Q I h;refine BoolOp_and (thn (ha pins s σ H _ I h) λv s1 ⟨x,H1,I1,r1,q1⟩=>?_);obtain⟨c,rfl,q1⟩:=q1;cases r1;refine vC ?_;cases c with
 |true=>exact hb pins s1 σ H1 Q I1 q1
 |false=>exact⟨.bl false,H1,I1,rfl,q1⟩
theorem pe_or(ha:PE X a ta)(hb:PE X (.BoolOp .Or (b::jd) pos) tb):PE X (.BoolOp .Or (a::b::jd) pos) (tOrV ta tb):=by
 intro pins s σ H Q I h;refine BoolOp_or (thn (ha pins s σ H _ I h) λv s1 ⟨x,H1,I1,r1,q1⟩=>?_);obtain⟨c,rfl,q1⟩:=q1;cases r1;refine vC ?_;cases c with
 |false=>exact hb pins s1 σ H1 Q I1 q1
 |true=>exact⟨.bl true,H1,I1,rfl,q1⟩
theorem pe_not(ha:PE X a ta):PE X (.UnaryOp .Not a pos) (qCZ ta):=by
 intro pins s σ H Q I h;refine UnaryOp_ (thn (ha pins s σ H _ I h) λv s1 ⟨x,H1,I1,r1,q1⟩=>?_);obtain⟨c,rfl,q1⟩:=q1;cases r1;exact not_of (vC ⟨.bl (!c),H1,I1,rfl,q1⟩)
end
def SqL(K:PySem.W.Frag)(H:Hp)(a:Addr)(xs:List V):Prop:=
 Rd H a (.lst xs)\/
  ∃(o:Obj) (its:Array Value) (n:Nat),K.lookup a=some o/\o.cls=.type "list"/\o.dict=none/\o.data=.seq its n/\its.size<=sizeLine/\Vals xs its.toList
def SqT(K:PySem.W.Frag)(H:Hp)(a:Addr)(xs:List V):Prop:=
 Rd H a (.tup xs)\/
  ∃(o:Obj) (its:Array Value) (n:Nat),K.lookup a=some o/\o.cls=.type "tuple"/\o.data=.seq its n/\its.size<=sizeLine/\Vals xs its.toList
noncomputable def qD9:Value->Option V
 | .none=>some .non
 | .bool b=>some (.bl b)
 | .int i _=>some (.int i)
 | .str x _=>some (.str x)
 | .bytes b _=>some (.byt b)
 | .float b _=>some (.flt b)
 | .ref a=>some (.ref a)
 | .type n=>some (.ty n)
 |_=>none
theorem RelV.abs{x:V}{u:Value}(r:RelV x u):qD9 u=some x:=by
 cases x with
 |non=>cases r;rfl
 |bl _=>cases r;rfl
 |int _=>obtain⟨t,rfl⟩:=r;rfl
 |str _=>obtain⟨t,rfl⟩:=r;rfl
 |byt _=>obtain⟨t,rfl⟩:=r;rfl
 |flt _=>obtain⟨t,rfl⟩:=r;rfl
 |ref _=>cases r;rfl
 |ty _=>cases r;rfl
theorem RelV.inj{x y:V}{u:Value}(r:RelV x u)(q:RelV y u):x=y:=Option.some.inj (r.abs.symm.trans q.abs)
theorem Vals.inj:∀{xs ys:List V}{us:List Value},Vals xs us->Vals ys us->xs=ys
 |_,_,_,.nil,.nil=>rfl
 |_,_,_,.cons r t,.cons r' t'=>by rw[r.inj r',Vals.inj t t']
section
variable{X:Cx}{pins:List (Addr×Obj)}{σ:St}{H:Hp}{s:Shared}{a:Addr}{xs ys:List V}
theorem Inv.list(I:Inv X pins σ H s)(h:SqL X.K H a xs):∃its:List Value,Vals xs its/\PlainL s.heap a its.toArray/\xs.length<=sizeLine:=by
 rcases h with h|⟨o,its,n,hk,hc,hd,hs,hz,r⟩
 ·obtain⟨z,its,n,r,e⟩:=h.ok I.hok;exact⟨its,r,⟨_,n,e,rfl,rfl,rfl⟩,z⟩
 ·refine⟨its.toList,r,⟨o,n,I.kIn a o hk,hc,hd,by simpa using hs⟩,?_⟩;have e:=r.length;simp only[Array.length_toList]at e;omega
theorem Inv.tuple(I:Inv X pins σ H s)(h:SqT X.K H a xs):∃its:List Value,Vals xs its/\IsTup s.heap a its.toArray/\xs.length<=sizeLine:=by
 rcases h with h|⟨o,its,n,hk,hc,hs,hz,r⟩
 ·obtain⟨z,its,r,p⟩:=h.ok I.hok;exact⟨its,r,p,z⟩
 ·refine⟨its.toList,r,⟨o,I.kIn a o hk,hc,n,by simpa using hs⟩,?_⟩;have e:=r.length;simp only[Array.length_toList]at e;omega
theorem Inv.list_inj(I:Inv X pins σ H s)(h:SqL X.K H a xs)(h':SqL X.K H a ys):xs=ys:=by
 obtain⟨its,r,⟨o,n,e,_,_,d⟩,_⟩:=I.list h;obtain⟨its',r',⟨o',n',e',_,_,d'⟩,_⟩:=I.list h';rw[e]at e';cases e';rw[d]at d';injection d' with d1 _;have:its=its':=by simpa using congrArg Array.toList d1
 subst this;exact r.inj r'
theorem Inv.tuple_inj(I:Inv X pins σ H s)(h:SqT X.K H a xs)(h':SqT X.K H a ys):xs=ys:=by
 obtain⟨its,r,⟨o,e,_,n,d⟩,_⟩:=I.tuple h;obtain⟨its',r',⟨o',e',_,n',d'⟩,_⟩:=I.tuple h';rw[e]at e';cases e';rw[d]at d';injection d' with d1 _;have:its=its':=by simpa using congrArg Array.toList d1
 subst this;exact r.inj r'
end
noncomputable abbrev Cx.wish(X:Cx)(E:Value->Shared->Prop):Cx:={ X with xe:=E }
noncomputable abbrev Cx.nox(X:Cx):Cx:=X.wish λ_ _=>False
theorem Cx.Ok.wish{X:Cx}(ok:X.Ok)(E:Value->Shared->Prop):(X.wish E).Ok:=
 ⟨ok.mod,ok.kind,ok.glob,ok.blt,ok.above,ok.inj,ok.has,ok.cab,ok.hd,ok.frames,ok.stk,ok.exf,ok.bs,ok.bsz,ok.noex,ok.exfs,ok.funs,ok.frf⟩
theorem Cx.Ok.unwish{X:Cx}{E:Value->Shared->Prop}(ok:(X.wish E).Ok):X.Ok:=
 ⟨ok.mod,ok.kind,ok.glob,ok.blt,ok.above,ok.inj,ok.has,ok.cab,ok.hd,ok.frames,ok.stk,ok.exf,ok.bs,ok.bsz,ok.noex,ok.exfs,ok.funs,ok.frf⟩
section
variable{X:Cx}{pins:List (Addr×Obj)}{σ:St}{H:Hp}{s:Shared}{E:Value->Shared->Prop}
theorem Inv.wish(I:Inv X pins σ H s)(E:Value->Shared->Prop):Inv (X.wish E) pins σ H s:=⟨I.ok.wish E,I.os,I.bare,I.base,I.loc,I.cell,I.free,I.freeC,I.pin,I.hok,I.len⟩
theorem Inv.unwish(I:Inv (X.wish E) pins σ H s):Inv X pins σ H s:=⟨I.ok.unwish,I.os,I.bare,I.base,I.loc,I.cell,I.free,I.freeC,I.pin,I.hok,I.len⟩
theorem SP.unwish{D:F9}{f:Flow}{s':Shared}(h:SP (X.wish E) pins D f s'):SP X pins D f s':=by
 cases f with
 |next=>obtain⟨σ',H',I,q⟩:=h;exact⟨σ',H',I.unwish,q⟩
 |brk=>obtain⟨σ',H',I,q⟩:=h;exact⟨σ',H',I.unwish,q⟩
 |cont=>obtain⟨σ',H',I,q⟩:=h;exact⟨σ',H',I.unwish,q⟩
 |ret u=>obtain⟨v,σ',H',I,r,q⟩:=h;exact⟨v,σ',H',I.unwish,r,q⟩
theorem PSs.nox{st:List Stmt}{t:TS}(h:PSs X.nox st t):PSs X st t:=λpins s σ H D I hw=>
 wpAny_mono (h pins s σ H D (I.wish _) hw) (λ_ _ q=>q.unwish) λ_ _ z=>False.elim z
end
section
variable{X:Cx}{st:Stmt}{jd:List Stmt}{t u:TS}{e:Expr}{te:TE}{pos:Pos}
noncomputable def qB2:TS:=λD σ H=>D.nx σ H
noncomputable def qD8(t u:TS):TS:=λD σ H=>t { D with nx:=u D } σ H
theorem pss_nil:PSs X [] qB2:=λ_ _ σ H _ I h=>wpAny_execs_nil ⟨σ,H,I,h⟩
theorem pss_cons(h1:PS X st t)(h2:PSs X jd u):PSs X (st::jd) (qD8 t u):=by
 intro pins s σ H D I h;refine wpAny_execs_cons (thn (h1 pins s σ H { D with nx:=u D } I h) λf s1 q=>?_);cases f with
 |next=>
  obtain⟨σ',H',I',q⟩:=q;exact h2 pins s1 σ' H' D I' q
 |ret v=>exact q
 |brk=>exact q
 |cont=>exact q
theorem Inv.quiet{pins:List (Addr×Obj)}{σ:St}{H:Hp}{s:Shared}(I:Inv X pins σ H s):interactive X.env=false:=by simp[interactive,I.ok.kind]
noncomputable def qCR(te:TE):TS:=λD σ H=>te σ H λ_ H1=>D.nx σ H1
theorem ps_expr(he:PE X e te)(hs:swapsWith e none pos.line X.env=pure false:=by rfl):PS X (.Expr e pos) (qCR te):=by
 intro pins s σ H D I h;exact wpAny_Expr_any (thn (he pins s σ H _ I h) λv s1 ⟨x,H1,I1,r1,q1⟩=>⟨σ,H1,I1,q1⟩) I.quiet hs
noncomputable def qEF(te:TE):TS:=λD σ H=>te σ H D.rt
theorem ps_ret(he:PE X e te):PS X (.Return (some e) pos) (qEF te):=by
 intro pins s σ H D I h;exact wpAny_Return_some (thn (he pins s σ H _ I h) λv s1 ⟨x,H1,I1,r1,q1⟩=>⟨x,σ,H1,I1,r1,q1⟩)
noncomputable def qD1(c:TT)(t u:TS):TS:=λD σ H=>c σ H λb H1=>if b=true then t D σ H1 else u D σ H1
theorem ps_if{c:Expr}{a b:List Stmt}{tc:TT}(hc:PT X c tc)(ha:PSs X a t)(hb:PSs X b u):PS X (.If c a b pos) (qD1 tc t u):=by
 intro pins s σ H D I h;refine wpAny_If (thn (hc pins s σ H _ I h) λd s1 ⟨H1,I1,q1⟩=>?_);cases d with
 |true=>exact ha pins s1 σ H1 D I1 q1
 |false=>exact hb pins s1 σ H1 D I1 q1
end
noncomputable abbrev TG:=V->St->Hp->(St->Hp->Prop)->Prop
noncomputable abbrev TGs:=List V->St->Hp->(St->Hp->Prop)->Prop
def PG(X:Cx)(target:Expr)(t:TG):Prop:=
 ∀(pins:List (Addr×Obj)) (s:Shared) (σ:St) (H:Hp) (v:V) (u:Value) (Q:St->Hp->Prop),Inv X pins σ H s->RelV v u->t v σ H Q ->
  wpAny (model X.prog X.w) X.A (assign target X.env u) (λ_ s'=>∃σ' H',Inv X pins σ' H' s'/\Q σ' H') X.xe s
def PGs(X:Cx)(ts:List Expr)(t:TGs):Prop:=
 ∀(pins:List (Addr×Obj)) (s:Shared) (σ:St) (H:Hp) (vs:List V) (us:List Value) (Q:St->Hp->Prop),Inv X pins σ H s->Vals vs us->t vs σ H Q ->
  wpAny (model X.prog X.w) X.A (assignInOrder ((assignEach ts X.env).map (·.2)) us) (λ_ s'=>∃σ' H',Inv X pins σ' H' s'/\Q σ' H') X.xe s
noncomputable abbrev TSet:=V->V->V->Hp->(Hp->Prop)->Prop
def PSet(X:Cx)(t:TSet):Prop:=
 ∀(pins:List (Addr×Obj)) (s:Shared) (σ:St) (H:Hp) (o i v:V) (ov iv u:Value) (Q:Hp->Prop),Inv X pins σ H s->RelV o ov->RelV i iv->RelV v u->t o i v H Q ->
  wpAny (model X.prog X.w) X.A (setItem ov iv u) (λ_ s'=>∃H',Inv X pins σ H' s'/\Q H') X.xe s
section
variable{X:Cx}{pos:Pos}
noncomputable def qBQ(i:Nat):TG:=λv σ H Q=>Q (σ.set i (some v)) H
theorem pg_name{i:Nat}{x:Str}(hN:X.N.Nodup)(hi:X.N[i]?=some x)(hx:Loc X.env.scope x)(hf:X.fn x=true\/X.env.scope.names.lookup x=some .local:=by first|exact .inl rfl|exact .inr rfl|assumption):PG X (.Name x pos) (qBQ i):=by
 intro pins s σ H v u Q I r h;exact wpAny_assign_Name (jC I hN hi hx r (λs' I'=>⟨_,H,I',h⟩) hf)
noncomputable def qEl:TGs:=λvs σ H Q=>vs=[]/\Q σ H
noncomputable def qCV(t:TG)(u:TGs):TGs:=λvs σ H Q=>∃v r,vs=v::r/\t v σ H λσ' H'=>u r σ' H' Q
theorem pgs_nil:PGs X [] qEl:=by
 intro pins s σ H vs us Q I r h;obtain⟨e,h⟩:=h;subst e;cases r;exact assignInOrder_nil ⟨σ,H,I,h⟩
theorem pgs_cons{e:Expr}{es:List Expr}{t:TG}{u:TGs}(h1:PG X e t)(h2:PGs X es u)
  (hs:(assignEach (e::es) X.env).map (·.2)=assign e X.env::(assignEach es X.env).map (·.2):=by rfl):PGs X (e::es) (qCV t u):=by
 intro pins s σ H vs us Q I r h;obtain⟨v,vr,e1,h⟩:=h;subst e1;cases r with
 |cons r rr=>
  rw[hs];refine assignInOrder_cons (thn (h1 pins s σ H _ _ _ I r h) λ_ s1 ⟨σ1,H1,I1,q1⟩=>?_);exact h2 pins s1 σ1 H1 _ _ Q I1 rr q1
noncomputable def qEh(K:PySem.W.Frag)(n:Nat)(t:TGs):TG:=λv σ H Q=>∃a xs,v=.ref a/\SqT K H a xs/\xs.length=n/\t xs σ H Q
theorem pg_tup{es:List Expr}{k:Nat}{t:TGs}{n:Nat}(hc:X.calm=true)(h:PGs X es t)
  (hn:(assignEach es X.env).length=n:=by rfl) (hst:(assignEach es X.env).findIdx? (·.1)=none:=by rfl):PG X (.Tuple es k pos) (qEh X.K n t):=by
 intro pins s σ H v u Q I r hw;obtain⟨a,xs,e1,hq,hl,hw⟩:=hw;subst e1;cases r;obtain⟨its,rv,ht,hz⟩:=I.tuple hq;refine assign_Tuple_tuple (I.ok.hd hc) ht (by simp[hn,<-hl,rv.length]) hst λh' hx=>?_;have I1:Inv X pins σ H { s with heap:=h' }:=I.kept (t':=s.toks) λb o e=>hx b o (wK (Heap.lt_size e)) e;exact h pins _ σ H xs _ Q I1 (by simpa using rv) hw
noncomputable def qDv(to ti:TE)(t:TSet):TG:=λv σ H Q=>to σ H λo H1=>ti σ H1 λi H2=>t o i v H2 λH3=>Q σ H3
theorem pg_sub{o i:Expr}{to ti:TE}{t:TSet}(ho:PE X o to)(hi:PE X i ti)(hs:PSet X t)
  (ha:∀v,assign (.Subscript o i pos) X.env v=(do
   let ov <- holding [v] (eval o X.env)
   let iv <- holding [v,ov] (eval i X.env)
   standAt pos
   holding [v,ov,iv] (setItem ov iv v)
   release [v,ov,iv] []):=by intro _;rfl):PG X (.Subscript o i pos) (qDv to ti t):=by
 intro pins s σ H v u Q I r h;rw[ha];refine wv (wpAny_holding (thn (ho pins s σ H _ I h) λov s1 ⟨x,H1,I1,r1,q1⟩=>?_));refine wv (wpAny_holding (thn (hi pins s1 σ H1 _ I1 q1) λiv s2 ⟨y,H2,I2,r2,q2⟩=>?_));refine wv (wpAny_standAt (wv (wpAny_holding (thn (hs pins s2 σ H2 x y v ov iv u _ I2 r1 r2 r q2) λ_ s3 ⟨H3,I3,q3⟩=>?_))));exact wpAny_release ⟨σ,H3,I3,q3⟩
noncomputable def tAsg(te:TE)(g:TG):TS:=λD σ H=>te σ H λx H1=>g x σ H1 D.nx
theorem ps_asg{tg e:Expr}{te:TE}{g:TG}(he:PE X e te)(hg:PG X tg g)(hs:swapsWithSole [tg] e pos.line X.env=pure false:=by rfl)(hw:swappedStores [tg] e X.env=pure none:=by rfl)
  (h1:(assignEach [tg] X.env).map (·.2)=[assign tg X.env]:=by rfl):PS X (.Assign [tg] e pos) (tAsg te g):=by
 intro pins s σ H D I h;refine wpAny_Assign_stores (thn (he pins s σ H _ I h) λv s1 ⟨x,H1,I1,r1,q1⟩=>?_) hs hw;rw[h1];exact thn (hg pins s1 σ H1 x v _ I1 r1 q1) λ_ s2 q=>q
end
structure It where
 go:Nat->Hp->Prop
 yld:Nat->Hp->V->Hp->Prop
 stop:Nat->Hp->Prop
def QR(X:Cx)(pins:List (Addr×Obj))(H:Hp)(b:Addr):Prop:=
 H b=none/\b≠X.env.locals/\b∉X.fs/\(b∈X.ex\/X.s₀.heap.objs.size<=b)/\(∀x c,X.env.cells.lookup x=some c->c≠b)/\∀p∈X.pn++pins,p.1≠b
theorem Inv.fpOk{X:Cx}{pins:List (Addr×Obj)}{σ:St}{H H':Hp}{s:Shared}{b:Addr}(I:Inv X pins σ H s)(hb:s.heap.objs.size<=b)(hn:H' b=none):QR X pins H' b:=by
 refine⟨hn,Nat.ne_of_gt (wC I.lt hb),I.nofs hb,.inr (Nat.le_trans I.sz hb),λx c e z=>?_,λp hp z=>?_⟩
 ·obtain⟨v,q⟩:=I.cell x c e;exact absurd (wC q.lt (by rw[z];exact hb)) (Nat.lt_irrefl _)
 ·exact absurd (wC (Heap.lt_size (I.pin p hp).1) (by rw[z];exact hb)) (Nat.lt_irrefl _)
structure Zv(P:Program)(w:World)(K:PySem.W.Frag)(tg:Expr)(J:It)(fp:List Addr)(it:Addr)(tn:Nat->Heap->Prop):Prop where
 mem:it∈fp
 obj:∀i h,tn i h->∀b∈fp,∃o,h.get? b=some o/\∀v,o.data≠.cell v
 keep:∀i h h',tn i h->(∀b∈fp,∀o,h.get? b=some o->h'.get? b=some o)->tn i h'
 item:∀(X:Cx),X.prog=P->X.w=w->X.K=K->X.calm=true->∀(i:Nat) (pins:List (Addr×Obj)) (s:Shared) (σ:St) (H:Hp) (E:Value->Shared->Prop),Inv X pins σ H s->(∀b∈fp,QR X pins H b)->tn i s.heap->J.go i H ->
  wpAny (model P w) X.A (pyNext (.ref it)) (λr s1=>∃u,r=some u/\
   wpAny (model P w) X.A (letOwnedTupleGo tg (.ref it) u) (λ_ s2=>∃x H',Inv X pins σ H' s2/\RelV x u/\J.yld i H x H'/\tn (i+1) s2.heap/\∀b∈fp,H' b=none) E s1) E s
 done:∀(X:Cx),X.prog=P->X.w=w->X.K=K->X.calm=true->∀(i:Nat) (pins:List (Addr×Obj)) (s:Shared) (σ:St) (H:Hp) (E:Value->Shared->Prop),Inv X pins σ H s->(∀b∈fp,QR X pins H b)->tn i s.heap->J.stop i H ->
  wpAny (model P w) X.A (pyNext (.ref it)) (λr s1=>r=none/\Inv X pins σ H s1) E s
 self:∀(A:Around) (i:Nat) (s:Shared) (Q:Value->Shared->Prop) (E:Value->Shared->Prop),tn i s.heap->Q (.ref it) s->wpAny (model P w) A (pyIter (.ref it)) Q E s
noncomputable abbrev TI:=St->Hp->(It->Hp->Prop)->Prop
def PIE(X:Cx)(pins:List (Addr×Obj))(σ:St)(tg:Expr)(R:It->Hp->Prop)(itv:Value)(s2:Shared):Prop:=
 ∃(it:Addr) (fp:List Addr) (tn:Nat->Heap->Prop) (J:It) (H':Hp),itv=.ref it/\Inv X pins σ H' s2/\Zv X.prog X.w X.K tg J fp it tn/\tn 0 s2.heap/\(∀b∈fp,QR X pins H' b)/\R J H'
def PI(X:Cx)(tg iter:Expr)(wi:TI):Prop:=
 ∀(pins:List (Addr×Obj)) (s:Shared) (σ:St) (H:Hp) (R:It->Hp->Prop),Inv X pins σ H s->wi σ H R ->
  wpAny (model X.prog X.w) X.A (eval iter X.env) (λv s1=>wpAny (model X.prog X.w) X.A (pyIter v) (PIE X pins σ tg R) X.xe s1) X.xe s
theorem k7{M:Model}{A:Around}{E:Value->Shared->Prop}{s:Shared}{tg:Expr}{it:Addr}{u:Value}{o:Obj}{n:String}{vs:Array Value}{Q:Unit->Shared->Prop}(ho:s.heap.get? it=some o)(hc:o.cls=.type n)(hd:o.data=.fields vs)
  (hn:["enumerate","zip","dict_itemiterator","dict_reverseitemiterator","odict_iterator","itertools.zip_longest","itertools.pairwise"].contains n=false) (hQ:Q () s):wpAny M A (letOwnedTupleGo tg (.ref it) u) Q E s:=by
 unfold letOwnedTupleGo;cases tg<;>first
  |exact wx hQ
  | (cases u<;>first
    |exact wx hQ
    | (refine wv (wpAny_load ho ?_)
       rw[hc,hd];show wpAny M A (if (["enumerate","zip","dict_itemiterator","dict_reverseitemiterator","odict_iterator","itertools.zip_longest","itertools.pairwise"].contains n&&vs[0]?==some (rawInt _))=true then _ else _) Q E s;rw[if_neg (by intro h;rw[hn,Bool.false_and]at h;cases h)];exact wx hQ))
noncomputable def Itl(K:PySem.W.Frag)(a:Addr):It:=
 ⟨λi H=>∃xs x,SqL K H a xs/\xs[i]?=some x,λi H x H'=>H'=H/\∀xs,SqL K H a xs->xs[i]?=some x,λi H=>∃xs,SqL K H a xs/\xs.length<=i⟩
noncomputable def Itt(K:PySem.W.Frag)(a:Addr):It:=
 ⟨λi H=>∃xs x,SqT K H a xs/\xs[i]?=some x,λi H x H'=>H'=H/\∀xs,SqT K H a xs->xs[i]?=some x,λi H=>∃xs,SqT K H a xs/\xs.length<=i⟩
noncomputable def Itr(lo:Int)(n:Nat):It:=⟨λi _=>i<n,λi H x H'=>H'=H/\x=.int (lo+i),λi _=>n<=i⟩
theorem turn_list{P:Program}{w:World}{K:PySem.W.Frag}{tg:Expr}(a it:Addr):Zv P w K tg (Itl K a) [it] it (λi h=>h.IsListIter it a i) where
 mem:=by simp
 obj:=λi h st b hb=>by
  have e:b=it:=by simpa using hb
  subst e;obtain⟨o,e,c,d⟩:=st;exact⟨o,e,λv z=>by rw[d]at z;cases z⟩
 keep:=λi h h' st k=>st.at λo e=>k it (by simp) o e
 item:=by
  intro X hP hw hK hc i pins s σ H E I hf st hg;subst hP hw hK;obtain⟨xs,x,hq,hx⟩:=hg;obtain⟨its,rv,p,hz⟩:=I.list hq;obtain⟨u,hu,ru⟩:=rv.get hx;obtain⟨f0,f1,f2,f3,f4,f5⟩:=hf it (by simp);refine wpAny_pyNext_list_item st p.isList (x:=u) (by simpa using hu) λh' st' sb=>?_;have I1:Inv X pins σ H { s with heap:=h' }:=I.turned (t':=s.toks) (λb o hb e=>(sb.2 b hb).trans e) f0 f1 f3 f4 f5;obtain⟨o,e,c,d⟩:=id st';exact⟨u,rfl,k7 (s:={ s with heap:=h' }) e c d (by decide) ⟨x,H,I1,ru,⟨rfl,λys hy=>by rw[I.list_inj hy hq];exact hx⟩,st',λb hb=>(hf b hb).1⟩⟩
 done:=by
  intro X hP hw hK hc i pins s σ H E I hf st hg;subst hP hw hK;obtain⟨xs,hq,hx⟩:=hg;obtain⟨its,rv,p,hz⟩:=I.list hq;obtain⟨f0,f1,f2,f3,f4,f5⟩:=hf it (by simp);have hl:=rv.length;exact wpAny_pyNext_list_end (I.ok.hd hc) st p.isList (by simp;omega) λh' eb=>⟨rfl,I.turned (t':=s.toks) (λb o hb e=>eb b o hb e) f0 f1 f3 f4 f5⟩
 self:=λ_ _ _ _ _ st h=>wpAny_pyIter_listiter st h
theorem turn_tuple{P:Program}{w:World}{K:PySem.W.Frag}{tg:Expr}(a it:Addr):Zv P w K tg (Itt K a) [it] it (λi h=>h.IsTupleIter it a i) where
 mem:=by simp
 obj:=λi h st b hb=>by
  have e:b=it:=by simpa using hb
  subst e;obtain⟨o,e,c,d⟩:=st;exact⟨o,e,λv z=>by rw[d]at z;cases z⟩
 keep:=λi h h' st k=>st.at λo e=>k it (by simp) o e
 item:=by
  intro X hP hw hK hc i pins s σ H E I hf st hg;subst hP hw hK;obtain⟨xs,x,hq,hx⟩:=hg;obtain⟨its,rv,p,hz⟩:=I.tuple hq;obtain⟨u,hu,ru⟩:=rv.get hx;obtain⟨f0,f1,f2,f3,f4,f5⟩:=hf it (by simp);refine wpAny_pyNext_tuple_item st (show s.heap.IsTuple a its.toArray from p) (x:=u) (by simpa using hu) λh' st' sb=>?_;have I1:Inv X pins σ H { s with heap:=h' }:=I.turned (t':=s.toks) (λb o hb e=>(sb.2 b hb).trans e) f0 f1 f3 f4 f5;obtain⟨o,e,c,d⟩:=id st';exact⟨u,rfl,k7 (s:={ s with heap:=h' }) e c d (by decide) ⟨x,H,I1,ru,⟨rfl,λys hy=>by rw[I.tuple_inj hy hq];exact hx⟩,st',λb hb=>(hf b hb).1⟩⟩
 done:=by
  intro X hP hw hK hc i pins s σ H E I hf st hg;subst hP hw hK;obtain⟨xs,hq,hx⟩:=hg;obtain⟨its,rv,p,hz⟩:=I.tuple hq;obtain⟨f0,f1,f2,f3,f4,f5⟩:=hf it (by simp);have hl:=rv.length;exact wpAny_pyNext_tuple_end (I.ok.hd hc) st (show s.heap.IsTuple a its.toArray from p) (by simp;omega) λh' eb=>⟨rfl,I.turned (t':=s.toks) (λb o hb e=>eb b o hb e) f0 f1 f3 f4 f5⟩
 self:=λ_ _ _ _ _ st h=>wpAny_pyIter_tupleiter st h
theorem F8{P:Program}{w:World}{K:PySem.W.Frag}{tg:Expr}(it:Addr)(lo:Int)(n:Nat):Zv P w K tg (Itr lo n) [it] it (λi h=>IsRangeIter h it (lo+(i:Nat)*1) ((n:Int)-(i:Nat)) 1) where
 mem:=by simp
 obj:=λi h st b hb=>by
  have e:b=it:=by simpa using hb
  subst e;exact⟨_,st,λv z=>by
   have z':Data.fields _=Data.cell v:=z;cases z'⟩
 keep:=λi h h' st k=>k it (by simp) _ st
 item:=by
  intro X hP hw hK hc i pins s σ H E I hf st hg;subst hP hw hK;obtain⟨f0,f1,f2,f3,f4,f5⟩:=hf it (by simp);have W:=Walks.range (prog:=X.prog) (w:=X.w) (I.ok.hd hc) it lo 1 n;refine W.item i s _ _ hg st λv h' tk hv st' kk=>?_;obtain⟨t,rfl⟩:=hv;have I1:Inv X pins σ H { s with heap:=h',toks:=tk }:=I.turned (λb o hb e=>kk b o (by simpa using hb) e) f0 f1 f3 f4 f5;refine⟨_,rfl,k7 (s:={ s with heap:=h',toks:=tk }) (n:="range_iterator") st' rfl rfl (by decide) ⟨.int (lo+i),H,I1,⟨t,?_⟩,⟨rfl,rfl⟩,st',λb hb=>(hf b hb).1⟩⟩;rw[Int.mul_one]
 done:=by
  intro X hP hw hK hc i pins s σ H E I hf st hg;subst hP hw hK;obtain⟨f0,f1,f2,f3,f4,f5⟩:=hf it (by simp);exact wpAny_pyNext_range_end (I.ok.hd hc) st (by have:n<=i:=hg;omega) λh' eb=>⟨rfl,I.turned (t':=s.toks) (λb o hb e=>eb b o hb e) f0 f1 f3 f4 f5⟩
 self:=λ_ _ _ _ _ st h=>wpAny_pyIter_rangeiter st h
section
variable{X:Cx}{tg:Expr}
theorem X2{pins:List (Addr×Obj)}{σ:St}{H:Hp}{s:Shared}{R:It->Hp->Prop}{E:Value->Shared->Prop}{lo hi:Int}{t u v:Tok}{tk:Nat}(I:Inv X pins σ H s)(h1:-(2 ^ 62)<=lo)(h2:lo<2 ^ 62)(h3:-(2 ^ 62)<=hi)(h4:hi<2 ^ 62)
  (q:R (Itr lo (hi-lo).toNat) H):wpAny (model X.prog X.w) X.A (pyIter (.ref s.heap.objs.size)) (PIE X pins σ tg R) E { s with heap:=s.heap.push { cls:=.type "range",data:=.fields #[.int lo t,.int hi u,.int 1 v] },toks:=tk }:=by
 refine wpAny_pyIter_range (IsRange.new ..) (small_one h1 h2 h3 h4) ?_;have I1:Inv X pins σ H { s with heap:=s.heap.push { cls:=.type "range",data:=.fields #[.int lo t,.int hi u,.int 1 v] },toks:=tk }:=I.kept λb o e=>Heap.get?_push_of_some _ e;refine⟨(s.heap.push { cls:=.type "range",data:=.fields #[.int lo t,.int hi u,.int 1 v] }).objs.size,[(s.heap.push { cls:=.type "range",data:=.fields #[.int lo t,.int hi u,.int 1 v] }).objs.size],_,_,H,rfl,
  I1.kept (t':=tk) λb o e=>Heap.get?_push_of_some _ e,F8 _ lo (hi-lo).toNat,?_,λb hb=>?_,q⟩
 ·have e1:lo+((0:Nat):Int)*1=lo:=by simp
  have e2:(((hi-lo).toNat:Nat):Int)-((0:Nat):Int)=Builtin.Range.rangeSize lo hi 1:=by rw[rangeSize_one];split<;>omega
  show IsRangeIter _ _ (lo+((0:Nat):Int)*1) ((((hi-lo).toNat:Nat):Int)-((0:Nat):Int)) 1;rw[e1,e2];exact Heap.get?_push_size _ rfl
 ·have e:b=(s.heap.push { cls:=.type "range",data:=.fields #[.int lo t,.int hi u,.int 1 v] }).objs.size:=by simpa using hb
  subst e;exact I1.fpOk (Nat.le_refl _) (I1.hok.fresh (Nat.le_refl _))
noncomputable def qCv(ta:TA):TI:=λσ H R=>ta σ H λvs H1=>∃j:Int,vs=[.int j]/\-(2 ^ 62)<=j/\j<2 ^ 62/\R (Itr 0 j.toNat) H1
theorem pi_range1{a:Expr}{ta:TA}{p pos:Pos}(hg:Gl X "range")(hm:X.mg "range"=none)(ha:PA X [a] ta)(hs:starEach [a] X.env=[(false,eval a X.env)]:=by rfl):PI X tg (.Call (.Name "range" p) [a] [] pos) (qCv ta):=by
 intro pins s σ H R I h;refine Call_ (ld_blt I hg hm boot_range (PyProof.Rows.callWith_type1 (thn (ha pos pins s σ H _ I h) λus s1 ⟨vs,H1,I1,r1,q1⟩=>?_) hs rfl));obtain⟨j,e,q1,q2,q⟩:=q1;subst e;cases r1 with
 |cons r rr=>
  cases rr;obtain⟨t,rfl⟩:=r;exact call_range_1 (X2 I1 (by omega) (by omega) q1 q2 (by simpa using q))
noncomputable def qEK(wi:TI)(g:TG)(tb:TS):TS:=λD σ H=>wi σ H λJ H1=>∃W:Nat->Nat->St->Hp->Prop,(∃m,W 0 m σ H1)/\∀i m σ H,W i m σ H ->
 (J.stop i H/\D.nx σ H)\/(J.go i H/\∃N:St->Hp->Prop,(∀σ' H',N σ' H'->∃m',m'<m/\W (i+1) m' σ' H')/\∀x H',J.yld i H x H'->g x σ H' λσ2 H2=>tb { D with nx:=N,ct:=N,bk:=D.nx } σ2 H2)
noncomputable def ZT(fp:List Addr)(h:Heap):List (Addr×Obj):=fp.filterMap λb=>(h.get? b).map λo=>(b,o)
theorem zi{fp:List Addr}{h:Heap}{b:Addr}{o:Obj}(hb:b∈fp)(e:h.get? b=some o):(b,o)∈ZT fp h:=wp.mpr ⟨b,hb,by rw[e];rfl⟩
theorem Q3{fp:List Addr}{h:Heap}{p:Addr×Obj}(hp:p∈ZT fp h):p.1∈fp/\h.get? p.1=some p.2:=by
 obtain⟨b,hb,e⟩:=wp.mp hp;cases q:h.get? b with
 |none=>rw[q]at e;cases e
 |some o=>
  rw[q]at e;have e':(b,o)=p:=Option.some.inj e;subst e';exact⟨hb,q⟩
theorem Inv.pinned{pins:List (Addr×Obj)}{σ:St}{H:Hp}{s:Shared}{fp:List Addr}(I:Inv X pins σ H s)(hf:∀b∈fp,QR X pins H b)(ho:∀b∈fp,∃o,s.heap.get? b=some o/\∀v,o.data≠.cell v):Inv X (pins++ZT fp s.heap) σ H s:=
 I.pins_of λp hp=>(wD.mp hp).elim (λz=>I.pin p (wF _ z)) λz=>by
  obtain⟨hb,e⟩:=Q3 z;obtain⟨f0,f1,f2,_⟩:=hf p.1 hb;obtain⟨o,e',d⟩:=ho p.1 hb;rw[e]at e';cases e';exact⟨e,f0,f1,f2,d⟩
theorem Inv.unpinned{pins pl:List (Addr×Obj)}{σ:St}{H:Hp}{s:Shared}(I:Inv X (pins++pl) σ H s):Inv X pins σ H s:=I.pins_of λp hp=>I.pin p (wF _ (wE _ hp))
theorem ps_for{iter:Expr}{body:List Stmt}{wi:TI}{g:TG}{tb:TS}{pos:Pos}(hp:PassesOwn (model X.prog X.w) X.A X.env X.xe)(hc:X.calm=true)(hi:PI X tg iter wi)(hg:PG X tg g)(hb:PSs X body tb)
  (hs:∀x,foldedSetIterable iter X.env x=pure x:=by intro _;rfl):PS X (.For tg iter body [] pos) (qEK wi g tb):=by
 intro pins s σ H D I h;refine wpAny_For (thn (hi pins s σ H _ I h) λv s1 h1=>thn h1 λitv s2 h2=>?_) hs;obtain⟨it,fp,tn,J,H2,e,I2,T,st2,f2,W,⟨m0,w0⟩,qAL⟩:=h2;subst e;have stat:∀{H':Hp},(∀b∈fp,H' b=none)->∀b∈fp,QR X pins H' b:=λhn b hb=>⟨hn b hb,(f2 b hb).2⟩
 refine codeAny_forLoop_any (λn s'=>∃i σ' H',Inv X pins σ' H' s'/\tn i s'.heap/\(∀b∈fp,H' b=none)/\W i n σ' H') ?_ m0 ⟨0,σ,H2,I2,st2,λb hb=>(f2 b hb).1,w0⟩;rintro n s3 ⟨i,σ3,H3,I3,st3,fr3,w3⟩;rcases qAL i n σ3 H3 w3 with⟨stop,qn⟩|⟨go,N,hN,step⟩
 ·refine wpAny_passesOwn hp (thn (T.done X rfl rfl rfl hc i pins s3 σ3 H3 X.xe I3 (stat fr3) st3 stop) λr s4 ⟨hr,I4⟩=>?_);subst hr;exact wpAny_execs_nil ⟨σ3,H3,I4,qn⟩
 ·refine wpAny_passesOwn hp (thn (T.item X rfl rfl rfl hc i pins s3 σ3 H3 X.xe I3 (stat fr3) st3 go) λr s4 ⟨u,hr,h4⟩=>?_);subst hr;refine wpAny_passesOwn hp (thn h4 λ_ s5 ⟨x,H5,I5,r5,y5,st5,fr5⟩=>?_);have I5':=I5.pinned (stat fr5) (T.obj _ _ st5);refine wpAny_passesOwn hp (thn (hg _ s5 σ3 H5 x u _ I5' r5 (step x H5 y5)) λ_ s6 ⟨σ6,H6,I6,q6⟩=>?_);refine wpAny_passesOwn hp (thn (hb _ s6 σ6 H6 _ I6 q6) λf s7 q7=>?_);have again:∀{σ7:St}{H7:Hp},Inv X (pins++ZT fp s5.heap) σ7 H7 s7->N σ7 H7->∃m,m<n/\∃i σ' H',Inv X pins σ' H' s7/\tn i s7.heap/\(∀b∈fp,H' b=none)/\W i m σ' H':=λ{σ7 H7} I7 n7=>by
   obtain⟨m',hm,w7⟩:=hN σ7 H7 n7;refine⟨m',hm,i+1,σ7,H7,I7.unpinned,T.keep _ _ _ st5 λb hb o e=>(I7.pin (b,o) (wF _ (wF _ (zi hb e)))).1,λb hb=>?_,w7⟩;obtain⟨o,e,d⟩:=T.obj _ _ st5 b hb;exact(I7.pin (b,o) (wF _ (wF _ (zi hb e)))).2.1
  cases f with
  |next=>obtain⟨σ7,H7,I7,n7⟩:=q7;exact again I7 n7
  |cont=>obtain⟨σ7,H7,I7,n7⟩:=q7;exact again I7 n7
  |brk=>obtain⟨σ7,H7,I7,q7⟩:=q7;exact⟨σ7,H7,I7.unpinned,q7⟩
  |ret v=>obtain⟨x7,σ7,H7,I7,r7,q7⟩:=q7;exact⟨x7,σ7,H7,I7.unpinned,r7,q7⟩
end
noncomputable abbrev R2:=V->V->Hp->VK->Prop
def OpR(X:Cx)(f:Value->Value->Sem Value)(r:R2):Prop:=
 ∀(pins:List (Addr×Obj)) (s:Shared) (σ:St) (H:Hp) (x y:V) (v u:Value) (Q:VK),Inv X pins σ H s->RelV x v->RelV y u->r x y H Q ->
  wpAny (model X.prog X.w) X.A (f v u) (EP X pins σ Q) X.xe s
def UnR(X:Cx)(f:Value->Sem Value)(r:V->Hp->VK->Prop):Prop:=
 ∀(pins:List (Addr×Obj)) (s:Shared) (σ:St) (H:Hp) (x:V) (v:Value) (Q:VK),Inv X pins σ H s->RelV x v->r x H Q ->
  wpAny (model X.prog X.w) X.A (f v) (EP X pins σ Q) X.xe s
def qo(X:Cx)(f:Value)(r:List V->Hp->VK->Prop):Prop:=
 ∀(pins:List (Addr×Obj)) (s:Shared) (σ:St) (H:Hp) (xs:List V) (us:List Value) (Q:VK),Inv X pins σ H s->Vals xs us->r xs H Q ->
  wpAny (model X.prog X.w) X.A (call f us) (EP X pins σ Q) X.xe s
noncomputable def tOp(r:R2)(ta tb:TE):TE:=λσ H Q=>ta σ H λx H1=>tb σ H1 λy H2=>r x y H2 Q
noncomputable def tUn(r:V->Hp->VK->Prop)(ta:TE):TE:=λσ H Q=>ta σ H λx H1=>r x H1 Q
noncomputable def rI(C:Int->Int->Prop)(g:Int->Int->V):R2:=λx y H Q=>∃i j,x=.int i/\y=.int j/\C i j/\Q (g i j) H
noncomputable def rI0(g:Int->Int->V):R2:=λx y H Q=>∃i j,x=.int i/\y=.int j/\Q (g i j) H
def rU(g:Int->V):V->Hp->VK->Prop:=λx H Q=>∃i,x=.int i/\Q (g i) H
section
variable{X:Cx}{a b c:Expr}{ta tb tc:TE}{pos:Pos}
theorem qv(ha:PE X a ta)(hb:PE X b tb){pins:List (Addr×Obj)}{s:Shared}{σ:St}{H:Hp}{R:V->V->Hp->Prop}(I:Inv X pins σ H s)
  (h:ta σ H λx H1=>tb σ H1 λy H2=>R x y H2){Q:Value->Shared->Prop}{f:Value->Value->Sem Value}
  (hf:∀v u s2 x y H2,Inv X pins σ H2 s2->RelV x v->RelV y u->R x y H2->wpAny (model X.prog X.w) X.A (f v u) Q X.xe s2):
  wpAny (model X.prog X.w) X.A (eval a X.env) (λv s₁=>wpAny (model X.prog X.w) X.A (eval b X.env) (λu s₂=>wpAny (model X.prog X.w) X.A (f v u) Q X.xe s₂) X.xe s₁) X.xe s:=by
 refine thn (ha pins s σ H _ I h) λv s1 ⟨x,H1,I1,r1,q1⟩=>?_;refine thn (hb pins s1 σ H1 _ I1 q1) λu s2 ⟨y,H2,I2,r2,q2⟩=>?_;exact hf v u s2 x y H2 I2 r1 r2 q2
theorem pe_op{op:Operator}{r:R2}(ho:OpR X (binaryOp op) r)(ha:PE X a ta)(hb:PE X b tb):PE X (.BinOp a op b pos) (tOp r ta tb):=by
 intro pins s σ H Q I h;exact wpAny_BinOp (qv ha hb I h λv u s2 x y H2 I2 rx ry q=>ho pins s2 σ H2 x y v u Q I2 rx ry q)
theorem pe_un{op:UnaryOp}{r:V->Hp->VK->Prop}(ho:UnR X (unaryOp op) r)(ha:PE X a ta):PE X (.UnaryOp op a pos) (tUn r ta):=by
 intro pins s σ H Q I h;exact UnaryOp_ (thn (ha pins s σ H _ I h) λv s1 ⟨x,H1,I1,r1,q1⟩=>ho pins s1 σ H1 x v Q I1 r1 q1)
theorem opI{f:Value->Value->Sem Value}{C:Int->Int->Prop}{g:Int->Int->Int}
  (rule:∀(i j:Int) (t u:Tok) (s:Shared) (Q:Value->Shared->Prop) (E:Value->Shared->Prop),C i j->Q (.int (g i j) s.toks) { s with toks:=s.toks+1 }->wpAny (model X.prog X.w) X.A (f (.int i t) (.int j u)) Q E s):
  OpR X f (rI C λi j=>.int (g i j)):=by
 intro pins s σ H x y v u Q I rx ry h;obtain⟨i,j,rfl,rfl,hc,q⟩:=h;obtain⟨t,rfl⟩:=rx;obtain⟨t',rfl⟩:=ry;exact rule i j t t' s _ _ hc ⟨.int (g i j),H,I.tok _,⟨_,rfl⟩,q⟩
theorem qC0{f:Value->Value->Sem Value}{g:Int->Int->Int}
  (rule:∀(i j:Int) (t u:Tok) (s:Shared) (Q:Value->Shared->Prop) (E:Value->Shared->Prop),Q (.int (g i j) s.toks) { s with toks:=s.toks+1 }->wpAny (model X.prog X.w) X.A (f (.int i t) (.int j u)) Q E s):
  OpR X f (rI0 λi j=>.int (g i j)):=by
 intro pins s σ H x y v u Q I rx ry h;obtain⟨i,j,rfl,rfl,q⟩:=h;obtain⟨t,rfl⟩:=rx;obtain⟨t',rfl⟩:=ry;exact rule i j t t' s _ _ ⟨.int (g i j),H,I.tok _,⟨_,rfl⟩,q⟩
theorem qB0{f:Value->Value->Sem Value}{g:Int->Int->Bool}
  (rule:∀(i j:Int) (t u:Tok) (s:Shared) (Q:Value->Shared->Prop) (E:Value->Shared->Prop),Q (.bool (g i j)) s->wpAny (model X.prog X.w) X.A (f (.int i t) (.int j u)) Q E s):
  OpR X f (rI0 λi j=>.bl (g i j)):=by
 intro pins s σ H x y v u Q I rx ry h;obtain⟨i,j,rfl,rfl,q⟩:=h;obtain⟨t,rfl⟩:=rx;obtain⟨t',rfl⟩:=ry;exact rule i j t t' s _ _ ⟨.bl (g i j),H,I,rfl,q⟩
def CDiv(i j:Int):Prop:=0<j/\j<1073741824
def CPow(i j:Int):Prop:=0<=j/\j<=1000000/\i.natAbs<2 ^ 64
def CMul(i j:Int):Prop:=(-(2 ^ 64)<i/\i<2 ^ 64)\/(-(2 ^ 64)<j/\j<2 ^ 64)
theorem CMul.ok{i j:Int}(h:CMul i j):IntMulOk i j:=by
 rcases h with⟨h1,h2⟩|⟨h1,h2⟩
 ·exact .of_left (intBits_le_64 h1 h2)
 ·exact .of_right (intBits_le_64 h1 h2)
theorem op_add:OpR X (binaryOp .Add) (rI0 λi j=>.int (i+j)):=qC0 λ_ _ _ _ _ _ _ q=>add_int q
theorem op_sub:OpR X (binaryOp .Sub) (rI0 λi j=>.int (i-j)):=qC0 λ_ _ _ _ _ _ _ q=>sub_int q
theorem op_mul:OpR X (binaryOp .Mult) (rI CMul λi j=>.int (i*j)):=opI λ_ _ _ _ _ _ _ hc q=>mul_int q hc.ok
theorem op_fdiv:OpR X (binaryOp .FloorDiv) (rI CDiv λi j=>.int (i / j)):=opI λi j _ _ _ _ _ hc q=>by
 have h1:(0:Int)<j:=hc.1;have h2:j<1073741824:=hc.2;exact floordiv_int (by omega) (by rw[Int.fdiv_eq_ediv_of_nonneg i (by omega)];exact q) (.inl (PyProof.noPylong_small (by omega)))
theorem op_mod:OpR X (binaryOp .Mod) (rI (λ_ j=>0<j) λi j=>.int (i % j)):=opI λi j _ _ _ _ _ hc q=>by
 have h1:(0:Int)<j:=hc;exact mod_int' (by omega) (by rw[Int.fmod_eq_emod_of_nonneg i (by omega)];exact q)
theorem op_modN:OpR X (binaryOp .Mod) (rI (λ_ j=>j≠0) λi j=>.int (i.fmod j)):=opI λ_ _ _ _ _ _ _ hc q=>mod_int' hc q
theorem op_pow:OpR X (binaryOp .Pow) (rI CPow λi j=>.int (i ^ j.toNat)):=opI λ_ _ _ _ _ _ _ hc q=>pow_int_small hc.1 hc.2.1 hc.2.2 q
theorem op_shl:OpR X (binaryOp .LShift) (rI CPow λi j=>.int (i*2 ^ j.toNat)):=opI λ_ _ _ _ _ _ _ hc q=>lshift_int_small hc.1 hc.2.1 hc.2.2 q
theorem unI{f:Value->Sem Value}{g:Int->Int}
  (rule:∀(i:Int) (t:Tok) (s:Shared) (Q:Value->Shared->Prop) (E:Value->Shared->Prop),Q (.int (g i) s.toks) { s with toks:=s.toks+1 }->wpAny (model X.prog X.w) X.A (f (.int i t)) Q E s):
  UnR X f (rU λi=>.int (g i)):=by
 intro pins s σ H x v Q I rx h;obtain⟨i,rfl,q⟩:=h;obtain⟨t,rfl⟩:=rx;exact rule i t s _ _ ⟨.int (g i),H,I.tok _,⟨_,rfl⟩,q⟩
theorem un_neg:UnR X (unaryOp .USub) (rU λi=>.int (-i)):=unI λ_ _ _ _ _ q=>neg_int q
end
section
variable{X:Cx}{a b c:Expr}{ta tb tc:TE}{pos:Pos}
theorem X5{pins:List (Addr×Obj)}{σ:St}{H:Hp}{s:Shared}{Q:VK}{k k':Bool}(I:Inv X pins σ H s)(q:Q (.bl k) H)(e:k=k'):EP X pins σ Q (.bool k') s:=by
 subst e;exact⟨.bl k,H,I,rfl,q⟩
theorem op_lt:OpR X (compareOp .Lt) (rI0 λi j=>.bl (decide (i<j))):=qB0 λ_ _ _ _ _ _ _ q=>lt_int q
theorem op_le:OpR X (compareOp .LtE) (rI0 λi j=>.bl (decide (i<=j))):=qB0 λ_ _ _ _ _ _ _ q=>le_int q
theorem op_gt:OpR X (compareOp .Gt) (rI0 λi j=>.bl (decide (j<i))):=qB0 λ_ _ _ _ _ _ _ q=>gt_int q
theorem op_ge:OpR X (compareOp .GtE) (rI0 λi j=>.bl (decide (j<=i))):=qB0 λ_ _ _ _ _ _ _ q=>ge_int q
theorem op_isN:OpR X (compareOp .Is) (λx y H Q=>y=.non/\Q (.bl (decide (x=.non))) H):=by
 intro pins s σ H x y v u Q I rx ry h;obtain⟨rfl,q⟩:=h;cases ry;refine is_none_gen (X5 I q ?_);cases x<;>first
  | (cases rx;rfl)
  | (obtain⟨t,rfl⟩:=rx;rfl)
theorem op_notN:OpR X (compareOp .IsNot) (λx y H Q=>y=.non/\Q (.bl (!decide (x=.non))) H):=by
 intro pins s σ H x y v u Q I rx ry h;obtain⟨rfl,q⟩:=h;cases ry;refine isnot_none_gen (X5 I q ?_);cases x<;>first
  | (cases rx;rfl)
  | (obtain⟨t,rfl⟩:=rx;rfl)
theorem OpR.or{f:Value->Value->Sem Value}{r r':R2}(h:OpR X f r)(h':OpR X f r'):OpR X f (λx y H Q=>r x y H Q\/r' x y H Q):=by
 intro pins s σ H x y v u Q I rx ry q;rcases q with q|q
 ·exact h pins s σ H x y v u Q I rx ry q
 ·exact h' pins s σ H x y v u Q I rx ry q
theorem pe_cmpR{op:CmpOp}{r:R2}(ho:OpR X (compareOp op) r)(ha:PE X a ta)(hb:PE X b tb)(hm:behindInMarks op b=false):PE X (.Compare a [op] [b] pos) (tOp r ta tb):=by
 intro pins s σ H Q I h;exact wpAny_Compare1 (qv ha hb I h λv u s2 x y H2 I2 rx ry q=>ho pins s2 σ H2 x y v u Q I2 rx ry q) hm
noncomputable def qAR(t:TE):TT:=λσ H Q=>t σ H λx H'=>∃k,x=.bl k/\Q k H'
theorem pt_cmpR{op:CmpOp}{r:R2}(ho:OpR X (compareOp op) r)(ha:PE X a ta)(hb:PE X b tb)(hm:behindInMarks op b=false):PT X (.Compare a [op] [b] pos) (qAR (tOp r ta tb)):=by
 intro pins s σ H Q I h;refine wpAny_isTrue_Compare1 (thn (ha pins s σ H _ I h) λv s1 ⟨x,H1,I1,r1,q1⟩=>thn (hb pins s1 σ H1 _ I1 q1) λu s2 ⟨y,H2,I2,r2,q2⟩=>
  thn (ho pins s2 σ H2 x y v u _ I2 r1 r2 q2) λc s3 ⟨z,H3,I3,r3,k,e,q3⟩=>?_) hm
 subst e;cases r3;exact vC ⟨H3,I3,q3⟩
noncomputable def tChain(r r':R2)(ta tb tc:TE):TE:=λσ H Q=>ta σ H λx H1=>tb σ H1 λy H2=>r x y H2 λz H3=>∃k,z=.bl k/\
 (if k=true then tc σ H3 λw' H4=>r' y w' H4 Q else Q (.bl false) H3)
theorem pe_chain{op op':CmpOp}{r r':R2}(ho:OpR X (compareOp op) r)(ho':OpR X (compareOp op') r')(ha:PE X a ta)(hb:PE X b tb)(hc:PE X c tc)
  (hm:lastMarks [op,op'] [b,c]=false:=by with_unfolding_all rfl):PE X (.Compare a [op,op'] [b,c] pos) (tChain r r' ta tb tc):=by
 intro pins s σ H Q I h;refine Compare_chain (thn (ha pins s σ H _ I h) λv s1 ⟨x,H1,I1,r1,q1⟩=>chain_link (thn (hb pins s1 σ H1 _ I1 q1) λu s2 ⟨y,H2,I2,r2,q2⟩=>
  thn (ho pins s2 σ H2 x y v u _ I2 r1 r2 q2) λd s3 ⟨z,H3,I3,r3,k,e,q3⟩=>?_)) hm
 subst e;cases r3;refine vC ?_;cases k with
 |false=>exact ite_ff ⟨.bl false,H3,I3,rfl,q3⟩
 |true=>exact ite_tt (chain_last (thn (hc pins s3 σ H3 _ I3 q3) λw' s4 ⟨z',H4,I4,r4,q4⟩=>ho' pins s4 σ H4 y z' u w' Q I4 r2 r4 q4))
theorem pt_chain{op op':CmpOp}{r r':R2}(ho:OpR X (compareOp op) r)(ho':OpR X (compareOp op') r')(ha:PE X a ta)(hb:PE X b tb)(hc:PE X c tc)
  (hm:lastMarks [op,op'] [b,c]=false:=by with_unfolding_all rfl):PT X (.Compare a [op,op'] [b,c] pos) (qAR (tChain r r' ta tb tc)):=by
 intro pins s σ H Q I h;refine isTrue_chain (thn (ha pins s σ H _ I h) λv s1 ⟨x,H1,I1,r1,q1⟩=>test_link (thn (hb pins s1 σ H1 _ I1 q1) λu s2 ⟨y,H2,I2,r2,q2⟩=>
  thn (ho pins s2 σ H2 x y v u _ I2 r1 r2 q2) λd s3 ⟨z,H3,I3,r3,k,e,q3⟩=>?_)) hm
 subst e;cases r3;refine vC ?_;cases k with
 |false=>
  obtain⟨k',e',q'⟩:=q3;cases e';exact ite_ff ⟨H3,I3,q'⟩
 |true=>
  refine ite_tt (test_last (thn (hc pins s3 σ H3 _ I3 q3) λw' s4 ⟨z',H4,I4,r4,q4⟩=>thn (ho' pins s4 σ H4 y z' u w' _ I4 r2 r4 q4) λd' s5 ⟨z2,H5,I5,r5,k2,e2,q5⟩=>?_));subst e2;cases r5;exact vC ⟨H5,I5,q5⟩
theorem B6:(sizeLine:Nat)<2 ^ 63:=by rw[sizeLine_eq];decide
theorem vals1{x:V}{us:List Value}(r:Vals [x] us):∃u,us=[u]/\RelV x u:=by
 cases r with
 |cons r1 r2=>cases r2;exact⟨_,rfl,r1⟩
theorem vals2{x y:V}{us:List Value}(r:Vals [x,y] us):∃u w',us=[u,w']/\RelV x u/\RelV y w':=by
 cases r with
 |cons r1 r2=>
  cases r2 with
  |cons r3 r4=>cases r4;exact⟨_,_,rfl,r1,r3⟩
theorem call_max2(hc:X.calm=true):qo X (.builtin "max") (λxs H Q=>∃i j,xs=[.int i,.int j]/\Q (.int (if j>i then j else i)) H):=by
 intro pins s σ H xs us Q I r h;obtain⟨i,j,rfl,q⟩:=h;obtain⟨u,w',rfl,⟨t,rfl⟩,⟨t',rfl⟩⟩:=vals2 r;refine max_two_ints (I.ok.hd hc) λh' tk k=>⟨_,H,I.kept k,?_,q⟩
 by_cases hj:j>i
 ·rw[if_pos hj,if_pos hj];exact⟨_,rfl⟩
 ·rw[if_neg hj,if_neg hj];exact⟨_,rfl⟩
theorem call_min2(hc:X.calm=true):qo X (.builtin "min") (λxs H Q=>∃i j,xs=[.int i,.int j]/\Q (.int (if j<i then j else i)) H):=by
 intro pins s σ H xs us Q I r h;obtain⟨i,j,rfl,q⟩:=h;obtain⟨u,w',rfl,⟨t,rfl⟩,⟨t',rfl⟩⟩:=vals2 r;refine min_two_ints (I.ok.hd hc) λh' tk k=>⟨_,H,I.kept k,?_,q⟩
 by_cases hj:j<i
 ·rw[if_pos hj,if_pos hj];exact⟨_,rfl⟩
 ·rw[if_neg hj,if_neg hj];exact⟨_,rfl⟩
theorem call_int1:qo X (.type "int") (λxs H Q=>(∃i,xs=[.int i]/\Q (.int i) H)\/∃k,xs=[.bl k]/\Q (.int (if k then 1 else 0)) H):=by
 intro pins s σ H xs us Q I r h;rcases h with⟨i,rfl,q⟩|⟨k,rfl,q⟩
 ·obtain⟨u,rfl,t,rfl⟩:=vals1 r;exact call_int_int ⟨.int i,H,I,⟨_,rfl⟩,q⟩
 ·obtain⟨u,rfl,r1⟩:=vals1 r;cases r1;exact call_int_bool ⟨.int (if k then 1 else 0),H,I.tok _,⟨_,rfl⟩,q⟩
end
structure Room(k:Nat)(A:Around):Prop where
 hd:A.handled=none
 dp:A.depth+3*k+5<recursionLimit
 un:A.units+16*k+200<cLine
 gd:A.guards=some []
theorem Room.mono{j k:Nat}{A:Around}(r:Room k A)(h:j<=k):Room j A:=⟨r.hd,by have:=r.dp;omega,by have:=r.un;omega,r.gd⟩
theorem Room.deeper{k:Nat}{A:Around}(r:Room (k+1) A)(env:Env):Room k (A.deeper env):=
 ⟨r.hd,by have:=r.dp;show A.depth+1+3*k+5<_;omega,by have:=r.un;show A.units+3+16*k+200<_;omega,r.gd⟩
theorem Room.in1{k:Nat}{A:Around}(r:Room (k+1) A):Room k A.in1:=
 ⟨r.hd,by have:=r.dp;show A.depth+3*k+5<_;omega,by have:=r.un;show A.units+1+16*k+200<_;omega,r.gd⟩
theorem Room.depth{k:Nat}{A:Around}(r:Room k A):A.depth<recursionLimit:=by have:=r.dp;omega
theorem Room.units{k:Nat}{A:Around}(r:Room k A):A.units+64<cLine:=by have:=r.un;omega
noncomputable def qC5:TA:=λ_ H Q=>Q [] H
noncomputable def qCp(ta:TE)(tr:TA):TA:=λσ H Q=>ta σ H λx H1=>tr σ H1 λxs H2=>Q (x::xs) H2
section
variable{X:Cx}{e:Expr}{es:List Expr}{te:TE}{t:TA}{pos:Pos}
theorem pa_nil:PA X [] qC5:=λ_ _ _ _ H Q I h=>Calls.spliced_nil ⟨[],H,I,.nil,h⟩
theorem pa_cons(ha:PE X e te)(hr:PA X es t)(hs:starEach (e::es) X.env=(false,eval e X.env)::starEach es X.env:=by rfl):PA X (e::es) (qCp te t):=by
 intro pos pins s σ H Q I h;rw[hs];show wpAny _ _ (spliced ((false,eval e X.env)::backTo pos (starEach es X.env))) _ _ s;refine Calls.spliced_cons (thn (ha pins s σ H _ I h) λu s1 ⟨x,H1,I1,r1,q1⟩=>?_);exact thn (hr pos pins s1 σ H1 _ I1 q1) λus s2 ⟨xs,H2,I2,r2,q2⟩=>⟨x::xs,H2,I2,.cons r1 r2,q2⟩
noncomputable def qEq(t:TA):TE:=λσ H Q=>t σ H λxs H1=>xs.length<=sizeLine/\∀p,H1 p=none->Q (.ref p) (upd H1 p (.tup xs))
noncomputable def qEZ(t:TA):TE:=λσ H Q=>t σ H λxs H1=>xs.length<=sizeLine/\∀p,H1 p=none->Q (.ref p) (upd H1 p (.lst xs))
theorem pe_tup {x1}(h:PA X es t):PE X (.Tuple es x1 pos) (qEq t):=by
 intro pins s σ H Q I hq;refine wpAny_Tuple_spliced (thn (h pos pins s σ H _ I hq) λus s1 ⟨xs,H1,I1,r,z,q⟩=>⟨by rw[<-r.length];exact z,?_⟩);have hf:H1 s1.heap.objs.size=none:=I1.hok.fresh (Nat.le_refl _);refine⟨.ref s1.heap.objs.size,upd H1 s1.heap.objs.size (.tup xs),I1.laid (t':=s1.toks) (λb u e=>Heap.get?_push_of_some _ e) (Nat.le_refl _) ?_,rfl,q _ hf⟩;exact⟨z,us,r,⟨_,Heap.get?_push_size _ rfl,rfl,_,rfl⟩⟩
theorem pe_lst(h:PA X es t):PE X (.List es pos) (qEZ t):=by
 intro pins s σ H Q I hq;refine wpAny_List_spliced (thn (h pos pins s σ H _ I hq) λus s1 ⟨xs,H1,I1,r,z,q⟩=>⟨by rw[<-r.length];exact z,?_⟩);have hf:H1 s1.heap.objs.size=none:=I1.hok.fresh (Nat.le_refl _);refine⟨.ref s1.heap.objs.size,upd H1 s1.heap.objs.size (.lst xs),I1.laid (t':=s1.toks) (λb u e=>Heap.get?_push_of_some _ e) (Nat.le_refl _) ?_,rfl,q _ hf⟩;exact⟨z,us,0,r,Heap.get?_push_size _ rfl⟩
end
noncomputable abbrev Sp:=List V->Hp->VK->XK->Prop
noncomputable abbrev CXT:=List Env->Hp->Shared->XK->Value->Shared->Prop
structure Env0(P:Program)(w:World)(K:PySem.W.Frag)(mg:Str->Option Value)(base:Heap)(A:Around)(outer:List Env)(s:Shared)(H:Hp):Prop where
 frames:A.frames=some outer
 mod:Mod K mg base
 bs:∀b o,base.get? b=some o->s.heap.get? b=some o/\H b=none
 bsz:base.objs.size<=s.heap.objs.size
 funs:s.heap.FunFrames base outer
 frf:∀b∈frs outer,H b=none
 hok:HOk P w H s.heap
 bare:AllBare s.gens
def CE(outer:List Env)(P:Program)(w:World)(H:Hp)(s:Shared)(Q:VK)(u:Value)(s':Shared):Prop:=
 ∃v H',s'.os=s.os/\AllBare s'.gens/\Un (frs outer) [] H H' s.heap s'.heap/\HOk P w H' s'.heap/\RelV v u/\Q v H'
def CR(CX:CXT)(outer:List Env)(P:Program)(w:World)(H:Hp)(s:Shared)(Q:VK)(E:XK)(r:Result)(s':Shared):Prop:=
 match r with
 | .ok (.ret u)=>CE outer P w H s Q u s'
 | .ok _=>False
 | .error e=>CX outer H s E e s'
structure FnOk(P:Program)(w:World)(K:PySem.W.Frag)(mg:Str->Option Value)(base:Heap)(CX:CXT)(k:Nat)(f:Addr)(fd:FuncData)(ps:List Str)(sp:Sp):Prop where
 len:∀vs H Q E,sp vs H Q E->vs.length=ps.length
 run:∀(A:Around) (outer:List Env) (s:Shared) (H:Hp) (args:Args) (us:List Value) (vs:List V) (Q:VK) (E:XK),Room k A->Env0 P w K mg base A outer s H->BindsTo s fd args (ps.zip us)->Vals vs us->sp vs H Q E ->
  codeAny (model P w) A (.call (.ref f) args) (CR CX outer P w H s Q E) s
theorem Env0.in1{P:Program}{w:World}{K:PySem.W.Frag}{mg:Str->Option Value}{base:Heap}{A:Around}{outer:List Env}{s:Shared}{H:Hp}(e:Env0 P w K mg base A outer s H):
  Env0 P w K mg base A.in1 outer s H:=⟨e.frames,e.mod,e.bs,e.bsz,e.funs,e.frf,e.hok,e.bare⟩
section
variable{X:Cx}{pins:List (Addr×Obj)}{σ:St}{H:Hp}{s s':Shared}
theorem Inv.env0(I:Inv X pins σ H s):Env0 X.prog X.w X.K X.mg X.base X.A X.stack s H:=
 ⟨I.ok.frames,I.ok.mod,I.bs,Nat.le_trans I.ok.bsz I.sz,I.stack,I.stkFree,I.hok,I.bare⟩
theorem Inv.after{Q:VK}{u:Value}(I:Inv X pins σ H s)(h:CE X.stack X.prog X.w H s Q u s'):EP X pins σ Q u s':=by
 obtain⟨v,H',os,bare,un,hok,r,q⟩:=h;obtain⟨hh,g,d,t,os'⟩:=s';obtain rfl:os'=s.os:=os;exact⟨v,H',I.call (h':=hh) (g':=g) (d':=d) (t':=t) (ch:=[]) un hok bare (λb z=>absurd z (by simp)),r,q⟩
end
noncomputable def tCall(sp:Sp)(dvs:List V)(E:XK)(t:TA):TE:=λσ H Q=>t σ H λvs H1=>sp (vs++dvs) H1 Q E
def Binds(K:PySem.W.Frag)(fd:FuncData)(ps:List Str)(ds:List Value):Prop:=
 ∀(s:Shared) (us:List Value),K.In s.heap->(us++ds).length=ps.length->BindsTo s fd ⟨us,[]⟩ (ps.zip (us++ds))
theorem Binds.all{K:PySem.W.Frag}{fd:FuncData}{ps:List Str}(h:∀us:List Value,us.length=ps.length->bindArgs fd ⟨us,[]⟩=pure (ps.zip us)):Binds K fd ps []:=λs us _ hl=>by
 rw[List.append_nil]at hl ⊢;exact .of_eq (h us hl)
def A0(CX:CXT)(X:Cx)(E:XK):Prop:=∀(pins:List (Addr×Obj)) (σ:St) (H:Hp) (s:Shared) (e:Value) (s':Shared),Inv X pins σ H s->CX X.stack H s E e s'->X.xe e s'
section
variable{X:Cx}{CX:CXT}{k:Nat}{f C:Addr}{fd:FuncData}{ps:List Str}{sp:Sp}{dvs:List V}{ds:List Value}{E:XK}{x m:Str}{p pos apos:Pos}{e o:Expr}{es:List Expr}{ta:TE}{t:TA}
theorem Y6{pins:List (Addr×Obj)}{σ:St}{H:Hp}{s:Shared}{Q:VK}{us:List Value}{vs:List V}(F:FnOk X.prog X.w X.K X.mg X.base CX k f fd ps sp)(hr:Room k X.A)(hb:Binds X.K fd ps ds)(hd:Vals dvs ds)(hx:A0 CX X E)
  (I:Inv X pins σ H s) (r:Vals vs us) (h:sp (vs++dvs) H Q E):wpAny (model X.prog X.w) X.A (call (.ref f) us) (EP X pins σ Q) X.xe s:=by
 have r2:Vals (vs++dvs) (us++ds):=r.append hd;have hl:(us++ds).length=ps.length:=by rw[<-r2.length];exact F.len _ _ _ _ h
 refine wpAny_call (codeAny_mono (F.run X.A X.stack s H ⟨us,[]⟩ (us++ds) (vs++dvs) Q E hr I.env0 (hb s us I.kIn hl) r2 h) λr s' hq=>?_);cases r with
 |error e=>exact hx pins σ H s e s' I hq
 |ok fl=>
  cases fl with
  |ret u=>exact I.after hq
  |next=>exact False.elim hq
  |brk=>exact False.elim hq
  |cont=>exact False.elim hq
theorem pe_call(F:FnOk X.prog X.w X.K X.mg X.base CX k f fd ps sp)(hr:Room k X.A)(hg:Gl X x)(hm:X.mg x=some (.ref f))(hk:PySem.W.keepIn X.K (.ref f)=true)(hb:Binds X.K fd ps ds)(hd:Vals dvs ds)(hx:A0 CX X E)
  (ha:PA X (e::es) t) (hdb:(x==("__debug__":Str))=false:=by decide) (he:starEach (e::es) X.env=(false,eval e X.env)::starEach es X.env:=by rfl) (hpl:(backTo pos (starEach es X.env)).any (·.1)=false:=by rfl):
  PE X (.Call (.Name x p) (e::es) [] pos) (tCall sp dvs E t):=by
 intro pins s σ H Q I h;refine wpAny_Call_Name_kw (ld_glob I hg hm ?_ hdb);refine PySem.W.callWith_K (h₀:=X.base) I.ok.mod.kin hk (thn (ha pos pins s σ H _ I h) λus s1 ⟨vs,H1,I1,r,q⟩=>⟨I1.kIn,?_⟩) he hpl;exact Y6 F hr hb hd hx I1 r q
theorem pe_call0(F:FnOk X.prog X.w X.K X.mg X.base CX k f fd ps sp)(hr:Room k X.A)(hg:Gl X x)(hm:X.mg x=some (.ref f))(hk:PySem.W.keepIn X.K (.ref f)=true)(hb:Binds X.K fd ps ds)(hd:Vals dvs ds)(hx:A0 CX X E)
  (hdb:(x==("__debug__":Str))=false:=by decide):PE X (.Call (.Name x p) [] [] pos) (tCall sp dvs E qC5):=by
 intro pins s σ H Q I h;refine wpAny_Call_Name_kw (ld_glob I hg hm ?_ hdb);exact PySem.W.callWith_K0 I.kIn hk (Y6 (us:=[]) F hr hb hd hx I .nil h)
end
structure zE(N P:List Str)(sc:Scope):Prop where
 kind:sc.kind=.function
 co:sc.isCoroutine=false
 gen:sc.isGenerator=false
 nd:N.Nodup
 pre:N.take P.length=P
 par:∀x∈P,sc.names.lookup x=some .local\/sc.names.lookup x=some .cell
 nofree:∀y∈sc.names,y.2≠.free
theorem Zi{kindOf:Str->Option NameKind}{x:Str}:∀{binds:List (Str×Value)}{m:Str->Option Value},(∀v,(x,v)∉binds)->bindL kindOf binds m x=m x
 | [],_,_=>rfl
 | (n,v)::r,m,h=>by
  unfold bindL;rw[Zi λw hw=>h w (List.mem_cons_of_mem _ hw)];split
  ·have:x≠n:=by rintro rfl;exact h v List.mem_cons_self
   simp[this]
  ·rfl
theorem Zk{kindOf:Str->Option NameKind}{x:Str}:∀{binds:List (Str×Value)}{m:Str->Option Value},(∀v,(x,v)∉binds)->bindC kindOf binds m x=m x
 | [],_,_=>rfl
 | (n,v)::r,m,h=>by
  unfold bindC;rw[Zk λw hw=>h w (List.mem_cons_of_mem _ hw)];split
  ·rfl
  ·have:x≠n:=by rintro rfl;exact h v List.mem_cons_self
   simp[this]
theorem ZY{kindOf:Str->Option NameKind}{x:Str}{v:Value}:∀{P:List Str}{vs:List Value}{i:Nat}{m:Str->Option Value},P.Nodup->P[i]?=some x->vs[i]?=some v->kindOf x=some .local ->
  bindL kindOf (P.zip vs) m x=some v
 | [],_,_,_,_,h,_,_=>by simp at h
 |_::_,[],_,_,_,_,h,_=>by simp at h
 |p::P,w::vs,0,m,nd,h1,h2,hk=>by
  simp at h1 h2;subst h1;subst h2;show bindL kindOf ((p,w)::P.zip vs) m p=_;unfold bindL;rw[Zi λv hv=>(List.nodup_cons.mp nd).1 (wt hv).1,if_pos hk];simp
 |p::P,w::vs,i+1,m,nd,h1,h2,hk=>by
  show bindL kindOf ((p,w)::P.zip vs) m x=_;unfold bindL;exact ZY (i:=i) (List.nodup_cons.mp nd).2 (by simpa using h1) (by simpa using h2) hk
theorem Zn{kindOf:Str->Option NameKind}{x:Str}{v:Value}:∀{P:List Str}{vs:List Value}{i:Nat}{m:Str->Option Value},P.Nodup->P[i]?=some x->vs[i]?=some v->kindOf x≠some .local ->
  bindC kindOf (P.zip vs) m x=some v
 | [],_,_,_,_,h,_,_=>by simp at h
 |_::_,[],_,_,_,_,h,_=>by simp at h
 |p::P,w::vs,0,m,nd,h1,h2,hk=>by
  simp at h1 h2;subst h1;subst h2;show bindC kindOf ((p,w)::P.zip vs) m p=_;unfold bindC;rw[Zk λv hv=>(List.nodup_cons.mp nd).1 (wt hv).1,if_neg hk];simp
 |p::P,w::vs,i+1,m,nd,h1,h2,hk=>by
  show bindC kindOf ((p,w)::P.zip vs) m x=_;unfold bindC;exact Zn (i:=i) (List.nodup_cons.mp nd).2 (by simpa using h1) (by simpa using h2) hk
noncomputable def start(N:List Str)(vs:List V):St:=vs.map some++List.replicate (N.length-vs.length) none
noncomputable def cxOf(CX:CXT)(P:Program)(w:World)(K:PySem.W.Frag)(mg:Str->Option Value)(base:Heap)(N:List Str)(qual:Str)(scope:Scope)(f:Addr)(cd:Value)(A:Around)(outer:List Env)(s:Shared)(H:Hp)(E:XK):Cx where
 prog:=P
 w:=w
 K:=K
 mg:=mg
 base:=base
 A:=A.deeper (envOfC qual scope s.heap.objs.size f cd)
 N:=N
 s₀:=s
 H₀:=H
 env:=envOfC qual scope s.heap.objs.size f cd
 outer:=outer
 stack:=envOfC qual scope s.heap.objs.size f cd::outer
 ex:=[]
 calm:=true
 fn:=λ_=>true
 pn:=[]
 xe:=λe s'=>wpAny (model P w) (A.deeper (envOfC qual scope s.heap.objs.size f cd)) (leaving (envOfC qual scope s.heap.objs.size f cd) e) (λ_ s''=>CX outer H s E e s'') (λe' s''=>CX outer H s E e' s'') s'
theorem Jh{sc:Scope}{n:Nat}{x:Str}(h:sc.names.lookup x=some .cell):∃c,(cellsFrom n sc.names []).lookup x=some c:=by
 have q:=PySem.W.cellsFrom_some sc.names n [] (.inl h);exact Option.isSome_iff_exists.mp q
theorem P3{CX:CXT}{P:Program}{w:World}{K:PySem.W.Frag}{mg:Str->Option Value}{base:Heap}{N ps:List Str}{qual:Str}{scope:Scope}{f:Addr}{cd:Value}{A:Around}{outer:List Env}{s s1:Shared}{H:Hp}{E:XK}{us:List Value}{vs:List V}
  (S:zE N ps scope) (hd:A.handled=none) (e0:Env0 P w K mg base A outer s H) (hl:vs.length=ps.length) (r:Vals vs us)
  (x:InCallC s s.heap.objs.size (bindL (envOfC qual scope s.heap.objs.size f cd).kindOf (ps.zip us) λ_=>none) (cellsFrom (s.heap.objs.size+1) scope.names []) (bindC (envOfC qual scope s.heap.objs.size f cd).kindOf (ps.zip us) λ_=>none) s1):
  Inv (cxOf CX P w K mg base N qual scope f cd A outer s H E) [] (start N vs) H s1:=by
 have hpl:ps.length<=N.length:=by have:=congrArg List.length S.pre;rw[wS]at this;omega
 obtain⟨h1,tk,rfl,hk⟩:=x.done;have noA:∀b:Addr,b∉(cxOf CX P w K mg base N qual scope f cd A outer s H E).ex:=λb z=>absurd (show b∈([]:List Addr) from z) (by simp);refine⟨⟨e0.mod,S.kind,rfl,rfl,Nat.le_refl _,λy z c h1 h2=>?_,λy hy=>?_,λy c _ h=>?_,λ_=>hd,Around.frames_deeper e0.frames,.inr ⟨rfl,rfl⟩,λb z=>absurd z (noA b),e0.bs,e0.bsz,λb _ _=>noA b,λb z=>absurd z (noA b),e0.funs,e0.frf⟩,
  rfl,e0.bare,Un.kept hk,⟨_,x.toInCall.ns,λi y v h1 h2 h3=>?_⟩,λy c h=>⟨_,x.cell y c h⟩,e0.hok.fresh (Nat.le_refl _),λy c h=>?_,λp hp=>absurd (show p∈([]:List (Addr×Obj)) from hp) (by simp),e0.hok.kept hk,?_⟩
 ·exact name_of_addr x.apart (PySem.mem_of_lookup h1) (PySem.mem_of_lookup h2)
 ·have hy:scope.names.lookup y=some .cell\/scope.names.lookup y=some .free:=hy;rcases hy with hy|hy
  ·exact Jh hy
  ·exact absurd rfl (S.nofree _ (PySem.mem_of_lookup hy))
 ·exact wf (x.above y c (PySem.mem_of_lookup h))
 ·have hi:i<vs.length:=by
   unfold start at h2;by_cases hi:i<vs.length
   ·exact hi
   ·rw[List.getElem?_append_right (by simpa using hi)]at h2;rw[List.getElem?_replicate]at h2;split at h2<;>cases h2
  have ha:vs[i]?=some v:=by
   unfold start at h2;rw[List.getElem?_append_left (by simpa using hi),wQ]at h2;cases e:vs[i]? with
   |none=>rw[e]at h2;cases h2
   |some a=>rw[e]at h2;cases h2;rfl
  obtain⟨u,hu,rv⟩:=r.get ha;have hp:ps[i]?=some y:=by
   rw[<-S.pre,wM (by omega)];exact h1
  have ndP:ps.Nodup:=by rw[<-S.pre];exact S.nd.sublist (List.take_sublist _ _)
  refine⟨u,rv,?_⟩;rcases S.par y (List.mem_of_getElem? hp) with k|k
  ·exact .inl ⟨k,ZY ndP hp hu k⟩
  ·obtain⟨c,e⟩:=Jh (n:=s.heap.objs.size+1) k;refine .inr ⟨.inl k,c,e,?_⟩;have q:=x.cell y c e;rw[Zn ndP hp hu (by show scope.names.lookup y≠_;rw[k];decide)]at q;exact q
 ·exact e0.hok.fresh (wf (x.above y c (PySem.mem_of_lookup h)))
 ·unfold start;show _=N.length;rw[List.length_append,wG,List.length_replicate];omega
theorem qCO{CX:CXT}{P:Program}{w:World}{K:PySem.W.Frag}{mg:Str->Option Value}{base:Heap}{k:Nat}{f:Addr}{name qual:Str}{params:Arguments}{body:List Stmt}{scope:Scope}{dV kV doc pm cdv ct oc:Value}{an od:Option Addr}
  {osl:Array (Option Value)}{N ps:List Str}{sp:Sp}(lk:K.lookup f=some ⟨oc,od,.func (PySem.W.fnOf name qual params body scope dV kV doc pm an cdv ct),osl⟩) (hcd:PySem.W.codeIn K cdv qual=true) (S:zE N ps scope)
  (len:∀vs H Q E,sp vs H Q E->vs.length=ps.length)
  (hbody:∀(A:Around) (outer:List Env) (s:Shared) (H:Hp) (vs:List V) (Q:VK) (E:XK),Room k (A.deeper (envOfC qual scope s.heap.objs.size f cdv))->sp vs H Q E ->
   ∃t,PSs (cxOf CX P w K mg base N qual scope f cdv A outer s H E) body t/\t { nx:=λ_ H'=>Q .non H',rt:=Q } (start N vs) H):
  FnOk P w K mg base CX (k+1) f (PySem.W.fnOf name qual params body scope dV kV doc pm an cdv ct) ps sp:=by
 refine⟨len,λA outer s H args us vs Q E hr e0 hb r hsp=>?_⟩;have hl:=len _ _ _ _ hsp;have KX:K.In s.heap:=e0.mod.kin.keeps λb o e=>(e0.bs b o e).1;have lim:s.heap.NoLimit:=e0.mod.nolimit.keeps λb o e=>(e0.bs b o e).1;have hkind:∀y∈ps.zip us,scope.names.lookup y.1=some .local\/(scope.names.lookup y.1=some .cell/\((cellsFrom (s.heap.objs.size+1) scope.names []).lookup y.1).isSome=true):=λ⟨n,v⟩ hy=>by
  rcases S.par n (wt hy).1 with q|q
  ·exact .inl q
  ·exact .inr ⟨q,PySem.W.cellsFrom_some _ _ _ (.inl q)⟩
 refine codeAny_call_function hr.depth (KX _ _ lk) rfl S.co S.gen rfl (PySem.W.codeRec_of KX hcd) (hb _ _ _ _ ?_);refine wpAny_newFunctionEnv_cells S.kind hkind λenv he s1 x=>?_;subst he;refine⟨lim.keeps x.toInCall.keep,codeAny_func ?_⟩;obtain⟨t,ht,hq⟩:=hbody A outer s H vs Q E (hr.deeper _) hsp;have I:Inv (cxOf CX P w K mg base N qual scope f cdv A outer s H E) [] (start N vs) H s1:=P3 S hr.hd e0 hl r x;refine wpAny_mono (ht [] s1 (start N vs) H _ I hq) (λfl s' hs=>?_) λe s' hs=>hs;have fin:∀{σ':St}{H':Hp}{v:V}{u:Value},Inv (cxOf CX P w K mg base N qual scope f cdv A outer s H E) [] σ' H' s'->RelV v u->Q v H'->CE outer P w H s Q u s':=
  λ{σ' H' v u} J rv q=>⟨v,H',J.os,J.bare,J.base,J.hok,rv,q⟩
 cases fl with
 |ret u=>
  obtain⟨v,σ',H',J,rv,q⟩:=hs;exact fin J rv q
 |next=>
  obtain⟨σ',H',J,q⟩:=hs;exact fin (v:=V.non) (u:=Value.none) J rfl q
 |brk=>
  obtain⟨_,_,_,q⟩:=hs;exact False.elim q
 |cont=>
  obtain⟨_,_,_,q⟩:=hs;exact False.elim q
section
variable{X:Cx}{x:Str}{p pos:Pos}{e:Expr}{es:List Expr}{t:TA}{id T:String}{r:List V->Hp->VK->Prop}
noncomputable def tCB(r:List V->Hp->VK->Prop)(t:TA):TE:=λσ H Q=>t σ H λvs H1=>r vs H1 Q
theorem pe_callB(hc:qo X (.builtin id) r)(hg:Gl X x)(hm:X.mg x=none)(hv:bootBuiltins x=some (.builtin id))(ha:PA X (e::es) t)(hn:x≠"__name__":=by decide)(hdb:(x==("__debug__":Str))=false:=by decide)
  (he:starEach (e::es) X.env=(false,eval e X.env)::starEach es X.env:=by rfl) (hpl:(backTo pos (starEach es X.env)).any (·.1)=false:=by rfl):PE X (.Call (.Name x p) (e::es) [] pos) (tCB r t):=by
 intro pins s σ H Q I h;refine wpAny_Call_Name_kw (ld_blt I hg hm hv ?_ hn hdb);exact PyProof.Rows.callWith_builtin1 (thn (ha pos pins s σ H _ I h) λus s1 ⟨vs,H1,I1,r1,q1⟩=>hc pins s1 σ H1 vs us Q I1 r1 q1) he hpl
theorem pe_callTy(hc:qo X (.type T) r)(hg:Gl X x)(hm:X.mg x=none)(hv:bootBuiltins x=some (.type T))(ha:PA X (e::es) t)(hn:x≠"__name__":=by decide)(hdb:(x==("__debug__":Str))=false:=by decide)
  (he:starEach (e::es) X.env=(false,eval e X.env)::starEach es X.env:=by rfl) (hpl:(backTo pos (starEach es X.env)).any (·.1)=false:=by rfl):PE X (.Call (.Name x p) (e::es) [] pos) (tCB r t):=by
 intro pins s σ H Q I h;refine wpAny_Call_Name_kw (ld_blt I hg hm hv ?_ hn hdb);exact PyProof.Rows.callWith_type1 (thn (ha pos pins s σ H _ I h) λus s1 ⟨vs,H1,I1,r1,q1⟩=>hc pins s1 σ H1 vs us Q I1 r1 q1) he hpl
end
end L2
namespace HT
open PySem PyProof.Rows
section
variable{prog:Program}{w:World}{A:Around}{E:Value->Shared->Prop}{s:Shared}
theorem cat_tup{t b:Addr}{vs ws:List Value}{Q:Value->Shared->Prop}(ht:IsTup s.heap t vs.toArray)(hb:IsTup s.heap b ws.toArray)(hv:vs≠[])
  (h1:ws=[]->Q (.ref t) s) (h2:ws≠[]->Q (.ref s.heap.objs.size) { s with heap:=s.heap.push { cls:=.type "tuple",data:=.seq (vs++ws).toArray } })
  (hsz:vs.length+ws.length<=sizeLine):wpAny (model prog w) A (binaryOp .Add (.ref t) (.ref b)) Q E s:=by
 obtain⟨⟨cls,dd,data,sl⟩,ho,hc,n,hd⟩:=id ht;obtain⟨⟨cls2,dd2,data2,sl2⟩,ho2,hc2,n2,hd2⟩:=id hb;simp only at hc hd hc2 hd2;subst hc hd hc2 hd2;have e:vs.toArray++ws.toArray=(vs++ws).toArray:=by simp
 by_cases hw:ws=[]
 ·exact concat_meets ⟨_,ho,rfl⟩ ⟨_,ho2,rfl⟩ noFill_tuple_add seq_tuple_add PySem.F.slot_tuple_add PySem.F.entry_tuple_add (PySem.F.args_tuple_add_2 _ _)
   (tuple_addW1 t b vs.toArray ws.toArray n n2 dd dd2 sl sl2 (by simpa using hv) (by simp[hw])) ⟨ho,ho2,h1 hw⟩
 ·refine concat_meets ⟨_,ho,rfl⟩ ⟨_,ho2,rfl⟩ noFill_tuple_add seq_tuple_add PySem.F.slot_tuple_add PySem.F.entry_tuple_add (PySem.F.args_tuple_add_2 _ _)
   (tuple_addW2 t b vs.toArray ws.toArray n n2 dd dd2 sl sl2 (by simpa using hv) (by simpa using hw) (by rw[wB,wB];exact hsz)) ⟨ho,ho2,?_⟩
  rw[e];exact h2 hw
noncomputable def sIx(n d:Nat):Option Int->Nat
 |none=>d
 |some v=>if v<0 then (v+(n:Int)).toNat else min v.toNat n
theorem sIx_none(n d:Nat):sIx n d none=d:=rfl
theorem sIx_nat(n d k:Nat):sIx n d (some (k:Int))=min k n:=by
 show (if (k:Int)<0 then ((k:Int)+(n:Int)).toNat else min (k:Int).toNat n)=min k n;rw[if_neg (by omega),wk]
theorem qBd(n d:Nat)(hd:d<=n)(o:Option Int):sIx n d o<=n:=by
 cases o with
 |none=>exact hd
 |some v=>
  show (if v<0 then (v+(n:Int)).toNat else min v.toNat n)<=n;by_cases hv:v<0
  ·rw[if_pos hv];omega
  ·rw[if_neg hv];exact Nat.min_le_right _ _
theorem N9(v:Int)(n d:Nat):(if v<0 then max (v+(n:Int)) 0 else min v (n:Int))=((sIx n d (some v):Nat):Int):=by
 show (if v<0 then max (v+(n:Int)) 0 else min v (n:Int))=(((if v<0 then (v+(n:Int)).toNat else min v.toNat n):Nat):Int);by_cases hv:v<0
 ·simp only[if_pos hv];omega
 ·simp only[if_neg hv];omega
theorem D6(lo hi:Option Int)(n:Nat):Builtin.Slice.sliceAdjust lo hi 1 (n:Int)=(((sIx n 0 lo:Nat):Int),((sIx n n hi:Nat):Int)):=by
 have h1:¬ ((1:Int)<0):=by omega
 unfold Builtin.Slice.sliceAdjust;simp only[h1,if_false];refine Prod.ext ?_ ?_
 ·cases lo with
  |none=>rfl
  |some v=>exact N9 v n 0
 ·cases hi with
  |none=>rfl
  |some v=>exact N9 v n n
theorem D1(i j:Nat):Builtin.Slice.slicePlaces (i:Int) (j:Int) 1=j-i:=by
 unfold Builtin.Slice.slicePlaces;have h1:(1:Int)>0:=by omega
 simp only[h1,if_true,Int.ediv_one];split<;>omega
theorem QY{v:Value}{o:Option Int}{Q:Option Int->Shared->Prop}(p:IsPart v o)(h:Q o s):wpAny (model prog w) A (Builtin.Slice.slicePartIndex v) Q E s:=by
 cases p with
 |none=>exact slicePart_none h
 |int i t=>exact slicePart_int h
theorem ji{sl:Addr}{vl vu:Value}{lo hi:Option Int}{n:Nat}{Q:Int×Int×Nat->Shared->Prop}(hs:s.heap.IsSliceOf sl vl vu .none)(pl:IsPart vl lo)(pu:IsPart vu hi)
  (h:Q (((sIx n 0 lo:Nat):Int),1,sIx n n hi-sIx n 0 lo) s):wpAny (model prog w) A (Builtin.Slice.sliceApplied (.ref sl) (pure (n:Int))) Q E s:=by
 obtain⟨os,hos,hcs,hds⟩:=id hs;unfold Builtin.Slice.sliceApplied Builtin.Slice.sliceFields;refine wv (wv (wpAny_field hos hds (x:=vl) rfl (wv (wpAny_field hos hds (x:=vu) rfl (wv (wpAny_field hos hds (x:=.none) rfl (wx ?_)))))));refine wv (slicePart_none ?_);show wpAny _ _ (if ((1:Int)==0)=true then _ else _) _ _ s;rw[if_neg (by decide)];refine wv (QY pl (wv (QY pu (wv (wx ?_)))));show wpAny _ _ (match Builtin.Slice.sliceAdjust lo hi 1 (n:Int) with|(lo,hi)=>pure (lo,(1:Int),Builtin.Slice.slicePlaces lo hi 1)) _ _ s;rw[D6 lo hi n];show wpAny _ _ (pure (((sIx n 0 lo:Nat):Int),(1:Int),Builtin.Slice.slicePlaces ((sIx n 0 lo:Nat):Int) ((sIx n n hi:Nat):Int) 1)) _ _ s;rw[D1];exact wx h
theorem S8(xs:Array Value)(i k:Nat):((List.range k).filterMap λ(m:Nat)=>xs[((i:Int)+(m:Int)*1).toNat]?).toArray=((xs.toList.drop i).take k).toArray:=by
 have e:(λ(m:Nat)=>xs[((i:Int)+(m:Int)*1).toNat]?)=λm=>xs[i+m]?:=by
  funext m
  have:((i:Int)+(m:Int)*1).toNat=i+m:=by omega
  rw[this]
 rw[e];have:=pick_run xs i k;rw[List.filterMap_map]at this;have e2:((λx=>xs[x]?)∘λx=>i+x)=λm=>xs[i+m]?:=rfl;rw[e2]at this;rw[this]
theorem getItem_tuple_cut{t sl:Addr}{items:Array Value}{vl vu:Value}{lo hi:Option Int}{Q:Value->Shared->Prop}(ht:IsTup s.heap t items)(hs:s.heap.IsSliceOf sl vl vu .none)(pl:IsPart vl lo)(pu:IsPart vu hi)
  (hw:¬ (sIx items.size 0 lo=0/\sIx items.size items.size hi=items.size))
  (h:Q (.ref s.heap.objs.size) { s with heap:=s.heap.push { cls:=.type "tuple",data:=.seq ((items.toList.drop (sIx items.size 0 lo)).take (sIx items.size items.size hi-sIx items.size 0 lo)).toArray } })
  (hsz:items.size<=sizeLine):wpAny (model prog w) A (getItem (.ref t) (.ref sl)) Q E s:=by
 have htake:sizeOk (.seq ((items.toList.drop (sIx items.size 0 lo)).take (sIx items.size items.size hi-sIx items.size 0 lo)).toArray):=by
  show ((items.toList.drop (sIx items.size 0 lo)).take (sIx items.size items.size hi-sIx items.size 0 lo)).toArray.size<=sizeLine;rw[wB,wS,List.length_drop,Array.length_toList];omega
 have hj:sIx items.size items.size hi<=items.size:=qBd _ _ (Nat.le_refl _) hi;obtain⟨os,hos,hcs,hds⟩:=id hs;have hTs:s.TypeIs (.ref sl) "slice":=⟨os,hos,hcs⟩
 unfold getItem
 try with_reducible refine wpAny_holding ?_
 first|refine wv (wx ?_)|skip
 refine wv (wpAny_sequenceKey ht.typeIs (by decide) ?_);refine wv (wpAny_callSpecial?_slot (name:=Str.ofString "__getitem__") ht.typeIs PyProof.Rows.slot_tuple_getitem
  (wpAny_call_entry PyProof.Rows.slot_tuple_getitem ht.typeIs entry_tuple_getitem ?_ (args_tuple_getitem _ _)))
 show wpAny _ _ (Builtin.Tuple.tupleItemsOf (.ref t) >>=_) _ _ s;refine wv (tupleItemsOf_ ht ?_);refine wv (wpAny_typeOf hTs ?_);rw[if_pos (by decide)];refine wv (ji hs pl pu ?_);have hno:¬ ((((sIx items.size 0 lo:Nat):Int)==0&&(1:Int)==1&&(sIx items.size items.size hi-sIx items.size 0 lo)==items.size)=true):=by
  intro q;rw[Bool.and_eq_true,Bool.and_eq_true]at q;have q1:((sIx items.size 0 lo:Nat):Int)=0:=eq_of_beq q.1.1;have q2:sIx items.size items.size hi-sIx items.size 0 lo=items.size:=eq_of_beq q.2;exact hw ⟨by omega,by omega⟩
 show wpAny _ _ (if (((sIx items.size 0 lo:Nat):Int)==0&&(1:Int)==1&&(sIx items.size items.size hi-sIx items.size 0 lo)==items.size)=true then _ else _) _ _ s;rw[if_neg hno,S8]
 first
  |exact wv (m:=Builtin.Tuple.tupleExact _) (wpAny_newObj_type (wx ⟨_,rfl,wx h⟩) htake)
  |exact wv (m:=Builtin.Tuple.tupleExact _) (wpAny_newObj_type (wv (wx (wx ⟨_,rfl,wx h⟩))) htake)
  |exact wv (wv (m:=Builtin.Tuple.tupleExact _) (wpAny_newObj_type (wx (wx ⟨_,rfl,wx h⟩)) htake))
  |exact wv (wv (m:=Builtin.Tuple.tupleExact _) (wpAny_newObj_type (wx ⟨_,rfl,wx h⟩) htake))
end
end HT
namespace L2
open PySem PySem.Spec PyProof.Rows
noncomputable abbrev TO:=St->Hp->(Option Int->Hp->Prop)->Prop
def PO(X:Cx)(e:Option Expr)(t:TO):Prop:=
 ∀(pins:List (Addr×Obj)) (s:Shared) (σ:St) (H:Hp) (Q:Option Int->Hp->Prop),Inv X pins σ H s->t σ H Q ->
  wpAny (model X.prog X.w) X.A (evalPart e X.env) (λu s'=>∃o H',Inv X pins σ H' s'/\IsPart u o/\Q o H') X.xe s
noncomputable def m4:TO:=λ_ H Q=>Q none H
noncomputable def qCs(t:TE):TO:=λσ H Q=>t σ H λx H1=>∃i,x=.int i/\Q (some i) H1
theorem intsAre_of{ns:List Int}:∀{us:List Value},Vals (ns.map V.int) us->IntsAre us ns:=by
 induction ns with
 |nil=>intro us r;rw[List.map_nil]at r;cases r;exact .nil
 |cons n ns ih=>
  intro us r;rw[List.map_cons]at r;cases r with
  |cons r1 r2=>
   obtain⟨t,e⟩:=r1;subst e;exact .cons n t (ih r2)
section
variable{X:Cx}{e:Expr}{te:TE}{lo hi:Option Expr}{tl th:TO}{pos p2:Pos}
theorem po_none:PO X none m4:=by
 intro pins s σ H Q I h;rw[evalPart_none];exact wx ⟨none,H,I,.none,h⟩
theorem po_some(h:PE X e te):PO X (some e) (qCs te):=by
 intro pins s σ H Q I hw;rw[evalPart_some];refine thn (h pins s σ H _ I hw) λu s1 ⟨x,H1,I1,r1,q1⟩=>?_;obtain⟨i,rfl,q⟩:=q1;obtain⟨t,rfl⟩:=r1;exact⟨some i,H1,I1,.int i t,q⟩
def SlR(X:Cx)(r:V->Option Int->Option Int->Hp->VK->Prop):Prop:=
 ∀(pins:List (Addr×Obj)) (s:Shared) (σ:St) (H:Hp) (x:V) (v vl vu:Value) (lo hi:Option Int) (sl:Addr) (Q:VK),Inv X pins σ H s->RelV x v->s.heap.IsSliceOf sl vl vu .none->IsPart vl lo->IsPart vu hi->r x lo hi H Q ->
  ∃T id,typeLookup (.type T) "__getitem__"=pure (some (.builtin id))/\s.TypeIs v T/\wpAny (model X.prog X.w) X.A (getItem v (.ref sl)) (EP X pins σ Q) X.xe s
theorem SlR.or{r r':V->Option Int->Option Int->Hp->VK->Prop}(h:SlR X r)(h':SlR X r'):SlR X (λx lo hi H Q=>r x lo hi H Q\/r' x lo hi H Q):=by
 intro pins s σ H x v vl vu lo hi sl Q I rx hs pl pu q;rcases q with q|q
 ·exact h pins s σ H x v vl vu lo hi sl Q I rx hs pl pu q
 ·exact h' pins s σ H x v vl vu lo hi sl Q I rx hs pl pu q
noncomputable def tSl(r:V->Option Int->Option Int->Hp->VK->Prop)(te:TE)(tl th:TO):TE:=λσ H Q=>te σ H λx H1=>tl σ H1 λl H2=>th σ H2 λu H3=>r x l u H3 Q
theorem pe_slice{r:V->Option Int->Option Int->Hp->VK->Prop}(hr:SlR X r)(he:PE X e te)(hl:PO X lo tl)(hu:PO X hi th):PE X (.Subscript e (.Slice lo hi none p2) pos) (tSl r te tl th):=by
 intro pins s σ H Q I h;refine Subscript_ (thn (he pins s σ H _ I h) λv s1 ⟨x,H1,I1,r1,q1⟩=>?_);refine wpAny_Slice (thn (hl pins s1 σ H1 _ I1 q1) λvl s2 ⟨l,H2,I2,pl,q2⟩=>thn (hu pins s2 σ H2 _ I2 q2) λvu s3 ⟨u,H3,I3,pu,q3⟩=>?_);rw[evalPart_none];refine wx ?_;have I4:Inv X pins σ H3 { s3 with heap:=s3.heap.push { cls:=.type "slice",data:=.fields #[vl,vu,.none] } }:=I3.kept (t':=s3.toks) λb ob q=>Heap.get?_push_of_some _ q;obtain⟨T,id,hT,ht,hg⟩:=hr pins { s3 with heap:=s3.heap.push { cls:=.type "slice",data:=.fields #[vl,vu,.none] } } σ H3 x v vl vu l u s3.heap.objs.size Q I4 r1 (Heap.IsSliceOf.new ..) pl pu q3;show wpAny (model X.prog X.w) X.A (subscriptTail e (.Slice lo hi none p2) v (.ref s3.heap.objs.size)) (EP X pins σ Q) X.xe { s3 with heap:=s3.heap.push { cls:=.type "slice",data:=.fields #[vl,vu,.none] } };exact tail_any (ops:=[.ref s3.heap.objs.size,v]) ht hT hg (by with_unfolding_all rfl)
noncomputable def cutV(xs:List V)(lo hi:Option Int):List V:=(xs.drop (HT.sIx xs.length 0 lo)).take (HT.sIx xs.length xs.length hi-HT.sIx xs.length 0 lo)
theorem ju(xs:List V)(lo hi:Option Int):(cutV xs lo hi).length<=xs.length:=by
 unfold cutV;rw[wS,List.length_drop];omega
def qEI(K:PySem.W.Frag):V->Option Int->Option Int->Hp->VK->Prop:=λx lo hi H Q=>∃a xs,x=.ref a/\SqT K H a xs/\
 ¬ (HT.sIx xs.length 0 lo=0/\HT.sIx xs.length xs.length hi=xs.length)/\∀p,H p=none->Q (.ref p) (upd H p (.tup (cutV xs lo hi)))
theorem sl_tup:SlR X (qEI X.K):=by
 intro pins s σ H x v vl vu lo hi sl Q I rx hs pl pu h;obtain⟨a,xs,rfl,hx,hw,q⟩:=h;cases rx;obtain⟨its,r,ht,hz⟩:=I.tuple hx;have hlen:its.toArray.size=xs.length:=by rw[wB];exact r.length.symm
 refine⟨"tuple",_,PyProof.Rows.slot_tuple_getitem.lookup,ht.typeIs,?_⟩;refine HT.getItem_tuple_cut ht hs pl pu (by rw[hlen];exact hw) ?_ (by rw[hlen];exact hz);rw[hlen];refine⟨.ref s.heap.objs.size,_,I.laid (t':=s.toks) (o:=.tup (cutV xs lo hi)) (λb ob q=>Heap.get?_push_of_some _ q) (Nat.le_refl _) ?_,rfl,q _ (I.hok.fresh (Nat.le_refl _))⟩;exact⟨Nat.le_trans (ju xs lo hi) hz,_,(r.drop (HT.sIx xs.length 0 lo)).take (HT.sIx xs.length xs.length hi-HT.sIx xs.length 0 lo),IsTup.new _ _⟩
noncomputable def rCatT(K:PySem.W.Frag):R2:=λx y H Q=>∃a b xs ys,x=.ref a/\y=.ref b/\SqT K H a xs/\SqT K H b ys/\xs≠[]/\xs.length+ys.length<=sizeLine/\
 (ys=[]->Q (.ref a) H)/\(ys≠[]->∀p,H p=none->Q (.ref p) (upd H p (.tup (xs++ys))))
theorem Vals.nil_iff{xs:List V}{us:List Value}(r:Vals xs us):us=[]↔xs=[]:=by
 cases r with
 |nil=>simp
 |cons _ _=>simp
theorem op_catT:OpR X (binaryOp .Add) (rCatT X.K):=by
 intro pins s σ H x y v u Q I rx ry h;obtain⟨a,b,xs,ys,rfl,rfl,ha,hb,hx,hz,q1,q2⟩:=h;cases rx;cases ry;obtain⟨its,r1,p1,_⟩:=I.tuple ha;obtain⟨its2,r2,p2,_⟩:=I.tuple hb;refine HT.cat_tup p1 p2 (λz=>hx (r1.nil_iff.mp z)) (λz=>⟨.ref a,H,I,rfl,q1 (r2.nil_iff.mp z)⟩) (λz=>?_) (by rw[<-r1.length,<-r2.length];exact hz);refine⟨.ref s.heap.objs.size,_,I.laid (t':=s.toks) (o:=.tup (xs++ys)) (λb ob q=>Heap.get?_push_of_some _ q) (Nat.le_refl _) ?_,rfl,q2 (λw=>z (r2.nil_iff.mpr w)) _ (I.hok.fresh (Nat.le_refl _))⟩;exact⟨by rw[List.length_append];exact hz,_,r1.append r2,IsTup.new _ _⟩
end
noncomputable def ixN(n:Nat)(i:Int):Option Nat:=if 0<=i then (if i<n then some i.toNat else none) else if -(n:Int)<=i then some (i+n).toNat else none
noncomputable def atI{α:Type}(xs:List α)(i:Int):Option α:=(ixN xs.length i).bind λj=>xs[j]?
theorem ixN_seq{n:Nat}{i:Int}{j:Nat}(h:ixN n i=some j):seqIndex? i n=some j/\j<n/\-(n:Int)<=i/\i<n:=by
 unfold ixN at h;by_cases h0:0<=i
 ·rw[if_pos h0]at h;by_cases h1:i<n
  ·rw[if_pos h1]at h;have e:i.toNat=j:=Option.some.inj h;exact⟨by rw[seqIndex_of h0 h1,e],by omega,by omega,h1⟩
  ·rw[if_neg h1]at h;cases h
 ·rw[if_neg h0]at h;by_cases h1:-(n:Int)<=i
  ·rw[if_pos h1]at h;have e:(i+n).toNat=j:=Option.some.inj h;exact⟨by rw[seqIndex_neg (by omega) h1,e],by omega,h1,by omega⟩
  ·rw[if_neg h1]at h;cases h
theorem J9{α:Type}{xs:List α}{i:Int}{v:α}(h:atI xs i=some v):∃j,seqIndex? i xs.length=some j/\xs[j]?=some v/\j<xs.length/\-(xs.length:Int)<=i/\i<xs.length:=by
 unfold atI at h;cases e:ixN xs.length i with
 |none=>rw[e]at h;cases h
 |some j=>
  rw[e]at h;obtain⟨h1,h2,h3,h4⟩:=ixN_seq e;exact⟨j,h1,h,h2,h3,h4⟩
def PlainIx(b:Expr):Prop:=∀o i,subscripted b false o i=operate [o,i] (getItem o i)
def IxR(X:Cx)(r:R2):Prop:=
 ∀(value slice:Expr) (pins:List (Addr×Obj)) (s:Shared) (σ:St) (H:Hp) (x y:V) (v u:Value) (Q:VK),Inv X pins σ H s->RelV x v->RelV y u->r x y H Q ->
  subscripted slice false v u=operate [v,u] (getItem v u)->wpAny (model X.prog X.w) X.A (subscriptTail value slice v u) (EP X pins σ Q) X.xe s
def MtR(X:Cx)(id:String)(r:V->List V->Hp->VK->Prop):Prop:=
 ∀(pins:List (Addr×Obj)) (s:Shared) (σ:St) (H:Hp) (x:V) (xs:List V) (v:Value) (us:List Value) (Q:VK),Inv X pins σ H s->RelV x v->Vals xs us->r x xs H Q ->
  wpAny (model X.prog X.w) X.A (call (.builtin id) (v::us)) (EP X pins σ Q) X.xe s
section
variable{X:Cx}{a b:Expr}{ta tb:TE}{pos:Pos}
theorem IxR.or{r r':R2}(h:IxR X r)(h':IxR X r'):IxR X (λx y H Q=>r x y H Q\/r' x y H Q):=by
 intro value slice pins s σ H x y v u Q I rx ry q hs;rcases q with q|q
 ·exact h value slice pins s σ H x y v u Q I rx ry q hs
 ·exact h' value slice pins s σ H x y v u Q I rx ry q hs
theorem pe_ix{r:R2}(hr:IxR X r)(ha:PE X a ta)(hb:PE X b tb)(hs:PlainIx b):PE X (.Subscript a b pos) (tOp r ta tb):=by
 intro pins s σ H Q I h;exact Subscript_ (qv ha hb I h λv u s2 x y H2 I2 rx ry q=>hr a b pins s2 σ H2 x y v u Q I2 rx ry q (hs _ _))
noncomputable def qES(K:PySem.W.Frag):R2:=λx y H Q=>∃p xs i v,x=.ref p/\y=.int i/\SqL K H p xs/\atI xs i=some v/\Q v H
noncomputable def qEY(K:PySem.W.Frag):R2:=λx y H Q=>∃p xs i v,x=.ref p/\y=.int i/\SqT K H p xs/\atI xs i=some v/\Q v H
theorem ix_list:IxR X (qES X.K):=by
 intro value slice pins s σ H x y v u Q I rx ry h hs;obtain⟨p,xs,i,z,rfl,rfl,hq,he,q⟩:=h;cases rx;obtain⟨t,rfl⟩:=ry;obtain⟨its,r,pl,hz⟩:=I.list hq;obtain⟨j,h1,h2,h3,h4,h5⟩:=J9 he;obtain⟨w,ew,rw'⟩:=r.get h2;have hl:=r.length;have hn:=B6;have fin:EP X pins σ Q w s:=⟨z,H,I,rw',q⟩
 by_cases h0:0<=i
 ·have hj:i.toNat=j:=by
   rw[seqIndex_of h0 h5]at h1;exact Option.some.inj h1
  exact item_listR pl.isList h0 (by omega) (by rw[hj];simpa using ew) fin hs
 ·have hj:(i+(its.toArray.size:Int)).toNat=j:=by
   rw[seqIndex_neg (by omega) h4]at h1;rw[wB,<-hl];exact Option.some.inj h1
  exact subscriptTail_builtinR (x:=w) pl.isList.typeIs slot_list_getitem.lookup
   (wpAny_getItem_list_neg (Q:=λr s'=>r=w/\EP X pins σ Q r s') pl.isList (by omega) (by rw[wB]<;>omega) (by omega) (by rw[hj];simpa using ew) ⟨rfl,fin⟩) hs
theorem ix_tup:IxR X (qEY X.K):=by
 intro value slice pins s σ H x y v u Q I rx ry h hs;obtain⟨p,xs,i,z,rfl,rfl,hq,he,q⟩:=h;cases rx;obtain⟨t,rfl⟩:=ry;obtain⟨its,r,pl,hz⟩:=I.tuple hq;obtain⟨j,h1,h2,h3,h4,h5⟩:=J9 he;obtain⟨w,ew,rw'⟩:=r.get h2;have hl:=r.length;have hn:=B6;have fin:EP X pins σ Q w s:=⟨z,H,I,rw',q⟩
 exact subscriptTail_builtinR (x:=w) pl.typeIs slot_tuple_getitem.lookup
  (getItem_tuple (j:=j) (Q:=λr s'=>r=w/\EP X pins σ Q r s') pl (by omega) (by omega) (by rw[wB,<-hl];exact h1) (by simpa using ew) ⟨rfl,fin⟩) hs
theorem F7(its:List Value)(n j:Nat)(u:Value):Obj.mapSeq (·.setIfInBounds j u) { cls:=.type "list",data:=.seq its.toArray n }={ cls:=.type "list",data:=.seq (its.set j u).toArray n }:=by
 simp[Obj.mapSeq]
theorem Inv.lst{pins:List (Addr×Obj)}{σ:St}{H:Hp}{s:Shared}{p:Addr}{xs:List V}(I:Inv X pins σ H s)(h:H p=some (.lst xs)):
  ∃(its:List Value) (n:Nat),Vals xs its/\s.heap.get? p=some { cls:=.type "list",data:=.seq its.toArray n }/\xs.length<=sizeLine:=by
 obtain⟨z,its,n,r,e⟩:=I.hok p _ h;exact⟨its,n,r,e,z⟩
theorem Inv.lstUpd{pins:List (Addr×Obj)}{σ:St}{H:Hp}{s:Shared}{p:Addr}{xs ys:List V}{its its':List Value}{n n':Nat}{f:Obj->Obj}(I:Inv X pins σ H s)(h:H p=some (.lst xs))
  (ho:s.heap.get? p=some { cls:=.type "list",data:=.seq its.toArray n }) (hf:f { cls:=.type "list",data:=.seq its.toArray n }={ cls:=.type "list",data:=.seq its'.toArray n' }) (r:Vals ys its') (hz:ys.length<=sizeLine) (t:Nat):
  Inv X pins σ (upd H p (.lst ys)) { s with heap:=s.heap.update p f,toks:=t }:=by
 have e:(s.heap.update p f).get? p=some { cls:=.type "list",data:=.seq its'.toArray n' }:=by
  rw[Heap.get?_update_self f ho (by rw[hf]<;>rfl),hf]
 refine I.write (x:=p) (e:=p) (by rw[h];trivial) (.inl rfl) (λb u hb q=>(Heap.get?_update_other _ _ (Ne.symm hb)).trans q) ⟨_,e⟩ ?_;exact⟨hz,its',n',r,e⟩
def rSetL:V->V->V->Hp->(Hp->Prop)->Prop:=λo i v H Q=>∃p xs k j,o=.ref p/\i=.int k/\H p=some (.lst xs)/\ixN xs.length k=some j/\Q (upd H p (.lst (xs.set j v)))
theorem set_list:PSet X rSetL:=by
 intro pins s σ H o i v ov iv u Q I ro ri rv h;obtain⟨p,xs,k,j,rfl,rfl,hp,hj,q⟩:=h;cases ro;obtain⟨t,rfl⟩:=ri;obtain⟨its,n,r,ho,hz⟩:=I.lst hp;obtain⟨h1,h2,h3,h4⟩:=ixN_seq hj;have hl:=r.length;have hn:=B6;have I':Inv X pins σ (upd H p (.lst (xs.set j v))) { s with heap:=s.heap.update p (Obj.mapSeq (·.setIfInBounds j u)) }:=
  I.lstUpd hp ho (F7 its n j u) (r.set rv j) (by rw[List.length_set];exact hz) s.toks
 by_cases h0:0<=k
 ·have hk:k.toNat=j:=by
   rw[seqIndex_of h0 h4]at h1;exact Option.some.inj h1
  exact PySem.W.ki_setAt ho h0 (by omega) (by rw[wB,<-hl];exact h4) (by rw[hk];exact⟨_,I',q⟩)
 ·have hk:(k+(its.toArray.size:Int)).toNat=j:=by
   rw[seqIndex_neg (by omega) h3]at h1;rw[wB,<-hl];exact Option.some.inj h1
  exact PySem.W.ki_setBack ho (by omega) (by rw[wB,<-hl];exact h3) (by omega) (by rw[hk];exact⟨_,I',q⟩)
theorem ZZ(lo hi:Option Int)(n:Nat):(sliceBounds lo hi none n).1=((HT.sIx n 0 lo:Nat):Int)/\(sliceBounds lo hi none n).2.1=((HT.sIx n n hi:Nat):Int)/\(sliceBounds lo hi none n).2.2=1:=by
 refine⟨?_,?_,rfl⟩
 ·cases lo with
  |none=>simp[sliceBounds,HT.sIx]
  |some i=>
   simp only[sliceBounds,HT.sIx,Option.getD_none,show (1:Int)>0 by decide,if_true];by_cases h:i<0
   ·simp only[h,if_true]<;>omega
   ·simp only[h,if_false]<;>omega
 ·cases hi with
  |none=>simp[sliceBounds,HT.sIx]
  |some i=>
   simp only[sliceBounds,HT.sIx,Option.getD_none,show (1:Int)>0 by decide,if_true];by_cases h:i<0
   ·simp only[h,if_true]<;>omega
   ·simp only[h,if_false]<;>omega
theorem Qq(its:List Value)(lo hi:Option Int):slicePick its.toArray lo hi none=((its.drop (HT.sIx its.length 0 lo)).take (HT.sIx its.length its.length hi-HT.sIx its.length 0 lo)).toArray:=by
 obtain⟨h1,h2,h3⟩:=ZZ lo hi its.toArray.size;unfold slicePick;rw[h1,h2,h3];simp only[sliceRange_one,pick_run,wB]<;>rfl
def qEG(K:PySem.W.Frag):V->Option Int->Option Int->Hp->VK->Prop:=λx lo hi H Q=>∃a xs,x=.ref a/\SqL K H a xs/\∀p,H p=none->Q (.ref p) (upd H p (.lst (cutV xs lo hi)))
theorem sl_list:SlR X (qEG X.K):=by
 intro pins s σ H x v vl vu lo hi sl Q I rx hs pl pu h;obtain⟨a,xs,rfl,hx,q⟩:=h;cases rx;obtain⟨its,r,ht,hz⟩:=I.list hx;have hlen:=r.length;refine⟨"list",_,slot_list_getitem.lookup,ht.isList.typeIs,?_⟩;refine wpAny_getItem_list_slice ht.isList hs pl pu .none (by simp) ?_ (by rw[wB]<;>omega);rw[Qq,<-hlen];refine⟨.ref s.heap.objs.size,_,I.laid (t':=s.toks) (o:=.lst (cutV xs lo hi)) (λb ob q=>Heap.get?_push_of_some _ q) (Nat.le_refl _) ?_,rfl,q _ (I.hok.fresh (Nat.le_refl _))⟩;exact⟨Nat.le_trans (ju xs lo hi) hz,_,0,(r.drop (HT.sIx xs.length 0 lo)).take (HT.sIx xs.length xs.length hi-HT.sIx xs.length 0 lo),Heap.get?_push_size _ rfl⟩
noncomputable def flatV:V->Bool
 | .non=>true
 | .bl _=>true
 | .int _=>true
 | .str _=>true
 |_=>false
noncomputable def eqV:V->V->Bool
 | .non,.non=>true
 | .bl a,.bl b=>a==b
 | .bl a,.int b=>(if a then 1 else 0)==b
 | .int a,.bl b=>a==(if b then 1 else 0)
 | .int a,.int b=>a==b
 | .str a,.str b=>a==b
 |_,_=>false
theorem qAx{A:Around}{s:Shared}{y x:V}{u v:Value}(ry:RelV y u)(rx:RelV x v)(fy:flatV y=true)(fx:flatV x=true):SeqAt.EqAt A s u v (eqV y x):=by
 cases y with
 |non=>
  cases ry;cases x with
  |non=>cases rx;exact SeqAt.EqAt.same _
  |bl b=>cases rx;exact SeqAt.EqAt.none_bool b
  |int b=>obtain⟨t,rfl⟩:=rx;exact SeqAt.EqAt.none_int b t
  |str b=>obtain⟨t,rfl⟩:=rx;exact SeqAt.EqAt.none_str b t
  |_=>exact absurd (show false=true from fx) wT
 |bl a=>
  cases ry;cases x with
  |non=>cases rx;exact SeqAt.EqAt.bool_none a
  |bl b=>cases rx;exact SeqAt.EqAt.bool_bool a b
  |int b=>obtain⟨t,rfl⟩:=rx;exact SeqAt.EqAt.bool_int a b t
  |str b=>obtain⟨t,rfl⟩:=rx;exact SeqAt.EqAt.bool_str a b t
  |_=>exact absurd (show false=true from fx) wT
 |int a=>
  obtain⟨t',rfl⟩:=ry;cases x with
  |non=>cases rx;exact SeqAt.EqAt.int_none a t'
  |bl b=>cases rx;exact SeqAt.EqAt.int_bool a t' b
  |int b=>obtain⟨t,rfl⟩:=rx;exact SeqAt.EqAt.int_int a t' b t
  |str b=>obtain⟨t,rfl⟩:=rx;exact SeqAt.EqAt.int_str a t' b t
  |_=>exact absurd (show false=true from fx) wT
 |str a=>
  obtain⟨t',rfl⟩:=ry;cases x with
  |non=>cases rx;exact SeqAt.EqAt.str_none a t'
  |bl b=>cases rx;exact SeqAt.EqAt.str_bool a t' b
  |int b=>obtain⟨t,rfl⟩:=rx;exact SeqAt.EqAt.str_int a t' b t
  |str b=>obtain⟨t,rfl⟩:=rx;exact SeqAt.EqAt.str_str a t' b t
  |_=>exact absurd (show false=true from fx) wT
 |_=>exact absurd (show false=true from fy) wT
noncomputable def eqU(x:V)(u:Value):Bool:=match u with
 | .none=>eqV .non x
 | .bool b=>eqV (.bl b) x
 | .int i _=>eqV (.int i) x
 | .str z _=>eqV (.str z) x
 |_=>false
theorem Z9{x y:V}{u:Value}(r:RelV y u)(f:flatV y=true):eqU x u=eqV y x:=by
 cases y with
 |non=>cases r;rfl
 |bl b=>cases r;rfl
 |int i=>obtain⟨t,rfl⟩:=r;rfl
 |str z=>obtain⟨t,rfl⟩:=r;rfl
 |_=>exact absurd (show false=true from f) wT
theorem QM{x:V}:∀{xs:List V}{us:List Value},Vals xs us->xs.all flatV=true->us.any (eqU x)=xs.any λy=>eqV y x
 |_,_,.nil,_=>rfl
 |y::xs,u::us,.cons r t,f=>by
  rw[List.all_cons,Bool.and_eq_true]at f;rw[List.any_cons,List.any_cons,Z9 r f.1,QM t f.2]
theorem jD{A:Around}{s:Shared}{x:V}{v:Value}(rx:RelV x v)(fx:flatV x=true):∀{xs:List V}{us:List Value},Vals xs us->xs.all flatV=true->∀u∈us,SeqAt.EqAt A s u v (eqU x u)
 |_,_,.nil,_=>λu hu=>by cases hu
 |y::xs,u::us,.cons r t,f=>λu' hu=>by
  rw[List.all_cons,Bool.and_eq_true]at f;rcases List.mem_cons.mp hu with rfl|hu
  ·rw[Z9 r f.1];exact qAx r rx f.1 fx
  ·exact jD rx fx t f.2 u' hu
noncomputable def inV(x:V)(xs:List V):Bool:=xs.any λy=>eqV y x
noncomputable def rIn(K:PySem.W.Frag)(neg:Bool):R2:=λx y H Q=>∃p xs,y=.ref p/\(SqL K H p xs\/SqT K H p xs)/\flatV x=true/\xs.all flatV=true/\Q (.bl (if neg then !inV x xs else inV x xs)) H
theorem op_in_seq:OpR X (compareOp .In) (rIn X.K false):=by
 intro pins s σ H x y v u Q I rx ry h;obtain⟨p,xs,rfl,hq,fx,fs,q⟩:=h;cases ry;rcases hq with hq|hq
 ·obtain⟨its,r,pl,hz⟩:=I.list hq;refine SeqAt.in_listAt (eqU x) pl.isList (λw hw=>jD rx fx r fs w (by simpa using hw)) ⟨.bl _,H,I,rfl,?_⟩;rw[show its.toArray.any (eqU x)=its.any (eqU x) by simp,QM r fs];exact q
 ·obtain⟨its,r,pl,hz⟩:=I.tuple hq;refine SeqAt.in_tupleAt (eqU x) pl (λw hw=>jD rx fx r fs w (by simpa using hw)) ⟨.bl _,H,I,rfl,?_⟩;rw[show its.toArray.any (eqU x)=its.any (eqU x) by simp,QM r fs];exact q
theorem op_notIn_seq:OpR X (compareOp .NotIn) (rIn X.K true):=by
 intro pins s σ H x y v u Q I rx ry h;obtain⟨p,xs,rfl,hq,fx,fs,q⟩:=h;cases ry;rcases hq with hq|hq
 ·obtain⟨its,r,pl,hz⟩:=I.list hq;refine SeqAt.notIn_listAt (eqU x) pl.isList (λw hw=>jD rx fx r fs w (by simpa using hw)) ⟨.bl _,H,I,rfl,?_⟩;rw[show its.toArray.any (eqU x)=its.any (eqU x) by simp,QM r fs];exact q
 ·obtain⟨its,r,pl,hz⟩:=I.tuple hq;refine SeqAt.notIn_tupleAt (eqU x) pl (λw hw=>jD rx fx r fs w (by simpa using hw)) ⟨.bl _,H,I,rfl,?_⟩;rw[show its.toArray.any (eqU x)=its.any (eqU x) by simp,QM r fs];exact q
theorem call_len_seq:qo X (.builtin "len") (λxs H Q=>∃p ys,xs=[.ref p]/\(SqL X.K H p ys\/SqT X.K H p ys)/\Q (.int ys.length) H):=by
 intro pins s σ H xs us Q I r h;obtain⟨p,ys,rfl,hq,q⟩:=h;obtain⟨u,rfl,rx⟩:=vals1 r;cases rx;have hn:=B6;rcases hq with hq|hq
 ·obtain⟨its,r',pl,hz⟩:=I.list hq;have hlen:=r'.length;exact Calls.call_len_list pl.isList (by simp only[wB]<;>omega) ⟨.int ys.length,H,I.tok _,⟨s.toks+1,by rw[wB,hlen]⟩,q⟩
 ·obtain⟨its,r',pl,hz⟩:=I.tuple hq;have hlen:=r'.length;exact len_tuple pl (by simp only[wB]<;>omega) ⟨.int ys.length,H,I.tok _,⟨s.toks+1,by rw[wB,hlen]⟩,q⟩
theorem call_list_of:qo X (.type "list") (λxs H Q=>∃p ys,xs=[.ref p]/\(SqL X.K H p ys\/SqT X.K H p ys)/\∀l,H l=none->Q (.ref l) (upd H l (.lst ys))):=by
 intro pins s σ H xs us Q I r h;obtain⟨p,ys,rfl,hq,q⟩:=h;obtain⟨u,rfl,rx⟩:=vals1 r;cases rx;have fin:∀(its:List Value),Vals ys its->ys.length<=sizeLine->∀(h':Heap) (c':Nat),(∀b o',s.heap.get? b=some o'->h'.get? b=some o') ->
   h'.get? s.heap.objs.size=some { cls:=.type "list",dict:=none,data:=.seq its.toArray c',slots:=#[] }->EP X pins σ Q (.ref s.heap.objs.size) { s with heap:=h' }:=λits r' hz h' c' kp e=>
  ⟨.ref s.heap.objs.size,_,I.laid (t':=s.toks) kp (Nat.le_refl _) (show ObjOk X.prog X.w _ h' _ (.lst ys) from⟨hz,its,c',r',e⟩),rfl,q _ (I.hok.fresh (Nat.le_refl _))⟩
 rcases hq with hq|hq
 ·obtain⟨its,r',pl,hz⟩:=I.list hq;have hlen:=r'.length;obtain⟨o,ho,hc,n,hd⟩:=pl.isList;exact call_list_seq p (.inl rfl) ho hc hd (λh' c' kp e=>fin its r' hz h' c' kp e) (by simp only[wB]<;>omega)
 ·obtain⟨its,r',pl,hz⟩:=I.tuple hq;have hlen:=r'.length;obtain⟨o,ho,hc,n,hd⟩:=pl;exact call_list_seq p (.inr rfl) ho hc hd (λh' c' kp e=>fin its r' hz h' c' kp e) (by simp only[wB]<;>omega)
def tyV(K:PySem.W.Frag)(T:String)(x:V)(H:Hp):Prop:=match x with
 | .str _=>T="str"
 | .int _=>T="int"
 | .ref p=>(T="list"/\∃xs,SqL K H p xs)\/(T="tuple"/\∃o,K.lookup p=some o/\o.cls=.type "tuple"/\o.dict=none)\/
   (T="dict"/\((∃kvs,H p=some (.dK kvs))\/∃kvs,H p=some (.dT kvs)))\/(T="set"/\∃S n,H p=some (.set S n))
 |_=>False
theorem Z4{pins:List (Addr×Obj)}{σ:St}{H:Hp}{s:Shared}{T:String}{x:V}{v:Value}(I:Inv X pins σ H s)(r:RelV x v)(ty:tyV X.K T x H):
  s.TypeIs v T/\∀a,v=.ref a->∃ob,s.heap.get? a=some ob/\ob.dict=none:=by
 cases x with
 |str z=>
  obtain⟨t,rfl⟩:=r;cases (show T="str" from ty);exact⟨typeIs_str s z t,λ_ e=>nomatch e⟩
 |int i=>
  obtain⟨t,rfl⟩:=r;cases (show T="int" from ty);exact⟨typeIs_int s i t,λ_ e=>nomatch e⟩
 |ref p=>
  cases r;rcases ty with⟨rfl,xs,hq⟩|⟨rfl,o,hk,hc,hd⟩|⟨rfl,hk⟩|⟨rfl,S,n,hk⟩
  ·obtain⟨its,_,pl,_⟩:=I.list hq;refine⟨pl.isList.typeIs,λa e=>?_⟩;cases e;obtain⟨o,n,e,c,hd,_⟩:=pl;exact⟨o,e,hd⟩
  ·refine⟨⟨o,I.kIn p o hk,hc⟩,λa e=>?_⟩;cases e;exact⟨o,I.kIn _ o hk,hd⟩
  ·have z:∃o,s.heap.get? p=some o/\o.ExactDict:=by
    rcases hk with⟨kvs,hk⟩|⟨kvs,hk⟩
    ·obtain⟨_,_,_,_,o,_,_,e,ex,_⟩:=I.hok p _ hk;exact⟨o,e,ex⟩
    ·obtain⟨_,_,_,_,o,_,_,e,ex,_⟩:=I.hok p _ hk;exact⟨o,e,ex⟩
   obtain⟨o,e,ex⟩:=z;refine⟨⟨o,e,ex.1⟩,λa e2=>?_⟩;cases e2;exact⟨o,e,ex.2.1⟩
  ·obtain⟨o,_,_,_,e,ex,_⟩:=I.hok p _ hk;refine⟨⟨o,e,ex.1⟩,λa e2=>?_⟩;cases e2;exact⟨o,e,ex.2.1⟩
 |_=>exact False.elim ty
noncomputable def tBM0(K:PySem.W.Frag)(T:String)(r:V->List V->Hp->VK->Prop)(to:TE):TE:=λσ H Q=>to σ H λx H1=>tyV K T x H1/\r x [] H1 Q
noncomputable def tBM(K:PySem.W.Frag)(T:String)(r:V->List V->Hp->VK->Prop)(to:TE)(t:TA):TE:=λσ H Q=>to σ H λx H1=>tyV K T x H1/\t σ H1 λxs H2=>r x xs H2 Q
variable{o e:Expr}{es:List Expr}{to:TE}{t:TA}{name:Str}{apos cpos:Pos}{T id:String}{r:V->List V->Hp->VK->Prop}
theorem pe_bm0(pa:PlainAttrs T)(slot:Slot T name id)(hty:typeOf (.builtin id)=pure (.type "method_descriptor"))(hm:MtR X id r)(ho:PE X o to)
  (hbase:attributeBase o name X.env (eval o X.env)=eval o X.env:=by rfl) (hline:(apos.endLine==cpos.line)=true:=by rfl):PE X (.Call (.Attribute o name apos) [] [] cpos) (tBM0 X.K T r to):=by
 intro pins s σ H Q I h;refine wpAny_Call_method0_late hbase hline (thn (ho pins s σ H _ I h) λv s1 ⟨x,H1,I1,r1,ty,q1⟩=>?_);obtain⟨h1,h2⟩:=Z4 I1 r1 ty;exact⟨T,id,pa,slot,hty,h1,h2,Calls.callWith_builtin rfl (PySem.evalArgs_none (hm pins s1 σ H1 x [] v [] Q I1 r1 .nil q1))⟩
theorem pe_bm(pa:PlainAttrs T)(slot:Slot T name id)(hty:typeOf (.builtin id)=pure (.type "method_descriptor"))(hm:MtR X id r)(ho:PE X o to)(ha:PA X (e::es) t)
  (hbase:attributeBase o name X.env (eval o X.env)=eval o X.env:=by rfl)
  (hfew:((backTo cpos (starEach (e::es) X.env)).all (λx=>!x.1)&&(backToKw cpos (keywordEach [] X.env)).all (λx=>x.1.isSome)
   && decide ((e::es).length+([]:List Keyword).length+(if ([]:List Keyword).isEmpty then 0 else 1)<30))=true:=by rfl)
  (hline:(apos.endLine==cpos.line)=true:=by rfl) (hs:starEach (e::es) X.env=(false,eval e X.env)::starEach es X.env:=by rfl) (hplain:(backTo cpos (starEach es X.env)).any (·.1)=false:=by rfl):
  PE X (.Call (.Attribute o name apos) (e::es) [] cpos) (tBM X.K T r to t):=by
 intro pins s σ H Q I h;refine wpAny_Call_method_late hbase hfew hline rfl (thn (ho pins s σ H _ I h) λv s1 ⟨x,H1,I1,r1,ty,q1⟩=>?_);obtain⟨h1,h2⟩:=Z4 I1 r1 ty;refine⟨T,id,pa,slot,hty,h1,h2,?_⟩;have hA:=ha cpos pins s1 σ H1 _ I1 q1;rw[hs]at hA ⊢;refine Calls.callWith_builtin (by show (false||(backTo cpos (starEach es X.env)).any (·.1))=false;rw[hplain]<;>rfl) (Calls.evalArgs_plain ?_);exact thn hA λus s2 ⟨vs,H2,I2,r2,q2⟩=>hm pins s2 σ H2 x vs v us Q I2 r1 r2 q2
end
def MtM(X:Cx)(id:String)(r:V->List V->Hp->VK->Prop):Prop:=
 ∀(pins:List (Addr×Obj)) (s:Shared) (σ:St) (H:Hp) (x:V) (xs:List V) (v:Value) (us:List Value) (Q:VK),Inv X pins σ H s->RelV x v->Vals xs us->r x xs H Q ->
  wpAny (model X.prog X.w) X.A (call (.builtin id) (v::us)) (EP X pins σ Q) X.xe s
theorem Vals.one:∀{x:V}{us:List Value},Vals [x] us->∃u,us=[u]/\RelV x u
 |_,_,.cons r .nil=>⟨_,rfl,r⟩
theorem Vals.zero:∀{us:List Value},Vals [] us->us=[]
 |_,.nil=>rfl
theorem Vals.dropLast{xs:List V}{us:List Value}(h:Vals xs us):Vals xs.dropLast us.dropLast:=by
 induction h with
 |nil=>exact .nil
 |cons r t ih=>
  cases t with
  |nil=>exact .nil
  |cons q t'=>exact .cons r ih
theorem Vals.eraseIdx:∀{xs:List V}{us:List Value}(i:Nat),Vals xs us->Vals (xs.eraseIdx i) (us.eraseIdx i)
 |_,_,_,.nil=>.nil
 |_,_,0,.cons _ t=>t
 |_,_,i+1,.cons r t=>.cons r (Vals.eraseIdx i t)
theorem Vals.reverse{xs:List V}{us:List Value}(h:Vals xs us):Vals xs.reverse us.reverse:=by
 induction h with
 |nil=>exact .nil
 |cons r t ih=>rw[wb,wb];exact Vals.append ih (.cons r .nil)
theorem Vals.rep{xs:List V}{us:List Value}(h:Vals xs us):∀k:Nat,Vals (List.replicate k xs).flatten (List.replicate k us).flatten
 | 0=>.nil
 |k+1=>by
  rw[List.replicate_succ,List.replicate_succ,List.flatten_cons,List.flatten_cons];exact Vals.append h (Vals.rep h k)
theorem E8{α:Type}(l:List α):l.eraseIdx (l.length-1)=l.dropLast:=by
 induction l with
 |nil=>rfl
 |cons a r ih=>
  cases r with
  |nil=>rfl
  |cons b r=>
   have e:(a::b::r).length-1=((b::r).length-1)+1:=by
    have h1:(a::b::r).length=r.length+2:=rfl;have h2:(b::r).length=r.length+1:=rfl;omega
   rw[e,List.eraseIdx_cons_succ,ih]
   all_goals rfl
theorem Zg{α:Type}:∀(l:List α) (i:Nat),(l.eraseIdx i).length<=l.length
 | [],_=>Nat.le_refl _
 |_::_,0=>Nat.le_succ _
 |_::r,i+1=>Nat.succ_le_succ (Zg r i)
theorem Zh(its:List Value):∀(k:Nat) (acc:List Value),
  List.foldl (λx1 x2=>x1++x2) acc.toArray (List.replicate k its.toArray)=(acc++(List.replicate k its).flatten).toArray
 | 0,acc=>by simp
 |k+1,acc=>by
  have e:acc.toArray++its.toArray=(acc++its).toArray:=by simp
  have e2:(acc++its)++(List.replicate k its).flatten=acc++(List.replicate (k+1) its).flatten:=by
   rw[List.replicate_succ,List.flatten_cons,wL]
  rw[<-e2,<-Zh its k (acc++its),<-e,List.replicate_succ,List.foldl_cons]
section
variable{X:Cx}{pins:List (Addr×Obj)}{σ:St}{H:Hp}{s:Shared}{l b:Addr}{xs ys zs:List V}
theorem Inv.lset{its its':List Value}{n:Nat}{f:Array Value->Array Value}{t':Nat}(I:Inv X pins σ H s)(hH:H l=some (.lst xs))
  (e:s.heap.get? l=some { cls:=.type "list",data:=.seq its.toArray n }) (hf:f its.toArray=its'.toArray) (hv:Vals ys its') (hz:ys.length<=sizeLine):
  Inv X pins σ (upd H l (.lst ys)) { s with heap:=s.heap.update l (Obj.mapSeq f),toks:=t' }:=by
 have q:=PySem.IsL.update e f;rw[hf]at q;refine I.write (x:=l) (e:=l) (by rw[hH];exact trivial) (.inl rfl) (λb' u hb hu=>(Heap.get?_update_other s.heap (Obj.mapSeq f) (Ne.symm hb)).trans hu) ⟨_,q⟩ ?_;exact⟨hz,its',_,hv,q⟩
theorem Inv.lnew{its:List Value}{t':Nat}(I:Inv X pins σ H s)(hv:Vals ys its)(hz:ys.length<=sizeLine):
  Inv X pins σ (upd H s.heap.objs.size (.lst ys)) { s with heap:=s.heap.push { cls:=.type "list",data:=.seq its.toArray },toks:=t' }:=
 I.laid (λ_ _ q=>Heap.get?_push_of_some _ q) (Nat.le_refl _) ⟨hz,its,0,hv,Heap.get?_push_size _ rfl⟩
theorem Inv.fresh(I:Inv X pins σ H s):H s.heap.objs.size=none:=I.hok.fresh (Nat.le_refl _)
theorem Inv.lstM(I:Inv X pins σ H s)(hH:H l=some (.lst xs)):xs.length<=sizeLine/\∃(its:List Value) (n:Nat),Vals xs its/\xs.length=its.length/\s.heap.get? l=some { cls:=.type "list",data:=.seq its.toArray n }:=by
 obtain⟨z,its,n,r,e⟩:=I.hok l _ hH;exact⟨z,its,n,r,r.length,e⟩
theorem W8{n:Nat}(h:n<=sizeLine):Builtin.List.listTooLong n=false:=by
 unfold Builtin.List.listTooLong;exact wy (by omega)
end
section
variable{X:Cx}
def y3:V->List V->Hp->VK->Prop:=λx vs H Q=>∃l xs y,x=.ref l/\vs=[y]/\H l=some (.lst xs)/\xs.length<sizeLine/\Q .non (upd H l (.lst (xs++[y])))
theorem mt_append:MtM X "list.append" y3:=by
 intro pins s σ H x vs v us Q I rx rv h;obtain⟨l,xs,y,rfl,rfl,hH,hz,q⟩:=h;cases rx;obtain⟨u,rfl,ru⟩:=rv.one;obtain⟨z,its,n,r,hl,e⟩:=I.lstM hH;refine call_meets F.slot_list_append ⟨_,e,rfl⟩ F.entry_list_append (F.args_list_append_2 _ _) (PySem.list_append l its.toArray n u (by rw[wB];omega)) ⟨e,?_⟩;refine⟨.non,_,I.lset (its':=its++[u]) hH e (by simp) (r.append (.cons ru .nil)) ?_,rfl,q⟩;rw[List.length_append,List.length_singleton];omega
def rPop:V->List V->Hp->VK->Prop:=λx vs H Q=>∃l xs y,x=.ref l/\vs=[]/\H l=some (.lst xs)/\xs[xs.length-1]?=some y/\Q y (upd H l (.lst xs.dropLast))
theorem mt_pop:MtM X "list.pop" rPop:=by
 intro pins s σ H x vs v us Q I rx rv h;obtain⟨l,xs,y,rfl,rfl,hH,hy,q⟩:=h;cases rx;have hus:=rv.zero;subst hus;obtain⟨z,its,n,r,hl,e⟩:=I.lstM hH;obtain⟨u,hu,ru⟩:=r.get hy;have hy':its.toArray[its.toArray.size-1]?=some u:=by
  show its.toArray[its.length-1]?=some u;rw[<-Array.getElem?_toList,<-hl];exact hu
 refine call_meets F.slot_list_pop ⟨_,e,rfl⟩ F.entry_list_pop (F.args_list_pop_1 _) (MeetsSeq.list_pop_last l its.toArray n u hy' (by rw[wB];omega)) ⟨e,?_⟩;refine⟨y,_,I.lset (its':=its.dropLast) hH e ?_ r.dropLast ?_,ru,q⟩
 ·show its.toArray.eraseIdxIfInBounds (its.toArray.size-1)=its.dropLast.toArray;rw[wB,List.eraseIdxIfInBounds_toArray,E8]
 ·rw[List.length_dropLast];omega
def rPopAt:V->List V->Hp->VK->Prop:=λx vs H Q=>∃l xs i k y,x=.ref l/\vs=[.int i]/\H l=some (.lst xs)/\-(2 ^ 63)<=i/\i<2 ^ 63/\seqIndex? i xs.length=some k/\xs[k]?=some y/\Q y (upd H l (.lst (xs.eraseIdx k)))
theorem mt_popAt:MtM X "list.pop" rPopAt:=by
 intro pins s σ H x vs v us Q I rx rv h;obtain⟨l,xs,i,k,y,rfl,rfl,hH,h1,h2,hk,hy,q⟩:=h;cases rx;obtain⟨u,rfl,ru⟩:=rv.one;obtain⟨t,rfl⟩:=ru;obtain⟨z,its,n,r,hl,e⟩:=I.lstM hH;obtain⟨w,hw,rw'⟩:=r.get hy;refine call_meets F.slot_list_pop ⟨_,e,rfl⟩ F.entry_list_pop (F.args_list_pop_2 _ _)
  (MeetsSeq.list_pop_at l its.toArray n i t k w (fitsIndex_both h1 h2) (by rw[wB,<-hl];exact hk) (by rw[<-Array.getElem?_toList];exact hw) (by rw[wB];omega)) ⟨e,?_⟩
 refine⟨y,_,I.lset (its':=its.eraseIdx k) hH e ?_ (r.eraseIdx k) ?_,rw',q⟩
 ·show its.toArray.eraseIdxIfInBounds k=(its.eraseIdx k).toArray;rw[List.eraseIdxIfInBounds_toArray]
 ·have:=Zg xs k;omega
def rReverse:V->List V->Hp->VK->Prop:=λx vs H Q=>∃l xs,x=.ref l/\vs=[]/\H l=some (.lst xs)/\Q .non (upd H l (.lst xs.reverse))
theorem mt_reverse:MtM X "list.reverse" rReverse:=by
 intro pins s σ H x vs v us Q I rx rv h;obtain⟨l,xs,rfl,rfl,hH,q⟩:=h;cases rx;have hus:=rv.zero;subst hus;obtain⟨z,its,n,r,hl,e⟩:=I.lstM hH;refine call_meets F.slot_list_reverse ⟨_,e,rfl⟩ F.entry_list_reverse (F.args_list_reverse_1 _) (AutoSeq1.list_reverse_list_0 l its.toArray n (by rw[wB];omega)) ⟨e,?_⟩;refine⟨.non,_,I.lset (its':=its.reverse) hH e (by simp) r.reverse ?_,rfl,q⟩;rw[List.length_reverse];omega
def rClear:V->List V->Hp->VK->Prop:=λx vs H Q=>∃l xs,x=.ref l/\vs=[]/\H l=some (.lst xs)/\Q .non (upd H l (.lst []))
theorem mt_clear:MtM X "list.clear" rClear:=by
 intro pins s σ H x vs v us Q I rx rv h;obtain⟨l,xs,rfl,rfl,hH,q⟩:=h;cases rx;have hus:=rv.zero;subst hus;obtain⟨z,its,n,r,hl,e⟩:=I.lstM hH;refine call_meets F.slot_list_clear ⟨_,e,rfl⟩ F.entry_list_clear (F.args_list_clear_1 _) (AutoSeq1.list_clear_list_0 l its.toArray n (by rw[wB];omega)) ⟨e,?_⟩;exact⟨.non,_,I.lset (its':=[]) (ys:=[]) hH e rfl .nil (Nat.zero_le _),rfl,q⟩
noncomputable def rCat:R2:=λx y H Q=>∃l b xs zs,x=.ref l/\y=.ref b/\H l=some (.lst xs)/\H b=some (.lst zs)/\xs.length+zs.length<=sizeLine/\∀p,H p=none->Q (.ref p) (upd H p (.lst (xs++zs)))
theorem op_cat:OpR X (binaryOp .Add) rCat:=by
 intro pins s σ H x y v u Q I rx ry h;obtain⟨l,b,xs,zs,rfl,rfl,hH,hB,hz,q⟩:=h;cases rx;cases ry;obtain⟨z,its,n,r,hl,e⟩:=I.lstM hH;obtain⟨z2,its2,n2,r2,hl2,e2⟩:=I.lstM hB;refine PySem.P.add_list e e2 ?_ (by rw[wB,wB];omega);have ea:its.toArray++its2.toArray=(its++its2).toArray:=by simp
 rw[ea];exact⟨.ref _,_,I.lnew (t':=s.toks) (r.append r2) (by rw[List.length_append];omega),rfl,q _ I.fresh⟩
noncomputable def rRep:R2:=λx y H Q=>∃l k xs,x=.ref l/\y=.int k/\H l=some (.lst xs)/\-(2 ^ 63)<=k/\k<2 ^ 63/\xs.length*k.toNat<=sizeLine/\
 ∀p,H p=none->Q (.ref p) (upd H p (.lst (List.replicate k.toNat xs).flatten))
theorem j7{α:Type}(xs:List α)(k:Nat):(List.replicate k xs).flatten.length=k*xs.length:=by
 induction k with
 |zero=>simp
 |succ k ih=>rw[List.replicate_succ,List.flatten_cons,List.length_append,ih,Nat.succ_mul,Nat.add_comm]
theorem op_rep:OpR X (binaryOp .Mult) rRep:=by
 intro pins s σ H x y v u Q I rx ry h;obtain⟨l,k,xs,rfl,rfl,hH,h1,h2,hz,q⟩:=h;cases rx;obtain⟨t,rfl⟩:=ry;obtain⟨z,its,n,r,hl,e⟩:=I.lstM hH;have hlen:its.toArray.size*k.toNat<=sizeLine:=by rw[wB,<-hl];exact hz
 have hcap:¬ its.toArray.size*k.toNat>(2 ^ 63-1) / 8:=by
  have:(sizeLine:Nat)<=(2 ^ 63-1) / 8:=by decide
  omega
 have hfit:¬ (!Builtin.List.listFitsIndex k)=true:=by
  rw[fitsIndex_both h1 h2];exact wT
 have hlong:¬ Builtin.List.listTooLong (its.toArray.size*k.toNat)=true:=by
  rw[W8 hlen];exact wT
 have hnew:List.foldl (λx1 x2=>x1++x2) #[] (List.replicate (if its.toArray.isEmpty=true then 0 else k.toNat) its.toArray)=(List.replicate k.toNat its).flatten.toArray:=by
  have f0:∀m:Nat,List.foldl (λx1 x2=>x1++x2) #[] (List.replicate m its.toArray)=(List.replicate m its).flatten.toArray:=λm=>by
   have:=Zh its m [];rw[List.nil_append]at this;exact this
  rw[f0];cases its with
  |nil=>simp
  |cons a r'=>rw[if_neg (by simp)]
 refine wpAny_binaryOp_repeat_ref (T:="list") (U:="int") (by decide) ⟨_,e,rfl⟩ (λs'=>typeIs_int s' k t) noFill_list_mul F.fills_int_mul F.slot_int_rmul repeat_list F.slot_int_index.lookup
  (call_meets F.slot_int_rmul (typeIs_int s k t) F.entry_int_rmul (F.args_int_rmul_2 _ _) (int___rmul___int_list k t l its.toArray n)
   ⟨e,rfl,⟨_,e,rfl⟩,call_meets F.slot_list_mul ⟨_,e,rfl⟩ F.entry_list_mul (F.args_list_mul_2 _ _) (AutoListH.list___mul___list_int_3 l its.toArray n k t hfit hcap hlong) ⟨e,?_⟩⟩)
 rw[hnew];exact⟨.ref _,_,I.lnew (t':=s.toks) (r.rep k.toNat) (by rw[j7,Nat.mul_comm];exact hz),rfl,q _ I.fresh⟩
end
end L2
namespace Att
open PySem PySem.W PySem.Calls PyProof.Rows
theorem jx{P:Params}{h:Heap}:∀(ns:List Int) (vs:List Value),WellAll P h vs (ns.map WData.int)->IntsAre vs ns:=by
 intro ns
 induction ns with
 |nil=>
  intro vs w;rw[List.map_nil]at w;cases w;exact .nil
 |cons n ns ih=>
  intro vs w;rw[List.map_cons]at w;cases w with
  |cons a b=>
   cases a;exact .cons _ _ (ih _ b)
theorem O8{l:OpenLaw}{n:Nat}(hn:l.most=some n){P:Params}{h:Heap}{args:List WData}{vals:List Value}
  (hpre:l.row.toRowW.claim.pre args=true) (hwl:WellAll P h vals args):
  ∃a vs ns,vals=[Value.ref a]/\args=[WData.list (ns.map WData.int)]/\h.get? a=some { cls:=.type "list",data:=.seq vs.toArray }/\IntsAre vs ns/\ns.length<=n:=by
 have hsh:WShape.hasAll [] args [.list .int]=true:=(pre_splitW hpre).1;have hc:l.pre.holds [] { args:=args }=true:=(pre_splitW hpre).2;obtain⟨d,r,rfl,h1,h2⟩:=hasAllW_cons hsh;obtain rfl:=hasAllW_nil h2;obtain⟨xs,rfl,h3⟩:=hasW_list h1;obtain⟨ns,rfl⟩:=items_int h3;have hlen:ns.length<=n:=by
  unfold OpenLaw.pre at hc;have h4:(WTm.not (.lt (.lit (.int (n:Int))) (.len (.arg 0)))).holds [] { args:=[.list (ns.map .int)] }=true:=by
   have h4:=(holds_andW hc).1;rw[hn]at h4;exact h4
  have h5:=condW_of h4 (w_not (w_lt w_lit (w_len_list (w_arg rfl))));rw[wG]at h5;refine Nat.le_of_not_lt λq=>?_;have q':(n:Int)<((ns.length:Nat):Int):=by omega
  first
   | (rw[wz q']at h5;exact absurd h5 (by decide))
   | (simp at h5;omega)
 cases hwl with
 |cons w1 w2=>
  cases w2;cases w1 with
  |list ho hall=>exact⟨_,_,ns,rfl,rfl,ho,jx ns _ hall,hlen⟩
theorem K6(l:OpenLaw)(args:List WData):l.row.toRowW.claim.post args (.bool true) args=true:=
 postW_of (r:=l.row.toRowW) (X:=(true==true))
  (show WShape.has [] (.bool true) .bool=true by first|rfl|decide|simp[WShape.has,WShape.arms,WShape.armsAll])
  (show (WTm.eq .res (.lit (.bool true))).value [] { args:=args,res:=some (.bool true),after:=args }=some (.bool (true==true)) from w_eq_bool (w_res rfl) w_lit) rfl
theorem attach_call{l:OpenLaw}{n:Nat}{q:Program}{loose:List Str}{XP:(Str->Option Value)->Heap->Prop}{YP:World->Heap->Prop}{d:DefRec}
  (hn:l.most=some n) (hdf:d.params.defaults=[])
  (call:∀(w:World) (s₀ s₁:Shared) (mg mb:Str->Option Value) (fa:Addr) (o:Obj) (pm cd doc:Value) (a:Addr) (vs:List Value) (ns:List Int),
   Ground q loose [] XP w s₀ mg mb s₁.heap->YP w s₁.heap ->
   s₁.heap.get? fa=some o->o.data=.func (docDef d.name d.params d.body d.scope pm cd doc)->s₁.heap.CodeRec cd d.name->mg d.name=some (.ref fa) ->
   s₁.heap.get? a=some { cls:=.type "list",data:=.seq vs.toArray }->IntsAre vs ns->ns.length<=n->s₁.gens=#[] ->
   codeAny (model l.prog w) callerA (.call (.ref fa) ⟨[.ref a],[]⟩) (λr s'=>r=.ok (.ret (.bool true))/\OldK s₁.heap s'.heap/\s'.os=s₁.os/\AllBare s'.gens) s₁):
  WalkO q loose XP YP l.row.toRowW d [] (λf vs=>PySem.call f vs):=by
 intro w s₀ s₁ mg mb G Y fa o pm cd doc dV kV ho hd hcd hD hmg hg args vals as hpre hlay hrd hwl hlo;obtain rfl:dV=.none:=Dflts.none hD hdf;obtain rfl:kV=.none:=Dflts.noKw hD;obtain⟨a,vs,ns,rfl,rfl,hobj,hints,hlen⟩:=O8 hn hpre hwl;refine enter_call (codeAny_mono (call w s₀ s₁ mg mb fa o pm cd doc a vs ns G Y ho (fd_plain hd) hcd hmg hobj hints hlen hg) λr s' hq=>?_);obtain⟨rfl,h2,h3,h4⟩:=hq;exact⟨.inl ⟨.bool true,.bool true,[],rfl,λ_=>rfl,.bool true,K6 l _,λ_=>⟨List.Pairwise.nil,λ_ hm=>(nomatch hm)⟩⟩,h2,h3,h4⟩
end Att
namespace L2
open PySem PySem.Spec PyProof.Rows
theorem jM:∀{vs:List Value}{ns:List Int},IntsAre vs ns->Vals (ns.map V.int) vs
 |_,_,.nil=>.nil
 |_,_,.cons n t h=>.cons ⟨t,rfl⟩ (jM h)
def Only(H:Hp):Prop:=∀b,H b=none\/∃o xs,H b=some (.frz o (.lst xs))
theorem U1{P:Program}{w:World}{K:PySem.W.Frag}{mg mb:Str->Option Value}{CX:CXT}{k:Nat}{fa a:Addr}{fd:FuncData}{x:Str}{sp:Sp}{s₁:Shared}{vs:List Value}{ns:List Int}
  (KX:K.In s₁.heap) (hns:s₁.heap.Ns mainGlobals mg) (hb:s₁.heap.Ns builtinsNs mb) (hbb:∀x:Str,x≠"__name__" -> mb x=bootBuiltins x) (hlim:s₁.heap.NoLimit) (hg:s₁.gens=#[])
  (ha:s₁.heap.get? a=some { cls:=.type "list",data:=.seq vs.toArray }) (hi:IntsAre vs ns) (hl:ns.length<=sizeLine) (hr:Room k callerA)
  (F:∀base:Heap,K.In base->base.Ns mainGlobals mg->FnOk P w K mg base CX k fa fd [x] sp) (hbind:∀(s:Shared) (u:Value),BindsTo s fd ⟨[u],[]⟩ [(x,u)])
  (hsp:∀H:Hp,Only H->SqL K H a (ns.map V.int)->sp [.ref a] H (λv _=>v=.bl true) λ_ _ _=>False)
  (hCX:∀H e s',CX [] H s₁ (λ_ _ _=>False) e s'->False):
  codeAny (model P w) callerA (.call (.ref fa) ⟨[.ref a],[]⟩) (λr s'=>r=.ok (.ret (.bool true))/\OldK s₁.heap s'.heap/\s'.os=s₁.os/\AllBare s'.gens) s₁:=by
 have rv:=jM hi;have lenV:=hi.length;have core:∀H:Hp,Only H->SqL K H a (ns.map V.int)->HOk P w H s₁.heap->(∀b,H b≠none->b=a)->(H a≠none->K.lookup a=none) ->
   codeAny (model P w) callerA (.call (.ref fa) ⟨[.ref a],[]⟩) (λr s'=>r=.ok (.ret (.bool true))/\OldK s₁.heap s'.heap/\s'.os=s₁.os/\AllBare s'.gens) s₁:=by
  intro H hO hS hok hA hK;have base_of:∀{b:Addr}{o:Obj},s₁.heap.get? b=some o->H b=none->(W7 s₁.heap H).get? b=some o:=λe n=>T2 e n;have noA:∀{b:Addr}{o:Obj}{es:Array DictEntry}{ep:Nat},s₁.heap.get? b=some o->o.data=.dict es ep->H b=none:=λ{b o es ep} e d=>by
   cases q:H b with
   |none=>rfl
   |some u=>
    have e':b=a:=hA b (by rw[q];simp);subst e';rw[ha]at e;cases e;have d':Data.seq vs.toArray _=Data.dict es ep:=d;cases d'
  have nsK:∀{b:Addr}{m:Str->Option Value},s₁.heap.Ns b m->(W7 s₁.heap H).Ns b m:=λ{b m} ⟨o,es,ep,e,d,r⟩=>⟨o,es,ep,base_of e (noA e d),d,r⟩
  have hKb:K.In (W7 s₁.heap H):=λb o e=>base_of (KX b o e) (by
   cases q:H b with
   |none=>rfl
   |some u=>
    have e':b=a:=hA b (by rw[q];simp);subst e';rw[hK (by rw[q];simp)]at e;cases e)
  have hM:Mod K mg (W7 s₁.heap H):=⟨hKb,nsK hns,⟨mb,nsK hb,hbb⟩,let ⟨mc,h1,h2⟩:=hlim;⟨mc,nsK h1,h2⟩⟩
  have e0:Env0 P w K mg (W7 s₁.heap H) callerA [] s₁ H:=⟨rfl,hM,λb o e=>v7 e,Nat.le_of_eq (K7 _ _),trivial,λb hb=>absurd (show b∈([]:List Addr) from hb) (by simp),hok,.of_eq hg⟩
  refine codeAny_mono ((F _ hKb (nsK hns)).run callerA [] s₁ H ⟨[.ref a],[]⟩ [.ref a] [.ref a] _ _ hr e0 (hbind s₁ (.ref a)) (.cons rfl .nil) (hsp H hO hS)) λr s' h=>?_;cases r with
  |error e=>exact(hCX H e s' h).elim
  |ok fl=>
   cases fl with
   |next=>exact False.elim h
   |brk=>exact False.elim h
   |cont=>exact False.elim h
   |ret u=>
    obtain⟨v,H',os,bare,un,hok',r',q⟩:=h;have q':v=.bl true:=q;subst q';obtain rfl:u=Value.bool true:=r';refine⟨rfl,OldK.of_keep λb o e=>?_,os,bare⟩;cases q:H b with
    |none=>exact un.keep b o e q (by intro z;exact absurd (show b∈([]:List Addr) from z) (by simp)) (by simp)
    |some u=>
     rcases hO b with z|⟨ob,xs,z⟩
     ·rw[q]at z;cases z
     ·have z2:=un.frzs b ob _ z;obtain⟨e1,_⟩:=hok b _ z;obtain⟨e2,_⟩:=hok' b _ z2;rw[e]at e1;cases e1;exact e2
 cases hk:K.lookup a with
 |some o=>
  have e:=KX a o hk;rw[ha]at e;cases e;refine core (λ_=>none) (λ_=>.inl rfl) (.inr ⟨_,vs.toArray,_,hk,rfl,rfl,rfl,by rw[wB,lenV];exact hl,by simpa using rv⟩) (λb u z=>by have z':(none:Option HO)=some u:=z;cases z') (λb z=>absurd rfl z) λz=>absurd rfl z
 |none=>
  refine core (λb=>if b=a then some (.frz { cls:=.type "list",data:=.seq vs.toArray } (.lst (ns.map V.int))) else none) (λb=>?_) (.inl (.inr ⟨{ cls:=.type "list",data:=.seq vs.toArray },if_pos rfl⟩)) (λb u z=>?_) (λb z=>?_) λ_=>hk
  ·by_cases hb:b=a
   ·exact .inr ⟨_,_,if_pos hb⟩
   ·exact .inl (if_neg hb)
  ·by_cases hb:b=a
   ·have z':=(if_pos hb).symm.trans z;cases z';subst hb;exact⟨ha,by rw[wG];exact hl,vs,_,rv,ha⟩
   ·have z':=(if_neg hb).symm.trans z;cases z'
  ·by_cases hb:b=a
   ·exact hb
   ·exact absurd (if_neg hb) z
theorem walk_of{l:PySem.W.OpenLaw}{n k:Nat}{q:Program}{loose:List Str}{XP:(Str->Option Value)->Heap->Prop}{YP:World->Heap->Prop}{d:DefRec}{K:Params->PySem.W.Frag}{CX:World->CXT}{sp:World->Sp}{x:Str}
  (hn:l.most=some n) (hn2:n<=sizeLine) (hdf:d.params.defaults=[]) (hr:Room k callerA)
  (hY:∀(w:World) (h:Heap),YP w h->(K w.params).In h)
  (F:∀(w:World) (mg:Str->Option Value) (fa:Addr) (h:Heap),(K w.params).In h->h.Ns mainGlobals mg->mg d.name=some (.ref fa) ->
   ∃fd:FuncData,(∀(s:Shared) (u:Value),BindsTo s fd ⟨[u],[]⟩ [(x,u)])/\
    ∀base:Heap,(K w.params).In base->base.Ns mainGlobals mg->FnOk l.prog w (K w.params) mg base (CX w) k fa fd [x] (sp w))
  (hsp:∀(w:World) (H:Hp) (a:Addr) (ns:List Int),ns.length<=n->Only H->SqL (K w.params) H a (ns.map V.int)->sp w [.ref a] H (λv _=>v=.bl true) λ_ _ _=>False)
  (hCX:∀(w:World) (H:Hp) (s:Shared) (e:Value) (s':Shared),CX w [] H s (λ_ _ _=>False) e s'->False):
  PySem.W.WalkO q loose XP YP l.row.toRowW d [] (λf vs=>PySem.call f vs):=by
 refine Att.attach_call hn hdf λw s₀ s₁ mg mb fa o pm cd doc a vs ns G Y ho hd hcd hmg hobj hints hlen hg=>?_;have KX:=hY w _ Y;obtain⟨fd,hb,hF⟩:=F w mg fa _ KX G.T.g hmg;exact U1 KX G.T.g G.T.b G.T.builtins G.T.nolimit hg hobj hints (Nat.le_trans hlen hn2) hr hF hb (λH hO hS=>hsp w H a ns hlen hO hS) λH e s'=>hCX w H s₁ e s'
noncomputable def zL(s:Stmt):Arguments:=match s with
 | .FunctionDef _ a _ _ _ _ _ _ _ _=>a
 |_=>{ posonlyargs:=[],args:=[],vararg:=none,kwonlyargs:=[],kw_defaults:=[],kwarg:=none,defaults:=[] }
noncomputable def defBody(s:Stmt):List Stmt:=match s with
 | .FunctionDef _ _ b _ _ _ _ _ _ _=>b
 |_=>[]
noncomputable def defScope(s:Stmt):Scope:=match s with
 | .FunctionDef _ _ _ _ _ _ sc _ _ _=>sc
 |_=>{ kind:=.function,names:=[],isGenerator:=false,isCoroutine:=false }
noncomputable abbrev CX0:CXT:=λ_ _ _ _ _ _=>False
noncomputable abbrev E0:XK:=λ_ _ _=>False
theorem pass0{X:Cx}:A0 CX0 X E0:=λ_ _ _ _ _ _ _ h=>h.elim
structure Fun(K:PySem.W.Frag)(x qual:Str)(st:Stmt)(f:Addr)(fd:FuncData):Prop where
 ex:∃(oc:Value) (od:Option Addr) (kV doc pm:Value) (an:Option Addr) (cdv ct:Value) (osl:Array (Option Value)),
  fd=PySem.W.fnOf x qual (zL st) (defBody st) (defScope st) .none kV doc pm an cdv ct/\K.lookup f=some ⟨oc,od,.func fd,osl⟩/\PySem.W.codeIn K cdv qual=true
 kp:PySem.W.keepIn K (.ref f)=true
section
variable{P:Program}{w:World}{K:PySem.W.Frag}{mg:Str->Option Value}{base:Heap}
theorem Fun.ok{x qual:Str}{st:Stmt}{f:Addr}{fd:FuncData}{N ps:List Str}{k:Nat}{sp:Sp}(F:Fun K x qual st f fd)(S:zE N ps (defScope st))(len:∀vs H Q E,sp vs H Q E->vs.length=ps.length)
  (hbody:∀(cdv:Value) (A:Around) (outer:List Env) (s:Shared) (H:Hp) (vs:List V) (Q:VK) (E:XK),Room k (A.deeper (envOfC qual (defScope st) s.heap.objs.size f cdv))->sp vs H Q E ->
   ∃t,PSs (cxOf CX0 P w K mg base N qual (defScope st) f cdv A outer s H E).nox (defBody st) t/\t { nx:=λ_ H'=>Q .non H',rt:=Q } (start N vs) H):FnOk P w K mg base CX0 (k+1) f fd ps sp:=by
 obtain⟨oc,od,kV,doc,pm,an,cdv,ct,osl,rfl,lk,hcd⟩:=F.ex;refine qCO lk hcd S len λA outer s H vs Q E hr hsp=>?_;obtain⟨t,h,q⟩:=hbody cdv A outer s H vs Q E hr hsp;exact⟨t,h.nox,q⟩
theorem Fun.binds{x qual:Str}{st:Stmt}{f:Addr}{fd:FuncData}{ps:List Str}(F:Fun K x qual st f fd)
  (h:∀(kV doc pm:Value) (an:Option Addr) (cdv ct:Value) (us:List Value),us.length=ps.length->bindArgs (PySem.W.fnOf x qual (zL st) (defBody st) (defScope st) .none kV doc pm an cdv ct) ⟨us,[]⟩=pure (ps.zip us)):Binds K fd ps []:=by
 obtain⟨oc,od,kV,doc,pm,an,cdv,ct,osl,rfl,lk,hcd⟩:=F.ex;exact .all (h kV doc pm an cdv ct)
theorem X6{x qual:Str}{st:Stmt}{f:Addr}{oc:Value}{od an:Option Addr}{osl:Array (Option Value)}{kV doc pm cdv ct:Value}(l:K.lookup f=some ⟨oc,od,.func (PySem.W.fnOf x qual (zL st) (defBody st) (defScope st) .none kV doc pm an cdv ct),osl⟩)
  (c:PySem.W.codeIn K cdv qual=true) (k:PySem.W.keepIn K (.ref f)=true):Fun K x qual st f (PySem.W.fnOf x qual (zL st) (defBody st) (defScope st) .none kV doc pm an cdv ct):=⟨⟨oc,od,kV,doc,pm,an,cdv,ct,osl,rfl,l,c⟩,k⟩
end
def QP(H H':Hp):Prop:=∀b o,H b=some o->H' b=some o
section
variable{κ:Type}[DecidableEq κ]
noncomputable def valV(kvs:List (κ×V))(k:κ):Option V:=(kvs.find? λkv=>decide (kv.1=k)).map (·.2)
noncomputable def putK(kvs:List (κ×V))(k:κ)(v:V):List (κ×V):=
 if (kvs.any λkv=>decide (kv.1=k))=true then kvs.map (λkv=>if kv.1=k then (kv.1,v) else kv) else kvs++[(k,v)]
noncomputable def qBX(kvs:List (κ×V))(k:κ):List (κ×V):=kvs.filter λkv=>decide (kv.1≠k)
theorem ZG{p:κ×V}{r:List (κ×V)}{k:κ}(e:p.1=k):valV (p::r) k=some p.2:=by simp[valV,List.find?_cons,e]
theorem Qy{p:κ×V}{r:List (κ×V)}{k:κ}(e:¬ p.1=k):valV (p::r) k=valV r k:=by simp[valV,List.find?_cons,e]
theorem valV_any(k:κ):∀kvs:List (κ×V),(kvs.any λkv=>decide (kv.1=k))=(valV kvs k).isSome
 | []=>rfl
 |p::r=>by
  rw[List.any_cons];by_cases e:p.1=k
  ·simp only[ZG e,wz e,Bool.true_or,Option.isSome_some]
  ·rw[Qy e,wy e,Bool.false_or];exact valV_any k r
theorem QO(kvs:List (κ×V))(k:κ)(v:V):(putK kvs k v).length<=kvs.length+1:=by
 unfold putK;split
 ·rw[wG];omega
 ·rw[List.length_append,List.length_cons,List.length_nil];omega
theorem RelO.isSome_eq{o:Option V}{u:Option Value}(r:RelO o u):o.isSome=u.isSome:=by
 cases o with
 |none=>cases u with
  |none=>rfl
  |some _=>exact(show False from r).elim
 |some _=>cases u with
  |none=>exact(show False from r).elim
  |some _=>rfl
theorem RelO.getD{o:Option V}{u:Option Value}{d:V}{d':Value}(r:RelO o u)(rd:RelV d d'):RelV (o.getD d) (u.getD d'):=by
 cases o with
 |none=>cases u with
  |none=>exact rd
  |some _=>exact(show False from r).elim
 |some _=>cases u with
  |none=>exact(show False from r).elim
  |some _=>exact r
theorem KV.val{kvs:List (κ×V)}{vs:List (κ×Value)}(r:KV kvs vs)(k:κ):RelO (valV kvs k) (valueAt vs k):=by
 unfold KV at r
 induction r with
 |nil=>exact True.intro
 | @cons p q ps qs h t ih=>
  obtain⟨h1,h2⟩:=h;by_cases e:p.1=k
  ·have e':q.1=k:=h1.symm.trans e;have b:valueAt (q::qs) k=some q.2:=by simp[valueAt,List.find?_cons,e']
   rw[ZG e,b];exact h2
  ·have e':¬ q.1=k:=λz=>e (h1.trans z);have b:valueAt (q::qs) k=valueAt qs k:=by simp[valueAt,List.find?_cons,e']
   rw[Qy e,b];exact ih
theorem KV.any{kvs:List (κ×V)}{vs:List (κ×Value)}(r:KV kvs vs)(k:κ):(kvs.any λkv=>decide (kv.1=k))=vs.any λkv=>decide (kv.1=k):=by
 unfold KV at r
 induction r with
 |nil=>rfl
 |cons h t ih=>rw[List.any_cons,List.any_cons,ih,h.1]
theorem KV.repl{kvs:List (κ×V)}{vs:List (κ×Value)}(r:KV kvs vs)(k:κ){y:V}{u:Value}(ry:RelV y u):
  KV (kvs.map λkv=>if kv.1=k then (kv.1,y) else kv) (vs.map λkv=>if kv.1=k then (kv.1,u) else kv):=by
 unfold KV at r ⊢
 induction r with
 |nil=>exact .nil
 | @cons p q ps qs h t ih=>
  rw[List.map_cons,List.map_cons];refine .cons ?_ ih;obtain⟨h1,h2⟩:=h;by_cases e:p.1=k
  ·rw[if_pos e,if_pos (h1.symm.trans e)];exact⟨h1,ry⟩
  ·rw[if_neg e,if_neg (λz=>e (h1.trans z))];exact⟨h1,h2⟩
theorem KV.put{kvs:List (κ×V)}{vs:List (κ×Value)}(r:KV kvs vs)(k:κ){y:V}{u:Value}(ry:RelV y u):KV (putK kvs k y) (stored vs k u):=by
 unfold putK stored;rw[r.any k];by_cases e:(vs.any λkv=>decide (kv.1=k))=true
 ·rw[if_pos e,if_pos e];exact r.repl k ry
 ·rw[if_neg e,if_neg e];exact Paired.snoc r ⟨rfl,ry⟩
theorem KV.drop{kvs:List (κ×V)}{vs:List (κ×Value)}(r:KV kvs vs)(k:κ):KV (qBX kvs k) (without vs k):=by
 unfold KV at r ⊢;unfold qBX without
 induction r with
 |nil=>exact .nil
 | @cons p q ps qs h t ih=>
  obtain⟨h1,h2⟩:=h;rw[List.filter_cons,List.filter_cons];by_cases e:p.1=k
  ·have a:¬ decide (p.1≠k)=true:=by simp[e]
   have b:¬ decide (q.1≠k)=true:=by simp[h1.symm.trans e]
   rw[if_neg a,if_neg b];exact ih
  ·have e':¬ q.1=k:=λz=>e (h1.trans z);have a:decide (p.1≠k)=true:=by simp[e]
   have b:decide (q.1≠k)=true:=by simp[e']
   rw[if_pos a,if_pos b];exact .cons ⟨h1,h2⟩ ih
theorem KV.length{kvs:List (κ×V)}{vs:List (κ×Value)}(r:KV kvs vs):kvs.length=vs.length:=Paired.length r
end
theorem S2{P:Program}{w:World}{k:Key}{u:Value}(r:RelV (kV k) u):(qm P w).is k u=true:=by
 cases k with
 |inl i=>obtain⟨t,e⟩:=(show ∃t,u=Value.int i t from r);subst e;exact JG P w i t
 |inr x=>obtain⟨t,e⟩:=(show ∃t,u=Value.str x t from r);subst e;exact JQ P w x t
theorem Zs{P:Program}{w:World}:∀{ks:List Key}{us:List Value},Vals (ks.map kV) us->ItemsAre (qm P w) ks us
 | [],_,r=>by rw[List.map_nil]at r;cases r;exact .nil
 |k::ks,_,r=>by
  rw[List.map_cons]at r;cases r with
  |cons h t=>exact .cons (S2 h) (Zs t)
abbrev KT(H:Hp):List (List Key×V)->List (List Key×Addr×Value)->Prop:=Paired λp q=>p.1=q.1/\H q.2.1=some (.tup (p.1.map kV))/\RelV p.2 q.2.2
theorem KT.val{H:Hp}{kvs:List (List Key×V)}{xs:List (List Key×Addr×Value)}(r:KT H kvs xs)(k:List Key):RelO (valV kvs k) ((atKey xs k).map (·.2)):=by
 induction r with
 |nil=>exact True.intro
 | @cons p q ps qs h t ih=>
  obtain⟨h1,_,h2⟩:=h;by_cases e:p.1=k
  ·have e':q.1=k:=h1.symm.trans e;have b:atKey (q::qs) k=some q.2:=by simp[atKey,List.find?_cons,e']
   rw[ZG e,b];exact h2
  ·have e':¬ q.1=k:=λz=>e (h1.trans z);have b:atKey (q::qs) k=atKey qs k:=by simp[atKey,List.find?_cons,e']
   rw[Qy e,b];exact ih
theorem KT.repl{H:Hp}{kvs:List (List Key×V)}{xs:List (List Key×Addr×Value)}(r:KT H kvs xs)(k:List Key){y:V}{u:Value}(ry:RelV y u):
  KT H (kvs.map λkv=>if kv.1=k then (kv.1,y) else kv) (xs.map (putAt k u)):=by
 induction r with
 |nil=>exact .nil
 | @cons p q ps qs h t ih=>
  rw[List.map_cons,List.map_cons];refine .cons ?_ ih;obtain⟨h1,h2,h3⟩:=h;unfold putAt;by_cases e:p.1=k
  ·rw[if_pos e,if_pos (h1.symm.trans e)];exact⟨h1,h2,ry⟩
  ·rw[if_neg e,if_neg (λz=>e (h1.trans z))];exact⟨h1,h2,h3⟩
theorem KT.put{H:Hp}{kvs:List (List Key×V)}{xs:List (List Key×Addr×Value)}(r:KT H kvs xs)(k:List Key){b:Addr}{y:V}{u:Value}(hb:H b=some (.tup (k.map kV)))(ry:RelV y u):
  KT H (putK kvs k y) (storedH xs k b u):=by
 have e:(kvs.any λkv=>decide (kv.1=k))=(atKey xs k).isSome:=by
  rw[valV_any,(r.val k).isSome_eq,Option.isSome_map]
 unfold putK storedH;rw[e];by_cases q:(atKey xs k).isSome=true
 ·rw[if_pos q,if_pos q];exact r.repl k ry
 ·rw[if_neg q,if_neg q];exact Paired.snoc r ⟨rfl,hb,ry⟩
theorem KT.keeps{H H':Hp}{kvs:List (List Key×V)}{xs:List (List Key×Addr×Value)}(r:KT H kvs xs)(ht:∀b ys,H b=some (.tup ys)->H' b=some (.tup ys)):KT H' kvs xs:=
 Paired.mapP r λ_ _ z=>⟨z.1,ht _ _ z.2.1,z.2.2⟩
section
variable{P:Program}{w:World}{H:Hp}{h:Heap}{a:Addr}
theorem qAz{u:HO}(ok:HOk P w H h)(e:Rd H a u):ObjOk P w H h a u:=e.ok ok
theorem o9{kvs:List (Key×V)}(ok:HOk P w H h)(e:Rd H a (.dK kvs)):kvs.length<=sizeLine/\(a==sysModules)=false/\∃vs,KV kvs vs/\h.DictOf (qm P w) a vs:=
 show ObjOk P w H h a (.dK kvs) from qAz ok e
theorem qCw{kvs:List (Key×V)}(ok:HOk P w H h)(e:H a=some (.dK kvs)):kvs.length<=sizeLine/\(a==sysModules)=false/\∃vs,KV kvs vs/\h.DictOf (qm P w) a vs:=o9 ok (.inl e)
theorem Jb{ks:List Key}(ok:HOk P w H h)(e:H a=some (.tup (ks.map kV))):(tupleKind (qm P w)).is h ks a:=by
 obtain⟨_,its,r,o,h1,h2,n,h3⟩:=(show ObjOk P w H h a (.tup (ks.map kV)) from ok a _ e)
 exact⟨o,its.toArray,n,h1,h2,h3,by simpa using Zs r⟩
theorem h8{kvs:List (List Key×V)}(ok:HOk P w H h)(e:Rd H a (.dT kvs)):kvs.length<=sizeLine/\(a==sysModules)=false/\
  ∃xs,KT H kvs xs/\h.DictOfH (tupleKind (qm P w)) a xs:=by
 obtain⟨z,y,xs,r,o,es,ep,h1,h2,h3,h4,h5⟩:=(show ObjOk P w H h a (.dT kvs) from qAz ok e)
 refine⟨z,y,xs,r,o,es,ep,h1,h2,h3,h4,λx hx=>?_,h5⟩;have all:∀{l:List (List Key×V)}{m:List (List Key×Addr×Value)},KT H l m->∀x∈m,(tupleKind (qm P w)).is h x.1 x.2.1:=by
  intro l m q
  induction q with
  |nil=>intro x hx;exact nomatch hx
  | @cons p q ps qs hq t ih=>
   intro x hx;rcases List.mem_cons.mp hx with e|hx
   ·subst e;exact Jb ok (by rw[<-hq.1];exact hq.2.1)
   ·exact ih x hx
 exact all r x hx
theorem qCM{kvs:List (List Key×V)}(ok:HOk P w H h)(e:H a=some (.dT kvs)):kvs.length<=sizeLine/\(a==sysModules)=false/\
  ∃xs,KT H kvs xs/\h.DictOfH (tupleKind (qm P w)) a xs:=h8 ok (.inl e)
end
def DGet(H:Hp)(a:Addr)(y:V)(r:Option V):Prop:=
 (∃kvs k,Rd H a (.dK kvs)/\y=kV k/\r=valV kvs k)\/∃kvs k b,Rd H a (.dT kvs)/\y=.ref b/\H b=some (.tup (k.map kV))/\r=valV kvs k
def DPut(H:Hp)(a:Addr)(y v:V)(H':Hp):Prop:=
 (∃kvs k,H a=some (.dK kvs)/\y=kV k/\kvs.length<sizeLine/\H'=upd H a (.dK (putK kvs k v)))\/
 ∃kvs k b,H a=some (.dT kvs)/\y=.ref b/\H b=some (.tup (k.map kV))/\kvs.length<sizeLine/\H'=upd H a (.dT (putK kvs k v))
theorem DGet.k{H:Hp}{a:Addr}{kvs:List (Key×V)}{k:Key}(e:H a=some (.dK kvs)):DGet H a (kV k) (valV kvs k):=.inl ⟨kvs,k,.inl e,rfl,rfl⟩
theorem DGet.t{H:Hp}{a b:Addr}{kvs:List (List Key×V)}{k:List Key}(e:H a=some (.dT kvs))(eb:H b=some (.tup (k.map kV))):DGet H a (.ref b) (valV kvs k):=.inr ⟨kvs,k,b,.inl e,rfl,eb,rfl⟩
theorem DPut.k{H:Hp}{a:Addr}{kvs:List (Key×V)}{k:Key}{v:V}(e:H a=some (.dK kvs))(hl:kvs.length<sizeLine):DPut H a (kV k) v (upd H a (.dK (putK kvs k v))):=.inl ⟨kvs,k,e,rfl,hl,rfl⟩
theorem DPut.t{H:Hp}{a b:Addr}{kvs:List (List Key×V)}{k:List Key}{v:V}(e:H a=some (.dT kvs))(eb:H b=some (.tup (k.map kV)))(hl:kvs.length<sizeLine):
  DPut H a (.ref b) v (upd H a (.dT (putK kvs k v))):=.inr ⟨kvs,k,b,e,rfl,eb,hl,rfl⟩
section
variable{X:Cx}{pins:List (Addr×Obj)}{σ:St}{H:Hp}{s:Shared}{a:Addr}{y v:V}{u r:Value}{o:Option V}{A:Around}{E:Value->Shared->Prop}
theorem d_in{Q:Value->Shared->Prop}(hu:A.units+1<cLine)(I:Inv X pins σ H s)(g:DGet H a y o)(ry:RelV y u)(h:∀s',Inv X pins σ H s'->Q (.bool o.isSome) s'):
  wpAny (model X.prog X.w) A (compareOp .In u (.ref a)) Q E s:=by
 rcases g with⟨kvs,k,e,ey,l⟩|⟨kvs,k,b,e,ey,eb,l⟩
 ·subst ey;obtain⟨z,hd,vs,rel,dd⟩:=o9 I.hok e;refine wpAny_in_of (S2 ry) hd dd.mapOf ?_;rw[<-(rel.val k).isSome_eq,<-l];exact h _ (I.tok _)
 ·subst ey;cases (show u=Value.ref b from ry);obtain⟨z,hd,xs,rel,dd⟩:=h8 I.hok e;refine wpAny_in_heap (tupleKind_room_in1 hu) (Jb I.hok eb) hd dd ?_;have q:=(rel.val k).isSome_eq;rw[Option.isSome_map]at q;rw[<-q,<-l];exact h _ (I.tok _)
theorem d_notIn{Q:Value->Shared->Prop}(hu:A.units+1<cLine)(I:Inv X pins σ H s)(g:DGet H a y o)(ry:RelV y u)(h:∀s',Inv X pins σ H s'->Q (.bool (!o.isSome)) s'):
  wpAny (model X.prog X.w) A (compareOp .NotIn u (.ref a)) Q E s:=by
 rcases g with⟨kvs,k,e,ey,l⟩|⟨kvs,k,b,e,ey,eb,l⟩
 ·subst ey;obtain⟨z,hd,vs,rel,dd⟩:=o9 I.hok e;refine wpAny_notIn_of (S2 ry) hd dd.mapOf ?_;rw[<-(rel.val k).isSome_eq,<-l];exact h _ (I.tok _)
 ·subst ey;cases (show u=Value.ref b from ry);obtain⟨z,hd,xs,rel,dd⟩:=h8 I.hok e;refine wpAny_notIn_heap (tupleKind_room_in1 hu) (Jb I.hok eb) hd dd ?_;have q:=(rel.val k).isSome_eq;rw[Option.isSome_map]at q;rw[<-q,<-l];exact h _ (I.tok _)
theorem K2{h':Heap}{t':Nat}{ob:HO}(I:Inv X pins σ H s)(mu:Mut (H a))(hs:Heap.SameBut a s.heap h')(he:∃q,h'.get? a=some q)(new:ObjOk X.prog X.w (upd H a ob) h' a ob):
  Inv X pins σ (upd H a ob) { s with heap:=h',toks:=t' }:=
 I.write (x:=a) (e:=a) mu (.inl rfl) (λb q hb z=>(hs.2 b hb).trans z) he new
theorem qBW{P:Program}{w:World}{H':Hp}{h':Heap}{kvs:List (Key×V)}{vs:List (Key×Value)}(z:kvs.length<=sizeLine)(hd:(a==sysModules)=false)(rel:KV kvs vs)(dd:h'.DictOf (qm P w) a vs):
  ObjOk P w H' h' a (.dK kvs):=⟨z,hd,vs,rel,dd⟩
theorem d_setItem{H':Hp}{Q:Unit->Shared->Prop}(hu:A.units+1<cLine)(I:Inv X pins σ H s)(g:DPut H a y v H')(ry:RelV y u)(rv:RelV v r)(h:∀s',Inv X pins σ H' s'->Q () s'):
  wpAny (model X.prog X.w) A (setItem (.ref a) u r) Q E s:=by
 rcases g with⟨kvs,k,e,ey,l,eH⟩|⟨kvs,k,b,e,ey,eb,l,eH⟩
 ·subst ey eH;obtain⟨z,hd,vs,rel,dd⟩:=qCw I.hok e;have hz:vs.length<=sizeLine:=by rw[<-rel.length];exact z
  have hl:(putK kvs k v).length<=sizeLine:=by have:=QO kvs k v;omega
  refine wpAny_setItem_pairs (hsz:=hz) (S2 ry) dd λh' dd' hs=>h _ ?_;have he:∃q,h'.get? a=some q:=let ⟨q,_,_,hq,_⟩:=dd';⟨q,hq⟩
  exact K2 I (by rw[e];exact True.intro) hs he (qBW hl hd (rel.put k rv) dd')
 ·subst ey eH;cases (show u=Value.ref b from ry);obtain⟨z,hd,xs,rel,dd⟩:=qCM I.hok e;have hz:xs.length<=sizeLine:=by rw[<-Paired.length rel];exact z
  have hl:(putK kvs k v).length<=sizeLine:=by have:=QO kvs k v;omega
  refine wpAny_setItem_heap (hsz:=hz) (tupleKind_room_in1 hu) (Jb I.hok eb) dd λh' dd' hs=>h _ ?_;obtain⟨q,es,ep,hq,h2,h3,h4,_,h5⟩:=dd';refine K2 I (by rw[e];exact True.intro) hs ⟨q,hq⟩ ⟨hl,hd,_,(rel.put k eb rv).keeps λc ys ec=>?_,q,es,ep,hq,h2,h3,h4,h5⟩;rw[qC (qCQ ec e (λz=>nomatch z))];exact ec
end
noncomputable def qAg(kvs more:List (Key×V)):List (Key×V):=more.foldl (λacc kv=>putK acc kv.1 kv.2) kvs
structure M1(X:Cx)(o:Expr)(m:Str)(apos:Pos)(e:Expr)(cpos:Pos):Prop where
 base:attributeBase o m X.env (eval o X.env)=eval o X.env
 few:((backTo cpos (starEach [e] X.env)).all (λx=>!x.1)&&(backToKw cpos (keywordEach [] X.env)).all (λx=>x.1.isSome)
  && decide (([e]:List Expr).length+([]:List Keyword).length+(if ([]:List Keyword).isEmpty then 0 else 1)<30))=true
 line:(apos.endLine==cpos.line)=true
 trees:backTo cpos (starEach [e] X.env)=[(false,eval e X.env)]
structure M2(X:Cx)(o:Expr)(m:Str)(apos:Pos)(e f:Expr)(cpos:Pos):Prop where
 base:attributeBase o m X.env (eval o X.env)=eval o X.env
 few:((backTo cpos (starEach [e,f] X.env)).all (λx=>!x.1)&&(backToKw cpos (keywordEach [] X.env)).all (λx=>x.1.isSome)
  && decide (([e,f]:List Expr).length+([]:List Keyword).length+(if ([]:List Keyword).isEmpty then 0 else 1)<30))=true
 line:(apos.endLine==cpos.line)=true
 trees:backTo cpos (starEach [e,f] X.env)=[(false,eval e X.env),(false,eval f X.env)]
end L2
set_option maxHeartbeats 4000000
namespace L2
open PySem PySem.Spec PyProof.Rows
theorem KV.len{kvs:List (Key×V)}{vs:List (Key×Value)}(r:KV kvs vs):vs.length=kvs.length:=(Paired.length r).symm
theorem KV.key{kvs:List (Key×V)}{vs:List (Key×Value)}(r:KV kvs vs){i:Nat}{k:Key×V}(e:kvs[i]?=some k):∃v,vs[i]?=some (k.1,v):=by
 induction r generalizing i with
 |nil=>simp at e
 |cons h t ih=>
  cases i with
  |zero=>cases e;exact⟨_,by rw[List.getElem?_cons_zero];congr 1;exact Prod.ext h.1.symm rfl⟩
  |succ i=>exact ih (by simpa using e)
noncomputable def G0(cells:List (Str×Addr)):List (Str×NameKind)->List (Str×Addr)->List (Str×Addr)
 | [],cs=>cs
 | (n,k)::r,cs=>G0 cells r (if k=.free then (match cells.lookup n with|some c=>(n,c)::cs|none=>cs) else cs)
theorem zV{scope:Scope}{env:Env}(h:∀y∈scope.names,y.2=.free->∃c,env.cells.lookup y.1=some c):closureFor scope env=pure (G0 env.cells scope.names []):=by
 simp only[closureFor];generalize scope.names=names at h;have key:∀(names:List (Str×NameKind)) (cs:List (Str×Addr)),(∀y∈names,y.2=.free->∃c,env.cells.lookup y.1=some c) ->
   (forIn names cs λx r=>if (x.2==NameKind.free)=true then do let c <- cellOf env x.1;pure (ForInStep.yield ((x.1,c)::r)) else pure (ForInStep.yield r))=(pure (G0 env.cells names cs):Sem _):=by
  intro names
  induction names with
  |nil=>intro cs _;rfl
  |cons y r ih=>
   intro cs hy;obtain⟨n,k⟩:=y;rw[List.forIn_cons];by_cases hk:k=.free
   ·subst hk;obtain⟨c,hc⟩:=hy (n,.free) List.mem_cons_self rfl;have hc':List.lookup n env.cells=some c:=hc;have e:cellOf env n=pure c:=by unfold cellOf;rw[hc']
    simp only[vD,if_true,e,pure_bind,G0,hc'];exact ih _ λy hm=>hy y (List.mem_cons_of_mem _ hm)
   ·have hb:(k==NameKind.free)=false:=by simpa using hk
    simp only[hb,Bool.false_eq_true,if_false,pure_bind,G0,if_neg hk];exact ih _ λy hm=>hy y (List.mem_cons_of_mem _ hm)
 rw[key names [] h];rfl
theorem Y4{cells:List (Str×Addr)}{x:Str}{c:Addr}:∀{names:List (Str×NameKind)}{cs:List (Str×Addr)},(G0 cells names cs).lookup x=some c->cs.lookup x=some c\/cells.lookup x=some c
 | [],cs,h=>.inl h
 | (n,k)::r,cs,h=>by
  unfold G0 at h;rcases Y4 h with h2|h2
  ·clear h;by_cases hk:k=.free
   ·rw[if_pos hk]at h2;cases e:cells.lookup n with
    |none=>rw[e]at h2;exact .inl h2
    |some c'=>
     rw[e]at h2;simp only[List.lookup_cons]at h2;cases hx:x==n with
     |true=>
      have hx':x=n:=by simpa using hx
      rw[hx]at h2;subst hx';cases h2;exact .inr e
     |false=>
      rw[hx]at h2;exact .inl h2
   ·rw[if_neg hk]at h2;exact .inl h2
  ·exact .inr h2
theorem Y5{cells:List (Str×Addr)}{x:Str}{c:Addr}(hc:cells.lookup x=some c):∀{names:List (Str×NameKind)}{cs:List (Str×Addr)},((x,NameKind.free)∈names\/cs.lookup x=some c)->(∀c',cs.lookup x=some c'->c'=c)->(G0 cells names cs).lookup x=some c
 | [],cs,h,_=>by
  rcases h with h|h
  ·exact nomatch h
  ·exact h
 | (n,k)::r,cs,h,hu=>by
  unfold G0;refine Y5 hc ?_ ?_
  ·rcases h with h|h
   ·rcases List.mem_cons.mp h with h|h
    ·cases h;right;rw[if_pos rfl,hc];simp
    ·exact .inl h
   ·right;by_cases hk:k=.free
    ·rw[if_pos hk];cases e:cells.lookup n with
     |none=>exact h
     |some c'=>
      simp only[List.lookup_cons];cases hx:x==n with
      |true=>
       have hx':x=n:=by simpa using hx
       subst hx';rw[hc]at e;cases e;rfl
      |false=>exact h
    ·rw[if_neg hk];exact h
  ·intro c' h';by_cases hk:k=.free
   ·rw[if_pos hk]at h';cases e:cells.lookup n with
    |none=>rw[e]at h';exact hu c' h'
    |some c2=>
     rw[e]at h';simp only[List.lookup_cons]at h';cases hx:x==n with
     |true=>
      have hx':x=n:=by simpa using hx
      subst hx';rw[hx]at h';rw[hc]at e;cases e;cases h';rfl
     |false=>
      rw[hx]at h';exact hu c' h'
   ·rw[if_neg hk]at h';exact hu c' h'
theorem jc{env:Env}:∀{names:List (Str×NameKind)}{x:Str},names.lookup x=some .free ->
  (names.map λ(n,k)=>if (k==NameKind.free&&env.scope.kind==.function&&env.kindOf n==some .cell) then (n,NameKind.cell) else (n,k)).lookup x=some .cell\/
  (names.map λ(n,k)=>if (k==NameKind.free&&env.scope.kind==.function&&env.kindOf n==some .cell) then (n,NameKind.cell) else (n,k)).lookup x=some .free
 | [],_,h=>by simp at h
 | (n,k)::r,x,h=>by
  have ih:=@jc env r x;simp only[List.map_cons];cases hx:x==n with
  |true=>
   simp only[List.lookup_cons,hx]at h;cases h;by_cases hc:(NameKind.free==NameKind.free&&env.scope.kind==.function&&env.kindOf n==some .cell)=true
   ·rw[if_pos hc];left;simp[List.lookup_cons,hx]
   ·rw[if_neg hc];right;simp[List.lookup_cons,hx]
  |false=>
   simp only[List.lookup_cons,hx]at h;by_cases hc:(k==NameKind.free&&env.scope.kind==.function&&env.kindOf n==some .cell)=true
   ·rw[if_pos hc];simp only[List.lookup_cons,hx];exact ih h
   ·rw[if_neg hc];simp only[List.lookup_cons,hx];exact ih h
theorem zg{env:Env}:∀{names:List (Str×NameKind)}{x:Str},
  ((names.map λ(n,k)=>if (k==NameKind.free&&env.scope.kind==.function&&env.kindOf n==some .cell) then (n,NameKind.cell) else (n,k)).lookup x=some .cell\/
  (names.map λ(n,k)=>if (k==NameKind.free&&env.scope.kind==.function&&env.kindOf n==some .cell) then (n,NameKind.cell) else (n,k)).lookup x=some .free)->names.lookup x=some .free\/names.lookup x=some .cell
 | [],_,h=>by simp at h
 | (n,k)::r,x,h=>by
  have ih:=@zg env r x;simp only[List.map_cons]at h;cases hx:x==n with
  |true=>
   simp only[List.lookup_cons,hx];by_cases hc:(k==NameKind.free&&env.scope.kind==.function&&env.kindOf n==some .cell)=true
   ·rw[if_pos hc]at h;have hk:k=.free:=by
     cases k<;>first|rfl|(simp at hc)
    rw[hk];exact .inl rfl
   ·rw[if_neg hc]at h;simp only[List.lookup_cons,hx]at h;exact h.symm
  |false=>
   simp only[List.lookup_cons,hx];by_cases hc:(k==NameKind.free&&env.scope.kind==.function&&env.kindOf n==some .cell)=true
   ·rw[if_pos hc]at h;simp only[List.lookup_cons,hx]at h;exact ih h
   ·rw[if_neg hc]at h;simp only[List.lookup_cons,hx]at h;exact ih h
theorem zq:∀(names:List (Str×NameKind)) (a:Nat) (acc:List (Str×Addr)),cellsFrom a names acc=cellsFrom a names []++acc
 | [],a,acc=>rfl
 | (n,k)::r,a,acc=>by
  unfold cellsFrom;split
  ·rw[zq r (a+1) ((n,a)::acc),zq r (a+1) [(n,a)],wL];rfl
  ·exact zq r a acc
theorem ZD{x:Str}{c:Addr}:∀{names:List (Str×NameKind)}{a:Nat},(x,c)∈cellsFrom a names []->(x,NameKind.cell)∈names
 | [],a,h=>nomatch h
 | (n,k)::r,a,h=>by
  unfold cellsFrom at h;split at h
  ·rename_i hk;rw[zq,wD]at h;rcases h with h|h
   ·exact List.mem_cons_of_mem _ (ZD h)
   ·have:(x,c)=(n,a):=wJ.mp h;cases this;rw[beq_iff_eq.mp hk];exact List.mem_cons_self
  ·exact List.mem_cons_of_mem _ (ZD h)
theorem B9{x:Str}:∀{names:List (Str×NameKind)}{a:Nat},(x,NameKind.cell)∈names->∃c,(cellsFrom a names []).lookup x=some c
 | [],a,h=>nomatch h
 | (n,k)::r,a,h=>by
  unfold cellsFrom;rcases List.mem_cons.mp h with h|h
  ·cases h;rw[if_pos (by decide),zq,wX];cases (cellsFrom (a+1) r []).lookup x with
   |none=>exact⟨a,by simp⟩
   |some c=>exact⟨c,rfl⟩
  ·split
   ·obtain⟨c,hc⟩:=B9 (a:=a+1) h;exact⟨c,by rw[zq,wX,hc];rfl⟩
   ·exact B9 h
noncomputable def zf(X:Cx)(scope:Scope)(C:Addr):List (Str×Addr):=cellsFrom (C+1) scope.names (G0 X.env.cells scope.names [])
noncomputable def cxComp(X:Cx)(scope:Scope)(C:Addr)(fp:List Addr)(s₂:Shared)(H₂:Hp)(N:List Str):Cx:=
 { X with N:=N,s₀:=s₂,H₀:=H₂,env:=compEnvC scope (zf X scope C) C X.env,outer:=X.stack,ex:=fp,fn:=λx=>decide (scope.names.lookup x=some .cell),pn:=[],xe:=λ_ _=>False }
noncomputable def inner(src:List (Option Nat))(σ:St):St:=src.map λo=>match o with|none=>none|some j=>(σ[j]?).join
structure CompScope(X:Cx)(scope:Scope)(N:List Str)(src:List (Option Nat)):Prop where
 kind:scope.kind=.function
 uniq:∀y∈scope.names,scope.names.lookup y.1=some y.2
 frees:∀y∈scope.names,y.2=NameKind.free->X.env.kindOf y.1=some .cell\/X.env.kindOf y.1=some .free
 nd:N.Nodup
 len:src.length=N.length
 from_:∀(i:Nat) x j,N[i]?=some x->src[i]?=some (some j)->X.N[j]?=some x/\scope.names.lookup x=some .free
theorem qb{x:Str}{k:NameKind}:∀{names:List (Str×NameKind)},names.lookup x=some k->(x,k)∈names
 | [],h=>by simp at h
 | (n,k')::r,h=>by
  cases hx:x==n with
  |true=>
   simp only[List.lookup_cons,hx]at h;have hx':x=n:=by simpa using hx
   cases h;subst hx';exact List.mem_cons_self
  |false=>
   simp only[List.lookup_cons,hx]at h;exact List.mem_cons_of_mem _ (qb h)
section
variable{X:Cx}{pins:List (Addr×Obj)}{σ:St}{H₂:Hp}{s₂:Shared}{scope:Scope}{N:List Str}{src:List (Option Nat)}{fp:List Addr}
theorem CompScope.cells(S:CompScope X scope N src)(ok:X.Ok):∀y∈scope.names,y.2=.free->∃c,X.env.cells.lookup y.1=some c:=λy hy hk=>ok.has y.1 (S.frees y hy hk)
theorem CompScope.names(S:CompScope X scope N src):∀y∈scope.names,y.2=NameKind.local->scope.names.lookup y.1=some .local:=λy hy hk=>by rw[<-hk];exact S.uniq y hy
theorem qr{C:Addr}{h₁:Heap}(ow:CellsOk h₁ (C+1) (cellsFrom (C+1) scope.names [])){x:Str}{c:Addr}(h:(zf X scope C).lookup x=some c):
  ((x,c)∈cellsFrom (C+1) scope.names []/\(x,NameKind.cell)∈scope.names/\h₁.IsCell c none/\C<c)\/X.env.cells.lookup x=some c:=by
 unfold zf at h;rw[zq,wX]at h;cases e:(cellsFrom (C+1) scope.names []).lookup x with
 |some c'=>
  rw[e]at h;cases h;have m:=PySem.mem_of_lookup e;exact .inl ⟨m,ZD m,(ow.empty x c m).1,(ow.empty x c m).2⟩
 |none=>
  rw[e]at h;rcases Y4 (show (G0 X.env.cells scope.names []).lookup x=some c by simpa using h) with h|h
  ·simp at h
  ·exact .inr h
theorem Qd(S:CompScope X scope N src){C:Addr}{x:Str}{c:Addr}(hf:scope.names.lookup x=some .free)(h:X.env.cells.lookup x=some c):(zf X scope C).lookup x=some c:=by
 unfold zf;rw[zq,wX];have:(cellsFrom (C+1) scope.names []).lookup x=none:=by
  cases e:(cellsFrom (C+1) scope.names []).lookup x with
  |none=>rfl
  |some c'=>
   have:=S.uniq _ (ZD (PySem.mem_of_lookup e));rw[hf]at this;cases this
 rw[this,Y5 h (.inl (qb hf)) (by intro c' h';simp at h')];rfl
theorem v8(S:CompScope X scope N src)(I:Inv X pins σ H₂ s₂)(f2:∀b∈fp,QR X pins H₂ b)(ob:∀b∈fp,∃o,s₂.heap.get? b=some o/\∀v,o.data≠.cell v){C:Addr}(hC:s₂.heap.objs.size<=C){h₁:Heap}(ow:CellsOk h₁ (C+1) (cellsFrom (C+1) scope.names [])):
  (cxComp X scope C fp s₂ H₂ N).Ok:=by
 have lt:∀x c,X.env.cells.lookup x=some c->c<s₂.heap.objs.size:=λx c h=>let ⟨v,q⟩:=I.cell x c h;q.lt
 refine⟨I.ok.mod,S.kind,I.ok.glob,I.ok.blt,hC,λx y c h1 h2=>?_,λx hx=>?_,λx c hf h=>?_,I.ok.hd,I.ok.frames,.inl rfl,λb hb=>⟨?_,λx c h=>?_⟩,λb o e=>I.bs b o e,?_,λb o e hb=>?_,λb hb=>?_,I.stack,I.stkFree⟩
 ·rcases qr ow h1 with⟨m1,_,_,g1⟩|g1<;>rcases qr ow h2 with⟨m2,_,_,g2⟩|g2
  ·exact PySem.name_of_addr ow.apart m1 m2
  ·exact absurd (wW (wC (lt y c g2) hC) g1) (Nat.lt_irrefl _)
  ·exact absurd (wW (wC (lt x c g1) hC) g2) (Nat.lt_irrefl _)
  ·exact I.ok.inj x y c g1 g2
 ·rcases zg hx with hf|hf
  ·obtain⟨c,hc⟩:=S.cells I.ok (x,.free) (qb hf) rfl;exact⟨c,Qd S hf hc⟩
  ·obtain⟨c,hc⟩:=B9 (a:=C+1) (qb hf);exact⟨c,by show (zf X scope C).lookup x=_;unfold zf;rw[zq,wX,hc];rfl⟩
 ·have hf':scope.names.lookup x=some .cell:=vB hf;rcases qr ow h with⟨_,_,_,g⟩|g
  ·exact wf (Nat.lt_of_le_of_lt hC g)
  ·unfold cxComp at h;have h:(zf X scope C).lookup x=some c:=h;obtain⟨c',hc'⟩:=B9 (a:=C+1) (qb hf');have e:(zf X scope C).lookup x=some c':=by unfold zf;rw[zq,wX,hc'];rfl
   rw[e]at h;cases h;have:=(ow.empty x c (PySem.mem_of_lookup hc')).2;exact Nat.le_trans hC (Nat.le_of_succ_le this)
 ·obtain⟨o,e,_⟩:=ob b hb;exact wK (wC (Heap.lt_size e) hC)
 ·rcases qr ow h with⟨_,_,_,g⟩|g
  ·obtain⟨o,e,_⟩:=ob b hb;exact Nat.ne_of_gt (wW (wC (Heap.lt_size e) hC) g)
  ·exact(f2 b hb).2.2.2.2.1 x c g
 ·exact Nat.le_trans I.ok.bsz I.sz
 ·rcases(f2 b hb).2.2.2.1 with z|z
  ·exact I.ok.noex b o e z
  ·exact absurd (wC (Heap.lt_size e) (Nat.le_trans I.ok.bsz z)) (Nat.lt_irrefl _)
 ·intro hz;rcases List.mem_cons.mp (I.stkSub b hz) with e|e
  ·exact(f2 b hb).2.1 e
  ·exact(f2 b hb).2.2.1 e
theorem Qx(S:CompScope X scope N src)(I:Inv X pins σ H₂ s₂)(f2:∀b∈fp,QR X pins H₂ b)(ob:∀b∈fp,∃o,s₂.heap.get? b=some o/\∀v,o.data≠.cell v){C:Addr}{h₁:Heap}{m:Str->Option Value}{tk n:Nat}
  (hC:s₂.heap.objs.size<C) (keep:∀b o,s₂.heap.get? b=some o->h₁.get? b=some o) (hD:h₁.get? s₂.heap.objs.size=some { cls:=.type "list",data:=.seq #[] n }) (hn:h₁.Ns C m) (ow:CellsOk h₁ (C+1) (cellsFrom (C+1) scope.names [])):
  Inv (cxComp X scope C fp s₂ H₂ N) [] (inner src σ) (upd H₂ s₂.heap.objs.size (.lst [])) { s₂ with heap:=h₁,toks:=tk }:=by
 have lt:∀x c,X.env.cells.lookup x=some c->c<s₂.heap.objs.size:=λx c h=>let ⟨v,q⟩:=I.cell x c h;q.lt
 have hfr:H₂ s₂.heap.objs.size=none:=I.hok.fresh (Nat.le_refl _);refine⟨v8 S I f2 ob (wf hC) ow,rfl,I.bare,Un.laid keep (Nat.le_refl _) hfr,⟨m,hn,λi x v e1 e2 e3=>?_⟩,λx c h=>?_,?_,λx c h=>?_,λp hp=>absurd (show p∈([]:List (Addr×Obj)) from hp) (by simp),I.hok.laid keep (Nat.le_refl _) ⟨by simp,[],n,.nil,hD⟩,?_⟩
 ·have e2':(inner src σ)[i]?=some (some v):=e2;unfold inner at e2';rw[wQ]at e2';cases q:src[i]? with
  |none=>rw[q]at e2';cases e2'
  |some o=>
   rw[q]at e2';cases o with
   |none=>cases e2'
   |some j=>
    have ej:(σ[j]?).join=some v:=Option.some.inj e2';have ej':σ[j]?=some (some v):=by
     cases z:σ[j]? with
     |none=>rw[z]at ej;cases ej
     |some w=>rw[z]at ej;exact congrArg some ej
    obtain⟨n1,n2⟩:=S.from_ i x j e1 q;obtain⟨m0,hn0,hl⟩:=I.loc;have hfr':=S.frees (x,.free) (qb n2) rfl;obtain⟨u,r,l⟩:=hl j x v n1 ej' (by rcases hfr' with z|z;exact .inr (.inl z);exact .inr (.inr z));refine⟨u,r,.inr ⟨jc n2,?_⟩⟩;rcases l with⟨k,_⟩|⟨_,c,hc,o,ho,hd⟩
    ·have k':X.env.kindOf x=some .local:=k;rcases hfr' with z|z
     ·have z':X.env.kindOf x=some .cell:=z;rw[k']at z';cases z'
     ·have z':X.env.kindOf x=some .free:=z;rw[k']at z';cases z'
    ·exact⟨c,Qd S n2 hc,o,keep c o ho,hd⟩
 ·rcases qr ow h with⟨_,_,g,_⟩|g
  ·exact⟨none,g⟩
  ·obtain⟨v,o,ho,hd⟩:=I.cell x c g;exact⟨v,o,keep c o ho,hd⟩
 ·show upd H₂ s₂.heap.objs.size (.lst []) C=none;rw[qC (Nat.ne_of_gt hC)];exact I.hok.fresh (wf hC)
 ·rcases qr ow h with⟨_,_,_,g⟩|g
  ·rw[qC (Nat.ne_of_gt (wW hC g))];exact I.hok.fresh (wf (wW hC g))
  ·rw[qC (wK (lt x c g))];exact I.freeC x c g
 ·show (inner src σ).length=N.length;unfold inner;rw[wG,S.len]
theorem Zd(I:Inv X pins σ H₂ s₂)(f2:∀b∈fp,QR X pins H₂ b){C:Addr}{pins':List (Addr×Obj)}{σ':St}{H':Hp}{s':Shared}{h':Heap}(hC:s₂.heap.objs.size<=C)(J:Inv (cxComp X scope C fp s₂ H₂ N) pins' σ' H' s')
  (kp:∀b o,b≠C->s'.heap.get? b=some o->h'.get? b=some o):Inv X pins σ H' { s' with heap:=h' }:=by
 have neC:∀b o,s₂.heap.get? b=some o->b≠C:=λb o e=>wK (wC (Heap.lt_size e) hC);have B:=J.base;refine I.call' (s':={ s' with heap:=h' }) (ch:=fp) J.os ⟨λb o e n hb hx=>kp b o (neC b o e) (B.keep b o e n hb hx),λb o e n hb hx=>?_,B.free,λb o e hx=>?_,B.tups,B.frzs,B.tbls⟩ (λa o e=>?_) J.bare λb hb=>⟨(f2 b hb).2.2.2.1,(f2 b hb).2.1,(f2 b hb).2.2.2.2⟩
 ·obtain⟨sl,q⟩:=B.slot b o e n hb hx;exact⟨sl,kp b _ (neC b o e) q⟩
 ·obtain⟨o',q⟩:=B.there b o e hx;exact⟨o',kp b o' (neC b o e) q⟩
 ·have nC:H' C=none:=J.free;have ne:∀b u,H' b=some u->b≠C:=λb u q z=>by rw[z,nC]at q;cases q
  refine(J.hok a o e).stay (λc v hc q=>kp c v ?_ q) (λ_ q=>q) λ_ _ q=>q;rcases hc with z|z
  ·rw[z];exact ne a o e
  ·exact ne c _ z
end
def PTs(X:Cx)(ifs:List Expr)(t:TT):Prop:=
 ∀(pins:List (Addr×Obj)) (s:Shared) (σ:St) (H:Hp) (Q:Bool->Hp->Prop),Inv X pins σ H s->t σ H Q ->
  wpAny (model X.prog X.w) X.A (forIn ifs true λc r=>if r=true then do let ok <- isTrue c X.env (eval c X.env);pure (ForInStep.yield ok) else pure (ForInStep.yield r)) (TP X pins σ Q) X.xe s
theorem pts_nil{X:Cx}:PTs X [] (λ_ H Q=>Q true H):=λpins s σ H Q I h=>wx ⟨H,I,h⟩
theorem pts_one{X:Cx}{c:Expr}{t:TT}(hc:PT X c t):PTs X [c] t:=by
 intro pins s σ H Q I h;rw[List.forIn_cons];simp only[if_true];refine wv (wv (thn (hc pins s σ H Q I h) λb s1 q=>?_));exact wx (wx q)
noncomputable def tComp(wi:TI)(src:List (Option Nat))(g:TG)(tc:TT)(te:TE):TE:=λσ H Q=>wi σ H λJ H1=>∀D,H1 D=none ->
 ∃W:Nat->Nat->List V->St->Hp->Prop,(∃m,W 0 m [] (inner src σ) (upd H1 D (.lst [])))/\∀i m ys σ' H',W i m ys σ' H'->H' D=some (.lst ys) ->
  (J.stop i H'/\Q (.ref D) H')\/
  (J.go i H'/\∀x H2,J.yld i H' x H2->g x σ' H2 λσ3 H3=>tc σ3 H3 λb H4=>
   if b=true then te σ3 H4 λy H5=>H5 D=some (.lst ys)/\ys.length<sizeLine/\∃m',m'<m/\W (i+1) m' (ys++[y]) σ3 (upd H5 D (.lst (ys++[y])))
   else H4 D=some (.lst ys)/\∃m',m'<m/\W (i+1) m' ys σ3 H4)
section
variable{X:Cx}{pins:List (Addr×Obj)}{σ:St}{H₂:Hp}{s₂:Shared}{scope:Scope}{N:List Str}{src:List (Option Nat)}
theorem JE{M:Model}{A:Around}{E:Value->Shared->Prop}{s:Shared}{scope:Scope}{globals:Addr}{cl:List (Str×Addr)}{qual:Str}{env:Env}{Q:Env->Shared->Prop}
  (h:Q (newEnv scope s.heap.objs.size globals (cellsFrom (s.heap.objs.size+1) scope.names cl) qual none .none (some env) builtinsNs) { s with heap:=pushCells (s.heap.push { cls:=.type "dict",data:=.dict #[] }) scope.names }):
  wpAny M A (newFunctionEnv scope globals cl [] qual none .none (some env)) Q E s:=by
 simp only[newFunctionEnv,Option.isSome_some,if_true];refine wv (wpAny_alloc ?_);refine wv (wpAny_layCells _ (λname kind cells=>by cases hkc:kind==NameKind.cell<;>simp[hkc]) _ _ _ _ ?_);rw[show ({ s with heap:=s.heap.push { cls:=.type "dict",data:=.dict #[] } }:Shared).heap.objs.size=s.heap.objs.size+1 from Heap.size_push ..];refine wv ?_;rw[List.forIn_nil];exact wx (wx h)
theorem B5{elt tg iter:Expr}{ifs:List Expr}{pos:Pos}{g:TG}{tc:TT}{te:TE}{it:Addr}{fp:List Addr}{tn:Nat->Heap->Prop}{J:It}{Q:VK}{E:Value->Shared->Prop}{RR:Value->Addr->Result->Shared->Prop}
  (hc:X.calm=true) (S:CompScope X scope N src) (I2:Inv X pins σ H₂ s₂) (T:Zv X.prog X.w X.K tg J fp it tn) (st2:tn 0 s₂.heap) (f2:∀b∈fp,QR X pins H₂ b)
  (hg:∀C fp s H,PG (cxComp X scope C fp s H N) tg g) (ht:∀C fp s H,PTs (cxComp X scope C fp s H N) ifs tc) (he:∀C fp s H,PE (cxComp X scope C fp s H N) elt te)
  (h:∀D,H₂ D=none->∃W:Nat->Nat->List V->St->Hp->Prop,(∃m,W 0 m [] (inner src σ) (upd H₂ D (.lst [])))/\∀i m ys σ' H',W i m ys σ' H'->H' D=some (.lst ys) ->
   (J.stop i H'/\Q (.ref D) H')\/
   (J.go i H'/\∀x H2,J.yld i H' x H2->g x σ' H2 λσ3 H3=>tc σ3 H3 λb H4=>
    if b=true then te σ3 H4 λy H5=>H5 D=some (.lst ys)/\ys.length<sizeLine/\∃m',m'<m/\W (i+1) m' (ys++[y]) σ3 (upd H5 D (.lst (ys++[y])))
    else H4 D=some (.lst ys)/\∃m',m'<m/\W (i+1) m' ys σ3 H4))
  (hRR:∀(D C:Addr) (σ':St) (H':Hp) (s':Shared),s₂.heap.objs.size<=C->Inv (cxComp X scope C fp s₂ H₂ N) [] σ' H' s'->Q (.ref D) H'->RR (.ref D) C (.ok .next) s'):
  wpAny (model X.prog X.w) X.A (newList []) (λacc s₃=>wpAny (model X.prog X.w) X.A (newFunctionEnv scope X.env.globals (G0 X.env.cells scope.names []) [] X.env.qual none .none (some X.env)) (λcenv s₄=>
   codeAny (model X.prog X.w) X.A (.compStart (.ListComp elt [⟨tg,iter,ifs,0⟩] scope pos) 0 (.ref it) acc { cenv with scope:=relabel scope X.env }) (RR acc cenv.locals) s₄) E s₃) E s₂:=by
 refine wpAny_newObj_type (JE ?_);dsimp only;generalize hH2:s₂.heap.push { cls:=.type "list",dict:=none,data:=.seq ([]:List Value).toArray }=P2;have hC:P2.objs.size=s₂.heap.objs.size+1:=by rw[<-hH2,Heap.size_push]
 have ow:=cellsFrom_ok scope.names (P2.push { cls:=.type "dict",data:=.dict #[] }) (P2.objs.size+1) [] ⟨λ_ _ hm=>(nomatch hm),List.Pairwise.nil⟩ (by rw[Heap.size_push];exact Nat.le_refl _);rw[Heap.size_push]at ow;generalize hh1:pushCells (P2.push { cls:=.type "dict",data:=.dict #[] }) scope.names=h₁ at ow ⊢;have kp:∀b o,P2.get? b=some o->h₁.get? b=some o:=λb o e=>hh1 ▸ pushCells_keeps _ _ b o (Heap.get?_push_of_some _ e);have hns₁:h₁.Ns P2.objs.size (λ_=>none):=hh1 ▸ (Heap.Ns.new P2 (.type "dict")).keeps (pushCells_keeps _ _);have old:∀b o,s₂.heap.get? b=some o->h₁.get? b=some o:=λb o e=>kp b o (hH2 ▸ Heap.get?_push_of_some _ e);have hacc:h₁.get? s₂.heap.objs.size=some { cls:=.type "list",data:=.seq #[] }:=kp _ _ (hH2 ▸ Heap.get?_push_size _ rfl);have st1:tn 0 h₁:=T.keep _ _ _ st2 λb _ o e=>old b o e;have ob:=T.obj _ _ st2;have lt:s₂.heap.objs.size<P2.objs.size:=by rw[hC];exact Nat.lt_succ_self _
 have I3:=Qx (tk:=s₂.toks) S I2 f2 ob lt old hacc hns₁ ow;obtain⟨W,⟨m0,w0⟩,step⟩:=h s₂.heap.objs.size I2.fresh;have fpn:∀b∈fp,b≠s₂.heap.objs.size:=λb hb=>by
  obtain⟨o,e,_⟩:=ob b hb;exact wK (Heap.lt_size e)
 have fok:∀{pins':List (Addr×Obj)}{H':Hp},(∀b∈fp,H' b=none)->(∀p∈pins',p.1∉fp)->∀b∈fp,QR (cxComp X scope P2.objs.size fp s₂ H₂ N) pins' H' b:=λ{pins' H'} hn hp b hb=>by
  have okc:=I3.ok;exact⟨hn b hb,(okc.exf b hb).1,okc.exfs b hb,.inl hb,(okc.exf b hb).2,λp hp' z=>hp p (by simpa [cxComp] using hp') (z ▸ hb)⟩
 have loop:∀s₃:Shared,s₃={ s₂ with heap:=h₁,toks:=s₂.toks } ->
   codeAny (model X.prog X.w) X.A (.compLoop (.ListComp elt [⟨tg,iter,ifs,0⟩] scope pos) 0 (.ref it) (.ref s₂.heap.objs.size) (compEnvC scope (zf X scope P2.objs.size) P2.objs.size X.env))
    (RR (.ref s₂.heap.objs.size) P2.objs.size) s₃:=by
  rintro s₃ rfl;refine codeAny_loop rfl (λn s'=>∃i ys σ' H',Inv (cxComp X scope P2.objs.size fp s₂ H₂ N) [] σ' H' s'/\tn i s'.heap/\(∀b∈fp,H' b=none)/\H' s₂.heap.objs.size=some (.lst ys)/\W i n ys σ' H') (λn s' hI=>?_) m0
   ⟨0,[],inner src σ,_,I3,st1,λb hb=>by rw[qC (fpn b hb)];exact(f2 b hb).1,qB,w0⟩
  obtain⟨i,ys,σ3,H3,J3,st3,fr3,hD3,w3⟩:=hI;show wpAny _ X.A ((compTurn (.ListComp elt [⟨tg,iter,ifs,0⟩] scope pos) 0 (.ref it) (.ref s₂.heap.objs.size) _).onRaise (λx=>do noteFrame x _;theTreesLotGoes x)) _ _ s';refine wpAny_noted ?_;rw[compTurn_list];have never:∀{α:Type}{t:Sem α}{Q1:α->Shared->Prop}{E1:Value->Shared->Prop}{s1:Shared},wpAny (model X.prog X.w) X.A t Q1 (λ_ _=>False) s1->wpAny (model X.prog X.w) X.A t Q1 E1 s1:=λh=>wpAny_mono h (λ_ _ q=>q) λ_ _ f=>f.elim;refine wv (wpAny_standAt (wv ?_));rcases step i n ys σ3 H3 w3 hD3 with⟨stop,qn⟩|⟨go,qAL⟩
  ·refine never (thn (T.done (cxComp X scope P2.objs.size fp s₂ H₂ N) rfl rfl rfl hc i [] s' σ3 H3 _ J3 (fok fr3 (by simp)) st3 stop) λr s4 ⟨hr,I4⟩=>?_);subst hr;exact wx (hRR _ _ σ3 H3 s4 (wf lt) I4 qn)
  ·refine never (thn (T.item (cxComp X scope P2.objs.size fp s₂ H₂ N) rfl rfl rfl hc i [] s' σ3 H3 _ J3 (fok fr3 (by simp)) st3 go) λr s4 ⟨u,hr,h4⟩=>?_);subst hr;refine wv (never (thn h4 λ_ s5 ⟨x,H5,I5,r5,y5,st5,fr5⟩=>?_));have I5':=I5.pinned (fok fr5 (by simp)) (T.obj _ _ st5);have kept:∀{σ7:St}{H7:Hp}{s7:Shared},Inv (cxComp X scope P2.objs.size fp s₂ H₂ N) ([]++ZT fp s5.heap) σ7 H7 s7->Inv (cxComp X scope P2.objs.size fp s₂ H₂ N) [] σ7 H7 s7/\tn (i+1) s7.heap/\∀b∈fp,H7 b=none:=λ{σ7 H7 s7} I7=>by
    refine⟨I7.unpinned,T.keep _ _ _ st5 λb hb o e=>(I7.pin (b,o) (wF _ (wF _ (zi hb e)))).1,λb hb=>?_⟩;obtain⟨o,e,d⟩:=T.obj _ _ st5 b hb;exact(I7.pin (b,o) (wF _ (wF _ (zi hb e)))).2.1
   refine wv (never (thn (hg _ _ _ _ _ s5 σ3 H5 x u _ I5' r5 (qAL x H5 y5)) λ_ s6 ⟨σ6,H6,I6,q6⟩=>?_));refine wv (never (thn (ht _ _ _ _ _ s6 σ6 H6 _ I6 q6) λb s7 ⟨H7,I7,q7⟩=>?_));cases b with
   |false=>
    rw[if_neg (by decide)]at q7;obtain⟨hD7,m',hm,w7⟩:=q7;obtain⟨I7',st7,fr7⟩:=kept I7;exact wx ⟨rfl,m',hm,i+1,ys,σ6,H7,I7',st7,fr7,hD7,w7⟩
   |true=>
    rw[if_pos rfl]at q7;refine wv (wv (never (thn (he _ _ _ _ _ s7 σ6 H7 _ I7 q7) λyv s8 ⟨y,H8,I8,r8,hD8,hz,m',hm,w8⟩=>?_)));refine wv (never (thn (mt_append (X:=cxComp X scope P2.objs.size fp s₂ H₂ N) _ s8 σ6 H8 (.ref s₂.heap.objs.size) [y] _ [yv] (λv H'=>v=.non/\H'=upd H8 s₂.heap.objs.size (.lst (ys++[y]))) I8 rfl (.cons r8 .nil) ⟨_,ys,y,rfl,rfl,hD8,hz,rfl,rfl⟩) λ_ s9 ⟨v9,H9,I9,_,_,e9⟩=>?_));subst e9;obtain⟨I9',st9,fr9⟩:=kept I9;exact wx (wx ⟨rfl,m',hm,i+1,_,σ6,_,I9',st9,fr9,qB,w8⟩)
 exact codeAny_compStart_list (loop _ rfl) (T.self _ 0 _ _ _ st1 (loop _ rfl))
end
section
variable{X:Cx}{scope:Scope}{N:List Str}{src:List (Option Nat)}{elt tg iter:Expr}{ifs:List Expr}{pos:Pos}{wi:TI}{g:TG}{tc:TT}{te:TE}
theorem pe_comp(hc:X.calm=true)(hi:PI X tg iter wi)(S:CompScope X scope N src)
  (hg:∀C fp s H,PG (cxComp X scope C fp s H N) tg g) (ht:∀C fp s H,PTs (cxComp X scope C fp s H N) ifs tc) (he:∀C fp s H,PE (cxComp X scope C fp s H N) elt te)
  (hs:∀x,foldedSetIterable iter X.env x=pure x:=by intro _;rfl):PE X (.ListComp elt [⟨tg,iter,ifs,0⟩] scope pos) (tComp wi src g tc te):=by
 intro pins s σ H Q I h;rw[eval_ListComp];refine wpAny_comprehension_free (use:=none) rfl hs (zV (S.cells I.ok)) S.kind S.names (thn (hi pins s σ H _ I h) λv s1 h1=>thn h1 λitv s2 h2=>?_);obtain⟨it,fp,tn,J,H2,rfl,I2,T,st2,f2,hW⟩:=h2;refine B5 (Q:=Q) (RR:=λacc C=>compPost (model X.prog X.w) X.A X.xe none (EP X pins σ Q) acc C) hc S I2 T st2 f2 hg ht he hW ?_;intro D C σ' H' s' hC J q;obtain⟨m,hn,_⟩:=id J.loc;exact⟨m,hn,λh' hs'=>⟨.ref D,H',Zd I2 f2 hC J (λb o hb e=>hs'.extBut b o hb e),rfl,q⟩⟩
theorem ps_setcomp{i:Nat}{x:Str}{pos' spos:Pos}(hc:X.calm=true)(hi:PI X tg iter wi)(S:CompScope X scope N src)
  (hg:∀C fp s H,PG (cxComp X scope C fp s H N) tg g) (ht:∀C fp s H,PTs (cxComp X scope C fp s H N) ifs tc) (he:∀C fp s H,PE (cxComp X scope C fp s H N) elt te)
  (hsw:swapsWith (.ListComp elt [⟨tg,iter,ifs,0⟩] scope pos) (some (.Name x pos')) spos.line X.env=pure true)
  (hN:X.N.Nodup) (hx:X.N[i]?=some x) (hl:X.env.scope.names.lookup x=some .local)
  (hs:∀x,foldedSetIterable iter X.env x=pure x:=by intro _;rfl):PS X (.Assign [.Name x pos'] (.ListComp elt [⟨tg,iter,ifs,0⟩] scope pos) spos) (tAsg (tComp wi src g tc te) (qBQ i)):=by
 intro pins s σ H D I h;rw[exec_Assign_Name_used _ _ _ _ hsw];refine wv (wpAny_standAt (wv ?_));show wpAny _ X.A (do let _ <- comprehension (.ListComp elt [⟨tg,iter,ifs,0⟩] scope pos) scope X.env _ (newList []) false (eval iter X.env) (some (assign (.Name x pos') X.env))) _ _ s;refine wv (wpAny_mono (wpAny_comprehension_free (use:=some (assign (.Name x pos') X.env)) (Q:=λ_ s'=>SP X pins D .next s') rfl hs (zV (S.cells I.ok)) S.kind S.names
  (thn (hi pins s σ H _ I h) λv s1 h1=>thn h1 λitv s2 h2=>?_)) (λ_ s' hq=>wx (wx hq)) λ_ _ e=>e)
 obtain⟨it,fp,tn,J,H2,rfl,I2,T,st2,f2,hW⟩:=h2;refine B5 (Q:=λv H'=>D.nx (σ.set i (some v)) H') (RR:=λacc C=>compPost (model X.prog X.w) X.A X.xe (some (assign (.Name x pos') X.env)) (λ_ s'=>SP X pins D .next s') acc C) hc S I2 T st2 f2 hg ht he hW ?_;intro L C σ' H' s' hC J q;obtain⟨m,hn,_⟩:=id J.loc;have I3:Inv X pins σ H' s':=Zd (h':=s'.heap) I2 f2 hC J (λb o hb e=>e);show wpAny _ X.A (assign (.Name x pos') X.env (.ref L)) _ _ _;have nL:X.env.locals≠C:=wK (wC I2.lt hC);refine wpAny_assign_Name (Zq I3 hN hx (.inl hl) (show RelV (.ref L) (.ref L) from rfl) (λs4 I4 hsb=>?_) (.inr hl));obtain⟨a,sb,ha⟩:=hsb;have ha':a≠C:=by
  rcases ha with z|z
  ·rw[z];exact nL
  ·obtain⟨v,hv⟩:=I2.cell x a z;exact wK (wC hv.lt hC)
 refine⟨m,hn.sameBut sb (Ne.symm ha'),λh5 sb5=>?_⟩;have I5:Inv X pins (σ.set i (some (V.ref L))) H' { s4 with heap:=h5,toks:=s4.toks }:=I4.turned (it:=C) (λb o hb e=>sb5.extBut b o hb e) J.free (Ne.symm nL) (.inr (Nat.le_trans I2.sz hC)) (λy c e z=>by
   obtain⟨v,hv⟩:=I2.cell y c e;exact absurd (wC hv.lt (by rw[z];exact hC)) (Nat.lt_irrefl _)) λp hp z=>absurd (wC (Heap.lt_size (I2.pin p hp).1) (by rw[z];exact hC)) (Nat.lt_irrefl _)
 exact⟨_,H',I5,q⟩
end
end L2
namespace PI
open L2 (V Key)
open PySem (Str)
inductive BOp|add|sub|mul|fdiv|mod|pow|shl
 deriving DecidableEq
inductive COp|lt|le|gt|ge|eq|ne|inn|notin|is|isnot
 deriving DecidableEq
inductive BF|len|sum|all|max|min|list|int|bits
 deriving DecidableEq
inductive Mt|pop|popAt|rev|clr|ins
 deriving DecidableEq
inductive Tg|name(i:Nat)|tup(is:List Nat)
 deriving DecidableEq
mutual
inductive E
 |var (i:Nat)|cst (v:V)|glob (g:Nat)
 |bin (op:BOp) (a b:E)|neg (a:E)
 |cmp (op:COp) (a b:E)|cmp2 (o1 o2:COp) (a b c:E)
 |and (a b:E)|or (a b:E)|not (a:E)
 |call (f:Nat) (as:Es)|blt (f:BF) (as:Es)|isi (a:E) (ts:List String)
 |idx (a b:E)|sl (a:E) (lo hi:Es)   | lst (as:Es)|tup (as:Es)
 |comp (it:Itr) (src:List (Option Nat)) (g:Tg) (c:Es) (e:E)
 |app (a b:E)|lrng (a:E)|dnew|meth (m:Mt) (a:E) (as:Es)     | nset (a:E)  | mink (f:Nat) (a:E)         | srtm (a:E)
inductive Es|nil|cons(a:E)(as:Es)
inductive Itr|list(a:E)|rng1(a:E)
end
mutual
inductive S
 |asg (g:Tg) (e:E)  | put (o i v:E)
 |expr (e:E)|ret (e:E)  | ifs (c:E) (t u:Ss)
 |for_ (g:Tg) (it:Itr) (b:Ss)     | stop
inductive Ss|nil|cons(s:S)(r:Ss)
end
noncomputable def Es.snoc:Es->E->Es
 | .nil,e=>.cons e .nil
 | .cons a as,e=>.cons a (Es.snoc as e)
inductive Ob|dct(kvs:List (Int×V))|exn(c:Str)
 deriving DecidableEq
inductive O|lst(fz:Bool)(xs:List V)|tup(xs:List V)|ob(o:Ob)
 deriving DecidableEq
noncomputable abbrev AH:=List O
noncomputable abbrev St:=List (Option V)
inductive Res(α:Type)|ok(a:α)|exc(c:Nat)(h:AH)|stuck
noncomputable def Res.bind{α β:Type}:Res α->(α->Res β)->Res β
 | .ok a,f=>f a
 | .exc c h,_=>.exc c h
 | .stuck,_=>.stuck
noncomputable def Res.nx{α:Type}:Res α->Res α
 | .ok a=>.ok a
 | .exc _ _=>.stuck
 | .stuck=>.stuck
@[simp] theorem Res.bind_ok{α β:Type}(a:α)(f:α->Res β):(Res.ok a).bind f=f a:=rfl
noncomputable abbrev RV:=Res (V×AH)
noncomputable def items(h:AH)(a:Nat):Option (List V):=match h[a]? with
 |some (.lst _ xs)=>some xs
 |some (.tup xs)=>some xs
 |_=>none
noncomputable def qU(h:AH)(a:Nat):Option (List V):=match h[a]? with
 |some (.lst _ xs)=>some xs
 |_=>none
noncomputable def qX(h:AH)(a:Nat):Option (List V):=match h[a]? with
 |some (.tup xs)=>some xs
 |_=>none
noncomputable def JL(h:AH)(a:Nat):Option (List (Int×V)):=match h[a]? with
 |some (.ob (.dct kvs))=>some kvs
 |_=>none
noncomputable def qAB(kvs:List (Int×V))(k:Int):Bool:=kvs.any λp=>decide (p.1=k)
noncomputable def qCX(kvs:List (Int×V))(k:Int)(v:V):List (Int×V):=if qAB kvs k=true then kvs.map (λp=>if p.1=k then (p.1,v) else p) else kvs++[(k,v)]
noncomputable def qAS(h:AH)(a:Nat):Option Str:=match h[a]? with
 |some (.ob (.exn c))=>some c
 |_=>none
noncomputable def qf(h:AH)(a:Nat):Option (List V):=match h[a]? with
 |some (.lst false xs)=>some xs
 |_=>none
noncomputable def lim:Nat:=100000
noncomputable def newL(xs:List V)(h:AH):RV:=.ok (.ref h.length,h++[.lst false xs])
noncomputable def newT(xs:List V)(h:AH):RV:=.ok (.ref h.length,h++[.tup xs])
noncomputable def flat:V->Bool
 | .non=>true | .bl _=>true | .int _=>true | .str _=>true|_=>false
noncomputable def eqF:V->V->Option Bool
 | .int i,.int j=>some (i==j)
 | .bl i,.bl j=>some (i==j)
 | .str i,.str j=>some (i==j)
 | .non,.non=>some true
 | .int i,.bl b=>some (i==(if b then 1 else 0))
 | .bl b,.int i=>some ((if b then 1 else 0)==i)
 | .non,.int _=>some false | .int _,.non=>some false
 | .non,.bl _=>some false | .bl _,.non=>some false
 | .non,.str _=>some false | .str _,.non=>some false
 | .int _,.str _=>some false | .str _,.int _=>some false
 | .bl _,.str _=>some false | .str _,.bl _=>some false
 |_,_=>none
noncomputable def QS(f:V->V->Option Bool):List V->List V->Option (List Bool)
 | [],[]=>some []
 |x::xs,y::ys=>match f x y,QS f xs ys with
  |some b,some bs=>some (b::bs)
  |_,_=>none
 |_,_=>none
noncomputable def eqD(h:AH):Nat->V->V->Option Bool
 | 0,x,y=>eqF x y
 |n+1,.ref a,.ref b=>match h[a]?,h[b]? with
  |some (.lst _ xs),some (.lst _ ys)=>if a=b then some true else if xs.length=ys.length then (QS (eqD h n) xs ys).map λbs=>bs.all id else some false
  |some (.tup xs),some (.tup ys)=>if a=b then some true else if xs.length=ys.length then (QS (eqD h n) xs ys).map λbs=>bs.all id else (QS (eqD h n) (xs.take ys.length) (ys.take xs.length)).map λ_=>false
  |some (.lst _ _),some (.tup _)=>some false
  |some (.tup _),some (.lst _ _)=>some false
  |_,_=>none
 |_+1,.ref a,y=>if (items h a).isSome&&flat y then some false else none
 |_+1,x,.ref b=>if flat x&&(items h b).isSome then some false else none
 |_+1,x,y=>eqF x y
noncomputable abbrev ixN(n:Nat)(i:Int):Option Nat:=L2.ixN n i
noncomputable abbrev cut(xs:List V)(lo hi:Option Int):List V:=L2.cutV xs lo hi
noncomputable def two64:Int:=18446744073709551616
noncomputable def jk(i:Int):Bool:=decide (-two64<i/\i<two64)
noncomputable def mid(i:Int):Bool:=decide (i.natAbs.log2<9000)
noncomputable def K9(x y:V)(f:Int->Int->RV):RV:=match x with
 | .int i=>(match y with | .int j=>f i j|_=>.stuck)
 |_=>.stuck
theorem zB{x y:V}{f:Int->Int->RV}{r:V×AH}(e:K9 x y f=.ok r):∃i j,x=.int i/\y=.int j/\f i j=.ok r:=by
 unfold K9 at e;split at e
 ·split at e
  ·exact⟨_,_,rfl,rfl,e⟩
  ·cases e
 ·cases e
noncomputable def S3(x:V)(f:Nat->RV):RV:=match x with
 | .ref a=>f a
 |_=>.stuck
theorem zS{x:V}{f:Nat->RV}{r:V×AH}(e:S3 x f=.ok r):∃a,x=.ref a/\f a=.ok r:=by
 unfold S3 at e;split at e
 ·exact⟨_,rfl,e⟩
 ·cases e
noncomputable def qBh:BOp->V->V->AH->RV
 | .add,x,y,h=>(match x with
  | .ref a=>S3 y λb=>(match qf h a,qf h b with
   |some xs,some ys=>if xs.length+ys.length<=lim then newL (xs++ys) h else .stuck
   |_,_=>(match qX h a,qX h b with
    |some xs,some ys=>if xs≠[]/\xs.length+ys.length<=lim then (if ys=[] then .ok (.ref a,h) else newT (xs++ys) h) else .stuck
    |_,_=>.stuck))
  |x=>K9 x y λi j=>.ok (.int (i+j),h))
 | .sub,x,y,h=>K9 x y λi j=>.ok (.int (i-j),h)
 | .mul,x,y,h=>(match x with
  | .ref a=>(match y with
   | .int k=>(match qf h a with
    |some xs=>if 0<=k/\xs.length*k.toNat<=lim/\k<1000000 then newL (List.replicate k.toNat xs).flatten h else .stuck
    |none=>.stuck)
   |_=>.stuck)
  |x=>K9 x y λi j=>if jk i||jk j||(mid i&&mid j) then .ok (.int (i*j),h) else .stuck)
 | .fdiv,x,y,h=>K9 x y λi j=>if 0<j/\(j<1073741824\/mid j=true) then .ok (.int (i / j),h) else if j<0/\mid j=true then .ok (.int (i.fdiv j),h) else .stuck
 | .mod,x,y,h=>K9 x y λi j=>if 0<j then .ok (.int (i % j),h) else if j<0 then .ok (.int (i.fmod j),h) else .stuck
 | .pow,x,y,h=>K9 x y λi j=>if 0<=j/\j<=1000/\i.natAbs<18446744073709551616 then .ok (.int (i ^ j.toNat),h) else .stuck
 | .shl,x,y,h=>K9 x y λi j=>if 0<=j/\j<=1000/\i.natAbs<18446744073709551616 then .ok (.int (i*2 ^ j.toNat),h) else .stuck
noncomputable def qAF(x y:V)(f:Int->Int->Bool):Option Bool:=match x with
 | .int i=>(match y with | .int j=>some (f i j)|_=>none)
 |_=>none
theorem jm{x y:V}{f:Int->Int->Bool}{r:Bool}(e:qAF x y f=some r):∃i j,x=.int i/\y=.int j/\f i j=r:=by
 unfold qAF at e;split at e
 ·split at e
  ·exact⟨_,_,rfl,rfl,Option.some.inj e⟩
  ·cases e
 ·cases e
noncomputable def X8(y:V)(f:Nat->Option Bool):Option Bool:=match y with
 | .ref a=>f a
 |_=>none
theorem B0{y:V}{f:Nat->Option Bool}{r:Bool}(e:X8 y f=some r):∃a,y=.ref a/\f a=some r:=by
 unfold X8 at e;split at e
 ·exact⟨_,rfl,e⟩
 ·cases e
noncomputable def isC(x y:V)(f:Bool->Bool):Option Bool:=match y with
 | .non=>some (f (decide (x=.non)))
 | .bl d=>(match x with | .bl c=>some (f (c==d))|_=>none)
 |_=>none
theorem L4{x y:V}{f:Bool->Bool}{r:Bool}(e:isC x y f=some r):(y=.non/\f (decide (x=.non))=r)\/∃c d,x=.bl c/\y=.bl d/\f (c==d)=r:=by
 unfold isC at e;split at e
 ·exact .inl ⟨rfl,Option.some.inj e⟩
 ·split at e
  ·exact .inr ⟨_,_,rfl,rfl,Option.some.inj e⟩
  ·cases e
 ·cases e
noncomputable def S0:COp->V->V->AH->Option Bool
 | .lt,x,y,_=>qAF x y λi j=>decide (i<j)
 | .le,x,y,_=>qAF x y λi j=>decide (i<=j)
 | .gt,x,y,_=>qAF x y λi j=>decide (j<i)
 | .ge,x,y,_=>qAF x y λi j=>decide (j<=i)
 | .eq,x,y,h=>eqD h 4 x y
 | .ne,x,y,h=>(eqD h 4 x y).map (!·)
 | .inn,x,y,h=>X8 y λa=>(match items h a with
  |some xs=>if flat x&&xs.all flat then some (xs.any λy=>L2.eqV y x) else none
  |none=>match JL h a with
   |some kvs=>(match x with | .int i=>some (qAB kvs i)|_=>none)
   |none=>none)
 | .notin,x,y,h=>X8 y λa=>(match items h a with
  |some xs=>if flat x&&xs.all flat then some (!(xs.any λy=>L2.eqV y x)) else none
  |none=>match JL h a with
   |some kvs=>(match x with | .int i=>some (!qAB kvs i)|_=>none)
   |none=>none)
 | .is,x,y,_=>isC x y id
 | .isnot,x,y,_=>isC x y (!·)
noncomputable def qAE(op:COp)(x y:V)(h:AH):RV:=match S0 op x y h with
 |some b=>.ok (.bl b,h)
 |none=>.stuck
noncomputable def zK:List V->Option (List Int)
 | []=>some []
 | .int i::r=>(zK r).map (i::·)
 |_::_=>none
noncomputable def jU:List V->Option (List Bool)
 | []=>some []
 | .bl b::r=>(jU r).map (b::·)
 |_::_=>none
noncomputable def za:List V->Option (List Int)
 | []=>some []
 | .int i::r=>(za r).map (i::·)
 | .bl b::r=>(za r).map ((if b=true then 1 else 0)::·)
 |_::_=>none
noncomputable def zr(lo:Int)(n:Nat):List V:=(List.range n).map λ(i:Nat)=>V.int (lo+(i:Int))
noncomputable def difs(is:List Int):Nat:=(is.foldl PyProof.Rows.step_dedup []).length
noncomputable def ins(x:Int):List Int->List Int
 | []=>[x]
 |y::r=>if x<=y then x::y::r else y::ins x r
noncomputable def qg(kf:Nat->Int):Nat->Nat
 | 0=>0
 |j+1=>if kf (j+1)<kf (qg kf j) then j+1 else qg kf j
noncomputable def U0(n:AH)(r:RV):Option Int:=match r with
 | .ok p=>(match p.1 with | .int k=>if p.2.take n.length=n then some k else none|_=>none)
 |_=>none
noncomputable def qBH(g:Int->Option Int)(is:List Int):Option Int:=(is.mapM g).bind λks=>is[qg (λi=>ks.getD i 0) (is.length-1)]?
noncomputable def R8:List Int->Option Int
 | []=>none
 |x::r=>match R8 r with|some y=>some (if x<=y then y else x)|none=>some x
theorem J1:∀{l:List Int}{k:Int},R8 l=some k->k∈l/\∀a∈l,a<=k
 | [],k,e=>by cases e
 |x::r,k,e=>by
  unfold R8 at e;split at e
  ·rename_i y ey;obtain⟨h1,h2⟩:=J1 ey;cases e;split
   ·rename_i q;exact⟨List.mem_cons_of_mem _ h1,λa ha=>by rcases List.mem_cons.mp ha with rfl|ha;exact q;exact h2 a ha⟩
   ·rename_i q;exact⟨List.mem_cons_self ..,λa ha=>by rcases List.mem_cons.mp ha with rfl|ha;exact Int.le_refl _;have:=h2 a ha;omega⟩
  ·rename_i ey;cases e;cases r with
   |nil=>exact⟨List.mem_cons_self ..,λa ha=>by rw[wJ.mp ha];exact Int.le_refl _⟩
   |cons z r=>unfold R8 at ey;split at ey<;>cases ey
noncomputable def E6{α:Type}(x:Int×α):List (Int×α)->List (Int×α)
 | []=>[x]
 |y::r=>if x.1<=y.1 then x::y::r else y::E6 x r
noncomputable def S5{α:Type}:List (Int×α)->List (Int×α)
 | []=>[]
 |x::r=>E6 x (S5 r)
noncomputable def Jc{α:Type}(ks:List Int)(xs:List α):List α:=(S5 (ks.zip xs)).map (·.2)
noncomputable def qAA(h:AH):V->Option Int
 | .ref q=>(qU h q).bind λys=>(zK ys).bind R8
 |_=>none
noncomputable def one(as:List V)(f:V->RV):RV:=match as with
 | [a]=>f a
 |_=>.stuck
theorem jQ{as:List V}{f:V->RV}{r:V×AH}(e:one as f=.ok r):∃a,as=[a]/\f a=.ok r:=by
 unfold one at e;split at e
 ·exact⟨_,rfl,e⟩
 ·cases e
noncomputable def two(as:List V)(f:V->V->RV):RV:=match as with
 | [a,b]=>f a b
 |_=>.stuck
theorem two_inv{as:List V}{f:V->V->RV}{r:V×AH}(e:two as f=.ok r):∃a b,as=[a,b]/\f a b=.ok r:=by
 unfold two at e;split at e
 ·exact⟨_,_,rfl,e⟩
 ·cases e
noncomputable def qBm:BF->List V->AH->RV
 | .len,as,h=>one as λx=>S3 x λa=>(match items h a with|some xs=>.ok (.int xs.length,h)|none=>.stuck)
 | .sum,as,h=>one as λx=>S3 x λa=>(match qU h a with
  |some xs=>match za xs with|some is=>.ok (.int is.sum,h)|none=>.stuck
  |none=>.stuck)
 | .all,as,h=>one as λx=>S3 x λa=>(match qU h a with
  |some xs=>match jU xs with|some bs=>.ok (.bl (bs.all id),h)|none=>.stuck
  |none=>.stuck)
 | .max,as,h=>two as λx y=>K9 x y λi j=>.ok (.int (if j>i then j else i),h)
 | .min,as,h=>two as λx y=>K9 x y λi j=>.ok (.int (if j<i then j else i),h)
 | .list,as,h=>one as λx=>S3 x λa=>(match items h a with|some xs=>newL xs h|none=>.stuck)
 | .int,as,h=>one as λx=>(match x with | .int i=>.ok (.int i,h) | .bl b=>.ok (.int (if b then 1 else 0),h)|_=>.stuck)
 | .bits,as,h=>one as λx=>(match x with | .int i=>.ok (.int ((PySem.Builtin.Int.intBits i:Nat):Int),h)|_=>.stuck)
noncomputable def jl:Mt->Nat->List V->AH->RV
 | .pop,p,[],h=>match qf h p with
  |some xs=>match xs[xs.length-1]? with|some y=>.ok (y,h.set p (.lst false xs.dropLast))|none=>.stuck
  |none=>.stuck
 | .popAt,p,[.int i],h=>match qf h p with
  |some xs=>if xs.length<=lim then (match ixN xs.length i with|some k=>(match xs[k]? with|some y=>.ok (y,h.set p (.lst false (xs.eraseIdx k)))|none=>.stuck)|none=>.stuck) else .stuck
  |none=>.stuck
 | .rev,p,[],h=>match qf h p with|some xs=>.ok (.non,h.set p (.lst false xs.reverse))|none=>.stuck
 | .clr,p,[],h=>match qf h p with|some _=>.ok (.non,h.set p (.lst false []))|none=>.stuck
 | .ins,p,[.int i,y],h=>match qf h p with
  |some xs=>if 0<=i/\i<=xs.length/\xs.length<lim then .ok (.non,h.set p (.lst false (xs.take i.toNat++y::xs.drop i.toNat))) else .stuck
  |none=>.stuck
 |_,_,_,_=>.stuck
noncomputable def zX(h:AH):V->Option String
 | .non=>some "NoneType"
 | .bl _=>some "bool"
 | .int _=>some "int"
 | .str _=>some "str"
 | .ref a=>match h[a]? with|some (.lst _ _)=>some "list" | some (.tup _)=>some "tuple" | some (.ob (.dct _))=>some "dict" | _=>none
 |_=>none
noncomputable def zp(t c:String):Bool:=t==c||(t=="bool"&&c=="int")
inductive Src|list(a:Nat)|tupl(a:Nat)|rng(lo:Int)(n:Nat)
noncomputable def Q4(h:AH):Src->Option Nat
 | .list a=>(qU h a).map List.length
 | .tupl a=>(qX h a).map List.length
 | .rng _ n=>some n
noncomputable def zD(h:AH)(i:Nat):Src->Option (V×AH)
 | .list a=>match qU h a with|some xs=>xs[i]?.map λx=>(x,h)|none=>none
 | .tupl a=>match qX h a with|some xs=>xs[i]?.map λx=>(x,h)|none=>none
 | .rng lo n=>if i<n then some (.int (lo+(i:Int)),h) else none
noncomputable def jb(h:AH)(i:Nat):Src->Bool
 | .list a=>match qU h a with|some xs=>decide (xs.length<=i)|none=>false
 | .tupl a=>match qX h a with|some xs=>decide (xs.length<=i)|none=>false
 | .rng _ n=>decide (n<=i)
noncomputable def Qb:List Nat->List V->St->Option St
 | [],[],σ=>some σ
 |i::is,x::xs,σ=>Qb is xs (σ.set i (some x))
 |_,_,_=>none
noncomputable def store:Tg->V->St->AH->Option St
 | .name i,v,σ,_=>some (σ.set i (some v))
 | .tup is,.ref a,σ,h=>match qX h a with|some xs=>Qb is xs σ | none=>none
 | .tup _,_,_,_=>none
noncomputable def Zo(s:Src)(g:Tg)(c:St->AH->Res (Bool×AH))(e:St->AH->RV)(D:Nat):Nat->Nat->List V->St->AH->RV
 | 0,i,_,_,h=>if jb h i s then .ok (.ref D,h) else .stuck
 |n+1,i,ys,σ,h=>match zD h i s with
  |some (x,h1)=>match store g x σ h1 with
   |some σ1=>(c σ1 h1).bind λ(b,h2)=>
    if b then (e σ1 h2).bind λ(y,h3)=>if h3[D]?=some (.lst false ys)/\ys.length<lim then Zo s g c e D n (i+1) (ys++[y]) σ1 (h3.set D (.lst false (ys++[y]))) else .stuck
    else if h2[D]?=some (.lst false ys) then Zo s g c e D n (i+1) ys σ1 h2 else .stuck
   |none=>.stuck
  |none=>.stuck
noncomputable def asB(r:RV):Res (Bool×AH):=r.bind λ(v,h)=>match v with | .bl b=>.ok (b,h)|_=>.stuck
section
variable (F:Nat->List V->AH->RV)
mutual
noncomputable def ev:E->St->AH->RV
 | .var i=>λσ h=>match σ[i]? with|some (some v)=>.ok (v,h)|_=>.stuck
 | .cst v=>λ_ h=>.ok (v,h)
 | .glob g=>λ_ h=>.ok (.ref g,h)
 | .bin op a b=>λσ h=>(ev a σ h).bind λ(x,h1)=>(ev b σ h1).bind λ(y,h2)=>qBh op x y h2
 | .neg a=>λσ h=>(ev a σ h).bind λ(x,h1)=>match x with | .int i=>.ok (.int (-i),h1)|_=>.stuck
 | .cmp op a b=>λσ h=>(ev a σ h).bind λ(x,h1)=>(ev b σ h1).bind λ(y,h2)=>qAE op x y h2
 | .cmp2 o1 o2 a b c=>λσ h=>(ev a σ h).bind λ(x,h1)=>(ev b σ h1).bind λ(y,h2)=>match S0 o1 x y h2 with
  |some true=>(ev c σ h2).bind λ(z,h3)=>qAE o2 y z h3
  |some false=>.ok (.bl false,h2)
  |none=>.stuck
 | .and a b=>λσ h=>(asB (ev a σ h)).bind λ(x,h1)=>if x then ev b σ h1 else .ok (.bl false,h1)
 | .or a b=>λσ h=>(asB (ev a σ h)).bind λ(x,h1)=>if x then .ok (.bl true,h1) else ev b σ h1
 | .not a=>λσ h=>(asB (ev a σ h)).bind λ(x,h1)=>.ok (.bl (!x),h1)
 | .call f as=>λσ h=>(evs as σ h).bind λ(xs,h1)=>(F f xs h1).nx
 | .blt f as=>λσ h=>(evs as σ h).bind λ(xs,h1)=>qBm f xs h1
 | .isi a ts=>λσ h=>(ev a σ h).bind λ(x,h1)=>match zX h1 x with|some t=>.ok (.bl (ts.any (zp t)),h1)|none=>.stuck
 | .idx a b=>λσ h=>(ev a σ h).bind λ(x,h1)=>(ev b σ h1).bind λ(y,h2)=>match x,y with
  | .ref p,.int i=>match items h2 p with
   |some xs=>match (ixN xs.length i).bind λj=>xs[j]? with|some v=>.ok (v,h2)|none=>.stuck
   |none=>.stuck
  |_,_=>.stuck
 | .sl a lo hi=>λσ h=>(ev a σ h).bind λ(x,h1)=>(evs lo σ h1).bind λ(l,h2)=>(evs hi σ h2).bind λ(u,h3)=>
  match x,zK l,zK u with
  | .ref p,some l,some u=>match qU h3 p with
   |some xs=>newL (cut xs l.head? u.head?) h3
   |none=>match qX h3 p with
    |some xs=>if HT.sIx xs.length 0 l.head?=0/\HT.sIx xs.length xs.length u.head?=xs.length then .stuck else newT (cut xs l.head? u.head?) h3
    |none=>.stuck
  |_,_,_=>.stuck
 | .lst as=>λσ h=>(evs as σ h).bind λ(xs,h1)=>if xs.length<=lim then newL xs h1 else .stuck
 | .tup as=>λσ h=>(evs as σ h).bind λ(xs,h1)=>if xs.length<=lim then newT xs h1 else .stuck
 | .comp it src g c e=>λσ h=>(evi it σ h).bind λ(s,h1)=>match Q4 (h1++[.lst false []]) s with
  |some n=>Zo s g (evc c) (ev e) h1.length n 0 [] (L2.inner src σ) (h1++[.lst false []])
  |none=>.stuck
 | .app a b=>λσ h=>(ev a σ h).bind λ(x,h1)=>match x with
  | .ref p=>(match qU h1 p with
   |some _=>(ev b σ h1).bind λ(y,h2)=>match qf h2 p with
    |some xs=>if xs.length<lim then .ok (.non,h2.set p (.lst false (xs++[y]))) else .stuck
    |none=>.stuck
   |none=>.stuck)
  |_=>.stuck
 | .nset a=>λσ h=>(ev a σ h).bind λ(x,h1)=>match x with | .ref p=>(match qU h1 p with|some ys=>(match zK ys with|some is=>if is.length<1000 then .ok (.int ((difs is:Nat):Int),h1) else .stuck|none=>.stuck)|none=>.stuck)|_=>.stuck
 | .mink f a=>λσ h=>(ev a σ h).bind λ(x,h1)=>S3 x λp=>(match qU h1 p with
  |some xs=>(match zK xs with
   |some is=>(match qBH (λi=>U0 h1 (F f [.int i] h1)) is with|some v=>.ok (.int v,h1)|none=>.stuck)
   |none=>.stuck)
  |none=>.stuck)
 | .srtm a=>λσ h=>(ev a σ h).bind λ(x,h1)=>S3 x λp=>(match qU h1 p with
  |some xs=>(match xs.mapM (qAA h1) with|some ks=>if ks.length<64/\ks.Nodup then newL (Jc ks xs) h1 else .stuck|none=>.stuck)
  |none=>.stuck)
 | .lrng a=>λσ h=>(ev a σ h).bind λ(x,h1)=>match x with | .int j=>if -1000000<=j/\j<=100000 then newL (zr 0 j.toNat) h1 else .stuck|_=>.stuck
 | .dnew=>λ_ h=>.ok (.ref h.length,h++[.ob (.dct [])])
 | .meth m a as=>λσ h=>(ev a σ h).bind λ(x,h1)=>match x with
  | .ref p=>(match qU h1 p with
   |some _=>(evs as σ h1).bind λ(ys,h2)=>jl m p ys h2
   |none=>.stuck)
  |_=>.stuck
noncomputable def evs:Es->St->AH->Res (List V×AH)
 | .nil=>λ_ h=>.ok ([],h)
 | .cons a as=>λσ h=>(ev a σ h).bind λ(x,h1)=>(evs as σ h1).bind λ(xs,h2)=>.ok (x::xs,h2)
noncomputable def evc:Es->St->AH->Res (Bool×AH)
 | .nil=>λ_ h=>.ok (true,h)
 | .cons a _=>λσ h=>asB (ev a σ h)
noncomputable def evi:Itr->St->AH->Res (Src×AH)
 | .list a=>λσ h=>(ev a σ h).bind λ(x,h1)=>match x with | .ref p=>(match h1[p]? with|some (.lst _ _)=>.ok (.list p,h1)|some (.tup _)=>.ok (.tupl p,h1)|_=>.stuck)|_=>.stuck
 | .rng1 a=>λσ h=>(ev a σ h).bind λ(x,h1)=>match x with | .int j=>if -1000000<=j/\j<=1000000 then .ok (.rng 0 j.toNat,h1) else .stuck|_=>.stuck
end
inductive Out|nx(σ:St)|rt(v:V)|bk(σ:St)|ct(σ:St)
noncomputable abbrev RS:=Res (Out×AH)
noncomputable def R9(s:Src)(g:Tg)(b:St->AH->RS):Nat->Nat->St->AH->RS
 | 0,i,σ,h=>if jb h i s then .ok (.nx σ,h) else .stuck
 |n+1,i,σ,h=>match zD h i s with
  |some (x,h1)=>match store g x σ h1 with
   |some σ1=>(b σ1 h1).bind λ(o,h2)=>match o with
    | .nx σ2=>R9 s g b n (i+1) σ2 h2
    | .ct σ2=>R9 s g b n (i+1) σ2 h2
    | .bk σ2=>.ok (.nx σ2,h2)
    | .rt v=>.ok (.rt v,h2)
   |none=>.stuck
  |none=>.stuck
mutual
noncomputable def ex:S->St->AH->RS
 | .asg g e=>λσ h=>(ev F e σ h).bind λ(x,h1)=>match store g x σ h1 with|some σ1=>.ok (.nx σ1,h1)|none=>.stuck
 | .put o i v=>λσ h=>(ev F v σ h).bind λ(x,h1)=>(ev F o σ h1).bind λ(p,h2)=>(ev F i σ h2).bind λ(k,h3)=>match p,k with
  | .ref a,.int k=>match qf h3 a with
   |some xs=>match ixN xs.length k with|some j=>.ok (.nx σ,h3.set a (.lst false (xs.set j x)))|none=>.stuck
   |none=>match JL h3 a with
    |some kvs=>if flat x=true/\kvs.length<lim then .ok (.nx σ,h3.set a (.ob (.dct (qCX kvs k x)))) else .stuck
    |none=>.stuck
  |_,_=>.stuck
 | .expr e=>λσ h=>(ev F e σ h).bind λ(_,h1)=>.ok (.nx σ,h1)
 | .ret e=>λσ h=>(ev F e σ h).bind λ(x,h1)=>.ok (.rt x,h1)
 | .ifs c t u=>λσ h=>(asB (ev F c σ h)).bind λ(x,h1)=>if x then exs t σ h1 else exs u σ h1
 | .for_ g it b=>λσ h=>(evi F it σ h).bind λ(s,h1)=>match Q4 h1 s with
  |some n=>R9 s g (exs b) n 0 σ h1
  |none=>.stuck
 | .stop=>λ_ _=>.stuck
noncomputable def exs:Ss->St->AH->RS
 | .nil=>λσ h=>.ok (.nx σ,h)
 | .cons s r=>λσ h=>(ex s σ h).bind λ(o,h1)=>match o with
  | .nx σ1=>exs r σ1 h1
  |o=>.ok (o,h1)
end
end
structure Fn where
 npar:Nat
 nslot:Nat
 body:Ss
noncomputable def Fk(tb:List Fn):Nat->Nat->List V->AH->RV
 | 0,_,_,_=>.stuck
 |k+1,f,vs,h=>match tb[f]? with
  |some d=>if vs.length=d.npar/\d.npar<=d.nslot then (exs (Fk tb k) d.body (vs.map some++List.replicate (d.nslot-d.npar) none) h).bind λ(o,h1)=>match o with
    | .nx _=>.ok (.non,h1)
    | .rt v=>.ok (v,h1)
    |_=>.stuck
   else .stuck
  |none=>.stuck
open PySem PySem.Spec PyProof.Rows
open L2 (Hp HO Cx PE PT PA PS PSs TE TT TA TS VK upd qB qC SqL SqT QP)
def rv(φ:List Addr):V->V->Prop
 | .ref i,.ref a=>φ[i]?=some a
 | .non,.non=>True
 | .bl b,.bl c=>b=c
 | .int i,.int j=>i=j
 | .str x,.str y=>x=y
 |_,_=>False
abbrev rvs(φ:List Addr):List V->List V->Prop:=Paired (rv φ)
def ropt(φ:List Addr):Option V->Option V->Prop
 |some v,oc=>∃w,oc=some w/\rv φ v w
 |none,_=>True
abbrev rst(φ:List Addr):St->St->Prop:=Paired (ropt φ)
def Ext(φ φ':List Addr):Prop:=∃r,φ'=φ++r
theorem Ext.refl(φ:List Addr):Ext φ φ:=⟨[],by simp⟩
theorem Ext.trans{a b c:List Addr}(h:Ext a b)(g:Ext b c):Ext a c:=by
 obtain⟨r,rfl⟩:=h;obtain⟨q,rfl⟩:=g;exact⟨r++q,by simp⟩
theorem Ext.get{φ φ':List Addr}(x:Ext φ φ'){i:Nat}{a:Addr}(h:φ[i]?=some a):φ'[i]?=some a:=by
 obtain⟨r,rfl⟩:=x;rw[List.getElem?_append_left (List.getElem?_eq_some_iff.mp h).1];exact h
theorem rv.mono{φ φ':List Addr}(x:Ext φ φ'):∀{v w:V},rv φ v w->rv φ' v w
 | .ref i,.ref a,h=>x.get h
 | .non,.non,h=>h
 | .bl _,.bl _,h=>h
 | .int _,.int _,h=>h
 | .str _,.str _,h=>h
 | .byt _,_,h=>by cases h
 | .flt _,_,h=>by cases h
 | .ty _,_,h=>by cases h
theorem rvs.mono{φ φ':List Addr}(x:Ext φ φ'){vs ws:List V}(h:rvs φ vs ws):rvs φ' vs ws:=L2.Paired.mapP h λ_ _ r=>rv.mono x r
theorem ropt.mono{φ φ':List Addr}(x:Ext φ φ'):∀{v w:Option V},ropt φ v w->ropt φ' v w
 |some v,oc,h=>by obtain⟨w,e,r⟩:=h;exact⟨w,e,rv.mono x r⟩
 |none,_,_=>trivial
theorem rst.mono{φ φ':List Addr}(x:Ext φ φ'){σ τ:St}(h:rst φ σ τ):rst φ' σ τ:=L2.Paired.mapP h λ_ _ r=>ropt.mono x r
theorem qO{α β:Type}{R:α->β->Prop}:∀{xs:List α}{ys:List β}{i:Nat}{x:α},Paired R xs ys->xs[i]?=some x->∃y,ys[i]?=some y/\R x y
 |_,_,_,_,.nil,e=>by simp at e
 |_,_,0,_,.cons r _,e=>by simp at e;subst e;exact⟨_,rfl,r⟩
 |_,_,i+1,x,.cons _ t,e=>by
  obtain⟨u,h1,h2⟩:=qO (i:=i) (x:=x) t (by simpa using e);exact⟨u,by simpa using h1,h2⟩
theorem zP{α β:Type}{R:α->β->Prop}{x:α}{u:β}(r:R x u):∀{xs:List α}{us:List β}(i:Nat),Paired R xs us->Paired R (xs.set i x) (us.set i u)
 |_,_,_,.nil=>.nil
 |_,_,0,.cons _ t=>.cons r t
 |_,_,i+1,.cons q t=>.cons q (zP r i t)
theorem qK{α β:Type}{R:α->β->Prop}:∀{xs ys:List α}{us ws:List β},Paired R xs us->Paired R ys ws->Paired R (xs++ys) (us++ws)
 |_,_,_,_,.nil,s=>s
 |_,_,_,_,.cons r t,s=>.cons r (qK t s)
theorem qt{α β:Type}{R:α->β->Prop}:∀{xs:List α}{us:List β}(n:Nat),Paired R xs us->Paired R (xs.take n) (us.take n)
 |_,_,0,_=>.nil
 |_,_,_+1,.nil=>.nil
 |_,_,n+1,.cons r t=>.cons r (qt n t)
theorem zw{α β:Type}{R:α->β->Prop}:∀{xs:List α}{us:List β}(n:Nat),Paired R xs us->Paired R (xs.drop n) (us.drop n)
 |_,_,0,r=>r
 |_,_,_+1,.nil=>.nil
 |_,_,n+1,.cons _ t=>zw n t
theorem QV{α β:Type}{R:α->β->Prop}{xs:List α}{us:List β}(h:Paired R xs us):∀k:Nat,Paired R (List.replicate k xs).flatten (List.replicate k us).flatten
 | 0=>.nil
 |k+1=>by
  rw[List.replicate_succ,List.replicate_succ,List.flatten_cons,List.flatten_cons];exact qK h (QV h k)
noncomputable def kk(p:Int×V):L2.Key×V:=(.inl p.1,p.2)
noncomputable def O.mu:O->Bool
 | .lst false _=>true | .ob (.dct _)=>true|_=>false
def exP(a C:Addr):Heap->Prop:=λh=>∃o,h.get? a=some o/\o.cls=.ref C
def ro(K:PySem.W.Frag)(φ:List Addr)(H:Hp)(a:Addr):O->Prop
 | .lst false xs=>∃ys,H a=some (.lst ys)/\rvs φ xs ys
 | .lst true xs=>∃ys,((∃o,H a=some (.frz o (.lst ys)))\/SqL K (λ_=>none) a ys)/\rvs φ xs ys
 | .tup xs=>∃ys,SqT K H a ys/\rvs φ xs ys
 | .ob (.dct kvs)=>H a=some (.dK (kvs.map kk))
 | .ob (.exn x)=>∃C,PySem.W.nsIn K mainGlobals x=some (some (.ref C))/\H a=some (.ext (exP a C))
structure Rl(K:PySem.W.Frag)(G:List Addr)(φ:List Addr)(h:AH)(H:Hp):Prop where
 len:φ.length=h.length
 glob:Ext G φ
 obj:∀(i:Nat) o a,h[i]?=some o->φ[i]?=some a->ro K φ H a o
 inj:∀(i j:Nat) x y a,x.mu=true->y.mu=true->h[i]?=some x->h[j]?=some y->φ[i]?=some a->φ[j]?=some a->i=j
section
variable{K:PySem.W.Frag}{G φ φ':List Addr}{h:AH}{H H':Hp}{a b p:Addr}
theorem U9{xs:List V}(s:QP H H')(q:SqT K H a xs):SqT K H' a xs:=by
 rcases q with(h|⟨o,h⟩)|h
 ·exact .inl (.inl (s _ _ h))
 ·exact .inl (.inr ⟨o,s _ _ h⟩)
 ·exact .inr h
theorem V1{xs:List V}(q:SqL K (λ_=>none) a xs):SqL K H a xs:=by
 rcases q with(h|⟨o,h⟩)|h
 ·cases h
 ·cases h
 ·exact .inr h
theorem jq{o:HO}(hp:H p=none):QP H (upd H p o):=λb u e=>by rw[qC (L2.ne_of_none e hp)];exact e
theorem ro.keep{o:O}(x:Ext φ φ')(s:QP H H')(r:ro K φ H a o):ro K φ' H' a o:=by
 match o,r with
 | .lst false xs,⟨ys,e,r⟩=>exact⟨ys,s _ _ e,rvs.mono x r⟩
 | .lst true xs,⟨ys,.inl ⟨o,e⟩,r⟩=>exact⟨ys,.inl ⟨o,s _ _ e⟩,rvs.mono x r⟩
 | .lst true xs,⟨ys,.inr e,r⟩=>exact⟨ys,.inr e,rvs.mono x r⟩
 | .tup xs,⟨ys,e,r⟩=>exact⟨ys,U9 s e,rvs.mono x r⟩
 | .ob (.dct _),e=>exact s _ _ e
 | .ob (.exn _),⟨C,e1,e2⟩=>exact⟨C,e1,s _ _ e2⟩
def Wr(w:HO):Prop:=(∃zs,w=.lst zs)\/∃ks,w=.dK ks
theorem ro.wr{o:O}(m:o.mu=true)(r:ro K φ H a o):∃w,H a=some w/\Wr w:=by
 match o,m,r with
 | .lst false xs,_,⟨ys,e,r⟩=>exact⟨_,e,.inl ⟨_,rfl⟩⟩
 | .ob (.dct _),_,e=>exact⟨_,e,.inr ⟨_,rfl⟩⟩
theorem Wr.ne{w v:HO}(h:Wr w)(e:H a=some v)(hb:H b=some w)(h1:∀zs,v≠.lst zs)(h2:∀ks,v≠.dK ks):a≠b:=λz=>by
 subst z;rw[e]at hb;cases hb;rcases h with⟨zs,rfl⟩|⟨ks,rfl⟩
 ·exact h1 _ rfl
 ·exact h2 _ rfl
theorem ro.other{o:O}{w w':HO}(hw:Wr w)(hb:H b=some w)(hne:o.mu=true->a≠b)(r:ro K φ H a o):ro K φ (upd H b w') a o:=by
 match o,r with
 | .lst false xs,⟨ys,e,r⟩=>exact⟨ys,by rw[qC (hne rfl)];exact e,r⟩
 | .lst true xs,⟨ys,.inl ⟨o,e⟩,r⟩=>exact⟨ys,.inl ⟨o,by rw[qC (hw.ne e hb (λ_ z=>by cases z) (λ_ z=>by cases z))];exact e⟩,r⟩
 | .lst true xs,⟨ys,.inr e,r⟩=>exact⟨ys,.inr e,r⟩
 | .tup xs,⟨ys,e,r⟩=>
  refine⟨ys,?_,r⟩;rcases e with(h|⟨o,h⟩)|h
  ·exact .inl (.inl (by rw[qC (hw.ne h hb (λ_ z=>by cases z) (λ_ z=>by cases z))];exact h))
  ·exact .inl (.inr ⟨o,by rw[qC (hw.ne h hb (λ_ z=>by cases z) (λ_ z=>by cases z))];exact h⟩)
  ·exact .inr h
 | .ob (.dct _),e=>exact(by show upd H b _ a=_;rw[qC (hne rfl)];exact e)
 | .ob (.exn _),⟨C,e1,e2⟩=>exact⟨C,e1,by rw[qC (hw.ne e2 hb (λ_ z=>by cases z) (λ_ z=>by cases z))];exact e2⟩
theorem Rl.at(R:Rl K G φ h H){i:Nat}{o:O}(e:h[i]?=some o):∃a,φ[i]?=some a/\ro K φ H a o:=by
 have hi:i<φ.length:=by rw[R.len];exact(List.getElem?_eq_some_iff.mp e).1
 exact⟨φ[i],wA hi,R.obj i o _ e (wA hi)⟩
theorem Rl.new(R:Rl K G φ h H)(hp:H p=none){o:O}{ob:HO}(n:ro K (φ++[p]) (upd H p ob) p o):Rl K G (φ++[p]) (h++[o]) (upd H p ob):=by
 have x:Ext φ (φ++[p]):=⟨[p],rfl⟩
 refine⟨by simp[R.len],R.glob.trans x,λi u a e1 e2=>?_,λi j xs ys a m1 m2 e1 e2 e3 e4=>?_⟩
 ·by_cases hi:i<h.length
  ·rw[List.getElem?_append_left hi]at e1;rw[List.getElem?_append_left (by rw[R.len];exact hi)]at e2;exact(R.obj i u a e1 e2).keep x (jq hp)
  ·have hi':i=h.length:=by
    have:=(List.getElem?_eq_some_iff.mp e1).1;simp at this;omega
   subst hi';simp at e1;rw[<-R.len]at e2;simp at e2;subst e1 e2;exact n
 ·have lt:∀{k:Nat}{z:O},(h++[o])[k]?=some z->(h[k]?=some z/\k<h.length)\/k=h.length:=λ{k zs} e=>by
   by_cases hk:k<h.length
   ·rw[List.getElem?_append_left hk]at e;exact .inl ⟨e,hk⟩
   ·have:=(List.getElem?_eq_some_iff.mp e).1;simp at this;exact .inr (by omega)
  have old:∀{k:Nat}{b:Addr},k<h.length->(φ++[p])[k]?=some b->φ[k]?=some b:=λ{k b} hk e=>by
   rwa [List.getElem?_append_left (by rw[R.len];exact hk)]at e
  have newA:∀{b:Addr},(φ++[p])[h.length]?=some b->b=p:=λ{b} e=>by
   rw[<-R.len]at e;simp at e;exact e.symm
  rcases lt e1 with⟨e1,h1⟩|rfl<;>rcases lt e2 with⟨e2,h2⟩|rfl
  ·exact R.inj i j xs ys a m1 m2 e1 e2 (old h1 e3) (old h2 e4)
  ·have ea:=newA e4;subst ea;obtain⟨w,hz,_⟩:=(R.obj i _ a e1 (old h1 e3)).wr m1;rw[hp]at hz;cases hz
  ·have ea:=newA e3;subst ea;obtain⟨w,hz,_⟩:=(R.obj j _ a e2 (old h2 e4)).wr m2;rw[hp]at hz;cases hz
  ·rfl
theorem Rl.more(R:Rl K G φ h H)(hp:H p=none){ob:HO}:Rl K G φ h (upd H p ob):=
 ⟨R.len,R.glob,λi u a e1 e2=>(R.obj i u a e1 e2).keep (Ext.refl _) (jq hp),R.inj⟩
theorem Rl.exn(R:Rl K G φ h H){i:Nat}{x:Str}(e:qAS h i=some x):∃a C,φ[i]?=some a/\PySem.W.nsIn K mainGlobals x=some (some (.ref C))/\H a=some (.ext (exP a C)):=by
 unfold qAS at e;split at e
 ·rename_i c q;cases e;obtain⟨a,ea,C,r1,r2⟩:=R.at q;exact⟨a,C,ea,r1,r2⟩
 ·cases e
theorem Rl.newL(R:Rl K G φ h H)(hp:H p=none){xs ys:List V}(r:rvs φ xs ys):Rl K G (φ++[p]) (h++[.lst false xs]) (upd H p (.lst ys)):=
 R.new hp ⟨ys,qB,rvs.mono ⟨[p],rfl⟩ r⟩
theorem Rl.newT(R:Rl K G φ h H)(hp:H p=none){xs ys:List V}(r:rvs φ xs ys):Rl K G (φ++[p]) (h++[.tup xs]) (upd H p (.tup ys)):=
 R.new hp ⟨ys,.inl (.inl qB),rvs.mono ⟨[p],rfl⟩ r⟩
theorem Rl.lastRef(R:Rl K G φ h H):(φ++[p])[h.length]?=some p:=by rw[<-R.len];simp
theorem Rl.write(R:Rl K G φ h H){i:Nat}{x y:O}{w':HO}(mx:x.mu=true)(my:y.mu=true)(e:h[i]?=some x)(ea:φ[i]?=some a)(n:ro K φ (upd H a w') a y):Rl K G φ (h.set i y) (upd H a w'):=by
 have hi:=(List.getElem?_eq_some_iff.mp e).1;obtain⟨w,hw,ww⟩:=(R.obj i _ a e ea).wr mx;have lk:∀{k:Nat}{z:O},z.mu=true->(h.set i y)[k]?=some z->∃z',z'.mu=true/\h[k]?=some z':=λ{k zs} m q=>by
  by_cases hk:k=i
  ·subst hk;exact⟨x,mx,e⟩
  ·rw[wI (Ne.symm hk)]at q;exact⟨zs,m,q⟩
 refine⟨by simp[R.len],R.glob,λk u b e1 e2=>?_,λk l us vs b m1 m2 e1 e2 e3 e4=>?_⟩
 ·by_cases hk:k=i
  ·subst hk;rw[wP hi]at e1;rw[ea]at e2;cases e1;cases e2;exact n
  ·rw[wI (Ne.symm hk)]at e1;refine(R.obj k u b e1 e2).other ww hw λmu hb=>?_;subst hb;exact hk (R.inj k i u x b mu mx e1 e e2 ea)
 ·obtain⟨z1,n1,q1⟩:=lk m1 e1;obtain⟨z2,n2,q2⟩:=lk m2 e2;exact R.inj k l z1 z2 b n1 n2 q1 q2 e3 e4
theorem Rl.set(R:Rl K G φ h H){i:Nat}{xs ys zs:List V}(e:h[i]?=some (.lst false xs))(ea:φ[i]?=some a)(r:rvs φ ys zs):Rl K G φ (h.set i (.lst false ys)) (upd H a (.lst zs)):=
 R.write rfl rfl e ea ⟨zs,qB,r⟩
theorem Rl.dct(R:Rl K G φ h H){i:Nat}{kvs:List (Int×V)}(e:JL h i=some kvs):∃a,φ[i]?=some a/\h[i]?=some (.ob (.dct kvs))/\H a=some (.dK (kvs.map kk)):=by
 unfold JL at e;split at e
 ·rename_i zs q;cases e;obtain⟨a,ea,r⟩:=R.at q;exact⟨a,ea,q,r⟩
 ·cases e
theorem Rl.lst(R:Rl K G φ h H){i:Nat}{xs:List V}(e:qU h i=some xs):∃a ys,φ[i]?=some a/\SqL K H a ys/\rvs φ xs ys:=by
 unfold qU at e;split at e
 ·rename_i fz zs q;cases e;obtain⟨a,ea,r⟩:=R.at q;cases fz with
  |false=>obtain⟨ys,e,r⟩:=r;exact⟨a,ys,ea,.inl (.inl e),r⟩
  |true=>
   obtain⟨ys,e,r⟩:=r;rcases e with⟨o,e⟩|e
   ·exact⟨a,ys,ea,.inl (.inr ⟨o,e⟩),r⟩
   ·exact⟨a,ys,ea,V1 e,r⟩
 ·cases e
theorem Rl.tup(R:Rl K G φ h H){i:Nat}{xs:List V}(e:qX h i=some xs):∃a ys,φ[i]?=some a/\SqT K H a ys/\rvs φ xs ys:=by
 unfold qX at e;split at e
 ·rename_i zs q;cases e;obtain⟨a,ea,ys,e,r⟩:=R.at q;exact⟨a,ys,ea,e,r⟩
 ·cases e
theorem Rl.mut(R:Rl K G φ h H){i:Nat}{xs:List V}(e:qf h i=some xs):h[i]?=some (.lst false xs)/\∃a ys,φ[i]?=some a/\H a=some (.lst ys)/\rvs φ xs ys:=by
 unfold qf at e;split at e
 ·rename_i zs q;cases e;obtain⟨a,ea,ys,e,r⟩:=R.at q;exact⟨q,a,ys,ea,e,r⟩
 ·cases e
theorem Rl.its(R:Rl K G φ h H){i:Nat}{xs:List V}(e:items h i=some xs):∃a ys,φ[i]?=some a/\(SqL K H a ys\/SqT K H a ys)/\rvs φ xs ys:=by
 unfold items at e;split at e
 ·rename_i fz zs q;cases e;obtain⟨a,ys,h1,h2,h3⟩:=R.lst (i:=i) (xs:=xs) (by unfold qU;rw[q]);exact⟨a,ys,h1,.inl h2,h3⟩
 ·rename_i zs q;cases e;obtain⟨a,ys,h1,h2,h3⟩:=R.tup (i:=i) (xs:=xs) (by unfold qX;rw[q]);exact⟨a,ys,h1,.inr h2,h3⟩
 ·cases e
end
open L2 (PG Inv RelV Vals EP TP AP SP OpR qo R2)
theorem Res.bind_inv{α β:Type}{r:Res α}{f:α->Res β}{x:β}(h:r.bind f=.ok x):∃a,r=.ok a/\f a=.ok x:=by
 cases r with
 |ok a=>exact⟨a,rfl,h⟩
 |exc c h'=>cases h
 |stuck=>cases h
theorem qA{φ:List Addr}{i:Int}{w:V}(h:rv φ (.int i) w):w=.int i:=by
 cases w with
 |int j=>exact congrArg V.int (show i=j from h).symm
 |_=>exact False.elim h
theorem zA{φ:List Addr}{i:Bool}{w:V}(h:rv φ (.bl i) w):w=.bl i:=by
 cases w with
 |bl j=>exact congrArg V.bl (show i=j from h).symm
 |_=>exact False.elim h
theorem zJ{φ:List Addr}{i:Str}{w:V}(h:rv φ (.str i) w):w=.str i:=by
 cases w with
 |str j=>exact congrArg V.str (show i=j from h).symm
 |_=>exact False.elim h
theorem qx{φ:List Addr}{w:V}(h:rv φ .non w):w=.non:=by
 cases w with
 |non=>rfl
 |_=>exact False.elim h
theorem qH{φ:List Addr}{i:Nat}{w:V}(h:rv φ (.ref i) w):∃a,w=.ref a/\φ[i]?=some a:=by
 cases w with
 |ref j=>exact⟨j,rfl,h⟩
 |_=>exact False.elim h
section
variable (K:PySem.W.Frag)(G:List Addr)(F:Nat->List V->AH->RV)
noncomputable def tE(e:E):TE:=λσc H Q=>∃φ h σ v h',Rl K G φ h H/\rst φ σ σc/\ev F e σ h=.ok (v,h')/\∀φ' H' w,Ext φ φ'->Rl K G φ' h' H'->rv φ' v w->Q w H'
noncomputable def tB(r:St->AH->Res (Bool×AH)):TT:=λσc H Q=>∃φ h σ b h',Rl K G φ h H/\rst φ σ σc/\r σ h=.ok (b,h')/\∀φ' H',Ext φ φ'->Rl K G φ' h' H'->Q b H'
noncomputable abbrev tT(e:E):TT:=tB K G (λσ h=>asB (ev F e σ h))
noncomputable def tL(as:Es):TA:=λσc H Q=>∃φ h σ vs h',Rl K G φ h H/\rst φ σ σc/\evs F as σ h=.ok (vs,h')/\∀φ' H' ws,Ext φ φ'->Rl K G φ' h' H'->rvs φ' vs ws->Q ws H'
end
section
variable{X:Cx}{G:List Addr}{F:Nat->List V->AH->RV}
theorem qj{e:Expr}{t t':TE}(h:PE X e t)(w:∀σ H Q,t' σ H Q->t σ H Q):PE X e t':=λpins s σ H Q I q=>h pins s σ H Q I (w σ H Q q)
theorem V8{e:Expr}{t t':TT}(h:PT X e t)(w:∀σ H Q,t' σ H Q->t σ H Q):PT X e t':=λpins s σ H Q I q=>h pins s σ H Q I (w σ H Q q)
theorem qAK{e:List Expr}{t t':TA}(h:PA X e t)(w:∀σ H Q,t' σ H Q->t σ H Q):PA X e t':=λpos pins s σ H Q I q=>h pos pins s σ H Q I (w σ H Q q)
variable (X G F) in
abbrev SE(e:Expr)(a:E):Prop:=PE X e (tE X.K G F a)
variable (X G F) in
abbrev ST(e:Expr)(a:E):Prop:=PT X e (tT X.K G F a)
variable (X G F) in
abbrev SA(es:List Expr)(as:Es):Prop:=PA X es (tL X.K G F as)
variable{K:PySem.W.Frag}{φ φ':List Addr}{h h1 h2:AH}{H:Hp}{σ σc:St}{a b:E}{x y:V}
theorem Qm(R:Rl K G φ h H)(rs:rst φ σ σc)(ea:ev F a σ h=.ok (x,h1))(eb:ev F b σ h1=.ok (y,h2)){Rr:V->V->Hp->Prop}
  (k:∀φ2 H2 xc yc,Ext φ φ2->Rl K G φ2 h2 H2->rv φ2 x xc->rv φ2 y yc->Rr xc yc H2):tE K G F a σc H (λxc H1=>tE K G F b σc H1 (λyc H2=>Rr xc yc H2)):=
 ⟨φ,h,σ,x,h1,R,rs,ea,λφ1 H1 xc e1 R1 r1=>⟨φ1,h1,σ,y,h2,R1,rst.mono e1 rs,eb,λφ2 H2 yc e2 R2 r2=>k φ2 H2 xc yc (e1.trans e2) R2 (rv.mono e2 r1) r2⟩⟩
theorem qAY{i:Nat}{n:Str}{pos:Pos}(hN:X.N[i]?=some n)(hv:L2.Vis X.env.scope n)(hd:(n==("__debug__":Str))=false)(hcd:(n==("__classdict__":Str))=false):SE X G F (.Name n pos) (.var i):=by
 refine qj (L2.pe_var hN hv hd hcd) λσc H Q q=>?_;obtain⟨φ,h,σ,v,h',R,rs,e,k⟩:=q;unfold ev at e;split at e
 ·rename_i w q;cases e;obtain⟨oc,ec,r⟩:=qO rs q;obtain⟨u,rfl,r⟩:=r;exact⟨u,ec,k φ H u (.refl _) R r⟩
 ·cases e
theorem O3{v:V}{w:V}{σc:St}{H:Hp}{Q:VK}(hr:∀φ,rv φ v w)(q:tE K G F (.cst v) σc H Q):L2.tC w σc H Q:=by
 obtain⟨φ,h,σ,v',h',R,rs,e,k⟩:=q;unfold ev at e;cases e;exact k φ H w (.refl _) R (hr φ)
theorem d5 {i j pos}:SE X G F (.Constant (.int i) j pos) (.cst (.int i)):=qj L2.pe_int λ_ _ _=>O3 λ_=>rfl
theorem qAa {i j pos}:SE X G F (.Constant (.bool i) j pos) (.cst (.bl i)):=qj L2.pe_bl λ_ _ _=>O3 λ_=>rfl
theorem c8 {j pos}:SE X G F (.Constant .none j pos) (.cst .non):=qj L2.pe_non λ_ _ _=>O3 λ_=>trivial
theorem Z3 {i j pos}:SE X G F (.Constant (.str i) j pos) (.cst (.str i)):=qj L2.pe_str λ_ _ _=>O3 λ_=>rfl
theorem u5{n:Str}{v:V}{u:Value}{pos:Pos}(hg:L2.Gl X n)(hm:X.mg n=some u)(r:RelV v u)(hv:∀φ,rv φ v v)(hd:(n==("__debug__":Str))=false):SE X G F (.Name n pos) (.cst v):=
 qj (L2.pe_glob hg hm r hd) λ_ _ _=>O3 hv
theorem q9{n:Str}{g:Nat}{a:Addr}{pos:Pos}(hg:L2.Gl X n)(hm:X.mg n=some (.ref a))(hG:G[g]?=some a)(hd:(n==("__debug__":Str))=false):SE X G F (.Name n pos) (.glob g):=by
 refine qj (L2.pe_glob (v:=.ref a) hg hm rfl hd) λσc H Q q=>?_;obtain⟨φ,h,σ,v',h',R,rs,e,k⟩:=q;unfold ev at e;cases e;exact k φ H (.ref a) (.refl _) R (R.glob.get hG)
noncomputable def opB:BOp->Operator
 | .add=>.Add | .sub=>.Sub | .mul=>.Mult | .fdiv=>.FloorDiv | .mod=>.Mod | .pow=>.Pow | .shl=>.LShift
def qC7(i j:Int):Prop:=j≠0/\j.natAbs.log2<9000
theorem W2:OpR X (binaryOp .FloorDiv) (L2.rI qC7 λi j=>.int (i.fdiv j)):=L2.opI λ_ _ _ _ _ _ _ hc q=>floordiv_int hc.1 q (.inl (PyProof.noPylong_of_log2 hc.2))
def qDi(i j:Int):Prop:=i.natAbs.log2<9000/\j.natAbs.log2<9000
theorem A7{i:Int}(h:i.natAbs.log2<9000):Builtin.Int.intBits i<=2 ^ 20:=by
 unfold Builtin.Int.intBits;have e:(2:Nat) ^ 20=1048576:=by decide
 rw[e];split<;>omega
theorem j8:OpR X (binaryOp .Mult) (L2.rI qDi λi j=>.int (i*j)):=L2.opI λ_ _ _ _ _ _ _ hc q=>mul_int q (IntMulOk.of_bits (A7 hc.1) (A7 hc.2))
theorem C6{i:Int}(h:mid i=true):i.natAbs.log2<9000:=vB h
noncomputable def qDh(K:PySem.W.Frag):BOp->R2
 | .add=>λx y H Q=>(L2.rI0 (λi j=>.int (i+j)) x y H Q\/L2.rCat x y H Q)\/L2.rCatT K x y H Q
 | .sub=>L2.rI0 λi j=>.int (i-j)
 | .mul=>λx y H Q=>(L2.rI L2.CMul (λi j=>.int (i*j)) x y H Q\/L2.rRep x y H Q)\/L2.rI qDi (λi j=>.int (i*j)) x y H Q
 | .fdiv=>λx y H Q=>L2.rI L2.CDiv (λi j=>.int (i / j)) x y H Q\/L2.rI qC7 (λi j=>.int (i.fdiv j)) x y H Q
 | .mod=>λx y H Q=>L2.rI (λ_ j=>0<j) (λi j=>.int (i % j)) x y H Q\/L2.rI (λ_ j=>j≠0) (λi j=>.int (i.fmod j)) x y H Q
 | .pow=>L2.rI L2.CPow λi j=>.int (i ^ j.toNat)
 | .shl=>L2.rI L2.CPow λi j=>.int (i*2 ^ j.toNat)
theorem j3:∀op,OpR X (binaryOp (opB op)) (qDh X.K op)
 | .add=>(L2.op_add.or L2.op_cat).or L2.op_catT
 | .sub=>L2.op_sub
 | .mul=>(L2.op_mul.or L2.op_rep).or j8
 | .fdiv=>L2.op_fdiv.or W2
 | .mod=>L2.op_mod.or L2.op_modN
 | .pow=>L2.op_pow
 | .shl=>L2.op_shl
theorem jh:lim<=sizeLine:=by decide
theorem Y3:lim<sizeLine:=by decide
theorem Jp{i:Int}(h:jk i=true):-(2 ^ 64)<i/\i<2 ^ 64:=by
 unfold jk two64 at h;have:=vB h;omega
theorem y9{op:BOp}{v xc yc:V}{h':AH}{Q:VK}(e:qBh op x y h=.ok (v,h'))(R:Rl K G φ h H)(rx:rv φ x xc)(ry:rv φ y yc)
  (k:∀φ' H' w,Ext φ φ'->Rl K G φ' h' H'->rv φ' v w->Q w H'):qDh K op xc yc H Q:=by
 cases op with
 |add=>
  dsimp only[qBh]at e;split at e
  ·replace e:=zS e;obtain⟨b,rfl,e⟩:=e;split at e
   ·rename_i xs ys e1 e2;split at e
    ·rename_i hl;cases e;obtain⟨q1,a1,ys1,ha1,hH1,r1⟩:=R.mut e1;obtain⟨q2,a2,ys2,ha2,hH2,r2⟩:=R.mut e2;obtain⟨b1,rfl,hb1⟩:=qH rx;obtain⟨b2,rfl,hb2⟩:=qH ry;rw[ha1]at hb1;cases hb1;rw[ha2]at hb2;cases hb2;refine .inl (.inr ⟨a1,a2,ys1,ys2,rfl,rfl,hH1,hH2,?_,λp hp=>k (φ++[p]) _ _ ⟨[p],rfl⟩ (R.newL hp (qK r1 r2)) R.lastRef⟩);have l1:=Paired.length r1;have l2:=Paired.length r2;have:=jh;omega
    ·cases e
   ·split at e
    ·rename_i xs ys e1 e2;split at e
     ·rename_i hl;obtain⟨a1,ys1,ha1,hH1,r1⟩:=R.tup e1;obtain⟨a2,ys2,ha2,hH2,r2⟩:=R.tup e2;obtain⟨b1,rfl,hb1⟩:=qH rx;obtain⟨b2,rfl,hb2⟩:=qH ry;rw[ha1]at hb1;cases hb1;rw[ha2]at hb2;cases hb2;have l1:=Paired.length r1;have l2:=Paired.length r2;refine .inr ⟨a1,a2,ys1,ys2,rfl,rfl,hH1,hH2,?_,?_,λz=>?_,λz p hp=>?_⟩
      ·rintro rfl;exact hl.1 (List.length_eq_zero_iff.mp l1)
      ·have:=jh;omega
      ·subst z;rw[if_pos (List.length_eq_zero_iff.mp l2)]at e;cases e;exact k φ H _ (.refl _) R ha1
      ·rw[if_neg (λq=>z (by subst q;exact List.length_eq_zero_iff.mp l2.symm))]at e;cases e;exact k (φ++[p]) _ _ ⟨[p],rfl⟩ (R.newT hp (qK r1 r2)) R.lastRef
     ·cases e
    ·cases e
  ·replace e:=zB e;obtain⟨i,j,rfl,rfl,e⟩:=e;cases e;cases qA rx;cases qA ry;exact .inl (.inl ⟨_,_,rfl,rfl,k φ H _ (.refl _) R rfl⟩)
 |sub=>
  replace e:=zB e;obtain⟨i,j,rfl,rfl,e⟩:=e;cases e;cases qA rx;cases qA ry;exact⟨_,_,rfl,rfl,k φ H _ (.refl _) R rfl⟩
 |mul=>
  dsimp only[qBh]at e;split at e
  ·split at e
   ·split at e
    ·rename_i xs e1;split at e
     ·rename_i hl;obtain⟨h0,hl,h3⟩:=hl;cases e;obtain⟨q1,a1,ys1,ha1,hH1,r1⟩:=R.mut e1;obtain⟨b1,rfl,hb1⟩:=qH rx;rw[ha1]at hb1;cases hb1;cases qA ry;refine .inl (.inr ⟨a1,_,ys1,rfl,rfl,hH1,by omega,by omega,?_,λp hp=>k (φ++[p]) _ _ ⟨[p],rfl⟩ (R.newL hp (QV r1 _)) R.lastRef⟩);have l1:=Paired.length r1;have:=jh;rw[<-l1];omega
     ·cases e
    ·cases e
   ·cases e
  ·replace e:=zB e;obtain⟨i,j,rfl,rfl,e⟩:=e;split at e
   ·rename_i hs;cases e;cases qA rx;cases qA ry;rw[wu,wu,Bool.and_eq_true]at hs;rcases hs with(z|z)|z
    ·exact .inl (.inl ⟨_,_,rfl,rfl,.inl (Jp z),k φ H _ (.refl _) R rfl⟩)
    ·exact .inl (.inl ⟨_,_,rfl,rfl,.inr (Jp z),k φ H _ (.refl _) R rfl⟩)
    ·exact .inr ⟨_,_,rfl,rfl,⟨C6 z.1,C6 z.2⟩,k φ H _ (.refl _) R rfl⟩
   ·cases e
 |fdiv=>
  replace e:=zB e;obtain⟨i,j,rfl,rfl,e⟩:=e;split at e
  ·rename_i hc;cases e;cases qA rx;cases qA ry;rcases hc.2 with z|z
   ·exact .inl ⟨_,_,rfl,rfl,⟨hc.1,z⟩,k φ H _ (.refl _) R rfl⟩
   ·refine .inr ⟨_,_,rfl,rfl,⟨by omega,C6 z⟩,?_⟩;dsimp only;rw[Int.fdiv_eq_ediv_of_nonneg _ (by omega)];exact k φ H _ (.refl _) R rfl
  ·split at e
   ·rename_i hc;cases e;cases qA rx;cases qA ry;exact .inr ⟨_,_,rfl,rfl,⟨by omega,C6 hc.2⟩,k φ H _ (.refl _) R rfl⟩
   ·cases e
 |mod=>
  replace e:=zB e;obtain⟨i,j,rfl,rfl,e⟩:=e;split at e
  ·rename_i hc;cases e;cases qA rx;cases qA ry;exact .inl ⟨_,_,rfl,rfl,hc,k φ H _ (.refl _) R rfl⟩
  ·split at e
   ·rename_i hc;cases e;cases qA rx;cases qA ry;exact .inr ⟨_,_,rfl,rfl,(by omega),k φ H _ (.refl _) R rfl⟩
   ·cases e
 |pow=>
  replace e:=zB e;obtain⟨i,j,rfl,rfl,e⟩:=e;split at e
  ·rename_i hc;cases e;cases qA rx;cases qA ry;refine⟨_,_,rfl,rfl,⟨hc.1,by omega,by omega⟩,k φ H _ (.refl _) R rfl⟩
  ·cases e
 |shl=>
  replace e:=zB e;obtain⟨i,j,rfl,rfl,e⟩:=e;split at e
  ·rename_i hc;cases e;cases qA rx;cases qA ry;refine⟨_,_,rfl,rfl,⟨hc.1,by omega,by omega⟩,k φ H _ (.refl _) R rfl⟩
  ·cases e
theorem Z8{op:BOp}{ea eb:Expr}{pos:Pos}(ha:SE X G F ea a)(hb:SE X G F eb b):SE X G F (.BinOp ea (opB op) eb pos) (.bin op a b):=by
 refine qj (L2.pe_op (j3 op) ha hb) λσc H Q q=>?_;obtain⟨φ,h,σ,v,h',R,rs,e,k⟩:=q;unfold ev at e;obtain⟨⟨x,h1⟩,e1,e⟩:=Res.bind_inv e;obtain⟨⟨y,h2⟩,e2,e⟩:=Res.bind_inv e;exact Qm R rs e1 e2 λφ2 H2 xc yc x2 R2 r1 r2=>y9 e R2 r1 r2 λφ' H' w x' R' r'=>k φ' H' w (x2.trans x') R' r'
theorem qA3{ea:Expr}{pos:Pos}(ha:SE X G F ea a):SE X G F (.UnaryOp .USub ea pos) (.neg a):=by
 refine qj (L2.pe_un L2.un_neg ha) λσc H Q q=>?_;obtain⟨φ,h,σ,v,h',R,rs,e,k⟩:=q;unfold ev at e;obtain⟨⟨x,h1⟩,e1,e⟩:=Res.bind_inv e;refine⟨φ,h,σ,x,h1,R,rs,e1,λφ1 H1 xc x1 R1 r1=>?_⟩;dsimp only at e;split at e
 ·cases e;cases qA r1;exact⟨_,rfl,k φ1 H1 _ x1 R1 rfl⟩
 ·cases e
end
open PySem.SeqAt
structure Eq3(A:Around)(s:Shared)(u w:Value)(b:Bool):Prop where
 eq:EqAt A s u w b
 rc:RcAt A s u w b
 ne:RcNeAt A s u w (!b)
theorem ZN{A:Around}{s:Shared}{φ:List Addr}:∀{x y xc yc:V}{u w:Value}{b:Bool},eqF x y=some b->rv φ x xc->rv φ y yc->RelV xc u->RelV yc w->Eq3 A s u w b:=by
 intro x y xc yc u w b e rx ry ru rw';cases x with
 |non=>
  cases qx rx;cases ru;cases y with
  |non=>cases qx ry;cases rw';cases e;exact⟨.same _,.none_none,.none_none⟩
  |bl j=>cases zA ry;cases rw';cases e;exact⟨.none_bool _,.none_bool _,.none_bool _⟩
  |int j=>cases qA ry;obtain⟨t,rfl⟩:=rw';cases e;exact⟨.none_int _ _,.none_int _ _,.none_int _ _⟩
  |str j=>cases zJ ry;obtain⟨t,rfl⟩:=rw';cases e;exact⟨.none_str _ _,.none_str _ _,.none_str _ _⟩
  |_=>cases e
 |bl i=>
  cases zA rx;cases ru;cases y with
  |non=>cases qx ry;cases rw';cases e;exact⟨.bool_none _,.bool_none _,.bool_none _⟩
  |bl j=>cases zA ry;cases rw';cases e;exact⟨.bool_bool _ _,.bool_bool _ _,.bool_bool _ _⟩
  |int j=>cases qA ry;obtain⟨t,rfl⟩:=rw';cases e;exact⟨.bool_int _ _ _,.bool_int _ _ _,.bool_int _ _ _⟩
  |str j=>cases zJ ry;obtain⟨t,rfl⟩:=rw';cases e;exact⟨.bool_str _ _ _,.bool_str _ _ _,.bool_str _ _ _⟩
  |_=>cases e
 |int i=>
  cases qA rx;obtain⟨t,rfl⟩:=ru;cases y with
  |non=>cases qx ry;cases rw';cases e;exact⟨.int_none _ _,.int_none _ _,.int_none _ _⟩
  |bl j=>cases zA ry;cases rw';cases e;exact⟨.int_bool _ _ _,.int_bool _ _ _,.int_bool _ _ _⟩
  |int j=>cases qA ry;obtain⟨t,rfl⟩:=rw';cases e;exact⟨.int_int _ _ _ _,.int_int _ _ _ _,.int_int _ _ _ _⟩
  |str j=>cases zJ ry;obtain⟨t,rfl⟩:=rw';cases e;exact⟨.int_str _ _ _ _,.int_str _ _ _ _,.int_str _ _ _ _⟩
  |_=>cases e
 |str i=>
  cases zJ rx;obtain⟨t,rfl⟩:=ru;cases y with
  |non=>cases qx ry;cases rw';cases e;exact⟨.str_none _ _,.str_none _ _,.str_none _ _⟩
  |bl j=>cases zA ry;cases rw';cases e;exact⟨.str_bool _ _ _,.str_bool _ _ _,.str_bool _ _ _⟩
  |int j=>cases qA ry;obtain⟨t,rfl⟩:=rw';cases e;exact⟨.str_int _ _ _ _,.str_int _ _ _ _,.str_int _ _ _ _⟩
  |str j=>cases zJ ry;obtain⟨t,rfl⟩:=rw';cases e;exact⟨.str_str _ _ _ _,.str_str _ _ _ _,.str_str _ _ _ _⟩
  |_=>cases e
 |_=>cases y<;>cases e
theorem B7{φ:List Addr}{x y w:V}{b:Bool}(e:eqF x y=some b)(rx:rv φ x w)(ry:rv φ y w):b=true:=by
 cases x with
 |non=>cases qx rx;cases y<;>first|exact False.elim ry|(cases e;rfl)|cases e
 |bl i=>cases zA rx;cases y<;>first|exact False.elim ry|(rename_i j;cases (show j=i from ry);cases e;simp)|cases e
 |int i=>cases qA rx;cases y<;>first|exact False.elim ry|(rename_i j;cases (show j=i from ry);cases e;simp)|cases e
 |str i=>cases zJ rx;cases y<;>first|exact False.elim ry|(rename_i j;cases (show j=i from ry);cases e;simp)|cases e
 |_=>cases y<;>cases e
theorem QN{f:V->V->Option Bool}:∀{xs ys:List V}{bs:List Bool},QS f xs ys=some bs->bs.length=xs.length/\ys.length=xs.length/\∀(j:Nat) x y,xs[j]?=some x->ys[j]?=some y->∃b,bs[j]?=some b/\f x y=some b
 | [],[],bs,e=>by
  cases e;exact⟨rfl,rfl,λj x y h=>by simp at h⟩
 | [],_::_,_,e=>by cases e
 |_::_,[],_,e=>by cases e
 |x::xs,y::ys,bs,e=>by
  unfold QS at e;split at e
  ·rename_i b bs' e1 e2;cases e;obtain⟨l1,l2,k⟩:=QN e2;refine⟨by simp[l1],by simp[l2],λj u v h1 h2=>?_⟩;cases j with
   |zero=>simp at h1 h2;subst h1 h2;exact⟨b,rfl,e1⟩
   |succ j=>obtain⟨b',h3,h4⟩:=k j u v (by simpa using h1) (by simpa using h2);exact⟨b',by simpa using h3,h4⟩
  ·cases e
theorem ZR(bs:List Bool):(List.range bs.length).all (λj=>bs.getD j true)=bs.all id:=by
 rw[wa];simp only[wN,wl,id];constructor
 ·intro h b hb;obtain⟨j,hj,rfl⟩:=List.mem_iff_getElem.mp hb;have:=h j hj;rw[wH,wA hj]at this;exact this
 ·intro h j hj;rw[wH,wA hj];exact h _ (List.getElem_mem hj)
section
variable{X:Cx}{G φ:List Addr}{h:AH}{H:Hp}{pins:List (Addr×Obj)}{σ:L2.St}{s:Shared}
theorem JY(I:Inv X pins σ H s)(R:Rl X.K G φ h H):∀(n:Nat){x y w:V}{b:Bool},eqD h n x y=some b->rv φ x w->rv φ y w->b=true
 | 0,x,y,w,b,e,rx,ry=>B7 e rx ry
 |n+1,x,y,w,b,e,rx,ry=>by
  have all:∀{xs ys zs:List V}{bs:List Bool},rvs φ xs zs->rvs φ ys zs->QS (eqD h n) xs ys=some bs->bs.all id=true:=λ{xs ys zs bs} r1 r2 e=>by
   obtain⟨l1,l2,k⟩:=QN e;rw[wN];intro b hb;obtain⟨j,hj,rfl⟩:=List.mem_iff_getElem.mp hb;have hx:j<xs.length:=by omega
   have hy:j<ys.length:=by omega
   obtain⟨b',hb',e'⟩:=k j _ _ (wA hx) (wA hy);rw[wA hj]at hb';cases hb';obtain⟨z,hz,q1⟩:=qO r1 (wA hx);obtain⟨z',hz',q2⟩:=qO r2 (wA hy);rw[hz]at hz';cases hz';exact JY I R n e' q1 q2
  cases x with
  |ref a=>
   obtain⟨p,rfl,hp⟩:=qH rx;cases y with
   |ref c=>
    have hc:φ[c]?=some p:=ry;simp only[eqD]at e;split at e
    ·rename_i f1 xs f2 ys e1 e2;split at e
     ·cases e;rfl
     ·obtain⟨p1,z1,q1,s1,r1⟩:=R.lst (i:=a) (xs:=xs) (by unfold qU;rw[e1]);obtain⟨p2,z2,q2,s2,r2⟩:=R.lst (i:=c) (xs:=ys) (by unfold qU;rw[e2]);rw[hp]at q1;cases q1;rw[hc]at q2;cases q2;have:=I.list_inj s1 s2;subst this;split at e
      ·obtain⟨bs,e3,rfl⟩:=Option.map_eq_some_iff.mp e;exact all r1 r2 e3
      ·rename_i hne;exact absurd ((Paired.length r1).trans (Paired.length r2).symm) hne
    ·rename_i xs ys e1 e2;split at e
     ·cases e;rfl
     ·obtain⟨p1,z1,q1,s1,r1⟩:=R.tup (i:=a) (xs:=xs) (by unfold qX;rw[e1]);obtain⟨p2,z2,q2,s2,r2⟩:=R.tup (i:=c) (xs:=ys) (by unfold qX;rw[e2]);rw[hp]at q1;cases q1;rw[hc]at q2;cases q2;have:=I.tuple_inj s1 s2;subst this;split at e
      ·obtain⟨bs,e3,rfl⟩:=Option.map_eq_some_iff.mp e;exact all r1 r2 e3
      ·rename_i hne;exact absurd ((Paired.length r1).trans (Paired.length r2).symm) hne
    ·rename_i f1 xs ys e1 e2;obtain⟨p1,z1,q1,s1,r1⟩:=R.lst (i:=a) (xs:=xs) (by unfold qU;rw[e1]);obtain⟨p2,z2,q2,s2,r2⟩:=R.tup (i:=c) (xs:=ys) (by unfold qX;rw[e2]);rw[hp]at q1;cases q1;rw[hc]at q2;cases q2;obtain⟨i1,_,t1,_⟩:=I.list s1;obtain⟨i2,_,t2,_⟩:=I.tuple s2;exact absurd rfl (ne_of_list_tuple t1.isList t2)
    ·rename_i xs f1 ys e1 e2;obtain⟨p1,z1,q1,s1,r1⟩:=R.tup (i:=a) (xs:=xs) (by unfold qX;rw[e1]);obtain⟨p2,z2,q2,s2,r2⟩:=R.lst (i:=c) (xs:=ys) (by unfold qU;rw[e2]);rw[hp]at q1;cases q1;rw[hc]at q2;cases q2;obtain⟨i1,_,t1,_⟩:=I.tuple s1;obtain⟨i2,_,t2,_⟩:=I.list s2;exact absurd rfl (ne_of_list_tuple t2.isList t1)
    ·cases e
   |_=>exact False.elim ry
  |_=>
   cases y with
   |ref c=>
    obtain⟨p,rfl,hp⟩:=qH ry;exact False.elim rx
   |_=>exact B7 e rx ry
theorem Q6(I:Inv X pins σ H s)(R:Rl X.K G φ h H):∀(n:Nat){A:Around}{x y xc yc:V}{u w:Value}{b:Bool},A.units+n<cLine->eqD h n x y=some b->rv φ x xc->rv φ y yc->RelV xc u->RelV yc w->Eq3 A s u w b
 | 0,A,x,y,xc,yc,u,w,b,hu,e,rx,ry,ru,rw'=>ZN e rx ry ru rw'
 |n+1,A,x,y,xc,yc,u,w,b,hu,e,rx,ry,ru,rw'=>by
  have hu0:A.units<cLine:=by omega
  have hu1:A.in1.units+n<cLine:=by show A.units+1+n<cLine;omega
  have item:∀{xs ys zs ts:List V}{us ws:List Value}{bs:List Bool},rvs φ xs zs->rvs φ ys ts->Vals zs us->Vals ts ws->QS (eqD h n) xs ys=some bs->us.length=bs.length/\ws.length=bs.length/\
    ∀(j:Nat) (h1:j<us.toArray.size) (h2:j<ws.toArray.size),EqAt A.in1 s us.toArray[j] ws.toArray[j] (bs.getD j true):=λ{xs ys zs ts us ws bs} r1 r2 v1 v2 e=>by
   obtain⟨l1,l2,k⟩:=QN e;have n1:=Paired.length r1;have n2:=Paired.length r2;have n3:=v1.length;have n4:=v2.length;refine⟨by omega,by omega,λj h1 h2=>?_⟩;have g1:j<us.length:=by simpa using h1
   have g2:j<ws.length:=by simpa using h2
   have hx:j<xs.length:=by omega
   have hy:j<ys.length:=by omega
   obtain⟨b',hb',e'⟩:=k j _ _ (wA hx) (wA hy);obtain⟨z,hz,q1⟩:=qO r1 (wA hx);obtain⟨t,ht,q2⟩:=qO r2 (wA hy);obtain⟨u',hu',q3⟩:=v1.get hz;obtain⟨w',hw',q4⟩:=v2.get ht;rw[wA g1]at hu';rw[wA g2]at hw';cases hu';cases hw';rw[wH,hb'];have:=(Q6 I R n (A:=A.in1) hu1 e' q1 q2 q3 q4).eq;simpa using this
  have refs:∀{a:Nat}{p:Addr}{v:V}{b:Bool},φ[a]?=some p->(if (items h a).isSome&&flat v then some false else none)=some b->b=false/\∃its,s.heap.IsList p its\/s.heap.IsTuple p its:=λ{a p v b} hp e=>by
   cases ea:h[a]? with
   |none=>rw[show items h a=none from(by unfold items;rw[ea])]at e;cases e
   |some o=>
    have hb:b=false:=by
     split at e
     ·cases e;rfl
     ·cases e
    refine⟨hb,?_⟩;cases o with
    |lst f xs=>
     obtain⟨p1,z1,q1,s1,r1⟩:=R.lst (i:=a) (xs:=xs) (by unfold qU;rw[ea]);rw[hp]at q1;cases q1;obtain⟨i1,_,t1,_⟩:=I.list s1;exact⟨_,.inl t1.isList⟩
    |tup xs=>
     obtain⟨p1,z1,q1,s1,r1⟩:=R.tup (i:=a) (xs:=xs) (by unfold qX;rw[ea]);rw[hp]at q1;cases q1;obtain⟨i1,_,t1,_⟩:=I.tuple s1;exact⟨_,.inr t1⟩
    |ob ks=>rw[show items h a=none from(by unfold items;rw[ea])]at e;cases e
  cases x with
  |ref a=>
   obtain⟨p,rfl,hp⟩:=qH rx;cases ru;cases y with
   |ref c=>
    obtain⟨q,rfl,hq⟩:=qH ry;cases rw';have same:p=q->b=true:=λz=>by
     subst z;exact JY I R (n+1) e rx (show rv φ (.ref c) (.ref p) from hq)
    simp only[eqD]at e;split at e
    ·rename_i f1 xs f2 ys e1 e2;obtain⟨p1,z1,q1,s1,r1⟩:=R.lst (i:=a) (xs:=xs) (by unfold qU;rw[e1]);obtain⟨p2,z2,q2,s2,r2⟩:=R.lst (i:=c) (xs:=ys) (by unfold qU;rw[e2]);rw[hp]at q1;cases q1;rw[hq]at q2;cases q2;obtain⟨i1,v1,t1,_⟩:=I.list s1;obtain⟨i2,v2,t2,_⟩:=I.list s2;split at e
     ·rename_i hac;subst hac;rw[hp]at hq;cases hq;cases e;have rc:=RcAt.lists (A:=A) (e:=λ_=>true) t1.isList t1.isList rfl hu0 λj _ _=>EqAt.same _;have ne:=RcNeAt.lists (A:=A) (e:=λ_=>true) t1.isList t1.isList rfl hu0 λj _ _=>EqAt.same _;have al:∀l:List Nat,(l.all λ_=>true)=true:=λl=>by simp
      rw[al]at rc ne;exact⟨.same _,rc,ne⟩
     ·split at e
      ·obtain⟨bs,e3,rfl⟩:=Option.map_eq_some_iff.mp e;obtain⟨m1,m2,he⟩:=item r1 r2 v1 v2 e3;have hsz:i1.toArray.size=i2.toArray.size:=by simp;omega
       have rc:=RcAt.lists (A:=A) (e:=λj=>bs.getD j true) t1.isList t2.isList hsz hu0 he;have ne:=RcNeAt.lists (A:=A) (e:=λj=>bs.getD j true) t1.isList t2.isList hsz hu0 he;have sz:i1.toArray.size=bs.length:=by simpa using m1
       rw[sz,ZR]at rc ne;refine⟨?_,rc,ne⟩;by_cases hpq:p=q
       ·rw[same hpq];subst hpq;exact .same _
       ·exact .of_refs hpq rc
      ·rename_i hl;cases e;have n1:=Paired.length r1;have n2:=Paired.length r2;have n3:=v1.length;have n4:=v2.length;have hsz:(i1.toArray.size != i2.toArray.size)=true:=by simp;omega
       have rc:=RcAt.lists_lengths (A:=A) t1.isList t2.isList hsz hu0;have ne:=RcNeAt.lists_lengths (A:=A) t1.isList t2.isList hsz hu0;refine⟨?_,rc,ne⟩;by_cases hpq:p=q
       ·exact absurd (same hpq) (by decide)
       ·exact .of_refs hpq rc
    ·rename_i xs ys e1 e2;obtain⟨p1,z1,q1,s1,r1⟩:=R.tup (i:=a) (xs:=xs) (by unfold qX;rw[e1]);obtain⟨p2,z2,q2,s2,r2⟩:=R.tup (i:=c) (xs:=ys) (by unfold qX;rw[e2]);rw[hp]at q1;cases q1;rw[hq]at q2;cases q2;obtain⟨i1,v1,t1,_⟩:=I.tuple s1;obtain⟨i2,v2,t2,_⟩:=I.tuple s2;have t1':s.heap.IsTuple p i1.toArray:=t1;have t2':s.heap.IsTuple q i2.toArray:=t2;split at e
     ·rename_i hac;subst hac;rw[hp]at hq;cases hq;cases e;have rc:=RcAt.tuples (A:=A) (e:=λ_=>true) t1' t1' hu0 λj _ _=>EqAt.same _;have ne:=RcNeAt.tuples (A:=A) (e:=λ_=>true) t1' t1' hu0 λj _ _=>EqAt.same _;have al:∀l:List Nat,(l.all λ_=>true)=true:=λl=>by simp
      rw[al]at rc ne;simp only[vD,Bool.and_self]at rc ne;exact⟨.same _,rc,ne⟩
     ·split at e
      ·obtain⟨bs,e3,rfl⟩:=Option.map_eq_some_iff.mp e;obtain⟨m1,m2,he⟩:=item r1 r2 v1 v2 e3;have hsz:i1.toArray.size=i2.toArray.size:=by simp;omega
       have rc:=RcAt.tuples (A:=A) (e:=λj=>bs.getD j true) t1' t2' hu0 he;have ne:=RcNeAt.tuples (A:=A) (e:=λj=>bs.getD j true) t1' t2' hu0 he;have sz:i1.toArray.size=bs.length:=by simpa using m1
       have sz2:i2.toArray.size=bs.length:=by simpa using m2
       rw[sz,sz2,Nat.min_self,ZR,vD,Bool.and_true]at rc ne;refine⟨?_,rc,ne⟩;by_cases hpq:p=q
       ·rw[same hpq];subst hpq;exact .same _
       ·exact .of_refs hpq rc
      ·rename_i hl;have n1:=Paired.length r1;have n2:=Paired.length r2;have n3:=v1.length;have n4:=v2.length;obtain⟨bs,e3,hb⟩:=Option.map_eq_some_iff.mp e;subst hb;have hsz:(i1.toArray.size==i2.toArray.size)=false:=by simp;omega
       obtain⟨m1,m2,he⟩:=item (qt ys.length r1) (qt xs.length r2) (v1.take ys.length) (v2.take xs.length) e3;have he':∀(j:Nat) (h1:j<i1.toArray.size) (h2:j<i2.toArray.size),EqAt A.in1 s i1.toArray[j] i2.toArray[j] (bs.getD j true):=λj h1 h2=>by
        have g1:j<i1.length:=by simpa using h1
        have g2:j<i2.length:=by simpa using h2
        have:=he j (by simp;omega) (by simp;omega);simpa using this
       have rc:=RcAt.tuples (A:=A) (e:=λj=>bs.getD j true) t1' t2' hu0 he';have ne:=RcNeAt.tuples (A:=A) (e:=λj=>bs.getD j true) t1' t2' hu0 he';rw[hsz,Bool.and_false]at rc ne;refine⟨?_,rc,ne⟩;by_cases hpq:p=q
       ·exact absurd (same hpq) (by decide)
       ·exact .of_refs hpq rc
    ·rename_i f1 xs ys e1 e2;cases e;obtain⟨p1,z1,q1,s1,r1⟩:=R.lst (i:=a) (xs:=xs) (by unfold qU;rw[e1]);obtain⟨p2,z2,q2,s2,r2⟩:=R.tup (i:=c) (xs:=ys) (by unfold qX;rw[e2]);rw[hp]at q1;cases q1;rw[hq]at q2;cases q2;obtain⟨i1,_,t1,_⟩:=I.list s1;obtain⟨i2,_,t2,_⟩:=I.tuple s2;exact⟨.list_tuple t1.isList t2 hu0,.list_tuple t1.isList t2 hu0,.list_tuple t1.isList t2 hu0⟩
    ·rename_i xs f1 ys e1 e2;cases e;obtain⟨p1,z1,q1,s1,r1⟩:=R.tup (i:=a) (xs:=xs) (by unfold qX;rw[e1]);obtain⟨p2,z2,q2,s2,r2⟩:=R.lst (i:=c) (xs:=ys) (by unfold qU;rw[e2]);rw[hp]at q1;cases q1;rw[hq]at q2;cases q2;obtain⟨i1,_,t1,_⟩:=I.tuple s1;obtain⟨i2,_,t2,_⟩:=I.list s2;exact⟨.tuple_list t1 t2.isList hu0,.tuple_list t1 t2.isList hu0,.tuple_list t1 t2.isList hu0⟩
    ·cases e
   |non=>
    cases qx ry;cases rw';rcases refs hp (show (if (items h a).isSome&&flat V.non then some false else none)=some b from e) with⟨rfl,its,t|t⟩
    ·exact⟨.list_none t hu0,.list_none t hu0,.list_none t hu0⟩
    ·exact⟨.tuple_none t hu0,.tuple_none t hu0,.tuple_none t hu0⟩
   |bl j=>
    cases zA ry;cases rw';rcases refs hp (show (if (items h a).isSome&&flat (V.bl j) then some false else none)=some b from e) with⟨rfl,its,t|t⟩
    ·exact⟨.list_bool _ t hu0,.list_bool _ t hu0,.list_bool _ t hu0⟩
    ·exact⟨.tuple_bool _ t hu0,.tuple_bool _ t hu0,.tuple_bool _ t hu0⟩
   |int j=>
    cases qA ry;obtain⟨t',rfl⟩:=rw';rcases refs hp (show (if (items h a).isSome&&flat (V.int j) then some false else none)=some b from e) with⟨rfl,its,t|t⟩
    ·exact⟨.list_int _ _ t hu0,.list_int _ _ t hu0,.list_int _ _ t hu0⟩
    ·exact⟨.tuple_int _ _ t hu0,.tuple_int _ _ t hu0,.tuple_int _ _ t hu0⟩
   |str j=>
    cases zJ ry;obtain⟨t',rfl⟩:=rw';rcases refs hp (show (if (items h a).isSome&&flat (V.str j) then some false else none)=some b from e) with⟨rfl,its,t|t⟩
    ·exact⟨.list_str _ _ t hu0,.list_str _ _ t hu0,.list_str _ _ t hu0⟩
    ·exact⟨.tuple_str _ _ t hu0,.tuple_str _ _ t hu0,.tuple_str _ _ t hu0⟩
   |_=>exact False.elim ry
  |non=>
   cases y with
   |ref c=>
    obtain⟨p,rfl,hp⟩:=qH ry;cases rw';cases qx rx;cases ru;rcases refs hp (show (if (items h c).isSome&&flat V.non then some false else none)=some b from(Bool.and_comm _ _) ▸ e) with⟨rfl,its,t|t⟩
    ·exact⟨.none_list t hu0,.none_list t hu0,.none_list t hu0⟩
    ·exact⟨.none_tuple t hu0,.none_tuple t hu0,.none_tuple t hu0⟩
   |_=>exact ZN e rx ry ru rw'
  |bl i=>
   cases y with
   |ref c=>
    obtain⟨p,rfl,hp⟩:=qH ry;cases rw';cases zA rx;cases ru;rcases refs hp (show (if (items h c).isSome&&flat (V.bl i) then some false else none)=some b from(Bool.and_comm _ _) ▸ e) with⟨rfl,its,t|t⟩
    ·exact⟨.bool_list _ t hu0,.bool_list _ t hu0,.bool_list _ t hu0⟩
    ·exact⟨.bool_tuple _ t hu0,.bool_tuple _ t hu0,.bool_tuple _ t hu0⟩
   |_=>exact ZN e rx ry ru rw'
  |int i=>
   cases y with
   |ref c=>
    obtain⟨p,rfl,hp⟩:=qH ry;cases rw';cases qA rx;obtain⟨t',rfl⟩:=ru;rcases refs hp (show (if (items h c).isSome&&flat (V.int i) then some false else none)=some b from(Bool.and_comm _ _) ▸ e) with⟨rfl,its,t|t⟩
    ·exact⟨.int_list _ _ t hu0,.int_list _ _ t hu0,.int_list _ _ t hu0⟩
    ·exact⟨.int_tuple _ _ t hu0,.int_tuple _ _ t hu0,.int_tuple _ _ t hu0⟩
   |_=>exact ZN e rx ry ru rw'
  |str i=>
   cases y with
   |ref c=>
    obtain⟨p,rfl,hp⟩:=qH ry;cases rw';cases zJ rx;obtain⟨t',rfl⟩:=ru;rcases refs hp (show (if (items h c).isSome&&flat (V.str i) then some false else none)=some b from(Bool.and_comm _ _) ▸ e) with⟨rfl,its,t|t⟩
    ·exact⟨.str_list _ _ t hu0,.str_list _ _ t hu0,.str_list _ _ t hu0⟩
    ·exact⟨.str_tuple _ _ t hu0,.str_tuple _ _ t hu0,.str_tuple _ _ t hu0⟩
   |_=>exact ZN e rx ry ru rw'
  |_=>cases xc<;>exact False.elim rx
end
theorem Zy{φ:List Addr}:∀{x w:V},flat x=true->rv φ x w->w=x
 | .non,_,_,h=>qx h
 | .bl _,_,_,h=>zA h
 | .int _,_,_,h=>qA h
 | .str _,_,_,h=>zJ h
 | .ref _,_,f,_=>by cases f
 | .byt _,_,f,_=>by cases f
 | .flt _,_,f,_=>by cases f
 | .ty _,_,f,_=>by cases f
theorem zn{φ:List Addr}:∀{xs ws:List V},xs.all flat=true->rvs φ xs ws->ws=xs
 |_,_,_,.nil=>rfl
 |x::xs,w::ws,f,.cons r t=>by
  simp only[List.all_cons,Bool.and_eq_true]at f;rw[Zy f.1 r,zn f.2 t]
theorem Ju:∀x:V,L2.flatV x=flat x:=by intro x;cases x<;>rfl
theorem G7(xs:List V):xs.all L2.flatV=xs.all flat:=by
 induction xs with
 |nil=>rfl
 |cons x xs ih=>rw[List.all_cons,List.all_cons,ih,Ju]
section
variable{X:Cx}{G:List Addr}{F:Nat->List V->AH->RV}
noncomputable def opC:COp->CmpOp
 | .lt=>.Lt | .le=>.LtE | .gt=>.Gt | .ge=>.GtE | .eq=>.Eq | .ne=>.NotEq | .inn=>.In | .notin=>.NotIn | .is=>.Is | .isnot=>.IsNot
variable (X G) in
noncomputable def qBs(op:COp):R2:=λx y H Q=>∃φ h xa ya b,Rl X.K G φ h H/\rv φ xa x/\rv φ ya y/\S0 op xa ya h=some b/\Q (.bl b) H
theorem B3{φ:List Addr}{x y:V}(r:rv φ x y):decide (x=V.non)=decide (y=V.non):=by
 by_cases hx:x=V.non
 ·subst hx;cases qx r;rfl
 ·have hy:y≠V.non:=λhy=>by subst hy;cases x<;>first|exact hx rfl|exact False.elim r
  rw[wy hx,wy hy]
theorem JU(kvs:List (Int×V))(i:Int):((kvs.map kk).any λkv=>decide (kv.1=Sum.inl i))=qAB kvs i:=by
 unfold qAB;rw[List.any_map];congr 1
 funext p
 show decide ((Sum.inl p.1:L2.Key)=Sum.inl i)=_;rw[wa];simp
theorem w6(kvs:List (Int×V))(i:Int)(v:V):L2.putK (kvs.map kk) (Sum.inl i:L2.Key) v=(qCX kvs i v).map kk:=by
 unfold L2.putK qCX;rw[JU];split
 ·rw[wc,wc];congr 1
  funext p
  show (if (Sum.inl p.1:L2.Key)=Sum.inl i then ((Sum.inl p.1:L2.Key),v) else kk p)=kk (if p.1=i then (p.1,v) else p);by_cases h:p.1=i
  ·rw[if_pos (by rw[h]),if_pos h];rfl
  ·rw[if_neg (λz=>h (Sum.inl.inj z)),if_neg h]
 ·rw[wg];rfl
theorem jY(hu:X.A.units+8<cLine):∀op,OpR X (compareOp (opC op)) (qBs X G op):=by
 intro op pins s σ H x y v u Q I rx ry ⟨φ,h,xa,ya,b,R,r1,r2,e,q⟩;have hin:∀(neg:Bool){p:Nat}{ya':V}(e:(match items h p with|some xs=>if flat xa&&xs.all flat then some (if neg then !(xs.any λy=>L2.eqV y xa) else xs.any λy=>L2.eqV y xa) else none|none=>none)=some b),rv φ (.ref p) y->L2.rIn X.K neg x y H Q:=by
  intro neg p ya' e r2;split at e
  ·rename_i xs ex;split at e
   ·rename_i hf;simp only[Bool.and_eq_true]at hf;obtain⟨a,ys,ha,hs,rs⟩:=R.its ex;obtain⟨a',rfl,ha'⟩:=qH r2;rw[ha]at ha';cases ha';have e1:=Zy hf.1 r1;have e2:=zn hf.2 rs;subst e1 e2;refine⟨a,ys,rfl,hs,by rw[Ju];exact hf.1,by rw[G7];exact hf.2,?_⟩;cases e;exact q
   ·cases e
  ·cases e
 cases op with
 |lt=>
  replace e:=jm e;obtain⟨i,j,rfl,rfl,rfl⟩:=e;cases qA r1;cases qA r2;exact L2.op_lt pins s σ H _ _ v u Q I rx ry ⟨_,_,rfl,rfl,q⟩
 |le=>
  replace e:=jm e;obtain⟨i,j,rfl,rfl,rfl⟩:=e;cases qA r1;cases qA r2;exact L2.op_le pins s σ H _ _ v u Q I rx ry ⟨_,_,rfl,rfl,q⟩
 |gt=>
  replace e:=jm e;obtain⟨i,j,rfl,rfl,rfl⟩:=e;cases qA r1;cases qA r2;exact L2.op_gt pins s σ H _ _ v u Q I rx ry ⟨_,_,rfl,rfl,q⟩
 |ge=>
  replace e:=jm e;obtain⟨i,j,rfl,rfl,rfl⟩:=e;cases qA r1;cases qA r2;exact L2.op_ge pins s σ H _ _ v u Q I rx ry ⟨_,_,rfl,rfl,q⟩
 |eq=>exact(Q6 I R 4 (by omega) (show eqD h 4 xa ya=some b from e) r1 r2 rx ry).rc _ _ _ _ ⟨.bl b,H,I,rfl,q⟩
 |ne=>
  have e':(eqD h 4 xa ya).map (!·)=some b:=e;obtain⟨c,e1,rfl⟩:=Option.map_eq_some_iff.mp e';exact(Q6 I R 4 (by omega) e1 r1 r2 rx ry).ne _ _ _ _ ⟨.bl (!c),H,I,rfl,q⟩
 |inn=>
  replace e:=B0 e;obtain⟨p,rfl,e⟩:=e;cases ei:items h p with
  |some xs=>exact L2.op_in_seq pins s σ H x y v u Q I rx ry (hin false (ya':=.non) (by rw[ei]at e ⊢;exact e) r2)
  |none=>
   rw[ei]at e;dsimp only at e;split at e
   ·rename_i kvs ed;split at e
    ·rename_i i;cases e;obtain⟨a,ea,_,hH⟩:=R.dct ed;obtain⟨a',rfl,ha'⟩:=qH r2;rw[ea]at ha';cases ha';cases qA r1;cases ry;refine L2.d_in (by omega) I (L2.DGet.k (k:=.inl i) hH) rx λs' I'=>⟨.bl (L2.valV (kvs.map kk) (Sum.inl i)).isSome,H,I',rfl,?_⟩
     rw[<-L2.valV_any,JU];exact q
    ·cases e
   ·cases e
 |notin=>
  replace e:=B0 e;obtain⟨p,rfl,e⟩:=e;cases ei:items h p with
  |some xs=>exact L2.op_notIn_seq pins s σ H x y v u Q I rx ry (hin true (ya':=.non) (by rw[ei]at e ⊢;exact e) r2)
  |none=>
   rw[ei]at e;dsimp only at e;split at e
   ·rename_i kvs ed;split at e
    ·rename_i i;cases e;obtain⟨a,ea,_,hH⟩:=R.dct ed;obtain⟨a',rfl,ha'⟩:=qH r2;rw[ea]at ha';cases ha';cases qA r1;cases ry;refine L2.d_notIn (by omega) I (L2.DGet.k (k:=.inl i) hH) rx λs' I'=>⟨.bl (!(L2.valV (kvs.map kk) (Sum.inl i)).isSome),H,I',rfl,?_⟩
     rw[<-L2.valV_any,JU];exact q
    ·cases e
   ·cases e
 |is=>
  rcases L4 (show isC xa ya id=some b from e) with⟨rfl,rfl⟩|⟨c,d,rfl,rfl,rfl⟩
  ·cases qx r2;rw[B3 r1]at q;exact L2.op_isN pins s σ H x _ v u Q I rx ry ⟨rfl,q⟩
  ·cases zA r1;cases zA r2;cases (show v=Value.bool c from rx);cases (show u=Value.bool d from ry);exact PySem.wpAny_is_plain rfl ⟨.bl (c==d),H,I,(by cases c<;>cases d<;>rfl),q⟩
 |isnot=>
  rcases L4 (show isC xa ya (!·)=some b from e) with⟨rfl,rfl⟩|⟨c,d,rfl,rfl,rfl⟩
  ·cases qx r2;rw[B3 r1]at q;exact L2.op_notN pins s σ H x _ v u Q I rx ry ⟨rfl,q⟩
  ·cases zA r1;cases zA r2;cases (show v=Value.bool c from rx);cases (show u=Value.bool d from ry);exact PySem.wpAny_isNot_plain rfl ⟨.bl (!(c==d)),H,I,(by cases c<;>cases d<;>rfl),q⟩
theorem Jm:∀{bs:List Bool}{us:List Value},Vals (bs.map V.bl) us->LSm.BoolsAre us bs
 | [],_,.nil=>.nil
 |b::bs,u::us,.cons r t=>by
  cases (show u=Value.bool b from r);exact .cons b (Jm t)
theorem D4{A:Around}{E:Value->Shared->Prop}{prog:Program}{w:World}{s:Shared}{l:Addr}{vs:List Value}{bs:List Bool}{Q:Value->Shared->Prop}(hh:A.handled=none)(hl:s.heap.IsList l vs.toArray)(hb:LSm.BoolsAre vs bs)
  (h:∀h' tk,(∀b x,s.heap.get? b=some x->h'.get? b=some x)->Q (.bool (bs.all id)) { s with heap:=h',toks:=tk }):wpAny (model prog w) A (call (.builtin "all") [.ref l]) Q E s:=by
 have hlt:l<s.heap.objs.size:=by obtain⟨_,e,_⟩:=hl;exact Heap.lt_size e
 refine call_all_walk (wpAny_pyIter_list hl ?_);refine⟨s.heap.objs.size,[s.heap.objs.size,l],[s.heap.objs.size],vs.toArray.size,_,_,λi=>(bs[i]?).getD true,rfl,Walks.list (A:=A.in1) hh _ l (wK hlt) vs.toArray,
  ⟨⟨_,Heap.get?_push_size _ rfl,rfl,rfl⟩,hl.push _⟩,λi v s' Q' E' hP hQ=>?_,λh' tk hk=>?_⟩
 ·obtain⟨b,e,rfl⟩:=hb.get i v (by simpa using hP);simp only[e,Option.getD_some]at hQ;exact vC hQ
 ·have e:((List.range vs.toArray.size).all λi=>(bs[i]?).getD true)=bs.all id:=by
   rw[wB,hb.length];exact LSm.range_all bs
  rw[e];exact h h' tk (LSm.kept_iter hk)
theorem JB:∀{xs:List V}{is:List Int}{us:List Value},za xs=some is->Vals xs us->us.length=is.length/\∀i v,us[i]?=some v->NumOf (is.getD i 0) v
 | [],is,_,e,.nil=>by cases e;exact⟨rfl,λi v e=>by simp at e⟩
 |x::r,is,u::us,e,.cons a t=>by
  unfold za at e;split at e
  ·rename_i e';cases e'
  ·rename_i e';cases e';obtain⟨js,e1,rfl⟩:=Option.map_eq_some_iff.mp e;obtain⟨l,g⟩:=JB e1 t;refine⟨by simp[l],λi v q=>?_⟩;cases i with
   |zero=>
    cases q;obtain⟨w,rfl⟩:=a;exact .inl ⟨w,rfl⟩
   |succ i=>exact g i v q
  ·rename_i e';cases e';obtain⟨js,e1,rfl⟩:=Option.map_eq_some_iff.mp e;obtain⟨l,g⟩:=JB e1 t;refine⟨by simp[l],λi v q=>?_⟩;cases i with
   |zero=>
    cases q;exact .inr ⟨_,a,rfl⟩
   |succ i=>exact g i v q
  ·cases e
theorem jw:∀{xs:List V}{is:List Int},za xs=some is->xs.all flat=true
 | [],_,_=>rfl
 |x::r,is,e=>by
  unfold za at e;split at e
  ·rename_i e';cases e'
  ·rename_i e';cases e';obtain⟨js,e1,rfl⟩:=Option.map_eq_some_iff.mp e;rw[List.all_cons,jw e1];rfl
  ·rename_i e';cases e';obtain⟨js,e1,rfl⟩:=Option.map_eq_some_iff.mp e;rw[List.all_cons,jw e1];rfl
  ·cases e
theorem D0{A:Around}{E:Value->Shared->Prop}{prog:Program}{w:World}{s:Shared}{l:Addr}{vs:List Value}{xs:List V}{is:List Int}{Q:Value->Shared->Prop}(hh:A.handled=none)(hl:s.heap.IsList l vs.toArray)(ei:za xs=some is)(hb:Vals xs vs)
  (h:∀h' tk t',(∀b x,s.heap.get? b=some x->h'.get? b=some x)->Q (.int is.sum t') { s with heap:=h',toks:=tk }):wpAny (model prog w) A (call (.builtin "sum") [.ref l]) Q E s:=by
 have hlt:l<s.heap.objs.size:=by obtain⟨_,e,_⟩:=hl;exact Heap.lt_size e
 obtain⟨hlen,hn⟩:=JB ei hb;refine call_sum_walkAnyB (wpAny_pyIter_list hl ?_);refine⟨s.heap.objs.size,_,_,_,_,_,_,λi=>is.getD i 0,rfl,(Walks.list (prog:=prog) (w:=w) (A:=A.in1) hh s.heap.objs.size l (wK hlt) vs.toArray).toS,
  ⟨⟨_,Heap.get?_push_size _ rfl,rfl,rfl⟩,hl.push _⟩,λb hb=>?_,λi v hP=>hn i v (by simpa using hP),λs' t' hm=>?_⟩
 ·rcases List.mem_cons.mp hb with rfl|hb
  ·exact Heap.lt_size (Heap.get?_push_size _ rfl)
  ·obtain rfl:=wJ.mp hb;obtain⟨_,e,_⟩:=hl;exact Heap.lt_size (Heap.get?_push_of_some _ e)
 ·obtain⟨h',g',d',tk',os'⟩:=s';have e1:g'=s.gens:=hm.gens;have e2:d'=s.drawn:=hm.drawn;have e3:os'=s.os:=hm.os;subst e1 e2 e3;have e:=preSum_getD is vs.toArray.size;rw[wB,hlen,List.take_of_length_le (Nat.le_refl _),<-hlen,<-wB]at e;rw[e];exact h h' tk' t' λb o e=>hm.heap b o (λhb=>absurd (Heap.lt_size e) ((wJ.mp hb) ▸ Nat.lt_irrefl _)) (Heap.get?_push_of_some _ e)
theorem zR:∀{xs:List V}{is:List Int},zK xs=some is->xs=is.map V.int
 | [],is,e=>by cases e;rfl
 | .int i::r,is,e=>by
  simp only[zK]at e;obtain⟨js,e1,rfl⟩:=Option.map_eq_some_iff.mp e;rw[zR e1];rfl
 | .non::_,_,e=>by cases e
 | .bl _::_,_,e=>by cases e
 | .str _::_,_,e=>by cases e
 | .ref _::_,_,e=>by cases e
 | .byt _::_,_,e=>by cases e
 | .flt _::_,_,e=>by cases e
 | .ty _::_,_,e=>by cases e
theorem jt:∀{xs:List V}{is:List Bool},jU xs=some is->xs=is.map V.bl
 | [],is,e=>by cases e;rfl
 | .bl i::r,is,e=>by
  simp only[jU]at e;obtain⟨js,e1,rfl⟩:=Option.map_eq_some_iff.mp e;rw[jt e1];rfl
 | .non::_,_,e=>by cases e
 | .int _::_,_,e=>by cases e
 | .str _::_,_,e=>by cases e
 | .ref _::_,_,e=>by cases e
 | .byt _::_,_,e=>by cases e
 | .flt _::_,_,e=>by cases e
 | .ty _::_,_,e=>by cases e
theorem jM:∀{us:List Value}{ns:List Int},IntsAre us ns->Vals (ns.map V.int) us
 |_,_,.nil=>.nil
 |_,_,.cons n t r=>.cons ⟨_,rfl⟩ (jM r)
theorem QL(is:List Int):(is.map V.int).all flat=true:=by simp[flat]
theorem D9(is:List Bool):(is.map V.bl).all flat=true:=by simp[flat]
noncomputable def fnB:BF->Value
 | .len=>.builtin "len" | .sum=>.builtin "sum" | .all=>.builtin "all" | .max=>.builtin "max" | .min=>.builtin "min"
 | .list=>.type "list" | .int=>.type "int" | .bits=>.builtin "int.bit_length"
variable (X G) in
def qCo(f:BF):List V->Hp->VK->Prop:=λxs H Q=>∃φ h ws v h',Rl X.K G φ h H/\rvs φ ws xs/\qBm f ws h=.ok (v,h')/\∀φ' H' w,Ext φ φ'->Rl X.K G φ' h' H'->rv φ' v w->Q w H'
def DR(P:Program)(W:World)(h:Heap)(n:Nat)(u:Value)(d:PyData):Prop:=(∃as,Reads h u d as)/\d.depth<=n/\(d.showable=true->d.shown.length<=sizeLine->∃bs,ReadAtMost h d.depth bs/\ReprK P W bs h d.depth u d.shown)
def DRs(P:Program)(W:World)(h:Heap)(n:Nat)(us:List Value)(ds:List PyData):Prop:=(∃as,ReadsAll h us ds as)/\PyData.depthAll ds<=n/\(PyData.showableAll ds=true->(∀t∈PyData.shownAll ds,t.length<=sizeLine)->∃bs,ReadAtMost h (PyData.depthAll ds) bs/\ReprAllK P W bs h (PyData.depthAll ds) us (PyData.shownAll ds))
theorem DR.flat{P:Program}{W:World}{hp:Heap}{n:Nat}{u:Value}{d:PyData}(q:(∃as,Reads hp u d as)/\d.hasDict=false/\d.depth<=0):DR P W hp n u d:=by
 obtain⟨⟨as,q1⟩,q2,q3⟩:=q;exact⟨⟨as,q1⟩,by omega,λhs hz=>ReprK.of_reads q1 hs (λz=>by rw[q2]at z;cases z) hz⟩
theorem DRs.list{P:Program}{W:World}{hp:Heap}{n m:Nat}{p:Addr}{o:Obj}{its:List Value}{ds:List PyData}(q:DRs P W hp n its ds)(ho:hp.get? p=some o)(hc:o.cls=.type "list")(hd:o.data=.seq its.toArray m)(hs:PyData.showableAll ds=true)(hz:(listText (PyData.shownAll ds)).length<=sizeLine):
  ∃bs,ReadAtMost hp (PyData.depthAll ds) bs/\ReprAllK P W bs hp (PyData.depthAll ds) its (PyData.shownAll ds)/\p∉bs:=by
 obtain⟨⟨as,q1⟩,q2,q3⟩:=q;obtain⟨bs,hb,hk⟩:=q3 hs (λt ht=>Nat.le_trans (listText_mem_le ht) hz);exact⟨bs,hb,hk,not_mem_of_deeper (Reads.list ho hc hd (by simpa using q1)) (by simp only[PyData.depth];omega) hb⟩
theorem DRs.tuple{P:Program}{W:World}{hp:Heap}{n m:Nat}{p:Addr}{o:Obj}{its:List Value}{ds:List PyData}(q:DRs P W hp n its ds)(ho:hp.get? p=some o)(hc:o.cls=.type "tuple")(hd:o.data=.seq its.toArray m)(hs:PyData.showableAll ds=true)(hz:(tupleText (PyData.shownAll ds)).length<=sizeLine):
  ∃bs,ReadAtMost hp (PyData.depthAll ds) bs/\ReprAllK P W bs hp (PyData.depthAll ds) its (PyData.shownAll ds)/\p∉bs:=by
 obtain⟨⟨as,q1⟩,q2,q3⟩:=q;obtain⟨bs,hb,hk⟩:=q3 hs (λt ht=>Nat.le_trans (tupleText_mem_le ht) hz);exact⟨bs,hb,hk,not_mem_of_deeper (Reads.tuple ho hc hd (by simpa using q1)) (by simp only[PyData.depth];omega) hb⟩
theorem ZQ(hc:X.calm=true)(hu:X.A.units+8<cLine)(hgd:X.A.guards=some []):∀f,qo X (fnB f) (qCo X G f):=by
 intro f pins s σ H xs us Q I r ⟨φ,h,ws,v,h',R,rw',e,k⟩;cases f with
 |len=>
  replace e:=jQ e;obtain⟨x0,rfl,e⟩:=e;replace e:=zS e;obtain⟨a,rfl,e⟩:=e;split at e
  ·rename_i ys ey;cases e;cases rw' with
   |cons r1 t=>
    cases t;obtain⟨p,rfl,hp⟩:=qH r1;obtain⟨p',zs,hp',hs,rs⟩:=R.its ey;rw[hp]at hp';cases hp';refine L2.call_len_seq pins s σ H _ us Q I r ⟨p,zs,rfl,hs,?_⟩;rw[<-Paired.length rs];exact k φ H _ (.refl _) R rfl
  ·cases e
 |sum=>
  replace e:=jQ e;obtain⟨x0,rfl,e⟩:=e;replace e:=zS e;obtain⟨a,rfl,e⟩:=e;split at e
  ·rename_i ys ey;split at e
   ·rename_i is ei;cases e;cases rw' with
    |cons r1 t=>
     cases t;obtain⟨p,rfl,hp⟩:=qH r1;obtain⟨p',zs,hp',hs,rs⟩:=R.lst ey;rw[hp]at hp';cases hp';have hz:=zn (jw ei) rs;subst hz;obtain⟨its,rv',pl,_⟩:=I.list hs;obtain⟨u,rfl,ru⟩:=L2.vals1 r;cases ru;exact D0 (I.ok.hd hc) pl.isList ei rv' λh1 tk t' hk=>⟨.int is.sum,H,I.kept hk,⟨_,rfl⟩,k φ H _ (.refl _) R rfl⟩
   ·cases e
  ·cases e
 |all=>
  replace e:=jQ e;obtain⟨x0,rfl,e⟩:=e;replace e:=zS e;obtain⟨a,rfl,e⟩:=e;split at e
  ·rename_i ys ey;split at e
   ·rename_i is ei;cases e;cases rw' with
    |cons r1 t=>
     cases t;obtain⟨p,rfl,hp⟩:=qH r1;obtain⟨p',zs,hp',hs,rs⟩:=R.lst ey;rw[hp]at hp';cases hp';have hm:=jt ei;subst hm;have hz:=zn (D9 is) rs;subst hz;obtain⟨its,rv',pl,_⟩:=I.list hs;obtain⟨u,rfl,ru⟩:=L2.vals1 r;cases ru;exact D4 (I.ok.hd hc) pl.isList (Jm rv') λh1 tk hk=>⟨.bl (is.all id),H,I.kept hk,rfl,k φ H _ (.refl _) R rfl⟩
   ·cases e
  ·cases e
 |max=>
  replace e:=two_inv e;obtain⟨x0,y0,rfl,e⟩:=e;replace e:=zB e;obtain⟨i,j,rfl,rfl,e⟩:=e;cases e;cases rw' with
  |cons r1 t=>
   cases t with
   |cons r2 t=>
    cases t;cases qA r1;cases qA r2;exact L2.call_max2 hc pins s σ H _ us Q I r ⟨_,_,rfl,k φ H _ (.refl _) R rfl⟩
 |min=>
  replace e:=two_inv e;obtain⟨x0,y0,rfl,e⟩:=e;replace e:=zB e;obtain⟨i,j,rfl,rfl,e⟩:=e;cases e;cases rw' with
  |cons r1 t=>
   cases t with
   |cons r2 t=>
    cases t;cases qA r1;cases qA r2;exact L2.call_min2 hc pins s σ H _ us Q I r ⟨_,_,rfl,k φ H _ (.refl _) R rfl⟩
 |bits=>
  replace e:=jQ e;obtain⟨x0,rfl,e⟩:=e;split at e
  ·cases e;cases rw' with
   |cons r1 t=>
    cases t;cases qA r1;obtain⟨u,rfl,ru⟩:=L2.vals1 r;obtain⟨t,rfl⟩:=ru;rename_i j;exact call_int_bit_length ⟨.int ((Builtin.Int.intBits j:Nat):Int),H,I.tok _,⟨_,rfl⟩,k φ H _ (.refl _) R rfl⟩
  ·cases e
 |list=>
  replace e:=jQ e;obtain⟨x0,rfl,e⟩:=e;replace e:=zS e;obtain⟨a,rfl,e⟩:=e;split at e
  ·rename_i ys ey;cases e;cases rw' with
   |cons r1 t=>
    cases t;obtain⟨p,rfl,hp⟩:=qH r1;obtain⟨p',zs,hp',hs,rs⟩:=R.its ey;rw[hp]at hp';cases hp';exact L2.call_list_of pins s σ H _ us Q I r ⟨p,zs,rfl,hs,λl hl=>k (φ++[l]) _ _ ⟨[l],rfl⟩ (R.newL hl rs) R.lastRef⟩
  ·cases e
 |int=>
  replace e:=jQ e;obtain⟨x0,rfl,e⟩:=e;split at e
  ·cases e;cases rw' with
   |cons r1 t=>
    cases t;cases qA r1;exact L2.call_int1 pins s σ H _ us Q I r (.inl ⟨_,rfl,k φ H _ (.refl _) R rfl⟩)
  ·cases e;cases rw' with
   |cons r1 t=>
    cases t;cases zA r1;exact L2.call_int1 pins s σ H _ us Q I r (.inr ⟨_,rfl,k φ H _ (.refl _) R rfl⟩)
  ·cases e
end
open L2 (PW)
theorem zy{r:RV}{b:Bool}{h:AH}(e:asB r=.ok (b,h)):r=.ok (.bl b,h):=by
 unfold asB at e;obtain⟨⟨v,h1⟩,e1,e2⟩:=Res.bind_inv e;dsimp only at e2;split at e2
 ·cases e2;exact e1
 ·cases e2
theorem d7{r:RV}{b:Bool}{h:AH}(e:r=.ok (.bl b,h)):asB r=.ok (b,h):=by
 subst e;rfl
section
variable{X:Cx}{G:List Addr}{F:Nat->List V->AH->RV}{a b c:E}{as:Es}{ea eb ec:Expr}{es:List Expr}{pos:Pos}
theorem ZH{K:PySem.W.Frag}{σ:St}{H:Hp}{Q:Bool->Hp->Prop}(q:tT K G F a σ H Q):tE K G F a σ H (λx H'=>∃k,x=.bl k/\Q k H'):=by
 obtain⟨φ,h,σa,b,h',R,rs,e,k⟩:=q;exact⟨φ,h,σa,.bl b,h',R,rs,zy e,λφ' H' w x' R' r'=>⟨b,zA r',k φ' H' x' R'⟩⟩
theorem qM(h:SE X G F ea a)(he:∀whole,isTrue ea X.env whole=(do let v <- whole;standAt ea.pos;holding [v] (truthy v))):ST X G F ea a:=
 V8 (L2.pt_val h he) λ_ _ _ q=>ZH q
theorem Z0{op:COp}{σc:St}{H:Hp}{Q:VK}(q:tE X.K G F (.cmp op a b) σc H Q):L2.tOp (qBs X G op) (tE X.K G F a) (tE X.K G F b) σc H Q:=by
 obtain⟨φ,h,σ,v,h',R,rs,e,k⟩:=q;unfold ev at e;obtain⟨⟨x,h1⟩,e1,e⟩:=Res.bind_inv e;obtain⟨⟨y,h2⟩,e2,e⟩:=Res.bind_inv e;refine Qm R rs e1 e2 λφ2 H2 xc yc x2 R2 r1 r2=>?_;unfold qAE at e;dsimp only at e;split at e
 ·rename_i t et;cases e;exact⟨φ2,_,x,y,t,R2,r1,r2,et,k φ2 H2 _ x2 R2 rfl⟩
 ·cases e
theorem qBb{op:COp}(hu:X.A.units+8<cLine)(ha:SE X G F ea a)(hb:SE X G F eb b)(hm:behindInMarks (opC op) eb=false):SE X G F (.Compare ea [opC op] [eb] pos) (.cmp op a b):=
 qj (L2.pe_cmpR (jY hu op) ha hb hm) λ_ _ _=>Z0
theorem qBP{op:COp}(hu:X.A.units+8<cLine)(ha:SE X G F ea a)(hb:SE X G F eb b)(hm:behindInMarks (opC op) eb=false):ST X G F (.Compare ea [opC op] [eb] pos) (.cmp op a b):=
 V8 (L2.pt_cmpR (jY hu op) ha hb hm) λ_ _ _ q=>Z0 (ZH q)
theorem C7{o1 o2:COp}{σc:St}{H:Hp}{Q:VK}(q:tE X.K G F (.cmp2 o1 o2 a b c) σc H Q):L2.tChain (qBs X G o1) (qBs X G o2) (tE X.K G F a) (tE X.K G F b) (tE X.K G F c) σc H Q:=by
 obtain⟨φ,h,σ,v,h',R,rs,e,k⟩:=q;unfold ev at e;obtain⟨⟨x,h1⟩,e1,e⟩:=Res.bind_inv e;obtain⟨⟨y,h2⟩,e2,e⟩:=Res.bind_inv e;refine Qm R rs e1 e2 λφ2 H2 xc yc x2 R2 r1 r2=>?_;dsimp only at e;split at e
 ·rename_i et;refine⟨φ2,_,x,y,true,R2,r1,r2,et,true,rfl,?_⟩;rw[if_pos rfl];obtain⟨⟨z,h3⟩,e3,e⟩:=Res.bind_inv e;refine⟨φ2,_,σ,z,h3,R2,rst.mono x2 rs,e3,λφ3 H3 zc x3 R3 r3=>?_⟩;unfold qAE at e;dsimp only at e;split at e
  ·rename_i t et;cases e;exact⟨φ3,_,y,z,t,R3,rv.mono x3 r2,r3,et,k φ3 H3 _ (x2.trans x3) R3 rfl⟩
  ·cases e
 ·rename_i et;cases e;refine⟨φ2,_,x,y,false,R2,r1,r2,et,false,rfl,?_⟩;rw[if_neg (by decide)];exact k φ2 H2 _ x2 R2 rfl
 ·cases e
theorem T9{o1 o2:COp}(hu:X.A.units+8<cLine)(ha:SE X G F ea a)(hb:SE X G F eb b)(hc:SE X G F ec c)(hm:lastMarks [opC o1,opC o2] [eb,ec]=false):SE X G F (.Compare ea [opC o1,opC o2] [eb,ec] pos) (.cmp2 o1 o2 a b c):=
 qj (L2.pe_chain (jY hu o1) (jY hu o2) ha hb hc hm) λ_ _ _=>C7
theorem U4{o1 o2:COp}(hu:X.A.units+8<cLine)(ha:SE X G F ea a)(hb:SE X G F eb b)(hc:SE X G F ec c)(hm:lastMarks [opC o1,opC o2] [eb,ec]=false):ST X G F (.Compare ea [opC o1,opC o2] [eb,ec] pos) (.cmp2 o1 o2 a b c):=
 V8 (L2.pt_chain (jY hu o1) (jY hu o2) ha hb hc hm) λ_ _ _ q=>C7 (ZH q)
theorem k8{σc:St}{H:Hp}{Q:VK}(q:tE X.K G F (.and a b) σc H Q):L2.tAndV (tE X.K G F a) (tE X.K G F b) σc H Q:=by
 obtain⟨φ,h,σ,v,h',R,rs,e,k⟩:=q;unfold ev at e;obtain⟨⟨x,h1⟩,e1,e⟩:=Res.bind_inv e;refine⟨φ,h,σ,.bl x,h1,R,rs,zy e1,λφ1 H1 w x1 R1 r1=>⟨x,zA r1,?_⟩⟩;dsimp only at e;cases x with
 |true=>
  rw[if_pos rfl]at e ⊢;exact⟨φ1,h1,σ,v,h',R1,rst.mono x1 rs,e,λφ2 H2 w2 x2 R2 r2=>k φ2 H2 w2 (x1.trans x2) R2 r2⟩
 |false=>
  rw[if_neg (by decide)]at e ⊢;cases e;exact k φ1 H1 _ x1 R1 rfl
theorem qAm{σc:St}{H:Hp}{Q:VK}(q:tE X.K G F (.or a b) σc H Q):L2.tOrV (tE X.K G F a) (tE X.K G F b) σc H Q:=by
 obtain⟨φ,h,σ,v,h',R,rs,e,k⟩:=q;unfold ev at e;obtain⟨⟨x,h1⟩,e1,e⟩:=Res.bind_inv e;refine⟨φ,h,σ,.bl x,h1,R,rs,zy e1,λφ1 H1 w x1 R1 r1=>⟨x,zA r1,?_⟩⟩;dsimp only at e;cases x with
 |false=>
  rw[if_neg (by decide)]at e ⊢;exact⟨φ1,h1,σ,v,h',R1,rst.mono x1 rs,e,λφ2 H2 w2 x2 R2 r2=>k φ2 H2 w2 (x1.trans x2) R2 r2⟩
 |true=>
  rw[if_pos rfl]at e ⊢;cases e;exact k φ1 H1 _ x1 R1 rfl
theorem qBR{σc:St}{H:Hp}{Q:Bool->Hp->Prop}(q:tT X.K G F (.and a b) σc H Q):L2.tAnd (tT X.K G F a) (tT X.K G F b) σc H Q:=by
 obtain⟨φ,h,σ,t,h',R,rs,e,k⟩:=q;have e:=zy e;unfold ev at e;obtain⟨⟨x,h1⟩,e1,e⟩:=Res.bind_inv e;refine⟨φ,h,σ,x,h1,R,rs,e1,λφ1 H1 x1 R1=>?_⟩;dsimp only at e;cases x with
 |true=>
  rw[if_pos rfl]at e ⊢;exact⟨φ1,h1,σ,t,h',R1,rst.mono x1 rs,d7 e,λφ2 H2 x2 R2=>k φ2 H2 (x1.trans x2) R2⟩
 |false=>
  rw[if_neg (by decide)]at e ⊢;cases e;exact k φ1 H1 x1 R1
theorem qCK{σc:St}{H:Hp}{Q:Bool->Hp->Prop}(q:tT X.K G F (.or a b) σc H Q):L2.tOr (tT X.K G F a) (tT X.K G F b) σc H Q:=by
 obtain⟨φ,h,σ,t,h',R,rs,e,k⟩:=q;have e:=zy e;unfold ev at e;obtain⟨⟨x,h1⟩,e1,e⟩:=Res.bind_inv e;refine⟨φ,h,σ,x,h1,R,rs,e1,λφ1 H1 x1 R1=>?_⟩;dsimp only at e;cases x with
 |false=>
  rw[if_neg (by decide)]at e ⊢;exact⟨φ1,h1,σ,t,h',R1,rst.mono x1 rs,d7 e,λφ2 H2 x2 R2=>k φ2 H2 (x1.trans x2) R2⟩
 |true=>
  rw[if_pos rfl]at e ⊢;cases e;exact k φ1 H1 x1 R1
variable (X G F) in
abbrev SW(e:Expr)(a:E):Prop:=PW X e (tT X.K G F a)
theorem qAl{e:Expr}{t t':TT}(h:PW X e t)(w:∀σ H Q,t' σ H Q->t σ H Q):PW X e t':=λwh pins s σ H Q I q=>h wh pins s σ H Q I (w σ H Q q)
theorem qBM{jd:List Expr}(ha:SE X G F ea a)(hb:SE X G F (.BoolOp .And (eb::jd) pos) b):SE X G F (.BoolOp .And (ea::eb::jd) pos) (.and a b):=qj (L2.pe_and ha hb) λ_ _ _=>k8
theorem qCm{jd:List Expr}(ha:SE X G F ea a)(hb:SE X G F (.BoolOp .Or (eb::jd) pos) b):SE X G F (.BoolOp .Or (ea::eb::jd) pos) (.or a b):=qj (L2.pe_or ha hb) λ_ _ _=>qAm
theorem qAP{jd:List Expr}(ha:ST X G F ea a)(hb:SW X G F (.BoolOp .And (eb::jd) pos) b):SW X G F (.BoolOp .And (ea::eb::jd) pos) (.and a b):=qAl (L2.pw_and ha hb) λ_ _ _=>qBR
theorem qCf{jd:List Expr}(ha:ST X G F ea a)(hb:SW X G F (.BoolOp .Or (eb::jd) pos) b):SW X G F (.BoolOp .Or (ea::eb::jd) pos) (.or a b):=qAl (L2.pw_or ha hb) λ_ _ _=>qCK
theorem qBi(ha:SE X G F ea a):SE X G F (.UnaryOp .Not ea pos) (.not a):=by
 refine qj (L2.pe_not ha) λσc H Q q=>?_;obtain⟨φ,h,σ,v,h',R,rs,e,k⟩:=q;unfold ev at e;obtain⟨⟨x,h1⟩,e1,e⟩:=Res.bind_inv e;cases e;exact⟨φ,h,σ,.bl x,_,R,rs,zy e1,λφ1 H1 w x1 R1 r1=>⟨x,zA r1,k φ1 H1 _ x1 R1 rfl⟩⟩
theorem qBC(ha:ST X G F ea a):ST X G F (.UnaryOp .Not ea pos) (.not a):=by
 refine V8 (L2.pt_not ha) λσc H Q q=>?_;obtain⟨φ,h,σ,t,h',R,rs,e,k⟩:=q;have e:=zy e;unfold ev at e;obtain⟨⟨x,h1⟩,e1,e⟩:=Res.bind_inv e;cases e;exact⟨φ,h,σ,x,_,R,rs,e1,λφ1 H1 x1 R1=>k φ1 H1 x1 R1⟩
noncomputable def qV:Expr->Bool
 | .Starred ..=>false
 |_=>true
theorem qE{e:Expr}{env:Env}(h:qV e=true):starEach (e::es) env=(false,eval e env)::starEach es env:=by
 cases e<;>first|rfl|cases h
theorem jp{env:Env}:∀{es:List Expr},es.all qV=true->(backTo pos (starEach es env)).any (·.1)=false
 | [],_=>rfl
 |e::es,h=>by
  simp only[List.all_cons,Bool.and_eq_true]at h;rw[qE h.1];show (false||(backTo pos (starEach es env)).any (·.1))=false;rw[jp h.2];rfl
theorem Y7:SA X G F [] .nil:=by
 refine qAK L2.pa_nil λσc H Q q=>?_;obtain⟨φ,h,σ,v,h',R,rs,e,k⟩:=q;unfold evs at e;cases e;exact k φ H [] (.refl _) R .nil
theorem O9(hn:qV ea=true)(ha:SE X G F ea a)(hr:SA X G F es as):SA X G F (ea::es) (.cons a as):=by
 refine qAK (L2.pa_cons ha hr (qE hn)) λσc H Q q=>?_;obtain⟨φ,h,σ,v,h',R,rs,e,k⟩:=q;unfold evs at e;obtain⟨⟨x,h1⟩,e1,e⟩:=Res.bind_inv e;obtain⟨⟨xs,h2⟩,e2,e⟩:=Res.bind_inv e;cases e;exact⟨φ,h,σ,x,h1,R,rs,e1,λφ1 H1 w x1 R1 r1=>⟨φ1,h1,σ,xs,_,R1,rst.mono x1 rs,e2,λφ2 H2 ws x2 R2 r2=>k φ2 H2 _ (x1.trans x2) R2 (.cons (rv.mono x2 r1) r2)⟩⟩
theorem qBg(h:SA X G F es as):SE X G F (.List es pos) (.lst as):=by
 refine qj (L2.pe_lst h) λσc H Q q=>?_;obtain⟨φ,h,σ,v,h',R,rs,e,k⟩:=q;unfold ev at e;obtain⟨⟨xs,h1⟩,e1,e⟩:=Res.bind_inv e;refine⟨φ,h,σ,xs,h1,R,rs,e1,λφ1 H1 ws x1 R1 r1=>?_⟩;dsimp only at e;split at e
 ·rename_i hl;cases e;refine⟨by rw[<-Paired.length r1];exact Nat.le_trans hl jh,λp hp=>k (φ1++[p]) _ _ (x1.trans ⟨[p],rfl⟩) (R1.newL hp r1) R1.lastRef⟩
 ·cases e
theorem K4:SE X G F (.Dict [] [] pos) .dnew:=by
 intro pins s σc H Q I q;obtain⟨φ,h,σ,v,h',R,rs,e,k⟩:=q;unfold ev at e;cases e;have hbig:sysModules<s.heap.objs.size:=wW (by decide) (I.mod.glob.keeps I.bk).lt;have hn:=I.hok.fresh (Nat.le_refl s.heap.objs.size);exact wpAny_Dict_empty ⟨.ref s.heap.objs.size,_,I.laid (a:=s.heap.objs.size) (o:=.dK []) (t':=s.toks) (λ_ _ q=>Heap.get?_push_of_some _ q) (Nat.le_refl _)
  ⟨Nat.zero_le _,beq_eq_false_iff_ne.mpr (Ne.symm (wK hbig)),[],.nil,Heap.DictOf.new s.heap⟩,rfl,
  k (φ++[s.heap.objs.size]) _ _ ⟨[s.heap.objs.size],rfl⟩ (R.new hn (o:=.ob (.dct [])) qB) R.lastRef⟩
theorem d3 {x1}(h:SA X G F es as):SE X G F (.Tuple es x1 pos) (.tup as):=by
 refine qj (L2.pe_tup h) λσc H Q q=>?_;obtain⟨φ,h,σ,v,h',R,rs,e,k⟩:=q;unfold ev at e;obtain⟨⟨xs,h1⟩,e1,e⟩:=Res.bind_inv e;refine⟨φ,h,σ,xs,h1,R,rs,e1,λφ1 H1 ws x1 R1 r1=>?_⟩;dsimp only at e;split at e
 ·rename_i hl;cases e;refine⟨by rw[<-Paired.length r1];exact Nat.le_trans hl jh,λp hp=>k (φ1++[p]) _ _ (x1.trans ⟨[p],rfl⟩) (R1.newT hp r1) R1.lastRef⟩
 ·cases e
variable (G F) in
noncomputable def spF(K:PySem.W.Frag)(f:Nat):L2.Sp:=λvs H Q _=>∃φ h ws v h',Rl K G φ h H/\rvs φ ws vs/\F f ws h=.ok (v,h')/\∀φ' H' w,Ext φ φ'->Rl K G φ' h' H'->rv φ' v w->Q w H'
variable (X G F) in
structure FnS(f:Nat)(x:Str):Prop where
 ex:∃k fa fd ps,L2.FnOk X.prog X.w X.K X.mg X.base L2.CX0 k fa fd ps (spF G F X.K f)/\L2.Room k X.A/\X.mg x=some (.ref fa)/\PySem.W.keepIn X.K (.ref fa)=true/\L2.Binds X.K fd ps []/\L2.Room k X.A.in1
theorem G2{f:Nat}{σc:St}{H:Hp}{Q:VK}(q:tE X.K G F (.call f as) σc H Q):L2.tCall (spF G F X.K f) [] L2.E0 (tL X.K G F as) σc H Q:=by
 obtain⟨φ,h,σ,v,h',R,rs,e,k⟩:=q;unfold ev at e;obtain⟨⟨xs,h1⟩,e1,e⟩:=Res.bind_inv e;refine⟨φ,h,σ,xs,h1,R,rs,e1,λφ1 H1 ws x1 R1 r1=>?_⟩;have e:F f xs h1=.ok (v,h'):=by
  have e:(F f xs h1).nx=.ok (v,h'):=e;revert e;generalize F f xs h1=r;cases r<;>intro e<;>first|exact e|cases e
 refine⟨φ1,h1,xs,v,h',R1,by rw[List.append_nil];exact r1,e,λφ2 H2 w x2 R2 r2=>k φ2 H2 w (x1.trans x2) R2 r2⟩
theorem m9{f:Nat}{x:Str}{p:Pos}(hf:FnS X G F f x)(hg:L2.Gl X x)(hd:(x==("__debug__":Str))=false)(hn:qV ea=true)(hs:es.all qV=true)(ha:SA X G F (ea::es) as):SE X G F (.Call (.Name x p) (ea::es) [] pos) (.call f as):=by
 obtain⟨k,fa,fd,ps,h1,h2,h3,h4,h5,_⟩:=hf.ex;exact qj (L2.pe_call h1 h2 hg h3 h4 h5 .nil L2.pass0 ha hd (qE hn) (jp hs)) λ_ _ _=>G2
theorem T6{f:Nat}{x:Str}{p:Pos}(hf:FnS X G F f x)(hg:L2.Gl X x)(hd:(x==("__debug__":Str))=false):SE X G F (.Call (.Name x p) [] [] pos) (.call f .nil):=by
 obtain⟨k,fa,fd,ps,h1,h2,h3,h4,h5,_⟩:=hf.ex;refine qj (L2.pe_call0 h1 h2 hg h3 h4 h5 .nil L2.pass0 hd) λσc H Q q=>?_;obtain⟨φ,h,σ,vs,h',R,rs,e,k⟩:=G2 q;unfold evs at e;cases e;exact k φ H [] (.refl _) R .nil
theorem X4{f:BF}{σc:St}{H:Hp}{Q:VK}(q:tE X.K G F (.blt f as) σc H Q):L2.tCB (qCo X G f) (tL X.K G F as) σc H Q:=by
 obtain⟨φ,h,σ,v,h',R,rs,e,k⟩:=q;unfold ev at e;obtain⟨⟨xs,h1⟩,e1,e⟩:=Res.bind_inv e;exact⟨φ,h,σ,xs,h1,R,rs,e1,λφ1 H1 ws x1 R1 r1=>⟨φ1,h1,xs,v,h',R1,r1,e,λφ2 H2 w x2 R2 r2=>k φ2 H2 w (x1.trans x2) R2 r2⟩⟩
theorem qA5{f:BF}{x:Str}{p:Pos}(hc:X.calm=true)(hu:X.A.units+8<cLine)(hgd:X.A.guards=some [])(hg:L2.Gl X x)(hm:X.mg x=none)(hv:bootBuiltins x=some (fnB f))(hn:qV ea=true)(hs:es.all qV=true)(ha:SA X G F (ea::es) as)
  (h1:x≠"__name__") (h2:(x==("__debug__":Str))=false):SE X G F (.Call (.Name x p) (ea::es) [] pos) (.blt f as):=by
 have rule:=ZQ (G:=G) hc hu hgd f;cases f
 all_goals first
  |exact qj (L2.pe_callB rule hg hm hv ha h1 h2 (qE hn) (jp hs)) λ_ _ _=>X4
  |exact qj (L2.pe_callTy rule hg hm hv ha h1 h2 (qE hn) (jp hs)) λ_ _ _=>X4
theorem z0{apos cpos:Pos}(hc:X.calm=true)(hu:X.A.units+8<cLine)(hgd:X.A.guards=some [])(hbase:attributeBase ea "bit_length" X.env (eval ea X.env)=eval ea X.env)(hline:(apos.endLine==cpos.line)=true)(ha:SE X G F ea a):
  SE X G F (.Call (.Attribute ea "bit_length" apos) [] [] cpos) (.blt .bits (.cons a .nil)):=by
 have rule:L2.MtR X "int.bit_length" (λx xs H Q=>∃i,x=.int i/\xs=[]/\qCo X G .bits [.int i] H Q):=λpins s σ H x xs v us Q I rx rs q=>by
  obtain⟨i,rfl,rfl,q⟩:=q;cases rs;exact ZQ (G:=G) hc hu hgd .bits pins s σ H [.int i] [v] Q I (.cons rx .nil) q
 refine qj (L2.pe_bm0 PySem.F.plainAttrs_int PyProof.Rows.slot_int_bit_length PyProof.Rows.type_int_bit_length rule ha hbase hline) λσc H Q q=>?_;obtain⟨φ,h,σ,v,h',R,rs,e,k⟩:=q;unfold ev at e;obtain⟨⟨xs,h1⟩,e1,e2⟩:=Res.bind_inv e;unfold evs evs at e1;obtain⟨⟨x,h2⟩,e3,e4⟩:=Res.bind_inv e1;cases e4;replace e2:qBm .bits [x] h1=.ok (v,h'):=e2;cases x with
 |int i=>exact⟨φ,h,σ,_,_,R,rs,e3,λφ1 H1 w x1 R1 r1=>by
   cases qA r1;exact⟨rfl,i,rfl,rfl,φ1,_,[.int i],v,h',R1,.cons rfl .nil,e2,λφ2 H2 w x2 R2 r2=>k φ2 H2 w (x1.trans x2) R2 r2⟩⟩
 |_=>cases e2
noncomputable def ZO(t:String):Bool:=t=="int"||t=="bool"||t=="list"||t=="tuple"||t=="str"||t=="dict"
theorem QJ(K:PySem.W.Frag):∀{t c:String},(t="NoneType"\/t="bool"\/t="int"\/t="str"\/t="list"\/t="tuple"\/t="dict")->ZO c=true->PySem.W.kitOne K (.type t) (.type c)=some (zp t c):=by
 intro t c ht hc;have hc':c="int"\/c="bool"\/c="list"\/c="tuple"\/c="str"\/c="dict":=by
  simp only[ZO,wu,beq_iff_eq]at hc;rcases hc with((((h|h)|h)|h)|h)|h<;>simp[h]
 rcases ht with rfl|rfl|rfl|rfl|rfl|rfl|rfl<;>rcases hc' with rfl|rfl|rfl|rfl|rfl|rfl<;>kernel_rfl
variable (X G) in
def qEB(c:String):List V->Hp->VK->Prop:=λxs H Q=>∃φ h xa x t,xs=[x,.ty c]/\Rl X.K G φ h H/\rv φ xa x/\zX h xa=some t/\Q (.bl (zp t c)) H
theorem M9{c:String}(hc:ZO c=true):qo X (.builtin "isinstance") (qEB X G c):=by
 intro pins s σ H xs us Q I r ⟨φ,h,xa,x,t,e,R,rx,ht,q⟩;subst e;obtain⟨u,u2,rfl,r1,r2⟩:=L2.vals2 r;cases (show u2=Value.type c from r2);have fin:∀tk,EP X pins σ Q (.bool (zp t c)) { s with toks:=tk }:=λtk=>⟨.bl (zp t c),H,I.tok tk,rfl,q⟩
 cases xa with
 |non=>cases qx rx;cases r1;cases ht;exact PySem.W.kia_one PySem.W.kitx_none I.kIn True.intro (QJ _ (by simp) hc) (λz=>nomatch z) fin
 |bl i=>cases zA rx;cases r1;cases ht;exact PySem.W.kia_one PySem.W.kitx_bool I.kIn True.intro (QJ _ (by simp) hc) (λz=>nomatch z) fin
 |int i=>cases qA rx;obtain⟨t',rfl⟩:=r1;cases ht;exact PySem.W.kia_one PySem.W.kitx_int I.kIn True.intro (QJ _ (by simp) hc) (λz=>nomatch z) fin
 |str i=>cases zJ rx;obtain⟨t',rfl⟩:=r1;cases ht;exact PySem.W.kia_one PySem.W.kitx_str I.kIn True.intro (QJ _ (by simp) hc) (λz=>nomatch z) fin
 |ref i=>
  obtain⟨p,rfl,hp⟩:=qH rx;cases r1;cases ey:h[i]? with
  |none=>rw[show zX h (.ref i)=none by simp only[zX,ey]]at ht;cases ht
  |some o=>
   cases o with
   |lst fz ys=>
    rw[show zX h (.ref i)=some "list" by simp only[zX,ey]]at ht;cases ht;obtain⟨p',zs,hp',hs,rs⟩:=R.lst (i:=i) (xs:=ys) (by unfold qU;rw[ey]);rw[hp]at hp';cases hp';obtain⟨its,_,pl,_⟩:=I.list hs;obtain⟨o,ho,hcl,_⟩:=pl.isList;exact PySem.W.kia_one PySem.W.kitx_list I.kIn ⟨o,ho,hcl⟩ (QJ _ (by simp) hc) (λz=>nomatch z) fin
   |tup ys=>
    rw[show zX h (.ref i)=some "tuple" by simp only[zX,ey]]at ht;cases ht;obtain⟨p',zs,hp',hs,rs⟩:=R.tup (i:=i) (xs:=ys) (by unfold qX;rw[ey]);rw[hp]at hp';cases hp';obtain⟨its,_,pl,_⟩:=I.tuple hs;obtain⟨o,ho,hcl,_⟩:=pl;exact PySem.W.kia_one PySem.W.kitx_tuple I.kIn ⟨o,ho,hcl⟩ (QJ _ (by simp) hc) (λz=>nomatch z) fin
   |ob ks=>
    cases ks with
    |exn c=>rw[show zX h (.ref i)=none by simp only[zX,ey]]at ht;cases ht
    |dct kvs=>
     rw[show zX h (.ref i)=some "dict" by simp only[zX,ey]]at ht;cases ht;obtain⟨p',hp',hs⟩:=R.at ey;rw[hp]at hp';cases hp';obtain⟨_,_,vs,_,o,es,ep,h1,h2,_⟩:=(show L2.ObjOk X.prog X.w H s.heap p (.dK (kvs.map kk)) from I.hok p _ hs)
     exact PySem.W.kia_one PySem.W.kitx_dict I.kIn ⟨o,h1,h2.1⟩ (QJ _ (by simp) hc) (λz=>nomatch z) fin
 |_=>cases ht
theorem qBJ{c:String}{xc:Str}{p pc:Pos}(hc:ZO c=true)(hg:L2.Gl X "isinstance")(hm:X.mg "isinstance"=none)(hgc:L2.Gl X xc)(hmc:X.mg xc=none)(hvc:bootBuiltins xc=some (.type c))(hn1:xc≠"__name__")(hn2:(xc==("__debug__":Str))=false)
  (hn:qV ea=true) (ha:SE X G F ea a):SE X G F (.Call (.Name "isinstance" p) [ea,.Name xc pc] [] pos) (.isi a [c]):=by
 refine qj (L2.pe_callB (M9 (G:=G) hc) hg hm PyProof.Rows.boot_isinstance (L2.pa_cons ha (L2.pa_cons (L2.pe_bltn (v:=.ty c) hgc hmc hvc rfl hn1 hn2) L2.pa_nil rfl) (qE hn)) (by decide) (by decide) (qE hn) rfl) λσc H Q q=>?_;obtain⟨φ,h,σ,v,h',R,rs,e,k⟩:=q;unfold ev at e;obtain⟨⟨x,h1⟩,e1,e⟩:=Res.bind_inv e;refine⟨φ,h,σ,x,h1,R,rs,e1,λφ1 H1 w x1 R1 r1=>?_⟩;dsimp only at e;split at e
 ·rename_i t et;cases e;refine⟨φ1,_,x,w,t,rfl,R1,r1,et,?_⟩;have:=k φ1 H1 (.bl ([c].any (zp t))) x1 R1 rfl;simpa using this
 ·cases e
noncomputable def QK:Expr->Bool
 | .Slice ..=>false
 |_=>true
theorem D5{e:Expr}(h:QK e=true):L2.PlainIx e:=by
 intro o i;cases e<;>first|rfl|cases h
theorem qBF(hb':QK eb=true)(ha:SE X G F ea a)(hb:SE X G F eb b):SE X G F (.Subscript ea eb pos) (.idx a b):=by
 refine qj (L2.pe_ix (L2.ix_list.or L2.ix_tup) ha hb (D5 hb')) λσc H Q q=>?_;obtain⟨φ,h,σ,v,h',R,rs,e,k⟩:=q;unfold ev at e;obtain⟨⟨x,h1⟩,e1,e⟩:=Res.bind_inv e;obtain⟨⟨y,h2⟩,e2,e⟩:=Res.bind_inv e;refine Qm R rs e1 e2 λφ2 H2 xc yc x2 R2 r1 r2=>?_;cases x with
 |ref p=>
  cases y with
  |int i=>
   dsimp only at e;split at e
   ·rename_i xs ex;split at e
    ·rename_i w ew;cases e;obtain⟨p',zs,hp',hs,rs'⟩:=R2.its ex;obtain⟨q,rfl,hq⟩:=qH r1;rw[hp']at hq;cases hq;cases qA r2;obtain⟨j,ej,ew⟩:=Option.bind_eq_some_iff.mp ew;obtain⟨w',hw',rw'⟩:=qO rs' ew;have hat:L2.atI zs i=some w':=by
      unfold L2.atI;rw[<-Paired.length rs'];exact Option.bind_eq_some_iff.mpr ⟨j,ej,hw'⟩
     rcases hs with hs|hs
     ·exact .inl ⟨_,zs,i,w',rfl,rfl,hs,hat,k φ2 H2 w' x2 R2 rw'⟩
     ·exact .inr ⟨_,zs,i,w',rfl,rfl,hs,hat,k φ2 H2 w' x2 R2 rw'⟩
    ·cases e
   ·cases e
  |_=>cases e
 |_=>cases e
theorem Qi{φ:List Addr}{xs ys:List V}(r:rvs φ xs ys)(lo hi:Option Int):rvs φ (L2.cutV xs lo hi) (L2.cutV ys lo hi):=by
 unfold L2.cutV;rw[Paired.length r];exact qt _ (zw _ r)
variable (X G F) in
def SO(o:Option Expr)(as:Es):Prop:=L2.PO X o λσc H Q=>∃φ h σ is h',Rl X.K G φ h H/\rst φ σ σc/\(∃vs,evs F as σ h=.ok (vs,h')/\zK vs=some is)/\∀φ' H',Ext φ φ'->Rl X.K G φ' h' H'->Q is.head? H'
theorem p9:SO X G F none .nil:=by
 intro pins s σc H Q I q;obtain⟨φ,h,σ,is,h',R,rs,⟨vs,e,ei⟩,k⟩:=q;unfold evs at e;cases e;cases ei;exact L2.po_none pins s σc H Q I (k φ H (.refl _) R)
theorem r6(ha:SE X G F ea a):SO X G F (some ea) (.cons a .nil):=by
 intro pins s σc H Q I q;obtain⟨φ,h,σ,is,h',R,rs,⟨vs,e,ei⟩,k⟩:=q;unfold evs at e;obtain⟨⟨x,h1⟩,e1,e⟩:=Res.bind_inv e;unfold evs at e;cases e;refine L2.po_some ha pins s σc H Q I ⟨φ,h,σ,x,_,R,rs,e1,λφ1 H1 w x1 R1 r1=>?_⟩;have hm:=zR ei;cases is with
 |nil=>cases hm
 |cons i r=>
  simp only[List.map_cons,List.cons.injEq]at hm;obtain⟨rfl,_⟩:=hm;cases qA r1;exact⟨i,rfl,k φ1 H1 x1 R1⟩
theorem qA4{lo hi:Option Expr}{al ah:Es}{p2:Pos}(ha:SE X G F ea a)(hl:SO X G F lo al)(hh:SO X G F hi ah):SE X G F (.Subscript ea (.Slice lo hi none p2) pos) (.sl a al ah):=by
 refine qj (L2.pe_slice (L2.SlR.or L2.sl_list L2.sl_tup) ha hl hh) λσc H Q q=>?_;obtain⟨φ,h,σ,v,h',R,rs,e,k⟩:=q;unfold ev at e;obtain⟨⟨x,h1⟩,e1,e⟩:=Res.bind_inv e;obtain⟨⟨l,h2⟩,e2,e⟩:=Res.bind_inv e;obtain⟨⟨u,h3⟩,e3,e⟩:=Res.bind_inv e;cases x with
 |ref p=>
  cases eil:zK l with
  |none=>dsimp only at e;rw[eil]at e;cases e
  |some il=>
   cases eiu:zK u with
   |none=>dsimp only at e;rw[eil,eiu]at e;cases e
   |some iu=>
    dsimp only at e;rw[eil,eiu]at e;dsimp only at e;split at e
    ·rename_i xs ex;cases e;refine⟨φ,h,σ,_,h1,R,rs,e1,λφ1 H1 w x1 R1 r1=>?_⟩;refine⟨φ1,h1,σ,il,h2,R1,rst.mono x1 rs,⟨l,e2,eil⟩,λφ2 H2 x2 R2=>?_⟩;refine⟨φ2,h2,σ,iu,h3,R2,rst.mono (x1.trans x2) rs,⟨u,e3,eiu⟩,λφ3 H3 x3 R3=>?_⟩;obtain⟨p',zs,hp',hs,rs'⟩:=R3.lst ex;obtain⟨q,rfl,hq⟩:=qH (rv.mono (x2.trans x3) r1);rw[hp']at hq;cases hq;exact .inl ⟨_,zs,rfl,hs,λm hm=>k (φ3++[m]) _ _ ((x1.trans (x2.trans x3)).trans ⟨[m],rfl⟩) (R3.newL hm (Qi rs' _ _)) R3.lastRef⟩
    ·split at e
     ·rename_i xs ex;split at e
      ·cases e
      ·rename_i hw;cases e;refine⟨φ,h,σ,_,h1,R,rs,e1,λφ1 H1 w x1 R1 r1=>?_⟩;refine⟨φ1,h1,σ,il,h2,R1,rst.mono x1 rs,⟨l,e2,eil⟩,λφ2 H2 x2 R2=>?_⟩;refine⟨φ2,h2,σ,iu,h3,R2,rst.mono (x1.trans x2) rs,⟨u,e3,eiu⟩,λφ3 H3 x3 R3=>?_⟩;obtain⟨p',zs,hp',hs,rs'⟩:=R3.tup ex;obtain⟨q,rfl,hq⟩:=qH (rv.mono (x2.trans x3) r1);rw[hp']at hq;cases hq;exact .inr ⟨_,zs,rfl,hs,by rw[<-Paired.length rs'];exact hw,λm hm=>k (φ3++[m]) _ _ ((x1.trans (x2.trans x3)).trans ⟨[m],rfl⟩) (R3.newT hm (Qi rs' _ _)) R3.lastRef⟩
     ·cases e
 |_=>cases e
theorem qAW{apos cpos:Pos}(hbase:attributeBase ea "append" X.env (eval ea X.env)=eval ea X.env)(hline:(apos.endLine==cpos.line)=true)(hn:qV eb=true)(ha:SE X G F ea a)(hb:SE X G F eb b):
  SE X G F (.Call (.Attribute ea "append" apos) [eb] [] cpos) (.app a b):=by
 refine qj (L2.pe_bm PySem.F.plainAttrs_list PySem.F.slot_list_append PySem.F.type_list_append L2.mt_append ha (L2.pa_cons hb L2.pa_nil (qE hn)) hbase (by rw[qE hn];rfl) hline (qE hn) rfl) λσc H Q q=>?_;obtain⟨φ,h,σ,v,h',R,rs,e,k⟩:=q;unfold ev at e;obtain⟨⟨x,h1⟩,e1,e⟩:=Res.bind_inv e;dsimp only at e;split at e
 ·rename_i p;split at e
  ·rename_i ys ey;obtain⟨⟨y,h2⟩,e2,e⟩:=Res.bind_inv e;dsimp only at e;split at e
   ·rename_i xs ex;split at e
    ·rename_i hl;cases e;refine⟨φ,h,σ,_,h1,R,rs,e1,λφ1 H1 w x1 R1 r1=>?_⟩;obtain⟨p1,zs1,hp1,hs1,_⟩:=R1.lst ey;obtain⟨q,rfl,hq⟩:=qH r1;rw[hp1]at hq;cases hq;refine⟨.inl ⟨rfl,_,hs1⟩,φ1,h1,σ,y,h2,R1,rst.mono x1 rs,e2,λφ2 H2 yc x2 R2 r2=>?_⟩;obtain⟨q1,p2,zs2,hp2,hH2,rs2⟩:=R2.mut ex;have:=x2.get hp1;rw[hp2]at this;cases this;refine⟨_,zs2,yc,rfl,rfl,hH2,?_,k φ2 _ _ (x1.trans x2) (R2.set q1 hp2 (qK rs2 (.cons r2 .nil))) trivial⟩;rw[<-Paired.length rs2];exact wW hl Y3
    ·cases e
   ·cases e
  ·cases e
 ·cases e
theorem Rl.same{K:PySem.W.Frag}{G φ:List Addr}{h:AH}{H H':Hp}(R:Rl K G φ h H)(s:QP H H'):Rl K G φ h H':=⟨R.len,R.glob,λi o a e1 e2=>(R.obj i o a e1 e2).keep (.refl _) s,R.inj⟩
theorem QC{φ:List Addr}:∀{xs:List V},xs.all flat=true->rvs φ xs xs
 | [],_=>.nil
 |x::xs,h=>by
  simp only[List.all_cons,Bool.and_eq_true]at h;refine .cons ?_ (QC h.2);cases x<;>first|rfl|exact trivial|(cases h.1)
theorem QI{α β:Type}{R:α->β->Prop}{xs:List α}{us:List β}(h:Paired R xs us):Paired R xs.dropLast us.dropLast:=by
 rw[wj,wj,<-Paired.length h];exact qt _ h
theorem jr{α β:Type}{R:α->β->Prop}{xs:List α}{us:List β}(h:Paired R xs us)(k:Nat):Paired R (xs.eraseIdx k) (us.eraseIdx k):=by
 rw[wU,wU];exact qK (qt _ h) (zw _ h)
theorem zt{α β:Type}{R:α->β->Prop}:∀{xs:List α}{us:List β},Paired R xs us->Paired R xs.reverse us.reverse
 |_,_,.nil=>.nil
 |_,_,.cons r t=>by
  rw[wb,wb];exact qK (zt t) (.cons r .nil)
theorem G4:qo X (.type "range") (λxs H Q=>∃j:Int,xs=[.int j]/\∀p,H p=none->Q (.ref p) (upd H p (.rng 0 j))):=by
 intro pins s σ H xs us Q I r ⟨j,e,q⟩;subst e;obtain⟨u,rfl,ru⟩:=L2.vals1 r;obtain⟨t,rfl⟩:=ru;refine call_range_1 ⟨.ref s.heap.objs.size,_,I.laid (λ_ _ q=>Heap.get?_push_of_some _ q) (Nat.le_refl _) ?_,rfl,q _ (I.hok.fresh (Nat.le_refl _))⟩;exact⟨_,_,_,Heap.get?_push_size _ rfl⟩
theorem Qn{P:Nat->V}:∀{n:Nat}{acc:List Value},acc.length=n->(∀(j:Nat) v,acc[j]?=some v->RelV (P j) v)->Vals ((List.range n).map P) acc:=by
 intro n
 induction n with
 |zero=>intro acc hl _;cases acc with|nil=>exact .nil|cons _ _=>simp at hl
 |succ n ih=>
  intro acc hl ha;have hne:acc≠[]:=by intro z;subst z;simp at hl
  rw[List.range_succ,wg,<-List.dropLast_concat_getLast hne];have hd:acc.dropLast.length=n:=by rw[List.length_dropLast,hl];rfl
  refine qK (ih hd λj v e=>ha j v ?_) (.cons (ha n _ ?_) .nil)
  ·rw[<-List.dropLast_concat_getLast hne,List.getElem?_append_left (List.getElem?_eq_some_iff.mp e).1];exact e
  ·rw[wA (by omega),List.getLast_eq_getElem];congr 1;simp[hl]
theorem Qz(hc:X.calm=true):qo X (.type "list") (λxs H Q=>∃p,∃j:Int,xs=[.ref p]/\H p=some (.rng 0 j)/\(-1000000<=j/\j<=100000)/\∀l,H l=none->Q (.ref l) (upd H l (.lst (zr 0 j.toNat)))):=by
 intro pins s σ H xs us Q I r ⟨p,j,e,hp,hj,q⟩;subst e;obtain⟨u,rfl,ru⟩:=L2.vals1 r;cases ru;obtain⟨t,u,v,hr⟩:=I.hok p _ hp;have hn:Builtin.Range.rangeSize 0 j 1=((j.toNat:Nat):Int):=by rw[rangeSize_one];split<;>omega
 refine call_list_range (I.ok.hd hc) hr (small_one (by omega) (by omega) (by omega) (by omega)) hn (by omega) λh' tk acc' c' hk hS hI=>?_;refine⟨.ref s.heap.objs.size,_,I.laid (t':=tk) hk (Nat.le_refl _) ?_,rfl,q _ (I.hok.fresh (Nat.le_refl _))⟩;obtain⟨i1,i2⟩:=hI;refine⟨?_,acc'.toList,c',Qn (by simpa using i1) λk v e=>?_,by simpa using hS⟩
 ·have:=jh;unfold lim at this;rw[zr,wG,List.length_range];omega
 ·obtain⟨t',rfl⟩:=i2 k v (by simpa using e);exact⟨t',by rw[Int.mul_one]⟩
theorem y1{p p2 pos2:Pos}(hc:X.calm=true)(hg:L2.Gl X "list")(hm:X.mg "list"=none)(hg2:L2.Gl X "range")(hm2:X.mg "range"=none)(hn:qV ea=true)(ha:SE X G F ea a):
  SE X G F (.Call (.Name "list" p) [.Call (.Name "range" p2) [ea] [] pos2] [] pos) (.lrng a):=by
 refine qj (L2.pe_callTy (Qz hc) hg hm PyProof.Rows.boot_list (L2.pa_cons (L2.pe_callTy G4 hg2 hm2 PyProof.Rows.boot_range (L2.pa_cons ha L2.pa_nil (qE hn)) (by decide) (by decide) (qE hn) rfl) L2.pa_nil rfl) (by decide) (by decide) rfl rfl) λσc H Q q=>?_;obtain⟨φ,h,σ,v,h',R,rs,e,k⟩:=q;unfold ev at e;obtain⟨⟨x,h1⟩,e1,e⟩:=Res.bind_inv e;refine⟨φ,h,σ,x,h1,R,rs,e1,λφ1 H1 w x1 R1 r1=>?_⟩;cases x with
 |int j=>
  dsimp only at e;split at e
  ·rename_i hj;cases e;cases qA r1;refine⟨j,rfl,λp hp=>⟨p,j,rfl,qB,hj,λl hl=>?_⟩⟩;have hlp:l≠p:=by rintro rfl;rw[qB]at hl;cases hl
   have R2:Rl X.K G φ1 h1 (upd H1 p (.rng 0 j)):=R1.same (jq hp);exact k (φ1++[l]) _ _ (x1.trans ⟨[l],rfl⟩) (R2.newL hl (QC (by simp[zr,flat]))) R2.lastRef
  ·cases e
 |_=>cases e
theorem i6{m:Mt}{r:V->List V->Hp->VK->Prop}{σc:St}{H:Hp}{Q:VK}{as:Es}
  (hr:∀φ h H p ys ws v h' Q,Rl X.K G φ h H->rvs φ ys ws->jl m p ys h=.ok (v,h')->(∀φ' H' w,Ext φ φ'->Rl X.K G φ' h' H'->rv φ' v w->Q w H')->∀a,φ[p]?=some a->r (.ref a) ws H Q)
  (q:tE X.K G F (.meth m a as) σc H Q):L2.tBM X.K "list" r (tE X.K G F a) (tL X.K G F as) σc H Q:=by
 obtain⟨φ,h,σ,v,h',R,rs,e,k⟩:=q;unfold ev at e;obtain⟨⟨x,h1⟩,e1,e⟩:=Res.bind_inv e;dsimp only at e;split at e
 ·rename_i p;split at e
  ·rename_i ys ey;obtain⟨⟨zs,h2⟩,e2,e⟩:=Res.bind_inv e;refine⟨φ,h,σ,_,h1,R,rs,e1,λφ1 H1 w x1 R1 r1=>?_⟩;obtain⟨p1,zs1,hp1,hs1,_⟩:=R1.lst ey;obtain⟨q,rfl,hq⟩:=qH r1;rw[hp1]at hq;cases hq;exact⟨.inl ⟨rfl,_,hs1⟩,φ1,h1,σ,zs,h2,R1,rst.mono x1 rs,e2,λφ2 H2 yc x2 R2 r2=>hr φ2 h2 H2 p zs yc v h' Q R2 r2 e (λφ3 H3 w x3 R3 r3=>k φ3 H3 w (x1.trans (x2.trans x3)) R3 r3) _ (x2.get hp1)⟩
  ·cases e
 ·cases e
theorem ZB{m:Mt}{r:V->List V->Hp->VK->Prop}{σc:St}{H:Hp}{Q:VK}
  (hr:∀φ h H p ys ws v h' Q,Rl X.K G φ h H->rvs φ ys ws->jl m p ys h=.ok (v,h')->(∀φ' H' w,Ext φ φ'->Rl X.K G φ' h' H'->rv φ' v w->Q w H')->∀a,φ[p]?=some a->r (.ref a) ws H Q)
  (q:tE X.K G F (.meth m a .nil) σc H Q):L2.tBM0 X.K "list" r (tE X.K G F a) σc H Q:=by
 obtain⟨φ,h,σ,v,h',R,rs,e,k⟩:=q;unfold ev at e;obtain⟨⟨x,h1⟩,e1,e⟩:=Res.bind_inv e;dsimp only at e;split at e
 ·rename_i p;split at e
  ·rename_i ys ey;obtain⟨⟨zs,h2⟩,e2,e⟩:=Res.bind_inv e;unfold evs at e2;cases e2;refine⟨φ,h,σ,_,h1,R,rs,e1,λφ1 H1 w x1 R1 r1=>?_⟩;obtain⟨p1,zs1,hp1,hs1,_⟩:=R1.lst ey;obtain⟨q,rfl,hq⟩:=qH r1;rw[hp1]at hq;cases hq;exact⟨.inl ⟨rfl,_,hs1⟩,hr φ1 h1 H1 p [] [] v h' Q R1 .nil e (λφ3 H3 w x3 R3 r3=>k φ3 H3 w (x1.trans x3) R3 r3) _ hp1⟩
  ·cases e
 ·cases e
theorem T1:∀φ h H p ys ws v h' Q,Rl X.K G φ h H->rvs φ ys ws->jl .pop p ys h=.ok (v,h')->(∀φ' H' w,Ext φ φ'->Rl X.K G φ' h' H'->rv φ' v w->Q w H')->∀a,φ[p]?=some a->L2.rPop (.ref a) ws H Q:=by
 intro φ h H p ys ws v h' Q R rw' e k a ha;cases ys with
 |cons y ys=>cases e
 |nil=>
  cases rw';unfold jl at e;dsimp only at e;split at e
  ·rename_i xs ex;split at e
   ·rename_i y ey;cases e;obtain⟨q1,p2,zs2,hp2,hH2,rs2⟩:=R.mut ex;rw[ha]at hp2;cases hp2;obtain⟨w,hw,rw2⟩:=qO rs2 ey;refine⟨a,zs2,w,rfl,rfl,hH2,by rw[<-Paired.length rs2];exact hw,k φ _ _ (.refl _) (R.set q1 ha (QI rs2)) rw2⟩
   ·cases e
  ·cases e
theorem E4:∀φ h H p ys ws v h' Q,Rl X.K G φ h H->rvs φ ys ws->jl .popAt p ys h=.ok (v,h')->(∀φ' H' w,Ext φ φ'->Rl X.K G φ' h' H'->rv φ' v w->Q w H')->∀a,φ[p]?=some a->L2.rPopAt (.ref a) ws H Q:=by
 intro φ h H p ys ws v h' Q R rw' e k a ha;unfold jl at e;split at e
 all_goals first|(rename_i z _ _;cases z;done)|(rename_i z _;cases z;done)|(rename_i z;cases z;done)|skip
 ·cases rw' with
  |cons r1 t=>
   cases t;cases qA r1;split at e
   ·rename_i xs ex;split at e
    ·rename_i hl;split at e
     ·rename_i j ej;split at e
      ·rename_i y ey;cases e;obtain⟨q1,p2,zs2,hp2,hH2,rs2⟩:=R.mut ex;rw[ha]at hp2;cases hp2;obtain⟨w,hw,rw2⟩:=qO rs2 ey;obtain⟨s1,s2,s3,s4⟩:=L2.ixN_seq ej;have:=jh;unfold lim at hl;refine⟨a,zs2,_,j,w,rfl,rfl,hH2,by omega,by omega,by rw[<-Paired.length rs2];exact s1,hw,k φ _ _ (.refl _) (R.set q1 ha (jr rs2 j)) rw2⟩
      ·cases e
     ·cases e
    ·cases e
   ·cases e
 ·cases e
theorem T7:∀φ h H p ys ws v h' Q,Rl X.K G φ h H->rvs φ ys ws->jl .rev p ys h=.ok (v,h')->(∀φ' H' w,Ext φ φ'->Rl X.K G φ' h' H'->rv φ' v w->Q w H')->∀a,φ[p]?=some a->L2.rReverse (.ref a) ws H Q:=by
 intro φ h H p ys ws v h' Q R rw' e k a ha;cases ys with
 |cons y ys=>cases e
 |nil=>
  cases rw';unfold jl at e;dsimp only at e;split at e
  ·rename_i xs ex;cases e;obtain⟨q1,p2,zs2,hp2,hH2,rs2⟩:=R.mut ex;rw[ha]at hp2;cases hp2;exact⟨a,zs2,rfl,rfl,hH2,k φ _ _ (.refl _) (R.set q1 ha (zt rs2)) trivial⟩
  ·cases e
theorem W9:∀φ h H p ys ws v h' Q,Rl X.K G φ h H->rvs φ ys ws->jl .clr p ys h=.ok (v,h')->(∀φ' H' w,Ext φ φ'->Rl X.K G φ' h' H'->rv φ' v w->Q w H')->∀a,φ[p]?=some a->L2.rClear (.ref a) ws H Q:=by
 intro φ h H p ys ws v h' Q R rw' e k a ha;cases ys with
 |cons y ys=>cases e
 |nil=>
  cases rw';unfold jl at e;dsimp only at e;split at e
  ·rename_i xs ex;cases e;obtain⟨q1,p2,zs2,hp2,hH2,rs2⟩:=R.mut ex;rw[ha]at hp2;cases hp2;exact⟨a,zs2,rfl,rfl,hH2,k φ _ _ (.refl _) (R.set q1 ha .nil) trivial⟩
  ·cases e
theorem U3{apos cpos:Pos}(hbase:attributeBase ea "pop" X.env (eval ea X.env)=eval ea X.env)(hline:(apos.endLine==cpos.line)=true)(hn:qV eb=true)(ha:SE X G F ea a)(hb:SE X G F eb b):
  SE X G F (.Call (.Attribute ea "pop" apos) [eb] [] cpos) (.meth .popAt a (.cons b .nil)):=
 qj (L2.pe_bm PySem.F.plainAttrs_list PySem.F.slot_list_pop PySem.F.type_list_pop L2.mt_popAt ha (O9 hn hb Y7) hbase (by rw[qE hn];rfl) hline (qE hn) rfl) λ_ _ _=>i6 E4
theorem z6{apos cpos:Pos}(hbase:attributeBase ea "pop" X.env (eval ea X.env)=eval ea X.env)(hline:(apos.endLine==cpos.line)=true)(ha:SE X G F ea a):SE X G F (.Call (.Attribute ea "pop" apos) [] [] cpos) (.meth .pop a .nil):=
 qj (L2.pe_bm0 PySem.F.plainAttrs_list PySem.F.slot_list_pop PySem.F.type_list_pop L2.mt_pop ha hbase hline) λ_ _ _=>ZB T1
theorem n9{apos cpos:Pos}(hbase:attributeBase ea "reverse" X.env (eval ea X.env)=eval ea X.env)(hline:(apos.endLine==cpos.line)=true)(ha:SE X G F ea a):SE X G F (.Call (.Attribute ea "reverse" apos) [] [] cpos) (.meth .rev a .nil):=
 qj (L2.pe_bm0 PySem.F.plainAttrs_list PySem.F.slot_list_reverse PySem.F.type_list_reverse L2.mt_reverse ha hbase hline) λ_ _ _=>ZB T7
theorem y7{apos cpos:Pos}(hbase:attributeBase ea "clear" X.env (eval ea X.env)=eval ea X.env)(hline:(apos.endLine==cpos.line)=true)(ha:SE X G F ea a):SE X G F (.Call (.Attribute ea "clear" apos) [] [] cpos) (.meth .clr a .nil):=
 qj (L2.pe_bm0 PySem.F.plainAttrs_list PySem.F.slot_list_clear PySem.F.type_list_clear L2.mt_clear ha hbase hline) λ_ _ _=>ZB W9
end
section
variable{X:Cx}{pins:List (Addr×Obj)}{σ:L2.St}{fa l I S:Addr}{is:List Int}{kf:Nat->Int}{J:Hp->Prop}
structure Own(X:Cx)(pins:List (Addr×Obj))(a:Addr):Prop where
 up:X.s₀.heap.objs.size<=a
 loc:a≠X.env.locals
 fs:a∉X.fs
 cel:∀x c,X.env.cells.lookup x=some c->c≠a
 pin:∀p∈X.pn++pins,p.1≠a
theorem zd{p q:Addr×Obj}{H:Hp}{s:Shared}(iv:Inv X (p::q::pins) σ H s):Inv X pins σ H s:=iv.pins_of λz hz=>iv.pin z (wF _ (List.mem_cons_of_mem _ (List.mem_cons_of_mem _ hz)))
theorem zY{H:Hp}{s:Shared}{h':Heap}{t':Nat}(iv:Inv X pins σ H s)(oI:Own X pins I)(oS:Own X pins S)(hI:H I=none)(hS:H S=none)(k:∀b o,b≠I->b≠S->s.heap.get? b=some o->h'.get? b=some o):Inv X pins σ H { s with heap:=h',toks:=t' }:=by
 have nit:∀b u,H b=some u->b≠I/\b≠S:=λb u e=>⟨λz=>(by rw[z,hI]at e;cases e),λz=>(by rw[z,hS]at e;cases e)⟩
 have nc:∀b,b∉[I,S]->b≠I/\b≠S:=λb hb=>⟨λz=>hb (by simp[z]),λz=>hb (by simp[z])⟩
 refine iv.step (g':=s.gens) (d':=s.drawn) (ch:=[I,S]) (λb hb=>?_) (λb o _ _ hc e _=>k b o (nc b hc).1 (nc b hc).2 e) (λb o _ _ hc e _=>⟨o.slots,k b o (nc b hc).1 (nc b hc).2 e⟩) (λ_ _ _ _ n=>n)
  (λb o hc e=>⟨o,k b o (nc b hc).1 (nc b hc).2 e⟩) (λ_ _ e=>e) (λ_ _ _ e=>e) (λb ps e=>⟨#[],by rw[e];simp⟩) (λm hm=>?_) (λb u e=>?_) iv.bare
 ·have:b=I\/b=S:=by simpa using hb
  rcases this with rfl|rfl
  ·exact⟨.inr oI.up,oI.loc,oI.cel,oI.pin⟩
  ·exact⟨.inr oS.up,oS.loc,oS.cel,oS.pin⟩
 ·obtain⟨o,es,ep,ho,r⟩:=hm;exact⟨o,es,ep,k _ o (Ne.symm oI.loc) (Ne.symm oS.loc) ho,r⟩
 ·refine(iv.hok b u e).stay (λc v hc q=>k c v ?_ ?_ q) (λ_ q=>q) λ_ _ q=>q
  ·rcases hc with z|z
   ·rw[z];exact(nit b u e).1
   ·exact(nit c _ z).1
  ·rcases hc with z|z
   ·rw[z];exact(nit b u e).2
   ·exact(nit c _ z).2
theorem zb{H:Hp}{s:Shared}{x y:Obj}(iv:Inv X pins σ H s)(oI:Own X pins I)(oS:Own X pins S)(hI:H I=none)(hS:H S=none)(eS:s.heap.get? S=some x)(eI:s.heap.get? I=some y)(dx:∀v,x.data≠.cell v)(dy:∀v,y.data≠.cell v):Inv X ((S,x)::(I,y)::pins) σ H s:=
 iv.pins_of λp hp=>by
  rcases List.mem_cons.mp hp with rfl|hp
  ·exact⟨eS,hS,oS.loc,oS.fs,dx⟩
  ·rcases List.mem_cons.mp hp with rfl|hp
   ·exact⟨eI,hI,oI.loc,oI.fs,dy⟩
   ·exact iv.pin p (wF _ hp)
theorem JD:∀{is:List Int}{its:List Value}{i:Nat}{v:Value},L2.Vals (is.map V.int) its->its[i]?=some v->∃n t,v=.int n t/\is[i]?=some n
 | [],_,i,v,.nil,e=>by simp at e
 |n::is,_,0,v,.cons r t,e=>by
  simp at e;subst e;obtain⟨t,rfl⟩:=r;exact⟨n,t,rfl,rfl⟩
 |n::is,_,i+1,v,.cons r t,e=>by
  obtain⟨m,u,a,b⟩:=JD (i:=i) t (by simpa using e);exact⟨m,u,a,by simpa using b⟩
theorem V2{R:Result->Shared->Prop}(hh:X.A.in1.handled=none)(hl:l≠I)(hSI:S≠I)(hlS:l≠S)(oI:Own X pins I)(oS:Own X pins S)
  (lst:∀(H:Hp) (s:Shared) (ps:List (Addr×Obj)),J H->Inv X ps σ H s->∃its:List Value,L2.Vals (is.map V.int) its/\s.heap.IsList l its.toArray)
  (key:∀(i:Nat) (n:Int) (tv:Tok) (ps:List (Addr×Obj)) (H:Hp) (s:Shared),is[i]?=some n->J H->Inv X ps σ H s->wpAny (model X.prog X.w) X.A.in1 (call (.ref fa) [.int n tv]) (λu s'=>∃t H',u=.int (kf i) t/\Inv X ps σ H' s'/\J H') (λ_ _=>False) s)
  (fin:∀n tv H s,is[qg kf (is.length-1)]?=some n->Inv X pins σ H s->J H->R (.ok (.ret (.int n tv))) s):
  ∀(r j:Nat) (s:Shared) (H:Hp) (ob:Obj) (nb:Int) (tn tb:Tok) (c:Nat),is.length-(j+1)=r->j+1<=is.length->Inv X ((S,seqObj "list" #[.int nb tn,.int (kf (qg kf j)) tb] c)::(I,ob)::pins) σ H s->J H->s.heap.IsListIter I l (j+1)->is[qg kf j]?=some nb ->
   codeAny (model X.prog X.w) X.A (.builtin "min.loop" { pos:=[.ref I,.ref fa,.ref S] }) R s:=by
 intro r
 induction r with
 |zero=>
  intro j s H ob nb tn tb c hr hj iv hJ it hb;obtain⟨its,vi,li⟩:=lst H s _ hJ iv;have il:is.length=its.length:=by have:=vi.length;simpa using this
  have hn:j+1=is.length:=by omega
  have pS:=iv.pin (S,seqObj "list" #[.int nb tn,.int (kf (qg kf j)) tb] c) (by simp);have pI:=iv.pin (I,ob) (by simp);refine codeAny_builtin F.entry_min_loop ?_;rw[Around.under_plainId F.plain_min_loop];refine wv (wpAny_seqItems (n:=c) pS.1 rfl ?_);refine wv (wpAny_tryCatch ((Walks.list hh I l hl its.toArray).done s _ _ ⟨?_,li⟩ λh' tk hk=>?_))
  ·rw[wB,<-il,<-hn];exact it
  ·refine wv (wpAny_updateSeq (n:=c) (hk S _ (by simpa using hSI) pS.1) rfl ?_ (by show 2<=sizeLine;decide) (by show 0<=sizeLine+1;omega));refine wv (wpAny_letGo ?_);refine wx ?_;refine fin nb tn H _ (by rw[<-hn];exact hb) (zY (s:=s) (zd iv) oI oS pI.2.1 pS.2.1 λb o b1 b2 e=>?_) hJ;rw[(Heap.SameBut.update _ _ _).2 b b2];exact hk b o (by simpa using b1) e
 |succ r ih=>
  intro j s H ob nb tn tb c hr hj iv hJ it hb;obtain⟨its,vi,li⟩:=lst H s _ hJ iv;have il:is.length=its.length:=by have:=vi.length;simpa using this
  have hn:j+1<is.length:=by omega
  have pS:=iv.pin (S,seqObj "list" #[.int nb tn,.int (kf (qg kf j)) tb] c) (by simp);have pI:=iv.pin (I,ob) (by simp);refine codeAny_builtin F.entry_min_loop ?_;rw[Around.under_plainId F.plain_min_loop];refine wv (wpAny_seqItems (n:=c) pS.1 rfl ?_);refine wv (wpAny_tryCatch ((Walks.list hh I l hl its.toArray).item (j+1) s _ _ (by rw[wB,<-il];exact hn) ⟨it,li⟩ λv h' tk hv ht hk=>?_));obtain⟨n,tv,rfl,hv2⟩:=JD vi (by simpa using hv);obtain⟨⟨ob',e1,e2,e3⟩,_⟩:=id ht;have gS:=hk S _ (by simpa using hSI) pS.1;have iv1:Inv X ((S,seqObj "list" #[.int nb tn,.int (kf (qg kf j)) tb] c)::(I,ob')::pins) σ H { s with heap:=h',toks:=tk }:=zb (zY (s:=s) (zd iv) oI oS pI.2.1 pS.2.1 λb o b1 _ e=>hk b o (by simpa using b1) e) oI oS pI.2.1 pS.2.1 gS e1 (λ_ z=>by cases z) (λ_ z=>by rw[e3]at z;cases z);refine wv (wpAny_tryCatch (wpAny_holding (wpAny_mono (key (j+1) n tv _ H _ hv2 hJ iv1) (λu s2 hu=>?_) λ_ _ z=>z.elim)));obtain⟨t,H2,rfl,iv2,hJ2⟩:=hu;have qS:=iv2.pin (S,seqObj "list" #[.int nb tn,.int (kf (qg kf j)) tb] c) (by simp);have qI:=iv2.pin (I,ob') (by simp);refine wv (wpAny_tryCatch (wpAny_holding (wv ?_)));refine CmpOf.ints_lt (P:=λi u=>∃t,u=.int (if i=0 then kf (j+1) else kf (qg kf j)) t) (λi=>if i=0 then kf (j+1) else kf (qg kf j)) (λ_ _ z=>z) 0 1 _ _ s2 _ _ ⟨t,rfl⟩ ⟨tb,rfl⟩ ?_;refine wv (wpAny_holding (vC ?_));refine wv (wpAny_letGo ?_);refine wx ?_;show wpAny _ _ (if decide (kf (j+1)<kf (qg kf j))=true then _ else _) _ _ _;by_cases hc:kf (j+1)<kf (qg kf j)
  ·rw[if_pos (wz hc)];have am:qg kf (j+1)=j+1:=by rw[qg,if_pos hc]
   refine wv (wpAny_updateSeq (n:=c) qS.1 rfl ?_ (by show 2<=sizeLine;decide) (by show 2<=sizeLine+1;decide));refine wv (wpAny_letGo ?_);refine wx ⟨plainId_quiet F.plain_min_loop _,?_⟩;have kp:∀b o,b≠S->s2.heap.get? b=some o->(s2.heap.update S (Obj.mapSeq λ_=>#[.int n tv,.int (kf (j+1)) t])).get? b=some o:=λb o hb e=>by rw[(Heap.SameBut.update _ _ _).2 b hb];exact e
   have gS':(s2.heap.update S (Obj.mapSeq λ_=>#[.int n tv,.int (kf (j+1)) t])).get? S=some (seqObj "list" #[.int n tv,.int (kf (qg kf (j+1))) t] c):=by
    rw[am];exact get?_update_seq qS.1 _
   have gI':=kp I _ (Ne.symm hSI) qI.1;refine ih (j+1) _ H2 ob' n tv t c (by omega) (by omega) (zb (zY (s:=s2) (zd iv2) oI oS qI.2.1 qS.2.1 λb o _ b2 e=>kp b o b2 e) oI oS qI.2.1 qS.2.1 gS' gI' (λ_ z=>by cases z) (λ_ z=>by rw[e3]at z;cases z)) hJ2 ⟨ob',gI',e2,e3⟩ (by rw[am];exact hv2)
  ·rw[if_neg (by simpa using hc)];have am:qg kf (j+1)=qg kf j:=by rw[qg,if_neg hc]
   refine wv (wpAny_letGo ?_);refine wx ⟨plainId_quiet F.plain_min_loop _,?_⟩;exact ih (j+1) _ H2 ob' nb tn tb c (by omega) (by omega) (by rw[am];exact iv2) hJ2 ⟨ob',qI.1,e2,e3⟩ (by rw[am];exact hb)
theorem ZP{x y n:Nat}(h1:x<n)(h2:n<=y):x≠y:=by omega
theorem j5{Q:Value->Shared->Prop}{E:Value->Shared->Prop}{s:Shared}{H:Hp}(hh:X.A.in1.handled=none)(iv:Inv X pins σ H s)(hJ:J H)(hne:0<is.length)
  (lst:∀(H:Hp) (s:Shared) (ps:List (Addr×Obj)),J H->Inv X ps σ H s->∃its:List Value,L2.Vals (is.map V.int) its/\s.heap.IsList l its.toArray)
  (key:∀(i:Nat) (n:Int) (tv:Tok) (ps:List (Addr×Obj)) (H:Hp) (s:Shared),is[i]?=some n->J H->Inv X ps σ H s->wpAny (model X.prog X.w) X.A.in1 (call (.ref fa) [.int n tv]) (λu s'=>∃t H',u=.int (kf i) t/\Inv X ps σ H' s'/\J H') (λ_ _=>False) s)
  (fin:∀n tv H s,is[qg kf (is.length-1)]?=some n->Inv X pins σ H s->J H->Q (.int n tv) s):
  wpAny (model X.prog X.w) X.A (call (.builtin "min") [.ref l] [("key",.ref fa)]) Q E s:=by
 refine kmk_tree F.kind_min F.plain_min F.entry_min (kmk_min_key _ _) ?_;obtain⟨_,_,hl⟩:=lst H s _ hJ iv;refine wv (wx ?_);refine wv (wx ?_);refine wv (wpAny_pyIter_list hl ?_);refine wv (wpAny_newList (items:=[]) ?_ (by decide));obtain⟨I,hI⟩:∃I,I=s.heap.objs.size:=⟨_,rfl⟩
 obtain⟨h1,hh1⟩:∃h1,h1=s.heap.push { cls:=Value.type "list_iterator",data:=Data.fields #[Value.ref l,Value.int 0 0] }:=⟨_,rfl⟩
 rw[<-hh1,<-hI];obtain⟨S,hS⟩:∃S,S=h1.objs.size:=⟨_,rfl⟩
 obtain⟨h2,hh2⟩:∃h2,h2=h1.push { cls:=Value.type "list",data:=Data.seq (([]:List Value).toArray) }:=⟨_,rfl⟩
 show wpAny _ _ (again (Code.builtin "min.loop" { pos:=[.ref I,.ref fa,.ref h1.objs.size],kw:=[] })) _ _ { s with heap:=h1.push { cls:=Value.type "list",data:=Data.seq (([]:List Value).toArray) } };rw[<-hS,<-hh2];refine wx ⟨plainId_quiet F.plain_min_loop _,?_⟩;have hSI:S=I+1:=by rw[hS,hh1,Heap.size_push,hI]
 have k12:∀b o,s.heap.get? b=some o->h2.get? b=some o:=λb o e=>by rw[hh2];exact Heap.get?_push_of_some _ (by rw[hh1];exact Heap.get?_push_of_some _ e)
 have gI:h2.get? I=some { cls:=Value.type "list_iterator",data:=Data.fields #[Value.ref l,Value.int 0 0] }:=by rw[hh2];exact Heap.get?_push_of_some _ (by rw[hh1,hI];exact Heap.get?_push_size _ rfl)
 have gS:h2.get? S=some (seqObj "list" #[] 0):=by rw[hh2,hS];exact Heap.get?_push_size _ rfl
 have uI:s.heap.objs.size<=I:=Nat.le_of_eq hI.symm;have uS:s.heap.objs.size<=S:=by rw[hSI];exact Nat.le_succ_of_le uI
 have own:∀a,s.heap.objs.size<=a->Own X pins a:=λa ha=>by
  exact⟨Nat.le_trans iv.sz ha,(ZP iv.lt ha).symm,iv.nofs ha,λx c e=>by
   obtain⟨v,o,ho,_⟩:=iv.cell x c e;exact ZP (Heap.lt_size ho) ha,λp hp=>ZP (Heap.lt_size (iv.pin p hp).1) ha⟩
 have oI:=own I uI;have oS:=own S uS;have nI:H I=none:=iv.hok.fresh uI;have nS:H S=none:=iv.hok.fresh uS;have lI:l≠I:=by
  obtain⟨o,ho,_⟩:=hl;exact ZP (Heap.lt_size ho) (Nat.le_of_eq hI.symm)
 have lS:l≠S:=by
  obtain⟨o,ho,_⟩:=hl;exact ZP (Heap.lt_size ho) uS
 have SI:S≠I:=by rw[hSI];exact Nat.succ_ne_self I
 have iv0:Inv X ((S,seqObj "list" #[] 0)::(I,{ cls:=Value.type "list_iterator",data:=Data.fields #[Value.ref l,Value.int 0 0] })::pins) σ H { s with heap:=h2 }:=zb (iv.kept k12) oI oS nI nS gS gI (λ_ z=>by cases z) (λ_ z=>by cases z);have pS:=iv0.pin (S,seqObj "list" #[] 0) (by simp);refine codeAny_builtin F.entry_min_loop ?_;rw[Around.under_plainId F.plain_min_loop];refine wv (wpAny_seqItems (n:=0) pS.1 rfl ?_);obtain⟨its,vi,li⟩:=lst H _ _ hJ iv0;have il:is.length=its.length:=by have:=vi.length;simpa using this
 refine wv (wpAny_tryCatch ((Walks.list hh I l lI its.toArray).item 0 _ _ _ (by rw[wB,<-il];exact hne) ⟨⟨_,gI,rfl,rfl⟩,li⟩ λv h' tk hv ht hk=>?_));obtain⟨n,tv,rfl,hv2⟩:=JD vi (by simpa using hv);obtain⟨⟨ob',e1,e2,e3⟩,_⟩:=id ht;have gS1:=hk S _ (by simpa using SI) pS.1;have iv1:Inv X ((S,seqObj "list" #[] 0)::(I,ob')::pins) σ H { s with heap:=h',toks:=tk }:=zb (zY (s:={ s with heap:=h2 }) (zd iv0) oI oS nI nS λb o b1 _ e=>hk b o (by simpa using b1) e) oI oS nI nS gS1 e1 (λ_ z=>by cases z) (λ_ z=>by rw[e3]at z;cases z);refine wv (wpAny_tryCatch (wpAny_holding (wpAny_mono (key 0 n tv _ H _ hv2 hJ iv1) (λu s2 hu=>?_) λ_ _ z=>z.elim)));obtain⟨t,H2,rfl,iv2,hJ2⟩:=hu;have qS:=iv2.pin (S,seqObj "list" #[] 0) (by simp);have qI:=iv2.pin (I,ob') (by simp);refine wv (wpAny_updateSeq (n:=0) qS.1 rfl ?_ (by show 0<=sizeLine;omega) (by show 2<=sizeLine+1;decide));refine wx ⟨plainId_quiet F.plain_min_loop _,?_⟩;have kp:∀b o,b≠S->s2.heap.get? b=some o->(s2.heap.update S (Obj.mapSeq λ_=>#[.int n tv,.int (kf 0) t])).get? b=some o:=λb o hb e=>by rw[(Heap.SameBut.update _ _ _).2 b hb];exact e
 have gS':(s2.heap.update S (Obj.mapSeq λ_=>#[.int n tv,.int (kf 0) t])).get? S=some (seqObj "list" #[.int n tv,.int (kf (qg kf 0)) t] 1):=get?_update_seq qS.1 _;have gI':=kp I _ (Ne.symm SI) qI.1;exact V2 (R:=λr s'=>match r with | .ok (.ret v)=>Q v s' | .ok _=>False | .error e=>E e s') hh lI SI lS oI oS lst key fin (is.length-1) 0 _ H2 ob' n tv t 1 (by omega) (by omega) (zb (zY (s:=s2) (zd iv2) oI oS qI.2.1 qS.2.1 λb o _ b2 e=>kp b o b2 e) oI oS qI.2.1 qS.2.1 gS' gI' (λ_ z=>by cases z) (λ_ z=>by rw[e3]at z;cases z)) hJ2 ⟨ob',gI',e2,e3⟩ hv2
end
theorem j9{φ:List Addr}{v w w':V}(a:rv φ v w)(b:rv φ v w'):w=w':=by
 cases v with
 |ref i=>
  obtain⟨x,rfl,e1⟩:=qH a;obtain⟨y,rfl,e2⟩:=qH b;rw[e1]at e2;cases e2;rfl
 |int i=>rw[qA a,qA b]
 |bl i=>rw[zA a,zA b]
 |str i=>rw[zJ a,zJ b]
 |non=>rw[qx a,qx b]
 |_=>cases w<;>cases a
theorem zo{φ:List Addr}:∀{vs ws ws':List V},rvs φ vs ws->rvs φ vs ws'->ws=ws'
 |_,_,_,.nil,.nil=>rfl
 |_,_,_,.cons a r,.cons b s=>by rw[j9 a b,zo r s]
theorem Rl.pre{K:PySem.W.Frag}{G φ φ':List Addr}{h h2:AH}{H0 H1:Hp}(R0:Rl K G φ h H0)(R1:Rl K G φ' h2 H1)(x:Ext φ φ')(ht:h2.take h.length=h):Rl K G φ h H1:=by
 have up:∀{i:Nat}{o:O},h[i]?=some o->h2[i]?=some o:=λ{i o} e=>by
  have hi:=(List.getElem?_eq_some_iff.mp e).1;rw[<-ht,wM hi]at e;exact e
 refine⟨R0.len,R0.glob,λi o a e ea=>?_,λi j u y a m1 m2 e1 e2 e3 e4=>R1.inj i j u y a m1 m2 (up e1) (up e2) (x.get e3) (x.get e4)⟩;have r1:=R1.obj i o a (up e) (x.get ea);have r0:=R0.obj i o a e ea
 match o,r0,r1 with
 | .lst false xs,⟨ys,_,p⟩,⟨ys',e',p'⟩=>rw[zo p' (rvs.mono x p)]at e';exact⟨ys,e',p⟩
 | .lst true xs,⟨ys,_,p⟩,⟨ys',e',p'⟩=>rw[zo p' (rvs.mono x p)]at e';exact⟨ys,e',p⟩
 | .tup xs,⟨ys,_,p⟩,⟨ys',e',p'⟩=>rw[zo p' (rvs.mono x p)]at e';exact⟨ys,e',p⟩
 | .ob (.dct _),_,e'=>exact e'
 | .ob (.exn _),_,e'=>exact e'
theorem M8{g:Int->Option Int}:∀{is ks:List Int},is.mapM g=some ks->ks.length=is.length/\∀(i:Nat) n,is[i]?=some n->g n=some (ks.getD i 0)
 | [],ks,e=>by cases e;exact⟨rfl,λi n z=>by simp at z⟩
 |m::is,ks,e=>by
  rw[wm]at e;cases h1:g m with
  |none=>rw[h1]at e;cases e
  |some k=>
   rw[h1]at e;cases h2:is.mapM g with
   |none=>rw[h2]at e;cases e
   |some ks2=>
    rw[h2]at e;cases e;obtain⟨l,q⟩:=M8 h2;refine⟨by show ks2.length+1=is.length+1;rw[l],λi n z=>?_⟩;cases i with
    |zero=>simp at z;subst z;exact h1
    |succ i=>exact q i n (by simpa using z)
section
variable{X:Cx}{G:List Addr}{F:Nat->List V->AH->RV}{ea:Expr}{a:E}{pos:Pos}
theorem M7{f:Nat}{g:Str}{p q kp:Pos}(hf:FnS X G F f g)(hg:L2.Gl X g)(hd:(g==("__debug__":Str))=false)(hm:L2.Gl X "min")(hmm:X.mg "min"=none)(hn:qV ea=true)(hc:X.calm=true)(ha:SE X G F ea a):
  SE X G F (.Call (.Name "min" p) [ea] [⟨some "key",.Name g q,kp⟩] pos) (.mink f a):=by
 intro pins s σc H Q I hq;obtain⟨φ,h,σ,v,h',R,rs,e,k⟩:=hq;unfold ev at e;obtain⟨⟨x,h1⟩,e1,e2⟩:=Res.bind_inv e;clear e;obtain⟨p0,rfl,e3⟩:=zS e2;clear e2;split at e3
 ·rename_i xs exs;split at e3
  ·rename_i is eis;split at e3
   ·rename_i w ew;cases e3;obtain⟨ks,em,ei⟩:=Option.bind_eq_some_iff.mp ew;obtain⟨lk,qk⟩:=M8 em;obtain⟨kk,fa,fd,ps0,F1,F2,F3,F4,F5,F6⟩:=hf.ex;refine wpAny_Call_Name_kw (L2.ld_blt I hm hmm boot_min ?_ (by decide) (by decide));refine callWith_kw (L2.thn (L2.pa_cons ha L2.pa_nil (qE hn) pos pins s σc H (λvs H1=>∃φ1 a1,vs=[.ref a1]/\Ext φ φ1/\Rl X.K G φ1 h' H1/\φ1[p0]?=some a1) I ⟨φ,h,σ,_,h',R,rs,e1,λφ1 H1 u x1 R1 r1=>?_⟩) λus s1 hu=>?_) ?_ ?_ ?_ ?_
    ·obtain⟨a1,rfl,ea1⟩:=qH r1;exact⟨φ1,a1,rfl,x1,R1,ea1⟩
    ·obtain⟨vs,H1,I1,r1,φ1,a1,rfl,x1,R1,ea1⟩:=hu;obtain⟨u,rfl,ru⟩:=L2.vals1 r1;cases ru;refine wv (wv (L2.ld_glob I1 hg F3 ?_ hd));refine wv (wpAny_standAt (wx ?_));refine wv (wpAny_holding (wx ?_));refine wx ?_;show wpAny _ _ (call (.builtin "min") [.ref a1] [("key",.ref fa)]) _ _ _;obtain⟨a2,ys,ea2,hs,rl⟩:=R1.lst exs;rw[ea1]at ea2;cases ea2;have hx:=zR eis;have hys:ys=is.map V.int:=by
      rw[hx]at rl;exact zo rl (QC (by simp[flat]))
     subst hys;refine j5 (is:=is) (kf:=λi=>ks.getD i 0) (J:=λH=>Rl X.K G φ1 h' H) F6.hd I1 R1 ?_ (λH2 s2 ps R2 I2=>?_) (λi n tv ps H2 s2 hi R2 I2=>?_) (λn tv H2 s2 hn2 I2 R2=>?_)
     ·cases is with
      |nil=>simp[qg]at ei
      |cons=>simp
     ·obtain⟨a3,zs,ea3,hs3,rl3⟩:=R2.lst exs;rw[ea1]at ea3;cases ea3;obtain⟨its,v1,⟨o,n,o1,o2,_,o4⟩,_⟩:=I2.list hs3;refine⟨its,?_,o,o1,o2,n,o4⟩;rw[zo rl rl3];exact v1
     ·have hk:=qk i n hi;have:∃h2,F f [.int n] h'=.ok (.int (ks.getD i 0),h2)/\h2.take h'.length=h':=by
       unfold U0 at hk;split at hk
       ·rename_i pr epr;obtain⟨v2,h2⟩:=pr;dsimp only at hk;split at hk
        ·split at hk
         ·rename_i hh;cases hk;exact⟨h2,epr,hh⟩
         ·cases hk
        ·cases hk
       ·cases hk
      obtain⟨h2,eF,hpre⟩:=this;have hsp:spF G F X.K f ([.int n]++[]) H2 (λw H3=>w=.int (ks.getD i 0)/\Rl X.K G φ1 h' H3) L2.E0:=⟨φ1,h',[.int n],.int (ks.getD i 0),h2,R2,.cons rfl .nil,eF,λφ3 H3 w3 x3 R3 r3=>⟨qA r3,R2.pre R3 x3 hpre⟩⟩
      have r2:L2.Vals ([.int n]++[]) ([Value.int n tv]++[]):=.cons ⟨tv,rfl⟩ .nil;have hl:([Value.int n tv]++([]:List Value)).length=ps0.length:=by rw[<-r2.length];exact F1.len _ _ _ _ hsp
      refine wpAny_call (codeAny_mono (F1.run X.A.in1 X.stack s2 H2 ⟨[.int n tv],[]⟩ [.int n tv] [.int n] _ _ F6 I2.env0.in1 (F5 s2 [.int n tv] I2.kIn hl) r2 hsp) λr s' hq=>?_);cases r with
      |error e=>exact False.elim hq
      |ok fl=>
       cases fl with
       |ret u=>
        obtain⟨v3,H3,I3,r3,rfl,R3⟩:=I2.after hq;obtain⟨t3,rfl⟩:=r3;exact⟨t3,H3,rfl,I3,R3⟩
       |next=>exact False.elim hq
       |brk=>exact False.elim hq
       |cont=>exact False.elim hq
     ·have:w=n:=by
       rw[hn2]at ei;exact(Option.some.inj ei).symm
      subst this;exact⟨.int w,H2,I2,⟨tv,rfl⟩,k φ1 H2 _ x1 R2 rfl⟩
    ·show backTo pos (starEach [ea] X.env)=(false,eval ea X.env)::backTo pos (starEach [] X.env);rw[qE hn];rfl
    ·rw[qE hn];rfl
    ·rfl
    ·rfl
   ·cases e3
  ·cases e3
 ·cases e3
end
theorem jy{α:Type}(x:Int×α):∀l,(E6 x l).Perm (x::l)
 | []=>.refl _
 |y::r=>by
  unfold E6;split
  ·exact .refl _
  ·exact((jy x r).cons y).trans (.swap x y r)
theorem jF{α:Type}:∀l:List (Int×α),(S5 l).Perm l
 | []=>.refl _
 |x::r=>(jy x _).trans ((jF r).cons x)
theorem P1{α:Type}(x:Int×α):∀l:List (Int×α),l.Pairwise (λa b=>a.1<=b.1)->(E6 x l).Pairwise (λa b=>a.1<=b.1)
 | [],_=>List.pairwise_singleton _ _
 |y::r,h=>by
  obtain⟨h1,h2⟩:=wY.mp h;unfold E6;split
  ·rename_i q;refine wY.mpr ⟨λz hz=>?_,h⟩;rcases List.mem_cons.mp hz with rfl|hz
   ·exact q
   ·exact Int.le_trans q (h1 z hz)
  ·rename_i q;refine wY.mpr ⟨λz hz=>?_,P1 x r h2⟩;rcases List.mem_cons.mp ((jy x r).mem_iff.mp hz) with rfl|hz
   ·omega
   ·exact h1 z hz
theorem L8{α:Type}:∀l:List (Int×α),(S5 l).Pairwise (λa b=>a.1<=b.1)
 | []=>.nil
 |x::r=>P1 x _ (L8 r)
theorem G6{α:Type}:∀{a b:List (Int×α)},a.Pairwise (λp q=>p.1<=q.1)->b.Pairwise (λp q=>p.1<=q.1)->a.Perm b->(a.map (·.1)).Nodup->a=b
 | [],b,_,_,p,_=>(List.Perm.eq_nil p.symm).symm
 |x::a,[],_,_,p,_=>absurd p.length_eq (by simp)
 |x::a,y::b,ha,hb,p,hn=>by
  obtain⟨a1,a2⟩:=wY.mp ha;obtain⟨b1,b2⟩:=wY.mp hb;rw[List.map_cons]at hn;obtain⟨n1,n2⟩:=List.nodup_cons.mp hn;have e:x=y:=by
   have m1:x∈y::b:=p.mem_iff.mp (List.mem_cons_self ..);have m2:y∈x::a:=p.mem_iff.mpr (List.mem_cons_self ..);rcases List.mem_cons.mp m1 with h|h
   ·exact h
   ·rcases List.mem_cons.mp m2 with h' | h'
    ·exact h'.symm
    ·have q1:=a1 y h';have q2:=b1 x h;exact absurd (wn.mpr ⟨y,h',by omega⟩) n1
  subst e;rw[G6 a2 b2 (List.Perm.cons_inv p) n2]
theorem U8{α β:Type}{f:α->β}{ps qs:List β}(p:ps.Perm qs):∀l:List α,qs=l.map f->∃l':List α,ps=l'.map f/\l'.Perm l:=by
 induction p with
 |nil=>intro l e;cases l with|nil=>exact⟨[],rfl,.refl _⟩|cons=>cases e
 |cons x _ ih=>
  intro l e;cases l with
  |nil=>cases e
  |cons a l=>
   rw[List.map_cons]at e;cases e;obtain⟨l',e1,e2⟩:=ih l rfl;exact⟨a::l',by rw[List.map_cons,e1],e2.cons a⟩
 |swap x y r=>
  intro l e;cases l with
  |nil=>cases e
  |cons a l=>
   cases l with
   |nil=>cases e
   |cons b l=>
    rw[List.map_cons,List.map_cons]at e;cases e;exact⟨b::a::l,rfl,.swap ..⟩
 |trans _ _ ih1 ih2=>
  intro l e;obtain⟨l1,e1,e2⟩:=ih2 l e;obtain⟨l2,e3,e4⟩:=ih1 l1 e1;exact⟨l2,e3,e4.trans e2⟩
theorem C1{α β:Type}:∀(ks:List Int) (xs:List α) (vs:List β),xs.length=vs.length->ks.length=vs.length->∃l:List (Int×α×β),l.map (λt=>(t.1,t.2.2))=ks.zip vs/\l.map (λt=>(t.1,t.2.1))=ks.zip xs/\l.map (·.2.1)=xs/\l.map (·.2.2)=vs
 | [],[],[],_,_=>⟨[],rfl,rfl,rfl,rfl⟩
 | [],_::_,[],h,_=>by cases h
 |_,[],_::_,h,_=>by cases h
 | [],_,_::_,_,h=>by cases h
 |_::_,_,[],_,h=>by cases h
 |k::ks,x::xs,v::vs,h1,h2=>by
  obtain⟨l,e1,e2,e3,e4⟩:=C1 ks xs vs (by simpa using h1) (by simpa using h2);exact⟨(k,x,v)::l,by rw[List.map_cons,e1];rfl,by rw[List.map_cons,e2];rfl,by rw[List.map_cons,e3],by rw[List.map_cons,e4]⟩
theorem jf{α:Type}:∀(ks:List Int) (xs:List α),ks.length=xs.length->(ks.zip xs).map (·.1)=ks
 | [],_,_=>rfl
 |_::_,[],h=>by cases h
 |k::ks,x::xs,h=>by rw[List.zip_cons_cons,List.map_cons,jf ks xs (by simpa using h)]
theorem jz:∀{l:List (Int×V×Value)},(∀t∈l,RelV t.2.1 t.2.2)->Vals (l.map (·.2.1)) (l.map (·.2.2))
 | [],_=>.nil
 |t::l,h=>.cons (h t (by simp)) (jz λu hu=>h u (by simp[hu]))
theorem Jy:∀{l:List (Int×V×Value)},Vals (l.map (·.2.1)) (l.map (·.2.2))->∀t∈l,RelV t.2.1 t.2.2
 | [],_,t,ht=>by simp at ht
 |u::l,.cons r rr,t,ht=>by
  rcases List.mem_cons.mp ht with rfl|ht
  ·exact r
  ·exact Jy rr t ht
theorem V6{kz:List Int}{xs:List V}{vs out:List Value}(h:KskOut false kz vs out)(hv:Vals xs vs)(hl:kz.length=vs.length)(hn:kz.Nodup):Vals (Jc kz xs) out:=by
 obtain⟨ps,hp,ho,hs⟩:=h;obtain⟨l,e1,e2,e3,e4⟩:=C1 kz xs vs hv.length hl;rw[<-e1]at hp;obtain⟨l',e5,e6⟩:=U8 hp l rfl;have s1:(l'.map λt=>(t.1,t.2.1))=S5 (kz.zip xs):=by
  refine G6 ?_ (L8 _) (by rw[<-e2];exact(e6.map _).trans (by rw[e2];exact(jF _).symm)) ?_
  ·rw[e5,wd]at hs;rw[wd];exact hs.imp λh=>by simpa using h
  ·have p1:((l'.map λt=>(t.1,t.2.1)).map (·.1)).Perm kz:=by
    have:=(e6.map (λt:Int×V×Value=>(t.1,t.2.1))).map (·.1);rw[e2,jf kz xs (by rw[hl];exact hv.length.symm)]at this;exact this
   exact p1.nodup_iff.mpr hn
 have hm:∀t∈l',RelV t.2.1 t.2.2:=λt ht=>Jy (by rw[e3,e4];exact hv) t (e6.mem_iff.mp ht);unfold Jc;rw[<-s1,wc,ho,e5,wc];exact jz hm
section
variable{X:Cx}{pins:List (Addr×Obj)}{σ:L2.St}{H:Hp}
noncomputable def QU(h:Heap)(L:Addr):List (Addr×Obj):=(List.range h.objs.size).filterMap λb=>if b=L then none else (h.get? b).map λo=>(b,o)
theorem jT{h:Heap}{L b:Addr}{o:Obj}(e:h.get? b=some o)(hb:b≠L):(b,o)∈QU h L:=by
 unfold QU;rw[wp];exact⟨b,wl.mpr (Heap.lt_size e),by rw[if_neg hb,e];rfl⟩
theorem Za{h:Heap}{L:Addr}{p:Addr×Obj}(m:p∈QU h L):h.get? p.1=some p.2/\p.1≠L:=by
 unfold QU at m;rw[wp]at m;obtain⟨b,_,e⟩:=m;split at e
 ·cases e
 ·rename_i hb;obtain⟨o,e1,e2⟩:=Option.map_eq_some_iff.mp e;cases e2;exact⟨e1,hb⟩
theorem qAU{h:Heap}{a:Addr}{m m':Str->Option Value}(x:h.Ns a m)(y:h.Ns a m'):m'=m:=by
 obtain⟨o,es,ep,e1,e2,_,e4⟩:=x;obtain⟨o',es',ep',f1,f2,_,f4⟩:=y;rw[e1]at f1;cases f1;rw[e2]at f2;cases f2
 funext z
 rw[<-e4,<-f4]
theorem S7{P:Program}{w:World}{H:Hp}{h:Heap}{a:Addr}{o:HO}(x:L2.ObjOk P w H h a o):∃u,h.get? a=some u:=by
 cases o with
 |lst xs=>obtain⟨_,_,_,_,e⟩:=x;exact⟨_,e⟩
 |tup xs=>obtain⟨_,_,_,ob,e,_⟩:=x;exact⟨_,e⟩
 |dK kvs=>obtain⟨_,_,_,_,o,_,_,e,_⟩:=x;exact⟨_,e⟩
 |dT kvs=>obtain⟨_,_,_,_,o,_,_,e,_⟩:=x;exact⟨_,e⟩
 |set S n=>obtain⟨o,_,_,_,e,_⟩:=x;exact⟨_,e⟩
 |ins C dx fs=>obtain⟨_,_,_,e,_⟩:=x;exact⟨_,e⟩
 |own y=>obtain⟨_,e⟩:=x;exact⟨_,e⟩
 |xd fs=>obtain⟨_,⟨_,_,_,e,_⟩,_⟩:=x;exact⟨_,e⟩
 |rng lo hi=>obtain⟨_,_,_,e⟩:=x;exact⟨_,e⟩
 |frz ob u=>obtain⟨e,_⟩:=x;exact⟨_,e⟩
 |tbl ps=>exact⟨_,show h.get? a=some _ from x⟩
 |met f y=>exact⟨_,show h.get? a=some _ from x⟩
 |ext φ=>obtain⟨_,⟨_,e⟩,_⟩:=x;exact⟨_,e⟩
theorem l6{s:Shared}{h':Heap}{t':Nat}{m:Str->Option Value}{D:Addr}{o:HO}(I:Inv X pins σ H s)(hn:s.heap.Ns X.env.locals m)(hn':h'.Ns X.env.locals m)(k:∀b u,b≠X.env.locals->s.heap.get? b=some u->h'.get? b=some u)
  (hD:s.heap.get? D=none) (hDL:D≠X.env.locals) (new:L2.ObjOk X.prog X.w (upd H D o) h' D o):H D=none/\Inv X pins σ (upd H D o) { s with heap:=h',toks:=t' }:=by
 have hf:H D=none:=by
  cases q:H D with
  |none=>rfl
  |some u=>
   obtain⟨w,hw⟩:=S7 (I.hok D u q);rw[hD]at hw;cases hw
 have ne:∀b u,H b=some u->b≠D:=λb u e z=>by rw[z,hf]at e;cases e
 have neL:∀b u,H b=some u->b≠X.env.locals:=λb u e z=>by rw[z,I.free]at e;cases e
 refine⟨hf,I.step (g':=s.gens) (d':=s.drawn) (ch:=[]) (λb hb=>nomatch hb) (λb u hb _ _ e _=>k b u hb e) (λb u hb _ _ e _=>⟨u.slots,k b u hb e⟩) (λb u _ e q=>?_) (λb u _ e=>?_) (λb xs e=>?_) (λb u v e=>?_) (λb ps e=>⟨#[],?_⟩) (λm' hm'=>by rw[qAU hn hm'];exact hn') (λb u e=>?_) I.bare⟩
 ·rw[qC (λz=>by rw[z,hD]at e;cases e)];exact q
 ·by_cases hb:b=X.env.locals
  ·obtain⟨u',_,_,e1,_⟩:=hn';exact⟨u',by rw[hb];exact e1⟩
  ·exact⟨u,k b u hb e⟩
 ·rw[qC (ne _ _ e)];exact e
 ·rw[qC (ne _ _ e)];exact e
 ·rw[qC (ne _ _ e),e];simp
 ·by_cases hb:b=D
  ·subst hb;rw[qB]at e;cases e;exact new
  ·rw[qC hb]at e;refine(I.hok b u e).stay (λc v hc q=>k c v ?_ q) (λc q=>by rw[qC (ne _ _ q)];exact q) λc xs q=>by rw[qC (ne _ _ q)];exact q
   rcases hc with rfl|z
   ·exact neL _ _ e
   ·exact neL _ _ z
theorem N0{h:AH}:∀{xs:List V}{ks:List Int},xs.mapM (qAA h)=some ks->ks.length=xs.length/\∀(i:Nat) v,xs[i]?=some v->∃q ys is k,v=.ref q/\qU h q=some ys/\zK ys=some is/\R8 is=some k/\ks[i]?=some k
 | [],ks,e=>by cases e;exact⟨rfl,λi v z=>by simp at z⟩
 |x::xs,ks,e=>by
  rw[wm]at e;cases h1:qAA h x with
  |none=>rw[h1]at e;cases e
  |some k=>
   rw[h1]at e;cases h2:xs.mapM (qAA h) with
   |none=>rw[h2]at e;cases e
   |some ks2=>
    rw[h2]at e;cases e;obtain⟨l,q⟩:=N0 h2;refine⟨by show ks2.length+1=xs.length+1;rw[l],λi v z=>?_⟩;cases i with
    |zero=>
     simp at z;subst z;cases x with
     |ref p=>
      obtain⟨ys,e1,e2⟩:=Option.bind_eq_some_iff.mp (show (qU h p).bind _=some k from h1);obtain⟨is,e3,e4⟩:=Option.bind_eq_some_iff.mp e2;exact⟨p,ys,is,k,rfl,e1,e3,e4,rfl⟩
     |_=>cases h1
    |succ i=>
     obtain⟨p,ys,is,k',a1,a2,a3,a4,a5⟩:=q i v (by simpa using z);exact⟨p,ys,is,k',a1,a2,a3,a4,by simpa using a5⟩
theorem Ja{φ:List Addr}{x y:Int×V}(h:x.1=y.1/\rv φ x.2 y.2):∀{l m:List (Int×V)},Paired (λa b=>a.1=b.1/\rv φ a.2 b.2) l m->Paired (λa b=>a.1=b.1/\rv φ a.2 b.2) (E6 x l) (E6 y m)
 | [],_,.nil=>.cons h .nil
 |a::l,_,.cons (b:=b) q r=>by
  unfold E6;rw[h.1,q.1];split
  ·exact .cons h (.cons q r)
  ·exact .cons q (Ja h r)
theorem A9{φ:List Addr}:∀(ks:List Int){l m:List V},rvs φ l m->Paired (λa b=>a.1=b.1/\rv φ a.2 b.2) (S5 (ks.zip l)) (S5 (ks.zip m))
 | [],l,m,_=>by rw[wq,wq];exact .nil
 |k::ks,[],_,.nil=>.nil
 |k::ks,a::l,b::m,.cons q r=>by
  rw[List.zip_cons_cons,List.zip_cons_cons];exact Ja (x:=(k,a)) (y:=(k,b)) ⟨rfl,q⟩ (A9 ks r)
theorem N8{φ:List Addr}:∀{l m:List (Int×V)},Paired (λa b=>a.1=b.1/\rv φ a.2 b.2) l m->rvs φ (l.map (·.2)) (m.map (·.2))
 |_,_,.nil=>.nil
 |_,_,.cons q r=>.cons q.2 (N8 r)
theorem X3{φ:List Addr}(ks:List Int){l m:List V}(r:rvs φ l m):rvs φ (Jc ks l) (Jc ks m):=N8 (A9 ks r)
theorem W4{α:Type}(ks:List Int)(xs:List α)(h:ks.length=xs.length):(Jc ks xs).length=xs.length:=by
 unfold Jc;rw[wG,(jF _).length_eq,List.length_zip,h,Nat.min_self]
end
noncomputable def emp:Heap:={ objs:=#[] }
theorem J2(b:Addr):emp.get? b=none:=by simp[emp,Heap.get?]
section
variable{X:Cx}{G:List Addr}{F:Nat->List V->AH->RV}{ea:Expr}{a:E}{pos:Pos}
theorem Q0{p q kp:Pos}(hm:L2.Gl X "sorted")(hmm:X.mg "sorted"=none)(hg:L2.Gl X "max")(hgm:X.mg "max"=none)(hn:qV ea=true)(hc:X.calm=true)(ha:SE X G F ea a):
  SE X G F (.Call (.Name "sorted" p) [ea] [⟨some "key",.Name "max" q,kp⟩] pos) (.srtm a):=by
 intro pins s σc H Q I hq;obtain⟨φ,h,σ,v,h',R,rs,e,k⟩:=hq;unfold ev at e;obtain⟨⟨x,h1⟩,e1,e2⟩:=Res.bind_inv e;clear e;obtain⟨p0,rfl,e3⟩:=zS e2;clear e2;split at e3
 ·rename_i xs exs;split at e3
  ·rename_i ks eks;split at e3
   ·rename_i hk;cases e3;obtain⟨lk,qk⟩:=N0 eks;refine wpAny_Call_Name_kw (L2.ld_blt I hm hmm PyProof.Rows.boot_sorted ?_ (by decide) (by decide));refine callWith_kw (L2.thn (L2.pa_cons ha L2.pa_nil (qE hn) pos pins s σc H (λvs H1=>∃φ1 a1,vs=[.ref a1]/\Ext φ φ1/\Rl X.K G φ1 h1 H1/\φ1[p0]?=some a1) I ⟨φ,h,σ,_,h1,R,rs,e1,λφ1 H1 u x1 R1 r1=>?_⟩) λus s1 hu=>?_) ?_ ?_ ?_ ?_
    ·obtain⟨a1,rfl,ea1⟩:=qH r1;exact⟨φ1,a1,rfl,x1,R1,ea1⟩
    ·obtain⟨vs,H1,I1,r1,φ1,a1,rfl,x1,R1,ea1⟩:=hu;obtain⟨u,rfl,ru⟩:=L2.vals1 r1;cases ru;refine wv (wv (L2.ld_blt I1 hg hgm PyProof.Rows.boot_max ?_ (by decide) (by decide)));refine wv (wpAny_standAt (wx ?_));refine wv (wpAny_holding (wx ?_));refine wx ?_;show wpAny _ _ (call (.builtin "sorted") [.ref a1] [("key",.builtin "max")]) _ _ _;obtain⟨a2,ys,ea2,hs,rl⟩:=R1.lst exs;rw[ea1]at ea2;cases ea2;obtain⟨its,v1,⟨ob,on,o1,o2,o3,o4⟩,_⟩:=I1.list hs;obtain⟨m,hns,_⟩:=id I1.loc;have ly:its.length=xs.length:=by rw[<-v1.length,<-Paired.length rl]
     have hh:X.A.handled=none:=I1.ok.hd hc;have hF:Fr emp X.env.locals s1.heap m:=⟨hns,λb o z=>(by rw[J2]at z;cases z),Nat.zero_le _⟩
     have hN:News emp X.env.locals s1.heap (QU s1.heap X.env.locals):=λp hp=>⟨(Za hp).1,(Za hp).2,J2 _⟩
     refine ksk_sorted (b:=false) (f:=.builtin "max") (vs:=its) (kz:=ks) hF hN ⟨ob,o1,o2,on,o4⟩ (by rw[lk,ly]) (by rw[ly,<-lk];exact hk.1) (ksk_s1 _ _) (λ_=>ksk_l1 _ _) (λz=>ksk_t4 "max" z) (λi v0 kk hv hkk hp tk own hF' hN'=>?_) (λD hp tk out c hF' hN' hD ho=>?_)
     ·have hi:i<xs.length:=by rw[<-ly];exact(List.getElem?_eq_some_iff.mp hv).1
      obtain⟨q',zs,is,k',f1,f2,f3,f4,f5⟩:=qk i xs[i] (wA hi);rw[hkk]at f5;cases f5;obtain⟨yv,g1,g2⟩:=qO rl (wA hi);obtain⟨u0,g3,g4⟩:=v1.get g1;rw[hv]at g3;cases g3;rw[f1]at g2;obtain⟨bq,rfl,g5⟩:=qH g2;cases g4;obtain⟨bq',ws,g6,g7,g8⟩:=R1.lst f2;rw[g5]at g6;cases g6;have hz:=zR f3;subst hz;have hw:=zn (QL is) g8;subst hw;obtain⟨its',w1,⟨ob',on',p1,p2,p3,p4⟩,_⟩:=I1.list g7;have hb:bq≠X.env.locals:=λz=>by
       obtain⟨o',es,ep,n1,n2,_⟩:=hns;rw[<-z,p1]at n1;cases n1;rw[p4]at n2;cases n2
      have gp:=(hN' (bq,ob') (wE _ (jT p1 hb))).1;obtain⟨m1,m2⟩:=J1 f4;refine max_list_N (news:=QU s1.heap X.env.locals++own) (vs:=its') (ns:=is) hh hF' hN' ⟨ob',gp,p2,on',p4⟩ (L2.intsAre_of w1) (List.length_pos_of_mem m1) λh2 M t tk2 F2 N2 n1 n2=>⟨h2,tk2,t,rfl,?_,F2,N2⟩
      have:M=kk:=Int.le_antisymm (m2 M n1) (n2 kk m1);rw[this]
     ·have kept:∀b u,b≠X.env.locals->s1.heap.get? b=some u->hp.get? b=some u:=λb u hb e=>(hN' (b,u) (List.mem_cons_of_mem _ (jT e hb))).1;obtain⟨d1,d2,_⟩:=hN' (D,seqObj "list" out c) (List.mem_cons_self ..);have hDn:s1.heap.get? D=none:=by
       cases z:s1.heap.get? D with
       |none=>rfl
       |some o=>exact absurd (hD (D,o) (jT z d2)) (Nat.lt_irrefl _)
      have vv:=V6 ho v1 (by rw[lk,ly]) hk.2;have le:(Jc ks ys).length<=sizeLine:=by rw[W4 ks ys (by rw[lk];exact Paired.length rl),<-Paired.length rl,<-lk,sizeLine_eq];have:=hk.1;omega
      obtain⟨hf,I2⟩:=l6 (t':=tk) (o:=.lst (Jc ks ys)) I1 hns hF'.ns kept hDn d2 ⟨le,out.toList,c,vv,by rw[Array.toArray_toList];exact d1⟩;exact⟨.ref D,_,I2,rfl,k (φ1++[D]) _ _ (x1.trans ⟨[D],rfl⟩) (R1.newL hf (X3 ks rl)) R1.lastRef⟩
    ·show backTo pos (starEach [ea] X.env)=(false,eval ea X.env)::backTo pos (starEach [] X.env);rw[qE hn];rfl
    ·rw[qE hn];rfl
    ·rfl
    ·rfl
   ·cases e3
  ·cases e3
 ·cases e3
end
open L2 (It Zv QR)
abbrev Zf(h:Heap)(z ti to:Addr)(f0 f1:Value):Prop:=
 h.get? z=some { cls:=.type "zip",dict:=none,data:=.fields #[f0,f1,.bool false,.ref ti,.ref to],slots:=#[] }
section
variable{P:Program}{w:World}{K:Type}[DecidableEq K]{knd:KeyKind P w K}{A:Around}{E:Value->Shared->Prop}{z ti to i1 i2 a b d:Addr}{xs ys:Array Value}
def Left(knd:KeyKind P w K)(xs ys:Array Value)(k:Nat)(L:List (K×Value)):Prop:=
 (∀j p,L[j]?=some p->∃x,xs[k+j]?=some x/\knd.is p.1 x=true/\ys[k+j]?=some p.2)/\(xs[k+L.length]?=none\/ys[k+L.length]?=none)
theorem Left.next{k:Nat}{p:K×Value}{L:List (K×Value)}(h:Left knd xs ys k (p::L)):(∃x,xs[k]?=some x/\knd.is p.1 x=true/\ys[k]?=some p.2)/\Left knd xs ys (k+1) L:=by
 refine⟨by simpa using h.1 0 p rfl,λj q e=>?_,?_⟩
 ·have:=h.1 (j+1) q (by simpa using e);rw[show k+(j+1)=k+1+j by omega]at this;exact this
 ·have:=h.2;rw[List.length_cons,show k+(L.length+1)=k+1+L.length by omega]at this;exact this
end
theorem Jw(is:List Int):difs is=(firstMet (λi=>is.getD i 0) is.length).length:=by
 unfold difs firstMet;congr 2;apply List.ext_getElem
 ·simp
 ·intro i h1 h2;simp[wH,h1]
def qCL(P:Program)(w:World)(a:Addr)(n:Nat):Heap->Prop:=λh=>∃o,∃S:Int->Bool,h.get? a=some o/\o.SetObjOf (intKind P w) S n
section
variable{X:Cx}
theorem J4(hc:X.calm=true):qo X (.type "set") (λxs H Q=>∃p,∃is:List Int,xs=[.ref p]/\SqL X.K H p (is.map V.int)/\is.length<1000/\∀l,H l=none->Q (.ref l) (upd H l (.ext (qCL X.prog X.w l (difs is))))):=by
 intro pins s σ H xs us Q I r ⟨p,is,e,hp,hj,q⟩;subst e;obtain⟨u,rfl,ru⟩:=L2.vals1 r;cases ru;obtain⟨its,rv',pl,_⟩:=I.list hp;have hi:IntsAre its is:=L2.intsAre_of rv';have hl:its.length=is.length:=IntsAre.length hi;refine call_set_list (items:=its.toArray) (ns:=is) (I.ok.hd hc) pl.isList (by simpa using hi) (by simp[scanBound];omega) λh' tk hS hk=>?_;obtain⟨o,ho,hso⟩:=hS.objOf;refine⟨.ref s.heap.objs.size,_,I.laid (t':=tk) (λb o' e=>hk b o' (Heap.lt_size e) e) (Nat.le_refl _) ?_,rfl,q _ (I.hok.fresh (Nat.le_refl _))⟩;have e:difs is=(firstMet (λi=>is.getD i 0) its.toArray.size).length:=by rw[Jw,wB,hl]
 rw[e];exact⟨⟨o,_,ho,hso⟩,⟨o,ho⟩,λh1 h2 ⟨o,S,q1,q2⟩ k=>⟨o,S,k _ q1,q2⟩⟩
theorem E3:qo X (.builtin "len") (λxs H Q=>∃p n,xs=[.ref p]/\H p=some (.ext (qCL X.prog X.w p n))/\n<1000/\Q (.int n) H):=by
 intro pins s σ H xs us Q I r ⟨p,n,e,hp,hn,q⟩;subst e;obtain⟨u,rfl,ru⟩:=L2.vals1 r;cases ru;obtain⟨⟨o,S,ho,hex,es,ep,t,hd,_,_,hz,hf⟩,_⟩:=I.hok p _ hp;subst hz;exact call_len_set ho hex hd hf (by omega) ⟨.int _,H,(I.tok _).tok _,⟨_,rfl⟩,q⟩
theorem u3(is:List Int):difs is<=is.length:=by rw[Jw];exact firstMet_length_le _ _
end
section
variable{X:Cx}{G:List Addr}{F:Nat->List V->AH->RV}{a:E}{ea:Expr}{pos:Pos}
theorem g9{p p2 pos2:Pos}(hc:X.calm=true)(hg:L2.Gl X "len")(hm:X.mg "len"=none)(hg2:L2.Gl X "set")(hm2:X.mg "set"=none)(hn:qV ea=true)(ha:SE X G F ea a):
  SE X G F (.Call (.Name "len" p) [.Call (.Name "set" p2) [ea] [] pos2] [] pos) (.nset a):=by
 refine qj (L2.pe_callB E3 hg hm PySem.boot_len (L2.pa_cons (L2.pe_callTy (J4 hc) hg2 hm2 PyProof.Rows.boot_set (L2.pa_cons ha L2.pa_nil (qE hn)) (by decide) (by decide) (qE hn) rfl) L2.pa_nil rfl) (by decide) (by decide) rfl rfl) λσc H Q q=>?_;obtain⟨φ,h,σ,v,h',R,rs,e,k⟩:=q;unfold ev at e;obtain⟨⟨x,h1⟩,e1,e⟩:=Res.bind_inv e;refine⟨φ,h,σ,x,h1,R,rs,e1,λφ1 H1 w x1 R1 r1=>?_⟩;dsimp only at e;split at e
 ·rename_i q0;split at e
  ·rename_i ys ey;split at e
   ·rename_i is ei;split at e
    ·rename_i hl;cases e;obtain⟨p',rfl,hp⟩:=qH r1;obtain⟨p'',zs,hp',hs,rs'⟩:=R1.lst ey;rw[hp]at hp';cases hp';have hm':=zR ei;subst hm';have hz:=zn (QL is) rs';subst hz;have:=u3 is;refine⟨p',is,rfl,hs,hl,λl hl'=>⟨l,difs is,rfl,qB,by omega,?_⟩⟩;have R2:=R1.same (jq (o:=.ext (qCL X.prog X.w l (difs is))) hl');exact k φ1 _ _ x1 R2 rfl
    ·cases e
   ·cases e
  ·cases e
 ·cases e
end
abbrev Tu(h:Heap)(T:Addr)(vs:Array Value):Prop:=h.get? T=some { cls:=.type "tuple",data:=.seq vs }
section
variable{P:Program}{w:World}{A:Around}{E:Value->Shared->Prop}{s:Shared}{z ti to i1 i2 i3 a b c:Addr}{f0:Value}{k1 k2 k3:Nat}{xs ys us:Array Value}{p q r:Value}
def Kp(z to i1 i2 i3:Addr)(h g:Heap):Prop:=g.objs.size=h.objs.size/\∀c o,c∉[z,to,i1,i2,i3]->h.get? c=some o->g.get? c=some o
theorem Kp.step{h g g':Heap}{d:Addr}(k:Kp z to i1 i2 i3 h g)(hd:d∈[z,to,i1,i2,i3])(e:Heap.SameBut d g g'):Kp z to i1 i2 i3 h g':=
 ⟨by rw[e.1,k.1],λc o hc ho=>e.extBut c o (λx=>hc (x ▸ hd)) (k.2 c o hc ho)⟩
end
open L2 (PGs TG TGs Itl Itt F9)
section
variable (K:PySem.W.Frag)(G:List Addr)
noncomputable def tG(g:Tg):TG:=λv σc H Q=>∃φ h σ w σ',Rl K G φ h H/\rst φ σ σc/\rv φ w v/\store g w σ h=some σ'/\∀σc',rst φ σ' σc'->Q σc' H
noncomputable def tGs(is:List Nat):TGs:=λvs σc H Q=>∃φ σ ws σ',rst φ σ σc/\rvs φ ws vs/\Qb is ws σ=some σ'/\∀σc',rst φ σ' σc'->Q σc' H
end
section
variable{X:Cx}{G:List Addr}{F:Nat->List V->AH->RV}
theorem qBV{e:Expr}{t t':TG}(h:PG X e t)(w:∀v σ H Q,t' v σ H Q->t v σ H Q):PG X e t':=λpins s σ H v u Q I r q=>h pins s σ H v u Q I r (w v σ H Q q)
theorem Y9{e:List Expr}{t t':TGs}(h:PGs X e t)(w:∀v σ H Q,t' v σ H Q->t v σ H Q):PGs X e t':=λpins s σ H v u Q I r q=>h pins s σ H v u Q I r (w v σ H Q q)
variable (X G) in
abbrev SG(e:Expr)(g:Tg):Prop:=PG X e (tG X.K G g)
theorem L0{i:Nat}{x:Str}{pos:Pos}(hN:X.N.Nodup)(hi:X.N[i]?=some x)(hx:L2.Loc X.env.scope x)(hf:X.fn x=true\/X.env.scope.names.lookup x=some .local):SG X G (.Name x pos) (.name i):=by
 refine qBV (L2.pg_name hN hi hx hf) λv σc H Q q=>?_;obtain⟨φ,h,σ,w,σ',R,rs,r,e,k⟩:=q;unfold store at e;cases e;exact k _ (zP (R:=ropt φ) (show ropt φ (some w) (some v) from⟨v,rfl,r⟩) i rs)
theorem i9:PGs X [] (tGs []):=by
 refine Y9 L2.pgs_nil λvs σc H Q q=>?_;obtain⟨φ,σ,ws,σ',rs,r,e,k⟩:=q;cases ws with
 |nil=>
  cases r;cases e;exact⟨rfl,k _ rs⟩
 |cons _ _=>cases e
theorem T0{i:Nat}{is:List Nat}{x:Str}{pos:Pos}{es:List Expr}(hN:X.N.Nodup)(hi:X.N[i]?=some x)(hx:L2.Loc X.env.scope x)(hf:X.fn x=true\/X.env.scope.names.lookup x=some .local)(hs:PGs X es (tGs is)):
  PGs X (.Name x pos::es) (tGs (i::is)):=by
 refine Y9 (L2.pgs_cons (L2.pg_name hN hi hx hf) hs rfl) λvs σc H Q q=>?_;obtain⟨φ,σ,ws,σ',rs,r,e,k⟩:=q;cases ws with
 |nil=>cases e
 |cons w ws=>
  cases r with
  |cons r1 rr=>exact⟨_,_,rfl,φ,_,ws,σ',zP (R:=ropt φ) (show ropt φ (some w) (some _) from⟨_,rfl,r1⟩) i rs,rr,e,k⟩
theorem QZ:∀{is:List Nat}{xs:List V}{σ σ':St},Qb is xs σ=some σ'->xs.length=is.length
 | [],[],_,_,_=>rfl
 | [],_::_,_,_,e=>by cases e
 |_::_,[],_,_,e=>by cases e
 |i::is,x::xs,σ,σ',e=>by
  have:=QZ (show Qb is xs _=some σ' from e);simp[this]
theorem qAQ{is:List Nat}{es:List Expr}{k:Nat}{pos:Pos}(hc:X.calm=true)(h:PGs X es (tGs is))(hn:(assignEach es X.env).length=is.length)(hst:(assignEach es X.env).findIdx? (·.1)=none):SG X G (.Tuple es k pos) (.tup is):=by
 refine qBV (L2.pg_tup hc h hn hst) λv σc H Q q=>?_;obtain⟨φ,h,σ,w,σ',R,rs,r,e,k⟩:=q;cases w with
 |ref a=>
  unfold store at e;dsimp only at e;split at e
  ·rename_i xs ex;obtain⟨p,zs,hp,hs,rz⟩:=R.tup ex;obtain⟨q,rfl,hq⟩:=qH r;rw[hp]at hq;cases hq;exact⟨_,zs,rfl,hs,by rw[<-Paired.length rz];exact QZ e,φ,σ,xs,σ',rs,rz,e,k⟩
  ·cases e
 |_=>cases e
def IsJ(K:PySem.W.Frag)(φ:List Addr):Src->It->Prop
 | .list p,J=>∃a,φ[p]?=some a/\J=Itl K a
 | .tupl p,J=>∃a,φ[p]?=some a/\J=Itt K a
 | .rng lo n,J=>J=L2.Itr lo n
theorem IsJ.mono{K:PySem.W.Frag}{φ φ':List Addr}(x:Ext φ φ'):∀{s:Src}{J:It},IsJ K φ s J->IsJ K φ' s J
 | .list _,_,⟨a,h,e⟩=>⟨a,x.get h,e⟩
 | .tupl _,_,⟨a,h,e⟩=>⟨a,x.get h,e⟩
 | .rng _ _,_,e=>e
section
variable{K:PySem.W.Frag}{φ:List Addr}{h h1:AH}{H H':Hp}{s:Src}{J:It}{i:Nat}{x v:V}
theorem IsJ.stop(j:IsJ K φ s J)(R:Rl K G φ h H)(e:jb h i s=true):J.stop i H:=by
 cases s with
 |list p=>
  obtain⟨a,ha,rfl⟩:=j;unfold jb at e;dsimp only at e;split at e
  ·rename_i xs ex;obtain⟨q,zs,hq,hs,rz⟩:=R.lst ex;rw[ha]at hq;cases hq;exact⟨zs,hs,by rw[<-Paired.length rz];exact vB e⟩
  ·cases e
 |tupl p=>
  obtain⟨a,ha,rfl⟩:=j;unfold jb at e;dsimp only at e;split at e
  ·rename_i xs ex;obtain⟨q,zs,hq,hs,rz⟩:=R.tup ex;rw[ha]at hq;cases hq;exact⟨zs,hs,by rw[<-Paired.length rz];exact vB e⟩
  ·cases e
 |rng lo n=>
  cases j;show n<=i;exact vB e
theorem IsJ.go(j:IsJ K φ s J)(R:Rl K G φ h H)(e:zD h i s=some (x,h1)):J.go i H:=by
 cases s with
 |list p=>
  obtain⟨a,ha,rfl⟩:=j;unfold zD at e;dsimp only at e;split at e
  ·rename_i xs ex;obtain⟨y,ey,e2⟩:=Option.map_eq_some_iff.mp e;obtain⟨q,zs,hq,hs,rz⟩:=R.lst ex;rw[ha]at hq;cases hq;obtain⟨z,hz,_⟩:=qO rz ey;exact⟨zs,z,hs,hz⟩
  ·cases e
 |tupl p=>
  obtain⟨a,ha,rfl⟩:=j;unfold zD at e;dsimp only at e;split at e
  ·rename_i xs ex;obtain⟨y,ey,e2⟩:=Option.map_eq_some_iff.mp e;obtain⟨q,zs,hq,hs,rz⟩:=R.tup ex;rw[ha]at hq;cases hq;obtain⟨z,hz,_⟩:=qO rz ey;exact⟨zs,z,hs,hz⟩
  ·cases e
 |rng lo n=>
  cases j;unfold zD at e;dsimp only at e;split at e
  ·rename_i hl;exact hl
  ·cases e
theorem IsJ.yld(j:IsJ K φ s J)(R:Rl K G φ h H)(e:zD h i s=some (x,h1))(y:J.yld i H v H'):∃φ',Ext φ φ'/\Rl K G φ' h1 H'/\rv φ' x v:=by
 cases s with
 |list p=>
  obtain⟨a,ha,rfl⟩:=j;unfold zD at e;dsimp only at e;split at e
  ·rename_i xs ex;obtain⟨y',ey,e2⟩:=Option.map_eq_some_iff.mp e;cases e2;obtain⟨q,zs,hq,hs,rz⟩:=R.lst ex;rw[ha]at hq;cases hq;obtain⟨z,hz,rz'⟩:=qO rz ey;obtain⟨rfl,k⟩:=y;have:=k zs hs;rw[hz]at this;cases this;exact⟨φ,.refl _,R,rz'⟩
  ·cases e
 |tupl p=>
  obtain⟨a,ha,rfl⟩:=j;unfold zD at e;dsimp only at e;split at e
  ·rename_i xs ex;obtain⟨y',ey,e2⟩:=Option.map_eq_some_iff.mp e;cases e2;obtain⟨q,zs,hq,hs,rz⟩:=R.tup ex;rw[ha]at hq;cases hq;obtain⟨z,hz,rz'⟩:=qO rz ey;obtain⟨rfl,k⟩:=y;have:=k zs hs;rw[hz]at this;cases this;exact⟨φ,.refl _,R,rz'⟩
  ·cases e
 |rng lo n=>
  cases j;unfold zD at e;dsimp only at e;split at e
  ·cases e;obtain⟨rfl,rfl⟩:=y;exact⟨φ,.refl _,R,rfl⟩
  ·cases e
end
variable (G F) in
noncomputable def tI(K:PySem.W.Frag)(it:Itr):L2.TI:=λσc H R=>∃φ h σ s h',Rl K G φ h H/\rst φ σ σc/\evi F it σ h=.ok (s,h')/\∀φ' H' J,Ext φ φ'->Rl K G φ' h' H'->IsJ K φ' s J->R J H'
variable (X G F) in
abbrev SI(tg iter:Expr)(it:Itr):Prop:=L2.PI X tg iter (tI G F X.K it)
theorem qAJ{tg e:Expr}{t t':L2.TI}(h:L2.PI X tg e t)(w:∀σ H Q,t' σ H Q->t σ H Q):L2.PI X tg e t':=λpins s σ H Q I q=>h pins s σ H Q I (w σ H Q q)
variable{a b:E}{ea eb tg:Expr}{pos p:Pos}
noncomputable def qDw(K:PySem.W.Frag)(tl:TE):L2.TI:=λσ H R=>tl σ H λx H1=>∃a,x=.ref a/\(((∃xs,SqL K H1 a xs)/\R (Itl K a) H1)\/((∃xs,SqT K H1 a xs)/\R (Itt K a) H1))
theorem qAo{l:Expr}{tl:TE}(hl:PE X l tl):L2.PI X tg l (qDw X.K tl):=by
 intro pins s σ H R I h;refine L2.thn (hl pins s σ H _ I h) λv s1 ⟨x,H1,I1,r1,q1⟩=>?_;obtain⟨a,e,q⟩:=q1;subst e;cases r1;rcases q with⟨⟨xs,hq⟩,q⟩|⟨⟨xs,hq⟩,q⟩
 ·obtain⟨its,rv,p,hz⟩:=I1.list hq;refine wpAny_pyIter_list p.isList ?_;refine⟨s1.heap.objs.size,[s1.heap.objs.size],_,_,H1,rfl,I1.kept (t':=s1.toks) λb o e=>Heap.get?_push_of_some _ e,L2.turn_list a _,⟨_,Heap.get?_push_size _ rfl,rfl,rfl⟩,λb hb=>?_,q⟩;have e:b=s1.heap.objs.size:=by simpa using hb
  subst e;exact I1.fpOk (Nat.le_refl _) (I1.hok.fresh (Nat.le_refl _))
 ·obtain⟨its,rv,p,hz⟩:=I1.tuple hq;refine wpAny_pyIter_tuple (show s1.heap.IsTuple a its.toArray from p) ?_;refine⟨s1.heap.objs.size,[s1.heap.objs.size],_,_,H1,rfl,I1.kept (t':=s1.toks) λb o e=>Heap.get?_push_of_some _ e,L2.turn_tuple a _,⟨_,Heap.get?_push_size _ rfl,rfl,rfl⟩,λb hb=>?_,q⟩;have e:b=s1.heap.objs.size:=by simpa using hb
  subst e;exact I1.fpOk (Nat.le_refl _) (I1.hok.fresh (Nat.le_refl _))
theorem N1(ha:SE X G F ea a):SI X G F tg ea (.list a):=by
 refine qAJ (qAo ha) λσc H Q q=>?_;obtain⟨φ,h,σ,s,h',R,rs,e,k⟩:=q;unfold evi at e;obtain⟨⟨x,h1⟩,e1,e⟩:=Res.bind_inv e;refine⟨φ,h,σ,x,h1,R,rs,e1,λφ1 H1 w x1 R1 r1=>?_⟩;cases x with
 |ref p=>
  dsimp only at e;cases ey:h1[p]? with
  |none=>rw[ey]at e;cases e
  |some o=>
   cases o with
   |lst fz ys=>
    rw[ey]at e;cases e;obtain⟨q,zs,hq,hs,rz⟩:=R1.lst (i:=p) (xs:=ys) (by unfold qU;rw[ey]);obtain⟨q',rfl,hq'⟩:=qH r1;rw[hq]at hq';cases hq';exact⟨_,rfl,.inl ⟨⟨zs,hs⟩,k φ1 H1 _ x1 R1 ⟨_,hq,rfl⟩⟩⟩
   |tup ys=>
    rw[ey]at e;cases e;obtain⟨q,zs,hq,hs,rz⟩:=R1.tup (i:=p) (xs:=ys) (by unfold qX;rw[ey]);obtain⟨q',rfl,hq'⟩:=qH r1;rw[hq]at hq';cases hq';exact⟨_,rfl,.inr ⟨⟨zs,hs⟩,k φ1 H1 _ x1 R1 ⟨_,hq,rfl⟩⟩⟩
   |ob ks=>rw[ey]at e;cases e
 |_=>cases e
theorem k9(hg:L2.Gl X "range")(hm:X.mg "range"=none)(hn:qV ea=true)(ha:SE X G F ea a):SI X G F tg (.Call (.Name "range" p) [ea] [] pos) (.rng1 a):=by
 refine qAJ (L2.pi_range1 hg hm (L2.pa_cons ha L2.pa_nil (qE hn)) (qE hn)) λσc H Q q=>?_;obtain⟨φ,h,σ,s,h',R,rs,e,k⟩:=q;unfold evi at e;obtain⟨⟨x,h1⟩,e1,e⟩:=Res.bind_inv e;refine⟨φ,h,σ,x,h1,R,rs,e1,λφ1 H1 w x1 R1 r1=>?_⟩;cases x with
 |int j=>
  dsimp only at e;split at e
  ·rename_i hj;cases e;cases qA r1;exact⟨j,rfl,by omega,by omega,k φ1 H1 _ x1 R1 rfl⟩
  ·cases e
 |_=>cases e
end
section
variable{X:Cx}{G:List Addr}{F:Nat->List V->AH->RV}
theorem qBE{φ:List Addr}:∀{v w w':V},rv φ v w->rv φ v w'->w=w'
 | .ref _,w,w',h,g=>by
  obtain⟨a,e1,h1⟩:=qH h;obtain⟨b,e2,g1⟩:=qH g;rw[h1]at g1;cases g1;rw[e1,e2]
 | .non,_,_,h,g=>by rw[qx h,qx g]
 | .bl _,_,_,h,g=>by rw[zA h,zA g]
 | .int _,_,_,h,g=>by rw[qA h,qA g]
 | .str _,_,_,h,g=>by rw[zJ h,zJ g]
 | .byt _,w,_,h,_=>by cases w<;>exact False.elim h
 | .flt _,w,_,h,_=>by cases w<;>exact False.elim h
 | .ty _,w,_,h,_=>by cases w<;>exact False.elim h
theorem JT{φ:List Addr}:∀{vs ws us:List V},rvs φ vs ws->rvs φ vs us->ws=us
 |_,_,_,.nil,.nil=>rfl
 |_,_,_,.cons r t,.cons r' t'=>by rw[qBE r r',JT t t']
theorem QF{φ:List Addr}{σ σc:St}(r:rst φ σ σc):∀src,rst φ (L2.inner src σ) (L2.inner src σc)
 | []=>.nil
 |none::src=>.cons trivial (QF r src)
 |some j::src=>by
  refine .cons ?_ (QF r src);show ropt φ (σ[j]?).join (σc[j]?).join;cases e:σ[j]? with
  |none=>exact trivial
  |some o=>
   cases o with
   |none=>exact trivial
   |some v=>
    obtain⟨oc,ec,r'⟩:=qO r e;obtain⟨w,rfl,r'⟩:=r';rw[ec];exact⟨w,rfl,r'⟩
variable (X G F) in
abbrev SC(ifs:List Expr)(c:Es):Prop:=L2.PTs X ifs (tB X.K G (evc F c))
theorem qBA:SC X G F [] .nil:=by
 intro pins s σ H Q I q;obtain⟨φ,h,σa,b,h',R,rs,e,k⟩:=q;unfold evc at e;cases e;exact L2.pts_nil pins s σ H Q I (k φ H (.refl _) R)
theorem qBf{c:Expr}{a:E}(hc:ST X G F c a):SC X G F [c] (.cons a .nil):=by
 intro pins s σ H Q I q;obtain⟨φ,h,σa,b,h',R,rs,e,k⟩:=q;unfold evc at e;exact L2.pts_one hc pins s σ H Q I ⟨φ,h,σa,b,h',R,rs,e,k⟩
theorem P5{it:Itr}{src:List (Option Nat)}{g:Tg}{c:Es}{e:E}{σc:St}{H:Hp}{Q:VK}(q:tE X.K G F (.comp it src g c e) σc H Q):
  L2.tComp (tI G F X.K it) src (tG X.K G g) (tB X.K G (evc F c)) (tE X.K G F e) σc H Q:=by
 obtain⟨φ,h,σ,v,h',R,rs,ee,k⟩:=q;unfold ev at ee;obtain⟨⟨s,h1⟩,e1,ee⟩:=Res.bind_inv ee;refine⟨φ,h,σ,s,h1,R,rs,e1,λφ1 H1 J x1 R1 j1=>?_⟩;dsimp only at ee;split at ee
 ·rename_i n hn;intro D hD;have R2:Rl X.K G (φ1++[D]) (h1++[.lst false []]) (upd H1 D (.lst [])):=R1.newL hD .nil;have hDφ:(φ1++[D])[h1.length]?=some D:=R1.lastRef;refine⟨λi m ys σ' H'=>∃φ' h2 σa ya,Ext (φ1++[D]) φ'/\Rl X.K G φ' h2 H'/\rst φ' σa σ'/\rvs φ' ya ys/\h2[h1.length]?=some (.lst false ya)/\Zo s g (evc F c) (ev F e) h1.length m i ya σa h2=.ok (v,h'),
   ⟨n,φ1++[D],_,_,[],.refl _,R2,QF (rst.mono (x1.trans ⟨[D],rfl⟩) rs) src,.nil,by simp,ee⟩,?_⟩
  rintro i m ys σ' H' ⟨φ',h2,σa,ya,x2,Ra,rsa,rya,hya,ec⟩ hys;have jj:IsJ X.K φ' s J:=j1.mono (Ext.trans ⟨[D],rfl⟩ x2);have hDφ':=x2.get hDφ;cases m with
  |zero=>
   unfold Zo at ec;split at ec
   ·rename_i hst;cases ec;exact .inl ⟨jj.stop Ra hst,k φ' H' _ ((x1.trans ⟨[D],rfl⟩).trans x2) Ra hDφ'⟩
   ·cases ec
  |succ m=>
   unfold Zo at ec;split at ec
   ·rename_i x h3 hy;split at ec
    ·rename_i σ3 hst;refine .inr ⟨jj.go Ra hy,λxv H2 hyl=>?_⟩;obtain⟨φ3,x3,R3,rx⟩:=jj.yld Ra hy hyl;refine⟨φ3,h3,σa,x,σ3,R3,rst.mono x3 rsa,rx,hst,λσc3 rs3=>?_⟩;obtain⟨⟨t,h4⟩,e4,ec⟩:=Res.bind_inv ec;refine⟨φ3,h3,σ3,t,h4,R3,rs3,e4,λφ4 H4 x4 R4=>?_⟩;dsimp only at ec;cases t with
     |true=>
      rw[if_pos rfl]at ec ⊢;obtain⟨⟨y,h5⟩,e5,ec⟩:=Res.bind_inv ec;refine⟨φ4,h4,σ3,y,h5,R4,rst.mono x4 rs3,e5,λφ5 H5 yc x5 R5 r5=>?_⟩;dsimp only at ec;split at ec
      ·rename_i hc5;have xx:Ext φ' φ5:=x3.trans (x4.trans x5);have hD5:=xx.get hDφ';obtain⟨zs,hz,rz⟩:=R5.obj _ _ D hc5.1 hD5;have ez:zs=ys:=JT rz (rvs.mono xx rya);subst ez;refine⟨hz,by rw[<-Paired.length rz];exact wW hc5.2 Y3,m,Nat.lt_succ_self _,φ5,_,σ3,_,x2.trans xx,R5.set hc5.1 hD5 (qK rz (.cons r5 .nil)),rst.mono (x4.trans x5) rs3,qK rz (.cons r5 .nil),?_,ec⟩;rw[wP (List.getElem?_eq_some_iff.mp hc5.1).1]
      ·cases ec
     |false=>
      rw[if_neg (by decide)]at ec ⊢;split at ec
      ·rename_i hc4;have xx:Ext φ' φ4:=x3.trans x4;have hD4:=xx.get hDφ';obtain⟨zs,hz,rz⟩:=R4.obj _ _ D hc4 hD4;have ez:zs=ys:=JT rz (rvs.mono xx rya);subst ez;exact⟨hz,m,Nat.lt_succ_self _,φ4,_,σ3,_,x2.trans xx,R4,rst.mono x4 rs3,rz,hc4,ec⟩
      ·cases ec
    ·cases ec
   ·cases ec
 ·cases ee
end
section
variable{X:Cx}{G:List Addr}{F:Nat->List V->AH->RV}{a b c:E}{ea eb ec tg:Expr}{pos:Pos}
theorem Q9{iter elt:Expr}{ifs:List Expr}{scope:Scope}{N:List Str}{it:Itr}{src:List (Option Nat)}{g:Tg}{cs:Es}{e:E}(hc:X.calm=true)(hi:SI X G F tg iter it)(S:L2.CompScope X scope N src)
  (hg:∀C fp s H,SG (L2.cxComp X scope C fp s H N) G tg g) (ht:∀C fp s H,SC (L2.cxComp X scope C fp s H N) G F ifs cs) (he:∀C fp s H,SE (L2.cxComp X scope C fp s H N) G F elt e)
  (hs:∀x,foldedSetIterable iter X.env x=pure x):SE X G F (.ListComp elt [⟨tg,iter,ifs,0⟩] scope pos) (.comp it src g cs e):=
 qj (L2.pe_comp hc hi S hg ht he hs) λ_ _ _=>P5
def Post(K:PySem.W.Frag)(G:List Addr)(D:F9)(φ:List Addr)(o:Out)(h':AH):Prop:=∀φ' H',Ext φ φ'->Rl K G φ' h' H'->match o with
 | .nx σ=>∀σc,rst φ' σ σc->D.nx σc H'
 | .rt v=>∀w,rv φ' v w->D.rt w H'
 | .bk σ=>∀σc,rst φ' σ σc->D.bk σc H'
 | .ct σ=>∀σc,rst φ' σ σc->D.ct σc H'
theorem Post.mono{K:PySem.W.Frag}{D:F9}{φ φ1:List Addr}{o:Out}{h':AH}(x:Ext φ φ1)(p:Post K G D φ o h'):Post K G D φ1 o h':=λφ' H' x' R=>p φ' H' (x.trans x') R
noncomputable def tS(K:PySem.W.Frag)(G:List Addr)(r:St->AH->RS):TS:=λD σc H=>∃φ h σ o h',Rl K G φ h H/\rst φ σ σc/\r σ h=.ok (o,h')/\Post K G D φ o h'
variable (X G F) in
abbrev SS(st:Stmt)(s:S):Prop:=PS X st (tS X.K G (ex F s))
variable (X G F) in
abbrev SSs(st:List Stmt)(s:Ss):Prop:=PSs X st (tS X.K G (exs F s))
theorem Zb{e:Stmt}{t t':TS}(h:PS X e t)(w:∀D σ H,t' D σ H->t D σ H):PS X e t':=λpins s σ H D I q=>h pins s σ H D I (w D σ H q)
theorem a9{e:List Stmt}{t t':TS}(h:PSs X e t)(w:∀D σ H,t' D σ H->t D σ H):PSs X e t':=λpins s σ H D I q=>h pins s σ H D I (w D σ H q)
theorem qi{st:Stmt}:SS X G F st .stop:=by
 intro pins s σ H D I q;obtain⟨φ,h,σa,o,h',R,rs,e,k⟩:=q;unfold ex at e;cases e
noncomputable def QA:Expr->Bool
 | .ListComp ..=>false
 | .SetComp ..=>false
 | .DictComp ..=>false
 |_=>true
theorem QD{e:Expr}{t:Option Expr}{l:Nat}{env:Env}(h:QA e=true):swapsWith e t l env=pure false:=by
 cases e<;>first|rfl|cases h
theorem Qg{e t:Expr}{l:Nat}{env:Env}(h:QA e=true):swapsWithSole [t] e l env=pure false:=QD h
theorem u6{K:PySem.W.Frag}{σ:St}{H:Hp}{Q Q':VK}(q:tE K G F a σ H Q)(w:∀v H,Q v H->Q' v H):tE K G F a σ H Q':=by
 obtain⟨φ,h,σa,v,h',R,rs,e,k⟩:=q;exact⟨φ,h,σa,v,h',R,rs,e,λφ' H' u x' R' r'=>w u H' (k φ' H' u x' R' r')⟩
theorem P9{g:Tg}{D:F9}{σc:St}{H:Hp}(q:tS X.K G (ex F (.asg g a)) D σc H):L2.tAsg (tE X.K G F a) (tG X.K G g) D σc H:=by
 obtain⟨φ,h,σ,o,h',R,rs,e,k⟩:=q;unfold ex at e;obtain⟨⟨x,h1⟩,e1,e⟩:=Res.bind_inv e;dsimp only at e;split at e
 ·rename_i σ1 es;cases e;exact⟨φ,h,σ,x,_,R,rs,e1,λφ1 H1 w x1 R1 r1=>⟨φ1,_,σ,x,σ1,R1,rst.mono x1 rs,r1,es,λσc' rs'=>k φ1 H1 x1 R1 σc' rs'⟩⟩
 ·cases e
theorem n8{iter elt:Expr}{ifs:List Expr}{scope:Scope}{N:List Str}{it:Itr}{src:List (Option Nat)}{g:Tg}{cs:Es}{e:E}{i:Nat}{n:Str}{p cpos:Pos}(hc:X.calm=true)(hi:SI X G F tg iter it)(S:L2.CompScope X scope N src)
  (hg:∀C fp s H,SG (L2.cxComp X scope C fp s H N) G tg g) (ht:∀C fp s H,SC (L2.cxComp X scope C fp s H N) G F ifs cs) (he:∀C fp s H,SE (L2.cxComp X scope C fp s H N) G F elt e)
  (hs:∀x,foldedSetIterable iter X.env x=pure x) (hN:X.N.Nodup) (hn:X.N[i]?=some n) (hx:L2.Loc X.env.scope n) (hf:X.fn n=true\/X.env.scope.names.lookup n=some .local):
  SS X G F (.Assign [.Name n p] (.ListComp elt [⟨tg,iter,ifs,0⟩] scope cpos) pos) (.asg (.name i) (.comp it src g cs e)):=by
 have hsw:swapsWith (.ListComp elt [⟨tg,iter,ifs,0⟩] scope cpos) (some (.Name n p)) pos.line X.env=pure (X.env.blockKind==.function&&X.env.kindOf n==some .local&&p.line==(Expr.ListComp elt [⟨tg,iter,ifs,0⟩] scope cpos).pos.line
   && !(scope.names.any λ(m,k)=>m==n&&(k==.local||k==.cell))):=rfl
 generalize hb:(X.env.blockKind==.function&&X.env.kindOf n==some .local&&p.line==(Expr.ListComp elt [⟨tg,iter,ifs,0⟩] scope cpos).pos.line
   && !(scope.names.any λ(m,k)=>m==n&&(k==.local||k==.cell)))=bb at hsw
 cases bb with
 |true=>
  have hl:X.env.scope.names.lookup n=some .local:=by
   simp only[Bool.and_eq_true]at hb;have z:X.env.kindOf n=some .local:=by simpa using hb.1.1.2
   exact z
  refine Zb (L2.ps_setcomp (i:=i) (g:=tG X.K G g) (tc:=tB X.K G (evc F cs)) (te:=tE X.K G F e) hc hi S hg ht he hsw hN hn hl hs) λD σc H q=>?_;refine P5 (u6 (P9 q) λv H1 z=>?_);obtain⟨φ,h,σ,w,σ',R,rs,r,es,k⟩:=z;unfold store at es;cases es;exact k _ (zP (R:=ropt φ) (show ropt φ (some w) (some v) from⟨v,rfl,r⟩) i rs)
 |false=>exact Zb (L2.ps_asg (Q9 hc hi S hg ht he hs) (L0 hN hn hx hf) hsw rfl rfl) λ_ _ _=>P9
noncomputable def qCD:L2.TSet:=λo i v H Q=>L2.rSetL o i v H Q\/∃p H',o=.ref p/\L2.DPut H p i v H'/\Q H'
theorem v6(hu:X.A.units+8<cLine):L2.PSet X qCD:=by
 intro pins s σ H o i v ov iv u Q I ro ri rv h;rcases h with h|⟨p,H',rfl,g,q⟩
 ·exact L2.set_list pins s σ H o i v ov iv u Q I ro ri rv h
 ·cases ro;exact L2.d_setItem (by omega) I g ri rv λs' I'=>⟨H',I',q⟩
theorem qBD(hu:X.A.units+8<cLine){eo ei:Expr}{o i:E}{p:Pos}(ho:SE X G F eo o)(hi:SE X G F ei i)(ha:SE X G F ea a)(hc:QA ea=true)(hsl:QK ei=true):SS X G F (.Assign [.Subscript eo ei p] ea pos) (.put o i a):=by
 refine Zb (L2.ps_asg ha (L2.pg_sub ho hi (v6 hu) (λv=>by cases ei<;>first|rfl|cases hsl)) (Qg hc) (by cases ea<;>rfl) rfl) λD σc H q=>?_;obtain⟨φ,h,σ,out,h',R,rs,e,k⟩:=q;unfold ex at e;obtain⟨⟨x,h1⟩,e1,e⟩:=Res.bind_inv e;obtain⟨⟨p1,h2⟩,e2,e⟩:=Res.bind_inv e;obtain⟨⟨k1,h3⟩,e3,e⟩:=Res.bind_inv e;refine⟨φ,h,σ,x,h1,R,rs,e1,λφ1 H1 w x1 R1 r1=>?_⟩;refine⟨φ1,h1,σ,p1,h2,R1,rst.mono x1 rs,e2,λφ2 H2 w2 x2 R2 r2=>?_⟩;refine⟨φ2,h2,σ,k1,h3,R2,rst.mono (x1.trans x2) rs,e3,λφ3 H3 w3 x3 R3 r3=>?_⟩;cases p1 with
 |ref q=>
  cases k1 with
  |int j=>
   dsimp only at e;split at e
   ·rename_i xs ex1;split at e
    ·rename_i jj ej;cases e;obtain⟨q1,a',zs,ha',hH,rz⟩:=R3.mut ex1;obtain⟨a2,rfl,ha2⟩:=qH (rv.mono x3 r2);rw[ha']at ha2;cases ha2;cases qA r3;refine .inl ⟨_,zs,j,jj,rfl,rfl,hH,by rw[<-Paired.length rz];exact ej,?_⟩;have xx:Ext φ φ3:=x1.trans (x2.trans x3);exact k φ3 _ xx (R3.set q1 ha' (zP (rv.mono (x2.trans x3) r1) jj rz)) σc (rst.mono xx rs)
    ·cases e
   ·split at e
    ·rename_i kvs ed;split at e
     ·rename_i hf;cases e;obtain⟨a',ea,eh,hH⟩:=R3.dct ed;obtain⟨a2,rfl,ha2⟩:=qH (rv.mono x3 r2);rw[ea]at ha2;cases ha2;cases qA r3;have hl:(kvs.map kk).length<sizeLine:=by rw[wG];exact wC hf.2 jh
      have xx:Ext φ φ3:=x1.trans (x2.trans x3);have fw:=Zy hf.1 r1;subst fw;refine .inr ⟨_,_,rfl,L2.DPut.k (k:=.inl j) hH hl,?_⟩;rw[w6];exact k φ3 _ xx (R3.write rfl rfl eh ea qB) σc (rst.mono xx rs)
     ·cases e
    ·cases e
  |_=>cases e
 |_=>cases e
theorem z8(ha:SE X G F ea a)(hc:QA ea=true):SS X G F (.Expr ea pos) (.expr a):=by
 refine Zb (L2.ps_expr ha (QD hc)) λD σc H q=>?_;obtain⟨φ,h,σ,out,h',R,rs,e,k⟩:=q;unfold ex at e;obtain⟨⟨x,h1⟩,e1,e⟩:=Res.bind_inv e;cases e;exact⟨φ,h,σ,x,_,R,rs,e1,λφ1 H1 w x1 R1 r1=>k φ1 H1 x1 R1 σc (rst.mono x1 rs)⟩
theorem qBS(ha:SE X G F ea a):SS X G F (.Return (some ea) pos) (.ret a):=by
 refine Zb (L2.ps_ret ha) λD σc H q=>?_;obtain⟨φ,h,σ,out,h',R,rs,e,k⟩:=q;unfold ex at e;obtain⟨⟨x,h1⟩,e1,e⟩:=Res.bind_inv e;cases e;exact⟨φ,h,σ,x,_,R,rs,e1,λφ1 H1 w x1 R1 r1=>k φ1 H1 x1 R1 w r1⟩
theorem k0:SSs X G F [] .nil:=by
 refine a9 L2.pss_nil λD σc H q=>?_;obtain⟨φ,h,σ,out,h',R,rs,e,k⟩:=q;unfold exs at e;cases e;exact k φ H (.refl _) R σc rs
theorem T3{st:Stmt}{sts:List Stmt}{s:S}{ss:Ss}(h1:SS X G F st s)(h2:SSs X G F sts ss):SSs X G F (st::sts) (.cons s ss):=by
 refine a9 (L2.pss_cons h1 h2) λD σc H q=>?_;obtain⟨φ,h,σ,out,h',R,rs,e,k⟩:=q;unfold exs at e;obtain⟨⟨o,h1⟩,e1,e⟩:=Res.bind_inv e;refine⟨φ,h,σ,o,h1,R,rs,e1,λφ1 H1 x1 R1=>?_⟩;cases o with
 |nx σ1=>exact λσc1 rs1=>⟨φ1,h1,σ1,out,h',R1,rs1,e,k.mono x1⟩
 |rt v=>cases e;exact k φ1 H1 x1 R1
 |bk σ1=>cases e;exact k φ1 H1 x1 R1
 |ct σ1=>cases e;exact k φ1 H1 x1 R1
theorem qAj{t u:List Stmt}{st su:Ss}(hc:ST X G F ec c)(ht:SSs X G F t st)(hu:SSs X G F u su):SS X G F (.If ec t u pos) (.ifs c st su):=by
 refine Zb (L2.ps_if hc ht hu) λD σc H q=>?_;obtain⟨φ,h,σ,out,h',R,rs,e,k⟩:=q;unfold ex at e;obtain⟨⟨x,h1⟩,e1,e⟩:=Res.bind_inv e;refine⟨φ,h,σ,x,h1,R,rs,e1,λφ1 H1 x1 R1=>?_⟩;dsimp only at e;cases x with
 |true=>
  rw[if_pos rfl]at e ⊢;exact⟨φ1,h1,σ,out,h',R1,rst.mono x1 rs,e,k.mono x1⟩
 |false=>
  rw[if_neg (by decide)]at e ⊢;exact⟨φ1,h1,σ,out,h',R1,rst.mono x1 rs,e,k.mono x1⟩
theorem qAV{iter:Expr}{body:List Stmt}{it:Itr}{g:Tg}{sb:Ss}(hx:X.xe=λ_ _=>False)(hc:X.calm=true)(hi:SI X G F tg iter it)(hg:SG X G tg g)(hb:SSs X G F body sb)
  (hs:∀x,foldedSetIterable iter X.env x=pure x):SS X G F (.For tg iter body [] pos) (.for_ g it sb):=by
 refine Zb (L2.ps_for (by rw[hx];exact PassesOwn.never) hc hi hg hb hs) λD σc H q=>?_;obtain⟨φ,h,σ,out,h',R,rs,e,k⟩:=q;unfold ex at e;obtain⟨⟨s,h1⟩,e1,e⟩:=Res.bind_inv e;refine⟨φ,h,σ,s,h1,R,rs,e1,λφ1 H1 J x1 R1 j1=>?_⟩;dsimp only at e;split at e
 ·rename_i n hn;refine⟨λi m σ' H'=>∃φ' h2 σa,Ext φ1 φ'/\Rl X.K G φ' h2 H'/\rst φ' σa σ'/\R9 s g (exs F sb) m i σa h2=.ok (out,h'),⟨n,φ1,h1,σ,.refl _,R1,rst.mono x1 rs,e⟩,?_⟩;rintro i m σ' H' ⟨φ',h2,σa,x2,Ra,rsa,ef⟩;have jj:IsJ X.K φ' s J:=j1.mono x2;cases m with
  |zero=>
   unfold R9 at ef;split at ef
   ·rename_i hst;cases ef;exact .inl ⟨jj.stop Ra hst,k φ' H' (x1.trans x2) Ra σ' rsa⟩
   ·cases ef
  |succ m=>
   unfold R9 at ef;split at ef
   ·rename_i x h3 hy;split at ef
    ·rename_i σ3 hst;refine .inr ⟨jj.go Ra hy,λσ' H'=>∃φ' h2 σa,Ext φ1 φ'/\Rl X.K G φ' h2 H'/\rst φ' σa σ'/\R9 s g (exs F sb) m (i+1) σa h2=.ok (out,h'),λσ2 H2 w=>⟨m,Nat.lt_succ_self _,w⟩,λxv H2 hyl=>?_⟩;obtain⟨φ3,x3,R3,rx⟩:=jj.yld Ra hy hyl;refine⟨φ3,h3,σa,x,σ3,R3,rst.mono x3 rsa,rx,hst,λσc3 rs3=>?_⟩;obtain⟨⟨o,h4⟩,e4,ef⟩:=Res.bind_inv ef;refine⟨φ3,h3,σ3,o,h4,R3,rs3,e4,λφ4 H4 x4 R4=>?_⟩;dsimp only at ef;cases o with
     |nx σ4=>exact λσc4 rs4=>⟨φ4,h4,σ4,x2.trans (x3.trans x4),R4,rs4,ef⟩
     |ct σ4=>exact λσc4 rs4=>⟨φ4,h4,σ4,x2.trans (x3.trans x4),R4,rs4,ef⟩
     |bk σ4=>cases ef;exact k φ4 H4 (x1.trans (x2.trans (x3.trans x4))) R4
     |rt v=>cases ef;exact k φ4 H4 (x1.trans (x2.trans (x3.trans x4))) R4
    ·cases ef
   ·cases ef
 ·cases e
end
structure Gam where
 N:List Str
 sc:Scope
 fns:List Str
 gl:List (Str×E)
 bl:List Str
 own:Str->Bool
 cls:List Str:=[]
 xr:Bool:=false
noncomputable def slot(N:List Str)(x:Str):Option Nat:=(List.range N.length).find? λi=>N[i]?==some x
theorem ze{N:List Str}{x:Str}{i:Nat}(h:slot N x=some i):N[i]?=some x:=by
 unfold slot at h;simpa using List.find?_some h
noncomputable def qCi(sc:Scope)(x:Str):Bool:=match sc.names.lookup x with|some .local=>true|some .cell=>true|some .free=>true|_=>false
theorem y8{sc:Scope}{x:Str}(h:qCi sc x=true):L2.Vis sc x:=by
 unfold qCi at h;unfold L2.Vis;split at h<;>first|(rename_i e;simp[e])|cases h
noncomputable def glB(sc:Scope)(x:Str):Bool:=sc.names.lookup x==some .globalImplicit
noncomputable def okN(x:Str):Bool:=!(x==("__debug__":Str))&&!(x==("__classdict__":Str))&&!decide (x="__name__")
noncomputable def qDF:Operator->Option BOp
 | .Add=>some .add | .Sub=>some .sub | .Mult=>some .mul | .FloorDiv=>some .fdiv | .Mod=>some .mod | .Pow=>some .pow | .LShift=>some .shl|_=>none
theorem n6{o:Operator}{b:BOp}(h:qDF o=some b):o=opB b:=by
 cases o<;>cases h<;>rfl
noncomputable def E7:CmpOp->COp
 | .Lt=>.lt | .LtE=>.le | .Gt=>.gt | .GtE=>.ge | .Eq=>.eq | .NotEq=>.ne | .In=>.inn | .NotIn=>.notin | .Is=>.is | .IsNot=>.isnot
theorem JW(o:CmpOp):o=opC (E7 o):=by cases o<;>rfl
noncomputable def JR:Expr->Bool
 | .Set ..=>false
 |_=>true
noncomputable def Zu:Expr->Bool
 | .Call ..=>false
 |_=>true
noncomputable def bfL:List (Str×BF):=[("len",.len),("sum",.sum),("all",.all),("max",.max),("min",.min),("list",.list),("int",.int)]
noncomputable def qDJ(x:Str):Option BF:=bfL.lookup x
theorem Qh{x:Str}{f:BF}:∀{l:List (Str×BF)},l.lookup x=some f->(x,f)∈l
 | [],h=>by cases h
 | (a,b)::l,h=>by
  rw[List.lookup_cons]at h;split at h
  ·rename_i e;cases h;rw[eq_of_beq e];exact List.mem_cons_self ..
  ·exact List.mem_cons_of_mem _ (Qh h)
theorem qAb:∀p∈bfL,bootBuiltins p.1=some (fnB p.2):=
 wO.mpr ⟨PySem.boot_len,wO.mpr ⟨PyProof.Rows.boot_sum,wO.mpr ⟨PyProof.Rows.boot_all,wO.mpr ⟨PyProof.Rows.boot_max,wO.mpr ⟨PyProof.Rows.boot_min,wO.mpr ⟨PyProof.Rows.boot_list,wO.mpr ⟨PyProof.Rows.boot_int,(λ_ h=>absurd h List.not_mem_nil)⟩⟩⟩⟩⟩⟩⟩
theorem m6{x:Str}{f:BF}(h:qDJ x=some f):bootBuiltins x=some (fnB f):=qAb _ (Qh h)
noncomputable def mt0(m:Str):Option Mt:=if m="pop" then some .pop else if m="reverse" then some .rev else if m="clear" then some .clr else none
noncomputable def qCc(x:Str):Option String:=
 if x="int" then some "int" else if x="bool" then some "bool" else if x="list" then some "list" else if x="tuple" then some "tuple" else if x="str" then some "str" else if x="dict" then some "dict" else none
theorem z4{x:Str}{t:String}(h:qCc x=some t):bootBuiltins x=some (.type t)/\ZO t=true:=by
 unfold qCc at h
 repeat' split at h
 all_goals first|cases h|skip
 all_goals (rename_i hx;subst hx)
 ·exact⟨PyProof.Rows.boot_int,by decide⟩
 ·exact⟨PyProof.Rows.boot_bool,by decide⟩
 ·exact⟨PyProof.Rows.boot_list,by decide⟩
 ·exact⟨PyProof.Rows.boot_tuple,by decide⟩
 ·exact⟨PyProof.Rows.boot_str,by decide⟩
 ·exact⟨PyProof.Rows.boot_dict,by decide⟩
noncomputable def qBz(scope sc:Scope):Scope:=
 { scope with names:=scope.names.map λ(n,k)=>if (k==.free&&sc.kind==.function&&sc.names.lookup n==some .cell) then (n,.cell) else (n,k) }
noncomputable def N4:Expr->List Str
 | .Name x _=>[x]
 | .Tuple es _ _=>es.filterMap λe:Expr=>match e with | .Name x _=>some x|_=>none
 |_=>[]
noncomputable def qAs(scope:Scope):List Str:=scope.names.filterMap λy=>if y.2=.free then some y.1 else none
noncomputable def ZI(Γ:Gam)(scope:Scope)(N:List Str)(src:List (Option Nat)):Bool:=
 decide (scope.kind=.function)&&scope.names.all (λy=>decide (scope.names.lookup y.1=some y.2))
 && scope.names.all (λy=>decide (y.2=.free->(Γ.sc.names.lookup y.1=some .cell\/Γ.sc.names.lookup y.1=some .free)))&&decide N.Nodup&&decide (src.length=N.length)
 && (List.range N.length).all (λi=>match N[i]?,src[i]? with|some x,some (some j)=>decide (Γ.N[j]?=some x/\scope.names.lookup x=some .free)|_,_=>true)
noncomputable def Jn(Γ:Gam)(x:Str):Bool:=match Γ.sc.names.lookup x with|some .local=>true|some .cell=>Γ.own x|_=>false
noncomputable def qBw(Γ:Gam):List Expr->Option (List Nat)
 | []=>some []
 | .Name x _::r=>if Jn Γ x then (match slot Γ.N x,qBw Γ r with|some i,some is=>some (i::is)|_,_=>none) else none
 |_=>none
noncomputable def trT(Γ:Gam):Expr->Option Tg
 | .Name x _=>if Jn Γ x then (slot Γ.N x).map .name else none
 | .Tuple es _ _=>(qBw Γ es).map .tup
 |_=>none
noncomputable def qA9:List Expr->Bool
 | [.Call (.Name r _) [_] [] _]=>decide (r="set")
 |_=>false
noncomputable def qCG:List Expr->Bool
 | [.Call (.Name r _) [_] [] _]=>decide (r="range")
 | [.Call (.Name r _) [_,_] [] _]=>decide (r="range")
 |_=>false
noncomputable def qDK:E->Bool
 |_=>true
mutual
noncomputable def trE:Nat->Gam->Expr->Option E
 | 0,_,_=>none
 |n+1,Γ,e=>match e with
  | .Constant c _ _=>(match c with
   | .int i=>some (.cst (.int i))
   | .bool i=>some (.cst (.bl i))
   | .none=>some (.cst .non)
   | .str i=>some (.cst (.str i))
   |_=>none)
  | .Name x _=>if okN x then (if qCi Γ.sc x then (slot Γ.N x).map .var else if glB Γ.sc x then Γ.gl.lookup x else none) else none
  | .BinOp a op b _=>match qDF op,trE n Γ a,trE n Γ b with|some o,some a',some b'=>some (.bin o a' b')|_,_,_=>none
  | .UnaryOp op a _=>(match op with
   | .USub=>(trE n Γ a).map .neg
   | .Not=>(trE n Γ a).map .not
   |_=>none)
  | .BoolOp op vs p=>trB n Γ op p vs
  | .Compare a ops bs _=>(match ops,bs with
   | [op],[b]=>if JR b then (match trE n Γ a,trE n Γ b with|some a',some b'=>some (.cmp (E7 op) a' b')|_,_=>none) else none
   | [o1,o2],[b,c]=>if JR c then (match trE n Γ a,trE n Γ b,trE n Γ c with|some a',some b',some c'=>some (.cmp2 (E7 o1) (E7 o2) a' b' c')|_,_,_=>none) else none
   |_,_=>none)
  | .Call fn args kws cpos=>(match kws with
   | []=>(match fn with
    | .Name f _=>if okN f&&glB Γ.sc f&&args.all qV then trC n Γ f args else none
    | .Attribute o m apos=>(match args with
     | [x]=>if m="append"/\Zu o=true/\qV x=true/\(apos.endLine==cpos.line)=true then (match trE n Γ o,trE n Γ x with|some o',some x'=>some (.app o' x')|_,_=>none)
   else if m="pop"/\Zu o=true/\qV x=true/\(apos.endLine==cpos.line)=true then (match trE n Γ o,trE n Γ x with|some o',some x'=>some (.meth .popAt o' (.cons x' .nil))|_,_=>none)  else none
     | []=>if m="bit_length" then (if Zu o=true/\(apos.endLine==cpos.line)=true then (trE n Γ o).map (λo'=>.blt .bits (.cons o' .nil)) else none) else if Zu o=true/\(apos.endLine==cpos.line)=true then (match trE n Γ o,mt0 m with|some o',some k=>some (.meth k o' .nil)|_,_=>none) else none
     |_=>none)
    |_=>none)
   | [kw]=>(match fn with
    | .Name f _=>(match args with
     | [x]=>(match kw with
      | ⟨ka,kv,_⟩=>(match kv with
       | .Name g _=>if f="sorted"/\g="max" then (if ka=some "key"/\glB Γ.sc f=true/\glB Γ.sc g=true/\Γ.bl.contains f=true/\Γ.bl.contains g=true/\qV x=true then (trE n Γ x).map .srtm else none) else if f="min"/\ka=some "key"/\okN g=true/\glB Γ.sc f=true/\glB Γ.sc g=true/\Γ.bl.contains f=true/\qV x=true then (match slot Γ.fns g,trE n Γ x with|some i,some x'=>some (.mink i x')|_,_=>none) else none
       |_=>none))
     |_=>none)
    |_=>none)
   |_=>none)
  | .Subscript a b _=>(match b with
   | .Slice lo hi st _=>(match st with
    |none=>(match trE n Γ a,trO n Γ lo,trO n Γ hi with|some a',some l,some h=>some (.sl a' l h)|_,_,_=>none)
    |some _=>none)
   |b=>if QK b then (match trE n Γ a,trE n Γ b with|some a',some b'=>some (.idx a' b')|_,_=>none) else none)
  | .List es _=>if es.all qV then (trA n Γ es).map .lst else none
  | .Tuple es _ _=>if es.all qV then (trA n Γ es).map .tup else none
  | .Dict ks vs _=>(match ks,vs with|[],[]=>some .dnew|_,_=>none)
  | .ListComp elt gens scope _=>(match gens with
   | [gen]=>(match gen with
    | ⟨tg,iter,ifs,asy⟩=>(match asy with
     | 0=>
      let N:=N4 tg++qAs scope
      let src:=(N4 tg).map (λ_=>none)++(qAs scope).map (slot Γ.N)
      let Γ':Gam:={ Γ with N:=N,sc:=qBz scope Γ.sc,own:=λx=>decide (scope.names.lookup x=some .cell) }
      if ZI Γ scope N src&&JR iter then (match trI n Γ tg iter,trT Γ' tg,qAD n Γ' ifs,trE n Γ' elt with|some it,some g,some c,some e'=>some (.comp it src g c e')|_,_,_,_=>none) else none
     |_=>none))
   |_=>none)
  |_=>none
noncomputable def trA:Nat->Gam->List Expr->Option Es
 | 0,_,_=>none
 |_+1,_,[]=>some .nil
 |n+1,Γ,e::es=>match trE n Γ e,trA n Γ es with|some a,some as=>some (.cons a as)|_,_=>none
noncomputable def trB:Nat->Gam->BoolOp->Pos->List Expr->Option E
 | 0,_,_,_,_=>none
 |_+1,_,_,_,[]=>none
 |n+1,Γ,_,_,[a]=>trE n Γ a
 |n+1,Γ,op,p,a::b::r=>match trE n Γ a,trB n Γ op p (b::r) with|some a',some b'=>some (match op with | .And=>.and a' b' | .Or=>.or a' b')|_,_=>none
noncomputable def trC:Nat->Gam->Str->List Expr->Option E
 | 0,_,_,_=>none
 |n+1,Γ,f,args=>match slot Γ.fns f with
  |some i=>(trA n Γ args).map (.call i)
  |none=>if Γ.bl.contains f then
    (if f="isinstance" then (match args with
     | [a,.Name t _]=>if okN t&&glB Γ.sc t&&Γ.bl.contains t then (match trE n Γ a,qCc t with|some a',some t'=>some (.isi a' [t'])|_,_=>none) else none
     |_=>none)
    else if f="list"/\qCG args=true then (match args with
     | [.Call (.Name r _) [a] [] _]=>if okN r&&glB Γ.sc r&&Γ.bl.contains r&&qV a&&decide (r="range") then (trE n Γ a).map .lrng else none
     |_=>none)
    else if f="len"/\qA9 args=true then (match args with
     | [.Call (.Name r _) [a] [] _]=>if okN r&&glB Γ.sc r&&Γ.bl.contains r&&qV a&&decide (r="set") then (trE n Γ a).map .nset else none
     |_=>none)
    else match qDJ f,args with
     |some b,_::_=>(trA n Γ args).map (.blt b)
     |_,_=>none)
   else none
noncomputable def trO:Nat->Gam->Option Expr->Option Es
 | 0,_,_=>none
 |_+1,_,none=>some .nil
 |n+1,Γ,some e=>(trE n Γ e).map λa=>.cons a .nil
noncomputable def qAD:Nat->Gam->List Expr->Option Es
 | 0,_,_=>none
 |_+1,_,[]=>some .nil
 |n+1,Γ,[c]=>(trE n Γ c).map λa=>.cons a .nil
 |_,_,_=>none
noncomputable def trI:Nat->Gam->Expr->Expr->Option Itr
 | 0,_,_,_=>none
 |n+1,Γ,tg,iter=>match iter with
  | .Call (.Name f _) args [] _=>
   if f="range" then (if glB Γ.sc f&&Γ.bl.contains f&&args.all qV then (match args with
    | [a]=>(trE n Γ a).map .rng1
    |_=>none) else none)
   else if f="zip" then (if glB Γ.sc f&&Γ.bl.contains f&&args.all qV then none else none)
   else (trE n Γ iter).map .list
  |_=>(trE n Γ iter).map .list
end
mutual
noncomputable def trS:Nat->Gam->Stmt->S
 | 0,_,_=>.stop
 |n+1,Γ,st=>match st with
  | .Assign ts v _=>(match ts with
   | [tgt]=>(match tgt with
    | .Name x _=>(match trT Γ (.Name x ⟨0,0,0,0⟩),trE 60 Γ v with|some g,some a=>if qDK a then .asg g a else .stop|_,_=>.stop)
    | .Subscript o i _=>if QA v&&QK i then (match trE 60 Γ o,trE 60 Γ i,trE 60 Γ v with|some o',some i',some v'=>.put o' i' v' | _,_,_=>.stop) else .stop
    |_=>.stop)
   |_=>.stop)
  | .Expr e _=>if QA e then (match trE 60 Γ e with|some a=>.expr a|none=>.stop) else .stop
  | .Return r _=>(match r with
   |some e=>(match trE 60 Γ e with|some a=>.ret a|none=>.stop)
   |none=>.stop)
  | .If c t u _=>match trE 60 Γ c with|some c'=>.ifs c' (G9 n Γ t) (G9 n Γ u)|none=>.stop
  | .For tg iter b els _=>(match els with
   | []=>if JR iter then (match trI 60 Γ tg iter,trT Γ tg with|some it,some g=>.for_ g it (G9 n Γ b)|_,_=>.stop) else .stop
   |_=>.stop)
  |_=>.stop
noncomputable def G9:Nat->Gam->List Stmt->Ss
 | 0,_,_=>.cons .stop .nil
 |_+1,_,[]=>.nil
 |n+1,Γ,s::r=>.cons (trS n Γ s) (G9 n Γ r)
end
structure Fit(Γ:Gam)(X:Cx)(G:List Addr)(F:Nat->List V->AH->RV):Prop where
 hN:X.N=Γ.N
 nd:Γ.N.Nodup
 sc:X.env.scope=Γ.sc
 calm:X.calm=true
 fn:∀x,Γ.own x=true->X.fn x=true
 fns:∀(f:Nat) x,Γ.fns[f]?=some x->FnS X G F f x
 gls:∀x e,Γ.gl.lookup x=some e->(∃v u,e=.cst v/\X.mg x=some u/\RelV v u/\∀φ,rv φ v v)\/(∃g a,e=.glob g/\X.mg x=some (.ref a)/\G[g]?=some a)
 blt:∀x,Γ.bl.contains x=true->X.mg x=none
 hu:X.A.units+8<cLine
 gd:X.A.guards=some []
 gtu:∀a∈G,∃o,X.K.lookup a=some o/\o.cls=.type "tuple"/\o.dict=none
section
variable{Γ:Gam}{X:Cx}{G:List Addr}{F:Nat->List V->AH->RV}
theorem Zp{x:Str}(h:okN x=true):(x==("__debug__":Str))=false/\(x==("__classdict__":Str))=false/\x≠"__name__":=by
 unfold okN at h;simp only[Bool.and_eq_true,Bool.not_eq_true',decide_eq_false_iff_not]at h;exact⟨h.1.1,h.1.2,h.2⟩
theorem Fit.gl'(f:Fit Γ X G F){x:Str}(h:glB Γ.sc x=true):L2.Gl X x:=by
 unfold L2.Gl Env.kindOf;rw[f.sc];simpa [glB] using h
theorem Fit.store(f:Fit Γ X G F){x:Str}(h:Jn Γ x=true):L2.Loc X.env.scope x/\(X.fn x=true\/X.env.scope.names.lookup x=some .local):=by
 rw[f.sc];unfold Jn at h;unfold L2.Loc;split at h
 ·rename_i e;exact⟨.inl e,.inr e⟩
 ·rename_i e;exact⟨.inr e,.inl (f.fn x h)⟩
 ·cases h
theorem Y0(f:Fit Γ X G F):∀{es:List Expr}{is:List Nat},qBw Γ es=some is->PGs X es (tGs is)/\(assignEach es X.env).length=is.length/\(assignEach es X.env).findIdx? (·.1)=none
 | [],is,h=>by
  cases h;exact⟨i9,rfl,rfl⟩
 |e::es,is,h=>by
  unfold qBw at h;split at h
  ·rename_i e1;cases e1
  ·rename_i x p r e1;cases e1;split at h
   ·rename_i hs;split at h
    ·rename_i i is' ei eis;cases h;obtain⟨h1,h2⟩:=f.store hs;obtain⟨g1,g2,g3⟩:=Y0 f eis;refine⟨T0 (by rw[f.hN];exact f.nd) (by rw[f.hN];exact ze ei) h1 h2 g1,?_,?_⟩
     ·show (assignEach es X.env).length+1=_;rw[g2];rfl
     ·show (((false,assign (.Name x p) X.env)::assignEach es X.env).findIdx? (·.1))=none;rw[List.findIdx?_cons,g3];rfl
    ·cases h
   ·cases h
  ·cases h
theorem S4(f:Fit Γ X G F){tg:Expr}{g:Tg}(h:trT Γ tg=some g):SG X G tg g:=by
 unfold trT at h;split at h
 ·rename_i x p;split at h
  ·rename_i hs;obtain⟨i,ei,rfl⟩:=Option.map_eq_some_iff.mp h;obtain⟨h1,h2⟩:=f.store hs;exact L0 (by rw[f.hN];exact f.nd) (by rw[f.hN];exact ze ei) h1 h2
  ·cases h
 ·obtain⟨is,ei,rfl⟩:=Option.map_eq_some_iff.mp h;obtain⟨g1,g2,g3⟩:=Y0 f ei;exact qAQ f.calm g1 g2 g3
 ·cases h
theorem G3{op:CmpOp}{e:Expr}(h:JR e=true):behindInMarks op e=false:=by
 cases e<;>first|rfl|cases h
theorem N5{o1 o2:CmpOp}{b c:Expr}(h:JR c=true):lastMarks [o1,o2] [b,c]=false:=by
 show behindInMarks o2 c=false;exact G3 h
theorem O0{iter:Expr}{env:Env}(h:JR iter=true):∀x,foldedSetIterable iter env x=pure x:=by
 intro x;cases iter<;>first|rfl|cases h
theorem JZ{o:Expr}{n:Str}{env:Env}{w:Sem Value}(h:Zu o=true):attributeBase o n env w=w:=by
 cases o<;>first|rfl|cases h
theorem jV(f:Fit Γ X G F){scope:Scope}{N:List Str}{src:List (Option Nat)}(h:ZI Γ scope N src=true):L2.CompScope X scope N src:=by
 unfold ZI at h;simp only[Bool.and_eq_true,wN,vA]at h;obtain⟨⟨⟨⟨⟨h1,h2⟩,h4⟩,h5⟩,h6⟩,h7⟩:=h;refine⟨h1,h2,λy hy hk=>?_,h5,h6,λi x j e1 e2=>?_⟩
 ·unfold Env.kindOf;rw[f.sc];exact h4 y hy hk
 ·have hi:i<N.length:=(List.getElem?_eq_some_iff.mp e1).1;have:=h7 i (wl.mpr hi);rw[e1,e2]at this;rw[f.hN];simpa using this
theorem zk(f:Fit Γ X G F){scope:Scope}{N:List Str}{src:List (Option Nat)}(h:ZI Γ scope N src=true)(C:Addr)(fp:List Addr)(s:Shared)(H:Hp):
  Fit { Γ with N:=N,sc:=qBz scope Γ.sc,own:=λx=>decide (scope.names.lookup x=some .cell) } (L2.cxComp X scope C fp s H N) G F:=by
 have S:=jV f h;refine⟨rfl,S.nd,?_,f.calm,λx z=>z,λg x e=>?_,f.gls,f.blt,f.hu,f.gd,f.gtu⟩
 ·show relabel scope X.env=qBz scope Γ.sc;unfold relabel qBz Env.kindOf;rw[f.sc]
 ·exact⟨(f.fns g x e).ex⟩
theorem U5{m:Str}{k:Mt}{o:Expr}{a:E}{apos cpos:Pos}(hk:mt0 m=some k)(hbase:attributeBase o m X.env (eval o X.env)=eval o X.env)(hline:(apos.endLine==cpos.line)=true)(ha:SE X G F o a):SE X G F (.Call (.Attribute o m apos) [] [] cpos) (.meth k a .nil):=by
 unfold mt0 at hk;split at hk
 ·rename_i e;subst e;cases hk;exact z6 hbase hline ha
 ·split at hk
  ·rename_i e;subst e;cases hk;exact n9 hbase hline ha
  ·split at hk
   ·rename_i e;subst e;cases hk;exact y7 hbase hline ha
   ·cases hk
theorem C9(n:Nat):
  (∀ Γ e a,trE n Γ e=some a->∀X:Cx,Fit Γ X G F->SE X G F e a/\ST X G F e a)/\
  (∀ Γ es as,trA n Γ es=some as->es.all qV=true->∀X:Cx,Fit Γ X G F->SA X G F es as)/\
  (∀ Γ op p vs a,trB n Γ op p vs=some a->∀X:Cx,Fit Γ X G F->SE X G F (.BoolOp op vs p) a/\SW X G F (.BoolOp op vs p) a)/\
  (∀ Γ f args a,trC n Γ f args=some a->okN f=true->glB Γ.sc f=true->args.all qV=true->∀X:Cx,Fit Γ X G F->∀p pos,SE X G F (.Call (.Name f p) args [] pos) a)/\
  (∀ Γ o as,trO n Γ o=some as->∀X:Cx,Fit Γ X G F->SO X G F o as)/\
  (∀ Γ ifs as,qAD n Γ ifs=some as->∀X:Cx,Fit Γ X G F->SC X G F ifs as)/\
  (∀ Γ tg iter it,trI n Γ tg iter=some it->∀X:Cx,Fit Γ X G F->SI X G F tg iter it):=by
 induction n with
 |zero=>exact⟨(λ_ _ _ h=>by unfold trE at h;cases h),(λ_ _ _ h=>by unfold trA at h;cases h),(λ_ _ _ _ _ h=>by unfold trB at h;cases h),(λ_ _ _ _ h=>by unfold trC at h;cases h),(λ_ _ _ h=>by unfold trO at h;cases h),(λ_ _ _ h=>by unfold qAD at h;cases h),(λ_ _ _ _ h=>by unfold trI at h;cases h)⟩
 |succ n ih=>
  obtain⟨iE,iA,iB,iC,iO,iIf,iI⟩:=ih;refine⟨?_,?_,?_,?_,?_,?_,?_⟩
  ·intro Γ e a h X f;unfold trE at h;split at h
   ·split at h
    ·cases h;exact⟨d5,qM d5 λ_=>rfl⟩
    ·cases h;exact⟨qAa,qM qAa λ_=>rfl⟩
    ·cases h;exact⟨c8,qM c8 λ_=>rfl⟩
    ·cases h;exact⟨Z3,qM Z3 λ_=>rfl⟩
    ·cases h
   ·rename_i x p;split at h
    ·rename_i ho;obtain⟨o1,o2,o3⟩:=Zp ho;split at h
     ·rename_i hv;obtain⟨i,ei,rfl⟩:=Option.map_eq_some_iff.mp h;have s1:SE X G F (.Name x p) (.var i):=qAY (by rw[f.hN];exact ze ei) (by rw[f.sc];exact y8 hv) o1 o2;exact⟨s1,qM s1 λ_=>rfl⟩
     ·split at h
      ·rename_i hg;rcases f.gls x a h with⟨v,u,rfl,e1,e2,e3⟩|⟨g,ad,rfl,e1,e2⟩
       ·have s1:SE X G F (.Name x p) (.cst v):=u5 (f.gl' hg) e1 e2 e3 o1;exact⟨s1,qM s1 λ_=>rfl⟩
       ·have s1:SE X G F (.Name x p) (.glob g):=q9 (f.gl' hg) e1 e2 o1;exact⟨s1,qM s1 λ_=>rfl⟩
      ·cases h
    ·cases h
   ·split at h
    ·rename_i o a' b' eo ea eb;cases h;rw[n6 eo];exact⟨Z8 (iE _ _ _ ea X f).1 (iE _ _ _ eb X f).1,qM (Z8 (iE _ _ _ ea X f).1 (iE _ _ _ eb X f).1) λ_=>rfl⟩
    ·cases h
   ·split at h
    ·obtain⟨a',ea,rfl⟩:=Option.map_eq_some_iff.mp h;have s1:=qA3 (pos:=‹Pos›) (iE _ _ _ ea X f).1;exact⟨s1,qM s1 λ_=>rfl⟩
    ·obtain⟨a',ea,rfl⟩:=Option.map_eq_some_iff.mp h;exact⟨qBi (iE _ _ _ ea X f).1,qBC (iE _ _ _ ea X f).2⟩
    ·cases h
   ·obtain⟨s1,s2⟩:=iB _ _ _ _ _ h X f;exact⟨s1,s2.pt⟩
   ·split at h
    ·rename_i op b0;split at h
     ·rename_i hs;split at h
      ·rename_i a' b' ea eb;cases h;rw[JW op];have e1:E7 (opC (E7 op))=E7 op:=by cases op<;>rfl
       rw[e1];exact⟨qBb f.hu (iE _ _ _ ea X f).1 (iE _ _ _ eb X f).1 (G3 hs),qBP f.hu (iE _ _ _ ea X f).1 (iE _ _ _ eb X f).1 (G3 hs)⟩
      ·cases h
     ·cases h
    ·rename_i o1 o2 b0 c0;split at h
     ·rename_i hs;split at h
      ·rename_i a' b' c' ea eb ec;cases h;rw[JW o1,JW o2];have e1:E7 (opC (E7 o1))=E7 o1:=by cases o1<;>rfl
       have e2:E7 (opC (E7 o2))=E7 o2:=by cases o2<;>rfl
       rw[e1,e2];exact⟨T9 f.hu (iE _ _ _ ea X f).1 (iE _ _ _ eb X f).1 (iE _ _ _ ec X f).1 (N5 hs),U4 f.hu (iE _ _ _ ea X f).1 (iE _ _ _ eb X f).1 (iE _ _ _ ec X f).1 (N5 hs)⟩
      ·cases h
     ·cases h
    ·cases h
   ·split at h
    ·split at h
     ·split at h
      ·rename_i hc;simp only[Bool.and_eq_true]at hc;have s1:=iC _ _ _ _ h hc.1.1 hc.1.2 hc.2 X f;exact⟨s1 _ _,qM (s1 _ _) λ_=>rfl⟩
      ·cases h
     ·split at h
      ·split at h
       ·rename_i hc;obtain⟨rfl,hc1,hc2,hc3⟩:=hc;split at h
        ·rename_i o' x' eo ex;cases h;have s1:=qAW (JZ hc1) hc3 hc2 (iE _ _ _ eo X f).1 (iE _ _ _ ex X f).1;exact⟨s1,qM s1 λ_=>rfl⟩
        ·cases h
       ·split at h
        ·rename_i hc;obtain⟨rfl,hc1,hc2,hc3⟩:=hc;split at h
         ·rename_i o' x' eo ex;cases h;have s1:=U3 (JZ hc1) hc3 hc2 (iE _ _ _ eo X f).1 (iE _ _ _ ex X f).1;exact⟨s1,qM s1 λ_=>rfl⟩
         ·cases h
        ·cases h
      ·split at h
       ·rename_i hm;subst hm;split at h
        ·rename_i hc;obtain⟨o',eo,rfl⟩:=Option.map_eq_some_iff.mp h;have s1:=z0 f.calm f.hu f.gd (JZ hc.1) hc.2 (iE _ _ _ eo X f).1;exact⟨s1,qM s1 λ_=>rfl⟩
        ·cases h
       split at h
       ·rename_i hc;obtain⟨hc1,hc3⟩:=hc;split at h
        ·rename_i o' k eo ek;cases h;have s1:=U5 ek (JZ hc1) hc3 (iE _ _ _ eo X f).1;exact⟨s1,qM s1 λ_=>rfl⟩
        ·cases h
       ·cases h
      ·cases h
     ·cases h
    ·split at h
     ·split at h
      ·split at h;split at h
       ·split at h
        ·rename_i hm;obtain⟨rfl,rfl⟩:=hm;split at h
         ·rename_i hc;obtain⟨rfl,c3,c4,c5,c6,c7⟩:=hc;obtain⟨a',ea,rfl⟩:=Option.map_eq_some_iff.mp h;exact⟨Q0 (f.gl' c3) (f.blt _ c5) (f.gl' c4) (f.blt _ c6) c7 f.calm (iE _ _ _ ea X f).1,qM (Q0 (f.gl' c3) (f.blt _ c5) (f.gl' c4) (f.blt _ c6) c7 f.calm (iE _ _ _ ea X f).1) λ_=>rfl⟩
         ·cases h
        split at h
        ·rename_i hc;obtain⟨rfl,rfl,c3,c4,c5,c6,c7⟩:=hc;split at h
         ·rename_i i x' ei ex;cases h;exact⟨(M7 (f.fns _ _ (ze ei)) (f.gl' c5) (Zp c3).1 (f.gl' c4) (f.blt _ c6) c7 f.calm (iE _ _ _ ex X f).1),qM (M7 (f.fns _ _ (ze ei)) (f.gl' c5) (Zp c3).1 (f.gl' c4) (f.blt _ c6) c7 f.calm (iE _ _ _ ex X f).1) λ_=>rfl⟩
         ·cases h
        ·cases h
       ·cases h
      ·cases h
     ·cases h
    ·cases h
   ·split at h
    ·split at h
     ·split at h
      ·rename_i a' l h' ea el eh;cases h;exact⟨qA4 (iE _ _ _ ea X f).1 (iO _ _ _ el X f) (iO _ _ _ eh X f),qM (qA4 (iE _ _ _ ea X f).1 (iO _ _ _ el X f) (iO _ _ _ eh X f)) λ_=>rfl⟩
      ·cases h
     ·cases h
    ·split at h
     ·rename_i hs;split at h
      ·rename_i a' b' ea eb;cases h;have s1:=qBF (pos:=‹Pos›) hs (iE _ _ _ ea X f).1 (iE _ _ _ eb X f).1;exact⟨s1,qM s1 λ_=>rfl⟩
      ·cases h
     ·cases h
   ·split at h
    ·rename_i hs;obtain⟨a',ea,rfl⟩:=Option.map_eq_some_iff.mp h;have s1:=qBg (pos:=‹Pos›) (iA _ _ _ ea hs X f);exact⟨s1,qM s1 λ_=>rfl⟩
    ·cases h
   ·split at h
    ·rename_i hs;obtain⟨a',ea,rfl⟩:=Option.map_eq_some_iff.mp h;exact⟨d3 (iA _ _ _ ea hs X f),qM (d3 (iA _ _ _ ea hs X f)) λ_=>rfl⟩
    ·cases h
   ·split at h
    ·cases h;exact⟨K4,qM K4 λ_=>rfl⟩
    ·cases h
   ·split at h
    ·split at h;split at h
     ·dsimp only at h;split at h
      ·rename_i hc;simp only[Bool.and_eq_true]at hc;split at h
       ·rename_i it g c e' ei eg ec ee;cases h;have s1:=Q9 (pos:=‹Pos›) f.calm (iI _ _ _ _ ei X f) (jV f hc.1) (λC fp s H=>S4 (zk f hc.1 C fp s H) eg) (λC fp s H=>iIf _ _ _ ec _ (zk f hc.1 C fp s H)) (λC fp s H=>(iE _ _ _ ee _ (zk f hc.1 C fp s H)).1) (O0 hc.2);exact⟨s1,qM s1 λ_=>rfl⟩
       ·cases h
      ·cases h
     ·cases h
    ·cases h
   ·cases h
  ·intro Γ es as h hs X f;cases es with
   |nil=>simp only[trA]at h;cases h;exact Y7
   |cons e es=>
    simp only[trA]at h;simp only[List.all_cons,Bool.and_eq_true]at hs;split at h
    ·rename_i a as ea eas;cases h;exact O9 hs.1 (iE _ _ _ ea X f).1 (iA _ _ _ eas hs.2 X f)
    ·cases h
  ·intro Γ op p vs a h X f;cases vs with
   |nil=>simp only[trB]at h;cases h
   |cons e r=>
    cases r with
    |nil=>
     simp only[trB]at h;obtain⟨s1,s2⟩:=iE _ _ _ h X f;refine⟨L2.pe_one s1,?_⟩;cases op with
     |And=>exact L2.pw_and1 s2
     |Or=>exact L2.pw_or1 s2
    |cons b r=>
     simp only[trB]at h;split at h
     ·rename_i a' b' ea eb;cases h;obtain⟨s1,s2⟩:=iE _ _ _ ea X f;obtain⟨s3,s4⟩:=iB _ _ _ _ _ eb X f;cases op with
      |And=>exact⟨qBM s1 s3,qAP s2 s4⟩
      |Or=>exact⟨qCm s1 s3,qCf s2 s4⟩
     ·cases h
  ·intro Γ g args a h ho hg hs X f p pos;obtain⟨o1,o2,o3⟩:=Zp ho;unfold trC at h;split at h
   ·rename_i i ei;obtain⟨as,ea,rfl⟩:=Option.map_eq_some_iff.mp h;have sA:=iA _ _ _ ea hs X f;cases args with
    |nil=>
     have:as=.nil:=by
      cases n with
      |zero=>simp only[trA]at ea;cases ea
      |succ m=>simp only[trA]at ea;cases ea;rfl
     subst this;exact T6 (f.fns i g (ze ei)) (f.gl' hg) o1
    |cons e es=>
     simp only[List.all_cons,Bool.and_eq_true]at hs;exact m9 (f.fns i g (ze ei)) (f.gl' hg) o1 hs.1 hs.2 sA
   ·split at h
    ·rename_i hb;split at h
     ·rename_i hi;subst hi;split at h
      ·rename_i e0 t pt;split at h
       ·rename_i hc;simp only[Bool.and_eq_true]at hc;obtain⟨t1,t2,t3⟩:=Zp hc.1.1;split at h
        ·rename_i a' t' ea et;cases h;obtain⟨b1,b2⟩:=z4 et;simp only[List.all_cons,Bool.and_eq_true]at hs;exact qBJ b2 (f.gl' hg) (f.blt _ hb) (f.gl' hc.1.2) (f.blt _ hc.2) b1 t3 t1 hs.1 (iE _ _ _ ea X f).1
        ·cases h
       ·cases h
      ·cases h
     ·split at h
      ·rename_i hl;obtain⟨rfl,_⟩:=hl;split at h
       ·rename_i r pr e0 pc;split at h
        ·rename_i hc;simp only[Bool.and_eq_true,vA]at hc;obtain⟨⟨⟨⟨c1,c2⟩,c3⟩,c4⟩,rfl⟩:=hc;obtain⟨a',ea,rfl⟩:=Option.map_eq_some_iff.mp h;exact y1 f.calm (f.gl' hg) (f.blt _ hb) (f.gl' c2) (f.blt _ c3) c4 (iE _ _ _ ea X f).1
        ·cases h
       ·cases h
      rename_i hneg;clear hneg;split at h
      ·rename_i hl;obtain⟨rfl,_⟩:=hl;split at h
       ·rename_i r pr e0 pc;split at h
        ·rename_i hc;simp only[Bool.and_eq_true,vA]at hc;obtain⟨⟨⟨⟨c1,c2⟩,c3⟩,c4⟩,rfl⟩:=hc;obtain⟨a',ea,rfl⟩:=Option.map_eq_some_iff.mp h;exact g9 f.calm (f.gl' hg) (f.blt _ hb) (f.gl' c2) (f.blt _ c3) c4 (iE _ _ _ ea X f).1
        ·cases h
       ·cases h
      rename_i hneg;clear hneg;split at h
      ·rename_i b e es eb;obtain⟨as,ea,rfl⟩:=Option.map_eq_some_iff.mp h;have sA:=iA _ _ _ ea hs X f;simp only[List.all_cons,Bool.and_eq_true]at hs;exact qA5 f.calm f.hu f.gd (f.gl' hg) (f.blt _ hb) (m6 eb) hs.1 hs.2 sA o3 o1
      ·cases h
    ·cases h
  ·intro Γ o as h X f;cases o with
   |none=>simp only[trO]at h;cases h;exact p9
   |some e=>
    simp only[trO]at h;obtain⟨a,ea,rfl⟩:=Option.map_eq_some_iff.mp h;exact r6 (iE _ _ _ ea X f).1
  ·intro Γ ifs as h X f;cases ifs with
   |nil=>simp only[qAD]at h;cases h;exact qBA
   |cons e r=>
    cases r with
    |nil=>
     simp only[qAD]at h;obtain⟨a,ea,rfl⟩:=Option.map_eq_some_iff.mp h;exact qBf (iE _ _ _ ea X f).2
    |cons b r=>simp only[qAD]at h;cases h
  ·intro Γ tg iter it h X f;unfold trI at h;split at h
   ·rename_i fn p args pos;split at h
    ·rename_i hf;subst hf;split at h
     ·rename_i hc;simp only[Bool.and_eq_true]at hc;split at h
      ·rename_i e;obtain⟨a,ea,rfl⟩:=Option.map_eq_some_iff.mp h;have hs:=hc.2;simp only[List.all_cons,Bool.and_eq_true]at hs;exact k9 (f.gl' hc.1.1) (f.blt _ hc.1.2) hs.1 (iE _ _ _ ea X f).1
      ·cases h
     ·cases h
    ·split at h
     ·rename_i hf;subst hf;split at h
      ·rename_i hc;simp only[Bool.and_eq_true]at hc;cases h
      ·cases h
     ·obtain⟨a,ea,rfl⟩:=Option.map_eq_some_iff.mp h;exact N1 (iE _ _ _ ea X f).1
   ·obtain⟨a,ea,rfl⟩:=Option.map_eq_some_iff.mp h;exact N1 (iE _ _ _ ea X f).1
end
open L2 (FnOk Fun zE Binds Room)
section
variable{G:List Addr}{F:Nat->List V->AH->RV}
theorem Qx{Γ:Gam}{X:Cx}(f:Fit Γ X G F)(hx:∀x,Γ.own x=true){n:Nat}{elt:Expr}{gens:List Comprehension}{scope:Scope}{cpos p pos:Pos}{a:E}{x:Str}{g:Tg}(hd:qDK a=true)(h:trE n Γ (.ListComp elt gens scope cpos)=some a)
  (hg:trT Γ (.Name x ⟨0,0,0,0⟩)=some g):SS X G F (.Assign [.Name x p] (.ListComp elt gens scope cpos) pos) (.asg g a):=by
 cases n with
 |zero=>unfold trE at h;cases h
 |succ n=>
  unfold trT at hg;dsimp only at hg;split at hg
  ·rename_i hs;obtain⟨i,ei,rfl⟩:=Option.map_eq_some_iff.mp hg;obtain⟨h1,h2⟩:=f.store hs;obtain⟨iE,iA,iB,iC,iO,iIf,iI⟩:=C9 (G:=G) (F:=F) n;unfold trE at h;dsimp only at h;split at h
   ·split at h;split at h
    ·split at h
     ·rename_i hc;simp only[Bool.and_eq_true]at hc;split at h
      ·rename_i it g c e' ei' eg ec ee;cases h;exact n8 f.calm (iI _ _ _ _ ei' X f) (jV f hc.1) (λC fp s H=>S4 (zk f hc.1 C fp s H) eg) (λC fp s H=>iIf _ _ _ ec _ (zk f hc.1 C fp s H)) (λC fp s H=>(iE _ _ _ ee _ (zk f hc.1 C fp s H)).1) (O0 hc.2) (by rw[f.hN];exact f.nd) (by rw[f.hN];exact ze ei) h1 h2
      ·cases h
     ·cases h
    ·cases h
   ·cases h
  ·cases hg
theorem K5(n:Nat):(∀ Γ st (X:Cx),Fit Γ X G F->(∀x,Γ.own x=true)->X.xe=(λ_ _=>False)->SS X G F st (trS n Γ st))/\(∀ Γ sts (X:Cx),Fit Γ X G F->(∀x,Γ.own x=true)->X.xe=(λ_ _=>False)->SSs X G F sts (G9 n Γ sts)):=by
 induction n with
 |zero=>
  refine⟨fun Γ st X f ho hx=>?_,fun Γ sts X f ho hx=>?_⟩
  ·unfold trS;exact qi
  ·unfold G9;intro pins s σ H D I q;obtain⟨φ,h,σa,o,h',R,rs,e,k⟩:=q;unfold exs ex at e;cases e
 |succ n ih=>
  obtain⟨i1,i2⟩:=ih;obtain⟨iE,iA,iB,iC,iO,iIf,iI⟩:=C9 (G:=G) (F:=F) 60;refine⟨fun Γ st X f ho hx=>?_,fun Γ sts X f ho hx=>?_⟩
  ·unfold trS;split
   ·split
    ·split
     ·rename_i v pos _ _ x p;split
      ·rename_i g a eg ea;split
       ·rename_i hd;by_cases hc:QA v=true
        ·refine Zb (L2.ps_asg (iE _ _ _ ea X f).1 (S4 f (tg:=.Name x p) eg) (Qg hc) (by cases v<;>rfl) rfl) λ_ _ _=>P9
        ·cases v with
         |ListComp elt gens scope cpos=>exact Qx f ho hd ea eg
         |SetComp elt gens scope cpos=>unfold trE at ea;cases ea
         |DictComp k elt gens scope cpos=>unfold trE at ea;cases ea
         |_=>exact absurd rfl hc
       ·exact qi
      ·exact qi
     ·split
      ·rename_i hc;simp only[Bool.and_eq_true]at hc;split
       ·rename_i o' i' v' eo ei ev;exact qBD f.hu (iE _ _ _ eo X f).1 (iE _ _ _ ei X f).1 (iE _ _ _ ev X f).1 hc.1 hc.2
       ·exact qi
      ·exact qi
     ·exact qi
    ·exact qi
   ·split
    ·rename_i hc;split
     ·rename_i a ea;exact z8 (iE _ _ _ ea X f).1 hc
     ·exact qi
    ·exact qi
   ·split
    ·split
     ·rename_i a ea;exact qBS (iE _ _ _ ea X f).1
     ·exact qi
    ·exact qi
   ·split
    ·rename_i a ea;exact qAj (iE _ _ _ ea X f).2 (i2 _ _ X f ho hx) (i2 _ _ X f ho hx)
    ·exact qi
   ·split
    ·split
     ·rename_i hs;split
      ·rename_i it g ei eg;exact qAV hx f.calm (iI _ _ _ _ ei X f) (S4 f eg) (i2 _ _ X f ho hx) (O0 hs)
      ·exact qi
     ·exact qi
    ·exact qi
   ·exact qi
  ·cases sts with
   |nil=>unfold G9;exact k0
   |cons s r=>unfold G9;exact T3 (i1 _ _ X f ho hx) (i2 _ _ X f ho hx)
end
theorem len1{α:Type}{us:List α}(h:us.length=1):∃a,us=[a]:=List.length_eq_one_iff.mp h
theorem len2{α:Type}{us:List α}(h:us.length=2):∃a b,us=[a,b]:=by
 cases us with
 |nil=>cases h
 |cons a r=>obtain⟨b,rfl⟩:=len1 (us:=r) (by simpa using h);exact⟨a,b,rfl⟩
theorem len3{α:Type}{us:List α}(h:us.length=3):∃a b c,us=[a,b,c]:=by
 cases us with
 |nil=>cases h
 |cons a r=>obtain⟨b,c,rfl⟩:=len2 (us:=r) (by simpa using h);exact⟨a,b,c,rfl⟩
structure D2 where
 x:Str
 st:Stmt
 ps:List Str
 N:List Str
structure Tbl where
 ds:List D2
 gl:List (Str×E)
 bl:List Str
 cls:List Str:=[]
 xr:List Str:=[]
noncomputable def Tbl.gam(T:Tbl)(d:D2):Gam:=⟨d.N,L2.defScope d.st,T.ds.map (·.x),T.gl,T.bl,λ_=>true,T.cls,T.xr.contains d.x⟩
noncomputable def Tbl.fn(T:Tbl)(d:D2):Fn:=⟨d.ps.length,d.N.length,G9 60 (T.gam d) (L2.defBody d.st)⟩
noncomputable def Tbl.fns(T:Tbl):List Fn:=T.ds.map T.fn
structure T8(K:PySem.W.Frag)(mg:Str->Option Value)(G:List Addr)(T:Tbl)(fa:List Addr)(fd:List FuncData):Prop where
 def_:∀(i:Nat) d,T.ds[i]?=some d->∃a f,fa[i]?=some a/\fd[i]?=some f/\Fun K d.x d.x d.st a f/\zE d.N d.ps (L2.defScope d.st)/\mg d.x=some (.ref a)/\Binds K f d.ps []
 gls:∀x e,T.gl.lookup x=some e->(∃v u,e=.cst v/\mg x=some u/\RelV v u/\∀φ,rv φ v v)\/(∃g a,e=.glob g/\mg x=some (.ref a)/\G[g]?=some a)
 blt:∀x,T.bl.contains x=true->mg x=none
 gtu:∀a∈G,∃o,K.lookup a=some o/\o.cls=.type "tuple"/\o.dict=none
theorem L9{φ:List Addr}{ws vs:List V}(r:rvs φ ws vs)(n:Nat):rst φ (ws.map some++List.replicate n none) (vs.map some++List.replicate n none):=by
 refine qK ?_ ?_
 ·induction r with
  |nil=>exact .nil
  |cons h t ih=>exact .cons ⟨_,rfl,h⟩ ih
 ·induction n with
  |zero=>exact .nil
  |succ n ih=>exact .cons trivial ih
section
variable{P:Program}{w:World}{K:PySem.W.Frag}{mg:Str->Option Value}{base:Heap}{G:List Addr}{T:Tbl}{fa:List Addr}{fd:List FuncData}
theorem qAX{k i:Nat}{d:D2}(h1:T.ds[i]?=some d){ws:List V}{h h':AH}{v:V}(e:Fk T.fns (k+1) i ws h=.ok (v,h')):ws.length=d.ps.length/\d.ps.length<=d.N.length/\∃o,exs (Fk T.fns k) (G9 60 (T.gam d) (L2.defBody d.st)) (ws.map some++List.replicate (d.N.length-d.ps.length) none) h=.ok (o,h')/\
  ((∃σ,o=.nx σ/\v=.non)\/o=.rt v):=by
 unfold Fk at e;have ht:T.fns[i]?=some (T.fn d):=by unfold Tbl.fns;rw[wQ,h1];rfl
 rw[ht]at e;dsimp only at e;split at e
 ·rename_i hc;obtain⟨⟨o,h2⟩,e2,e⟩:=Res.bind_inv e;have e4:exs (Fk T.fns k) (G9 60 (T.gam d) (L2.defBody d.st)) (ws.map some++List.replicate (d.N.length-d.ps.length) none) h=.ok (o,h2):=e2;refine⟨hc.1,hc.2,o,?_,?_⟩
  ·cases o<;>cases e<;>exact e4
  ·cases o with
   |nx σ=>cases e;exact .inl ⟨σ,rfl,rfl⟩
   |rt u=>cases e;exact .inr rfl
   |bk σ=>cases e
   |ct σ=>cases e
 ·cases e
theorem qAd(O:T8 K mg G T fa fd){k:Nat}{d:D2}(f0:∀(i:Nat) d a f,T.ds[i]?=some d->fa[i]?=some a->fd[i]?=some f->FnOk P w K mg base L2.CX0 (2*k) a f d.ps (spF G (Fk T.fns k) K i))
  (hS:zE d.N d.ps (L2.defScope d.st)) (CX:L2.CXT) (a:Addr) (cdv:Value) (A:Around) (outer:List Env) (s:Shared) (H:Hp) (E:L2.XK) (E2:Value->Shared->Prop) (hr:Room (2*k+1) (A.deeper (envOfC d.x (L2.defScope d.st) s.heap.objs.size a cdv))):
  Fit (T.gam d) ((L2.cxOf CX P w K mg base d.N d.x (L2.defScope d.st) a cdv A outer s H E).wish E2) G (Fk T.fns k):=by
 have get:∀(g:Nat) x,(T.gam d).fns[g]?=some x->∃d2 a2 f2,T.ds[g]?=some d2/\d2.x=x/\fa[g]?=some a2/\fd[g]?=some f2/\mg x=some (.ref a2)/\PySem.W.keepIn K (.ref a2)=true/\Binds K f2 d2.ps []:=λg x eg=>by
  have eg':(T.ds.map (·.x))[g]?=some x:=eg;rw[wQ]at eg';cases hd:T.ds[g]? with
  |none=>rw[hd]at eg';cases eg'
  |some d2=>
   rw[hd]at eg';cases eg';obtain⟨a2,f2,q1,q2,q3,q4,q5,q6⟩:=O.def_ g d2 hd;exact⟨d2,a2,f2,rfl,rfl,q1,q2,q5,q3.kp,q6⟩
 refine⟨rfl,hS.nd,rfl,rfl,λ_ _=>rfl,λg x eg=>?_,O.gls,O.blt,?_,hr.gd,O.gtu⟩
 ·obtain⟨d2,a2,f2,q1,rfl,q2,q3,q4,q5,q6⟩:=get g x eg;exact⟨2*k,a2,f2,d2.ps,f0 g d2 a2 f2 q1 q2 q3,hr.mono (Nat.le_succ _),q4,q5,q6,hr.in1⟩
 ·have:=hr.units;show (A.deeper (envOfC d.x (L2.defScope d.st) s.heap.objs.size a cdv)).units+8<cLine;omega
theorem Jq(O:T8 K mg G T fa fd):∀(k:Nat) (i:Nat) d a f,T.ds[i]?=some d->fa[i]?=some a->fd[i]?=some f->FnOk P w K mg base L2.CX0 (2*k) a f d.ps (spF G (Fk T.fns k) K i)
 | 0=>λi d a f h1 h2 h3=>⟨(λvs H Q E h=>by obtain⟨_,_,_,_,_,_,_,e,_⟩:=h;unfold Fk at e;cases e),(λA outer s H args us vs Q E hr e0 hb r h=>by obtain⟨_,_,_,_,_,_,_,e,_⟩:=h;unfold Fk at e;cases e)⟩
 |k+1=>by
  have f0:=Jq O k;refine λi d a f h1 h2 h3=>?_;obtain⟨a',f',e1,e2,hF,hS,hm,hB⟩:=O.def_ i d h1;rw[h2]at e1;cases e1;rw[h3]at e2;cases e2;refine hF.ok hS (λvs H Q E h=>?_) (λcdv A outer s H vs Q E hr h=>?_)
  ·obtain⟨φ,h0,ws,v,h',R,r,e,_⟩:=h;rw[<-Paired.length r];exact(qAX h1 e).1
  ·obtain⟨φ,h0,ws,v,h',R,r,e,kk⟩:=h;obtain⟨l1,l2,o,eo,ho⟩:=qAX h1 e;have fit:=qAd O f0 hS L2.CX0 a cdv A outer s H E (λ_ _=>False) hr;refine⟨_,(K5 (G:=G) (F:=Fk T.fns k) 60).2 (T.gam d) (L2.defBody d.st) _ fit (λ_=>rfl) rfl,φ,h0,_,o,h',R,?_,eo,λφ' H' x' R'=>?_⟩
   ·unfold L2.start;rw[<-Paired.length r,l1];exact L9 r _
   ·rcases ho with⟨σ,rfl,rfl⟩|rfl
    ·exact λσc _=>kk φ' H' .non x' R' trivial
    ·exact λu ru=>kk φ' H' u x' R' ru
end
noncomputable def V7(K:PySem.W.Frag):L2.Sp:=λvs H Q _=>∃(a:Addr) (ns:List Int),vs=[.ref a]/\L2.Only H/\SqL K H a (ns.map V.int)/\ns.length<=63/\∀H',Q (.bl true) H'
noncomputable def Zt(gs:List O)(ns:List Int):AH:=gs++[.lst true (ns.map V.int)]
def Jt(K:PySem.W.Frag):List Addr->List O->Prop
 | [],[]=>True
 |a::as,.tup xs::os=>(SqT K (λ_=>none) a xs/\xs.all flat=true)/\Jt K as os
 |_,_=>False
theorem ZF{φ:List Addr}:∀{xs:List V},xs.all flat=true->rvs φ xs xs
 | [],_=>.nil
 |x::xs,h=>by
  simp only[List.all_cons,Bool.and_eq_true]at h;refine .cons ?_ (ZF h.2);cases x<;>first|rfl|exact trivial|(cases h.1)
theorem T5{K:PySem.W.Frag}{H:Hp}{a:Addr}{xs:List V}(q:SqT K (λ_=>none) a xs):SqT K H a xs:=by
 rcases q with(h|⟨o,h⟩)|h
 ·cases h
 ·cases h
 ·exact .inr h
theorem Qa{K:PySem.W.Frag}:∀{as:List Addr}{os:List O},Jt K as os->as.length=os.length/\∀(i:Nat) o a,os[i]?=some o->as[i]?=some a->∃xs,o=.tup xs/\SqT K (λ_=>none) a xs/\xs.all flat=true
 | [],[],_=>⟨rfl,λi o a h=>by simp at h⟩
 | [],_::_,h=>False.elim h
 |_::_,[],h=>False.elim h
 |a::as,.lst _ _::os,h=>False.elim h
 |a::as,.tup xs::os,h=>by
  obtain⟨h1,h2⟩:=h;obtain⟨l,k⟩:=Qa h2;refine⟨by simp[l],λi o b e1 e2=>?_⟩;cases i with
  |zero=>simp at e1 e2;subst e1 e2;exact⟨xs,rfl,h1⟩
  |succ i=>exact k i o b (by simpa using e1) (by simpa using e2)
theorem K3{P:Program}{w:World}{K:PySem.W.Frag}{mg:Str->Option Value}{base:Heap}{G:List Addr}{gs:List O}{T:Tbl}{fa:List Addr}{fd:List FuncData}(O:T8 K mg G T fa fd)(hG:Jt K G gs){k i:Nat}{d:D2}{a:Addr}{f:FuncData}
  (h1:T.ds[i]?=some d) (h2:fa[i]?=some a) (h3:fd[i]?=some f) (hp:d.ps=(["_law_script"]:List Str)) (main:∀ns:List Int,ns.length<=63->∃h',Fk T.fns k i [.ref gs.length] (Zt gs ns)=.ok (.bl true,h')):
  FnOk P w K mg base L2.CX0 (2*k) a f (["_law_script"]:List Str) (V7 K):=by
 have F:=Jq (P:=P) (w:=w) (base:=base) O k i d a f h1 h2 h3;rw[hp]at F;refine⟨λvs H Q E h=>by obtain⟨b,ns,rfl,_⟩:=h;rfl,λA outer s H args us vs Q E hr e0 hb r h=>?_⟩;obtain⟨b,ns,rfl,hO,hS,hl,q⟩:=h;obtain⟨h',e⟩:=main ns hl;obtain⟨lg,kg⟩:=Qa hG;refine F.run A outer s H args us _ Q E hr e0 hb r ⟨G++[b],Zt gs ns,[.ref gs.length],.bl true,h',⟨by unfold Zt;simp[lg],⟨[b],rfl⟩,λj o c e1 e2=>?_,λj l xs ys c e1 e2 e3 e4=>?_⟩,.cons (by show (G++[b])[gs.length]?=some b;rw[<-lg];simp) .nil,e,λφ' H' u x' R' ru=>by rw[zA ru];exact q H'⟩
 ·unfold Zt at e1;by_cases hj:j<gs.length
  ·rw[List.getElem?_append_left hj]at e1;rw[List.getElem?_append_left (by omega)]at e2;obtain⟨xs,rfl,h5,h6⟩:=kg j o c e1 e2;exact⟨xs,T5 h5,ZF h6⟩
  ·have hj':j=gs.length:=by
    have:=(List.getElem?_eq_some_iff.mp e1).1;simp at this;omega
   subst hj';simp at e1;rw[<-lg]at e2;simp at e2;subst e1 e2;refine⟨ns.map V.int,?_,ZF (QL ns)⟩;rcases hS with(z|⟨ob,z⟩)|z
   ·rcases hO b with y|⟨ob,xs,y⟩<;>(rw[y]at z;cases z)
   ·exact .inl ⟨ob,z⟩
   ·exact .inr (.inr z)
 ·have no:∀{m:Nat}{z:PI.O},z.mu=true->(Zt gs ns)[m]?=some z->False:=λ{m zs} mz em=>by
   unfold Zt at em;by_cases hj:m<gs.length
   ·rw[List.getElem?_append_left hj]at em;obtain⟨xs,ex,_⟩:=kg m _ (G[m]'(by omega)) em (wA (by omega));subst ex;cases mz
   ·have hj':m=gs.length:=by
     have:=(List.getElem?_eq_some_iff.mp em).1;simp at this;omega
    subst hj';simp at em;subst em;cases mz
  exact(no ‹_› ‹_›).elim
open L2
abbrev qAT(K:PySem.W.Frag)(d:D2):Prop:=∃(f:Addr) (oc:Value) (od an:Option Addr) (sl:Array (Option Value)) (kV dc pm cd ct:Value),PySem.W.nsIn K mainGlobals d.x=some (some (.ref f))/\K.lookup f=some ⟨oc,od,.func (PySem.W.fnOf d.x d.x (zL d.st) (defBody d.st) (defScope d.st) .none kV dc pm an cd ct),sl⟩/\PySem.W.codeIn K cd d.x=true/\PySem.W.keepIn K (.ref f)=true
structure z9(d:D2):Prop where
 sc:zE d.N d.ps (defScope d.st)
 bd:∀(kV doc pm:Value) (an:Option Addr) (cdv ct:Value) (us:List Value),us.length=d.ps.length->bindArgs (PySem.W.fnOf d.x d.x (zL d.st) (defBody d.st) (defScope d.st) .none kV doc pm an cdv ct) ⟨us,[]⟩=pure (d.ps.zip us)
theorem c9{K:PySem.W.Frag}{h:Heap}{mg:Str->Option Value}(X:K.In h)(G:h.Ns mainGlobals mg):∀(ds:List D2),(∀d∈ds,qAT K d)->(∀d∈ds,z9 d)->∃(fa:List Addr) (fd:List FuncData),∀(i:Nat) d,ds[i]?=some d->∃a f,fa[i]?=some a/\fd[i]?=some f/\Fun K d.x d.x d.st a f/\zE d.N d.ps (L2.defScope d.st)/\mg d.x=some (.ref a)/\Binds K f d.ps []
 | [],_,_=>⟨[],[],λi d h=>by simp at h⟩
 |d::ds,h,hk=>by
  obtain⟨fa,fd,k⟩:=c9 X G ds (λx hx=>h x (by simp[hx])) λx hx=>hk x (by simp[hx]);obtain⟨f,oc,od,an,sl,kV,dc,pm,cd,ct,h1,h2,h3,h4⟩:=h d (by simp);have hd:=hk d (by simp);refine⟨f::fa,PySem.W.fnOf d.x d.x (zL d.st) (defBody d.st) (defScope d.st) .none kV dc pm an cd ct::fd,λi e he=>?_⟩;cases i with
  |zero=>cases he;exact⟨_,_,rfl,rfl,X6 h2 h3 h4,hd.sc,PySem.W.mg_of X G h1,(X6 h2 h3 h4).binds hd.bd⟩
  |succ i=>exact k i e he
theorem qCt{K:PySem.W.Frag}{d:D2}{a:Addr}{f:FuncData}{x:Str}(F:Fun K d.x d.x d.st a f)(h:z9 d)(hp:d.ps=[x])(s:Shared)(v:Value):BindsTo s f ⟨[v],[]⟩ [(x,v)]:=by
 obtain⟨oc,od,kV,doc,pm,an,cdv,ct,osl,rfl,lk,hcd⟩:=F.ex;refine .of_eq ?_;rw[h.bd kV doc pm an cdv ct [v] (by rw[hp];rfl),hp];rfl
inductive T where
 |v (x:V)|cell (n:Nat)|fz (xs:List T)|lst (xs:List T)|tup (xs:List T)|ob (o:Ob)
noncomputable abbrev Mem:=List (List T)
noncomputable abbrev TS:=List (Option T)
inductive PR(α:Type)|ok(a:α)|exc(c:Nat)(M:Mem)|stuck
noncomputable def PR.bind{α β:Type}:PR α->(α->PR β)->PR β
 | .ok a,f=>f a
 | .exc c M,_=>.exc c M
 | .stuck,_=>.stuck
@[simp] theorem PR.bind_ok{α β:Type}(a:α)(f:α->PR β):(PR.ok a).bind f=f a:=Eq.trans rfl rfl
@[simp] theorem PR.bind_stuck{α β:Type}(f:α->PR β):(PR.stuck:PR α).bind f=.stuck:=Eq.trans rfl rfl
noncomputable def PR.nx{α:Type}:PR α->PR α
 | .ok a=>.ok a
 | .exc _ _=>.stuck
 | .stuck=>.stuck
@[simp] theorem PR.nx_ok{α:Type}(a:α):(PR.ok a).nx=.ok a:=Eq.trans rfl rfl
@[simp] theorem PR.nx_stuck{α:Type}:(PR.stuck:PR α).nx=.stuck:=Eq.trans rfl rfl
noncomputable def PR.ofO{α:Type}:Option α->PR α
 |some a=>.ok a
 |none=>.stuck
@[simp] theorem PR.ofO_some{α:Type}(a:α):PR.ofO (some a)=.ok a:=Eq.trans rfl rfl
mutual
noncomputable def T.lf:T->Bool
 | .v _=>true
 | .ob (.exn _)=>true
 | .tup ts=>T.lfs ts
 |_=>false
noncomputable def T.lfs:List T->Bool
 | []=>true
 |t::ts=>T.lf t&&T.lfs ts
end
mutual
noncomputable def T.und(n:Nat):T->Bool
 | .v _=>true
 | .ob _=>true
 | .cell k=>decide (k<n)
 | .fz ts=>T.unds n ts
 | .lst ts=>T.unds n ts
 | .tup ts=>T.unds n ts
noncomputable def T.unds(n:Nat):List T->Bool
 | []=>true
 |t::ts=>T.und n t&&T.unds n ts
end
mutual
noncomputable def T.beq:T->T->Bool
 | .v x,.v y=>decide (x=y)
 | .cell x,.cell y=>decide (x=y)
 | .fz x,.fz y=>T.beqs x y
 | .lst x,.lst y=>T.beqs x y
 | .tup x,.tup y=>T.beqs x y
 | .ob x,.ob y=>decide (x=y)
 |_,_=>false
noncomputable def T.beqs:List T->List T->Bool
 | [],[]=>true
 |x::xs,y::ys=>T.beq x y&&T.beqs xs ys
 |_,_=>false
end
noncomputable abbrev QB:=List (Nat×List T)
noncomputable def qd(d:QB)(M:Mem):Bool:=d.all λp=>match M[p.1]? with|some ts=>T.beqs ts p.2|none=>false
noncomputable def T.its(M:Mem):T->Option (List T)
 | .lst xs=>some xs | .tup xs=>some xs | .fz xs=>some xs | .cell n=>M[n]? | _=>none
noncomputable def T.lis(M:Mem):T->Option (List T)
 | .lst xs=>some xs | .fz xs=>some xs | .cell n=>M[n]? | _=>none
noncomputable def T.mu(M:Mem):T->Option (List T)
 | .lst xs=>some xs | .cell n=>M[n]? | _=>none
noncomputable def qR:List T->Option (List Int)
 | []=>some []
 | .v (.int i)::r=>(qR r).map (i::·)
 |_::_=>none
noncomputable def zu:List T->Option (List Int)
 | []=>some []
 | .v (.int i)::r=>(zu r).map (i::·)
 | .v (.bl b)::r=>(zu r).map ((if b=true then 1 else 0)::·)
 |_=>none
noncomputable def zU:List T->Option (List Bool)
 | []=>some []
 | .v (.bl i)::r=>(zU r).map (i::·)
 |_::_=>none
noncomputable def zx:List T->Option (List V)
 | []=>some []
 | .v x::r=>(zx r).map (x::·)
 |_::_=>none
noncomputable def qe(f:T->T->Option Bool):List T->List T->Option (List Bool)
 | [],[]=>some []
 |x::xs,y::ys=>match f x y,qe f xs ys with
  |some b,some bs=>some (b::bs)
  |_,_=>none
 |_,_=>none
noncomputable def T.isV:T->Option V | .v x=>some x|_=>none
noncomputable def eqT(M:Mem):Nat->T->T->Option Bool
 | 0,s,t=>match s.isV,t.isV with|some x,some y=>eqF x y|_,_=>none
 |n+1,s,t=>match s.isV,t.isV with
  |some x,some y=>eqF x y
  |some _,none=>if (t.its M).isSome then some false else none
  |none,some _=>if (s.its M).isSome then some false else none
  |none,none=>match s.lis M,t.lis M with
   |some xs,some ys=>if xs.length=ys.length then (qe (eqT M n) xs ys).map λbs=>bs.all id else some false
   |some _,none=>if (t.its M).isSome then some false else none
   |none,some _=>if (s.its M).isSome then some false else none
   |none,none=>match s.its M,t.its M with
    |some xs,some ys=>if xs.length=ys.length then (qe (eqT M n) xs ys).map λbs=>bs.all id else (qe (eqT M n) (xs.take ys.length) (ys.take xs.length)).map λ_=>false
    |_,_=>none
noncomputable def Qt(xs:List T)(lo hi:Option Int):List T:=(xs.drop (HT.sIx xs.length 0 lo)).take (HT.sIx xs.length xs.length hi-HT.sIx xs.length 0 lo)
noncomputable abbrev TB:=T×Bool
noncomputable def iT(i:Int):TB:=(.v (.int i),true)
noncomputable def bT(b:Bool):TB:=(.v (.bl b),true)
noncomputable def lT(xs:List T):TB:=(.lst xs,T.lfs xs)
noncomputable def R7(x:T)(xs:List T)(lo hi:Option Int):Option TB:=match x with
 | .tup _=>if HT.sIx xs.length 0 lo=0/\HT.sIx xs.length xs.length hi=xs.length then none else some (.tup (Qt xs lo hi),T.lfs (Qt xs lo hi))
 |_=>some (lT (Qt xs lo hi))
noncomputable def qv(M:Mem)(op:BOp)(x y:T):Option TB:=match x.isV,y.isV with
 |some (.int i),some (.int j)=>match op with
  | .add=>some (iT (i+j))
  | .sub=>some (iT (i-j))
  | .mul=>if jk i||jk j||(mid i&&mid j) then some (iT (i*j)) else none
  | .fdiv=>if 0<j/\(j<1073741824\/mid j=true) then some (iT (i / j)) else if j<0/\mid j=true then some (iT (i.fdiv j)) else none
  | .mod=>if 0<j then some (iT (i % j)) else if j<0 then some (iT (i.fmod j)) else none
  | .pow=>if 0<=j/\j<=1000/\i.natAbs<18446744073709551616 then some (iT (i ^ j.toNat)) else none
  | .shl=>if 0<=j/\j<=1000/\i.natAbs<18446744073709551616 then some (iT (i*2 ^ j.toNat)) else none
 |none,some (.int k)=>match op with
  | .mul=>(x.mu M).bind λxs=>if 0<=k/\xs.length*k.toNat<=lim/\k<1000000 then some (lT (List.replicate k.toNat xs).flatten) else none
  |_=>none
 |none,none=>match op with
  | .add=>(match x,y with
   | .tup xs,.tup ys=>if xs≠[]/\xs.length+ys.length<=lim then some (.tup (xs++ys),T.lfs (xs++ys)) else none
   |x,y=>(x.mu M).bind λxs=>(y.mu M).bind λys=>if xs.length+ys.length<=lim then some (lT (xs++ys)) else none)
  |_=>none
 |_,_=>none
noncomputable def T.dct:T->Option (List (Int×V))
 | .ob (.dct kvs)=>some kvs
 |_=>none
noncomputable def inT(M:Mem)(x y:T):Option Bool:=match y.dct with
 |some kvs=>(match x with | .v (.int i)=>some (qAB kvs i)|_=>none)
 |none=>x.isV.bind λa=>(y.its M).bind λts=>(zx ts).map λxs=>xs.any λz=>L2.eqV z a
noncomputable def zN(M:Mem)(op:COp)(x y:T):Option Bool:=match op with
 | .eq=>eqT M 4 x y
 | .ne=>(eqT M 4 x y).map (!·)
 | .inn=>inT M x y
 | .notin=>(inT M x y).map (!·)
 | .is=>match y.isV with|some .non=>some (match x.isV with|some .non=>true|_=>false)|some (.bl d)=>(match x.isV with|some (.bl c)=>some (c==d)|_=>none)|_=>none
 | .isnot=>match y.isV with|some .non=>some (match x.isV with|some .non=>false|_=>true)|some (.bl d)=>(match x.isV with|some (.bl c)=>some (!(c==d))|_=>none)|_=>none
 | .lt=>match x.isV,y.isV with|some (.int i),some (.int j)=>some (decide (i<j))|_,_=>none
 | .le=>match x.isV,y.isV with|some (.int i),some (.int j)=>some (decide (i<=j))|_,_=>none
 | .gt=>match x.isV,y.isV with|some (.int i),some (.int j)=>some (decide (j<i))|_,_=>none
 | .ge=>match x.isV,y.isV with|some (.int i),some (.int j)=>some (decide (j<=i))|_,_=>none
noncomputable def Y2(as:List T)(f:T->Option TB):Option TB:=match as with
 | [a]=>f a
 |_=>none
theorem zm{as:List T}{f:T->Option TB}{r:TB}(e:Y2 as f=some r):∃a,as=[a]/\f a=some r:=by
 unfold Y2 at e;split at e
 ·exact⟨_,rfl,e⟩
 ·cases e
noncomputable def twoT(as:List T)(f:Int->Int->Option TB):Option TB:=match as with
 | [a,b]=>(match a with
  | .v (.int i)=>(match b with | .v (.int j)=>f i j|_=>none)
  |_=>none)
 |_=>none
theorem twoT_inv{as:List T}{f:Int->Int->Option TB}{r:TB}(e:twoT as f=some r):∃i j,as=[.v (.int i),.v (.int j)]/\f i j=some r:=by
 unfold twoT at e;split at e
 ·split at e
  ·split at e
   ·exact⟨_,_,rfl,e⟩
   ·cases e
  ·cases e
 ·cases e
noncomputable def jA(M:Mem):BF->List T->Option TB
 | .len,as=>Y2 as λa=>(a.its M).map λxs=>iT xs.length
 | .sum,as=>Y2 as λa=>(a.lis M).bind λxs=>(zu xs).map λis=>iT is.sum
 | .all,as=>Y2 as λa=>(a.lis M).bind λxs=>(zU xs).map λbs=>bT (bs.all id)
 | .max,as=>twoT as λi j=>some (iT (if j>i then j else i))
 | .min,as=>twoT as λi j=>some (iT (if j<i then j else i))
 | .list,as=>Y2 as λa=>(a.its M).map lT
 | .int,as=>Y2 as λa=>(match a with | .v (.int i)=>some (iT i) | .v (.bl b)=>some (iT (if b then 1 else 0))|_=>none)
 | .bits,as=>Y2 as λa=>(match a with | .v (.int i)=>some (iT ((PySem.Builtin.Int.intBits i:Nat):Int))|_=>none)
noncomputable def T.isC(n:Nat):T->Bool | .cell k=>decide (k=n)|_=>false
noncomputable def E5:Mt->Nat->List T->Mem->Option (TB×Mem)
 | .pop,n,[],M=>(M[n]?).bind λxs=>(xs[xs.length-1]?).map λy=>((y,y.lf),M.set n xs.dropLast)
 | .popAt,n,[.v (.int i)],M=>(M[n]?).bind λxs=>if xs.length<=lim then (ixN xs.length i).bind λk=>(xs[k]?).map λy=>((y,y.lf),M.set n (xs.eraseIdx k)) else none
 | .rev,n,[],M=>(M[n]?).map λxs=>((.v .non,true),M.set n xs.reverse)
 | .clr,n,[],M=>(M[n]?).map λ_=>((.v .non,true),M.set n [])
 | .ins,n,[.v (.int i),t],M=>(M[n]?).bind λxs=>if 0<=i/\i<=xs.length/\xs.length<lim then some ((.v .non,true),M.set n (xs.take i.toNat++t::xs.drop i.toNat)) else none
 |_,_,_,_=>none
noncomputable def zW(M:Mem):T->Option String
 | .v .non=>some "NoneType"
 | .v (.bl _)=>some "bool"
 | .v (.int _)=>some "int"
 | .v (.str _)=>some "str"
 | .v _=>none
 | .tup _=>some "tuple"
 | .cell n=>(M[n]?).map λ_=>"list"
 | .ob (.dct _)=>some "dict"
 | .ob _=>none
 |_=>some "list"
noncomputable def h9(M:Mem)(t:T):Option Int:=(t.lis M).bind λus=>(qR us).bind R8
noncomputable def qCe(r:PR (TB×Mem)):Option Int:=match r with
 | .ok p=>(match p.1.1 with | .v (.int k)=>if p.2.isEmpty=true then some k else none|_=>none)
 |_=>none
noncomputable def T.tx:T->Option PySem.Str
 | .v (.str y)=>some y
 |_=>none
noncomputable def jO(M:Mem)(x y:T):Option TB:=match y with
 | .v (.int i)=>(x.its M).bind λxs=>(ixN xs.length i).bind λj=>(xs[j]?).map λt=>(t,t.lf)
 |_=>none
noncomputable def qAM:List Nat->List T->TS->Option TS
 | [],[],σ=>some σ
 |i::is,x::xs,σ=>qAM is xs (σ.set i (some x))
 |_,_,_=>none
noncomputable def qw:Tg->T->TS->Option TS
 | .name i,t,σ=>some (σ.set i (some t))
 | .tup is,.tup ts,σ=>qAM is ts σ
 | .tup _,_,_=>none
noncomputable def qh(src:List (Option Nat))(σ:TS):TS:=src.map λo=>match o with|none=>none|some j=>(σ[j]?).join
noncomputable def ql(lo:Int)(n:Nat):List T:=(List.range n).map λ(i:Nat)=>.v (.int (lo+(i:Int)))
noncomputable def jg(M:Mem):T->Option (List T×QB)
 | .lst ts=>some (ts,[])
 | .fz ts=>some (ts,[])
 | .tup ts=>some (ts,[])
 | .cell n=>(M[n]?).map λts=>(ts,[(n,ts)])
 |_=>none
noncomputable def qCS(M:Mem):T->Option (List T×QB)
 | .lst ts=>some (ts,[])
 | .fz ts=>some (ts,[])
 | .cell n=>(M[n]?).map λts=>(ts,[(n,ts)])
 |_=>none
noncomputable def qQ(d:QB)(g:Tg)(c:TS->Mem->PR (Bool×Mem))(e:TS->Mem->PR (TB×Mem)):List T->List T->Bool->TS->Mem->PR (TB×Mem)
 | [],ys,f,_,M=>.ok ((.lst ys,f),M)
 |x::r,ys,f,σ,M=>match qw g x σ with
  |some σ1=>(c σ1 M).bind λ(b,M2)=>
   if b then (e σ1 M2).bind λ(y,M3)=>if ys.length<lim/\qd d M3=true then qQ d g c e r (ys++[y.1]) (f&&y.2) σ1 M3 else .stuck
   else if qd d M2=true then qQ d g c e r ys f σ1 M2 else .stuck
  |none=>.stuck
noncomputable def pB(r:PR (TB×Mem)):PR (Bool×Mem):=r.bind λ(x,M)=>match x.1 with | .v (.bl b)=>.ok (b,M)|_=>.stuck
section
variable (gl:List T)(P:Nat->List T->Mem->PR (TB×Mem))
mutual
noncomputable def pe:E->TS->Mem->PR (TB×Mem)
 | .var i=>λσ M=>match σ[i]? with|some (some t)=>.ok ((t,t.lf),M)|_=>.stuck
 | .cst v=>λ_ M=>if flat v then .ok ((.v v,true),M) else .stuck
 | .glob g=>λ_ M=>match gl[g]? with|some t=>.ok ((t,t.lf),M)|none=>.stuck
 | .bin op a b=>λσ M=>(pe a σ M).bind λ(x,M1)=>(pe b σ M1).bind λ(y,M2)=>(PR.ofO (qv M2 op x.1 y.1)).bind λr=>.ok (r,M2)
 | .neg a=>λσ M=>(pe a σ M).bind λ(x,M1)=>match x.1 with | .v (.int i)=>.ok (iT (-i),M1)|_=>.stuck
 | .cmp op a b=>λσ M=>(pe a σ M).bind λ(x,M1)=>(pe b σ M1).bind λ(y,M2)=>(PR.ofO (zN M2 op x.1 y.1)).bind λr=>.ok (bT r,M2)
 | .cmp2 o1 o2 a b c=>λσ M=>(pe a σ M).bind λ(x,M1)=>(pe b σ M1).bind λ(y,M2)=>(PR.ofO (zN M2 o1 x.1 y.1)).bind λr=>
  if r then (pe c σ M2).bind λ(z,M3)=>(PR.ofO (zN M3 o2 y.1 z.1)).bind λr=>.ok (bT r,M3) else .ok (bT false,M2)
 | .and a b=>λσ M=>(pB (pe a σ M)).bind λ(x,M1)=>if x then pe b σ M1 else .ok (bT false,M1)
 | .or a b=>λσ M=>(pB (pe a σ M)).bind λ(x,M1)=>if x then .ok (bT true,M1) else pe b σ M1
 | .not a=>λσ M=>(pB (pe a σ M)).bind λ(x,M1)=>.ok (bT (!x),M1)
 | .call f as=>λσ M=>(pes as σ M).bind λ(xs,M1)=>(P f (xs.map (·.1)) M1).nx
 | .blt f as=>λσ M=>(pes as σ M).bind λ(xs,M1)=>(PR.ofO (jA M1 f (xs.map (·.1)))).bind λr=>.ok (r,M1)
 | .isi a ts=>λσ M=>(pe a σ M).bind λ(x,M1)=>(PR.ofO (zW M1 x.1)).bind λt=>.ok (bT (ts.any (zp t)),M1)
 | .idx a b=>λσ M=>(pe a σ M).bind λ(x,M1)=>(pe b σ M1).bind λ(y,M2)=>(PR.ofO (jO M2 x.1 y.1)).bind λr=>.ok (r,M2)
 | .sl a lo hi=>λσ M=>(pe a σ M).bind λ(x,M1)=>(pes lo σ M1).bind λ(l,M2)=>(pes hi σ M2).bind λ(u,M3)=>
  (PR.ofO (x.1.its M3)).bind λxs=>(PR.ofO (qR (l.map (·.1)))).bind λl=>(PR.ofO (qR (u.map (·.1)))).bind λu=>(PR.ofO (R7 x.1 xs l.head? u.head?)).bind λr=>.ok (r,M3)
 | .lst as=>λσ M=>(pes as σ M).bind λ(xs,M1)=>if xs.length<=lim then .ok ((.lst (xs.map (·.1)),xs.all (·.2)),M1) else .stuck
 | .tup as=>λσ M=>(pes as σ M).bind λ(xs,M1)=>if xs.length<=lim then .ok ((.tup (xs.map (·.1)),xs.all (·.2)),M1) else .stuck
 | .comp it src g c e=>λσ M=>(pei it σ M).bind λ(s,M1)=>qQ s.2 g (pec c) (pe e) s.1 [] true (qh src σ) M1
 | .app a b=>λσ M=>(pe a σ M).bind λ(x,M1)=>match x.1 with
  | .cell n=>(pe b σ M1).bind λ(y,M2)=>match M2[n]? with
   |some xs=>if xs.length<lim then .ok ((.v .non,true),M2.set n (xs++[y.1])) else .stuck
   |none=>.stuck
  |_=>.stuck
 | .nset a=>λσ M=>(pe a σ M).bind λ(x,M1)=>match (x.1.lis M1).bind qR with|some is=>if is.length<1000 then .ok ((.v (.int ((difs is:Nat):Int)),true),M1) else .stuck|none=>.stuck
 | .mink f a=>λσ M=>if T.unds 0 gl=true then (pe a σ M).bind λ(x,M1)=>(PR.ofO (x.1.lis M1)).bind λxs=>(PR.ofO (qR xs)).bind λis=>(PR.ofO (qBH (λi=>qCe (P f [.v (.int i)] [])) is)).bind λv=>.ok (iT v,M1) else .stuck
 | .srtm a=>λσ M=>(pe a σ M).bind λ(x,M1)=>(PR.ofO (x.1.lis M1)).bind λxs=>(PR.ofO (xs.mapM (h9 M1))).bind λks=>if ks.length<64/\ks.Nodup then .ok (lT (Jc ks xs),M1) else .stuck
 | .lrng a=>λσ M=>(pe a σ M).bind λ(x,M1)=>match x.1 with | .v (.int j)=>if -1000000<=j/\j<=100000 then .ok ((.lst (ql 0 j.toNat),true),M1) else .stuck|_=>.stuck
 | .dnew=>λ_ M=>.ok ((.ob (.dct []),true),M)
 | .meth m a as=>λσ M=>(pe a σ M).bind λ(x,M1)=>match x.1 with
  | .cell n=>(pes as σ M1).bind λ(ys,M2)=>PR.ofO (E5 m n (ys.map (·.1)) M2)
  |_=>.stuck
noncomputable def pes:Es->TS->Mem->PR (List TB×Mem)
 | .nil=>λ_ M=>.ok ([],M)
 | .cons a as=>λσ M=>(pe a σ M).bind λ(x,M1)=>(pes as σ M1).bind λ(xs,M2)=>.ok (x::xs,M2)
noncomputable def pec:Es->TS->Mem->PR (Bool×Mem)
 | .nil=>λ_ M=>.ok (true,M)
 | .cons a _=>λσ M=>pB (pe a σ M)
noncomputable def pei:Itr->TS->Mem->PR ((List T×QB)×Mem)
 | .list a=>λσ M=>(pe a σ M).bind λ(x,M1)=>(PR.ofO (jg M1 x.1)).bind λs=>.ok (s,M1)
 | .rng1 a=>λσ M=>(pe a σ M).bind λ(x,M1)=>match x.1 with | .v (.int j)=>if -1000000<=j/\j<=1000000 then .ok ((ql 0 j.toNat,[]),M1) else .stuck|_=>.stuck
end
inductive PO|nx(σ:TS)|rt(t:TB)|bk(σ:TS)|ct(σ:TS)
noncomputable abbrev RSt:=PR (PO×Mem)
noncomputable def zC(d:QB)(g:Tg)(b:TS->Mem->RSt):List T->TS->Mem->RSt
 | [],σ,M=>.ok (.nx σ,M)
 |x::r,σ,M=>match qw g x σ with
  |some σ1=>(b σ1 M).bind λ(o,M2)=>match o with
   | .nx σ2=>if qd d M2=true then zC d g b r σ2 M2 else .stuck
   | .ct σ2=>if qd d M2=true then zC d g b r σ2 M2 else .stuck
   | .bk σ2=>.ok (.nx σ2,M2)
   | .rt t=>.ok (.rt t,M2)
  |none=>.stuck
mutual
noncomputable def thaw(n:Nat):T->T×Mem
 | .lst ts=>let r:=QH n ts;(.cell (n+r.2.length),r.2++[r.1])
 | .tup ts=>let r:=QH n ts;(.tup r.1,r.2)
 |t=>(t,[])
noncomputable def QH(n:Nat):List T->List T×Mem
 | []=>([],[])
 |t::ts=>let r:=thaw n t;let q:=QH (n+r.2.length) ts;(r.1::q.1,r.2++q.2)
end
noncomputable def qBI:E->Bool
 | .bin .add _ _=>true
 | .lst _=>true
 |_=>false
variable (C:List Nat)
mutual
noncomputable def px:S->TS->Mem->RSt
 | .asg g e=>λσ M=>(pe gl P e σ M).bind λ(x,M1)=>match g with
  | .name i=>if C.contains i&&x.2 then .ok (.nx (σ.set i (some (thaw M1.length x.1).1)),M1++(thaw M1.length x.1).2) else if C.contains (i+1000)&&qBI e then (match x.1 with | .lst ts=>.ok (.nx (σ.set i (some (.cell M1.length))),M1++[ts])|_=>.stuck) else .ok (.nx (σ.set i (some x.1)),M1)
  |g=>match qw g x.1 σ with|some σ1=>.ok (.nx σ1,M1)|none=>.stuck
 | .put o i v=>λσ M=>(pe gl P v σ M).bind λ(x,M1)=>(pe gl P o σ M1).bind λ(p,M2)=>(pe gl P i σ M2).bind λ(k,M3)=>match p.1,k.1 with
  | .cell n,.v (.int k)=>match M3[n]? with
   |some xs=>match ixN xs.length k with|some j=>.ok (.nx σ,M3.set n (xs.set j x.1))|none=>.stuck
   |none=>.stuck
  |_,_=>.stuck
 | .expr e=>λσ M=>(pe gl P e σ M).bind λ(_,M1)=>.ok (.nx σ,M1)
 | .ret e=>λσ M=>(pe gl P e σ M).bind λ(x,M1)=>.ok (.rt x,M1)
 | .ifs c t u=>λσ M=>(pB (pe gl P c σ M)).bind λ(x,M1)=>if x then pxs t σ M1 else pxs u σ M1
 | .for_ g it b=>λσ M=>(pei gl P it σ M).bind λ(s,M1)=>zC s.2 g (pxs b) s.1 σ M1
 | .stop=>λ_ _=>.stuck
noncomputable def pxs:Ss->TS->Mem->RSt
 | .nil=>λσ M=>.ok (.nx σ,M)
 | .cons s r=>λσ M=>(px s σ M).bind λ(o,M1)=>match o with
  | .nx σ1=>pxs r σ1 M1
  |o=>.ok (o,M1)
end
end
noncomputable def qP(M:Mem)(n0:Nat):Nat->T->Option T
 | 0,t=>if t.und n0 then some t else none
 |d+1,t=>if t.und n0 then some t else match t with
  | .lst ts=>(ts.mapM (qP M n0 d)).map .lst
  | .tup ts=>(ts.mapM (qP M n0 d)).map .tup
  | .cell n=>(M[n]?).bind λts=>(ts.mapM (qP M n0 d)).map .lst
  |_=>none
noncomputable def jv(M:Mem)(n0:Nat):Nat->T->Option (List Nat)
 | 0,t=>if t.lf then some [] else none
 |d+1,t=>if t.lf then some [] else match t with
  | .tup ts=>(ts.mapM (jv M n0 d)).map List.flatten
  | .cell n=>if n0<=n then (M[n]?).bind λts=>(ts.mapM (jv M n0 d)).map λl=>l.flatten++[n] else none
  |_=>none
noncomputable def frR(M:Mem)(n0:Nat)(t:T):Bool:=match jv M n0 6 t with|some l=>decide l.Nodup|none=>false
noncomputable def finish(n0:Nat)(x:TB)(M:Mem):PR (TB×Mem):=
 if M.length=n0 then .ok (x,M) else if (M.take n0).all (T.unds n0) then (PR.ofO (qP M n0 6 x.1)).bind λt=>.ok ((t,x.2||frR M n0 x.1),M.take n0) else .stuck
noncomputable def JJ(n0:Nat):RSt->PR (TB×Mem)
 | .ok (.nx _,M1)=>finish n0 (.v .non,true) M1
 | .ok (.rt t,M1)=>finish n0 t M1
 | .ok (_,_)=>.stuck
 | .exc c M1=>if M1.length=n0 then .exc c M1 else if (M1.take n0).all (T.unds n0) then .exc c (M1.take n0) else .stuck
 | .stuck=>.stuck
noncomputable def Pk(gl:List T)(tb:List Fn)(Cs:List (List Nat)):Nat->Nat->List T->Mem->PR (TB×Mem)
 | 0,_,_,_=>.stuck
 |k+1,f,vs,M=>match tb[f]? with
  |some d=>if vs.length=d.npar/\d.npar<=d.nslot then JJ M.length (pxs gl (Pk gl tb Cs k) (Cs.getD f []) d.body (vs.map some++List.replicate (d.nslot-d.npar) none) M)
   else .stuck
  |none=>.stuck
def zQ{α β:Type}(R:α->β->Prop):List α->List β->Prop
 | [],vs=>vs=[]
 |t::ts,vs=>∃v vs',vs=v::vs'/\R t v/\zQ R ts vs'
section
variable{α β:Type}{R:α->β->Prop}
theorem qD:∀{xs:List α}{ys:List β},zQ R xs ys->xs.length=ys.length
 | [],_,h=>by cases h;rfl
 |x::xs,_,⟨v,vs,rfl,_,h⟩=>by simp[qD h]
theorem zI:∀{xs:List α}{ys:List β}{i:Nat}{x:α},zQ R xs ys->xs[i]?=some x->∃y,ys[i]?=some y/\R x y
 | [],_,i,x,h,e=>by simp at e
 |x::xs,_,0,x',⟨v,vs,rfl,r,h⟩,e=>⟨v,rfl,by simp at e;subst e;exact r⟩
 |x::xs,_,i+1,x',⟨v,vs,rfl,r,h⟩,e=>by
  obtain⟨y,e1,r1⟩:=zI (i:=i) h (by simpa using e);exact⟨y,by simpa using e1,r1⟩
theorem qu:∀{xs:List α}{ys:List β}{xs':List α}{ys':List β},zQ R xs ys->zQ R xs' ys'->zQ R (xs++xs') (ys++ys')
 | [],_,_,_,h,k=>by cases h;exact k
 |x::xs,_,_,_,⟨v,vs,rfl,r,h⟩,k=>⟨v,vs++_,rfl,r,qu h k⟩
theorem zF:∀(n:Nat){xs:List α}{ys:List β},zQ R xs ys->zQ R (xs.take n) (ys.take n)
 | 0,_,_,_=>by simp[zQ]
 |n+1,[],_,h=>by cases h;simp[zQ]
 |n+1,x::xs,_,⟨v,vs,rfl,r,h⟩=>⟨v,vs.take n,rfl,r,zF n h⟩
theorem jJ:∀(n:Nat){xs:List α}{ys:List β},zQ R xs ys->zQ R (xs.drop n) (ys.drop n)
 | 0,_,_,h=>h
 |n+1,[],_,h=>by cases h;simp[zQ]
 |n+1,x::xs,_,⟨v,vs,rfl,r,h⟩=>jJ n h
theorem zl:∀{xs:List α}{ys:List β}(j:Nat){x:α}{y:β},zQ R xs ys->R x y->zQ R (xs.set j x) (ys.set j y)
 | [],_,j,_,_,h,r=>by cases h;simp[zQ]
 |x::xs,_,0,_,_,⟨v,vs,rfl,r0,h⟩,r=>⟨_,vs,rfl,r,h⟩
 |x::xs,_,j+1,_,_,⟨v,vs,rfl,r0,h⟩,r=>⟨v,vs.set j _,rfl,r0,zl j h r⟩
theorem W5(n:Nat){xs:List α}{ys:List β}(h:zQ R xs ys):zQ R (List.replicate n xs).flatten (List.replicate n ys).flatten:=by
 induction n with
 |zero=>simp[zQ]
 |succ n ih=>simp only[List.replicate_succ,List.flatten_cons];exact qu h ih
theorem ZU{S:α->β->Prop}(f:∀x y,R x y->S x y):∀{xs:List α}{ys:List β},zQ R xs ys->zQ S xs ys
 | [],_,h=>h
 |x::xs,_,⟨v,vs,rfl,r,h⟩=>⟨v,vs,rfl,f _ _ r,ZU f h⟩
end
mutual
def Rep(A X:List Nat)(h:AH):T->V->Prop
 | .v x,w=>w=x/\flat x=true
 | .cell n,w=>∃a:Nat,A[n]?=some a/\w=.ref a
 | .fz ts,w=>∃a vs,w=.ref a/\a∉X/\h[a]?=some (.lst true vs)/\qL A X h ts vs
 | .lst ts,w=>∃a vs,w=.ref a/\a∉X/\h[a]?=some (.lst false vs)/\qL A X h ts vs
 | .tup ts,w=>∃a vs,w=.ref a/\a∉X/\h[a]?=some (.tup vs)/\qL A X h ts vs
 | .ob o,w=>∃a,w=.ref a/\a∉X/\h[a]?=some (.ob o)
def qL(A X:List Nat)(h:AH):List T->List V->Prop
 | [],vs=>vs=[]
 |t::ts,vs=>∃v vs',vs=v::vs'/\Rep A X h t v/\qL A X h ts vs'
end
theorem reps_iff{A X:List Nat}{h:AH}:∀{ts:List T}{vs:List V},qL A X h ts vs↔zQ (Rep A X h) ts vs
 | [],vs=>by unfold qL zQ;rfl
 |t::ts,vs=>by
  unfold qL zQ;constructor
  ·rintro⟨v,vs',e,r,k⟩;exact⟨v,vs',e,r,reps_iff.mp k⟩
  ·rintro⟨v,vs',e,r,k⟩;exact⟨v,vs',e,r,reps_iff.mpr k⟩
mutual
def FP(X:List Nat)(h:AH):T->V->List Nat->Prop
 | .v x,w,fp=>(w=x/\flat x=true)/\fp=[]
 | .lst ts,w,fp=>∃a vs f,w=.ref a/\a∉X/\h[a]?=some (.lst false vs)/\FPs X h ts vs f/\fp=f++[a]
 | .tup ts,w,fp=>∃a vs,w=.ref a/\a∉X/\h[a]?=some (.tup vs)/\FPs X h ts vs fp
 | .ob o,w,fp=>(∃a,w=.ref a/\a∉X/\h[a]?=some (.ob o))/\fp=[]
 | .fz _,_,_=>False
 | .cell _,_,_=>False
def FPs(X:List Nat)(h:AH):List T->List V->List Nat->Prop
 | [],vs,fp=>vs=[]/\fp=[]
 |t::ts,vs,fp=>∃v vs' f1 f2,vs=v::vs'/\FP X h t v f1/\FPs X h ts vs' f2/\fp=f1++f2
end
mutual
theorem zG{A X A' X':List Nat}{h h':AH}(hc:∀(n:Nat) a,A[n]?=some a->A'[n]?=some a)(hn:∀a o,a∉X->h[a]?=some o->a∉X'/\h'[a]?=some o):∀(t:T){w:V},Rep A X h t w->Rep A' X' h' t w
 | .v x,w,r=>by unfold Rep at r ⊢;exact r
 | .cell n,w,r=>by unfold Rep at r ⊢;obtain⟨a,e,q⟩:=r;exact⟨a,hc _ _ e,q⟩
 | .fz ts,w,r=>by unfold Rep at r ⊢;obtain⟨a,vs,e,q1,q2,q3⟩:=r;exact⟨a,vs,e,(hn _ _ q1 q2).1,(hn _ _ q1 q2).2,qN hc hn ts q3⟩
 | .lst ts,w,r=>by unfold Rep at r ⊢;obtain⟨a,vs,e,q1,q2,q3⟩:=r;exact⟨a,vs,e,(hn _ _ q1 q2).1,(hn _ _ q1 q2).2,qN hc hn ts q3⟩
 | .tup ts,w,r=>by unfold Rep at r ⊢;obtain⟨a,vs,e,q1,q2,q3⟩:=r;exact⟨a,vs,e,(hn _ _ q1 q2).1,(hn _ _ q1 q2).2,qN hc hn ts q3⟩
 | .ob o,w,r=>by unfold Rep at r ⊢;obtain⟨a,e,q1,q2⟩:=r;exact⟨a,e,(hn _ _ q1 q2).1,(hn _ _ q1 q2).2⟩
theorem qN{A X A' X':List Nat}{h h':AH}(hc:∀(n:Nat) a,A[n]?=some a->A'[n]?=some a)(hn:∀a o,a∉X->h[a]?=some o->a∉X'/\h'[a]?=some o):∀(ts:List T){ws:List V},qL A X h ts ws->qL A' X' h' ts ws
 | [],w,r=>by unfold qL at r ⊢;exact r
 |t::ts,w,r=>by unfold qL at r ⊢;obtain⟨v,vs,e,q1,q2⟩:=r;exact⟨v,vs,e,zG hc hn t q1,qN hc hn ts q2⟩
end
mutual
theorem QX{X X':List Nat}{h h':AH}(hn:∀a o,a∉X->h[a]?=some o->a∉X'/\h'[a]?=some o):∀(t:T){w:V}{fp:List Nat},FP X h t w fp->FP X' h' t w fp
 | .v x,w,_,r=>by unfold FP at r ⊢;exact r
 | .cell n,w,_,r=>by unfold FP at r;exact r.elim
 | .fz ts,w,_,r=>by unfold FP at r;exact r.elim
 | .lst ts,w,_,r=>by unfold FP at r ⊢;obtain⟨a,vs,f,e,q1,q2,q3,q4⟩:=r;exact⟨a,vs,f,e,(hn _ _ q1 q2).1,(hn _ _ q1 q2).2,zT hn ts q3,q4⟩
 | .tup ts,w,_,r=>by unfold FP at r ⊢;obtain⟨a,vs,e,q1,q2,q3⟩:=r;exact⟨a,vs,e,(hn _ _ q1 q2).1,(hn _ _ q1 q2).2,zT hn ts q3⟩
 | .ob o,w,_,r=>by unfold FP at r ⊢;obtain⟨⟨a,e,q1,q2⟩,q3⟩:=r;exact⟨⟨a,e,(hn _ _ q1 q2).1,(hn _ _ q1 q2).2⟩,q3⟩
theorem zT{X X':List Nat}{h h':AH}(hn:∀a o,a∉X->h[a]?=some o->a∉X'/\h'[a]?=some o):∀(ts:List T){ws:List V}{fp:List Nat},FPs X h ts ws fp->FPs X' h' ts ws fp
 | [],w,_,r=>by unfold FPs at r ⊢;exact r
 |t::ts,w,_,r=>by unfold FPs at r ⊢;obtain⟨v,vs,f1,f2,e,q1,q2,q3⟩:=r;exact⟨v,vs,f1,f2,e,QX hn t q1,zT hn ts q2,q3⟩
end
mutual
theorem qAn{A X:List Nat}{h:AH}:∀(t:T){w:V}{fp:List Nat},FP X h t w fp->Rep A X h t w
 | .v x,w,_,r=>by unfold FP at r;unfold Rep;exact r.1
 | .cell n,w,_,r=>by unfold FP at r;exact r.elim
 | .fz ts,w,_,r=>by unfold FP at r;exact r.elim
 | .lst ts,w,_,r=>by unfold FP at r;unfold Rep;obtain⟨a,vs,f,e,q1,q2,q3,q4⟩:=r;exact⟨a,vs,e,q1,q2,JV ts q3⟩
 | .tup ts,w,_,r=>by unfold FP at r;unfold Rep;obtain⟨a,vs,e,q1,q2,q3⟩:=r;exact⟨a,vs,e,q1,q2,JV ts q3⟩
 | .ob o,w,_,r=>by unfold FP at r;unfold Rep;exact r.1
theorem JV{A X:List Nat}{h:AH}:∀(ts:List T){ws:List V}{fp:List Nat},FPs X h ts ws fp->qL A X h ts ws
 | [],w,_,r=>by unfold FPs at r;unfold qL;exact r.1
 |t::ts,w,_,r=>by unfold FPs at r;unfold qL;obtain⟨v,vs,f1,f2,e,q1,q2,q3⟩:=r;exact⟨v,vs,e,qAn t q1,JV ts q2⟩
end
mutual
theorem Y1{X:List Nat}{h:AH}(n:Nat):∀(t:T){w:V}{fp:List Nat},FP X h t w fp->t.und n=true
 | .v x,w,_,r=>rfl
 | .cell n,w,_,r=>by unfold FP at r;exact r.elim
 | .fz ts,w,_,r=>by unfold FP at r;exact r.elim
 | .lst ts,w,_,r=>by unfold FP at r;obtain⟨a,vs,f,e,q1,q2,q3,q4⟩:=r;exact JF n ts q3
 | .tup ts,w,_,r=>by unfold FP at r;obtain⟨a,vs,e,q1,q2,q3⟩:=r;exact JF n ts q3
 | .ob o,w,_,r=>rfl
theorem JF{X:List Nat}{h:AH}(n:Nat):∀(ts:List T){ws:List V}{fp:List Nat},FPs X h ts ws fp->T.unds n ts=true
 | [],w,_,r=>rfl
 |t::ts,w,_,r=>by unfold FPs at r;obtain⟨v,vs,f1,f2,e,q1,q2,q3⟩:=r;unfold T.unds;rw[Y1 n t q1,JF n ts q2];rfl
end
mutual
theorem C3{X:List Nat}{h:AH}:∀(t:T){w:V}{fp:List Nat},FP X h t w fp->∀a∈fp,a∉X/\∃vs,h[a]?=some (.lst false vs)
 | .v x,w,_,r=>by unfold FP at r;obtain⟨_,rfl⟩:=r;intro a ha;simp at ha
 | .cell n,w,_,r=>by unfold FP at r;exact r.elim
 | .fz ts,w,_,r=>by unfold FP at r;exact r.elim
 | .lst ts,w,_,r=>by
  unfold FP at r;obtain⟨a,vs,f,e,q1,q2,q3,rfl⟩:=r;intro b hb;rcases wD.mp hb with hb|hb
  ·exact jW ts q3 b hb
  ·simp at hb;subst hb;exact⟨q1,vs,q2⟩
 | .tup ts,w,_,r=>by unfold FP at r;obtain⟨a,vs,e,q1,q2,q3⟩:=r;exact jW ts q3
 | .ob o,w,_,r=>by unfold FP at r;obtain⟨_,rfl⟩:=r;intro a ha;simp at ha
theorem jW{X:List Nat}{h:AH}:∀(ts:List T){ws:List V}{fp:List Nat},FPs X h ts ws fp->∀a∈fp,a∉X/\∃vs,h[a]?=some (.lst false vs)
 | [],w,_,r=>by unfold FPs at r;obtain⟨_,rfl⟩:=r;intro a ha;simp at ha
 |t::ts,w,_,r=>by
  unfold FPs at r;obtain⟨v,vs,f1,f2,e,q1,q2,rfl⟩:=r;intro b hb;rcases wD.mp hb with hb|hb
  ·exact C3 t q1 b hb
  ·exact jW ts q2 b hb
end
mutual
theorem m7{A X:List Nat}{h:AH}:∀(t:T){w:V},Rep A X h t w->t.lf=true->FP X h t w []
 | .v x,w,r,l=>by unfold Rep at r;unfold FP;exact⟨r,rfl⟩
 | .cell n,w,r,l=>by unfold T.lf at l;cases l
 | .fz ts,w,r,l=>by unfold T.lf at l;cases l
 | .lst ts,w,r,l=>by unfold T.lf at l;cases l
 | .tup ts,w,r,l=>by unfold Rep at r;unfold FP;obtain⟨a,vs,e,q1,q2,q3⟩:=r;exact⟨a,vs,e,q1,q2,K8 ts q3 (by unfold T.lf at l;exact l)⟩
 | .ob o,w,r,l=>by unfold Rep at r;unfold FP;exact⟨r,rfl⟩
theorem K8{A X:List Nat}{h:AH}:∀(ts:List T){ws:List V},qL A X h ts ws->T.lfs ts=true->FPs X h ts ws []
 | [],w,r,l=>by unfold qL at r;unfold FPs;exact⟨r,rfl⟩
 |t::ts,w,r,l=>by
  unfold qL at r;unfold FPs;obtain⟨v,vs,e,q1,q2⟩:=r;unfold T.lfs at l;simp only[Bool.and_eq_true]at l;exact⟨v,vs,[],[],e,m7 t q1 l.1,K8 ts q2 l.2,rfl⟩
end
mutual
theorem JI{A X A1 X1:List Nat}{h:AH}{n0:Nat}(hc:∀n,n<n0->A1[n]?=A[n]?)(hX:∀a∈X,a∈X1):∀(t:T){w:V},Rep A1 X1 h t w->t.und n0=true->Rep A X h t w
 | .v x,w,r,u=>by unfold Rep at r ⊢;exact r
 | .cell n,w,r,u=>by
  unfold Rep at r ⊢;obtain⟨a,e,q⟩:=r;unfold T.und at u;exact⟨a,(hc n (by simpa using u)).symm.trans e,q⟩
 | .fz ts,w,r,u=>by unfold Rep at r ⊢;obtain⟨a,vs,e,q1,q2,q3⟩:=r;exact⟨a,vs,e,λz=>q1 (hX _ z),q2,jB hc hX ts q3 (by unfold T.und at u;exact u)⟩
 | .lst ts,w,r,u=>by unfold Rep at r ⊢;obtain⟨a,vs,e,q1,q2,q3⟩:=r;exact⟨a,vs,e,λz=>q1 (hX _ z),q2,jB hc hX ts q3 (by unfold T.und at u;exact u)⟩
 | .tup ts,w,r,u=>by unfold Rep at r ⊢;obtain⟨a,vs,e,q1,q2,q3⟩:=r;exact⟨a,vs,e,λz=>q1 (hX _ z),q2,jB hc hX ts q3 (by unfold T.und at u;exact u)⟩
 | .ob o,w,r,u=>by unfold Rep at r ⊢;obtain⟨a,e,q1,q2⟩:=r;exact⟨a,e,λz=>q1 (hX _ z),q2⟩
theorem jB{A X A1 X1:List Nat}{h:AH}{n0:Nat}(hc:∀n,n<n0->A1[n]?=A[n]?)(hX:∀a∈X,a∈X1):∀(ts:List T){ws:List V},qL A1 X1 h ts ws->T.unds n0 ts=true->qL A X h ts ws
 | [],w,r,u=>by unfold qL at r ⊢;exact r
 |t::ts,w,r,u=>by
  unfold qL at r ⊢;obtain⟨v,vs,e,q1,q2⟩:=r;unfold T.unds at u;simp only[Bool.and_eq_true]at u;exact⟨v,vs,e,JI hc hX t q1 u.1,jB hc hX ts q2 u.2⟩
end
theorem zj{x:V}{a:Nat}(h:flat x=true)(e:V.ref a=x):False:=by subst e;cases h
mutual
theorem R6{A X:List Nat}{h:AH}(nd:A.Nodup)(hs:∀a∈A,a∈X):∀(s t:T){w:V},Rep A X h s w->Rep A X h t w->s=t
 | .v x,t,w,r,q=>by
  unfold Rep at r;obtain⟨rfl,f⟩:=r;cases t with
  |v y=>unfold Rep at q;obtain⟨rfl,_⟩:=q;rfl
  |cell n=>unfold Rep at q;obtain⟨a,_,e⟩:=q;subst e;cases f
  |fz ts=>unfold Rep at q;obtain⟨a,vs,e,_⟩:=q;subst e;cases f
  |lst ts=>unfold Rep at q;obtain⟨a,vs,e,_⟩:=q;subst e;cases f
  |tup ts=>unfold Rep at q;obtain⟨a,vs,e,_⟩:=q;subst e;cases f
  |ob o=>unfold Rep at q;obtain⟨a,e,_⟩:=q;subst e;cases f
 | .cell n,t,w,r,q=>by
  unfold Rep at r;obtain⟨a,ea,rfl⟩:=r;have am:a∈X:=hs _ (List.mem_of_getElem? ea);cases t with
  |v y=>unfold Rep at q;obtain⟨e,f⟩:=q;exact(zj f e).elim
  |cell m=>
   unfold Rep at q;obtain⟨b,eb,e⟩:=q;cases e;have:n=m:=(List.getElem?_inj (by exact(List.getElem?_eq_some_iff.mp ea).1) nd).mp (ea.trans eb.symm);rw[this]
  |fz ts=>unfold Rep at q;obtain⟨b,vs,e,k,_⟩:=q;cases e;exact(k am).elim
  |lst ts=>unfold Rep at q;obtain⟨b,vs,e,k,_⟩:=q;cases e;exact(k am).elim
  |tup ts=>unfold Rep at q;obtain⟨b,vs,e,k,_⟩:=q;cases e;exact(k am).elim
  |ob o=>unfold Rep at q;obtain⟨b,e,k,_⟩:=q;cases e;exact(k am).elim
 | .fz ss,t,w,r,q=>by
  unfold Rep at r;obtain⟨a,vs,rfl,k1,k2,k3⟩:=r;cases t with
  |v y=>unfold Rep at q;obtain⟨e,f⟩:=q;exact(zj f e).elim
  |cell m=>unfold Rep at q;obtain⟨b,eb,e⟩:=q;cases e;exact(k1 (hs _ (List.mem_of_getElem? eb))).elim
  |fz ts=>unfold Rep at q;obtain⟨b,vs',e,z1,z2,z3⟩:=q;cases e;rw[k2]at z2;cases z2;rw[jn nd hs ss ts k3 z3]
  |lst ts=>unfold Rep at q;obtain⟨b,vs',e,z1,z2,z3⟩:=q;cases e;rw[k2]at z2;cases z2
  |tup ts=>unfold Rep at q;obtain⟨b,vs',e,z1,z2,z3⟩:=q;cases e;rw[k2]at z2;cases z2
  |ob o=>unfold Rep at q;obtain⟨b,e,z1,z2⟩:=q;cases e;rw[k2]at z2;cases z2
 | .lst ss,t,w,r,q=>by
  unfold Rep at r;obtain⟨a,vs,rfl,k1,k2,k3⟩:=r;cases t with
  |v y=>unfold Rep at q;obtain⟨e,f⟩:=q;exact(zj f e).elim
  |cell m=>unfold Rep at q;obtain⟨b,eb,e⟩:=q;cases e;exact(k1 (hs _ (List.mem_of_getElem? eb))).elim
  |lst ts=>unfold Rep at q;obtain⟨b,vs',e,z1,z2,z3⟩:=q;cases e;rw[k2]at z2;cases z2;rw[jn nd hs ss ts k3 z3]
  |fz ts=>unfold Rep at q;obtain⟨b,vs',e,z1,z2,z3⟩:=q;cases e;rw[k2]at z2;cases z2
  |tup ts=>unfold Rep at q;obtain⟨b,vs',e,z1,z2,z3⟩:=q;cases e;rw[k2]at z2;cases z2
  |ob o=>unfold Rep at q;obtain⟨b,e,z1,z2⟩:=q;cases e;rw[k2]at z2;cases z2
 | .tup ss,t,w,r,q=>by
  unfold Rep at r;obtain⟨a,vs,rfl,k1,k2,k3⟩:=r;cases t with
  |v y=>unfold Rep at q;obtain⟨e,f⟩:=q;exact(zj f e).elim
  |cell m=>unfold Rep at q;obtain⟨b,eb,e⟩:=q;cases e;exact(k1 (hs _ (List.mem_of_getElem? eb))).elim
  |tup ts=>unfold Rep at q;obtain⟨b,vs',e,z1,z2,z3⟩:=q;cases e;rw[k2]at z2;cases z2;rw[jn nd hs ss ts k3 z3]
  |fz ts=>unfold Rep at q;obtain⟨b,vs',e,z1,z2,z3⟩:=q;cases e;rw[k2]at z2;cases z2
  |lst ts=>unfold Rep at q;obtain⟨b,vs',e,z1,z2,z3⟩:=q;cases e;rw[k2]at z2;cases z2
  |ob o=>unfold Rep at q;obtain⟨b,e,z1,z2⟩:=q;cases e;rw[k2]at z2;cases z2
 | .ob o,t,w,r,q=>by
  unfold Rep at r;obtain⟨a,rfl,k1,k2⟩:=r;cases t with
  |v y=>unfold Rep at q;obtain⟨e,f⟩:=q;exact(zj f e).elim
  |cell m=>unfold Rep at q;obtain⟨b,eb,e⟩:=q;cases e;exact(k1 (hs _ (List.mem_of_getElem? eb))).elim
  |fz ts=>unfold Rep at q;obtain⟨b,vs',e,z1,z2,z3⟩:=q;cases e;rw[k2]at z2;cases z2
  |lst ts=>unfold Rep at q;obtain⟨b,vs',e,z1,z2,z3⟩:=q;cases e;rw[k2]at z2;cases z2
  |tup ts=>unfold Rep at q;obtain⟨b,vs',e,z1,z2,z3⟩:=q;cases e;rw[k2]at z2;cases z2
  |ob o'=>unfold Rep at q;obtain⟨b,e,z1,z2⟩:=q;cases e;rw[k2]at z2;cases z2;rfl
theorem jn{A X:List Nat}{h:AH}(nd:A.Nodup)(hs:∀a∈A,a∈X):∀(ss ts:List T){ws:List V},qL A X h ss ws->qL A X h ts ws->ss=ts
 | [],[],w,r,q=>rfl
 | [],t::ts,w,r,q=>by unfold qL at r q;obtain⟨v,vs,e,_⟩:=q;subst r;cases e
 |s::ss,[],w,r,q=>by unfold qL at r q;obtain⟨v,vs,e,_⟩:=r;subst q;cases e
 |s::ss,t::ts,w,r,q=>by
  unfold qL at r q;obtain⟨v,vs,rfl,k1,k2⟩:=r;obtain⟨v',vs',e,z1,z2⟩:=q;cases e;rw[R6 nd hs s t k1 z1,jn nd hs ss ts k2 z2]
end
mutual
theorem qAu:∀(s t:T),T.beq s t=true->s=t
 | .v x,.v y,h=>by unfold T.beq at h;simp at h;rw[h]
 | .cell x,.cell y,h=>by unfold T.beq at h;simp at h;rw[h]
 | .fz x,.fz y,h=>by unfold T.beq at h;rw[jZ x y h]
 | .lst x,.lst y,h=>by unfold T.beq at h;rw[jZ x y h]
 | .tup x,.tup y,h=>by unfold T.beq at h;rw[jZ x y h]
 | .ob x,.ob y,h=>by unfold T.beq at h;simp at h;rw[h]
 | .ob _,.v _,h | .ob _,.cell _,h | .ob _,.fz _,h | .ob _,.lst _,h | .ob _,.tup _,h=>by simp[T.beq]at h
 | .v _,.ob _,h | .cell _,.ob _,h | .fz _,.ob _,h | .lst _,.ob _,h | .tup _,.ob _,h=>by simp[T.beq]at h
 | .v _,.cell _,h | .v _,.fz _,h | .v _,.lst _,h | .v _,.tup _,h=>by simp[T.beq]at h
 | .cell _,.v _,h | .cell _,.fz _,h | .cell _,.lst _,h | .cell _,.tup _,h=>by simp[T.beq]at h
 | .fz _,.v _,h | .fz _,.cell _,h | .fz _,.lst _,h | .fz _,.tup _,h=>by simp[T.beq]at h
 | .lst _,.v _,h | .lst _,.cell _,h | .lst _,.fz _,h | .lst _,.tup _,h=>by simp[T.beq]at h
 | .tup _,.v _,h | .tup _,.cell _,h | .tup _,.fz _,h | .tup _,.lst _,h=>by simp[T.beq]at h
theorem jZ:∀(ss ts:List T),T.beqs ss ts=true->ss=ts
 | [],[],h=>rfl
 | [],_::_,h=>by simp[T.beqs]at h
 |_::_,[],h=>by simp[T.beqs]at h
 |s::ss,t::ts,h=>by unfold T.beqs at h;simp only[Bool.and_eq_true]at h;rw[qAu s t h.1,jZ ss ts h.2]
end
def Frm(A:List Nat)(h h':AH):Prop:=h.length<=h'.length/\∀j,j<h.length->j∉A->h'[j]?=h[j]?
theorem Frm.refl(A:List Nat)(h:AH):Frm A h h:=⟨Nat.le_refl _,λ_ _ _=>rfl⟩
theorem Frm.trans{A:List Nat}{a b c:AH}(x:Frm A a b)(y:Frm A b c):Frm A a c:=⟨Nat.le_trans x.1 y.1,λj hj hA=>(y.2 j (wC hj x.1) hA).trans (x.2 j hj hA)⟩
theorem Frm.trans2{A B:List Nat}{a b c:AH}(x:Frm A a b)(hB:∀k∈B,a.length<=k)(y:Frm (A++B) b c):Frm A a c:=
 ⟨Nat.le_trans x.1 y.1,λj hj hA=>(y.2 j (wC hj x.1) (by rw[wD];rintro(z|z);exact hA z;have:=hB _ z;omega)).trans (x.2 j hj hA)⟩
theorem Frm.app(A:List Nat)(h e:AH):Frm A h (h++e):=⟨by simp,λj hj _=>by rw[List.getElem?_append_left hj]⟩
theorem Frm.set{A:List Nat}{h h':AH}(f:Frm A h h'){a:Nat}(ha:a∈A\/h.length<=a)(o:O):Frm A h (h'.set a o):=⟨by simpa using f.1,λj hj hA=>by
 rw[wI (by rintro rfl;rcases ha with z|z;exact hA z;omega)];exact f.2 j hj hA⟩
theorem qJ{h:AH}{a:Nat}{o:O}(e:h[a]?=some o):a<h.length:=(List.getElem?_eq_some_iff.mp e).1
structure RelM(gl:List T)(A X:List Nat)(h:AH)(M:Mem):Prop where
 len:A.length=M.length
 nd:A.Nodup
 sub:∀a∈A,a∈X
 lt:∀a∈X,a<h.length
 at_:∀(n:Nat) a,A[n]?=some a->∃ts vs,M[n]?=some ts/\h[a]?=some (.lst false vs)/\qL A X h ts vs
 glo:∀(g:Nat) t,gl[g]?=some t->Rep A X h t (.ref g)
section
variable{gl:List T}{A X:List Nat}{h h':AH}{M:Mem}
theorem RelM.keepN(R:RelM gl A X h M)(f:Frm A h h'):∀a o,a∉X->h[a]?=some o->a∉X/\h'[a]?=some o:=λa o hx e=>⟨hx,(f.2 a (qJ e) λz=>hx (R.sub _ z)).trans e⟩
theorem RelM.keep(R:RelM gl A X h M)(f:Frm A h h'){t:T}{w:V}(r:Rep A X h t w):Rep A X h' t w:=zG (λ_ _ e=>e) (R.keepN f) t r
theorem RelM.keeps(R:RelM gl A X h M)(f:Frm A h h'){t:List T}{w:List V}(r:qL A X h t w):qL A X h' t w:=qN (λ_ _ e=>e) (R.keepN f) t r
theorem RelM.up(R:RelM gl A X h M)(e:AH):RelM gl A X (h++e) M:=by
 have f:Frm A h (h++e):=Frm.app A h e;refine⟨R.len,R.nd,R.sub,λa ha=>wC (R.lt a ha) f.1,λn a ea=>?_,λg t eg=>R.keep f (R.glo g t eg)⟩;obtain⟨ts,vs,e1,e2,e3⟩:=R.at_ n a ea;exact⟨ts,vs,e1,by rw[List.getElem?_append_left (qJ e2)];exact e2,R.keeps f e3⟩
theorem RelM.put(R:RelM gl A X h M){n a:Nat}(ea:A[n]?=some a){ts:List T}{vs:List V}(r:qL A X h ts vs):RelM gl A X (h.set a (.lst false vs)) (M.set n ts)/\Frm A h (h.set a (.lst false vs)):=by
 have am:a∈A:=List.mem_of_getElem? ea;have f:Frm A h (h.set a (.lst false vs)):=(Frm.refl A h).set (.inl am) _;have al:a<h.length:=R.lt a (R.sub a am);refine⟨⟨by simpa using R.len,R.nd,R.sub,λb hb=>by simpa using R.lt b hb,λm b eb=>?_,λg t eg=>R.keep f (R.glo g t eg)⟩,f⟩;by_cases hm:n=m
 ·subst hm;rw[ea]at eb;cases eb;have nl:n<M.length:=by rw[<-R.len];exact(List.getElem?_eq_some_iff.mp ea).1
  exact⟨ts,vs,by rw[wP nl],by rw[wP al],R.keeps f r⟩
 ·obtain⟨ts',vs',e1,e2,e3⟩:=R.at_ m b eb;have hab:a≠b:=by
   rintro rfl;exact hm ((List.getElem?_inj (List.getElem?_eq_some_iff.mp ea).1 R.nd).mp (ea.trans eb.symm))
  exact⟨ts',vs',by rw[wI hm];exact e1,by rw[wI hab];exact e2,R.keeps f e3⟩
end
def New(gl:List T)(A X:List Nat)(n:Nat)(h:AH)(M:Mem)(t:T)(w:V):Prop:=∀kvs,t=.ob (.dct kvs)->∃a,w=.ref a/\n<=a/\RelM gl A (X++[a]) h M
theorem New.of_lf{gl:List T}{A X:List Nat}{n:Nat}{h:AH}{M:Mem}{t:T}{w:V}(l:t.lf=true):New gl A X n h M t w:=λkvs e=>by subst e;cases l
theorem New.lst{gl:List T}{A X:List Nat}{n:Nat}{h:AH}{M:Mem}{ts:List T}{w:V}:New gl A X n h M (.lst ts) w:=λkvs e=>by cases e
theorem New.tup{gl:List T}{A X:List Nat}{n:Nat}{h:AH}{M:Mem}{ts:List T}{w:V}:New gl A X n h M (.tup ts) w:=λkvs e=>by cases e
def Frs(gl:List T)(A X:List Nat)(n:Nat)(h:AH)(M:Mem)(t:T)(w:V):Prop:=∃fp,FP X h t w fp/\fp.Nodup/\(∀a∈fp,n<=a)/\RelM gl A (X++fp) h M/\New gl A X n h M t w
def Frss(gl:List T)(A X:List Nat)(n:Nat)(h:AH)(M:Mem)(t:List T)(w:List V):Prop:=∃fp,FPs X h t w fp/\fp.Nodup/\(∀a∈fp,n<=a)/\RelM gl A (X++fp) h M
theorem Frs.of_lf{gl:List T}{A X:List Nat}{n:Nat}{h:AH}{M:Mem}{t:T}{w:V}(R:RelM gl A X h M)(r:Rep A X h t w)(l:t.lf=true):Frs gl A X n h M t w:=⟨[],m7 t r l,List.nodup_nil,λa ha=>by simp at ha,by rw[List.append_nil];exact R,New.of_lf l⟩
theorem Frss.of_lf{gl:List T}{A X:List Nat}{n:Nat}{h:AH}{M:Mem}{t:List T}{w:List V}(R:RelM gl A X h M)(r:qL A X h t w)(l:T.lfs t=true):Frss gl A X n h M t w:=⟨[],K8 t r l,List.nodup_nil,λa ha=>by simp at ha,by rw[List.append_nil];exact R⟩
def Sim{α β:Type}(gl:List T)(A X:List Nat)(h:AH)(Q:α->β->AH->Mem->Prop):PR (α×Mem)->Res (β×AH)->Prop
 | .ok (x,M'),r=>∃y h',r=.ok (y,h')/\Frm A h h'/\RelM gl A X h' M'/\Q x y h' M'
 | .exc c M',r=>∃h',r=.exc c h'/\Frm A h h'/\RelM gl A X h' M'
 | .stuck,_=>True
theorem Sim.bind{α β α2 β2:Type}{gl:List T}{A X:List Nat}{h:AH}{Q:α->β->AH->Mem->Prop}{Q2:α2->β2->AH->Mem->Prop}{r:PR (α×Mem)}{rh:Res (β×AH)}{f:α×Mem->PR (α2×Mem)}{g:β×AH->Res (β2×AH)}
  (s:Sim gl A X h Q r rh) (k:∀x M' y h',Frm A h h'->RelM gl A X h' M'->Q x y h' M'->Sim gl A X h' Q2 (f (x,M')) (g (y,h'))):Sim gl A X h Q2 (r.bind f) (rh.bind g):=by
 cases r with
 |ok p=>
  obtain⟨x,M'⟩:=p;obtain⟨y,h',rfl,f1,R1,q⟩:=s;have:=k x M' y h' f1 R1 q;rw[PR.bind_ok,Res.bind_ok];revert this;generalize f (x,M')=r2;generalize g (y,h')=rh2;intro s2;cases r2 with
  |ok p2=>
   obtain⟨x2,M2⟩:=p2;obtain⟨y2,h2,e2,f2,R2,q2⟩:=s2;exact⟨y2,h2,e2,f1.trans f2,R2,q2⟩
  |exc c M2=>
   obtain⟨h2,e2,f2,R2⟩:=s2;exact⟨h2,e2,f1.trans f2,R2⟩
  |stuck=>trivial
 |exc c M'=>
  obtain⟨h',rfl,f1,R1⟩:=s;exact⟨h',rfl,f1,R1⟩
 |stuck=>trivial
theorem Sim.nx{α β:Type}{gl:List T}{A X:List Nat}{h:AH}{Q:α->β->AH->Mem->Prop}{r:PR (α×Mem)}{rh:Res (β×AH)}(s:Sim gl A X h Q r rh):Sim gl A X h Q r.nx rh.nx:=by
 cases r with
 |ok p=>obtain⟨x,M'⟩:=p;obtain⟨y,h',rfl,a,b,c⟩:=s;exact⟨y,h',rfl,a,b,c⟩
 |exc c M'=>trivial
 |stuck=>trivial
theorem Sim.stuck{α β:Type}{gl:List T}{A X:List Nat}{h:AH}{Q:α->β->AH->Mem->Prop}{r:Res (β×AH)}:Sim gl A X h Q (.stuck:PR (α×Mem)) r:=trivial
theorem Sim.ofO{α β α2:Type}{gl:List T}{A X:List Nat}{h:AH}{Q:α->β->AH->Mem->Prop}{o:Option α2}{f:α2->PR (α×Mem)}{r:Res (β×AH)}(k:∀x,o=some x->Sim gl A X h Q (f x) r):Sim gl A X h Q ((PR.ofO o).bind f) r:=by
 cases o with
 |none=>trivial
 |some x=>exact k x rfl
def QE(gl:List T)(A X:List Nat)(n:Nat):TB->V->AH->Mem->Prop:=λx w h M=>Rep A X h x.1 w/\(x.2=true->Frs gl A X n h M x.1 w)
def QEs(gl:List T)(A X:List Nat)(n:Nat):List TB->List V->AH->Mem->Prop:=λx w h M=>qL A X h (x.map (·.1)) w/\(x.all (·.2)=true->Frss gl A X n h M (x.map (·.1)) w)
theorem QE.le{gl:List T}{A X:List Nat}{n m:Nat}{x:TB}{w:V}{h:AH}{M:Mem}(q:QE gl A X n x w h M)(l:m<=n):QE gl A X m x w h M:=⟨q.1,λe=>by obtain⟨fp,a,b,c,d,nw⟩:=q.2 e;exact⟨fp,a,b,λz hz=>Nat.le_trans l (c z hz),d,λkvs e=>by obtain⟨z,q1,q2,q3⟩:=nw kvs e;exact⟨z,q1,Nat.le_trans l q2,q3⟩⟩⟩
theorem Sim.le{gl:List T}{A X:List Nat}{h:AH}{n m:Nat}{r:PR (TB×Mem)}{rh:RV}(s:Sim gl A X h (QE gl A X n) r rh)(l:m<=n):Sim gl A X h (QE gl A X m) r rh:=by
 cases r with
 |ok p=>obtain⟨y,h',e,f,R,q⟩:=s;exact⟨y,h',e,f,R,q.le l⟩
 |exc c M=>exact s
 |stuck=>trivial
theorem RelM.weak{gl:List T}{A X X':List Nat}{h:AH}{M:Mem}(R:RelM gl A X' h M)(hX:∀a∈X,a∈X')(hA:∀a∈A,a∈X):RelM gl A X h M:=by
 have hn:∀a o,a∉X'->h[a]?=some o->a∉X/\h[a]?=some o:=λa o x y=>⟨λz=>x (hX _ z),y⟩
 refine⟨R.len,R.nd,hA,λa ha=>R.lt a (hX a ha),λn a e=>?_,λg t e=>zG (λ_ _ e=>e) hn t (R.glo g t e)⟩;obtain⟨ts,vs,e1,e2,e3⟩:=R.at_ n a e;exact⟨ts,vs,e1,e2,qN (λ_ _ e=>e) hn ts e3⟩
theorem RelM.addX{gl:List T}{A X X':List Nat}{h:AH}{M:Mem}(R:RelM gl A X h M){o:O}(h1:∀a,a∈X'↔a=h.length\/a∈X):RelM gl A X' (h++[o]) M:=by
 have hn:∀a o',a∉X->h[a]?=some o'->a∉X'/\(h++[o])[a]?=some o':=λa o' x y=>⟨by
  rw[h1];rintro(z|z)
  ·have:=qJ y;omega
  ·exact x z,by rw[List.getElem?_append_left (qJ y)];exact y⟩
 refine⟨R.len,R.nd,λa ha=>(h1 a).mpr (.inr (R.sub a ha)),λa ha=>?_,λn a e=>?_,λg t e=>zG (λ_ _ e=>e) hn t (R.glo g t e)⟩
 ·rcases(h1 a).mp ha with z|z
  ·simp[z]
  ·have:=R.lt a z;simp;omega
 ·obtain⟨ts,vs,e1,e2,e3⟩:=R.at_ n a e;exact⟨ts,vs,e1,by rw[List.getElem?_append_left (qJ e2)];exact e2,qN (λ_ _ e=>e) hn ts e3⟩
section
variable{gl:List T}{A X:List Nat}{h:AH}{M:Mem}
theorem Jz(R:RelM gl A X h M){t:T}{w:V}{ts:List T}(r:Rep A X h t w)(e:t.its M=some ts):∃a vs,w=.ref a/\items h a=some vs/\qL A X h ts vs:=by
 cases t with
 |v x=>cases e
 |cell n=>
  unfold Rep at r;obtain⟨a,ea,rfl⟩:=r;obtain⟨ts',vs,e1,e2,e3⟩:=R.at_ n a ea;have:M[n]?=some ts:=e;rw[e1]at this;cases this;exact⟨a,vs,rfl,by unfold items;rw[e2],e3⟩
 |fz xs=>unfold Rep at r;obtain⟨a,vs,rfl,_,q,k⟩:=r;cases e;exact⟨a,vs,rfl,by unfold items;rw[q],k⟩
 |lst xs=>unfold Rep at r;obtain⟨a,vs,rfl,_,q,k⟩:=r;cases e;exact⟨a,vs,rfl,by unfold items;rw[q],k⟩
 |tup xs=>unfold Rep at r;obtain⟨a,vs,rfl,_,q,k⟩:=r;cases e;exact⟨a,vs,rfl,by unfold items;rw[q],k⟩
 |ob o=>cases e
theorem zM(R:RelM gl A X h M){t:T}{w:V}{ts:List T}(r:Rep A X h t w)(e:t.lis M=some ts):∃a vs f,w=.ref a/\h[a]?=some (.lst f vs)/\qL A X h ts vs:=by
 cases t with
 |v x=>cases e
 |cell n=>
  unfold Rep at r;obtain⟨a,ea,rfl⟩:=r;obtain⟨ts',vs,e1,e2,e3⟩:=R.at_ n a ea;have:M[n]?=some ts:=e;rw[e1]at this;cases this;exact⟨a,vs,false,rfl,e2,e3⟩
 |fz xs=>unfold Rep at r;obtain⟨a,vs,rfl,_,q,k⟩:=r;cases e;exact⟨a,vs,true,rfl,q,k⟩
 |lst xs=>unfold Rep at r;obtain⟨a,vs,rfl,_,q,k⟩:=r;cases e;exact⟨a,vs,false,rfl,q,k⟩
 |tup xs=>cases e
 |ob o=>cases e
theorem L7(R:RelM gl A X h M){t:T}{w:V}{ts:List T}(r:Rep A X h t w)(e:t.mu M=some ts):∃a vs,w=.ref a/\qf h a=some vs/\qL A X h ts vs:=by
 cases t with
 |v x=>cases e
 |cell n=>
  unfold Rep at r;obtain⟨a,ea,rfl⟩:=r;obtain⟨ts',vs,e1,e2,e3⟩:=R.at_ n a ea;have:M[n]?=some ts:=e;rw[e1]at this;cases this;exact⟨a,vs,rfl,by unfold qf;rw[e2],e3⟩
 |fz xs=>cases e
 |lst xs=>unfold Rep at r;obtain⟨a,vs,rfl,_,q,k⟩:=r;cases e;exact⟨a,vs,rfl,by unfold qf;rw[q],k⟩
 |tup xs=>cases e
 |ob o=>cases e
theorem qY{t:T}{x:V}(e:t.isV=some x):t=.v x:=by cases t<;>cases e;rfl
theorem jL{t:T}{w:V}(e:t.isV=none)(r:Rep A X h t w):∃a:Nat,w=.ref a:=by
 cases t with
 |v x=>cases e
 |cell n=>unfold Rep at r;obtain⟨a,_,e⟩:=r;exact⟨a,e⟩
 |fz xs=>unfold Rep at r;obtain⟨a,vs,e,_⟩:=r;exact⟨a,e⟩
 |lst xs=>unfold Rep at r;obtain⟨a,vs,e,_⟩:=r;exact⟨a,e⟩
 |tup xs=>unfold Rep at r;obtain⟨a,vs,e,_⟩:=r;exact⟨a,e⟩
 |ob o=>unfold Rep at r;obtain⟨a,e,_⟩:=r;exact⟨a,e⟩
theorem JN(R:RelM gl A X h M){ts:List T}{vs:List V}{n:Nat}{f:Bool}(r:qL A X h ts vs)(hn:n<=h.length)(hf:f=true->Frss gl A X n h M ts vs):Sim gl A X h (QE gl A X n) (.ok ((.lst ts,f),M)) (newL vs h):=by
 have fm:Frm A h (h++[O.lst false vs]):=Frm.app A h _;have hx:h.length∉X:=λz=>Nat.lt_irrefl _ (R.lt _ z);have ha:(h++[O.lst false vs])[h.length]?=some (.lst false vs):=by simp
 refine⟨.ref h.length,_,rfl,fm,R.up _,?_,λe=>?_⟩
 ·show Rep A X _ (.lst ts) _;unfold Rep;exact⟨_,vs,rfl,hx,ha,R.keeps fm r⟩
 ·obtain⟨fp,p,nd,l,R'⟩:=hf e;refine⟨fp++[h.length],?_,?_,?_,R'.addX λa=>by simp only[wD,wJ];grind,New.lst⟩
  ·show FP X _ (.lst ts) _ _;unfold FP;exact⟨_,vs,fp,rfl,hx,ha,zT (R.keepN fm) ts p,rfl⟩
  ·rw[wR];refine⟨nd,by simp,?_⟩;rintro a ha b hb rfl;obtain⟨_,vs',q⟩:=jW ts p a ha;simp at hb;have:=qJ q;omega
  ·intro a ha;rcases wD.mp ha with z|z
   ·exact l a z
   ·simp at z;omega
theorem Zx(R:RelM gl A X h M){ts:List T}{vs:List V}{n:Nat}{f:Bool}(r:qL A X h ts vs)(hf:f=true->Frss gl A X n h M ts vs):Sim gl A X h (QE gl A X n) (.ok ((.tup ts,f),M)) (newT vs h):=by
 have fm:Frm A h (h++[O.tup vs]):=Frm.app A h _;have hx:h.length∉X:=λz=>Nat.lt_irrefl _ (R.lt _ z);have ha:(h++[O.tup vs])[h.length]?=some (.tup vs):=by simp
 refine⟨.ref h.length,_,rfl,fm,R.up _,?_,λe=>?_⟩
 ·show Rep A X _ (.tup ts) _;unfold Rep;exact⟨_,vs,rfl,hx,ha,R.keeps fm r⟩
 ·obtain⟨fp,p,nd,l,R'⟩:=hf e;refine⟨fp,?_,nd,l,R'.up _,New.tup⟩;show FP X _ (.tup ts) _ _;unfold FP;exact⟨_,vs,rfl,hx,ha,zT (R.keepN fm) ts p⟩
theorem JO(R:RelM gl A X h M){ts:List T}{vs:List V}(r:qL A X h ts vs):Sim gl A X h (QE gl A X h.length) (.ok (lT ts,M)) (newL vs h):=
 JN R r (Nat.le_refl _) λe=>Frss.of_lf R r e
theorem qF(R:RelM gl A X h M){x:V}(fx:flat x=true){n:Nat}:Sim gl A X h (QE gl A X n) (.ok ((.v x,true),M)) (.ok (x,h)):=
 have r:Rep A X h (.v x) x:=by unfold Rep;exact⟨rfl,fx⟩
 ⟨x,h,rfl,Frm.refl A h,R,r,λ_=>Frs.of_lf R r rfl⟩
theorem qz{x w:V}(r:Rep A X h (.v x) w):w=x:=by unfold Rep at r;exact r.1
theorem i5(xs:List T):T.lf (.tup xs)=T.lfs xs:=by rw[T.lf]
theorem i4(R:RelM gl A X h M){op:BOp}{s t:T}{x y:V}{r:TB}(e:qv M op s t=some r)(r1:Rep A X h s x)(r2:Rep A X h t y):Sim gl A X h (QE gl A X h.length) (.ok (r,M)) (qBh op x y h):=by
 unfold qv at e;split at e
 ·rename_i i j e1 e2;cases qY e1;cases qY e2;cases qz r1;cases qz r2;cases op with
  |add=>cases e;exact qF R rfl
  |sub=>cases e;exact qF R rfl
  |mul=>dsimp only at e;split at e<;>cases e;rename_i c;show Sim _ _ _ _ _ _ (if _ then _ else _);rw[if_pos c];exact qF R rfl
  |fdiv=>
   dsimp only at e;show Sim _ _ _ _ _ _ (if _ then _ else _);split at e
   ·rename_i c;cases e;rw[if_pos c];exact qF R rfl
   ·rename_i c;rw[if_neg c];split at e
    ·rename_i c;cases e;rw[if_pos c];exact qF R rfl
    ·cases e
  |mod=>
   dsimp only at e;show Sim _ _ _ _ _ _ (if _ then _ else _);split at e
   ·rename_i c;cases e;rw[if_pos c];exact qF R rfl
   ·rename_i c;rw[if_neg c];split at e
    ·rename_i c;cases e;rw[if_pos c];exact qF R rfl
    ·cases e
  |pow=>dsimp only at e;split at e<;>cases e;rename_i c;show Sim _ _ _ _ _ _ (if _ then _ else _);rw[if_pos c];exact qF R rfl
  |shl=>dsimp only at e;split at e<;>cases e;rename_i c;show Sim _ _ _ _ _ _ (if _ then _ else _);rw[if_pos c];exact qF R rfl
 ·rename_i k e1 e2;cases qY e2;cases qz r2;obtain⟨a,rfl⟩:=jL e1 r1;cases op<;>first|cases e|skip
  dsimp only at e;cases em:s.mu M with
  |none=>rw[em]at e;cases e
  |some xs=>
   rw[em]at e;dsimp only[Option.bind_some]at e;split at e<;>cases e;rename_i c;obtain⟨a',vs,ea,m,rs⟩:=L7 R r1 em;cases ea;have lv:vs.length=xs.length:=(qD (reps_iff.mp rs)).symm;show Sim _ _ _ _ _ _ (match qf h a with|some xs=>_|none=>_);rw[m];dsimp only;rw[if_pos (by rw[lv];exact c)];exact JO R (reps_iff.mpr (W5 _ (reps_iff.mp rs)))
 ·rename_i e1 e2;obtain⟨a,rfl⟩:=jL e1 r1;obtain⟨b,rfl⟩:=jL e2 r2;cases op<;>first|cases e|skip
  dsimp only at e;split at e
  ·rename_i xs ys;split at e<;>cases e;rename_i c;unfold Rep at r1 r2;obtain⟨a1,vs,ea,n1,k1,q1⟩:=r1;cases ea;obtain⟨b1,us,eb,n2,k2,q2⟩:=r2;cases eb;have lv:vs.length=xs.length:=(qD (reps_iff.mp q1)).symm;have lu:us.length=ys.length:=(qD (reps_iff.mp q2)).symm;have m1:qf h a=none:=by unfold qf;rw[k1]
   have t1:qX h a=some vs:=by unfold qX;rw[k1]
   have t2:qX h b=some us:=by unfold qX;rw[k2]
   have q3:=reps_iff.mpr (qu (reps_iff.mp q1) (reps_iff.mp q2));show Sim _ _ _ _ _ _ (match qf h a,qf h b with|some xs,some ys=>_|_,_=>_);rw[m1];show Sim _ _ _ _ _ _ (match qX h a,qX h b with|some xs,some ys=>_|_,_=>_);rw[t1,t2];dsimp only;rw[if_pos ⟨λz=>c.1 (by subst z;exact List.length_eq_zero_iff.mp lv.symm),by rw[lv,lu];exact c.2⟩];split
   ·rename_i z;subst z;have y0:ys=[]:=List.length_eq_zero_iff.mp lu.symm;subst y0;have r:Rep A X h (.tup (xs++[])) (.ref a):=by
     rw[List.append_nil];unfold Rep;exact⟨a,vs,rfl,n1,k1,q1⟩
    exact⟨_,h,rfl,Frm.refl A h,R,r,λe=>Frs.of_lf R r (by rw[i5];exact e)⟩
   ·exact Zx R q3 λe=>Frss.of_lf R q3 e
  cases em:s.mu M with
  |none=>rw[em]at e;cases e
  |some xs=>
   rw[em]at e;dsimp only[Option.bind_some]at e;cases en:t.mu M with
   |none=>rw[en]at e;cases e
   |some ys=>
    rw[en]at e;dsimp only[Option.bind_some]at e;split at e<;>cases e;rename_i c;obtain⟨a',vs,ea,m,rs⟩:=L7 R r1 em;cases ea;obtain⟨b',us,eb,m2,rs2⟩:=L7 R r2 en;cases eb;have lv:vs.length=xs.length:=(qD (reps_iff.mp rs)).symm;have lu:us.length=ys.length:=(qD (reps_iff.mp rs2)).symm;show Sim _ _ _ _ _ _ (match qf h a,qf h b with|some xs,some ys=>_|_,_=>_);rw[m,m2];dsimp only;rw[if_pos (by rw[lv,lu];exact c)];exact JO R (reps_iff.mpr (qu (reps_iff.mp rs) (reps_iff.mp rs2)))
 ·cases e
theorem Jd{x:V}{b:Bool}(e:eqF x x=some b):b=true:=by
 cases x with
 |int i=>cases e;exact vD i
 |bl i=>cases e;exact vD i
 |str i=>cases e;exact vD i
 |non=>cases e;rfl
 |_=>cases e
theorem zz{f:T->T->Option Bool}(hf:∀t b,f t t=some b->b=true):∀(ts:List T) bs,qe f ts ts=some bs->bs.all id=true
 | [],bs,e=>by cases e;rfl
 |t::ts,bs,e=>by
  unfold qe at e;split at e
  ·rename_i b bs' e1 e2;cases e;rw[List.all_cons,hf t b e1,zz hf ts bs' e2];rfl
  ·cases e
theorem Ql:∀(n:Nat) (t:T) (b:Bool),eqT M n t t=some b->b=true
 | 0,t,b,e=>by
  unfold eqT at e;split at e
  ·rename_i x y e1 e2;rw[e1]at e2;cases e2;exact Jd e
  ·cases e
 |n+1,t,b,e=>by
  unfold eqT at e;split at e
  ·rename_i x y e1 e2;rw[e1]at e2;cases e2;exact Jd e
  ·rename_i e1 e2;rw[e1]at e2;cases e2
  ·rename_i e1 e2;rw[e1]at e2;cases e2
  ·split at e
   ·rename_i xs ys e1 e2;rw[e1]at e2;cases e2;rw[if_pos rfl]at e;obtain⟨bs,eb,rfl⟩:=Option.map_eq_some_iff.mp e;exact zz (Ql n) xs bs eb
   ·rename_i e1 e2;rw[e1]at e2;cases e2
   ·rename_i e1 e2;rw[e1]at e2;cases e2
   ·split at e
    ·rename_i xs ys e1 e2;rw[e1]at e2;cases e2;rw[if_pos rfl]at e;obtain⟨bs,eb,rfl⟩:=Option.map_eq_some_iff.mp e;exact zz (Ql n) xs bs eb
    ·cases e
theorem jo{f:T->T->Option Bool}{g:V->V->Option Bool}(hf:∀s t x y b,Rep A X h s x->Rep A X h t y->f s t=some b->g x y=some b):∀{ss ts:List T}{xs ys:List V}{bs:List Bool},qL A X h ss xs->qL A X h ts ys->qe f ss ts=some bs->QS g xs ys=some bs
 | [],[],xs,ys,bs,r1,r2,e=>by unfold qL at r1 r2;subst r1 r2;exact e
 | [],t::ts,xs,ys,bs,r1,r2,e=>by cases e
 |s::ss,[],xs,ys,bs,r1,r2,e=>by cases e
 |s::ss,t::ts,xs,ys,bs,r1,r2,e=>by
  unfold qL at r1 r2;obtain⟨x,xs',rfl,a1,a2⟩:=r1;obtain⟨y,ys',rfl,b1,b2⟩:=r2;unfold qe at e;split at e
  ·rename_i b bs' e1 e2;cases e;unfold QS;rw[hf s t x y b a1 b1 e1,jo hf a2 b2 e2]
  ·cases e
theorem jR{x w:V}(r:Rep A X h (.v x) w):flat x=true:=by unfold Rep at r;exact r.2
theorem Jl(R:RelM gl A X h M){t:T}{a:Nat}(r:Rep A X h t (.ref a))(hs:(t.its M).isSome=true):(items h a).isSome=true:=by
 cases t with
 |v x=>unfold Rep at r;exact(zj r.2 r.1).elim
 |cell n=>unfold Rep at r;obtain⟨b,eb,e⟩:=r;cases e;obtain⟨_,_,_,q,_⟩:=R.at_ n _ eb;unfold items;rw[q];rfl
 |fz xs=>unfold Rep at r;obtain⟨b,vs,e,_,q,_⟩:=r;cases e;unfold items;rw[q];rfl
 |lst xs=>unfold Rep at r;obtain⟨b,vs,e,_,q,_⟩:=r;cases e;unfold items;rw[q];rfl
 |tup xs=>unfold Rep at r;obtain⟨b,vs,e,_,q,_⟩:=r;cases e;unfold items;rw[q];rfl
 |ob o=>cases hs
theorem B4{t:T}{w:V}{ts:List T}(r:Rep A X h t w)(e1:t.isV=none)(e2:t.lis M=none)(e:t.its M=some ts):∃a vs,w=.ref a/\h[a]?=some (.tup vs)/\qL A X h ts vs:=by
 cases t with
 |v x=>cases e1
 |cell n=>have z:M[n]?=some ts:=e;have z2:M[n]?=none:=e2;rw[z]at z2;cases z2
 |fz xs=>cases e2
 |lst xs=>cases e2
 |tup xs=>unfold Rep at r;obtain⟨b,vs,e',_,q,k⟩:=r;cases e;exact⟨b,vs,e',q,k⟩
 |ob o=>cases e
theorem X0{n:Nat}{x y:V}(fx:flat x=true)(fy:flat y=true):eqD h (n+1) x y=eqF x y:=by
 cases x<;>cases y<;>first|rfl|(simp[flat]at fx;done)|(simp[flat]at fy;done)
theorem ZW(R:RelM gl A X h M):∀(n:Nat) (s t:T) (x y:V) (b:Bool),Rep A X h s x->Rep A X h t y->eqT M n s t=some b->eqD h n x y=some b
 | 0,s,t,x,y,b,r1,r2,e=>by
  unfold eqT at e;split at e
  ·rename_i x' y' e1 e2;cases qY e1;cases qY e2;cases qz r1;cases qz r2;unfold eqD;exact e
  ·cases e
 |n+1,s,t,x,y,b,r1,r2,e=>by
  unfold eqT at e;split at e
  ·rename_i x' y' e1 e2;cases qY e1;cases qY e2;cases qz r1;cases qz r2;rw[X0 (jR r1) (jR r2)];exact e
  ·rename_i x' e1 e2;cases qY e1;cases qz r1;obtain⟨c,rfl⟩:=jL e2 r2;have fx:=jR r1;split at e<;>cases e;rename_i hz;have:=Jl R r2 hz;cases x<;>first|(unfold eqD;simp[flat,this];done)|(simp[flat]at fx;done)
  ·rename_i y' e1 e2;cases qY e2;cases qz r2;obtain⟨c,rfl⟩:=jL e1 r1;have fx:=jR r2;split at e<;>cases e;rename_i hz;have:=Jl R r1 hz;cases y<;>first|(unfold eqD;simp[flat,this];done)|(simp[flat]at fx;done)
  ·rename_i e1 e2;obtain⟨c,rfl⟩:=jL e1 r1;obtain⟨d,rfl⟩:=jL e2 r2;have same:c=d->b=true:=by
    rintro rfl;have:=R6 R.nd R.sub s t r1 r2;subst this;refine Ql (M:=M) (n+1) s b ?_;unfold eqT;rw[e1];exact e
   split at e
   ·rename_i xs ys l1 l2;obtain⟨_,vs,f1,q1,k1,m1⟩:=zM R r1 l1;cases q1;obtain⟨_,us,f2,q2,k2,m2⟩:=zM R r2 l2;cases q2;unfold eqD;rw[k1,k2];dsimp only;by_cases hcd:c=d
    ·rw[if_pos hcd,same hcd]
    ·rw[if_neg hcd,<-qD (reps_iff.mp m1),<-qD (reps_iff.mp m2)];split at e
     ·rename_i hl;rw[if_pos hl];obtain⟨bs,eb,rfl⟩:=Option.map_eq_some_iff.mp e;rw[jo (λs t x y b a1 a2 a3=>ZW R n s t x y b a1 a2 a3) m1 m2 eb];rfl
     ·rename_i hl;rw[if_neg hl];exact e
   ·rename_i l1 l2;obtain⟨_,vs,f1,q1,k1,m1⟩:=zM R r1 l1;cases q1;split at e<;>cases e;rename_i z;cases ei:t.its M with
    |none=>rw[ei]at z;cases z
    |some ys=>
     obtain⟨_,us,q2,k2,m2⟩:=B4 r2 e2 l2 ei;cases q2;unfold eqD;rw[k1,k2]
   ·rename_i l1 l2;obtain⟨_,vs,f1,q1,k1,m1⟩:=zM R r2 l2;cases q1;split at e<;>cases e;rename_i z;cases ei:s.its M with
    |none=>rw[ei]at z;cases z
    |some ys=>
     obtain⟨_,us,q2,k2,m2⟩:=B4 r1 e1 l1 ei;cases q2;unfold eqD;rw[k1,k2]
   ·rename_i l1 l2;split at e
    ·rename_i xs ys i1 i2;obtain⟨_,vs,q1,k1,m1⟩:=B4 r1 e1 l1 i1;cases q1;obtain⟨_,us,q2,k2,m2⟩:=B4 r2 e2 l2 i2;cases q2;unfold eqD;rw[k1,k2];dsimp only;by_cases hcd:c=d
     ·rw[if_pos hcd,same hcd]
     ·rw[if_neg hcd,<-qD (reps_iff.mp m1),<-qD (reps_iff.mp m2)];split at e
      ·rename_i hl;rw[if_pos hl];obtain⟨bs,eb,rfl⟩:=Option.map_eq_some_iff.mp e;rw[jo (λs t x y b a1 a2 a3=>ZW R n s t x y b a1 a2 a3) m1 m2 eb];rfl
      ·rename_i hl;rw[if_neg hl];obtain⟨bs,eb,rfl⟩:=Option.map_eq_some_iff.mp e;rw[jo (λs t x y b a1 a2 a3=>ZW R n s t x y b a1 a2 a3) (reps_iff.mpr (zF _ (reps_iff.mp m1))) (reps_iff.mpr (zF _ (reps_iff.mp m2))) eb];rfl
    ·cases e
theorem Jg:∀{ts:List T}{vs xs:List V},qL A X h ts vs->zx ts=some xs->vs=xs/\xs.all flat=true
 | [],vs,xs,r,e=>by unfold qL at r;subst r;cases e;exact⟨rfl,rfl⟩
 |t::ts,vs,xs,r,e=>by
  unfold qL at r;obtain⟨v,vs',rfl,a,b⟩:=r;cases t with
  |v x=>
   unfold zx at e;obtain⟨xs',e',rfl⟩:=Option.map_eq_some_iff.mp e;obtain⟨rfl,k⟩:=Jg b e';cases qz a;exact⟨rfl,by rw[List.all_cons,jR a,k];rfl⟩
  |_=>cases e
theorem m5{t:T}{kvs:List (Int×V)}{w:V}(e:t.dct=some kvs)(r:Rep A X h t w):∃p:Nat,w=.ref p/\p∉X/\h[p]?=some (.ob (.dct kvs)):=by
 cases t with
 |ob o=>
  cases o with
  |dct k=>cases e;unfold Rep at r;exact r
  |exn c=>cases e
 |_=>cases e
theorem X9(R:RelM gl A X h M){s t:T}{x y:V}{b:Bool}(r1:Rep A X h s x)(r2:Rep A X h t y)(e:inT M s t=some b):S0 .inn x y h=some b/\S0 .notin x y h=some (!b):=by
 unfold inT at e;cases hd:t.dct with
 |some kvs=>
  rw[hd]at e;obtain⟨p,rfl,q1,q2⟩:=m5 hd r2;have i0:items h p=none:=by unfold items;rw[q2]
  have d0:JL h p=some kvs:=by unfold JL;rw[q2]
  dsimp only at e;split at e
  ·cases e;cases qz r1;constructor
   ·dsimp only[S0,X8];rw[i0];dsimp only;rw[d0]
   ·dsimp only[S0,X8];rw[i0];dsimp only;rw[d0]
  ·cases e
 |none=>
 rw[hd]at e;dsimp only at e;obtain⟨a,ea,e⟩:=Option.bind_eq_some_iff.mp e;obtain⟨ts,et,e⟩:=Option.bind_eq_some_iff.mp e;obtain⟨xs,ex,rfl⟩:=Option.map_eq_some_iff.mp e;cases qY ea;cases qz r1;obtain⟨p,vs,rfl,q1,q2⟩:=Jz R r2 et;obtain⟨rfl,k⟩:=Jg q2 ex;have fx:=jR r1;constructor
 ·dsimp only[S0,X8];rw[q1];dsimp only;rw[if_pos (by rw[fx,k];rfl)]
 ·dsimp only[S0,X8];rw[q1];dsimp only;rw[if_pos (by rw[fx,k];rfl)]
theorem Zz(R:RelM gl A X h M){op:COp}{s t:T}{x y:V}{b:Bool}(r1:Rep A X h s x)(r2:Rep A X h t y)(e:zN M op s t=some b):S0 op x y h=some b:=by
 cases op with
 |eq=>exact ZW R 4 s t x y b r1 r2 e
 |ne=>
  obtain⟨c,ec,rfl⟩:=Option.map_eq_some_iff.mp (show (eqT M 4 s t).map (!·)=some b from e);show (eqD h 4 x y).map (!·)=_;rw[ZW R 4 s t x y c r1 r2 ec];rfl
 |inn=>exact(X9 R r1 r2 e).1
 |notin=>
  obtain⟨c,ec,rfl⟩:=Option.map_eq_some_iff.mp (show (inT M s t).map (!·)=some b from e);exact(X9 R r1 r2 ec).2
 |is=>
  unfold zN at e;dsimp only at e;split at e
  ·rename_i e2;cases qY e2;cases qz r2;cases e;show some (decide (x=V.non))=_;cases hs:s.isV with
   |none=>obtain⟨a,rfl⟩:=jL hs r1;rfl
   |some z=>cases qY hs;cases qz r1;cases x<;>rfl
  ·rename_i e2;cases qY e2;cases qz r2;split at e
   ·rename_i e3;cases qY e3;cases qz r1;exact e
   ·cases e
  ·cases e
 |isnot=>
  unfold zN at e;dsimp only at e;split at e
  ·rename_i e2;cases qY e2;cases qz r2;cases e;show some (!decide (x=V.non))=_;cases hs:s.isV with
   |none=>obtain⟨a,rfl⟩:=jL hs r1;rfl
   |some z=>cases qY hs;cases qz r1;cases x<;>rfl
  ·rename_i e2;cases qY e2;cases qz r2;split at e
   ·rename_i e3;cases qY e3;cases qz r1;exact e
   ·cases e
  ·cases e
 |lt=>unfold zN at e;dsimp only at e;split at e<;>first|(rename_i e1 e2;cases qY e1;cases qY e2;cases qz r1;cases qz r2;exact e)|cases e
 |le=>unfold zN at e;dsimp only at e;split at e<;>first|(rename_i e1 e2;cases qY e1;cases qY e2;cases qz r1;cases qz r2;exact e)|cases e
 |gt=>unfold zN at e;dsimp only at e;split at e<;>first|(rename_i e1 e2;cases qY e1;cases qY e2;cases qz r1;cases qz r2;exact e)|cases e
 |ge=>unfold zN at e;dsimp only at e;split at e<;>first|(rename_i e1 e2;cases qY e1;cases qY e2;cases qz r1;cases qz r2;exact e)|cases e
theorem jS:∀{ts:List T}{vs:List V}{is:List Int},qL A X h ts vs->qR ts=some is->zK vs=some is
 | [],vs,xs,r,e=>by unfold qL at r;subst r;cases e;rfl
 |t::ts,vs,xs,r,e=>by
  unfold qL at r;obtain⟨v,vs',rfl,a,b⟩:=r;unfold qR at e;split at e
  ·rename_i e';cases e'
  ·rename_i e';cases e';obtain⟨xs',e',rfl⟩:=Option.map_eq_some_iff.mp e;cases qz a;show (zK vs').map _=_;rw[jS b e'];rfl
  ·cases e
theorem Zw:∀{ts:List T}{vs:List V}{is:List Int},qL A X h ts vs->zu ts=some is->za vs=some is
 | [],vs,xs,r,e=>by unfold qL at r;subst r;cases e;rfl
 |t::ts,vs,xs,r,e=>by
  unfold qL at r;obtain⟨v,vs',rfl,a,b⟩:=r;unfold zu at e;split at e
  ·rename_i e';cases e'
  ·rename_i e';cases e';obtain⟨xs',e',rfl⟩:=Option.map_eq_some_iff.mp e;cases qz a;show (za vs').map _=_;rw[Zw b e'];rfl
  ·rename_i e';cases e';obtain⟨xs',e',rfl⟩:=Option.map_eq_some_iff.mp e;cases qz a;show (za vs').map _=_;rw[Zw b e'];rfl
  ·cases e
theorem Ji:∀{ts:List T}{vs:List V}{is:List Bool},qL A X h ts vs->zU ts=some is->jU vs=some is
 | [],vs,xs,r,e=>by unfold qL at r;subst r;cases e;rfl
 |t::ts,vs,xs,r,e=>by
  unfold qL at r;obtain⟨v,vs',rfl,a,b⟩:=r;unfold zU at e;split at e
  ·rename_i e';cases e'
  ·rename_i e';cases e';obtain⟨xs',e',rfl⟩:=Option.map_eq_some_iff.mp e;cases qz a;show (jU vs').map _=_;rw[Ji b e'];rfl
  ·cases e
theorem QQ{t:T}{ws:List V}(r:qL A X h [t] ws):∃w,ws=[w]/\Rep A X h t w:=by
 unfold qL at r;obtain⟨v,vs,rfl,a,b⟩:=r;unfold qL at b;subst b;exact⟨v,rfl,a⟩
theorem qBU{s t:T}{ws:List V}(r:qL A X h [s,t] ws):∃w u,ws=[w,u]/\Rep A X h s w/\Rep A X h t u:=by
 unfold qL at r;obtain⟨v,vs,rfl,a,b⟩:=r;obtain⟨u,rfl,c⟩:=QQ b;exact⟨v,u,rfl,a,c⟩
theorem qT{a:Nat}{f:Bool}{vs:List V}(e:h[a]?=some (.lst f vs)):qU h a=some vs:=by unfold qU;rw[e]
theorem JK(R:RelM gl A X h M){t:T}{w:V}{n:Nat}(r:Rep A X h t w):Sim gl A X h (QE gl A X n) (.ok ((t,t.lf),M)) (.ok (w,h)):=
 ⟨w,h,rfl,Frm.refl A h,R,r,λe=>Frs.of_lf R r e⟩
theorem v4(R:RelM gl A X h M){f:BF}{ts:List T}{ws:List V}{r:TB}(rs:qL A X h ts ws)(e:jA M f ts=some r):Sim gl A X h (QE gl A X h.length) (.ok (r,M)) (qBm f ws h):=by
 cases f with
 |len=>
  replace e:=zm e;obtain⟨t0,rfl,e⟩:=e;obtain⟨w,rfl,rw_⟩:=QQ rs;obtain⟨xs,ex,rfl⟩:=Option.map_eq_some_iff.mp e;obtain⟨a,vs,rfl,q1,q2⟩:=Jz R rw_ ex;show Sim _ _ _ _ _ _ (match items h a with|some xs=>_|none=>_);rw[q1,qD (reps_iff.mp q2)];exact qF R rfl
 |sum=>
  replace e:=zm e;obtain⟨t0,rfl,e⟩:=e;obtain⟨w,rfl,rw_⟩:=QQ rs;obtain⟨xs,ex,e⟩:=Option.bind_eq_some_iff.mp e;obtain⟨is,ei,rfl⟩:=Option.map_eq_some_iff.mp e;obtain⟨a,vs,f,rfl,q1,q2⟩:=zM R rw_ ex;show Sim _ _ _ _ _ _ (match qU h a with|some xs=>_|none=>_);rw[qT q1];dsimp only;rw[Zw q2 ei];exact qF R rfl
 |all=>
  replace e:=zm e;obtain⟨t0,rfl,e⟩:=e;obtain⟨w,rfl,rw_⟩:=QQ rs;obtain⟨xs,ex,e⟩:=Option.bind_eq_some_iff.mp e;obtain⟨is,ei,rfl⟩:=Option.map_eq_some_iff.mp e;obtain⟨a,vs,f,rfl,q1,q2⟩:=zM R rw_ ex;show Sim _ _ _ _ _ _ (match qU h a with|some xs=>_|none=>_);rw[qT q1];dsimp only;rw[Ji q2 ei];exact qF R rfl
 |max=>
  replace e:=twoT_inv e;obtain⟨i,j,rfl,e⟩:=e;obtain⟨w,u,rfl,a,b⟩:=qBU rs;cases qz a;cases qz b;cases e;exact qF R rfl
 |min=>
  replace e:=twoT_inv e;obtain⟨i,j,rfl,e⟩:=e;obtain⟨w,u,rfl,a,b⟩:=qBU rs;cases qz a;cases qz b;cases e;exact qF R rfl
 |bits=>
  replace e:=zm e;obtain⟨t0,rfl,e⟩:=e;split at e
  ·obtain⟨w,rfl,a⟩:=QQ rs;cases qz a;cases e;exact qF R rfl
  ·cases e
 |list=>
  replace e:=zm e;obtain⟨t0,rfl,e⟩:=e;obtain⟨w,rfl,rw_⟩:=QQ rs;obtain⟨xs,ex,rfl⟩:=Option.map_eq_some_iff.mp e;obtain⟨a,vs,rfl,q1,q2⟩:=Jz R rw_ ex;show Sim _ _ _ _ _ _ (match items h a with|some xs=>_|none=>_);rw[q1];exact JO R q2
 |int=>
  replace e:=zm e;obtain⟨t0,rfl,e⟩:=e;split at e
  ·obtain⟨w,rfl,a⟩:=QQ rs;cases qz a;cases e;exact qF R rfl
  ·obtain⟨w,rfl,a⟩:=QQ rs;cases qz a;cases e;exact qF R rfl
  ·cases e
theorem S6(R:RelM gl A X h M){t:T}{w:V}{s:String}(r:Rep A X h t w)(e:zW M t=some s):zX h w=some s:=by
 cases t with
 |v x=>cases qz r;cases w<;>first|exact e|(cases e;done)
 |cell n=>unfold Rep at r;obtain⟨a,ea,rfl⟩:=r;obtain⟨ts,vs,e1,e2,_⟩:=R.at_ n a ea;unfold zW at e;dsimp only at e;rw[e1]at e;cases e;unfold zX;dsimp only;rw[e2]
 |fz xs=>unfold Rep at r;obtain⟨a,vs,rfl,_,q,_⟩:=r;cases e;unfold zX;dsimp only;rw[q]
 |lst xs=>unfold Rep at r;obtain⟨a,vs,rfl,_,q,_⟩:=r;cases e;unfold zX;dsimp only;rw[q]
 |tup xs=>unfold Rep at r;obtain⟨a,vs,rfl,_,q,_⟩:=r;cases e;unfold zX;dsimp only;rw[q]
 |ob o=>cases o with
  |dct=>unfold Rep at r;obtain⟨a,rfl,_,q⟩:=r;cases e;unfold zX;dsimp only;rw[q]
  |exn c=>cases e
theorem Zl{ts:List T}{vs:List V}{lo hi:Option Int}(r:qL A X h ts vs):qL A X h (Qt ts lo hi) (L2.cutV vs lo hi):=by
 have l:=qD (reps_iff.mp r);unfold Qt L2.cutV;rw[l];exact reps_iff.mpr (zF _ (jJ _ (reps_iff.mp r)))
end
def qAG(A X:List Nat)(h:AH):Option T->Option V->Prop
 |none,_=>True
 |some t,some w=>Rep A X h t w
 |some _,none=>False
abbrev jN(A X:List Nat)(h:AH):TS->List (Option V)->Prop:=zQ (qAG A X h)
section
variable{gl:List T}{A X:List Nat}{h h':AH}{M M':Mem}{σ:TS}{σh:List (Option V)}
theorem A8{i:Nat}{t:T}(r:jN A X h σ σh)(e:σ[i]?=some (some t)):∃w,σh[i]?=some (some w)/\Rep A X h t w:=by
 obtain⟨o,e1,q⟩:=zI r e;cases o with
 |none=>exact q.elim
 |some w=>exact⟨w,e1,q⟩
theorem zh{A' X':List Nat}(hc:∀(n:Nat) a,A[n]?=some a->A'[n]?=some a)(hn:∀a o,a∉X->h[a]?=some o->a∉X'/\h'[a]?=some o)(r:jN A X h σ σh):jN A' X' h' σ σh:=
 ZU (λx y q=>by
  cases x with
  |none=>trivial
  |some t=>cases y with
   |none=>exact q.elim
   |some w=>exact zG hc hn t q) r
theorem RelM.keepS(R:RelM gl A X h M)(f:Frm A h h')(r:jN A X h σ σh):jN A X h' σ σh:=zh (λ_ _ e=>e) (R.keepN f) r
theorem jP(r:jN A X h σ σh):∀src:List (Option Nat),jN A X h (qh src σ) (L2.inner src σh)
 | []=>rfl
 |none::src=>⟨none,_,rfl,trivial,jP r src⟩
 |some j::src=>by
  refine⟨(σh[j]?).join,_,rfl,?_,jP r src⟩;show qAG A X h (σ[j]?).join _;cases hj:σ[j]? with
  |none=>trivial
  |some o=>cases o with
   |none=>trivial
   |some t=>
    obtain⟨w,e1,q⟩:=A8 r hj;rw[e1];exact q
theorem Q5:∀{is:List Nat}{ts:List T}{ws:List V}{σ σ1:TS}{σh:List (Option V)},qAM is ts σ=some σ1->qL A X h ts ws->jN A X h σ σh->∃σh1,Qb is ws σh=some σh1/\jN A X h σ1 σh1
 | [],[],ws,σ,σ1,σh,e,r,rs=>by unfold qL at r;subst r;cases e;exact⟨σh,rfl,rs⟩
 | [],t::ts,ws,σ,σ1,σh,e,r,rs=>by cases e
 |i::is,[],ws,σ,σ1,σh,e,r,rs=>by cases e
 |i::is,t::ts,ws,σ,σ1,σh,e,r,rs=>by
  unfold qL at r;obtain⟨w,ws',rfl,a,b⟩:=r;exact Q5 (is:=is) (show qAM is ts (σ.set i (some t))=some σ1 from e) b (zl i rs (show qAG A X h (some t) (some w) from a))
theorem jC{g:Tg}{t:T}{w:V}{σ1:TS}(e:qw g t σ=some σ1)(r:Rep A X h t w)(rs:jN A X h σ σh):∃σh1,store g w σh h=some σh1/\jN A X h σ1 σh1:=by
 cases g with
 |name i=>cases e;exact⟨σh.set i (some w),rfl,zl i rs (show qAG A X h (some t) (some w) from r)⟩
 |tup is=>
  cases t with
  |tup ts=>
   unfold Rep at r;obtain⟨a,vs,rfl,_,q,k⟩:=r;obtain⟨σh1,e1,r1⟩:=Q5 (show qAM is ts σ=some σ1 from e) k rs;refine⟨σh1,?_,r1⟩;show (match qX h a with|some xs=>_|none=>_)=_;rw[show qX h a=some vs by unfold qX;rw[q]];exact e1
  |_=>cases e
inductive ZL(A X:List Nat)(h:AH):Src->List T->QB->Prop
 |list (a f vs ts):a∉X->h[a]?=some (.lst f vs)->qL A X h ts vs->ZL A X h (.list a) ts []
 |cell (n a vs ts):A[n]?=some a->h[a]?=some (.lst false vs)->qL A X h ts vs->ZL A X h (.list a) ts [(n,ts)]
 |tupl (a vs ts):a∉X->h[a]?=some (.tup vs)->qL A X h ts vs->ZL A X h (.tupl a) ts []
 |rng (lo n):ZL A X h (.rng lo n) (ql lo n) []
theorem O6{s:Src}{ts:List T}{d:QB}(r:ZL A X h s ts d)(hn:∀a o,a∉X->h[a]?=some o->h'[a]?=some o)(R:RelM gl A X h' M')(hd:qd d M'=true):ZL A X h' s ts d:=by
 induction r with
 |list a f vs ts q1 q2 q3=>exact .list a f vs ts q1 (hn _ _ q1 q2) (qN (λ_ _ e=>e) (λa o x y=>⟨x,hn a o x y⟩) ts q3)
 |cell n a vs ts q1 q2 q3=>
  obtain⟨ts',vs',e1,e2,e3⟩:=R.at_ n a q1;unfold qd at hd;simp only[List.all_cons,List.all_nil,Bool.and_true]at hd;rw[e1]at hd;have:=jZ _ _ hd;subst this;exact .cell n a vs' ts' q1 e2 e3
 |tupl a vs ts q1 q2 q3=>exact .tupl a vs ts q1 (hn _ _ q1 q2) (qN (λ_ _ e=>e) (λa o x y=>⟨x,hn a o x y⟩) ts q3)
 |rng lo n=>exact .rng lo n
theorem QT{A' X':List Nat}{s:Src}{ts:List T}{d:QB}(r:ZL A X h s ts d)(hn:∀a o,a∉X->h[a]?=some o->a∉X'/\h'[a]?=some o)(R:RelM gl A' X' h' M')(hd:qd d M'=true)(hA:∀(n:Nat) a,A[n]?=some a->A'[n]?=some a:=by exact λ_ _ e=>e):ZL A' X' h' s ts d:=by
 induction r with
 |list a f vs ts q1 q2 q3=>exact .list a f vs ts (hn _ _ q1 q2).1 (hn _ _ q1 q2).2 (qN hA hn ts q3)
 |cell n a vs ts q1 q2 q3=>
  obtain⟨ts',vs',e1,e2,e3⟩:=R.at_ n a (hA _ _ q1);unfold qd at hd;simp only[List.all_cons,List.all_nil,Bool.and_true]at hd;rw[e1]at hd;have:=jZ _ _ hd;subst this;exact .cell n a vs' ts' (hA _ _ q1) e2 e3
 |tupl a vs ts q1 q2 q3=>exact .tupl a vs ts (hn _ _ q1 q2).1 (hn _ _ q1 q2).2 (qN hA hn ts q3)
 |rng lo n=>exact .rng lo n
theorem Jk{s:Src}{ts:List T}{d:QB}(r:ZL A X h s ts d):Q4 h s=some ts.length:=by
 cases r with
 |list a f vs ts q1 q2 q3=>show (qU h a).map _=_;rw[qT q2,Option.map_some,qD (reps_iff.mp q3)]
 |cell n a vs ts q1 q2 q3=>show (qU h a).map _=_;rw[qT q2,Option.map_some,qD (reps_iff.mp q3)]
 |tupl a vs ts q1 q2 q3=>show (qX h a).map _=_;rw[show qX h a=some vs by unfold qX;rw[q2],Option.map_some,qD (reps_iff.mp q3)]
 |rng lo n=>show some n=_;simp[ql]
theorem ZS{s:Src}{ts:List T}{d:QB}(r:ZL A X h s ts d):jb h ts.length s=true:=by
 cases r with
 |list a f vs ts q1 q2 q3=>show (match qU h a with|some xs=>_|none=>_)=_;rw[qT q2,qD (reps_iff.mp q3)];simp
 |cell n a vs ts q1 q2 q3=>show (match qU h a with|some xs=>_|none=>_)=_;rw[qT q2,qD (reps_iff.mp q3)];simp
 |tupl a vs ts q1 q2 q3=>show (match qX h a with|some xs=>_|none=>_)=_;rw[show qX h a=some vs by unfold qX;rw[q2],qD (reps_iff.mp q3)];simp
 |rng lo n=>show decide _=_;simp[ql]
theorem Qc(R:RelM gl A X h M){s:Src}{ts:List T}{d:QB}(r:ZL A X h s ts d){i:Nat}{t:T}(ei:ts[i]?=some t):
  ∃w e,zD h i s=some (w,h++e)/\Rep A X (h++e) t w:=by
 cases r with
 |list a f vs ts q1 q2 q3=>
  obtain⟨w,ew,q⟩:=zI (reps_iff.mp q3) ei;refine⟨w,[],?_,by rw[List.append_nil];exact q⟩;show (match qU h a with|some xs=>_|none=>_)=_;rw[qT q2];dsimp only;rw[ew,List.append_nil];rfl
 |cell n a vs ts q1 q2 q3=>
  obtain⟨w,ew,q⟩:=zI (reps_iff.mp q3) ei;refine⟨w,[],?_,by rw[List.append_nil];exact q⟩;show (match qU h a with|some xs=>_|none=>_)=_;rw[qT q2];dsimp only;rw[ew,List.append_nil];rfl
 |tupl a vs ts q1 q2 q3=>
  obtain⟨w,ew,q⟩:=zI (reps_iff.mp q3) ei;refine⟨w,[],?_,by rw[List.append_nil];exact q⟩;show (match qX h a with|some xs=>_|none=>_)=_;rw[show qX h a=some vs by unfold qX;rw[q2]];dsimp only;rw[ew,List.append_nil];rfl
 |rng lo n=>
  have hi:i<n:=by have:=(List.getElem?_eq_some_iff.mp ei).1;simpa [ql] using this
  refine⟨.int (lo+(i:Int)),[],?_,?_⟩
  ·show (if i<n then _ else _)=_;rw[if_pos hi,List.append_nil]
  ·have:t=.v (.int (lo+(i:Int))):=by
    simp only[ql,wQ,List.getElem?_range hi,Option.map_some,Option.some.injEq]at ei;exact ei.symm
   rw[this];unfold Rep;exact⟨rfl,rfl⟩
theorem Frs.ofD(R:RelM gl A X h M){kvs:List (Int×V)}(r:Rep A X (h++[O.ob (.dct kvs)]) (.ob (.dct kvs)) (.ref h.length)):Frs gl A X h.length (h++[O.ob (.dct kvs)]) M (.ob (.dct kvs)) (.ref h.length):=
 ⟨[],by unfold Rep at r;unfold FP;exact⟨r,rfl⟩,List.nodup_nil,λa ha=>by simp at ha,by rw[List.append_nil];exact R.up _,λ_ _=>⟨h.length,rfl,Nat.le_refl _,R.addX λa=>by simp only[wD,wJ];grind⟩⟩
theorem RelM.setX(R:RelM gl A X h M){D:Nat}(hD:D∈X)(hA:D∉A)(o:O):RelM gl A X (h.set D o) M:=by
 have hn:∀a o',a∉X->h[a]?=some o'->a∉X/\(h.set D o)[a]?=some o':=λa o' x y=>⟨x,by rw[wI (by rintro rfl;exact x hD)];exact y⟩
 refine⟨R.len,R.nd,R.sub,λa ha=>by simpa using R.lt a ha,λn a e=>?_,λg t e=>zG (λ_ _ e=>e) hn t (R.glo g t e)⟩;obtain⟨ts,vs,e1,e2,e3⟩:=R.at_ n a e;exact⟨ts,vs,e1,by rw[wI (by rintro rfl;exact hA (List.mem_of_getElem? e))];exact e2,qN (λ_ _ e=>e) hn ts e3⟩
theorem Sim.bindW{α β α2 β2:Type}{X':List Nat}{h1:AH}{Q:α->β->AH->Mem->Prop}{Q2:α2->β2->AH->Mem->Prop}{r:PR (α×Mem)}{rh:Res (β×AH)}{f:α×Mem->PR (α2×Mem)}{g:β×AH->Res (β2×AH)}
  (hX:∀a∈X,a∈X') (hA:∀a∈A,a∈X) (f0:Frm A h1 h)
  (s:Sim gl A X' h Q r rh) (k:∀x M' y h',Frm A h h'->RelM gl A X' h' M'->Q x y h' M'->Sim gl A X h1 Q2 (f (x,M')) (g (y,h'))):Sim gl A X h1 Q2 (r.bind f) (rh.bind g):=by
 cases r with
 |ok p=>
  obtain⟨x,M'⟩:=p;obtain⟨y,h',rfl,f1,R1,q⟩:=s;exact k x M' y h' f1 R1 q
 |exc c M'=>
  obtain⟨h',rfl,f1,R1⟩:=s;exact⟨h',rfl,f0.trans f1,R1.weak hX hA⟩
 |stuck=>trivial
mutual
theorem qAO{X X':List Nat}{h:AH}:∀(t:T){w:V}{f g:List Nat},FP X h t w f->FP X' h t w g->f=g
 | .v x,w,f,g,p,q=>by unfold FP at p q;rw[p.2,q.2]
 | .cell n,w,f,g,p,q=>by unfold FP at p;exact p.elim
 | .fz ts,w,f,g,p,q=>by unfold FP at p;exact p.elim
 | .ob o,w,f,g,p,q=>by unfold FP at p q;rw[p.2,q.2]
 | .lst ts,w,f,g,p,q=>by
  unfold FP at p q;obtain⟨a,vs,f',rfl,_,e1,k1,rfl⟩:=p;obtain⟨b,us,g',e,_,e2,k2,rfl⟩:=q;cases e;rw[e1]at e2;cases e2;rw[ZC ts k1 k2]
 | .tup ts,w,f,g,p,q=>by
  unfold FP at p q;obtain⟨a,vs,rfl,_,e1,k1⟩:=p;obtain⟨b,us,e,_,e2,k2⟩:=q;cases e;rw[e1]at e2;cases e2;exact ZC ts k1 k2
theorem ZC{X X':List Nat}{h:AH}:∀(ts:List T){ws:List V}{f g:List Nat},FPs X h ts ws f->FPs X' h ts ws g->f=g
 | [],w,f,g,p,q=>by unfold FPs at p q;rw[p.2,q.2]
 |t::ts,w,f,g,p,q=>by
  unfold FPs at p q;obtain⟨v,vs,f1,f2,rfl,a,b,rfl⟩:=p;obtain⟨v',vs',g1,g2,e,a',b',rfl⟩:=q;cases e;rw[qAO t a a',ZC ts b b']
end
theorem C8:∀{ts:List T}{ws:List V}{fp f:List Nat}{t:T}{w:V},FPs X h ts ws fp->FP X h t w f->FPs X h (ts++[t]) (ws++[w]) (fp++f)
 | [],ws,fp,f,t,w,p,q=>by
  unfold FPs at p;obtain⟨rfl,rfl⟩:=p;show FPs X h [t] [w] f;unfold FPs;exact⟨w,[],f,[],rfl,q,by unfold FPs;exact⟨rfl,rfl⟩,by simp⟩
 |s::ts,ws,fp,f,t,w,p,q=>by
  unfold FPs at p;obtain⟨v,vs,f1,f2,rfl,a,b,rfl⟩:=p;show FPs X h (s::(ts++[t])) (v::(vs++[w])) _;unfold FPs;exact⟨v,vs++[w],f1,f2++f,rfl,a,C8 b q,by rw[wL]⟩
end
section
variable{gl:List T}{A X:List Nat}
theorem Qs{s:Src}{its:List T}{d:QB}{g:Tg}{c:TS->Mem->PR (Bool×Mem)}{c':List (Option V)->AH->Res (Bool×AH)}{e:TS->Mem->PR (TB×Mem)}{e':List (Option V)->AH->RV}{D:Nat}{h1:AH}
  (hc:∀X h M σ σh,RelM gl A X h M->jN A X h σ σh->Sim gl A X h (λb b' _ _=>b=b') (c σ M) (c' σh h))
  (he:∀X h M σ σh,RelM gl A X h M->jN A X h σ σh->Sim gl A X h (QE gl A X h.length) (e σ M) (e' σh h))
  (hD:h1.length<=D) (hDX:D∉X) (hA:∀a∈A,a∈X):∀(r:List T) (i:Nat) (ys:List T) (ws:List V) (f:Bool) (fp:List Nat) (Y:List Nat) (σ:TS) (σh:List (Option V)) (M:Mem) (h:AH),
   its.drop i=r->i<=its.length->Y=D::X++fp->Frm A h1 h->RelM gl A Y h M->ZL A Y h s its d->h[D]?=some (.lst false ws)->qL A (D::X) h ys ws ->
   (f=true->FPs (D::X) h ys ws fp/\fp.Nodup/\∀a∈fp,h1.length<=a)->jN A Y h σ σh ->
   Sim gl A X h1 (QE gl A X h1.length) (qQ d g c e r ys f σ M) (Zo s g c' e' D r.length i ws σh h)
 | [],i,ys,ws,f,fp,Y,σ,σh,M,h,hr,hi,hY,fm,R,sr,eD,ry,hf,rs=>by
  have hi':i=its.length:=by
   have:=List.drop_eq_nil_iff.mp hr;omega
  subst hi';have hX:∀a∈X,a∈D::X:=λa z=>List.mem_cons_of_mem _ z;have hXY:∀a∈X,a∈Y:=λa z=>by rw[hY];simp[z]
  have hn:∀a o,a∉D::X->h[a]?=some o->a∉X/\h[a]?=some o:=λa o x y=>⟨λz=>x (hX _ z),y⟩
  refine⟨.ref D,h,?_,fm,R.weak hXY hA,?_,λe=>?_⟩
  ·show (if jb h its.length s then _ else _)=_;rw[if_pos (ZS sr)]
  ·show Rep A X h (.lst ys) _;unfold Rep;exact⟨D,ws,rfl,hDX,eD,qN (λ_ _ e=>e) hn ys ry⟩
  ·obtain⟨p,nd,l⟩:=hf e;refine⟨fp++[D],?_,?_,?_,?_⟩
   ·show FP X h (.lst ys) _ _;unfold FP;exact⟨D,ws,fp,rfl,hDX,eD,zT hn ys p,rfl⟩
   ·rw[wR];refine⟨nd,by simp,?_⟩;rintro a ha b hb rfl;simp at hb;exact(jW ys p a ha).1 (by rw[hb];exact List.mem_cons_self ..)
   ·intro a ha;rcases wD.mp ha with z|z
    ·exact l a z
    ·simp at z;omega
   ·refine⟨R.weak (λa z=>?_) λa z=>wE _ (hA a z),New.lst⟩;rw[hY];simp only[wD,List.mem_cons,wJ]at z ⊢
    grind
 |x::r,i,ys,ws,f,fp,Y,σ,σh,M,h,hr,hi,hY,fm,R,sr,eD,ry,hf,rs=>by
  have hXY:∀a∈X,a∈Y:=λa z=>by rw[hY];simp[z]
  have hDY:D∈Y:=by rw[hY];simp
  have hDXY:∀a∈D::X,a∈Y:=λa z=>by rw[hY];exact wE _ z
  have hDA:D∉A:=λz=>hDX (hA D z);have ex:its[i]?=some x:=by
   have:(its.drop i)[0]?=some x:=by rw[hr];rfl
   rwa [List.getElem?_drop,Nat.add_zero]at this
  have hi2:i+1<=its.length:=(List.getElem?_eq_some_iff.mp ex).1;have hr2:its.drop (i+1)=r:=by
   rw[<-List.drop_drop,hr];rfl
  obtain⟨w,ext,ey,rx⟩:=Qc R sr ex;have fy:Frm A h (h++ext):=Frm.app A h ext;rw[List.length_cons];unfold qQ Zo;rw[ey];dsimp only;cases es:qw g x σ with
  |none=>exact Sim.stuck
  |some σ1=>
   obtain⟨σh1,esh,rs1⟩:=jC es rx (R.keepS fy rs);rw[esh];dsimp only;refine Sim.bindW hXY hA (fm.trans fy) (hc _ _ _ _ _ (R.up ext) rs1) ?_;rintro b M2 b' h2 f2 R2 rfl;have k2:Frm A h h2:=fy.trans f2;have eD2:h2[D]?=some (.lst false ws):=(k2.2 D (qJ eD) hDA).trans eD;have kN:∀{h':AH},Frm A h h'->∀a o,a∉D::X->h[a]?=some o->a∉D::X/\h'[a]?=some o:=λf' a o x y=>⟨x,(f'.2 a (qJ y) λz=>x (List.mem_cons_of_mem _ (hA _ z))).trans y⟩
   cases b with
   |true=>
    simp only[if_true];refine Sim.bindW hXY hA (fm.trans k2) (he _ _ _ _ _ R2 ((R.up ext).keepS f2 rs1)) ?_;intro y M3 w3 h3 f3 R3 q3;have k3:Frm A h h3:=k2.trans f3;have eD3:h3[D]?=some (.lst false ws):=(k3.2 D (qJ eD) hDA).trans eD;have lw:ys.length=ws.length:=qD (reps_iff.mp ry);dsimp only;by_cases hl:ys.length<lim/\qd d M3=true
    ·rw[if_pos hl,if_pos ⟨eD3,by rw[<-lw];exact hl.1⟩];have hs:∀(Z:List Nat),D∈Z->∀a o,a∉Z->h3[a]?=some o->a∉Z/\(h3.set D (.lst false (ws++[w3])))[a]?=some o:=λZ hZ a o x y=>⟨x,by rw[wI (by rintro rfl;exact x hZ)];exact y⟩
     have hnD:∀a o,a∉D::X->h[a]?=some o->a∉D::X/\(h3.set D (.lst false (ws++[w3])))[a]?=some o:=λa o x y=>hs _ (List.mem_cons_self ..) a o x (kN k3 a o x y).2;have ry4:qL A (D::X) (h3.set D (.lst false (ws++[w3]))) (ys++[y.1]) (ws++[w3]):=
      reps_iff.mpr (qu (reps_iff.mp (qN (λ_ _ e=>e) hnD ys ry)) ⟨w3,[],rfl,zG (λ_ _ e=>e) (λa o x y=>hs _ (List.mem_cons_self ..) a o x y) _ (zG (λ_ _ e=>e) (λa o x y=>⟨λz=>x (hDXY _ z),y⟩) _ q3.1),rfl⟩)
     obtain⟨fp2,hp2,R3',hlt2⟩:∃fp2:List Nat,(y.2=true->FP Y h3 y.1 w3 fp2/\fp2.Nodup)/\RelM gl A (Y++fp2) h3 M3/\∀a∈fp2,h2.length<=a:=by
      cases hy2:y.2 with
      |true=>
       obtain⟨fp2,a,b,c,d,_⟩:=q3.2 hy2;exact⟨fp2,λ_=>⟨a,b⟩,d,c⟩
      |false=>exact⟨[],(λz=>by cases z),by rw[List.append_nil];exact R3,λa ha=>by simp at ha⟩
     have old:∀{Z:List Nat}(_:∀a∈Y,a∈Z) (a:Nat) o,a∉Y->h2[a]?=some o->a∉Y++fp2:=λ_ a o x y=>by
      rw[wD];rintro(z|z)
      ·exact x z
      ·have:=hlt2 a z;have:=qJ y;omega
     have R4:=R3'.setX (wE _ hDY) hDA (.lst false (ws++[w3]));have hnY:∀a o,a∉Y->h[a]?=some o->a∉Y++fp2/\(h3.set D (.lst false (ws++[w3])))[a]?=some o:=λa o x y=>⟨old (λ_ z=>z) a o x (R.keepN k2 a o x y).2,(hs Y hDY a o x (R.keepN k3 a o x y).2).2⟩
     have hn2:∀a o,a∉Y->h2[a]?=some o->a∉Y++fp2/\(h3.set D (.lst false (ws++[w3])))[a]?=some o:=λa o x y=>⟨old (λ_ z=>z) a o x y,(hs Y hDY a o x (R2.keepN f3 a o x y).2).2⟩
     refine Qs hc he hD hDX hA r (i+1) (ys++[y.1]) (ws++[w3]) (f&&y.2) (fp++fp2) (Y++fp2) σ1 σh1 M3 _ hr2 hi2 (by rw[hY,wL]) ((fm.trans k3).set (.inr hD) _) R4 ?_ ?_ ry4 ?_ ?_
     ·exact QT sr hnY R4 hl.2
     ·rw[wP (qJ eD3)]
     ·intro ef;rw[Bool.and_eq_true]at ef;obtain⟨p1,nd1,l1⟩:=hf ef.1;obtain⟨p2,nd2⟩:=hp2 ef.2;refine⟨C8 (zT hnD ys p1) (QX (λa o x y=>hs _ (List.mem_cons_self ..) a o x y) _ (QX (λa o x y=>⟨λz=>x (hDXY _ z),y⟩) _ p2)),?_,?_⟩
      ·rw[wR];refine⟨nd1,nd2,?_⟩;rintro a ha b hb rfl;exact(C3 y.1 p2 a hb).1 (by rw[hY];exact wF _ ha)
      ·intro a ha;rcases wD.mp ha with z|z
       ·exact l1 a z
       ·have:=hlt2 a z;have:=(fm.trans k2).1;omega
     ·exact zh (λ_ _ e=>e) hn2 ((R.up ext).keepS f2 rs1)
    ·rw[if_neg hl];exact Sim.stuck
   |false=>
    dsimp only;simp only[Bool.false_eq_true,if_false];by_cases hl:qd d M2=true
    ·rw[if_pos hl,if_pos eD2];exact Qs hc he hD hDX hA r (i+1) ys ws f fp Y σ1 σh1 M2 h2 hr2 hi2 hY (fm.trans k2) R2 (O6 sr (λa o x y=>(R.keepN k2 a o x y).2) R2 hl) eD2 (qN (λ_ _ e=>e) (kN k2) ys ry)
      (λef=>by obtain⟨a,b,c⟩:=hf ef;exact⟨zT (kN k2) ys a,b,c⟩) ((R.up ext).keepS f2 rs1)
    ·rw[if_neg hl];exact Sim.stuck
end
section
variable{gl:List T}{A X:List Nat}{h h':AH}{M M':Mem}
theorem U2{X':List Nat}{s:Src}{ts:List T}{d:QB}(r:ZL A X h s ts d)(hn:∀a o,a∉X->h[a]?=some o->a∉X'/\h'[a]?=some o)(hc:∀(n:Nat) a o,A[n]?=some a->h[a]?=some o->h'[a]?=some o):ZL A X' h' s ts d:=by
 induction r with
 |list a f vs ts q1 q2 q3=>exact .list a f vs ts (hn _ _ q1 q2).1 (hn _ _ q1 q2).2 (qN (λ_ _ e=>e) hn ts q3)
 |cell n a vs ts q1 q2 q3=>exact .cell n a vs ts q1 (hc n a _ q1 q2) (qN (λ_ _ e=>e) hn ts q3)
 |tupl a vs ts q1 q2 q3=>exact .tupl a vs ts (hn _ _ q1 q2).1 (hn _ _ q1 q2).2 (qN (λ_ _ e=>e) hn ts q3)
 |rng lo n=>exact .rng lo n
theorem O2{n:Nat}{r:PR (TB×Mem)}{rh:RV}(s:Sim gl A X h (QE gl A X n) r rh):Sim gl A X h (λb b' _ _=>b=b') (pB r) (asB rh):=by
 refine Sim.bind s ?_;intro x M1 w h1 f1 R1 q1;obtain⟨t,fr⟩:=x;dsimp only;split
 ·rename_i b;cases qz q1.1;exact⟨_,h1,rfl,Frm.refl A h1,R1,rfl⟩
 ·exact Sim.stuck
theorem Zr:∀(xs:List V),T.lfs (xs.map .v)=true
 | []=>rfl
 |x::xs=>by show (T.lf (.v x)&&T.lfs (xs.map .v))=true;rw[Zr xs];rfl
theorem E9(lo:Int)(n:Nat):T.lfs (ql lo n)=true:=by
 have e:ql lo n=(zr lo n).map .v:=by unfold ql zr;rw[wc];rfl
 rw[e];exact Zr _
theorem jH{A X:List Nat}{h:AH}:∀{xs:List V},xs.all flat=true->qL A X h (xs.map .v) xs
 | [],_=>by show qL A X h [] [];unfold qL;rfl
 |x::xs,f=>by
  rw[List.all_cons,Bool.and_eq_true]at f;show qL A X h (.v x::xs.map .v) _;unfold qL;exact⟨x,xs,rfl,by unfold Rep;exact⟨rfl,f.1⟩,jH f.2⟩
theorem D7{α β:Type}{R:α->β->Prop}{xs:List α}{ys:List β}(k:Nat)(h:zQ R xs ys):zQ R (xs.eraseIdx k) (ys.eraseIdx k):=by
 rw[wU,wU];exact qu (zF _ h) (jJ _ h)
theorem ZA{α β:Type}{R:α->β->Prop}{xs:List α}{ys:List β}(h:zQ R xs ys):zQ R xs.dropLast ys.dropLast:=by
 rw[wj,wj,<-qD h];exact zF _ h
theorem JX{α β:Type}{R:α->β->Prop}:∀{xs:List α}{ys:List β},zQ R xs ys->zQ R xs.reverse ys.reverse
 | [],_,h=>by cases h;rfl
 |x::xs,_,⟨v,vs,rfl,r,h⟩=>by
  rw[wb,wb];exact qu (JX h) ⟨v,[],rfl,r,rfl⟩
theorem Jf:∀(ts:List T){n:Nat},T.unds n ts=true->∀{g:Nat}{t:T},ts[g]?=some t->t.und n=true
 | [],n,_,g,t,e=>by simp at e
 |x::ts,n,h,0,t,e=>by rw[T.unds,Bool.and_eq_true]at h;simp at e;subst e;exact h.1
 |x::ts,n,h,g+1,t,e=>by rw[T.unds,Bool.and_eq_true]at h;exact Jf ts h.2 (by simpa using e)
theorem T4{r:PR (TB×Mem)}{k:Int}(e:qCe r=some k):∃fr,r=.ok ((.v (.int k),fr),[]):=by
 cases r with
 |ok q=>
  obtain⟨⟨t,fr⟩,M2⟩:=q;cases t with
  |v x=>
   cases x with
   |int i=>
    cases M2 with
    |nil=>cases e;exact⟨fr,rfl⟩
    |cons=>cases e
   |_=>cases e
  |_=>cases e
 |_=>cases e
theorem j4{g g':Int->Option Int}(h:∀i k,g i=some k->g' i=some k){is:List Int}{w:Int}(e:qBH g is=some w):qBH g' is=some w:=by
 have mm:∀(is ks:List Int),is.mapM g=some ks->is.mapM g'=some ks:=λis=>by
  induction is with
  |nil=>intro ks e;exact e
  |cons i is ih=>
   intro ks e;rw[wm]at e ⊢;cases h1:g i with
   |none=>rw[h1]at e;cases e
   |some k=>
    rw[h1]at e;cases h2:is.mapM g with
    |none=>rw[h2]at e;cases e
    |some ks2=>rw[h2]at e;rw[h i k h1,ih ks2 h2];exact e
 unfold qBH at e ⊢;obtain⟨ks,e1,e2⟩:=Option.bind_eq_some_iff.mp e;rw[mm is ks e1];exact e2
theorem J6(R:RelM gl A X h M):∀{ts:List T}{us:List V}{ks:List Int},qL A X h ts us->ts.mapM (h9 M)=some ks->us.mapM (qAA h)=some ks
 | [],us,ks,r,e=>by
  unfold qL at r;subst r;cases e;rfl
 |t::ts,us,ks,r,e=>by
  unfold qL at r;obtain⟨w,ws,rfl,r1,r2⟩:=r;rw[wm]at e ⊢;cases h1:h9 M t with
  |none=>rw[h1]at e;cases e
  |some k=>
   rw[h1]at e;cases h2:ts.mapM (h9 M) with
   |none=>rw[h2]at e;cases e
   |some ks2=>
    rw[h2]at e;rw[J6 R r2 h2];obtain⟨us',e1,e2⟩:=Option.bind_eq_some_iff.mp h1;obtain⟨is,e3,e4⟩:=Option.bind_eq_some_iff.mp e2;obtain⟨p,vs,ff,rfl,el,rl⟩:=zM R r1 e1;have:qAA h (.ref p)=some k:=by
     show (qU h p).bind _=_;rw[qT el,Option.bind_some,jS rl e3,Option.bind_some,e4]
    rw[this];exact e
theorem Js{α β:Type}{S:α->β->Prop}{x:Int×α}{y:Int×β}(h:x.1=y.1/\S x.2 y.2):∀{l:List (Int×α)}{m:List (Int×β)},zQ (λa b=>a.1=b.1/\S a.2 b.2) l m->zQ (λa b=>a.1=b.1/\S a.2 b.2) (E6 x l) (E6 y m)
 | [],m,q=>by
  have e:m=[]:=q;subst e;unfold E6;exact⟨y,[],rfl,h,rfl⟩
 |a::l,m,q=>by
  obtain⟨b,m',rfl,q1,q2⟩:=q;unfold E6;rw[h.1,q1.1];split
  ·exact⟨y,_,rfl,h,b,m',rfl,q1,q2⟩
  ·exact⟨b,_,rfl,q1,Js h q2⟩
theorem C0{α β:Type}{S:α->β->Prop}:∀(ks:List Int){l:List α}{m:List β},zQ S l m->zQ (λa b=>a.1=b.1/\S a.2 b.2) (S5 (ks.zip l)) (S5 (ks.zip m))
 | [],l,m,q=>by rw[wq,wq];exact rfl
 |k::ks,[],m,q=>by
  have e:m=[]:=q;subst e;exact rfl
 |k::ks,a::l,m,q=>by
  obtain⟨b,m',rfl,q1,q2⟩:=q;rw[List.zip_cons_cons,List.zip_cons_cons];exact Js (S:=S) (x:=(k,a)) (y:=(k,b)) ⟨rfl,q1⟩ (C0 (S:=S) ks q2)
theorem Jv{α β:Type}{S:α->β->Prop}:∀{l:List (Int×α)}{m:List (Int×β)},zQ (λa b=>a.1=b.1/\S a.2 b.2) l m->zQ S (l.map (·.2)) (m.map (·.2))
 | [],m,q=>by
  have e:m=[]:=q;subst e;exact rfl
 |a::l,m,q=>by
  obtain⟨b,m',rfl,q1,q2⟩:=q;exact⟨b.2,_,rfl,q1.2,Jv q2⟩
theorem W1(R:RelM gl A X h M){m:Mt}{n p:Nat}{ts:List T}{ws:List V}(ep:A[n]?=some p)(rs:qL A X h ts ws):Sim gl A X h (QE gl A X h.length) (PR.ofO (E5 m n ts M)) (jl m p ws h):=by
 obtain⟨ts2,vs2,g1,g2,g3⟩:=R.at_ n p ep;have hm:qf h p=some vs2:=by unfold qf;rw[g2]
 have l:=qD (reps_iff.mp g3);cases em:E5 m n ts M with
 |none=>exact Sim.stuck
 |some r=>
  unfold E5 at em;split at em
  ·unfold qL at rs;subst rs;rw[g1]at em;dsimp only[Option.bind_some]at em;obtain⟨y,ey,rfl⟩:=Option.map_eq_some_iff.mp em;obtain⟨w,ew,rw2⟩:=zI (reps_iff.mp g3) ey;show Sim _ _ _ _ _ _ (match qf h p with|some xs=>_|none=>_);rw[hm];dsimp only;rw[<-l,ew];obtain⟨R4,f4⟩:=R.put ep (reps_iff.mpr (ZA (reps_iff.mp g3)));have r:=R.keep f4 rw2;exact⟨w,_,rfl,f4,R4,r,λe=>Frs.of_lf R4 r e⟩
  ·rename_i i;obtain⟨w,rfl,a⟩:=QQ rs;cases qz a;rw[g1]at em;dsimp only[Option.bind_some]at em;split at em
   ·rename_i hl;obtain⟨k,ek,em⟩:=Option.bind_eq_some_iff.mp em;obtain⟨y,ey,rfl⟩:=Option.map_eq_some_iff.mp em;obtain⟨w,ew,rw2⟩:=zI (reps_iff.mp g3) ey;show Sim _ _ _ _ _ _ (match qf h p with|some xs=>_|none=>_);rw[hm];dsimp only;rw[<-l,if_pos hl,ek];dsimp only;rw[ew];obtain⟨R4,f4⟩:=R.put ep (reps_iff.mpr (D7 k (reps_iff.mp g3)));have r:=R.keep f4 rw2;exact⟨w,_,rfl,f4,R4,r,λe=>Frs.of_lf R4 r e⟩
   ·cases em
  ·unfold qL at rs;subst rs;rw[g1]at em;cases em;show Sim _ _ _ _ _ _ (match qf h p with|some xs=>_|none=>_);rw[hm];obtain⟨R4,f4⟩:=R.put ep (reps_iff.mpr (JX (reps_iff.mp g3)));have r:Rep A X (h.set p (.lst false vs2.reverse)) (.v .non) .non:=by unfold Rep;exact⟨rfl,rfl⟩
   exact⟨_,_,rfl,f4,R4,r,λe=>Frs.of_lf R4 r e⟩
  ·unfold qL at rs;subst rs;rw[g1]at em;cases em;show Sim _ _ _ _ _ _ (match qf h p with|some xs=>_|none=>_);rw[hm];obtain⟨R4,f4⟩:=R.put (ts:=[]) (vs:=[]) ep (by unfold qL;rfl);have r:Rep A X (h.set p (.lst false [])) (.v .non) .non:=by unfold Rep;exact⟨rfl,rfl⟩
   exact⟨_,_,rfl,f4,R4,r,λe=>Frs.of_lf R4 r e⟩
  ·rename_i i t;unfold qL at rs;obtain⟨w1,wr,rfl,a1,rs⟩:=rs;obtain⟨w2,rfl,a2⟩:=QQ rs;cases qz a1;rw[g1]at em;dsimp only[Option.bind_some]at em;split at em
   ·rename_i hc;cases em;show Sim _ _ _ _ _ _ (match qf h p with|some xs=>_|none=>_);rw[hm];dsimp only;rw[if_pos (by rw[<-l];exact hc)];obtain⟨R4,f4⟩:=R.put ep (reps_iff.mpr (qu (zF i.toNat (reps_iff.mp g3)) (show zQ (Rep A X h) (t::ts2.drop i.toNat) (w2::vs2.drop i.toNat) from⟨_,_,rfl,a2,jJ i.toNat (reps_iff.mp g3)⟩)));have r:Rep A X (h.set p (.lst false (vs2.take i.toNat++w2::vs2.drop i.toNat))) (.v .non) .non:=by unfold Rep;exact⟨rfl,rfl⟩
    exact⟨_,_,rfl,f4,R4,r,λe=>Frs.of_lf R4 r e⟩
   ·cases em
  ·cases em
theorem z5(R:RelM gl A X h M){t:T}{w:V}{s:List T×QB}(r:Rep A X h t w)(e:jg M t=some s):∃p sh,w=.ref p/\(match h[p]? with|some (.lst _ _)=>Res.ok (Src.list p,h)|some (.tup _)=>.ok (.tupl p,h)|_=>.stuck)=.ok (sh,h)/\ZL A X h sh s.1 s.2:=by
 cases t with
 |v x=>cases e
 |cell n=>
  unfold Rep at r;obtain⟨a,ea,rfl⟩:=r;obtain⟨ts,vs,e1,e2,e3⟩:=R.at_ n a ea;unfold jg at e;dsimp only at e;rw[e1]at e;cases e;exact⟨a,_,rfl,by rw[e2],.cell n a vs ts ea e2 e3⟩
 |fz xs=>unfold Rep at r;obtain⟨a,vs,rfl,q,k,z⟩:=r;cases e;exact⟨a,_,rfl,by rw[k],.list a true vs xs q k z⟩
 |lst xs=>unfold Rep at r;obtain⟨a,vs,rfl,q,k,z⟩:=r;cases e;exact⟨a,_,rfl,by rw[k],.list a false vs xs q k z⟩
 |tup xs=>unfold Rep at r;obtain⟨a,vs,rfl,q,k,z⟩:=r;cases e;exact⟨a,_,rfl,by rw[k],.tupl a vs xs q k z⟩
 |ob o=>cases e
theorem QEs.len{n:Nat}{xs:List TB}{ws:List V}(q:QEs gl A X n xs ws h M):xs.length=ws.length:=by
 have:=qD (reps_iff.mp q.1);simpa using this
end
section
variable{gl:List T}{P:Nat->List T->Mem->PR (TB×Mem)}{F:Nat->List V->AH->RV}
variable (hF:∀f ts ws A X h M,RelM gl A X h M->qL A X h ts ws->Sim gl A X h (QE gl A X h.length) (P f ts M) (F f ws h))
include hF
mutual
theorem qa:∀(e:E) (A X:List Nat) (h:AH) (M:Mem) (σ:TS) (σh:List (Option V)),RelM gl A X h M->jN A X h σ σh->Sim gl A X h (QE gl A X h.length) (pe gl P e σ M) (ev F e σh h)
 | .var i,A,X,h,M,σ,σh,R,rs=>by
  rw[pe,ev];dsimp only;split
  ·rename_i t e;obtain⟨w,ew,r⟩:=A8 rs e;rw[ew];exact JK R r
  ·exact Sim.stuck
 | .dnew,A,X,h,M,σ,σh,R,rs=>by
  unfold pe ev;have r:Rep A X (h++[O.ob (.dct [])]) (.ob (.dct [])) (.ref h.length):=by
   unfold Rep;exact⟨h.length,rfl,λz=>by have:=R.lt _ z;omega,by simp⟩
  exact⟨_,_,rfl,Frm.app A h _,R.up _,r,λ_=>Frs.ofD R r⟩
 | .cst v,A,X,h,M,σ,σh,R,rs=>by
  rw[pe,ev];dsimp only;split
  ·rename_i e;exact qF R e
  ·exact Sim.stuck
 | .glob g,A,X,h,M,σ,σh,R,rs=>by
  rw[pe,ev];dsimp only;split
  ·rename_i t e;exact JK R (R.glo g t e)
  ·exact Sim.stuck
 | .bin op a b,A,X,h,M,σ,σh,R,rs=>by
  rw[pe,ev];dsimp only;refine Sim.bind (qa a A X h M σ σh R rs) ?_;intro x M1 v h1 f1 R1 q1;dsimp only;refine Sim.bind (qa b A X h1 M1 σ σh R1 (R.keepS f1 rs)) ?_;intro y M2 w h2 f2 R2 q2;dsimp only;exact Sim.ofO λr er=>(i4 R2 er (R1.keep f2 q1.1) q2.1).le (Nat.le_trans f1.1 f2.1)
 | .neg a,A,X,h,M,σ,σh,R,rs=>by
  rw[pe,ev];dsimp only;refine Sim.bind (qa a A X h M σ σh R rs) ?_;intro x M1 v h1 f1 R1 q1;dsimp only;obtain⟨t,fr⟩:=x;dsimp only;split
  ·cases qz q1.1;exact qF R1 rfl
  ·exact Sim.stuck
 | .cmp op a b,A,X,h,M,σ,σh,R,rs=>by
  rw[pe,ev];dsimp only;refine Sim.bind (qa a A X h M σ σh R rs) ?_;intro x M1 v h1 f1 R1 q1;dsimp only;refine Sim.bind (qa b A X h1 M1 σ σh R1 (R.keepS f1 rs)) ?_;intro y M2 w h2 f2 R2 q2;dsimp only;refine Sim.ofO λr er=>?_;unfold qAE;rw[Zz R2 (R1.keep f2 q1.1) q2.1 er];exact qF R2 rfl
 | .cmp2 o1 o2 a b c,A,X,h,M,σ,σh,R,rs=>by
  rw[pe,ev];dsimp only;refine Sim.bind (qa a A X h M σ σh R rs) ?_;intro x M1 v h1 f1 R1 q1;dsimp only;refine Sim.bind (qa b A X h1 M1 σ σh R1 (R.keepS f1 rs)) ?_;intro y M2 w h2 f2 R2 q2;dsimp only;refine Sim.ofO λr er=>?_;rw[Zz R2 (R1.keep f2 q1.1) q2.1 er];cases r with
  |true=>
   simp only[if_true];refine Sim.bind (qa c A X h2 M2 σ σh R2 (R1.keepS f2 (R.keepS f1 rs))) ?_;intro z M3 u h3 f3 R3 q3;dsimp only;refine Sim.ofO λr er=>?_;unfold qAE;rw[Zz R3 (R2.keep f3 q2.1) q3.1 er];exact qF R3 rfl
  |false=>exact qF R2 rfl
 | .and a b,A,X,h,M,σ,σh,R,rs=>by
  rw[pe,ev];dsimp only;refine Sim.bind (O2 (qa a A X h M σ σh R rs)) ?_;rintro x M1 v h1 f1 R1 rfl;dsimp only;cases x with
  |true=>simp only[if_true];exact(qa b A X h1 M1 σ σh R1 (R.keepS f1 rs)).le f1.1
  |false=>exact qF R1 rfl
 | .or a b,A,X,h,M,σ,σh,R,rs=>by
  rw[pe,ev];dsimp only;refine Sim.bind (O2 (qa a A X h M σ σh R rs)) ?_;rintro x M1 v h1 f1 R1 rfl;dsimp only;cases x with
  |false=>simp only[Bool.false_eq_true,if_false];exact(qa b A X h1 M1 σ σh R1 (R.keepS f1 rs)).le f1.1
  |true=>exact qF R1 rfl
 | .not a,A,X,h,M,σ,σh,R,rs=>by
  rw[pe,ev];dsimp only;refine Sim.bind (O2 (qa a A X h M σ σh R rs)) ?_;rintro x M1 v h1 f1 R1 rfl;dsimp only;exact qF R1 rfl
 | .call f as,A,X,h,M,σ,σh,R,rs=>by
  rw[pe,ev];dsimp only;refine Sim.bind (jG as A X h M σ σh R rs) ?_;intro x M1 v h1 f1 R1 q1;dsimp only;exact(hF f _ _ A X h1 M1 R1 q1.1).nx.le f1.1
 | .blt f as,A,X,h,M,σ,σh,R,rs=>by
  rw[pe,ev];dsimp only;refine Sim.bind (jG as A X h M σ σh R rs) ?_;intro x M1 v h1 f1 R1 q1;dsimp only;exact Sim.ofO λr er=>(v4 R1 q1.1 er).le f1.1
 | .isi a ts,A,X,h,M,σ,σh,R,rs=>by
  rw[pe,ev];dsimp only;refine Sim.bind (qa a A X h M σ σh R rs) ?_;intro x M1 v h1 f1 R1 q1;dsimp only;refine Sim.ofO λr er=>?_;rw[S6 R1 q1.1 er];exact qF R1 rfl
 | .idx a b,A,X,h,M,σ,σh,R,rs=>by
  rw[pe,ev];dsimp only;refine Sim.bind (qa a A X h M σ σh R rs) ?_;intro x M1 v h1 f1 R1 q1;dsimp only;refine Sim.bind (qa b A X h1 M1 σ σh R1 (R.keepS f1 rs)) ?_;intro y M2 w h2 f2 R2 q2;dsimp only;refine Sim.ofO λr er=>?_;obtain⟨ty,fy⟩:=y;unfold jO at er;dsimp only at er;split at er
  ·rename_i i;cases qz q2.1;obtain⟨xs,e1,er⟩:=Option.bind_eq_some_iff.mp er;obtain⟨j,e2,er⟩:=Option.bind_eq_some_iff.mp er;obtain⟨t,e3,rfl⟩:=Option.map_eq_some_iff.mp er;obtain⟨p,vs,rfl,k1,k2⟩:=Jz R2 (R1.keep f2 q1.1) e1;obtain⟨u,e4,k3⟩:=zI (reps_iff.mp k2) e3;dsimp only;rw[k1];dsimp only;rw[<-qD (reps_iff.mp k2),e2];dsimp only[Option.bind_some];rw[e4];exact JK R2 k3
  ·cases er
 | .sl a lo hi,A,X,h,M,σ,σh,R,rs=>by
  rw[pe,ev];dsimp only;refine Sim.bind (qa a A X h M σ σh R rs) ?_;intro x M1 v h1 f1 R1 q1;dsimp only;refine Sim.bind (jG lo A X h1 M1 σ σh R1 (R.keepS f1 rs)) ?_;intro y M2 w h2 f2 R2 q2;dsimp only;refine Sim.bind (jG hi A X h2 M2 σ σh R2 (R1.keepS f2 (R.keepS f1 rs))) ?_;intro z M3 u h3 f3 R3 q3;dsimp only;refine Sim.ofO λxs ex=>Sim.ofO λl el=>Sim.ofO λm em=>?_;rw[jS (R2.keeps f3 q2.1) el,jS q3.1 em];have rp:=R2.keep f3 (R1.keep f2 q1.1);refine Sim.ofO λr er=>?_;refine Sim.le ?_ (Nat.le_trans f1.1 (Nat.le_trans f2.1 f3.1));obtain⟨x1,x2⟩:=x;dsimp only at ex er rp ⊢;cases x1 with
  |v x=>cases ex
  |ob o=>cases ex
  |cell n=>cases er;obtain⟨p,vs,f,rfl,k1,k2⟩:=zM R3 rp ex;dsimp only;rw[qT k1];exact JO R3 (Zl k2)
  |fz xs=>cases er;obtain⟨p,vs,f,rfl,k1,k2⟩:=zM R3 rp ex;dsimp only;rw[qT k1];exact JO R3 (Zl k2)
  |lst xs=>cases er;obtain⟨p,vs,f,rfl,k1,k2⟩:=zM R3 rp ex;dsimp only;rw[qT k1];exact JO R3 (Zl k2)
  |tup ts=>
   cases ex;unfold Rep at rp;obtain⟨a,vs,rfl,_,q,kk⟩:=rp;have ln:=qD (reps_iff.mp kk);dsimp only;rw[show qU h3 a=none by unfold qU;rw[q],show qX h3 a=some vs by unfold qX;rw[q]];dsimp only;unfold R7 at er;dsimp only at er;rw[ln]at er;split at er
   ·cases er
   ·rename_i hw;cases er;rw[if_neg hw];exact Zx R3 (Zl kk) λe=>Frss.of_lf R3 (Zl kk) e
 | .lst as,A,X,h,M,σ,σh,R,rs=>by
  rw[pe,ev];dsimp only;refine Sim.bind (jG as A X h M σ σh R rs) ?_;intro x M1 v h1 f1 R1 q1;dsimp only;rw[<-q1.len];split
  ·exact JN R1 q1.1 f1.1 q1.2
  ·exact Sim.stuck
 | .tup as,A,X,h,M,σ,σh,R,rs=>by
  rw[pe,ev];dsimp only;refine Sim.bind (jG as A X h M σ σh R rs) ?_;intro x M1 v h1 f1 R1 q1;dsimp only;rw[<-q1.len];split
  ·exact Zx R1 q1.1 q1.2
  ·exact Sim.stuck
 | .comp it src g c e,A,X,h,M,σ,σh,R,rs=>by
  rw[pe,ev];dsimp only;refine Sim.bind (Z7 it A X h M σ σh R rs) ?_;intro s M1 sh h1 f1 R1 q1;dsimp only;have hn:∀a o,a∉X->h1[a]?=some o->a∉h1.length::X/\(h1++[O.lst false []])[a]?=some o:=λa o x y=>⟨by
   rw[List.mem_cons];rintro(z|z)
   ·have:=qJ y;omega
   ·exact x z,by rw[List.getElem?_append_left (qJ y)];exact y⟩
  have sr:ZL A (h1.length::X) (h1++[O.lst false []]) sh s.1 s.2:=U2 q1 hn λn a o _ y=>by rw[List.getElem?_append_left (qJ y)];exact y
  rw[Jk sr];dsimp only;refine(Qs (its:=s.1) (λX h M σ σh R rs=>qA6 c A X h M σ σh R rs) (λX h M σ σh R rs=>qa e A X h M σ σh R rs) (Nat.le_refl h1.length) (λz=>Nat.lt_irrefl _ (R1.lt _ z)) R1.sub s.1 0 [] [] true [] (h1.length::X) _ _ M1 _ rfl (Nat.zero_le _) (by simp) (Frm.app A h1 _) (R1.addX λa=>List.mem_cons) sr (by simp) (by unfold qL;rfl) ?_ ?_).le f1.1
  ·exact λ_=>⟨by unfold FPs;exact⟨rfl,rfl⟩,List.nodup_nil,λa ha=>by simp at ha⟩
  ·exact zh (λ_ _ e=>e) hn (jP (R.keepS f1 rs) src)
 | .app a b,A,X,h,M,σ,σh,R,rs=>by
  rw[pe,ev];dsimp only;refine Sim.bind (qa a A X h M σ σh R rs) ?_;intro x M1 v h1 f1 R1 q1;dsimp only;obtain⟨t,fr⟩:=x;dsimp only;split
  ·rename_i n;have q:=q1.1;unfold Rep at q;obtain⟨p,ep,rfl⟩:=q;obtain⟨ts,vs,e1,e2,e3⟩:=R1.at_ n p ep;dsimp only;rw[qT e2];dsimp only;refine Sim.bind (qa b A X h1 M1 σ σh R1 (R.keepS f1 rs)) ?_;intro y M2 w h2 f2 R2 q2;dsimp only;obtain⟨ts2,vs2,g1,g2,g3⟩:=R2.at_ n p ep;rw[g1,show qf h2 p=some vs2 by unfold qf;rw[g2]];dsimp only;rw[<-qD (reps_iff.mp g3)];split
   ·have r1:zQ (Rep A X h2) [y.1] [w]:=⟨w,[],rfl,q2.1,rfl⟩
    obtain⟨R4,f4⟩:=R2.put ep (reps_iff.mpr (qu (reps_iff.mp g3) r1));have r:Rep A X (h2.set p (.lst false (vs2++[w]))) (.v .non) .non:=by unfold Rep;exact⟨rfl,rfl⟩
    exact⟨.non,_,rfl,f4,R4,r,λ_=>Frs.of_lf R4 r rfl⟩
   ·exact Sim.stuck
  ·exact Sim.stuck
 | .nset a,A,X,h,M,σ,σh,R,rs=>by
  rw[pe,ev];dsimp only;refine Sim.bind (qa a A X h M σ σh R rs) ?_;intro x M1 v h1 f1 R1 q1;dsimp only;obtain⟨t,fr⟩:=x;dsimp only;split
  ·rename_i is eis;obtain⟨xs,ex,ei⟩:=Option.bind_eq_some_iff.mp eis;obtain⟨b,vs,f,rfl,g1,g2⟩:=zM R1 q1.1 ex;dsimp only;rw[qT g1];dsimp only;rw[jS g2 ei];dsimp only;split
   ·exact(qF R1 rfl).le f1.1
   ·exact Sim.stuck
  ·exact Sim.stuck
 | .mink f a,A,X,h,M,σ,σh,R,rs=>by
  rw[pe,ev];dsimp only;split
  ·rename_i hg;refine Sim.bind (qa a A X h M σ σh R rs) ?_;intro x M1 v h1 f1 R1 q1;dsimp only;refine Sim.ofO λxs ex=>?_;refine Sim.ofO λis ei=>?_;refine Sim.ofO λw ew=>?_;obtain⟨p,us,ff,rfl,el,rl⟩:=zM R1 q1.1 ex;show Sim _ _ _ _ _ _ (match qU h1 p with|some xs=>_|none=>_);rw[qT el];dsimp only;rw[jS rl ei];dsimp only;have R0:RelM gl [] [] h1 []:=⟨rfl,List.nodup_nil,λ_ z=>(by simp at z),λ_ z=>(by simp at z),λn a z=>(by simp at z),λg t eg=>JI (λn z=>absurd z (Nat.not_lt_zero n)) (λ_ z=>(by simp at z)) t (R1.glo g t eg) (Jf gl hg eg)⟩
   rw[j4 (g:=λi=>qCe (P f [.v (.int i)] [])) (g':=λi=>U0 h1 (F f [.int i] h1)) (λi k ek=>?_) ew]
   ·exact(qF R1 rfl).le f1.1
   ·have sm:=hF f [.v (.int i)] [.int i] [] [] h1 [] R0 (by unfold qL;exact⟨_,[],rfl,by unfold Rep;exact⟨rfl,rfl⟩,by unfold qL;rfl⟩);obtain⟨fr,er⟩:=T4 ek;rw[er]at sm;obtain⟨y,h',e,fm,_,qq⟩:=sm;rw[e];have hy:y=.int k:=qz qq.1;subst hy;unfold U0;dsimp only;rw[if_pos];apply List.ext_getElem?;intro j;by_cases hj:j<h1.length
    ·rw[wM hj];exact fm.2 j hj (by simp)
    ·rw[wV (by rw[wS];omega),wV (by omega)]
  ·exact Sim.stuck
 | .srtm a,A,X,h,M,σ,σh,R,rs=>by
  rw[pe,ev];dsimp only;refine Sim.bind (qa a A X h M σ σh R rs) ?_;intro x M1 v h1 f1 R1 q1;dsimp only;refine Sim.ofO λxs ex=>Sim.ofO λks ek=>?_;obtain⟨p,us,ff,rfl,el,rl⟩:=zM R1 q1.1 ex;show Sim _ _ _ _ _ _ (match qU h1 p with|some xs=>_|none=>_);rw[qT el];dsimp only;rw[J6 R1 rl ek];dsimp only;by_cases hy:ks.length<64/\ks.Nodup
  ·rw[if_pos hy,if_pos hy];exact(JO R1 (reps_iff.mpr (Jv (C0 ks (reps_iff.mp rl))))).le f1.1
  ·rw[if_neg hy];exact Sim.stuck
 | .lrng a,A,X,h,M,σ,σh,R,rs=>by
  rw[pe,ev];dsimp only;refine Sim.bind (qa a A X h M σ σh R rs) ?_;intro x M1 v h1 f1 R1 q1;dsimp only;obtain⟨t,fr⟩:=x;dsimp only;split
  ·rename_i j;cases qz q1.1;dsimp only;split
   ·have r:qL A X h1 (ql 0 j.toNat) (zr 0 j.toNat):=by
     have e:ql 0 j.toNat=(zr 0 j.toNat).map .v:=by unfold ql zr;rw[wc];rfl
     rw[e];exact jH (by simp[zr,flat])
    exact(JN (f:=true) R1 r (Nat.le_refl _) λ_=>Frss.of_lf R1 r (E9 0 _)).le f1.1
   ·exact Sim.stuck
  ·exact Sim.stuck
 | .meth m a as,A,X,h,M,σ,σh,R,rs=>by
  rw[pe,ev];dsimp only;refine Sim.bind (qa a A X h M σ σh R rs) ?_;intro x M1 v h1 f1 R1 q1;dsimp only;obtain⟨t,fr⟩:=x;dsimp only;split
  ·rename_i n;have q:=q1.1;unfold Rep at q;obtain⟨p,ep,rfl⟩:=q;obtain⟨ts,vs,e1,e2,e3⟩:=R1.at_ n p ep;dsimp only;rw[qT e2];dsimp only;refine Sim.bind (jG as A X h1 M1 σ σh R1 (R.keepS f1 rs)) ?_;intro y M2 w h2 f2 R2 q2;dsimp only;exact(W1 R2 ep q2.1).le (Nat.le_trans f1.1 f2.1)
  ·exact Sim.stuck
theorem jG:∀(e:Es) (A X:List Nat) (h:AH) (M:Mem) (σ:TS) (σh:List (Option V)),RelM gl A X h M->jN A X h σ σh->Sim gl A X h (QEs gl A X h.length) (pes gl P e σ M) (evs F e σh h)
 | .nil,A,X,h,M,σ,σh,R,rs=>by
  rw[pes,evs];have r:qL A X h [] []:=by unfold qL;rfl
  exact⟨[],h,rfl,Frm.refl A h,R,r,λ_=>Frss.of_lf R r rfl⟩
 | .cons a as,A,X,h,M,σ,σh,R,rs=>by
  rw[pes,evs];dsimp only;refine Sim.bind (qa a A X h M σ σh R rs) ?_;intro x M1 v h1 f1 R1 q1;dsimp only;obtain⟨fp1,hp1,R1',hlt1⟩:∃fp1:List Nat,(x.2=true->FP X h1 x.1 v fp1/\fp1.Nodup)/\RelM gl A (X++fp1) h1 M1/\∀a∈fp1,h.length<=a:=by
   cases hx2:x.2 with
   |true=>
    obtain⟨fp2,a,b,c,d,_⟩:=q1.2 hx2;exact⟨fp2,λ_=>⟨a,b⟩,d,c⟩
   |false=>exact⟨[],(λz=>by cases z),by rw[List.append_nil];exact R1,λa ha=>by simp at ha⟩
  have hX:∀a∈X,a∈X++fp1:=λa z=>wE _ z;have hn:∀a o,a∉X->h[a]?=some o->a∉X++fp1/\h1[a]?=some o:=λa o x y=>⟨by
   rw[wD];rintro(z|z)
   ·exact x z
   ·have:=hlt1 a z;have:=qJ y;omega,(R.keepN f1 a o x y).2⟩
  refine Sim.bindW hX R.sub (Frm.refl A h1) (jG as A (X++fp1) h1 M1 σ σh R1' (zh (λ_ _ e=>e) hn rs)) ?_;intro y M2 w h2 f2 R2 q2;dsimp only;refine⟨_,h2,rfl,f2,R2.weak hX R.sub,?_,λe=>?_⟩
  ·show qL A X h2 (x.1::y.map (·.1)) (v::w);unfold qL;exact⟨v,w,rfl,R1.keep f2 q1.1,qN (λ_ _ e=>e) (λa o x y=>⟨λz=>x (hX _ z),y⟩) _ q2.1⟩
  ·rw[List.all_cons,Bool.and_eq_true]at e;obtain⟨a1,b1⟩:=hp1 e.1;obtain⟨fp2,a2,b2,c2,d2⟩:=q2.2 e.2;refine⟨fp1++fp2,?_,?_,?_,by rw[<-wL];exact d2⟩
   ·show FPs X h2 (x.1::y.map (·.1)) (v::w) _;unfold FPs;exact⟨v,w,fp1,fp2,rfl,QX (R1.keepN f2) _ a1,zT (λa o x y=>⟨λz=>x (hX _ z),y⟩) _ a2,rfl⟩
   ·rw[wR];refine⟨b1,b2,?_⟩;rintro a ha b hb rfl;exact(jW _ a2 a hb).1 (wF _ ha)
   ·intro a ha;rcases wD.mp ha with z|z
    ·exact hlt1 a z
    ·exact Nat.le_trans f1.1 (c2 a z)
theorem qA6:∀(e:Es) (A X:List Nat) (h:AH) (M:Mem) (σ:TS) (σh:List (Option V)),RelM gl A X h M->jN A X h σ σh->Sim gl A X h (λb b' _ _=>b=b') (pec gl P e σ M) (evc F e σh h)
 | .nil,A,X,h,M,σ,σh,R,rs=>by
  rw[pec,evc];exact⟨true,h,rfl,Frm.refl A h,R,rfl⟩
 | .cons a as,A,X,h,M,σ,σh,R,rs=>by
  rw[pec,evc];exact O2 (qa a A X h M σ σh R rs)
theorem Z7:∀(e:Itr) (A X:List Nat) (h:AH) (M:Mem) (σ:TS) (σh:List (Option V)),RelM gl A X h M->jN A X h σ σh->Sim gl A X h (λs sh h' _=>ZL A X h' sh s.1 s.2) (pei gl P e σ M) (evi F e σh h)
 | .list a,A,X,h,M,σ,σh,R,rs=>by
  rw[pei,evi];dsimp only;refine Sim.bind (qa a A X h M σ σh R rs) ?_;intro x M1 v h1 f1 R1 q1;dsimp only;refine Sim.ofO λs es=>?_;obtain⟨p,sh,rfl,e1,e2⟩:=z5 R1 q1.1 es;exact⟨sh,h1,e1,Frm.refl A h1,R1,e2⟩
 | .rng1 a,A,X,h,M,σ,σh,R,rs=>by
  rw[pei,evi];dsimp only;refine Sim.bind (qa a A X h M σ σh R rs) ?_;intro x M1 v h1 f1 R1 q1;dsimp only;obtain⟨t,fr⟩:=x;dsimp only;split
  ·cases qz q1.1;dsimp only;split
   ·exact⟨_,h1,rfl,Frm.refl A h1,R1,.rng 0 _⟩
   ·exact Sim.stuck
  ·exact Sim.stuck
end
end
mutual
theorem N7{X Af Xf:List Nat}{h:AH}(hX:∀a o,(∀vs,o≠O.lst false vs)->h[a]?=some o->a∉X->a∉Xf):∀(t:T) (n:Nat){w:V}{fp:List Nat},FP X h t w fp->(∀(k:Nat) a,fp[k]?=some a->Af[n+k]?=some a) ->
  (thaw n t).2.length=fp.length/\Rep Af Xf h (thaw n t).1 w/\∀(k:Nat) ts',(thaw n t).2[k]?=some ts'->∃a vs,fp[k]?=some a/\h[a]?=some (.lst false vs)/\qL Af Xf h ts' vs
 | .v x,n,w,fp,p,ha=>by unfold FP at p;obtain⟨p1,rfl⟩:=p;rw[show thaw n (.v x)=(.v x,[]) by simp[thaw]];exact⟨rfl,by unfold Rep;exact p1,λk ts' e=>by simp at e⟩
 | .cell _,n,w,fp,p,ha=>by unfold FP at p;exact p.elim
 | .ob o,n,w,fp,p,ha=>by unfold FP at p;obtain⟨⟨a,rfl,q1,q2⟩,rfl⟩:=p;rw[show thaw n (.ob o)=(.ob o,[]) by simp[thaw]];exact⟨rfl,by unfold Rep;exact⟨a,rfl,hX a _ (by intro _ z;cases z) q2 q1,q2⟩,λk ts' e=>by simp at e⟩
 | .fz _,n,w,fp,p,ha=>by unfold FP at p;exact p.elim
 | .lst ts,n,w,fp,p,ha=>by
  unfold FP at p;obtain⟨a,vs,f,rfl,q1,q2,q3,rfl⟩:=p;obtain⟨l,r,c⟩:=Qr hX ts n q3 (λk a e=>ha k a (by rw[List.getElem?_append_left (List.getElem?_eq_some_iff.mp e).1];exact e));rw[thaw];refine⟨by simp[l],?_,λk ts' e=>?_⟩
  ·show Rep Af Xf h (.cell _) _;unfold Rep;refine⟨a,ha _ a ?_,rfl⟩;rw[l,List.getElem?_append_right (Nat.le_refl _),Nat.sub_self];rfl
  ·dsimp only at e;by_cases hk:k<f.length
   ·rw[List.getElem?_append_left (by rw[l];exact hk)]at e;obtain⟨b,us,e1,e2,e3⟩:=c k ts' e;exact⟨b,us,by rw[List.getElem?_append_left hk];exact e1,e2,e3⟩
   ·rw[List.getElem?_append_right (by rw[l];omega),l]at e;have hk2:k-f.length=0:=by
     have:=(List.getElem?_eq_some_iff.mp e).1;simp at this;omega
    rw[hk2]at e;simp at e;subst e;exact⟨a,vs,by rw[List.getElem?_append_right (by omega),hk2];rfl,q2,r⟩
 | .tup ts,n,w,fp,p,ha=>by
  unfold FP at p;obtain⟨a,vs,rfl,q1,q2,q3⟩:=p;obtain⟨l,r,c⟩:=Qr hX ts n q3 ha;rw[thaw];refine⟨l,?_,c⟩;show Rep Af Xf h (.tup _) _;unfold Rep;exact⟨a,vs,rfl,hX a _ (by intro _ z;cases z) q2 q1,q2,r⟩
theorem Qr{X Af Xf:List Nat}{h:AH}(hX:∀a o,(∀vs,o≠O.lst false vs)->h[a]?=some o->a∉X->a∉Xf):∀(ts:List T) (n:Nat){ws:List V}{fp:List Nat},FPs X h ts ws fp->(∀(k:Nat) a,fp[k]?=some a->Af[n+k]?=some a) ->
  (QH n ts).2.length=fp.length/\qL Af Xf h (QH n ts).1 ws/\∀(k:Nat) ts',(QH n ts).2[k]?=some ts'->∃a vs,fp[k]?=some a/\h[a]?=some (.lst false vs)/\qL Af Xf h ts' vs
 | [],n,ws,fp,p,ha=>by unfold FPs at p;obtain⟨rfl,rfl⟩:=p;rw[QH];exact⟨rfl,by unfold qL;rfl,λk ts' e=>by simp at e⟩
 |t::ts,n,ws,fp,p,ha=>by
  unfold FPs at p;obtain⟨v,vs,f1,f2,rfl,q1,q2,rfl⟩:=p;obtain⟨l1,r1,c1⟩:=N7 hX t n q1 (λk a e=>ha k a (by rw[List.getElem?_append_left (List.getElem?_eq_some_iff.mp e).1];exact e));obtain⟨l2,r2,c2⟩:=Qr hX ts (n+(thaw n t).2.length) q2 (λk a e=>by
   have:=ha (f1.length+k) a (by rw[List.getElem?_append_right (by omega),Nat.add_sub_cancel_left];exact e);rw[l1,Nat.add_assoc];exact this)
  rw[QH];refine⟨by dsimp only;rw[List.length_append,List.length_append,l2,l1],?_,λk ts' e=>?_⟩
  ·show qL Af Xf h (_::_) _;unfold qL;exact⟨v,vs,rfl,r1,r2⟩
  ·dsimp only at e;by_cases hk:k<f1.length
   ·rw[List.getElem?_append_left (by rw[l1];exact hk)]at e;obtain⟨b,us,e1,e2,e3⟩:=c1 k ts' e;exact⟨b,us,by rw[List.getElem?_append_left hk];exact e1,e2,e3⟩
   ·rw[List.getElem?_append_right (by rw[l1];omega)]at e;obtain⟨b,us,e1,e2,e3⟩:=c2 _ ts' e;rw[l1]at e1;exact⟨b,us,by rw[List.getElem?_append_right (by omega)];exact e1,e2,e3⟩
end
theorem RelM.thaw{gl:List T}{A X fp:List Nat}{h:AH}{M:Mem}{t:T}{w:V}(R:RelM gl A (X++fp) h M)(hA:∀a∈A,a∈X)(p:FP X h t w fp)(nd:fp.Nodup):
  RelM gl (A++fp) (X++fp) h (M++(PI.thaw M.length t).2)/\Rep (A++fp) (X++fp) h (PI.thaw M.length t).1 w:=by
 have hX:∀a o,(∀vs,o≠O.lst false vs)->h[a]?=some o->a∉X->a∉X++fp:=λa o hno e x=>by
  rw[wD];rintro(z|z)
  ·exact x z
  ·obtain⟨_,us,e2⟩:=C3 t p a z;rw[e]at e2;cases e2;exact hno _ rfl
 obtain⟨l,r,c⟩:=N7 (Af:=A++fp) hX t M.length p (λk a e=>by rw[<-R.len,List.getElem?_append_right (by omega),Nat.add_sub_cancel_left];exact e);refine⟨⟨by simp[R.len,l],?_,?_,R.lt,λn a e=>?_,λg t e=>?_⟩,r⟩
 ·rw[wR];exact⟨R.nd,nd,by rintro a ha b hb rfl;exact(C3 t p a hb).1 (hA a ha)⟩
 ·intro a ha;rcases wD.mp ha with z|z
  ·exact wE _ (hA a z)
  ·exact wF _ z
 ·by_cases hn:n<A.length
  ·rw[List.getElem?_append_left hn]at e;obtain⟨ts,vs,e1,e2,e3⟩:=R.at_ n a e;exact⟨ts,vs,by rw[List.getElem?_append_left (by rw[<-R.len];exact hn)];exact e1,e2,qN (λk b eb=>by rw[List.getElem?_append_left (List.getElem?_eq_some_iff.mp eb).1];exact eb) (λa o x y=>⟨x,y⟩) ts e3⟩
  ·rw[List.getElem?_append_right (by omega)]at e;have hk:n-A.length<(PI.thaw M.length t).2.length:=by rw[l];exact(List.getElem?_eq_some_iff.mp e).1
   obtain⟨b,us,e1,e2,e3⟩:=c (n-A.length) _ (wA hk);rw[e]at e1;cases e1;have hnm:n-M.length=n-A.length:=by rw[R.len]
   exact⟨_,us,by rw[List.getElem?_append_right (by rw[<-R.len];omega),hnm];exact wA hk,e2,e3⟩
 ·exact zG (λk b eb=>by rw[List.getElem?_append_left (List.getElem?_eq_some_iff.mp eb).1];exact eb) (λa o x y=>⟨x,y⟩) t (R.glo g t e)
def RelO(gl:List T)(A X:List Nat)(n:Nat)(h:AH)(M:Mem):PO->Out->Prop
 | .nx σ,.nx σh=>jN A X h σ σh
 | .bk σ,.bk σh=>jN A X h σ σh
 | .ct σ,.ct σh=>jN A X h σ σh
 | .rt t,.rt w=>QE gl A X n t w h M
 |_,_=>False
theorem RelO.le{gl:List T}{A X:List Nat}{n m:Nat}{h:AH}{M:Mem}{o:PO}{oh:Out}(r:RelO gl A X n h M o oh)(l:m<=n):RelO gl A X m h M o oh:=by
 cases o<;>cases oh<;>first|exact r|exact QE.le r l
def SimS(gl:List T)(A X:List Nat)(h:AH):RSt->RS->Prop
 | .ok (o,M'),r=>∃oh h' B,r=.ok (oh,h')/\Frm A h h'/\(∀b∈B,h.length<=b)/\RelM gl (A++B) (X++B) h' M'/\RelO gl (A++B) (X++B) h.length h' M' o oh
 | .exc c M',r=>∃h' B,r=.exc c h'/\Frm A h h'/\(∀b∈B,h.length<=b)/\RelM gl (A++B) (X++B) h' M'
 | .stuck,_=>True
theorem SimS.stuck{gl:List T}{A X:List Nat}{h:AH}{r:RS}:SimS gl A X h .stuck r:=trivial
theorem SimS.mk{gl:List T}{A X:List Nat}{h:AH}{M:Mem}{o:PO}{oh:Out}(R:RelM gl A X h M)(ro:RelO gl A X h.length h M o oh):SimS gl A X h (.ok (o,M)) (.ok (oh,h)):=
 ⟨oh,h,[],rfl,Frm.refl A h,λb hb=>by simp at hb,by simpa using R,by simpa using ro⟩
theorem SimS.pre{gl:List T}{A X:List Nat}{h h1:AH}{r:RSt}{rh:RS}(s:SimS gl A X h1 r rh)(f:Frm A h h1):SimS gl A X h r rh:=by
 cases r with
 |ok p=>
  obtain⟨o,M'⟩:=p;obtain⟨oh,h',B,e,f1,hB,R,ro⟩:=s;exact⟨oh,h',B,e,f.trans f1,λb hb=>Nat.le_trans f.1 (hB b hb),R,ro.le f.1⟩
 |exc c M'=>
  obtain⟨h',B,e,f1,hB,R⟩:=s;exact⟨h',B,e,f.trans f1,λb hb=>Nat.le_trans f.1 (hB b hb),R⟩
 |stuck=>trivial
theorem Sim.bindS{α β:Type}{gl:List T}{A X:List Nat}{h:AH}{Q:α->β->AH->Mem->Prop}{r:PR (α×Mem)}{rh:Res (β×AH)}{f:α×Mem->RSt}{g:β×AH->RS}
  (s:Sim gl A X h Q r rh) (k:∀x M' y h',Frm A h h'->RelM gl A X h' M'->Q x y h' M'->SimS gl A X h' (f (x,M')) (g (y,h'))):SimS gl A X h (r.bind f) (rh.bind g):=by
 cases r with
 |ok p=>
  obtain⟨x,M'⟩:=p;obtain⟨y,h',rfl,f1,R1,q⟩:=s;exact(k x M' y h' f1 R1 q).pre f1
 |exc c M'=>
  obtain⟨h',rfl,f1,R1⟩:=s;exact⟨h',[],rfl,f1,λb hb=>by simp at hb,by simpa using R1⟩
 |stuck=>trivial
theorem SimS.bind{gl:List T}{A X:List Nat}{h:AH}{r:RSt}{rh:RS}{f:PO×Mem->RSt}{g:Out×AH->RS}
  (s:SimS gl A X h r rh) (k:∀o M' oh h' B,Frm A h h'->(∀b∈B,h.length<=b)->RelM gl (A++B) (X++B) h' M'->RelO gl (A++B) (X++B) h.length h' M' o oh->SimS gl (A++B) (X++B) h' (f (o,M')) (g (oh,h'))\/(f (o,M')=.ok (o,M')/\g (oh,h')=.ok (oh,h'))):SimS gl A X h (r.bind f) (rh.bind g):=by
 cases r with
 |ok p=>
  obtain⟨o,M'⟩:=p;obtain⟨oh,h',B,rfl,f1,hB,R,ro⟩:=s;rw[PR.bind_ok,Res.bind_ok];rcases k o M' oh h' B f1 hB R ro with s2|⟨e1,e2⟩
  ·revert s2;generalize f (o,M')=r2;generalize g (oh,h')=rh2;intro s2;cases r2 with
   |ok p2=>
    obtain⟨o2,M2⟩:=p2;obtain⟨oh2,h2,B2,rfl,f2,hB2,R2,ro2⟩:=s2;rw[wL,wL]at R2 ro2;exact⟨oh2,h2,B++B2,rfl,f1.trans2 hB f2,λb hb=>by
     rcases wD.mp hb with z|z
     ·exact hB b z
     ·exact Nat.le_trans f1.1 (hB2 b z),R2,ro2.le f1.1⟩
   |exc c M2=>
    obtain⟨h2,B2,rfl,f2,hB2,R2⟩:=s2;rw[wL,wL]at R2;exact⟨h2,B++B2,rfl,f1.trans2 hB f2,λb hb=>by
     rcases wD.mp hb with z|z
     ·exact hB b z
     ·exact Nat.le_trans f1.1 (hB2 b z),R2⟩
   |stuck=>trivial
  ·rw[e1,e2];exact⟨oh,h',B,rfl,f1,hB,R,ro⟩
 |exc c M'=>
  obtain⟨h',B,rfl,f1,hB,R⟩:=s;exact⟨h',B,rfl,f1,hB,R⟩
 |stuck=>trivial
theorem Jx{A X B:List Nat}{h h':AH}(hs:∀a∈A,a∈X)(f:Frm A h h')(hB:∀b∈B,h.length<=b):∀a o,a∉X->h[a]?=some o->a∉X++B/\h'[a]?=some o:=λa o x y=>⟨by
 rw[wD];rintro(z|z)
 ·exact x z
 ·have:=hB a z;have:=qJ y;omega,(f.2 a (qJ y) λz=>x (hs _ z)).trans y⟩
theorem zv{A B:List Nat}:∀(n:Nat) a,A[n]?=some a->(A++B)[n]?=some a:=λn a e=>by rw[List.getElem?_append_left (List.getElem?_eq_some_iff.mp e).1];exact e
theorem P6{gl:List T}{s:Src}{its:List T}{d:QB}{g:Tg}{b:TS->Mem->RSt}{b':List (Option V)->AH->RS}
  (hb:∀A X h M σ σh,RelM gl A X h M->jN A X h σ σh->SimS gl A X h (b σ M) (b' σh h)):∀(r:List T) (i:Nat) (σ:TS) (σh:List (Option V)) (M:Mem) (h:AH) (A X:List Nat),
   its.drop i=r->i<=its.length->RelM gl A X h M->ZL A X h s its d->jN A X h σ σh->SimS gl A X h (zC d g b r σ M) (R9 s g b' r.length i σh h)
 | [],i,σ,σh,M,h,A,X,hr,hi,R,sr,rs=>by
  have hi':i=its.length:=by
   have:=List.drop_eq_nil_iff.mp hr;omega
  subst hi';show SimS gl A X h (.ok (.nx σ,M)) (if jb h its.length s then _ else _);rw[if_pos (ZS sr)];exact SimS.mk R rs
 |x::r,i,σ,σh,M,h,A,X,hr,hi,R,sr,rs=>by
  have ex:its[i]?=some x:=by
   have:(its.drop i)[0]?=some x:=by rw[hr];rfl
   rwa [List.getElem?_drop,Nat.add_zero]at this
  have hi2:i+1<=its.length:=(List.getElem?_eq_some_iff.mp ex).1;have hr2:its.drop (i+1)=r:=by
   rw[<-List.drop_drop,hr];rfl
  obtain⟨w,ext,ey,rx⟩:=Qc R sr ex;have fy:Frm A h (h++ext):=Frm.app A h ext;rw[List.length_cons];unfold zC R9;rw[ey];dsimp only;cases es:qw g x σ with
  |none=>exact SimS.stuck
  |some σ1=>
   obtain⟨σh1,esh,rs1⟩:=jC es rx (R.keepS fy rs);rw[esh];dsimp only;refine SimS.bind ((hb A X _ M σ1 σh1 (R.up ext) rs1).pre fy) ?_;intro o M2 oh h2 B f2 hB R2 ro;have nxt:∀σ2 σh2,jN (A++B) (X++B) h2 σ2 σh2->SimS gl (A++B) (X++B) h2 (if qd d M2=true then zC d g b r σ2 M2 else .stuck) (R9 s g b' r.length (i+1) σh2 h2):=λσ2 σh2 rs2=>by
    split
    ·rename_i hd;exact P6 hb r (i+1) σ2 σh2 M2 h2 _ _ hr2 hi2 R2 (QT sr (Jx R.sub f2 hB) R2 hd zv) rs2
    ·exact SimS.stuck
   cases o with
   |nx σ2=>cases oh<;>first|exact .inl (nxt _ _ ro)|exact ro.elim
   |ct σ2=>cases oh<;>first|exact .inl (nxt _ _ ro)|exact ro.elim
   |bk σ2=>cases oh<;>first|exact .inl (SimS.mk R2 ro)|exact ro.elim
   |rt t=>cases oh<;>first|exact .inr ⟨rfl,rfl⟩|exact ro.elim
section
variable{gl:List T}{P:Nat->List T->Mem->PR (TB×Mem)}{F:Nat->List V->AH->RV}(C:List Nat)
variable (hF:∀f ts ws A X h M,RelM gl A X h M->qL A X h ts ws->Sim gl A X h (QE gl A X h.length) (P f ts M) (F f ws h))
include hF
omit hF in
omit hF in
def qEH(gl:List T)(A X:List Nat)(h:AH):PR (TB×Mem)->RV->Prop
 | .ok ((.lst ts,_),M1),r=>∃h1 vs,r=.ok (.ref h1.length,h1++[.lst false vs])/\Frm A h h1/\RelM gl A X h1 M1/\qL A X h1 ts vs
 |_,_=>True
omit hF in
theorem RelM.cellN{gl:List T}{A X:List Nat}{h:AH}{M:Mem}{ts:List T}{vs:List V}(R:RelM gl A X h M)(r:qL A X h ts vs):RelM gl (A++[h.length]) (X++[h.length]) (h++[.lst false vs]) (M++[ts]):=by
 have hn:∀a o,a∉X->h[a]?=some o->a∉X++[h.length]/\(h++[O.lst false vs])[a]?=some o:=Jx R.sub (Frm.app A h _) (λb hb=>by simp at hb;omega);refine⟨by simp[R.len],?_,λa ha=>?_,λa ha=>?_,λn a e=>?_,λg t e=>zG zv hn t (R.glo g t e)⟩
 ·rw[wR];refine⟨R.nd,by simp,λa ha b hb=>?_⟩;have:=R.lt a (R.sub a ha);simp at hb;omega
 ·rcases wD.mp ha with z|z
  ·exact wE _ (R.sub a z)
  ·exact wF _ z
 ·rcases wD.mp ha with z|z
  ·have:=R.lt a z;simp;omega
  ·simp at z;simp[z]
 ·by_cases hlt:n<A.length
  ·rw[List.getElem?_append_left hlt]at e;obtain⟨us,ws,e1,e2,e3⟩:=R.at_ n a e;exact⟨us,ws,by rw[List.getElem?_append_left (by rw[<-R.len];exact hlt)];exact e1,by rw[List.getElem?_append_left (qJ e2)];exact e2,qN zv hn us e3⟩
  ·have hl:=(List.getElem?_eq_some_iff.mp e).1;have hnn:n=A.length:=by simp at hl;omega
   subst hnn;simp at e;subst e;exact⟨ts,vs,by rw[R.len];simp,by simp,qN zv hn ts r⟩
omit hF in
theorem P8{e:E}(h:qBI e=true):(∃as,e=.lst as)\/∃a b,e=.bin .add a b:=by
 unfold qBI at h;split at h
 ·exact .inr ⟨_,_,rfl⟩
 ·exact .inl ⟨_,rfl⟩
 ·cases h
theorem r9(e:E)(he:qBI e=true)(A X:List Nat)(h:AH)(M:Mem)(σ:TS)(σh:List (Option V))(R:RelM gl A X h M)(rs:jN A X h σ σh):qEH gl A X h (pe gl P e σ M) (ev F e σh h):=by
 rcases P8 he with⟨as,rfl⟩|⟨a,b,rfl⟩
 ·rw[pe,ev];dsimp only;have s1:=jG hF as A X h M σ σh R rs;revert s1;generalize pes gl P as σ M=r;generalize evs F as σh h=rh;intro s1;cases r with
  |stuck=>trivial
  |exc c M'=>trivial
  |ok p=>
   obtain⟨x,M1⟩:=p;obtain⟨w,h1,rfl,f1,R1,q⟩:=s1;rw[PR.bind_ok,Res.bind_ok];dsimp only;rw[<-q.len];split
   ·exact⟨h1,w,rfl,f1,R1,q.1⟩
   ·trivial
 ·rw[pe,ev];dsimp only;have s1:=qa hF a A X h M σ σh R rs;revert s1;generalize pe gl P a σ M=r;generalize ev F a σh h=rh;intro s1;cases r with
  |stuck=>trivial
  |exc c M'=>trivial
  |ok p=>
   obtain⟨x,M1⟩:=p;obtain⟨v,h1,rfl,f1,R1,q1⟩:=s1;rw[PR.bind_ok,Res.bind_ok];dsimp only;have s2:=qa hF b A X h1 M1 σ σh R1 (R.keepS f1 rs);revert s2;generalize pe gl P b σ M1=r;generalize ev F b σh h1=rh;intro s2;cases r with
   |stuck=>trivial
   |exc c M'=>trivial
   |ok p=>
    obtain⟨y,M2⟩:=p;obtain⟨w,h2,rfl,f2,R2,q2⟩:=s2;rw[PR.bind_ok,Res.bind_ok];dsimp only;have rx:=R1.keep f2 q1.1;cases eb:qv M2 .add x.1 y.1 with
    |none=>trivial
    |some r=>
     rw[PR.ofO_some,PR.bind_ok];unfold qv at eb;split at eb
     ·cases eb;trivial
     ·cases eb
     ·rename_i e1 e2;dsimp only at eb;split at eb
      ·split at eb
       ·cases eb;trivial
       ·cases eb
      rename_i u0 u1 u2;clear u2;obtain⟨xs,m1,eb⟩:=Option.bind_eq_some_iff.mp eb;obtain⟨ys,m2,eb⟩:=Option.bind_eq_some_iff.mp eb;split at eb
      ·rename_i hl;cases eb;obtain⟨a1,vs,rfl,g1,k1⟩:=L7 R2 rx m1;obtain⟨a2,us,rfl,g2,k2⟩:=L7 R2 q2.1 m2;refine⟨h2,vs++us,?_,f1.trans f2,R2,reps_iff.mpr (qu (reps_iff.mp k1) (reps_iff.mp k2))⟩;show (match qf h2 a1,qf h2 a2 with|some xs,some ys=>if xs.length+ys.length<=lim then newL (xs++ys) h2 else .stuck|_,_=>_)=_;rw[g1,g2];dsimp only;rw[<-qD (reps_iff.mp k1),<-qD (reps_iff.mp k2),if_pos hl];rfl
      ·cases eb
     ·cases eb
omit hF in
omit hF in
omit hF in
omit hF in
omit hF in
omit hF in
omit hF in
omit hF in
def SimN(gl:List T)(A X:List Nat)(D n0:Nat)(h:AH):RSt->RS->Prop
 | .ok (o,M'),r=>∃oh h',r=.ok (oh,h')/\Frm (A++[D]) h h'/\RelM gl A X h' M'/\RelO gl A X n0 h' M' o oh
 | .exc _ _,_=>False
 | .stuck,_=>True
omit hF in
theorem SimN.pre{A X:List Nat}{D n0:Nat}{h h1:AH}{r:RSt}{rh:RS}(s:SimN gl A X D n0 h1 r rh)(f:Frm (A++[D]) h h1):SimN gl A X D n0 h r rh:=by
 match r,s with
 | .ok (o,M'),⟨oh,h',e,f1,R,ro⟩=>exact⟨oh,h',e,f.trans f1,R,ro⟩
 | .exc _ _,z=>exact z.elim
 | .stuck,_=>trivial
omit hF in
theorem Frm.more{A:List Nat}{D:Nat}{h h':AH}(f:Frm A h h'):Frm (A++[D]) h h':=⟨f.1,λj hj hA=>f.2 j hj λz=>hA (wE _ z)⟩
mutual
theorem qCu:∀(s:S) (A X:List Nat) (h:AH) (M:Mem) (σ:TS) (σh:List (Option V)),RelM gl A X h M->jN A X h σ σh->SimS gl A X h (px gl P C s σ M) (ex F s σh h)
 | .asg g e,A,X,h,M,σ,σh,R,rs=>by
  rw[px,ex];dsimp only;have se:=qa hF e A X h M σ σh R rs;have tp:=λhe=>r9 hF e he A X h M σ σh R rs;revert se tp;generalize pe gl P e σ M=r;generalize ev F e σh h=rh;intro se tp;cases r with
  |stuck=>trivial
  |exc c M'=>
   obtain⟨h',rfl,f1,R1⟩:=se;exact⟨h',[],rfl,f1,λb hb=>by simp at hb,by simpa using R1⟩
  |ok p=>
   obtain⟨x,M1⟩:=p;obtain⟨w,h1,rfl,f1,R1,q⟩:=se;rw[PR.bind_ok,Res.bind_ok];dsimp only;have gen:∀{g:Tg}{σ1:TS},qw g x.1 σ=some σ1->SimS gl A X h (.ok (.nx σ1,M1)) (match store g w σh h1 with|some σ1=>.ok (.nx σ1,h1)|none=>.stuck):=λe=>by
    obtain⟨σh1,e2,rs2⟩:=jC e q.1 (R.keepS f1 rs);rw[e2];exact(SimS.mk (o:=.nx _) (oh:=.nx _) R1 rs2).pre f1
   cases g with
   |name i=>
    dsimp only;split
    ·rename_i hc;rw[Bool.and_eq_true]at hc;obtain⟨fp,p,nd,l,R',_⟩:=q.2 hc.2;obtain⟨R2,r2⟩:=R'.thaw R.sub p nd;refine⟨.nx (σh.set i (some w)),h1,fp,rfl,f1,l,R2,?_⟩;exact zl i (zh zv (Jx R.sub f1 l) rs) (show qAG _ _ h1 (some _) (some w) from r2)
    ·split
     ·rename_i hc;rw[Bool.and_eq_true]at hc;have tp:=tp hc.2;obtain⟨x1,x2⟩:=x;dsimp only;split
      ·rename_i ts;obtain⟨h0,vs,e0,f0,R0,r0⟩:=tp;cases e0;refine⟨.nx (σh.set i (some (.ref h0.length))),_,[h0.length],rfl,f0.trans (Frm.app A h0 _),λb hb=>by simp at hb;have:=f0.1;omega,R0.cellN r0,?_⟩;refine zl i (zh zv (Jx R0.sub (Frm.app A h0 _) (λb hb=>by simp at hb;omega)) (R.keepS f0 rs)) (show qAG _ _ _ (some _) (some _) from ?_);have rc:Rep (A++[h0.length]) (X++[h0.length]) (h0++[O.lst false vs]) (.cell M1.length) (.ref h0.length):=by
        unfold Rep;exact⟨h0.length,by rw[<-R0.len];simp,rfl⟩
       exact rc
      ·exact SimS.stuck
     ·exact gen (g:=.name i) rfl
   |tup is=>
    dsimp only;split
    ·rename_i σ1 e;exact gen e
    ·exact SimS.stuck
 | .put o i v,A,X,h,M,σ,σh,R,rs=>by
  rw[px,ex];dsimp only;refine Sim.bindS (qa hF v A X h M σ σh R rs) ?_;intro x M1 vx h1 f1 R1 q1;dsimp only;refine Sim.bindS (qa hF o A X h1 M1 σ σh R1 (R.keepS f1 rs)) ?_;intro y M2 w h2 f2 R2 q2;dsimp only;refine Sim.bindS (qa hF i A X h2 M2 σ σh R2 (R1.keepS f2 (R.keepS f1 rs))) ?_;intro z M3 u h3 f3 R3 q3;dsimp only;obtain⟨ty,fy⟩:=y;obtain⟨tz,fz⟩:=z;dsimp only;split
  ·rename_i n k;cases qz q3.1;have q:=R2.keep f3 q2.1;unfold Rep at q;obtain⟨p,ep,rfl⟩:=q;obtain⟨ts2,vs2,g1,g2,g3⟩:=R3.at_ n p ep;rw[g1];dsimp only;rw[show qf h3 p=some vs2 by unfold qf;rw[g2]];dsimp only;rw[<-qD (reps_iff.mp g3)];split
   ·rename_i j ej
    try simp only[ej]
    obtain⟨R4,f4⟩:=R3.put ep (reps_iff.mpr (zl j (reps_iff.mp g3) (R2.keep f3 (R1.keep f2 q1.1))));exact(SimS.mk (o:=.nx σ) (oh:=.nx σh) R4 (R3.keepS f4 (R2.keepS f3 (R1.keepS f2 (R.keepS f1 rs))))).pre f4
   ·exact SimS.stuck
  ·exact SimS.stuck
 | .expr e,A,X,h,M,σ,σh,R,rs=>by
  rw[px,ex];dsimp only;refine Sim.bindS (qa hF e A X h M σ σh R rs) ?_;intro x M1 v h1 f1 R1 q1;dsimp only;exact SimS.mk (o:=.nx σ) (oh:=.nx σh) R1 (R.keepS f1 rs)
 | .ret e,A,X,h,M,σ,σh,R,rs=>by
  rw[px,ex];dsimp only;have se:=qa hF e A X h M σ σh R rs;revert se;generalize pe gl P e σ M=r;generalize ev F e σh h=rh;intro se;cases r with
  |stuck=>trivial
  |exc c M'=>
   obtain⟨h',rfl,f1,R1⟩:=se;exact⟨h',[],rfl,f1,λb hb=>by simp at hb,by simpa using R1⟩
  |ok p=>
   obtain⟨x,M1⟩:=p;obtain⟨w,h1,rfl,f1,R1,q⟩:=se;exact⟨.rt w,h1,[],rfl,f1,λb hb=>by simp at hb,by simpa using R1,by simpa using (show RelO gl A X h.length h1 M1 (.rt x) (.rt w) from q)⟩
 | .ifs c t u,A,X,h,M,σ,σh,R,rs=>by
  rw[px,ex];dsimp only;refine Sim.bindS (O2 (qa hF c A X h M σ σh R rs)) ?_;rintro x M1 v h1 f1 R1 rfl;dsimp only;cases x with
  |true=>simp only[if_true];exact Zc t A X h1 M1 σ σh R1 (R.keepS f1 rs)
  |false=>simp only[Bool.false_eq_true,if_false];exact Zc u A X h1 M1 σ σh R1 (R.keepS f1 rs)
 | .for_ g it b,A,X,h,M,σ,σh,R,rs=>by
  rw[px,ex];dsimp only;refine Sim.bindS (Z7 hF it A X h M σ σh R rs) ?_;intro s M1 sh h1 f1 R1 q1;dsimp only;rw[Jk q1];exact P6 (λA X h M σ σh R rs=>Zc b A X h M σ σh R rs) s.1 0 σ σh M1 h1 A X rfl (Nat.zero_le _) R1 q1 (R.keepS f1 rs)
 | .stop,A,X,h,M,σ,σh,R,rs=>by rw[px,ex];exact SimS.stuck
theorem Zc:∀(s:Ss) (A X:List Nat) (h:AH) (M:Mem) (σ:TS) (σh:List (Option V)),RelM gl A X h M->jN A X h σ σh->SimS gl A X h (pxs gl P C s σ M) (exs F s σh h)
 | .nil,A,X,h,M,σ,σh,R,rs=>by rw[pxs,exs];exact SimS.mk (o:=.nx σ) (oh:=.nx σh) R rs
 | .cons s r,A,X,h,M,σ,σh,R,rs=>by
  rw[pxs,exs];dsimp only;refine SimS.bind (qCu s A X h M σ σh R rs) ?_;intro o M1 oh h1 B f1 hB R1 ro;cases o with
  |nx σ2=>cases oh<;>first|exact .inl (Zc r _ _ h1 M1 _ _ R1 ro)|exact ro.elim
  |ct σ2=>cases oh<;>first|exact .inr ⟨rfl,rfl⟩|exact ro.elim
  |bk σ2=>cases oh<;>first|exact .inr ⟨rfl,rfl⟩|exact ro.elim
  |rt t=>cases oh<;>first|exact .inr ⟨rfl,rfl⟩|exact ro.elim
end
end
section
variable{gl:List T}{A X B:List Nat}{h h':AH}{M M1:Mem}
theorem mapM_cons{α β:Type}{f:α->Option β}{x:α}{xs:List α}{ys:List β}(e:(x::xs).mapM f=some ys):∃y ys',f x=some y/\xs.mapM f=some ys'/\ys=y::ys':=by
 rw[wm]at e;cases hf:f x with
 |none=>rw[hf]at e;cases e
 |some y=>
  rw[hf]at e;cases hg:xs.mapM f with
  |none=>rw[hg]at e;cases e
  |some ys'=>rw[hg]at e;cases e;exact⟨y,ys',rfl,rfl,rfl⟩
theorem mapM_nil{α β:Type}{f:α->Option β}{ys:List β}(e:([]:List α).mapM f=some ys):ys=[]:=by
 rw[List.mapM_nil]at e;cases e;rfl
theorem jK{A1 X1:List Nat}{f:T->Option T}(hf:∀t t' w,f t=some t'->Rep A1 X1 h t w->Rep A X h t' w):∀{ts ts':List T}{vs:List V},ts.mapM f=some ts'->qL A1 X1 h ts vs->qL A X h ts' vs
 | [],ts',vs,e,r=>by cases mapM_nil e;unfold qL at r ⊢;exact r
 |t::ts,ts',vs,e,r=>by
  obtain⟨y,ys,e1,e2,rfl⟩:=mapM_cons e;unfold qL at r ⊢;obtain⟨v,vs',rfl,a,b⟩:=r;exact⟨v,vs',rfl,hf _ _ _ e1 a,jK hf e2 b⟩
theorem D8(R:RelM gl (A++B) (X++B) h M1)(hB:∀b∈B,b∉X):∀(d:Nat) (t t':T) (w:V),qP M1 A.length d t=some t'->Rep (A++B) (X++B) h t w->Rep A X h t' w:=by
 have hu:∀(t:T) (w:V),t.und A.length=true->Rep (A++B) (X++B) h t w->Rep A X h t w:=λt w u r=>JI (λn hn=>List.getElem?_append_left hn) (λa ha=>wE _ ha) t r u;have hX:∀a,a∉X++B->a∉X:=λa x z=>x (wE _ z);intro d
 induction d with
 |zero=>
  intro t t' w e r;unfold qP at e;split at e
  ·rename_i u;cases e;exact hu _ w u r
  ·cases e
 |succ d ih=>
  intro t t' w e r;unfold qP at e;split at e
  ·rename_i u;cases e;exact hu _ w u r
  ·rename_i u;cases t with
   |v x=>cases e
   |ob o=>cases e
   |fz ts=>cases e
   |lst ts=>
    obtain⟨ts',e1,rfl⟩:=Option.map_eq_some_iff.mp e;unfold Rep at r ⊢;obtain⟨a,vs,rfl,q1,q2,q3⟩:=r;exact⟨a,vs,rfl,hX a q1,q2,jK ih e1 q3⟩
   |tup ts=>
    obtain⟨ts',e1,rfl⟩:=Option.map_eq_some_iff.mp e;unfold Rep at r ⊢;obtain⟨a,vs,rfl,q1,q2,q3⟩:=r;exact⟨a,vs,rfl,hX a q1,q2,jK ih e1 q3⟩
   |cell n=>
    obtain⟨ts,e0,e⟩:=Option.bind_eq_some_iff.mp (show (M1[n]?).bind _=_ from e);obtain⟨ts',e1,rfl⟩:=Option.map_eq_some_iff.mp e;have hn:A.length<=n:=by
     unfold T.und at u;simpa using u
    unfold Rep at r ⊢;obtain⟨a,ea,rfl⟩:=r;obtain⟨ts2,vs,g1,g2,g3⟩:=R.at_ n a ea;rw[e0]at g1;cases g1;rw[List.getElem?_append_right hn]at ea;exact⟨a,vs,rfl,hB a (List.mem_of_getElem? ea),g2,jK ih e1 g3⟩
mutual
theorem O5(n:Nat):∀(t:T),t.lf=true->t.und n=true
 | .v x,_=>rfl
 | .cell _,l=>by unfold T.lf at l;cases l
 | .ob _,_=>rfl
 | .fz _,l=>by unfold T.lf at l;cases l
 | .lst _,l=>by unfold T.lf at l;cases l
 | .tup ts,l=>by unfold T.lf at l;unfold T.und;exact Qw n ts l
theorem Qw(n:Nat):∀(ts:List T),T.lfs ts=true->T.unds n ts=true
 | [],_=>rfl
 |t::ts,l=>by unfold T.lfs at l;rw[Bool.and_eq_true]at l;unfold T.unds;rw[O5 n t l.1,Qw n ts l.2];rfl
end
theorem K0{n0:Nat}{f:T->Option (List Nat)}(hf:∀t l,f t=some l->t.und n0=true->t.lf=true):∀{ts:List T}{ls:List (List Nat)},ts.mapM f=some ls->T.unds n0 ts=true->T.lfs ts=true
 | [],ls,e,u=>rfl
 |t::ts,ls,e,u=>by
  obtain⟨y,ys,e1,e2,rfl⟩:=mapM_cons e;unfold T.unds at u;rw[Bool.and_eq_true]at u;unfold T.lfs;rw[hf t _ e1 u.1,K0 hf e2 u.2];rfl
theorem Q8{n0:Nat}:∀(d:Nat) (t:T) (l:List Nat),jv M1 n0 d t=some l->t.und n0=true->t.lf=true:=by
 intro d
 induction d with
 |zero=>intro t l e u;unfold jv at e;split at e<;>first|assumption|cases e
 |succ d ih=>
  intro t l e u;unfold jv at e;split at e
  ·assumption
  ·cases t with
   |tup ts=>
    obtain⟨ls,e1,rfl⟩:=Option.map_eq_some_iff.mp e;unfold T.und at u;unfold T.lf;exact K0 ih e1 u
   |cell n=>
    dsimp only at e;split at e
    ·rename_i hn;unfold T.und at u;simp at u;omega
    ·cases e
   |v x=>cases e
   |ob o=>cases e
   |fz ts=>cases e
   |lst ts=>cases e
theorem ZJ{A1 X1:List Nat}{n0:Nat}{f:T->Option (List Nat)}{g:T->Option T}(hf:∀t l t' w,f t=some l->g t=some t'->Rep A1 X1 h t w->∃fp,FP X h t' w fp/\fp.map some=l.map (A1[·]?)/\∀n∈l,n0<=n):
  ∀{ts ts':List T}{ls:List (List Nat)}{vs:List V},ts.mapM f=some ls->ts.mapM g=some ts'->qL A1 X1 h ts vs->∃fp,FPs X h ts' vs fp/\fp.map some=ls.flatten.map (A1[·]?)/\∀n∈ls.flatten,n0<=n
 | [],ts',ls,vs,e,e',r=>by
  cases mapM_nil e;cases mapM_nil e';unfold qL at r;exact⟨[],by unfold FPs;exact⟨r,rfl⟩,rfl,λn hn=>by simp at hn⟩
 |t::ts,ts',ls,vs,e,e',r=>by
  obtain⟨y,ys,e1,e2,rfl⟩:=mapM_cons e;obtain⟨z,zs,e3,e4,rfl⟩:=mapM_cons e';unfold qL at r;obtain⟨v,vs',rfl,a,b⟩:=r;obtain⟨f1,p1,q1,n1⟩:=hf _ _ _ _ e1 e3 a;obtain⟨f2,p2,q2,n2⟩:=ZJ hf e2 e4 b;refine⟨f1++f2,by unfold FPs;exact⟨v,vs',f1,f2,rfl,p1,p2,rfl⟩,by simp[q1,q2],λn hn=>?_⟩;rw[List.flatten_cons]at hn;rcases wD.mp hn with z|z
  ·exact n1 n z
  ·exact n2 n z
theorem QG{n0:Nat}{d:Nat}{t t':T}(u:t.und n0=true)(e:qP M1 n0 d t=some t'):t'=t:=by
 cases d<;>(unfold qP at e;rw[if_pos u]at e;cases e;rfl)
theorem V3(R:RelM gl (A++B) (X++B) h M1)(hB:∀b∈B,b∉X):∀(d:Nat) (t:T) (l:List Nat) (t':T) (w:V),jv M1 A.length d t=some l->qP M1 A.length d t=some t'->Rep (A++B) (X++B) h t w ->
  ∃fp,FP X h t' w fp/\fp.map some=l.map ((A++B)[·]?)/\∀n∈l,A.length<=n:=by
 have hX:∀a,a∉X++B->a∉X:=λa x z=>x (wE _ z);have lfc:∀{d:Nat}{t t':T}{w:V},t.lf=true->qP M1 A.length d t=some t'->Rep (A++B) (X++B) h t w->∃fp:List Nat,FP X h t' w fp/\fp.map some=([]:List Nat).map ((A++B)[·]?)/\∀n∈([]:List Nat),A.length<=n:=by
  intro d t t' w l e r;cases QG (O5 _ t l) e;exact⟨[],QX (λa o x y=>⟨hX a x,y⟩) _ (m7 _ r l),rfl,λn hn=>by simp at hn⟩
 intro d
 induction d with
 |zero=>
  intro t l t' w e e' r;unfold jv at e;split at e
  ·rename_i hl;cases e;exact lfc hl e' r
  ·cases e
 |succ d ih=>
  intro t l t' w e e' r;unfold jv at e;split at e
  ·rename_i hl;cases e;exact lfc hl e' r
  ·rename_i hl;have hu:t.und A.length≠true:=λu=>hl (Q8 (M1:=M1) (d+1) t l (by unfold jv;rw[if_neg hl];exact e) u);unfold qP at e';rw[if_neg hu]at e';cases t with
   |tup ts=>
    obtain⟨ls,e1,rfl⟩:=Option.map_eq_some_iff.mp e;obtain⟨ts',e2,rfl⟩:=Option.map_eq_some_iff.mp e';unfold Rep at r;obtain⟨a,vs,rfl,q1,q2,q3⟩:=r;obtain⟨fp,p1,p2,p3⟩:=ZJ ih e1 e2 q3;exact⟨fp,by unfold FP;exact⟨a,vs,rfl,hX a q1,q2,p1⟩,p2,p3⟩
   |cell n=>
    dsimp only at e e';split at e
    ·rename_i hn;obtain⟨ts,e0,e⟩:=Option.bind_eq_some_iff.mp e;obtain⟨ls,e1,rfl⟩:=Option.map_eq_some_iff.mp e;rw[e0]at e';dsimp only[Option.bind_some]at e';obtain⟨ts',e2,rfl⟩:=Option.map_eq_some_iff.mp e';unfold Rep at r;obtain⟨a,ea,rfl⟩:=r;obtain⟨ts2,vs,g1,g2,g3⟩:=R.at_ n a ea;rw[e0]at g1;cases g1;obtain⟨fp,p1,p2,p3⟩:=ZJ ih e1 e2 g3;have ea2:=ea;rw[List.getElem?_append_right hn]at ea2;refine⟨fp++[a],by unfold FP;exact⟨a,vs,fp,rfl,hB a (List.mem_of_getElem? ea2),g2,p1,rfl⟩,?_,λm hm=>?_⟩
     ·rw[wg,wg,p2];simp[ea]
     ·rcases wD.mp hm with z|z
      ·exact p3 m z
      ·simp at z;omega
    ·cases e
   |v x=>cases e
   |ob o=>cases e
   |fz ts=>cases e
   |lst ts=>cases e
theorem ZK{X' Y:List Nat}(R:RelM gl (A++B) Y h M1)(hX:∀a∈X',a∈Y)(hA:∀a∈A,a∈X')(hc:(M1.take A.length).all (T.unds A.length)=true)(hg:∀(g:Nat) t,gl[g]?=some t->Rep A X' h t (.ref g)):RelM gl A X' h (M1.take A.length):=by
 have l:=R.len;rw[List.length_append]at l;refine⟨by rw[wS];omega,(wR.mp R.nd).1,hA,λa ha=>R.lt a (hX a ha),λn a e=>?_,hg⟩;have hn:=(List.getElem?_eq_some_iff.mp e).1;obtain⟨ts,vs,e1,e2,e3⟩:=R.at_ n a (zv n a e);refine⟨ts,vs,by rw[wM hn];exact e1,e2,jB (λn hn=>List.getElem?_append_left hn) hX ts e3 ?_⟩;rw[wN]at hc;refine hc ts (List.mem_of_getElem? (i:=n) ?_);rw[wM hn];exact e1
theorem F0{M:Mem}{n0 d:Nat}{t:T}{o:Ob}(h:qP M n0 d t=some (.ob o)):t=.ob o:=by
 cases d with
 |zero=>
  unfold qP at h;split at h
  ·cases h;rfl
  ·cases h
 |succ d=>
  unfold qP at h;split at h
  ·cases h;rfl
  ·cases t with
   |lst ts=>cases hh:ts.mapM (qP M n0 d)<;>simp[hh]at h
   |tup ts=>cases hh:ts.mapM (qP M n0 d)<;>simp[hh]at h
   |cell n=>
    cases hm:M[n]? with
    |none=>simp[hm]at h
    |some ts=>cases hh:ts.mapM (qP M n0 d)<;>simp[hm,hh]at h
   |_=>cases h
theorem ZX(R0:RelM gl A X h M)(f:Frm A h h')(hB:∀b∈B,h.length<=b)(R:RelM gl (A++B) (X++B) h' M1){x:TB}{w:V}(q:QE gl (A++B) (X++B) h.length x w h' M1):Sim gl A X h (QE gl A X h.length) (finish M.length x M1) (.ok (w,h')):=by
 have hBX:∀b∈B,b∉X:=λb z y=>by have:=hB b z;have:=R0.lt b y;omega
 have hX:∀a,a∉X++B->a∉X:=λa x z=>x (wE _ z);have hg:∀{Z:List Nat},(∀a∈Z,h.length<=a)->∀(g:Nat) t,gl[g]?=some t->Rep A (X++Z) h' t (.ref g):=λhZ g t e=>zG (λ_ _ e=>e) (λa o x y=>⟨by
   rw[wD];rintro(z|z)
   ·exact x z
   ·have:=hZ a z;have:=qJ y;omega,(R0.keepN f a o x y).2⟩) t (R0.glo g t e)
 unfold finish;rw[<-R0.len];split
 ·rename_i hl;have hB0:B=[]:=by
   have:=R.len;rw[List.length_append,hl]at this;exact List.length_eq_zero_iff.mp (by omega)
  subst hB0;rw[List.append_nil,List.append_nil]at R q;exact⟨w,h',rfl,f,R,q⟩
 split
 ·rename_i hc;refine Sim.ofO λt' et=>?_;have R':RelM gl A X h' (M1.take A.length):=by
   have:=ZK (X':=X++[]) R (λa ha=>by simp at ha;exact wE _ ha) (λa ha=>by simp;exact R0.sub a ha) hc (hg λa ha=>by simp at ha);simpa using this
  refine⟨w,h',rfl,f,R',D8 R hBX 6 _ _ _ et q.1,λe=>?_⟩;rw[wu]at e;rcases e with e|e
  ·obtain⟨fp,p,nd,l,Rf,nw⟩:=q.2 e;cases QG (Y1 A.length _ p) et;have cr:∀{Z:List Nat},(∀a∈Z,h.length<=a)->RelM gl (A++B) (X++B++Z) h' M1->RelM gl A (X++Z) h' (M1.take A.length):=λ{Z} hZ q=>ZK q (λa ha=>by
    rcases wD.mp ha with z|z
    ·exact wE _ (wE _ z)
    ·exact wF _ z) (λa ha=>wE _ (R0.sub a ha)) hc (hg hZ)
   exact⟨fp,QX (λa o x y=>⟨hX a x,y⟩) _ p,nd,l,cr l Rf,λkvs e=>by
    obtain⟨a,q1,q2,q3⟩:=nw kvs e;exact⟨a,q1,q2,cr (λz hz=>by rw[wJ.mp hz];exact q2) q3⟩⟩
  ·unfold frR at e;split at e
   ·rename_i l el;have ndl:l.Nodup:=by simpa using e
    obtain⟨fp,p,pm,pn⟩:=V3 R hBX 6 _ _ _ _ el et q.1;have fB:∀a∈fp,a∈B:=λa ha=>by
     have:some a∈fp.map some:=List.mem_map_of_mem ha;rw[pm]at this;obtain⟨n,hn,en⟩:=wn.mp this;rw[List.getElem?_append_right (pn n hn)]at en;exact List.mem_of_getElem? en
    have nd:fp.Nodup:=by
     have:(fp.map some).Nodup:=by
      rw[pm];refine wd.mpr (List.Pairwise.imp_of_mem ?_ ndl);intro n m hn hm hnm e;have:(A++B)[n]?∈fp.map some:=by rw[pm];exact List.mem_map_of_mem hn
      obtain⟨a,_,ea⟩:=wn.mp this;exact hnm ((List.getElem?_inj (List.getElem?_eq_some_iff.mp ea.symm).1 R.nd).mp e)
     exact(wd.mp this).imp λ{a b} z e=>z (by rw[e])
    refine⟨fp,p,nd,λa ha=>hB a (fB a ha),ZK R (λa ha=>?_) (λa ha=>wE _ (R0.sub a ha)) hc (hg λa ha=>hB a (fB a ha)),λkvs e=>by have e:t'=.ob (.dct kvs):=e;subst e;rw[F0 et]at el;simp[jv,T.lf]at el⟩;rcases wD.mp ha with z|z
    ·exact wE _ z
    ·exact wF _ (fB a z)
   ·cases e
 ·exact Sim.stuck
end
theorem ZM{A X:List Nat}{h:AH}(n:Nat):∀{ts:List T}{ws:List V},qL A X h ts ws->jN A X h (ts.map some++List.replicate n none) (ws.map some++List.replicate n none)
 | [],ws,r=>by
  unfold qL at r;subst r;show jN A X h (List.replicate n none) (List.replicate n none)
  induction n with
  |zero=>rfl
  |succ n ih=>exact⟨none,_,rfl,trivial,ih⟩
 |t::ts,ws,r=>by
  unfold qL at r;obtain⟨v,vs,rfl,a,b⟩:=r;exact⟨some v,_,rfl,a,ZM n b⟩
theorem qAy(gl:List T)(tb:List Fn)(Cs:List (List Nat)):∀(k f:Nat) (ts:List T) (ws:List V) (A X:List Nat) (h:AH) (M:Mem),RelM gl A X h M->qL A X h ts ws->Sim gl A X h (QE gl A X h.length) (Pk gl tb Cs k f ts M) (Fk tb k f ws h)
 | 0,f,ts,ws,A,X,h,M,R,rs=>Sim.stuck
 |k+1,f,ts,ws,A,X,h,M,R,rs=>by
  unfold Pk Fk;cases ed:tb[f]? with
  |none=>exact Sim.stuck
  |some d=>
   dsimp only;rw[<-qD (reps_iff.mp rs)];split
   ·have s:=Zc (Cs.getD f []) (qAy gl tb Cs k) d.body A X h M _ _ R (ZM (d.nslot-d.npar) rs);revert s;generalize pxs gl (Pk gl tb Cs k) (Cs.getD f []) d.body (ts.map some++List.replicate (d.nslot-d.npar) none) M=r;generalize exs (Fk tb k) d.body (ws.map some++List.replicate (d.nslot-d.npar) none) h=rh;intro s;cases r with
    |stuck=>exact Sim.stuck
    |exc c M1=>
     obtain⟨h',B,rfl,f1,hB,R1⟩:=s;show Sim gl A X h _ (if _ then _ else if _ then _ else _) _;split
     ·rename_i hl;have hB0:B=[]:=by
       have:=R1.len;rw[List.length_append,hl,R.len]at this;exact List.length_eq_zero_iff.mp (by omega)
      subst hB0;rw[List.append_nil,List.append_nil]at R1;exact⟨h',rfl,f1,R1⟩
     split
     ·rename_i hc;refine⟨h',rfl,f1,?_⟩;rw[<-R.len]at hc ⊢;exact ZK R1 (λa ha=>wE _ ha) R.sub hc λg t e=>R.keep f1 (R.glo g t e)
     ·exact Sim.stuck
    |ok p=>
     obtain⟨o,M1⟩:=p;obtain⟨oh,h',B,rfl,f1,hB,R1,ro⟩:=s;rw[Res.bind_ok];cases o with
     |nx σ=>
      cases oh<;>first|exact ro.elim|skip
      have r:Rep (A++B) (X++B) h' (.v .non) .non:=by unfold Rep;exact⟨rfl,rfl⟩
      exact ZX R f1 hB R1 (show QE gl (A++B) (X++B) h.length (.v .non,true) .non h' M1 from⟨r,λ_=>Frs.of_lf R1 r rfl⟩)
     |rt t=>
      cases oh<;>first|exact ro.elim|skip
      exact ZX R f1 hB R1 ro
     |bk σ=>exact Sim.stuck
     |ct σ=>exact Sim.stuck
   ·exact Sim.stuck
noncomputable def glT(gs:List O):List T:=gs.map λo=>match o with | .tup xs=>.tup (xs.map .v) | .lst _ xs=>.fz (xs.map .v) | .ob _=>.v .non
noncomputable def qAq(gs:List O):Bool:=gs.all λo=>match o with | .tup xs=>xs.all flat|_=>false
theorem qA7{gs:List O}{tb:List Fn}{Cs:List (List Nat)}{k i:Nat}{ns:List Int}{b:Bool}{M':Mem}(hg:qAq gs=true)(e:Pk (glT gs) tb Cs k i [.fz (ns.map λn=>.v (.int n))] []=.ok ((.v (.bl true),b),M')):
  ∃h',Fk tb k i [.ref gs.length] (gs++[.lst true (ns.map V.int)])=.ok (.bl true,h'):=by
 have R:RelM (glT gs) [] [] (gs++[.lst true (ns.map V.int)]) []:=by
  refine⟨rfl,List.nodup_nil,λa ha=>by simp at ha,λa ha=>by simp at ha,λn a e=>by simp at e,λg t eg=>?_⟩;unfold glT at eg;rw[wQ]at eg;obtain⟨o,eo,rfl⟩:=Option.map_eq_some_iff.mp eg;unfold qAq at hg;rw[wN]at hg;have ho:=hg o (List.mem_of_getElem? eo);cases o with
  |lst _ _=>cases ho
  |ob _=>cases ho
  |tup xs=>
   dsimp only;unfold Rep;exact⟨g,xs,rfl,by simp,by rw[List.getElem?_append_left (List.getElem?_eq_some_iff.mp eo).1];exact eo,jH ho⟩
 have rs:qL [] [] (gs++[O.lst true (ns.map V.int)]) [.fz (ns.map λn=>.v (.int n))] [.ref gs.length]:=by
  unfold qL;refine⟨_,[],rfl,?_,by unfold qL;rfl⟩;unfold Rep;refine⟨gs.length,ns.map V.int,rfl,by simp,by simp,?_⟩;have:ns.map (λn=>T.v (.int n))=(ns.map V.int).map .v:=by rw[wc];rfl
  rw[this];exact jH (by simp[flat])
 have s:=qAy (glT gs) tb Cs k i _ _ [] [] _ [] R rs;rw[e]at s;obtain⟨w,h',e1,_,_,q⟩:=s;cases qz q.1;exact⟨h',e1⟩
noncomputable def qBo(t:T):Option TB:=match t with | .v (.int i)=>some (iT (-i))|_=>none
noncomputable def qAh(M:Mem)(p k x:T):Option Mem:=match p,k with
 | .cell n,.v (.int j)=>(M[n]?).bind λxs=>(L2.ixN xs.length j).map λj=>M.set n (xs.set j x)
 |_,_=>none
noncomputable def qBO(M:Mem)(n:Nat)(x:T):Option Mem:=(M[n]?).bind λxs=>if xs.length<lim then some (M.set n (xs++[x])) else none
noncomputable def u9(t:T):Option (List T):=match t with | .v (.int j)=>if -1000000<=j/\j<=100000 then some (ql 0 j.toNat) else none|_=>none
noncomputable def qAI(t:T):Option (List T):=match t with | .v (.int j)=>if -1000000<=j/\j<=1000000 then some (ql 0 j.toNat) else none|_=>none
section
variable{gl:List T}{P:Nat->List T->Mem->PR (TB×Mem)}{C:List Nat}{σ:TS}{M:Mem}{a b c e:E}{as lo hi:Es}
@[simp] theorem pe_var(i:Nat):pe gl P (.var i) σ M=match σ[i]? with|some (some t)=>.ok ((t,t.lf),M)|_=>.stuck:=Eq.trans rfl rfl
@[simp] theorem pe_int(i:Int):pe gl P (.cst (.int i)) σ M=.ok (iT i,M):=Eq.trans rfl rfl
@[simp] theorem pe_bl(i:Bool):pe gl P (.cst (.bl i)) σ M=.ok (bT i,M):=Eq.trans rfl rfl
@[simp] theorem pe_non:pe gl P (.cst .non) σ M=.ok ((.v .non,true),M):=Eq.trans rfl rfl
@[simp] theorem pe_str(s:PySem.Str):pe gl P (.cst (.str s)) σ M=.ok ((.v (.str s),true),M):=Eq.trans rfl rfl
@[simp] theorem pe_glob(g:Nat):pe gl P (.glob g) σ M=match gl[g]? with|some t=>.ok ((t,t.lf),M)|none=>.stuck:=Eq.trans rfl rfl
@[simp] theorem qDZ(op:BOp):pe gl P (.bin op a b) σ M=(pe gl P a σ M).bind λp=>(pe gl P b σ p.2).bind λq=>(PR.ofO (qv q.2 op p.1.1 q.1.1)).bind λr=>.ok (r,q.2):=Eq.trans rfl rfl
@[simp] theorem qDR:pe gl P (.neg a) σ M=(pe gl P a σ M).bind λp=>(PR.ofO (qBo p.1.1)).bind λr=>.ok (r,p.2):=by
 show PR.bind _ _=_;dsimp only;congr 1;funext p;obtain⟨⟨p1,p3⟩,p2⟩:=p;dsimp only;unfold qBo;cases p1<;>first|rfl|skip
 rename_i x;cases x<;>rfl
@[simp] theorem qAf(op:COp):pe gl P (.cmp op a b) σ M=(pe gl P a σ M).bind λp=>(pe gl P b σ p.2).bind λq=>(PR.ofO (zN q.2 op p.1.1 q.1.1)).bind λr=>.ok (bT r,q.2):=Eq.trans rfl rfl
@[simp] theorem qCd(o1 o2:COp):pe gl P (.cmp2 o1 o2 a b c) σ M=(pe gl P a σ M).bind λp=>(pe gl P b σ p.2).bind λq=>(PR.ofO (zN q.2 o1 p.1.1 q.1.1)).bind λr=>
  if r=true then (pe gl P c σ q.2).bind λz=>(PR.ofO (zN z.2 o2 q.1.1 z.1.1)).bind λr=>.ok (bT r,z.2) else .ok (bT false,q.2):=Eq.trans rfl rfl
@[simp] theorem pe_and:pe gl P (.and a b) σ M=(pB (pe gl P a σ M)).bind λp=>if p.1=true then pe gl P b σ p.2 else .ok (bT false,p.2):=Eq.trans rfl rfl
@[simp] theorem pe_or:pe gl P (.or a b) σ M=(pB (pe gl P a σ M)).bind λp=>if p.1=true then .ok (bT true,p.2) else pe gl P b σ p.2:=Eq.trans rfl rfl
@[simp] theorem pe_not:pe gl P (.not a) σ M=(pB (pe gl P a σ M)).bind λp=>.ok (bT (!p.1),p.2):=Eq.trans rfl rfl
@[simp] theorem pe_call(f:Nat):pe gl P (.call f as) σ M=(pes gl P as σ M).bind λp=>(P f (p.1.map (·.1)) p.2).nx:=Eq.trans rfl rfl
@[simp] theorem qDt(f:BF):pe gl P (.blt f as) σ M=(pes gl P as σ M).bind λp=>(PR.ofO (jA p.2 f (p.1.map (·.1)))).bind λr=>.ok (r,p.2):=Eq.trans rfl rfl
@[simp] theorem qDY(ts:List String):pe gl P (.isi a ts) σ M=(pe gl P a σ M).bind λp=>(PR.ofO (zW p.2 p.1.1)).bind λt=>.ok (bT (ts.any (zp t)),p.2):=Eq.trans rfl rfl
@[simp] theorem qDb:pe gl P (.idx a b) σ M=(pe gl P a σ M).bind λp=>(pe gl P b σ p.2).bind λq=>(PR.ofO (jO q.2 p.1.1 q.1.1)).bind λr=>.ok (r,q.2):=Eq.trans rfl rfl
@[simp] theorem qEU:pe gl P (.sl a lo hi) σ M=(pe gl P a σ M).bind λp=>(pes gl P lo σ p.2).bind λl=>(pes gl P hi σ l.2).bind λu=>
  (PR.ofO (p.1.1.its u.2)).bind λxs=>(PR.ofO (qR (l.1.map (·.1)))).bind λi=>(PR.ofO (qR (u.1.map (·.1)))).bind λj=>(PR.ofO (R7 p.1.1 xs i.head? j.head?)).bind λr=>.ok (r,u.2):=Eq.trans rfl rfl
@[simp] theorem pe_lst:pe gl P (.lst as) σ M=(pes gl P as σ M).bind λp=>if p.1.length<=lim then .ok ((.lst (p.1.map (·.1)),p.1.all (·.2)),p.2) else .stuck:=Eq.trans rfl rfl
@[simp] theorem pe_tup:pe gl P (.tup as) σ M=(pes gl P as σ M).bind λp=>if p.1.length<=lim then .ok ((.tup (p.1.map (·.1)),p.1.all (·.2)),p.2) else .stuck:=Eq.trans rfl rfl
@[simp] theorem pe_comp(it:Itr)(src:List (Option Nat))(g:Tg)(c:Es):pe gl P (.comp it src g c e) σ M=(pei gl P it σ M).bind λp=>qQ p.1.2 g (pec gl P c) (pe gl P e) p.1.1 [] true (qh src σ) p.2:=Eq.trans rfl rfl
@[simp] theorem qDj:pe gl P (.app a b) σ M=(pe gl P a σ M).bind λp=>match p.1.1 with
  | .cell n=>(pe gl P b σ p.2).bind λq=>(PR.ofO (qBO q.2 n q.1.1)).bind λM'=>.ok ((.v .non,true),M')
  |_=>.stuck:=by
 show PR.bind _ _=_;dsimp only;congr 1;funext p;obtain⟨⟨p1,p3⟩,p2⟩:=p;dsimp only;cases p1<;>dsimp only;congr 1;funext q;obtain⟨⟨q1,q3⟩,q2⟩:=q;dsimp only;unfold qBO;rename_i n;cases h:q2[n]? with
 |none=>rfl
 |some xs=>
  dsimp only[Option.bind_some];split<;>rfl
@[simp] theorem qCg:pe gl P (.nset a) σ M=(pe gl P a σ M).bind λp=>(PR.ofO ((p.1.1.lis p.2).bind qR)).bind λis=>if is.length<1000 then .ok ((.v (.int ((difs is:Nat):Int)),true),p.2) else .stuck:=by
 show PR.bind _ _=_;dsimp only;congr 1;funext p;obtain⟨⟨p1,p3⟩,p2⟩:=p;dsimp only;cases (p1.lis p2).bind qR<;>rfl
theorem i8:pe gl P (.srtm a) σ M=(pe gl P a σ M).bind λp=>(PR.ofO (p.1.1.lis p.2)).bind λxs=>(PR.ofO (xs.mapM (h9 p.2))).bind λks=>if ks.length<64/\ks.Nodup then .ok (lT (Jc ks xs),p.2) else .stuck:=Eq.trans rfl rfl
@[simp] theorem qCb:pe gl P (.lrng a) σ M=(pe gl P a σ M).bind λp=>(PR.ofO (u9 p.1.1)).bind λxs=>.ok ((.lst xs,true),p.2):=by
 show PR.bind _ _=_;dsimp only;congr 1;funext p;obtain⟨⟨p1,p3⟩,p2⟩:=p;dsimp only;unfold u9;cases p1<;>first|rfl|skip
 rename_i x;cases x<;>first|rfl|skip
 dsimp only;split<;>rfl
@[simp] theorem qCA(m:Mt):pe gl P (.meth m a as) σ M=(pe gl P a σ M).bind λp=>match p.1.1 with
  | .cell n=>(pes gl P as σ p.2).bind λq=>PR.ofO (E5 m n (q.1.map (·.1)) q.2)
  |_=>.stuck:=Eq.trans rfl rfl
@[simp] theorem qCj:pe gl P .dnew σ M=.ok ((.ob (.dct []),true),M):=Eq.trans rfl rfl
@[simp] theorem qCC:pes gl P .nil σ M=.ok ([],M):=Eq.trans rfl rfl
@[simp] theorem qBq:pes gl P (.cons a as) σ M=(pe gl P a σ M).bind λp=>(pes gl P as σ p.2).bind λq=>.ok (p.1::q.1,q.2):=Eq.trans rfl rfl
@[simp] theorem JC:pec gl P .nil σ M=.ok (true,M):=Eq.trans rfl rfl
@[simp] theorem qBp:pec gl P (.cons a as) σ M=pB (pe gl P a σ M):=Eq.trans rfl rfl
@[simp] theorem qBt:pei gl P (.list a) σ M=(pe gl P a σ M).bind λp=>(PR.ofO (jg p.2 p.1.1)).bind λs=>.ok (s,p.2):=Eq.trans rfl rfl
@[simp] theorem qBl:pei gl P (.rng1 a) σ M=(pe gl P a σ M).bind λp=>(PR.ofO (qAI p.1.1)).bind λxs=>.ok ((xs,[]),p.2):=by
 show PR.bind _ _=_;dsimp only;congr 1;funext p;obtain⟨⟨p1,p3⟩,p2⟩:=p;dsimp only;unfold qAI;cases p1<;>first|rfl|skip
 rename_i x;cases x<;>first|rfl|skip
 dsimp only;split<;>rfl
variable{s:S}{r t u:Ss}
@[simp] theorem y4(i:Nat):px gl P C (.asg (.name i) e) σ M=(pe gl P e σ M).bind λp=>if (C.contains i&&p.1.2)=true then .ok (.nx (σ.set i (some (thaw p.2.length p.1.1).1)),p.2++(thaw p.2.length p.1.1).2) else if (C.contains (i+1000)&&qBI e)=true then (match p.1.1 with | .lst ts=>.ok (.nx (σ.set i (some (.cell p.2.length))),p.2++[ts])|_=>.stuck) else .ok (.nx (σ.set i (some p.1.1)),p.2):=Eq.trans rfl rfl
@[simp] theorem qDp(is:List Nat):px gl P C (.asg (.tup is) e) σ M=(pe gl P e σ M).bind λp=>match qw (.tup is) p.1.1 σ with|some σ1=>.ok (.nx σ1,p.2)|none=>.stuck:=Eq.trans rfl rfl
@[simp] theorem qDI{o i v:E}:px gl P C (.put o i v) σ M=(pe gl P v σ M).bind λx=>(pe gl P o σ x.2).bind λp=>(pe gl P i σ p.2).bind λk=>(PR.ofO (qAh k.2 p.1.1 k.1.1 x.1.1)).bind λM'=>.ok (.nx σ,M'):=by
 show PR.bind _ _=_;dsimp only;congr 1;funext x;congr 1;funext p;congr 1;funext k;obtain⟨⟨k1,k3⟩,k2⟩:=k;obtain⟨⟨p1,p3⟩,p2⟩:=p;dsimp only;unfold qAh;cases p1<;>first|rfl|skip
 rename_i n;cases k1<;>first|rfl|skip
 rename_i y;cases y<;>first|rfl|skip
 rename_i j;dsimp only;cases h:k2[n]? with
 |none=>rfl
 |some xs=>
  dsimp only[Option.bind_some];have hj:PI.ixN xs.length j=L2.ixN xs.length j:=rfl;rw[hj];cases L2.ixN xs.length j with
  |none=>rfl
  |some j=>rfl
@[simp] theorem qCa:px gl P C (.expr e) σ M=(pe gl P e σ M).bind λp=>.ok (.nx σ,p.2):=Eq.trans rfl rfl
@[simp] theorem qDP:px gl P C (.ret e) σ M=(pe gl P e σ M).bind λp=>.ok (.rt p.1,p.2):=Eq.trans rfl rfl
@[simp] theorem qDU:px gl P C (.ifs c t u) σ M=(pB (pe gl P c σ M)).bind λp=>if p.1=true then pxs gl P C t σ p.2 else pxs gl P C u σ p.2:=Eq.trans rfl rfl
@[simp] theorem qDB(g:Tg)(it:Itr):px gl P C (.for_ g it t) σ M=(pei gl P it σ M).bind λp=>zC p.1.2 g (pxs gl P C t) p.1.1 σ p.2:=Eq.trans rfl rfl
@[simp] theorem qCJ:px gl P C .stop σ M=.stuck:=Eq.trans rfl rfl
@[simp] theorem qCP:pxs gl P C .nil σ M=.ok (.nx σ,M):=Eq.trans rfl rfl
@[simp] theorem V4:pxs gl P C (.cons s r) σ M=(px gl P C s σ M).bind λp=>match p.1 with
  | .nx σ1=>pxs gl P C r σ1 p.2
  |o=>.ok (o,p.2):=Eq.trans rfl rfl
@[simp] theorem qEj(x:Bool):pB (.ok (bT x,M))=.ok (x,M):=Eq.trans rfl rfl
@[simp] theorem qEt(x f:Bool):pB (.ok ((T.v (.bl x),f),M))=.ok (x,M):=Eq.trans rfl rfl
@[simp] theorem qBv:pB .stuck=.stuck:=Eq.trans rfl rfl
@[simp] theorem qBn{α β:Type}(c:Nat)(M:Mem)(f:α->PR β):(PR.exc c M:PR α).bind f=.exc c M:=Eq.trans rfl rfl
end
@[simp] theorem qEv(x:V):T.lf (.v x)=true:=by rw[T.lf]
@[simp] theorem qCT(n:Nat):T.lf (.cell n)=false:=by rw[T.lf]<;>simp
@[simp] theorem qDQ(xs:List T):T.lf (.lst xs)=false:=by rw[T.lf]<;>simp
@[simp] theorem qC1(xs:List T):T.lf (.tup xs)=T.lfs xs:=by rw[T.lf]
@[simp] theorem qCq:T.lfs []=true:=by rw[T.lfs]
@[simp] theorem V0(x:T)(xs:List T):T.lfs (x::xs)=(x.lf&&T.lfs xs):=by rw[T.lfs]
@[simp] theorem iT1(i:Int):(iT i).1=.v (.int i):=rfl
@[simp] theorem iT2(i:Int):(iT i).2=true:=rfl
@[simp] theorem bT1(i:Bool):(bT i).1=.v (.bl i):=rfl
@[simp] theorem bT2(i:Bool):(bT i).2=true:=rfl
@[simp] theorem lT1(xs:List T):(lT xs).1=.lst xs:=rfl
@[simp] theorem lT2(xs:List T):(lT xs).2=T.lfs xs:=rfl
@[simp] theorem qD4(x:V):T.isV (.v x)=some x:=rfl
@[simp] theorem qCn(x:List T):T.isV (.lst x)=none:=rfl
@[simp] theorem qCE(x:List T):T.isV (.tup x)=none:=rfl
@[simp] theorem qBy(x:Nat):T.isV (.cell x)=none:=rfl
section
variable{M:Mem}(i j:Int) (xs ys:List T)
@[simp] theorem qDA:qv M .add (.v (.int i)) (.v (.int j))=some (iT (i+j)):=rfl
@[simp] theorem qAw:qv M .sub (.v (.int i)) (.v (.int j))=some (iT (i-j)):=rfl
theorem qBK{i j:Int}(h:(-18446744073709551616<i/\i<18446744073709551616)\/(-18446744073709551616<j/\j<18446744073709551616)):qv M .mul (.v (.int i)) (.v (.int j))=some (iT (i*j)):=by
 show (if (jk i||jk j||(mid i&&mid j))=true then _ else _)=_;rw[if_pos];rcases h with h|h
 ·have:jk i=true:=by unfold jk two64;exact wz h
  rw[this];rfl
 ·have:jk j=true:=by unfold jk two64;exact wz h
  rw[this,Bool.or_true];rfl
theorem u8{i j:Int}(h:0<j/\j<1073741824):qv M .fdiv (.v (.int i)) (.v (.int j))=some (iT (i / j)):=by
 show (if 0<j/\(j<1073741824\/mid j=true) then _ else _)=_;rw[if_pos ⟨h.1,.inl h.2⟩]
theorem Z1{i j:Int}(h:0<j):qv M .mod (.v (.int i)) (.v (.int j))=some (iT (i % j)):=by
 show (if 0<j then _ else _)=_;rw[if_pos h]
theorem f9{i j:Int}(h:0<=j/\j<=1000/\i.natAbs<18446744073709551616):qv M .pow (.v (.int i)) (.v (.int j))=some (iT (i ^ j.toNat)):=by
 show (if 0<=j/\j<=1000/\i.natAbs<18446744073709551616 then _ else _)=_;rw[if_pos h]
theorem qAv{i j:Int}(h:0<=j/\j<=1000/\i.natAbs<18446744073709551616):qv M .shl (.v (.int i)) (.v (.int j))=some (iT (i*2 ^ j.toNat)):=by
 show (if 0<=j/\j<=1000/\i.natAbs<18446744073709551616 then _ else _)=_;rw[if_pos h]
theorem qBL{xs ys:List T}(h:xs.length+ys.length<=lim):qv M .add (.lst xs) (.lst ys)=some (lT (xs++ys)):=by
 show (if xs.length+ys.length<=lim then _ else _)=_;rw[if_pos h]
@[simp] theorem qCW:zN M .lt (.v (.int i)) (.v (.int j))=some (decide (i<j)):=rfl
@[simp] theorem qCF:zN M .le (.v (.int i)) (.v (.int j))=some (decide (i<=j)):=rfl
@[simp] theorem qCH:zN M .gt (.v (.int i)) (.v (.int j))=some (decide (j<i)):=rfl
@[simp] theorem qCN:zN M .ge (.v (.int i)) (.v (.int j))=some (decide (j<=i)):=rfl
@[simp] theorem qCU:zN M .eq (.v (.int i)) (.v (.int j))=some (decide (i=j)):=by
 show some (i==j)=_;congr 1
@[simp] theorem qDg:jA M .list [.lst xs]=some (lT xs):=rfl
@[simp] theorem qDk:jA M .list [.tup xs]=some (lT xs):=rfl
@[simp] theorem qAr:jA M .max [.v (.int i),.v (.int j)]=some (iT (if j>i then j else i)):=rfl
@[simp] theorem qBN:jA M .min [.v (.int i),.v (.int j)]=some (iT (if j<i then j else i)):=rfl
@[simp] theorem qEE:jA M .int [.v (.int i)]=some (iT i):=rfl
@[simp] theorem qE8:zW M (.v (.int i))=some "int":=rfl
@[simp] theorem qE2(b:Bool):zW M (.v (.bl b))=some "bool":=rfl
@[simp] theorem qEz:zW M (.lst xs)=some "list":=rfl
@[simp] theorem qEy:zW M (.tup xs)=some "tuple":=rfl
@[simp] theorem qE7(kvs:List (Int×V)):zW M (.ob (.dct kvs))=some "dict":=rfl
@[simp] theorem qE3:zW M (.v .non)=some "NoneType":=rfl
@[simp] theorem qDN:jg M (.lst xs)=some (xs,[]):=rfl
@[simp] theorem qDd:jg M (.tup xs)=some (xs,[]):=rfl
@[simp] theorem qDr:jg M (.fz xs)=some (xs,[]):=rfl
@[simp] theorem qDa:qCS M (.lst xs)=some (xs,[]):=rfl
end
@[simp] theorem lk0{α:Type}(x0:α)(l:List α):(x0::l)[0]?=some x0:=rfl
@[simp] theorem st0{α:Type}(x0 y:α)(l:List α):(x0::l).set 0 y=y::l:=rfl
@[simp] theorem lk1{α:Type}(x0 x1:α)(l:List α):(x0::x1::l)[1]?=some x1:=rfl
@[simp] theorem st1{α:Type}(x0 x1 y:α)(l:List α):(x0::x1::l).set 1 y=x0::y::l:=rfl
@[simp] theorem lk2{α:Type}(x0 x1 x2:α)(l:List α):(x0::x1::x2::l)[2]?=some x2:=rfl
@[simp] theorem st2{α:Type}(x0 x1 x2 y:α)(l:List α):(x0::x1::x2::l).set 2 y=x0::x1::y::l:=rfl
@[simp] theorem lk3{α:Type}(x0 x1 x2 x3:α)(l:List α):(x0::x1::x2::x3::l)[3]?=some x3:=rfl
@[simp] theorem st3{α:Type}(x0 x1 x2 x3 y:α)(l:List α):(x0::x1::x2::x3::l).set 3 y=x0::x1::x2::y::l:=rfl
@[simp] theorem lk4{α:Type}(x0 x1 x2 x3 x4:α)(l:List α):(x0::x1::x2::x3::x4::l)[4]?=some x4:=rfl
@[simp] theorem st4{α:Type}(x0 x1 x2 x3 x4 y:α)(l:List α):(x0::x1::x2::x3::x4::l).set 4 y=x0::x1::x2::x3::y::l:=rfl
@[simp] theorem lk5{α:Type}(x0 x1 x2 x3 x4 x5:α)(l:List α):(x0::x1::x2::x3::x4::x5::l)[5]?=some x5:=rfl
@[simp] theorem st5{α:Type}(x0 x1 x2 x3 x4 x5 y:α)(l:List α):(x0::x1::x2::x3::x4::x5::l).set 5 y=x0::x1::x2::x3::x4::y::l:=rfl
@[simp] theorem lk6{α:Type}(x0 x1 x2 x3 x4 x5 x6:α)(l:List α):(x0::x1::x2::x3::x4::x5::x6::l)[6]?=some x6:=rfl
@[simp] theorem st6{α:Type}(x0 x1 x2 x3 x4 x5 x6 y:α)(l:List α):(x0::x1::x2::x3::x4::x5::x6::l).set 6 y=x0::x1::x2::x3::x4::x5::y::l:=rfl
@[simp] theorem lk7{α:Type}(x0 x1 x2 x3 x4 x5 x6 x7:α)(l:List α):(x0::x1::x2::x3::x4::x5::x6::x7::l)[7]?=some x7:=rfl
@[simp] theorem st7{α:Type}(x0 x1 x2 x3 x4 x5 x6 x7 y:α)(l:List α):(x0::x1::x2::x3::x4::x5::x6::x7::l).set 7 y=x0::x1::x2::x3::x4::x5::x6::y::l:=rfl
@[simp] theorem lk8{α:Type}(x0 x1 x2 x3 x4 x5 x6 x7 x8:α)(l:List α):(x0::x1::x2::x3::x4::x5::x6::x7::x8::l)[8]?=some x8:=rfl
@[simp] theorem st8{α:Type}(x0 x1 x2 x3 x4 x5 x6 x7 x8 y:α)(l:List α):(x0::x1::x2::x3::x4::x5::x6::x7::x8::l).set 8 y=x0::x1::x2::x3::x4::x5::x6::x7::y::l:=rfl
@[simp] theorem lk9{α:Type}(x0 x1 x2 x3 x4 x5 x6 x7 x8 x9:α)(l:List α):(x0::x1::x2::x3::x4::x5::x6::x7::x8::x9::l)[9]?=some x9:=rfl
@[simp] theorem st9{α:Type}(x0 x1 x2 x3 x4 x5 x6 x7 x8 x9 y:α)(l:List α):(x0::x1::x2::x3::x4::x5::x6::x7::x8::x9::l).set 9 y=x0::x1::x2::x3::x4::x5::x6::x7::x8::y::l:=rfl
@[simp] theorem qE6{α:Type}(x0 x1 x2 x3 x4 x5 x6 x7 x8 x9 x10:α)(l:List α):(x0::x1::x2::x3::x4::x5::x6::x7::x8::x9::x10::l)[10]?=some x10:=rfl
@[simp] theorem qEu{α:Type}(x0 x1 x2 x3 x4 x5 x6 x7 x8 x9 x10 y:α)(l:List α):(x0::x1::x2::x3::x4::x5::x6::x7::x8::x9::x10::l).set 10 y=x0::x1::x2::x3::x4::x5::x6::x7::x8::x9::y::l:=rfl
@[simp] theorem qFA{α:Type}(x0 x1 x2 x3 x4 x5 x6 x7 x8 x9 x10 x11:α)(l:List α):(x0::x1::x2::x3::x4::x5::x6::x7::x8::x9::x10::x11::l)[11]?=some x11:=rfl
@[simp] theorem qE1{α:Type}(x0 x1 x2 x3 x4 x5 x6 x7 x8 x9 x10 x11 y:α)(l:List α):(x0::x1::x2::x3::x4::x5::x6::x7::x8::x9::x10::x11::l).set 11 y=x0::x1::x2::x3::x4::x5::x6::x7::x8::x9::x10::y::l:=rfl
@[simp] theorem qEw{α:Type}(x0 x1 x2 x3 x4 x5 x6 x7 x8 x9 x10 x11 x12:α)(l:List α):(x0::x1::x2::x3::x4::x5::x6::x7::x8::x9::x10::x11::x12::l)[12]?=some x12:=rfl
@[simp] theorem qE4{α:Type}(x0 x1 x2 x3 x4 x5 x6 x7 x8 x9 x10 x11 x12 y:α)(l:List α):(x0::x1::x2::x3::x4::x5::x6::x7::x8::x9::x10::x11::x12::l).set 12 y=x0::x1::x2::x3::x4::x5::x6::x7::x8::x9::x10::x11::y::l:=rfl
@[simp] theorem qE9{α:Type}(x0 x1 x2 x3 x4 x5 x6 x7 x8 x9 x10 x11 x12 x13:α)(l:List α):(x0::x1::x2::x3::x4::x5::x6::x7::x8::x9::x10::x11::x12::x13::l)[13]?=some x13:=rfl
@[simp] theorem qFC{α:Type}(x0 x1 x2 x3 x4 x5 x6 x7 x8 x9 x10 x11 x12 x13 y:α)(l:List α):(x0::x1::x2::x3::x4::x5::x6::x7::x8::x9::x10::x11::x12::x13::l).set 13 y=x0::x1::x2::x3::x4::x5::x6::x7::x8::x9::x10::x11::x12::y::l:=rfl
@[simp] theorem qFE{α:Type}(x0 x1 x2 x3 x4 x5 x6 x7 x8 x9 x10 x11 x12 x13 x14:α)(l:List α):(x0::x1::x2::x3::x4::x5::x6::x7::x8::x9::x10::x11::x12::x13::x14::l)[14]?=some x14:=rfl
@[simp] theorem qE0{α:Type}(x0 x1 x2 x3 x4 x5 x6 x7 x8 x9 x10 x11 x12 x13 x14 y:α)(l:List α):(x0::x1::x2::x3::x4::x5::x6::x7::x8::x9::x10::x11::x12::x13::x14::l).set 14 y=x0::x1::x2::x3::x4::x5::x6::x7::x8::x9::x10::x11::x12::x13::y::l:=rfl
@[simp] theorem qFF{α:Type}(x0 x1 x2 x3 x4 x5 x6 x7 x8 x9 x10 x11 x12 x13 x14 x15:α)(l:List α):(x0::x1::x2::x3::x4::x5::x6::x7::x8::x9::x10::x11::x12::x13::x14::x15::l)[15]?=some x15:=rfl
@[simp] theorem qE5{α:Type}(x0 x1 x2 x3 x4 x5 x6 x7 x8 x9 x10 x11 x12 x13 x14 x15 y:α)(l:List α):(x0::x1::x2::x3::x4::x5::x6::x7::x8::x9::x10::x11::x12::x13::x14::x15::l).set 15 y=x0::x1::x2::x3::x4::x5::x6::x7::x8::x9::x10::x11::x12::x13::x14::y::l:=rfl
theorem qW{gl:List T}{tb:List Fn}{Cs:List (List Nat)}{k f:Nat}{vs:List T}{M:Mem}{np ns:Nat}{b:Ss}(ht:tb[f]?=some ⟨np,ns,b⟩)(hl:vs.length=np/\np<=ns)(hk:1<=k):
  Pk gl tb Cs k f vs M=JJ M.length (pxs gl (Pk gl tb Cs (k-1)) (Cs.getD f []) b (vs.map some++List.replicate (ns-np) none) M):=by
 obtain⟨k,rfl⟩:∃j,k=j+1:=⟨k-1,by omega⟩
 rw[Pk,ht];dsimp only;rw[if_pos hl];rfl
theorem qG{M M1:Mem}{t:TB}(h:M1.length=M.length):JJ M.length (.ok (.rt t,M1))=.ok (t,M1):=by
 show finish M.length t M1=_;unfold finish;rw[if_pos h]
theorem Qp{M M1:Mem}{σ:TS}(h:M1.length=M.length):JJ M.length (.ok (.nx σ,M1))=.ok ((.v .non,true),M1):=by
 show finish M.length _ M1=_;unfold finish;rw[if_pos h]
noncomputable def N(n:Nat):T:=.v (.int (n:Int))
noncomputable def NL(L:List Nat):T:=.lst (L.map N)
theorem N6(n:Nat):ql 0 n=(List.range n).map N:=by
 unfold ql N;simp
theorem JS(L:List Nat):T.lfs (L.map N)=true:=by
 induction L with
 |nil=>rfl
 |cons x L ih=>rw[List.map_cons,V0,ih];rfl
theorem qEr(n:Nat):(N n).lf=true:=by unfold N;rfl
theorem Zm:∀L:List Nat,zx (L.map N)=some (L.map λ(n:Nat)=>V.int (n:Int))
 | []=>rfl
 |x::L=>by
  show (zx (L.map N)).map _=_;rw[Zm L];rfl
theorem qEC{M:Mem}(n:Nat)(L:List Nat):zN M .inn (N n) (NL L)=some (decide (n∈L)):=by
 show ((zx (L.map N)).map λxs=>xs.any λz=>L2.eqV z (.int (n:Int)))=_;rw[Zm,Option.map_some,List.any_map];congr 1;rw[wa];simp only[List.any_eq_true,Function.comp,vA];constructor
 ·rintro⟨x,hx,e⟩;have:x=n:=by
   have e':((x:Int)==(n:Int))=true:=e;rw[beq_iff_eq]at e';omega
  rwa [<-this]
 ·intro h;refine⟨n,h,?_⟩;show ((n:Int)==(n:Int))=true;rw[vD]
theorem u7{M:Mem}(n:Nat)(L:List Nat):zN M .notin (N n) (NL L)=some (!decide (n∈L)):=by
 have:=qEC (M:=M) n L;show (inT M (N n) (NL L)).map (!·)=_;rw[show inT M (N n) (NL L)=some (decide (n∈L)) from this];rfl
theorem Jr{M:Mem}{d:Nat}:∀(L K:List Nat),L.length=K.length->qe (eqT M d) (L.map N) (K.map N)=some (List.zipWith (λ(a b:Nat)=>decide (a=b)) L K)
 | [],[],_=>rfl
 | [],_::_,h=>by simp at h
 |_::_,[],h=>by simp at h
 |a::L,b::K,h=>by
  have e:eqT M d (N a) (N b)=some (decide (a=b)):=by
   have:eqF (.int (a:Int)) (.int (b:Int))=some (decide (a=b)):=by
    show some ((a:Int)==(b:Int))=_;congr 1;rw[wa,beq_iff_eq,vA];omega
   cases d<;>(unfold eqT;exact this)
  rw[List.map_cons,List.map_cons,qe,e,Jr L K (by simpa using h)];rfl
theorem P7:∀(L K:List Nat),L.length=K.length->((List.zipWith (λ(a b:Nat)=>decide (a=b)) L K).all id=decide (L=K))
 | [],[],_=>rfl
 | [],_::_,h=>by simp at h
 |_::_,[],h=>by simp at h
 |a::L,b::K,h=>by
  rw[List.zipWith_cons_cons,List.all_cons,P7 L K (by simpa using h)];by_cases h1:a=b<;>by_cases h2:L=K<;>simp[h1,h2]
theorem C5{M:Mem}{d:Nat}(L K:List Nat):eqT M (d+1) (NL L) (NL K)=some (decide (L=K)):=by
 unfold eqT;show (if (L.map N).length=(K.map N).length then (qe (eqT M d) (L.map N) (K.map N)).map (λbs=>bs.all id) else some false)=_;rw[wG,wG];by_cases h:L.length=K.length
 ·rw[if_pos h,Jr L K h,Option.map_some,P7 L K h]
 ·rw[if_neg h];congr 1;symm;exact wy (λe=>h (by rw[e]))
theorem v5{M:Mem}{L K:List Nat}(h:L.length+K.length<=lim):qv M .add (NL L) (NL K)=some (NL (L++K),true):=by
 unfold NL;rw[qBL (by simpa using h)];show some (T.lst (L.map N++K.map N),T.lfs (L.map N++K.map N))=_;rw[<-wg,JS]
@[simp] theorem qA1{d:QB}{g:Tg}{b:TS->Mem->RSt}{σ:TS}{M:Mem}:zC d g b [] σ M=.ok (.nx σ,M):=rfl
@[simp] theorem qAH{i:Nat}{b:TS->Mem->RSt}{x:T}{r:List T}{σ:TS}{M:Mem}:zC [] (.name i) b (x::r) σ M=(b (σ.set i (some x)) M).bind λp=>match p.1 with
   | .nx σ2=>zC [] (.name i) b r σ2 p.2
   | .ct σ2=>zC [] (.name i) b r σ2 p.2
   | .bk σ2=>.ok (.nx σ2,p.2)
   | .rt t=>.ok (.rt t,p.2):=rfl
theorem G8{c:TS->Mem->PR (Bool×Mem)}{e:TS->Mem->PR (TB×Mem)}{M:Mem}{σ:TS}(p:Nat->Bool)(f:Nat->T)(fr:Nat->Bool):∀(its:List Nat) (ys:List T) (b:Bool) (o:Option T),ys.length+its.length<=lim ->
  (∀x∈its,c (some (N x)::σ) M=.ok (p x,M))->(∀x∈its,p x=true->e (some (N x)::σ) M=.ok ((f x,fr x),M)) ->
  qQ [] (.name 0) c e (its.map N) ys b (o::σ) M=.ok ((.lst (ys++(its.filter p).map f),b&&(its.filter p).all fr),M)
 | [],ys,b,o,hl,hc,he=>by simp[qQ]
 |x::r,ys,b,o,hl,hc,he=>by
  rw[List.map_cons];unfold qQ;rw[show qw (.name 0) (N x) (o::σ)=some (some (N x)::σ) from rfl];dsimp only;rw[hc x (List.mem_cons_self ..)];rw[PR.bind_ok];dsimp only;cases hp:p x with
  |true=>
   rw[if_pos rfl,he x (List.mem_cons_self ..) hp,PR.bind_ok];dsimp only;rw[if_pos ⟨by simp at hl;omega,rfl⟩];rw[G8 p f fr r (ys++[f x]) (b&&fr x) (some (N x)) (by simp at hl ⊢;omega) (λy hy=>hc y (List.mem_cons_of_mem _ hy)) (λy hy=>he y (List.mem_cons_of_mem _ hy))];rw[List.filter_cons_of_pos hp];simp[Bool.and_assoc]
  |false=>
   rw[if_neg (by decide),if_pos (show qd [] M=true from rfl)];rw[G8 p f fr r ys b (some (N x)) (by simp at hl ⊢;omega) (λy hy=>hc y (List.mem_cons_of_mem _ hy)) (λy hy=>he y (List.mem_cons_of_mem _ hy))];rw[we (by rw[hp];decide)]
theorem JH{c:TS->Mem->PR (Bool×Mem)}{e:TS->Mem->PR (TB×Mem)}{M:Mem}{σ:TS}{o:Option T}{its:List Nat}(p:Nat->Bool)(g:Nat->Nat)(hl:its.length<=lim)
  (hc:∀x∈its,c (some (N x)::σ) M=.ok (p x,M)) (he:∀x∈its,p x=true->e (some (N x)::σ) M=.ok ((N (g x),true),M)):
  qQ [] (.name 0) c e (its.map N) [] true (o::σ) M=.ok ((NL ((its.filter p).map g),true),M):=by
 rw[G8 p (λx=>N (g x)) (λ_=>true) its [] true o (by simpa using hl) hc he];unfold NL;simp
 all_goals rfl
@[simp] theorem qDM{M:Mem}(a b:Nat):qv M .add (N a) (N b)=some (N (a+b),true):=by unfold N;simp[iT]
theorem qAk(L:List Nat):T.lf (NL L)=false:=by unfold NL;simp
noncomputable def nE(n:Nat):E:=.cst (.int (n:Int))
@[simp] theorem qET{gl:List T}{P:Nat->List T->Mem->PR (TB×Mem)}{σ:TS}{M:Mem}(n:Nat):pe gl P (nE n) σ M=.ok ((N n,true),M):=by unfold nE;rw[pe_int];rfl
section
variable{M:Mem}(a b:Nat) (xs:List T)
@[simp] theorem lfN:(N a).lf=true:=qEr a
@[simp] theorem qEa:(N a).isV=some (.int (a:Int)):=rfl
@[simp] theorem qFD:zW M (N a)=some "int":=rfl
@[simp] theorem qDx(L:List Nat):zW M (NL L)=some "list":=rfl
theorem Je{a b:Nat}(h:b<=a):qv M .sub (N a) (N b)=some (N (a-b),true):=by
 unfold N;rw[qAw];unfold iT;rw[Int.ofNat_sub h]
theorem B8{a b:Nat}(h:a<18446744073709551616\/b<18446744073709551616):qv M .mul (N a) (N b)=some (N (a*b),true):=by
 unfold N;rw[qBK (by omega)];unfold iT;simp
theorem JP{a b:Nat}(h:0<b/\b<1073741824):qv M .fdiv (N a) (N b)=some (N (a / b),true):=by
 unfold N;rw[u8 (by omega)];unfold iT;simp
theorem je{a b:Nat}(h:0<b):qv M .mod (N a) (N b)=some (N (a % b),true):=by
 unfold N;rw[Z1 (by omega)];unfold iT;simp
theorem qBe{a b:Nat}(h:b<=1000/\a<1000000):qv M .pow (N a) (N b)=some (N (a ^ b),true):=by
 unfold N;rw[f9 (by omega)];unfold iT;simp
theorem qBB{a b:Nat}(h:b<=1000/\a<1000000):qv M .shl (N a) (N b)=some (N (a*2 ^ b),true):=by
 unfold N;rw[qAv (by omega)];unfold iT;simp
@[simp] theorem qBT:zN M .lt (N a) (N b)=some (decide (a<b)):=by unfold N;rw[qCW];simp
@[simp] theorem qD0:zN M .le (N a) (N b)=some (decide (a<=b)):=by unfold N;rw[qCF];simp
@[simp] theorem qCh:zN M .gt (N a) (N b)=some (decide (b<a)):=by unfold N;rw[qCH];simp
@[simp] theorem qB3:zN M .ge (N a) (N b)=some (decide (b<=a)):=by unfold N;rw[qCN];simp
@[simp] theorem qA8:zN M .eq (N a) (N b)=some (decide (a=b)):=by unfold N;rw[qCU];congr 1;rw[wa,vA,vA];omega
@[simp] theorem qD2:zN M .ne (N a) (N b)=some (!decide (a=b)):=by
 show ((eqT M 4 (N a) (N b)).map (!·))=_;rw[show eqT M 4 (N a) (N b)=some (decide (a=b)) from qA8 (M:=M) a b];rfl
@[simp] theorem O7:jO M (.lst xs) (N a)=(xs[a]?).map λt=>(t,t.lf):=by
 show ((L2.ixN xs.length (a:Int)).bind λj=>(xs[j]?).map λt=>(t,t.lf))=_;unfold L2.ixN;rw[if_pos (by omega)];split
 ·simp
 ·rw[wV (by omega)];rfl
@[simp] theorem Jj:jO M (.tup xs) (N a)=(xs[a]?).map λt=>(t,t.lf):=by
 show ((L2.ixN xs.length (a:Int)).bind λj=>(xs[j]?).map λt=>(t,t.lf))=_;unfold L2.ixN;rw[if_pos (by omega)];split
 ·simp
 ·rw[wV (by omega)];rfl
@[simp] theorem qBk:jA M .len [.lst xs]=some (N xs.length,true):=rfl
@[simp] theorem qAN:jA M .len [.tup xs]=some (N xs.length,true):=rfl
@[simp] theorem qDL:jA M .len [.fz xs]=some (N xs.length,true):=rfl
@[simp] theorem qBZ(L:List Nat):jA M .len [NL L]=some (N L.length,true):=by unfold NL;rw[qBk,wG]
@[simp] theorem qDe:jA M .max [N a,N b]=some (N (max a b),true):=by
 unfold N;rw[qAr];unfold iT;congr 4;split<;>omega
@[simp] theorem Z5:jA M .min [N a,N b]=some (N (min a b),true):=by
 unfold N;rw[qBN];unfold iT;congr 4;split<;>omega
@[simp] theorem qEN:jA M .int [N a]=some (N a,true):=rfl
@[simp] theorem qDD(t:Bool):jA M .int [.v (.bl t)]=some (N t.toNat,true):=by cases t<;>rfl
@[simp] theorem qC4:jA M .bits [N a]=some (N (PySem.Builtin.Int.intBits (a:Int)),true):=rfl
end
theorem jE{n:Nat}(hn:n<=1000000):qAI (N n)=some ((List.range n).map N):=by
 show (if -1000000<=(n:Int)/\(n:Int)<=1000000 then some (ql 0 (n:Int).toNat) else none)=_;rw[if_pos (by omega),wk,N6]
theorem m3{n:Nat}(hn:n<=100000):u9 (N n)=some ((List.range n).map N):=by
 show (if -1000000<=(n:Int)/\(n:Int)<=100000 then some (ql 0 (n:Int).toNat) else none)=_;rw[if_pos (by omega),wk,N6]
theorem qAe{M:Mem}{n j:Nat}{xs:List T}{x:T}(h:M[n]?=some xs)(hj:j<xs.length):qAh M (.cell n) (N j) x=some (M.set n (xs.set j x)):=by
 show ((M[n]?).bind λxs=>(L2.ixN xs.length (j:Int)).map λj=>M.set n (xs.set j x))=_;rw[h];show (L2.ixN xs.length (j:Int)).map _=_;unfold L2.ixN;rw[if_pos (by omega),if_pos (by omega)];simp
theorem qAp{M:Mem}{n:Nat}{xs:List T}{x:T}(h:M[n]?=some xs)(hl:xs.length<lim):qBO M n x=some (M.set n (xs++[x])):=by
 unfold qBO;rw[h];show (if xs.length<lim then _ else _)=_;rw[if_pos hl]
@[simp] theorem qBa(n a:Nat):thaw n (N a)=(N a,[]):=by unfold N;simp[thaw]
@[simp] theorem qDq{M:Mem}(L:List Nat):jg M (NL L)=some (L.map N,[]):=rfl
@[simp] theorem qC2{M:Mem}(x f:Bool):pB (PR.ok ((T.v (V.bl x),f),M))=.ok (x,M):=Eq.trans rfl rfl
theorem ja{α:Type}:∀l:List α,l.filter (λ_=>true)=l
 | []=>rfl
 |x::l=>by rw[List.filter_cons_of_pos rfl,ja l]
theorem w9{gl:List T}{P:Nat->List T->Mem->PR (TB×Mem)}{e:TS->Mem->PR (TB×Mem)}{M:Mem}{σ:TS}{o:Option T}{its:List Nat}(g:Nat->Nat)(hl:its.length<=lim)
  (he:∀x∈its,e (some (N x)::σ) M=.ok ((N (g x),true),M)):qQ [] (.name 0) (pec gl P .nil) e (its.map N) [] true (o::σ) M=.ok ((NL (its.map g),true),M):=
 (JH (λ_=>true) g hl (λx _=>by simp) (λx hx _=>he x hx)).trans (by rw[ja])
@[simp] theorem qB1{M:Mem}{n j:Nat}{x:T}:qAh M (.cell n) (N j) x=(M[n]?).bind λxs=>if j<xs.length then some (M.set n (xs.set j x)) else none:=by
 show ((M[n]?).bind λxs=>(L2.ixN xs.length (j:Int)).map λj=>M.set n (xs.set j x))=_;congr 1
 funext xs
 unfold L2.ixN;rw[if_pos (by omega)];by_cases h:j<xs.length
 ·rw[if_pos (by omega),if_pos h];simp
 ·rw[if_neg (by omega),if_neg h];rfl
@[simp] theorem qB4{M:Mem}{n a:Nat}:jO M (.cell n) (N a)=(M[n]?).bind λxs=>(xs[a]?).map λt=>(t,t.lf):=by
 show ((M[n]?).bind λxs=>(L2.ixN xs.length (a:Int)).bind λj=>(xs[j]?).map λt=>(t,t.lf))=_;congr 1
 funext xs
 exact O7 (M:=M) a xs
@[simp] theorem qDm(a:Nat):qBo (N a)=some (iT (-(a:Int))):=rfl
@[simp] theorem qDW(a:Int):qBo (.v (.int a))=some (iT (-a)):=rfl
@[simp] theorem qEe(a:Nat):qR [N a]=some [(a:Int)]:=rfl
@[simp] theorem qEs:qR []=some []:=rfl
@[simp] theorem qDz{M:Mem}(xs:List T):T.its M (.lst xs)=some xs:=rfl
@[simp] theorem qEJ{M:Mem}(xs:List T):T.its M (.fz xs)=some xs:=rfl
@[simp] theorem qEA{M:Mem}(xs:List T):T.its M (.tup xs)=some xs:=rfl
@[simp] theorem qEc{M:Mem}(L:List Nat):T.its M (NL L)=some (L.map N):=rfl
@[simp] theorem qC8(ys xs:List T)(lo hi:Option Int):R7 (.lst ys) xs lo hi=some (lT (Qt xs lo hi)):=rfl
@[simp] theorem qCx(ys xs:List T)(lo hi:Option Int):R7 (.fz ys) xs lo hi=some (lT (Qt xs lo hi)):=rfl
@[simp] theorem qDE(L:List Nat)(xs:List T)(lo hi:Option Int):R7 (NL L) xs lo hi=some (lT (Qt xs lo hi)):=rfl
@[simp] theorem qDs(n:Nat)(xs:List T)(lo hi:Option Int):R7 (.cell n) xs lo hi=some (lT (Qt xs lo hi)):=rfl
@[simp] theorem qEg{M:Mem}(xs:List T):T.lis M (.lst xs)=some xs:=rfl
@[simp] theorem qEk{M:Mem}(xs:List T):T.lis M (.fz xs)=some xs:=rfl
@[simp] theorem qD5{M:Mem}(L:List Nat):T.lis M (NL L)=some (L.map N):=rfl
theorem Qv{c:TS->Mem->PR (Bool×Mem)}{e:TS->Mem->PR (TB×Mem)}{σ:TS}{I:Mem->Prop}{R:Nat->Bool->Prop}:∀(its ys:List Nat) (b:Bool) (o:Option T) (M:Mem),its.Nodup->ys.length+its.length<=lim->I M ->
  (∀x∈its,∀M,I M->∃t M',c (some (N x)::σ) M=.ok (t,M')/\I M'/\R x t)->(∀x∈its,∀M,I M->e (some (N x)::σ) M=.ok ((N x,true),M)) ->
  ∃q M',qQ [] (.name 0) c e (its.map N) (ys.map N) b (o::σ) M=.ok ((NL (ys++its.filter q),b),M')/\I M'/\∀x∈its,R x (q x)
 | [],ys,b,o,M,nd,hl,hI,hc,he=>⟨λ_=>true,M,by simp[qQ,NL],hI,λx hx=>by simp at hx⟩
 |x::r,ys,b,o,M,nd,hl,hI,hc,he=>by
  have ndr:=(List.nodup_cons.mp nd).2;have hx:=(List.nodup_cons.mp nd).1;obtain⟨t,M1,e1,i1,r1⟩:=hc x (List.mem_cons_self ..) M hI;rw[List.map_cons];unfold qQ;rw[show qw (.name 0) (N x) (o::σ)=some (some (N x)::σ) from rfl];dsimp only;rw[e1,PR.bind_ok];dsimp only;have key:∀(q:Nat->Bool),(∀y∈r,R y (q y))->(r.filter (λy=>if y=x then t else q y)=r.filter q)/\∀y∈x::r,R y (if y=x then t else q y):=λq hq=>by
   constructor
   ·apply List.filter_congr;intro y hy;rw[if_neg (by rintro rfl;exact hx hy)]
   ·intro y hy;rcases List.mem_cons.mp hy with h1|h1
    ·rw[if_pos h1,h1];exact r1
    ·rw[if_neg (by rintro rfl;exact hx h1)];exact hq y h1
  cases t with
  |true=>
   rw[if_pos rfl,he x (List.mem_cons_self ..) M1 i1,PR.bind_ok];dsimp only;rw[if_pos ⟨by simp at hl ⊢;omega,rfl⟩];obtain⟨q,M2,e2,i2,r2⟩:=Qv (I:=I) (R:=R) r (ys++[x]) b (some (N x)) M1 ndr (by simp at hl ⊢;omega) i1 (λy hy=>hc y (List.mem_cons_of_mem _ hy)) (λy hy=>he y (List.mem_cons_of_mem _ hy));obtain⟨k1,k2⟩:=key q r2;refine⟨λy=>if y=x then true else q y,M2,?_,i2,k2⟩;rw[show ys.map N++[N x]=(ys++[x]).map N by simp,Bool.and_true,e2,List.filter_cons_of_pos (by simp),k1];simp
  |false=>
   rw[if_neg (by decide),if_pos (show qd [] M1=true from rfl)];obtain⟨q,M2,e2,i2,r2⟩:=Qv (I:=I) (R:=R) r ys b (some (N x)) M1 ndr (by simp at hl ⊢;omega) i1 (λy hy=>hc y (List.mem_cons_of_mem _ hy)) (λy hy=>he y (List.mem_cons_of_mem _ hy));obtain⟨k1,k2⟩:=key q r2;refine⟨λy=>if y=x then false else q y,M2,?_,i2,k2⟩;rw[e2,we (by simp),k1]
@[simp] theorem qBu(i j:Nat)(a b:T)(σ:TS):qw (.tup [i,j]) (.tup [a,b]) σ=some ((σ.set i (some a)).set j (some b)):=rfl
@[simp] theorem qAC(σ:TS):qh [] σ=[]:=rfl
@[simp] theorem u4(r:List (Option Nat))(σ:TS):qh (none::r) σ=none::qh r σ:=rfl
@[simp] theorem o0(j:Nat)(r:List (Option Nat))(σ:TS):qh (some j::r) σ=(σ[j]?).join::qh r σ:=rfl
theorem J7(x:V)(f:Bool)(M1:Mem):∃b M2,JJ ([]:Mem).length (.ok (.rt (.v x,f),M1))=.ok ((.v x,b),M2):=by
 show ∃b M2,finish 0 (.v x,f) M1=_;unfold finish;by_cases h:M1.length=0
 ·rw[if_pos h];exact⟨f,M1,rfl⟩
 ·rw[if_neg h,if_pos (by simp)];rw[show qP M1 0 6 (T.v x)=some (.v x) by unfold qP;rw[if_pos (by unfold T.und;rfl)]];exact⟨_,_,rfl⟩
mutual
theorem S9:∀t:T,T.beq t t=true
 | .v x=>by unfold T.beq;simp
 | .cell x=>by unfold T.beq;simp
 | .ob x=>by unfold T.beq;simp
 | .fz xs=>by unfold T.beq;exact zZ xs
 | .lst xs=>by unfold T.beq;exact zZ xs
 | .tup xs=>by unfold T.beq;exact zZ xs
theorem zZ:∀ts:List T,T.beqs ts ts=true
 | []=>rfl
 |t::ts=>by unfold T.beqs;rw[S9 t,zZ ts];rfl
end
mutual
theorem W6{a b:Nat}(h:a<=b):∀t:T,t.und a=true->t.und b=true
 | .v x,_=>rfl
 | .cell k,e=>by unfold T.und at e ⊢;simp at e ⊢;omega
 | .ob x,_=>rfl
 | .fz xs,e=>by unfold T.und at e ⊢;exact zH h xs e
 | .lst xs,e=>by unfold T.und at e ⊢;exact zH h xs e
 | .tup xs,e=>by unfold T.und at e ⊢;exact zH h xs e
theorem zH{a b:Nat}(h:a<=b):∀ts:List T,T.unds a ts=true->T.unds b ts=true
 | [],_=>rfl
 |t::ts,e=>by unfold T.unds at e ⊢;rw[Bool.and_eq_true]at e;rw[W6 h t e.1,zH h ts e.2];rfl
end
def FlatM(M:Mem):Prop:=∀c∈M,T.unds 0 c=true
theorem FlatM.all{M:Mem}(h:FlatM M)(n:Nat):M.all (T.unds n)=true:=by
 rw[wN];exact λc hc=>zH (Nat.zero_le _) c (h c hc)
theorem FlatM.app{A B:Mem}(h:FlatM A)(k:FlatM B):FlatM (A++B):=λc hc=>by
 rcases wD.mp hc with z|z
 ·exact h c z
 ·exact k c z
theorem qCY(n a:Nat):(N a).und n=true:=by unfold N T.und;rfl
theorem d8(n:Nat):∀L:List Nat,T.unds n (L.map N)=true
 | []=>rfl
 |x::L=>by rw[List.map_cons];unfold T.unds;rw[qCY,d8 n L];rfl
theorem JA{d:QB}{c:TS->Mem->PR (Bool×Mem)}{e:TS->Mem->PR (TB×Mem)}{M:Mem}{σ:TS}(p:Nat->Bool)(f:Nat->T)(fr:Nat->Bool):∀(its:List Nat) (ys:List T) (b:Bool) (o:Option T),qd d M=true->ys.length+its.length<=lim ->
  (∀x∈its,c (some (N x)::σ) M=.ok (p x,M))->(∀x∈its,p x=true->e (some (N x)::σ) M=.ok ((f x,fr x),M)) ->
  qQ d (.name 0) c e (its.map N) ys b (o::σ) M=.ok ((.lst (ys++(its.filter p).map f),b&&(its.filter p).all fr),M)
 | [],ys,b,o,hd,hl,hc,he=>by simp[qQ]
 |x::r,ys,b,o,hd,hl,hc,he=>by
  rw[List.map_cons];unfold qQ;rw[show qw (.name 0) (N x) (o::σ)=some (some (N x)::σ) from rfl];dsimp only;rw[hc x (List.mem_cons_self ..)];rw[PR.bind_ok];dsimp only;cases hp:p x with
  |true=>
   rw[if_pos rfl,he x (List.mem_cons_self ..) hp,PR.bind_ok];dsimp only;rw[if_pos ⟨by simp at hl;omega,hd⟩];rw[JA p f fr r (ys++[f x]) (b&&fr x) (some (N x)) hd (by simp at hl ⊢;omega) (λy hy=>hc y (List.mem_cons_of_mem _ hy)) (λy hy=>he y (List.mem_cons_of_mem _ hy))];rw[List.filter_cons_of_pos hp];simp[Bool.and_assoc]
  |false=>
   rw[if_neg (by decide),if_pos hd];rw[JA p f fr r ys b (some (N x)) hd (by simp at hl ⊢;omega) (λy hy=>hc y (List.mem_cons_of_mem _ hy)) (λy hy=>he y (List.mem_cons_of_mem _ hy))];rw[we (by rw[hp];decide)]
theorem J0(n:Nat):∀L:List Nat,QH n (L.map N)=(L.map N,[])
 | []=>by simp[QH]
 |x::L=>by
  rw[List.map_cons,QH,qBa];dsimp only;rw[List.length_nil,Nat.add_zero,J0 n L];rfl
@[simp] theorem Qu(n:Nat)(L:List Nat):thaw n (NL L)=(.cell n,[L.map N]):=by
 unfold NL;rw[thaw,J0];rfl
theorem L3{M:Mem}{n:Nat}{ts:List T}(h:M[n]?=some ts):qd [(n,ts)] M=true:=by
 unfold qd;simp[h,zZ]
theorem ZV{M:Mem}{n:Nat}{ts:List T}(h:M[n]?=some ts):jg M (.cell n)=some (ts,[(n,ts)]):=by
 unfold jg;dsimp only;rw[h];rfl
theorem qCk{M:Mem}{n:Nat}{ts:List T}(h:M[n]?=some ts):zW M (.cell n)=some "list":=by
 unfold zW;dsimp only;rw[h];rfl
structure IsL(M:Mem)(t:T)(L:List Nat):Prop where
 its:t.its M=some (L.map N)
 lis:t.lis M=some (L.map N)
 ty:zW M t=some "list"
 src:∃d,jg M t=some (L.map N,d)/\qCS M t=some (L.map N,d)/\qd d M=true
 nv:t.isV=none
theorem IsL.nl(M:Mem)(L:List Nat):IsL M (NL L) L:=⟨rfl,rfl,rfl,⟨[],rfl,rfl,rfl⟩,rfl⟩
theorem IsL.cell{M:Mem}{n:Nat}{L:List Nat}(h:M[n]?=some (L.map N)):IsL M (.cell n) L:=⟨h,h,qCk h,⟨_,ZV h,ZV h,L3 h⟩,rfl⟩
section
variable{M:Mem}{t u:T}{L K:List Nat}
theorem IsL.len(h:IsL M t L):jA M .len [t]=some (N L.length,true):=by
 show (t.its M).map _=_;rw[h.its,Option.map_some,wG];rfl
theorem IsL.list(h:IsL M t L):jA M .list [t]=some (NL L,true):=by
 show (t.its M).map lT=_;rw[h.its,Option.map_some];show some (T.lst (L.map N),T.lfs (L.map N))=_;rw[JS];rfl
theorem J8:∀L:List Nat,qR (L.map N)=some (L.map λ(n:Nat)=>(n:Int))
 | []=>rfl
 |x::L=>by
  show (qR (L.map N)).map _=_;rw[J8 L];rfl
theorem d6:∀L:List Nat,zu (L.map N)=some (L.map λ(n:Nat)=>(n:Int))
 | []=>rfl
 |x::L=>by
  show (zu (L.map N)).map _=_;rw[d6 L];rfl
theorem Jo:∀L:List Nat,(L.map λ(n:Nat)=>(n:Int)).sum=((L.sum:Nat):Int)
 | []=>rfl
 |x::L=>by rw[List.map_cons,List.sum_cons,Jo L,List.sum_cons];simp
theorem IsL.sum(h:IsL M t L):jA M .sum [t]=some (N L.sum,true):=by
 show (t.lis M).bind _=_;rw[h.lis,Option.bind_some,d6,Option.map_some,Jo];rfl
theorem IsL.idx(h:IsL M t L){i:Nat}{x:Nat}(e:L[i]?=some x):jO M t (N i)=some (N x,true):=by
 show ((t.its M).bind λxs=>(L2.ixN xs.length (i:Int)).bind λj=>(xs[j]?).map λt=>(t,t.lf))=_;rw[h.its,Option.bind_some];have:=O7 (M:=M) i (L.map N);rw[show jO M (.lst (L.map N)) (N i)=((L2.ixN (L.map N).length (i:Int)).bind λj=>((L.map N)[j]?).map λt=>(t,t.lf)) from rfl]at this;rw[this,wQ,e];simp
theorem IsL.eq(h:IsL M t L)(k:IsL M u K):eqT M 4 t u=some (decide (L=K)):=by
 have:=C5 (M:=M) (d:=3) L K;unfold eqT at this ⊢;rw[h.nv,k.nv,h.lis,k.lis];exact this
theorem IsL.ceq(h:IsL M t L)(k:IsL M u K):zN M .eq t u=some (decide (L=K)):=h.eq k
theorem IsL.cne(h:IsL M t L)(k:IsL M u K):zN M .ne t u=some (!decide (L=K)):=by
 show (eqT M 4 t u).map (!·)=_;rw[h.eq k];rfl
end
theorem Qk{gl:List T}{P:Nat->List T->Mem->PR (TB×Mem)}{e:TS->Mem->PR (TB×Mem)}{σ:TS}{I:Mem->Prop}{R:Nat->Prop}:∀(its ys:List Nat) (b:Bool) (o:Option T) (M:Mem),ys.length+its.length<=lim->I M ->
  (∀x∈its,∀M,I M->∃y M',e (some (N x)::σ) M=.ok ((N y,true),M')/\I M'/\R y) ->
  ∃K M',qQ [] (.name 0) (pec gl P .nil) e (its.map N) (ys.map N) b (o::σ) M=.ok ((NL (ys++K),b),M')/\I M'/\K.length=its.length/\∀y∈K,R y
 | [],ys,b,o,M,hl,hI,he=>⟨[],M,by simp[qQ,NL],hI,rfl,λy hy=>by simp at hy⟩
 |x::r,ys,b,o,M,hl,hI,he=>by
  obtain⟨y,M1,e1,i1,r1⟩:=he x (List.mem_cons_self ..) M hI;rw[List.map_cons];unfold qQ;rw[show qw (.name 0) (N x) (o::σ)=some (some (N x)::σ) from rfl];dsimp only;rw[JC,PR.bind_ok];dsimp only;rw[if_pos rfl,e1,PR.bind_ok];dsimp only;rw[if_pos ⟨by simp at hl ⊢;omega,rfl⟩];obtain⟨K,M2,e2,i2,l2,r2⟩:=Qk (gl:=gl) (P:=P) (I:=I) (R:=R) r (ys++[y]) b (some (N x)) M1 (by simp at hl ⊢;omega) i1 (λy hy=>he y (List.mem_cons_of_mem _ hy));refine⟨y::K,M2,?_,i2,by simp[l2],λz hz=>?_⟩
  ·rw[show ys.map N++[N y]=(ys++[y]).map N by simp,Bool.and_true,e2];simp
  ·rcases List.mem_cons.mp hz with h1|h1
   ·rw[h1];exact r1
   ·exact r2 z h1
theorem N3{α:Type}(p:α->Bool):∀L:List α,zU (L.map λx=>T.v (.bl (p x)))=some (L.map p)
 | []=>rfl
 |x::L=>by
  show (zU (L.map λx=>T.v (.bl (p x)))).map _=_;rw[N3 p L];rfl
theorem l7{M:Mem}{α:Type}(p:α->Bool)(L:List α):jA M .all [.lst (L.map λx=>T.v (.bl (p x)))]=some (bT (L.all p)):=by
 show (zU _).map _=_;rw[N3,Option.map_some,List.all_map];rfl
theorem qBx(K:List Nat):lT (K.map N)=(NL K,true):=by unfold lT;rw[JS];rfl
theorem getD_some{L:List Nat}{i:Nat}(h:i<L.length):L[i]?=some (L.getD i 0):=by
 rw[wH,wA h];rfl
def IsS(M:Mem)(t:T)(ts:List T):Prop:=t=.lst ts\/∃m,t=.cell m/\M[m]?=some ts
section
variable{M C:Mem}{t:T}{ts:List T}
theorem IsS.app(h:IsS M t ts):IsS (M++C) t ts:=by
 rcases h with h|⟨m,h,e⟩
 ·exact .inl h
 ·exact .inr ⟨m,h,by rw[List.getElem?_append_left (List.getElem?_eq_some_iff.mp e).1];exact e⟩
theorem IsS.its(h:IsS M t ts):t.its M=some ts:=by rcases h with rfl|⟨m,rfl,e⟩;rfl;exact e
theorem IsS.lis(h:IsS M t ts):t.lis M=some ts:=by rcases h with rfl|⟨m,rfl,e⟩;rfl;exact e
theorem IsS.ty(h:IsS M t ts):zW M t=some "list":=by rcases h with rfl|⟨m,rfl,e⟩;rfl;exact qCk e
theorem IsS.nv(h:IsS M t ts):t.isV=none:=by rcases h with rfl|⟨m,rfl,e⟩<;>rfl
theorem IsS.lf(h:IsS M t ts):t.lf=false:=by rcases h with rfl|⟨m,rfl,e⟩<;>simp
theorem IsS.src(h:IsS M t ts):∃d,jg M t=some (ts,d)/\qCS M t=some (ts,d)/\∀C,qd d (M++C)=true:=by
 rcases h with rfl|⟨m,rfl,e⟩
 ·exact⟨[],rfl,rfl,λ_=>rfl⟩
 ·exact⟨_,ZV e,ZV e,λC=>L3 (by rw[List.getElem?_append_left (List.getElem?_eq_some_iff.mp e).1];exact e)⟩
theorem IsS.len(h:IsS M t ts):jA M .len [t]=some (N ts.length,true):=by
 show (t.its M).map _=_;rw[h.its,Option.map_some];rfl
theorem IsS.idx(h:IsS M t ts)(i:Nat):jO M t (N i)=(ts[i]?).map λt=>(t,t.lf):=by
 have a:jO M t (N i)=jO M (.lst ts) (N i):=by
  show (t.its M).bind _=_;rw[h.its];rfl
 rw[a,O7]
theorem IsS.list(h:IsS M t ts):jA M .list [t]=some (lT ts):=by
 show (t.its M).map lT=_;rw[h.its];rfl
theorem IsS.eqT{u:T}{us:List T}{d:Nat}{bs:List Bool}(h:IsS M t ts)(k:IsS M u us)(hl:ts.length=us.length)(e:qe (eqT M d) ts us=some bs):PI.eqT M (d+1) t u=some (bs.all id):=by
 unfold PI.eqT;rw[h.nv,k.nv,h.lis,k.lis];dsimp only;rw[if_pos hl,e];rfl
end
def WfM(M:Mem):Prop:=M.all (T.unds M.length)=true
theorem WfM.app{M C:Mem}(h:WfM M)(hC:∀c∈C,T.unds (M++C).length c=true):WfM (M++C):=by
 unfold WfM at *;rw[wN]at h ⊢;intro c hc;rcases wD.mp hc with z|z
 ·exact zH (by simp) c (h c z)
 ·exact hC c z
theorem WfM.one{M:Mem}(h:WfM M){ts:List T}(l:T.lfs ts=true):WfM (M++[ts]):=h.app λc hc=>by rw[wJ.mp hc];exact Qw _ _ l
theorem q8{M A C:Mem}{b:Bool}(hA:A.length=M.length)(hW:WfM A):JJ M.length (.ok (.rt (bT b),A++C))=.ok (bT b,A):=by
 show finish M.length _ _=_;unfold finish;rw[<-hA];by_cases hb:(A++C).length=A.length
 ·have:C=[]:=List.length_eq_zero_iff.mp (by simp at hb;simp[hb]);subst this;rw[if_pos hb,List.append_nil]
 ·rw[if_neg hb,List.take_left' rfl,if_pos (show A.all (T.unds A.length)=true from hW)];rw[show qP (A++C) A.length 6 (bT b).1=some (bT b).1 by unfold qP;rw[if_pos (O5 _ _ rfl)]];rfl
theorem Z2{d:QB}{gl:List T}{P:Nat->List T->Mem->PR (TB×Mem)}{e:TS->Mem->PR (TB×Mem)}{σ:TS}{J:Mem->Prop}{Pr:T->T->Prop}:∀(its ys:List T) (b:Bool) (o:Option T) (M:Mem),ys.length+its.length<=lim->J M->(∀M',J M'->qd d M'=true) ->
  (∀x∈its,∀M',J M'->∃z M'',e (some x::σ) M'=.ok ((z,true),M'')/\J M''/\Pr x z) ->
  ∃zs M',qQ d (.name 0) (pec gl P .nil) e its ys b (o::σ) M=.ok ((.lst (ys++zs),b),M')/\J M'/\zQ Pr its zs
 | [],ys,b,o,M,_,hJ,_,_=>⟨[],M,by simp[qQ],hJ,rfl⟩
 |x::r,ys,b,o,M,hl,hJ,hd,he=>by
  obtain⟨z,M1,e1,j1,p1⟩:=he x (by simp) M hJ;obtain⟨zs,M2,e2,j2,p2⟩:=Z2 (d:=d) (gl:=gl) (P:=P) (σ:=σ) r (ys++[z]) b (some x) M1 (by simp at hl ⊢;omega) j1 hd λy hy=>he y (by simp[hy]);refine⟨z::zs,M2,?_,j2,⟨z,zs,rfl,p1,p2⟩⟩;rw[qQ,show qw (.name 0) x (o::σ)=some (some x::σ) from rfl];dsimp only;rw[JC,PR.bind_ok];dsimp only;rw[if_pos rfl,e1,PR.bind_ok];dsimp only;rw[if_pos ⟨by simp at hl;omega,hd M1 j1⟩,Bool.and_true,e2];simp
section
variable{gl:List T}{P:Nat->List T->Mem->PR (TB×Mem)}{M:Mem}{t:T}{l:TS}
@[simp high] theorem qED:pe gl P (.var 0) (some t::l) M=.ok ((t,t.lf),M):=Eq.trans rfl rfl
@[simp high] theorem qEi{x0:Option T}:pe gl P (.var 1) (x0::some t::l) M=.ok ((t,t.lf),M):=Eq.trans rfl rfl
@[simp high] theorem qEP{x0 x1:Option T}:pe gl P (.var 2) (x0::x1::some t::l) M=.ok ((t,t.lf),M):=Eq.trans rfl rfl
@[simp high] theorem qEQ{x0 x1 x2:Option T}:pe gl P (.var 3) (x0::x1::x2::some t::l) M=.ok ((t,t.lf),M):=Eq.trans rfl rfl
@[simp high] theorem qEd{x0 x1 x2 x3:Option T}:pe gl P (.var 4) (x0::x1::x2::x3::some t::l) M=.ok ((t,t.lf),M):=Eq.trans rfl rfl
@[simp high] theorem qEM{x0 x1 x2 x3 x4:Option T}:pe gl P (.var 5) (x0::x1::x2::x3::x4::some t::l) M=.ok ((t,t.lf),M):=Eq.trans rfl rfl
@[simp high] theorem qEW{x0 x1 x2 x3 x4 x5:Option T}:pe gl P (.var 6) (x0::x1::x2::x3::x4::x5::some t::l) M=.ok ((t,t.lf),M):=Eq.trans rfl rfl
@[simp high] theorem qDy{x0 x1 x2 x3 x4 x5 x6:Option T}:pe gl P (.var 7) (x0::x1::x2::x3::x4::x5::x6::some t::l) M=.ok ((t,t.lf),M):=Eq.trans rfl rfl
@[simp high] theorem qEn{x0 x1 x2 x3 x4 x5 x6 x7:Option T}:pe gl P (.var 8) (x0::x1::x2::x3::x4::x5::x6::x7::some t::l) M=.ok ((t,t.lf),M):=Eq.trans rfl rfl
@[simp high] theorem qEo{x0 x1 x2 x3 x4 x5 x6 x7 x8:Option T}:pe gl P (.var 9) (x0::x1::x2::x3::x4::x5::x6::x7::x8::some t::l) M=.ok ((t,t.lf),M):=Eq.trans rfl rfl
@[simp high] theorem qCy{x0 x1 x2 x3 x4 x5 x6 x7 x8 x9:Option T}:pe gl P (.var 10) (x0::x1::x2::x3::x4::x5::x6::x7::x8::x9::some t::l) M=.ok ((t,t.lf),M):=Eq.trans rfl rfl
@[simp high] theorem qDc{x0 x1 x2 x3 x4 x5 x6 x7 x8 x9 x10:Option T}:pe gl P (.var 11) (x0::x1::x2::x3::x4::x5::x6::x7::x8::x9::x10::some t::l) M=.ok ((t,t.lf),M):=Eq.trans rfl rfl
@[simp high] theorem qDT{x0 x1 x2 x3 x4 x5 x6 x7 x8 x9 x10 x11:Option T}:pe gl P (.var 12) (x0::x1::x2::x3::x4::x5::x6::x7::x8::x9::x10::x11::some t::l) M=.ok ((t,t.lf),M):=Eq.trans rfl rfl
@[simp high] theorem qDC{x0 x1 x2 x3 x4 x5 x6 x7 x8 x9 x10 x11 x12:Option T}:pe gl P (.var 13) (x0::x1::x2::x3::x4::x5::x6::x7::x8::x9::x10::x11::x12::some t::l) M=.ok ((t,t.lf),M):=Eq.trans rfl rfl
@[simp high] theorem qC9{y z:Option T}:(y::l:TS).set 0 z=z::l:=Eq.trans rfl rfl
@[simp high] theorem qDu{x0 y z:Option T}:(x0::y::l:TS).set 1 z=x0::z::l:=Eq.trans rfl rfl
@[simp high] theorem qDH{x0 x1 y z:Option T}:(x0::x1::y::l:TS).set 2 z=x0::x1::z::l:=Eq.trans rfl rfl
@[simp high] theorem qDV{x0 x1 x2 y z:Option T}:(x0::x1::x2::y::l:TS).set 3 z=x0::x1::x2::z::l:=Eq.trans rfl rfl
@[simp high] theorem qDn{x0 x1 x2 x3 y z:Option T}:(x0::x1::x2::x3::y::l:TS).set 4 z=x0::x1::x2::x3::z::l:=Eq.trans rfl rfl
@[simp high] theorem qDX{x0 x1 x2 x3 x4 y z:Option T}:(x0::x1::x2::x3::x4::y::l:TS).set 5 z=x0::x1::x2::x3::x4::z::l:=Eq.trans rfl rfl
@[simp high] theorem qDS{x0 x1 x2 x3 x4 x5 y z:Option T}:(x0::x1::x2::x3::x4::x5::y::l:TS).set 6 z=x0::x1::x2::x3::x4::x5::z::l:=Eq.trans rfl rfl
@[simp high] theorem qDG{x0 x1 x2 x3 x4 x5 x6 y z:Option T}:(x0::x1::x2::x3::x4::x5::x6::y::l:TS).set 7 z=x0::x1::x2::x3::x4::x5::x6::z::l:=Eq.trans rfl rfl
@[simp high] theorem qCz{x0 x1 x2 x3 x4 x5 x6 x7 y z:Option T}:(x0::x1::x2::x3::x4::x5::x6::x7::y::l:TS).set 8 z=x0::x1::x2::x3::x4::x5::x6::x7::z::l:=Eq.trans rfl rfl
@[simp high] theorem qDf{x0 x1 x2 x3 x4 x5 x6 x7 x8 y z:Option T}:(x0::x1::x2::x3::x4::x5::x6::x7::x8::y::l:TS).set 9 z=x0::x1::x2::x3::x4::x5::x6::x7::x8::z::l:=Eq.trans rfl rfl
@[simp high] theorem qCl{x0 x1 x2 x3 x4 x5 x6 x7 x8 x9 y z:Option T}:(x0::x1::x2::x3::x4::x5::x6::x7::x8::x9::y::l:TS).set 10 z=x0::x1::x2::x3::x4::x5::x6::x7::x8::x9::z::l:=Eq.trans rfl rfl
@[simp high] theorem qB5{x0 x1 x2 x3 x4 x5 x6 x7 x8 x9 x10 y z:Option T}:(x0::x1::x2::x3::x4::x5::x6::x7::x8::x9::x10::y::l:TS).set 11 z=x0::x1::x2::x3::x4::x5::x6::x7::x8::x9::x10::z::l:=Eq.trans rfl rfl
@[simp high] theorem qB9{x0 x1 x2 x3 x4 x5 x6 x7 x8 x9 x10 x11 y z:Option T}:(x0::x1::x2::x3::x4::x5::x6::x7::x8::x9::x10::x11::y::l:TS).set 12 z=x0::x1::x2::x3::x4::x5::x6::x7::x8::x9::x10::x11::z::l:=Eq.trans rfl rfl
@[simp high] theorem qB6{x0 x1 x2 x3 x4 x5 x6 x7 x8 x9 x10 x11 x12 y z:Option T}:(x0::x1::x2::x3::x4::x5::x6::x7::x8::x9::x10::x11::x12::y::l:TS).set 13 z=x0::x1::x2::x3::x4::x5::x6::x7::x8::x9::x10::x11::x12::z::l:=Eq.trans rfl rfl
variable{σ:TS}{C:List Nat}{e:E}{i:Nat}
theorem qB7(h:(C.contains i||C.contains (i+1000))=false):px gl P C (.asg (.name i) e) σ M=(pe gl P e σ M).bind λp=>.ok (.nx (σ.set i (some p.1.1)),p.2):=by
 rw[Bool.or_eq_false_iff]at h;rw[y4,h.1,h.2];rfl
@[simp high] theorem qC3:px gl P [] (.asg (.name i) e) σ M=(pe gl P e σ M).bind λp=>.ok (.nx (σ.set i (some p.1.1)),p.2):=qB7 rfl
variable{s:S}{r t0 u0:Ss}{σ':TS}{M':Mem}{c:E}{b:Bool}
theorem qc(e:px gl P C s σ M=.ok (.nx σ',M')):pxs gl P C (.cons s r) σ M=pxs gl P C r σ' M':=by rw[V4,e];rfl
end
end PI
namespace My
open PySem PySem.Spec PyProof.Rows L2 PI
noncomputable def top(i:Nat):Stmt:=PySem.Challenge.pw_healhalves_k66_seals_held.main.body.getD i (.Pass ⟨0,0,0,0⟩)
noncomputable def Tb:Tbl:=⟨[⟨"is_whole",top 8,["thing"],["thing"]⟩,
 ⟨"is_number_below",top 9,["thing","end"],["thing","end"]⟩,
 ⟨"is_rising",top 10,["thing","end"],["thing","end","least","number"]⟩,
 ⟨"length_of",top 11,["size"],["size"]⟩,
 ⟨"is_size",top 12,["thing"],["thing"]⟩,
 ⟨"is_sign",top 14,["thing"],["thing"]⟩,
 ⟨"is_row",top 15,["thing","length"],["thing","length"]⟩,
 ⟨"sum_of",top 16,["signs"],["signs"]⟩,
 ⟨"is_code",top 18,["thing"],["thing","length"]⟩,
 ⟨"check_code",top 19,["code"],["code"]⟩,
 ⟨"check_data",top 20,["code","data"],["code","data"]⟩,
 ⟨"is_seals",top 23,["code","thing"],["code","thing"]⟩,
 ⟨"check_seals",top 24,["code","seals"],["code","seals"]⟩,
 ⟨"last_numbers",top 25,["seals"],["seals"]⟩,
 ⟨"plain_numbers",top 26,["code","seals"],["code","seals"]⟩,
 ⟨"holds",top 27,["code","seals","data"],["code","seals","data"]⟩,
 ⟨"plain_of",top 28,["code","seals","data"],["code","seals","data"]⟩,
 ⟨"_law_bag",top 30,["_law_script","_law_k"],["_law_script","_law_k","_law_cell","_law_great"]⟩,
 ⟨"_law_out",top 31,["_law_bag_here","_law_many"],["_law_bag_here","_law_many","_law_found"]⟩,
 ⟨"_law_code",top 32,["_law_bag_here","_law_most"],["_law_bag_here","_law_most","_law_size","_law_way","_law_free"]⟩,
 ⟨"_law_seals",top 33,["_law_bag_here","_law_many"],["_law_bag_here","_law_many","_law_left","_law_ends","_law_k"]⟩,
 ⟨"_law_holds",top 34,["_law_seals_here","_law_data"],["_law_seals_here","_law_data"]⟩,
 ⟨"_law_left_out",top 35,["_law_many","_law_seals_here"],["_law_many","_law_seals_here","_law_ends"]⟩,
 ⟨"_law_right",top 36,["_law_code_here","_law_seals_here","_law_data"],["_law_code_here","_law_seals_here","_law_data","_law_handed","_law_truth","_law_due","_law_turn","_law_plain"]⟩,
 ⟨"law",top 37,["_law_script"],["_law_script","_law_k","_law_bag_here","_law_code_here","_law_seals_here","_law_data","_law_seal","_law_at","_law_one"]⟩],
 [("LENGTHS",E.glob 0),("GREATEST_SIZE",E.cst (.int 5)),("MOST_SEALS",E.cst (.int 8))],
 ["len","sum","all","max","min","list","int","tuple","range","isinstance","bool","sorted","set","ValueError"],[],[]⟩
noncomputable def gs:List O:=[O.tup [V.int 1,V.int 2,V.int 4,V.int 8,V.int 16,V.int 32]]
end My
namespace My
open PySem PySem.Spec PI
open L2 (V)
noncomputable def b0:Ss:=(.cons (.ret (.and (.isi (.var 0) ["int"]) (.not (.isi (.var 0) ["bool"])))) .nil)
theorem t0:Tb.fns[0]?=some ⟨1,1,b0⟩:=by kernel_rfl
noncomputable def b1:Ss:=(.cons (.ret (.and (.call 0 (.cons (.var 0) .nil)) (.cmp2 .le .lt (nE 0) (.var 0) (.var 1)))) .nil)
theorem t1:Tb.fns[1]?=some ⟨2,2,b1⟩:=by kernel_rfl
noncomputable def qBr:Ss:=(.cons (.ifs (.or (.not (.call 1 (.cons (.var 3) (.cons (.var 1) .nil)))) (.cmp .lt (.var 3) (.var 2))) (.cons (.ret (.cst (V.bl false))) .nil) .nil) (.cons (.asg (.name 2) (.bin .add (.var 3) (nE 1))) .nil))
noncomputable def b2:Ss:=(.cons (.ifs (.not (.isi (.var 0) ["list"])) (.cons (.ret (.cst (V.bl false))) .nil) .nil) (.cons (.asg (.name 2) (nE 0)) (.cons (.for_ (.name 3) (.list (.var 0)) qBr) (.cons (.ret (.cst (V.bl true))) .nil))))
theorem t2:Tb.fns[2]?=some ⟨2,4,b2⟩:=by kernel_rfl
noncomputable def b3:Ss:=(.cons (.ret (.idx (.glob 0) (.var 0))) .nil)
theorem t3:Tb.fns[3]?=some ⟨1,1,b3⟩:=by kernel_rfl
noncomputable def b4:Ss:=(.cons (.ret (.and (.call 0 (.cons (.var 0) .nil)) (.cmp2 .le .le (nE 1) (.var 0) (nE 5)))) .nil)
theorem t4:Tb.fns[4]?=some ⟨1,1,b4⟩:=by kernel_rfl
noncomputable def b5:Ss:=(.cons (.ret (.call 1 (.cons (.var 0) (.cons (nE 2) .nil)))) .nil)
theorem t5:Tb.fns[5]?=some ⟨1,1,b5⟩:=by kernel_rfl
noncomputable def b6:Ss:=(.cons (.ret (.and (.isi (.var 0) ["list"]) (.and (.cmp .eq (.blt .len (.cons (.var 0) .nil)) (.var 1)) (.blt .all (.cons (.comp (.list (.var 0)) [none] (.name 0) .nil (.call 5 (.cons (.var 0) .nil))) .nil))))) .nil)
theorem t6:Tb.fns[6]?=some ⟨2,2,b6⟩:=by kernel_rfl
noncomputable def b7:Ss:=(.cons (.ret (.bin .mod (.blt .sum (.cons (.var 0) .nil)) (nE 2))) .nil)
theorem t7:Tb.fns[7]?=some ⟨1,1,b7⟩:=by kernel_rfl
noncomputable def b8:Ss:=(.cons (.ifs (.or (.not (.isi (.var 0) ["tuple"])) (.or (.cmp .ne (.blt .len (.cons (.var 0) .nil)) (nE 3)) (.not (.call 4 (.cons (.idx (.var 0) (nE 0)) .nil))))) (.cons (.ret (.cst (V.bl false))) .nil) .nil) (.cons (.asg (.name 1) (.call 3 (.cons (.idx (.var 0) (nE 0)) .nil))) (.cons (.ifs (.or (.not (.call 2 (.cons (.idx (.var 0) (nE 1)) (.cons (.var 1) .nil)))) (.cmp .eq (.idx (.var 0) (nE 1)) (.lst .nil))) (.cons (.ret (.cst (V.bl false))) .nil) .nil) (.cons (.ret (.call 6 (.cons (.idx (.var 0) (nE 2)) (.cons (.bin .sub (.var 1) (.blt .len (.cons (.idx (.var 0) (nE 1)) .nil))) .nil)))) .nil))))
theorem t8:Tb.fns[8]?=some ⟨1,2,b8⟩:=by kernel_rfl
noncomputable def b9:Ss:=(.cons (.ifs (.not (.call 8 (.cons (.var 0) .nil))) (.cons .stop .nil) .nil) .nil)
theorem t9:Tb.fns[9]?=some ⟨1,1,b9⟩:=by kernel_rfl
noncomputable def b10:Ss:=(.cons (.ifs (.not (.call 6 (.cons (.var 1) (.cons (.blt .len (.cons (.idx (.var 0) (nE 1)) .nil)) .nil)))) (.cons .stop .nil) .nil) .nil)
theorem t10:Tb.fns[10]?=some ⟨2,2,b10⟩:=by kernel_rfl
noncomputable def b11:Ss:=(.cons (.ifs (.or (.not (.isi (.var 1) ["list"])) (.cmp .gt (.blt .len (.cons (.var 1) .nil)) (nE 8))) (.cons (.ret (.cst (V.bl false))) .nil) .nil) (.cons (.ifs (.not (.blt .all (.cons (.comp (.list (.var 1)) [none,some 0] (.name 0) .nil (.and (.call 2 (.cons (.var 0) (.cons (.blt .len (.cons (.idx (.var 1) (nE 1)) .nil)) .nil))) (.cmp .ne (.var 0) (.lst .nil)))) .nil))) (.cons (.ret (.cst (V.bl false))) .nil) .nil) (.cons (.ret (.cmp .eq (.nset (.call 13 (.cons (.var 1) .nil))) (.blt .len (.cons (.var 1) .nil)))) .nil)))
theorem t11:Tb.fns[11]?=some ⟨2,2,b11⟩:=by kernel_rfl
noncomputable def b12:Ss:=(.cons (.ifs (.not (.call 11 (.cons (.var 0) (.cons (.var 1) .nil)))) (.cons .stop .nil) .nil) .nil)
theorem t12:Tb.fns[12]?=some ⟨2,2,b12⟩:=by kernel_rfl
noncomputable def b13:Ss:=(.cons (.ret (.comp (.list (.var 0)) [none] (.name 0) .nil (.idx (.var 0) (.neg (nE 1))))) .nil)
theorem t13:Tb.fns[13]?=some ⟨1,1,b13⟩:=by kernel_rfl
noncomputable def b14:Ss:=(.cons (.ret (.comp (.rng1 (.blt .len (.cons (.idx (.var 0) (nE 1)) .nil))) [none,some 1] (.name 0) (.cons (.cmp .notin (.var 0) (.call 13 (.cons (.var 1) .nil))) .nil) (.var 0))) .nil)
theorem t14:Tb.fns[14]?=some ⟨2,2,b14⟩:=by kernel_rfl
noncomputable def b15:Ss:=(.cons (.expr (.call 9 (.cons (.var 0) .nil))) (.cons (.expr (.call 12 (.cons (.var 0) (.cons (.var 1) .nil)))) (.cons (.expr (.call 10 (.cons (.var 0) (.cons (.var 2) .nil)))) (.cons (.ret (.blt .all (.cons (.comp (.list (.var 1)) [none,some 2] (.name 0) .nil (.cmp .eq (.call 7 (.cons (.comp (.list (.var 0)) [none,some 1] (.name 0) .nil (.idx (.var 1) (.var 0))) .nil)) (nE 0))) .nil))) .nil))))
theorem t15:Tb.fns[15]?=some ⟨3,3,b15⟩:=by kernel_rfl
noncomputable def b16:Ss:=(.cons (.expr (.call 9 (.cons (.var 0) .nil))) (.cons (.expr (.call 12 (.cons (.var 0) (.cons (.var 1) .nil)))) (.cons (.expr (.call 10 (.cons (.var 0) (.cons (.var 2) .nil)))) (.cons (.ret (.comp (.list (.call 14 (.cons (.var 0) (.cons (.var 1) .nil)))) [none,some 2] (.name 0) .nil (.idx (.var 1) (.var 0)))) .nil))))
theorem t16:Tb.fns[16]?=some ⟨3,3,b16⟩:=by kernel_rfl
noncomputable def b17:Ss:=(.cons (.asg (.name 2) (nE 0)) (.cons (.ifs (.cmp .lt (.var 1) (.blt .len (.cons (.var 0) .nil))) (.cons (.asg (.name 2) (.idx (.var 0) (.var 1))) .nil) .nil) (.cons (.asg (.name 3) (nE 0)) (.cons (.ifs (.cmp .ge (.var 2) (.bin .pow (nE 10) (nE 18))) (.cons (.asg (.name 3) (.var 2)) .nil) .nil) (.cons (.ret (.lst (.cons (.var 3) (.cons (.bin .mod (.bin .pow (.bin .add (.bin .add (.bin .mod (.var 2) (nE 998244353)) (.bin .mul (nE 7368787) (.var 1))) (nE 17)) (nE 3)) (nE 2147483629)) .nil)))) .nil)))))
theorem t17:Tb.fns[17]?=some ⟨2,4,b17⟩:=by kernel_rfl
noncomputable def b18:Ss:=(.cons (.ifs (.cmp .gt (.idx (.var 0) (nE 0)) (nE 0)) (.cons (.asg (.name 2) (.bin .mod (.idx (.var 0) (nE 0)) (.var 1))) (.cons (.put (.var 0) (nE 0) (.bin .fdiv (.idx (.var 0) (nE 0)) (.var 1))) (.cons (.ret (.var 2)) .nil))) .nil) (.cons (.put (.var 0) (nE 1) (.bin .mod (.bin .add (.bin .mul (.idx (.var 0) (nE 1)) (nE 40692)) (nE 12345)) (nE 2147483399))) (.cons (.ret (.bin .mod (.bin .fdiv (.bin .mod (.bin .mul (.idx (.var 0) (nE 1)) (.bin .add (.bin .fdiv (.idx (.var 0) (nE 1)) (nE 1024)) (nE 7))) (nE 2147483647)) (nE 32)) (.var 1))) .nil)))
theorem t18:Tb.fns[18]?=some ⟨2,3,b18⟩:=by kernel_rfl
noncomputable def b19:Ss:=(.cons (.asg (.name 2) (.bin .add (nE 1) (.call 18 (.cons (.var 0) (.cons (.var 1) .nil))))) (.cons (.asg (.name 3) (.call 18 (.cons (.var 0) (.cons (nE 6) .nil)))) (.cons (.asg (.name 4) (.comp (.rng1 (.bin .shl (nE 1) (.var 2))) [none,some 0,some 3] (.name 0) (.cons (.or (.cmp .eq (.var 2) (nE 0)) (.cmp .eq (.call 18 (.cons (.var 1) (.cons (.bin .add (nE 1) (.var 2)) .nil))) (nE 0))) .nil) (.var 0))) (.cons (.ifs (.cmp .eq (.var 4) (.lst .nil)) (.cons (.asg (.name 4) (.lst (.cons (.call 18 (.cons (.var 0) (.cons (.bin .shl (nE 1) (.var 2)) .nil))) .nil))) .nil) .nil) (.cons (.ret (.tup (.cons (.var 2) (.cons (.var 4) (.cons (.comp (.rng1 (.bin .sub (.bin .shl (nE 1) (.var 2)) (.blt .len (.cons (.var 4) .nil)))) [none,some 0,some 3] (.name 0) .nil (.bin .mul (.call 18 (.cons (.var 1) (.cons (nE 2) .nil))) (.blt .int (.cons (.cmp .ne (.var 2) (nE 5)) .nil)))) .nil))))) .nil)))))
theorem t19:Tb.fns[19]?=some ⟨2,5,b19⟩:=by kernel_rfl
noncomputable def G1:Ss:=(.cons (.expr (.app (.var 3) (.meth .popAt (.var 2) (.cons (.call 18 (.cons (.var 0) (.cons (.blt .len (.cons (.var 2) .nil)) .nil))) .nil)))) .nil)
noncomputable def b20:Ss:=(.cons (.asg (.name 2) (.lrng (.var 1))) (.cons (.asg (.name 3) (.lst .nil)) (.cons (.for_ (.name 4) (.rng1 (.blt .min (.cons (nE 8) (.cons (.call 18 (.cons (.var 0) (.cons (.blt .min (.cons (nE 9) (.cons (.bin .add (.var 1) (nE 1)) .nil))) .nil))) .nil)))) G1) (.cons (.ret (.comp (.list (.var 3)) [none,some 0] (.name 0) .nil (.bin .add (.comp (.rng1 (.var 0)) [none,some 1] (.name 0) (.cons (.cmp .eq (.call 18 (.cons (.var 1) (.cons (nE 2) .nil))) (nE 1)) .nil) (.var 0)) (.lst (.cons (.var 0) .nil))))) .nil))))
theorem t20:Tb.fns[20]?=some ⟨2,5,b20⟩:=by kernel_rfl
noncomputable def b21:Ss:=(.cons (.ret (.cmp .eq (.comp (.list (.var 0)) [none,some 1] (.name 0) (.cons (.cmp .eq (.bin .mod (.blt .sum (.cons (.comp (.list (.var 0)) [none,some 1] (.name 0) .nil (.idx (.var 1) (.var 0))) .nil)) (nE 2)) (nE 1)) .nil) (.var 0)) (.lst .nil))) .nil)
theorem t21:Tb.fns[21]?=some ⟨2,2,b21⟩:=by kernel_rfl
noncomputable def b22:Ss:=(.cons (.asg (.name 2) (.comp (.list (.var 1)) [none] (.name 0) .nil (.idx (.var 0) (.neg (nE 1))))) (.cons (.ret (.comp (.rng1 (.var 0)) [none,some 2] (.name 0) (.cons (.cmp .notin (.var 0) (.var 1)) .nil) (.var 0))) .nil))
theorem t22:Tb.fns[22]?=some ⟨2,3,b22⟩:=by kernel_rfl
noncomputable def O4:Ss:=(.cons (.asg (.name 7) (.call 16 (.cons (.idx (.var 3) (nE 0)) (.cons (.idx (.var 3) (nE 1)) (.cons (.idx (.var 3) (nE 2)) .nil))))) (.cons (.ifs (.or (.not (.isi (.var 7) ["list"])) (.cmp .ne (.var 7) (.var 5))) (.cons (.ret (.cst (V.bl false))) .nil) .nil) (.cons (.expr (.app (.var 7) (nE 0))) .nil)))
noncomputable def b23:Ss:=(.cons (.asg (.name 3) (.lst (.cons (.tup (.cons (.idx (.var 0) (nE 0)) (.cons (.blt .list (.cons (.idx (.var 0) (nE 1)) .nil)) (.cons (.blt .list (.cons (.idx (.var 0) (nE 2)) .nil)) .nil)))) (.cons (.comp (.list (.var 1)) [none] (.name 0) .nil (.blt .list (.cons (.var 0) .nil))) (.cons (.blt .list (.cons (.var 2) .nil)) .nil))))) (.cons (.asg (.name 4) (.call 15 (.cons (.idx (.var 3) (nE 0)) (.cons (.idx (.var 3) (nE 1)) (.cons (.idx (.var 3) (nE 2)) .nil))))) (.cons (.asg (.name 5) (.comp (.list (.call 22 (.cons (.blt .len (.cons (.var 2) .nil)) (.cons (.var 1) .nil)))) [none,some 2] (.name 0) .nil (.idx (.var 1) (.var 0)))) (.cons (.ifs (.or (.not (.isi (.var 4) ["bool"])) (.cmp .ne (.var 4) (.call 21 (.cons (.var 1) (.cons (.var 2) .nil))))) (.cons (.ret (.cst (V.bl false))) .nil) .nil) (.cons (.for_ (.name 6) (.rng1 (nE 2)) O4) (.cons (.ret (.cmp .eq (.var 3) (.lst (.cons (.var 0) (.cons (.var 1) (.cons (.var 2) .nil)))))) .nil))))))
theorem t23:Tb.fns[23]?=some ⟨3,8,b23⟩:=by kernel_rfl
noncomputable def M0:Ss:=(.cons (.ifs (.not (.call 23 (.cons (.var 3) (.cons (.var 4) (.cons (.var 8) .nil))))) (.cons (.ret (.cst (V.bl false))) .nil) .nil) .nil)
noncomputable def O1:Ss:=(.cons (.put (.var 5) (.idx (.var 6) (.neg (nE 1))) (.bin .mod (.blt .sum (.cons (.comp (.list (.sl (.var 6) .nil (.cons (.neg (nE 1)) .nil))) [none,some 5] (.name 0) .nil (.idx (.var 1) (.var 0))) .nil)) (nE 2))) .nil)
noncomputable def U7:Ss:=(.cons (.asg (.name 2) (.call 17 (.cons (.var 0) (.cons (.var 1) .nil)))) (.cons (.asg (.name 3) (.call 19 (.cons (.var 2) (.cons (nE 5) .nil)))) (.cons (.asg (.name 4) (.call 20 (.cons (.var 2) (.cons (.blt .len (.cons (.idx (.var 3) (nE 1)) .nil)) .nil)))) (.cons (.asg (.name 5) (.comp (.list (.idx (.var 3) (nE 1))) [none,some 2] (.name 0) .nil (.call 18 (.cons (.var 1) (.cons (nE 2) .nil))))) (.cons (.ifs (.cmp .eq (.call 18 (.cons (.var 2) (.cons (nE 2) .nil))) (nE 1)) (.cons (.for_ (.name 6) (.list (.srtm (.var 4))) O1) .nil) .nil) (.cons (.asg (.name 7) (.call 18 (.cons (.var 2) (.cons (.blt .len (.cons (.var 5) .nil)) .nil)))) (.cons (.for_ (.name 8) (.list (.lst (.cons (.var 5) (.cons (.bin .add (.bin .add (.sl (.var 5) .nil (.cons (.var 7) .nil)) (.lst (.cons (.bin .sub (nE 1) (.idx (.var 5) (.var 7))) .nil))) (.sl (.var 5) (.cons (.bin .add (.var 7) (nE 1)) .nil) .nil)) (.cons (.var 5) .nil))))) M0) .nil)))))))
noncomputable def b24:Ss:=(.cons (.for_ (.name 1) (.rng1 (.blt .max (.cons (nE 1) (.cons (.blt .min (.cons (.blt .len (.cons (.var 0) .nil)) (.cons (nE 30) .nil))) .nil)))) U7) (.cons (.ret (.cst (V.bl true))) .nil))
theorem t24:Tb.fns[24]?=some ⟨1,9,b24⟩:=by kernel_rfl
noncomputable def Cs:List (List Nat):=[[],[],[],[],[],[],[],[],[],[],[],[],[],[],[],[],[],[],[],[],[2,3],[],[],[7],[2,5]]
theorem gl0:(glT gs)[0]?=some (.tup [N 1,N 2,N 4,N 8,N 16,N 32]):=rfl
section
variable{k:Nat}
noncomputable abbrev I(x:Int):T:=.v (.int x)
noncomputable def stT(g s:Nat):List T:=[N g,N s]
def J5(M:Mem)(n:Nat):Prop:=∃g s,M[n]?=some (stT g s)/\s<2147483648
structure Kept(n:Nat)(M M':Mem):Prop where
 good:J5 M' n
 len:M'.length=M.length
 oth:∀j,j≠n->M'[j]?=M[j]?
theorem Kept.trans{n:Nat}{A B C:Mem}(x:Kept n A B)(y:Kept n B C):Kept n A C:=⟨y.good,y.len.trans x.len,λj hj=>(y.oth j hj).trans (x.oth j hj)⟩
theorem qER(hk:1<=k){M:Mem}{n m g s:Nat}(hm:0<m/\m<=1000000)(hg:0<g)(e:M[n]?=some [N g,N s])(e':∀y,(M.set n y)[n]?=some y):
  Pk (glT gs) Tb.fns Cs k 18 [.cell n,N m] M=.ok ((N (g % m),true),M.set n [N (g / m),N s]):=by
 rw[qW t18 ⟨rfl,by decide⟩ hk,b18,show Cs.getD 18 []=[] from rfl];simp(disch:=omega) [je,JP,e,e',hg];rw[qG (by simp)]
theorem qD6(hk:1<=k){M:Mem}{n m s:Nat}(hm:0<m/\m<=1000000)(e:M[n]?=some [N 0,N s])(e':∀y,(M.set n y)[n]?=some y){s':Nat}(hs':(s*40692+12345) % 2147483399=s')(hq:s'<2147483399):
  Pk (glT gs) Tb.fns Cs k 18 [.cell n,N m] M=.ok ((N (s' * (s' / 1024+7) % 2147483647 / 32 % m),true),M.set n [N 0,N s']):=by
 rw[qW t18 ⟨rfl,by decide⟩ hk,b18,show Cs.getD 18 []=[] from rfl];have ml1:∀{M:Mem}(x:Nat),qv M .mul (N x) (N 40692)=some (N (x*40692),true):=λ{M} x=>B8 (.inr (by decide));have ml3:∀{M:Mem}(y:Nat),qv M .mul (N s') (N y)=some (N (s' * y),true):=λ{M} y=>B8 (.inl (wW hq (by decide)));have md1:∀{M:Mem}(x:Nat),qv M .mod (N x) (N 2147483399)=some (N (x % 2147483399),true):=λ{M} x=>je (by decide);have md2:∀{M:Mem}(x:Nat),qv M .mod (N x) (N 2147483647)=some (N (x % 2147483647),true):=λ{M} x=>je (by decide);have md3:∀{M:Mem}(x:Nat),qv M .mod (N x) (N m)=some (N (x % m),true):=λ{M} x=>je hm.1;have fd1:∀{M:Mem}(x:Nat),qv M .fdiv (N x) (N 1024)=some (N (x / 1024),true):=λ{M} x=>JP (by decide);have fd2:∀{M:Mem}(x:Nat),qv M .fdiv (N x) (N 32)=some (N (x / 32),true):=λ{M} x=>JP (by decide);simp[hs',ml1,ml3,md1,md2,md3,fd1,fd2,e,e'];rw[qG (by simp)]
theorem out(hk:1<=k){M:Mem}{n m:Nat}(g:J5 M n)(hm:0<m/\m<=1000000):∃d M',Pk (glT gs) Tb.fns Cs k 18 [.cell n,N m] M=.ok ((N d,true),M')/\d<m/\Kept n M M':=by
 obtain⟨a,s,e,hb⟩:=g;have hn:n<M.length:=(List.getElem?_eq_some_iff.mp e).1;have e':∀y,(M.set n y)[n]?=some y:=λy=>wP hn;rcases Nat.eq_zero_or_pos a with rfl|hp
 ·have hq:(s*40692+12345) % 2147483399<2147483399:=Nat.mod_lt _ (by decide);exact⟨_,_,qD6 hk hm e e' rfl hq,Nat.mod_lt _ hm.1,⟨⟨0,_,e' _,wW hq (by decide)⟩,by simp,λj hj=>by rw[wI (Ne.symm hj)]⟩⟩
 ·exact⟨_,_,qER hk hm hp e e',Nat.mod_lt _ hm.1,⟨⟨a / m,s,e' _,hb⟩,by simp,λj hj=>by rw[wI (Ne.symm hj)]⟩⟩
theorem qCr{M:Mem}:qv M .pow (N 10) (N 18)=some (N 1000000000000000000,true):=by rw[qBe (by decide)]
theorem qDo(hk:1<=k){S:List T}{kk:Nat}(hkk:kk<=63)(M:Mem){cl:Int}(hc:(kk<S.length/\S[kk]?=some (I cl))\/(S.length<=kk/\cl=0)):∃g s,Pk (glT gs) Tb.fns Cs k 17 [.fz S,N kk] M=.ok ((.lst (stT g s),true),M)/\s<2147483648:=by
 obtain⟨c,hcc⟩:∃c:Nat,cl % 998244353=(c:Int):=⟨(cl % 998244353).toNat,by omega⟩
 have cb:c<998244353:=by omega
 have md:∀{M:Mem},qv M .mod (I cl) (N 998244353)=some (N c,true):=λ{M}=>by
  show qv M .mod (.v (.int cl)) (.v (.int 998244353))=_;rw[Z1 (by decide)];unfold iT;rw[hcc];rfl
 have m1:∀{M:Mem},qv M .mul (N 7368787) (N kk)=some (N (7368787*kk),true):=λ{M}=>B8 (.inl (by decide));have pw:∀{M:Mem},qv M .pow (N (c+7368787*kk+17)) (N 3)=some (N ((c+7368787*kk+17) ^ 3),true):=λ{M}=>by
  unfold N;rw[f9 (by omega)];unfold iT;simp
 have md2:∀{M:Mem}(x:Nat),qv M .mod (N x) (N 2147483629)=some (N (x % 2147483629),true):=λ{M} x=>je (by decide);have hs:(c+7368787*kk+17) ^ 3 % 2147483629<2147483648:=wW (Nat.mod_lt _ (by decide)) (by decide);generalize (c+7368787*kk+17) ^ 3=q at pw hs;have ge:∀{M:Mem},zN M .ge (I cl) (N 1000000000000000000)=some (decide (1000000000000000000<=cl)):=λ{M}=>rfl;by_cases hg:(1000000000000000000:Int)<=cl
 ·obtain⟨gn,rfl⟩:∃gn:Nat,cl=(gn:Int):=⟨cl.toNat,by omega⟩
  refine⟨gn,q % 2147483629,?_,hs⟩;rw[wz hg]at ge;rcases hc with⟨h1,h2⟩|⟨h1,h2⟩
  ·have ix:∀{M:Mem},jO M (.fz S) (N kk)=some (I gn,true):=λ{M}=>by
    show ((some S).bind λxs=>(L2.ixN xs.length (kk:Int)).bind λj=>(xs[j]?).map λt=>(t,t.lf))=_;rw[Option.bind_some];unfold L2.ixN;rw[if_pos (by omega),if_pos (by omega),Option.bind_some,wk,h2];rfl
   rw[qW t17 ⟨rfl,by decide⟩ hk,b17,show Cs.getD 17 []=[] from rfl];simp[h1,ix,qCr,ge,md,m1,pw,md2,lim,stT];rw[qG rfl];rfl
  ·omega
 ·rw[wy hg]at ge;refine⟨0,q % 2147483629,?_,hs⟩;rcases hc with⟨h1,h2⟩|⟨h1,h2⟩
  ·have ix:∀{M:Mem},jO M (.fz S) (N kk)=some (I cl,true):=λ{M}=>by
    show ((some S).bind λxs=>(L2.ixN xs.length (kk:Int)).bind λj=>(xs[j]?).map λt=>(t,t.lf))=_;rw[Option.bind_some];unfold L2.ixN;rw[if_pos (by omega),if_pos (by omega),Option.bind_some,wk,h2];rfl
   rw[qW t17 ⟨rfl,by decide⟩ hk,b17,show Cs.getD 17 []=[] from rfl];simp[h1,ix,qCr,ge,md,m1,pw,md2,lim,stT];rw[qG rfl]
  ·subst h2;have h1':¬ kk<S.length:=by omega
   rw[show I 0=N 0 from rfl]at md ge;have ge:∀{M:Mem},zN M .ge (N 0) (N 1000000000000000000)=some false:=λ{M}=>ge;have md:∀{M:Mem},qv M .mod (N 0) (N 998244353)=some (N c,true):=λ{M}=>md;rw[qW t17 ⟨rfl,by decide⟩ hk,b17,show Cs.getD 17 []=[] from rfl];simp[h1',qCr,ge,md,m1,pw,md2,lim,stT,-qB3];rw[qG rfl]
theorem bag(hk:1<=k)(ns:List Int){kk:Nat}(hkk:kk<=63)(M:Mem):∃g s,Pk (glT gs) Tb.fns Cs k 17 [.fz (ns.map λn=>.v (.int n)),N kk] M=.ok ((.lst (stT g s),true),M)/\s<2147483648:=by
 by_cases h:kk<ns.length
 ·exact qDo hk hkk M (cl:=ns[kk]) (.inl ⟨by simpa using h,by rw[wQ,wA h];rfl⟩)
 ·exact qDo hk hkk M (cl:=0) (.inr ⟨by simp;omega,rfl⟩)
end
section
variable{k:Nat}
theorem p5{s:Nat}(h:s<=5):2 ^ s<=32:=Nat.le_trans (Nat.pow_le_pow_right (by decide) h) (by decide)
theorem f0(hk:1<=k)(i:Nat)(M:Mem):Pk (glT gs) Tb.fns Cs k 0 [N i] M=.ok (bT true,M):=by
 rw[qW t0 ⟨rfl,by decide⟩ hk];simp[b0,zp,qG]
theorem f1(hk:2<=k)(i e:Nat)(M:Mem):Pk (glT gs) Tb.fns Cs k 1 [N i,N e] M=.ok (bT (decide (i<e)),M):=by
 rw[qW t1 ⟨rfl,by decide⟩ (by omega)];simp(disch:=omega) [b1,f0,qG]
theorem f3(hk:1<=k){s:Nat}(hs:s<=5)(M:Mem):Pk (glT gs) Tb.fns Cs k 3 [N s] M=.ok ((N (2 ^ s),true),M):=by
 rw[qW t3 ⟨rfl,by decide⟩ hk];have:s=0\/s=1\/s=2\/s=3\/s=4\/s=5:=by omega
 rcases this with rfl|rfl|rfl|rfl|rfl|rfl<;>simp[b3,gl0,qG]
theorem f4(hk:2<=k){s:Nat}(h1:1<=s)(hs:s<=5)(M:Mem):Pk (glT gs) Tb.fns Cs k 4 [N s] M=.ok (bT true,M):=by
 rw[qW t4 ⟨rfl,by decide⟩ (by omega)];simp(disch:=omega) [b4,f0,h1,hs,qG]
theorem f5(hk:3<=k)(i:Nat)(M:Mem):Pk (glT gs) Tb.fns Cs k 5 [N i] M=.ok (bT (decide (i<2)),M):=by
 rw[qW t5 ⟨rfl,by decide⟩ (by omega)];simp(disch:=omega) [b5,f1,qG]
theorem f6(hk:4<=k){M:Mem}{t:T}{L:List Nat}(h:IsL M t L)(hl:L.length<=1000)(m:Nat):Pk (glT gs) Tb.fns Cs k 6 [t,N m] M=.ok (bT (decide (L.length=m)&&L.all λx=>decide (x<2)),M):=by
 rw[qW t6 ⟨rfl,by decide⟩ (by omega),b6];obtain⟨d,s1,_,s2⟩:=h.src;have c:=JA (d:=d) (c:=pec (glT gs) (Pk (glT gs) Tb.fns Cs (k-1)) .nil) (e:=pe (glT gs) (Pk (glT gs) Tb.fns Cs (k-1)) (.call 5 (.cons (.var 0) .nil))) (M:=M) (σ:=[]) (λ_=>true) (λx=>.v (.bl (decide (x<2)))) (λ_=>true) L [] true none s2 (by simp[lim];omega) (λx _=>by simp) (λx _ _=>by simp(disch:=omega) [f5,bT]);rw[ja,List.nil_append]at c;by_cases hm:L.length=m
 ·simp[h.ty,zp,h.len,hm,s1,c,l7,qG]
 ·simp[h.ty,zp,h.len,hm,qG]
theorem slm{M:Mem}{t:T}{L:List Nat}(h:IsL M t L)(xs:List T)(lo hi:Option Int):R7 t xs lo hi=some (lT (Qt xs lo hi)):=by
 cases t with
 |tup ts=>exact absurd h.ty (by show some "tuple"≠some "list";decide)
 |_=>rfl
end
section
variable{k:Nat}
theorem Kept.refl{n:Nat}{M:Mem}(g:J5 M n):Kept n M M:=⟨g,rfl,λ_ _=>rfl⟩
theorem qD7(hk:2<=k){M:Mem}{n:Nat}(g:J5 M n):∃s F G f M',Pk (glT gs) Tb.fns Cs k 19 [.cell n,N 5] M=.ok ((.tup [N s,NL F,NL G],f),M')/\Kept n M M'/\(1<=s/\s<=5)/\F≠[]/\(∀x∈F,x<2 ^ s)/\F.Pairwise (·<·)/\F.length+G.length=2 ^ s/\∀x∈G,x<2:=by
 rw[qW t19 ⟨rfl,by decide⟩ (by omega),b19,show Cs.getD 19 []=[] from rfl];obtain⟨d,M1,e1,hd,k1⟩:=out (k:=k-1) (by omega) g (m:=5) (by omega);obtain⟨w,M2,e2,hw,k2⟩:=out (k:=k-1) (by omega) k1.good (m:=6) (by omega);have pe5:2 ^ (1+d)<=32:=Nat.pow_le_pow_right (n:=2) (by decide) (show 1+d<=5 by omega);have pp:0<2 ^ (1+d):=Nat.two_pow_pos _;have sh:∀{M:Mem},qv M .shl (N 1) (N (1+d))=some (N (2 ^ (1+d)),true):=λ{M}=>by rw[qBB (by omega),Nat.one_mul]
 obtain⟨q,M3,e3,k3,_⟩:=Qv (I:=Kept n M2) (R:=λ_ _=>True) (σ:=[some (.cell n),some (N w)]) (c:=pec (glT gs) (Pk (glT gs) Tb.fns Cs (k-1)) (.cons (.or (.cmp .eq (.var 2) (nE 0)) (.cmp .eq (.call 18 (.cons (.var 1) (.cons (.bin .add (nE 1) (.var 2)) .nil))) (nE 0))) .nil)) (e:=pe (glT gs) (Pk (glT gs) Tb.fns Cs (k-1)) (.var 0)) (List.range (2 ^ (1+d))) [] true none M2 List.nodup_range (by simp[lim];omega) (Kept.refl k2.good) (λx _ M' hI=>by
  by_cases hw0:w=0
  ·exact⟨true,M',by simp[hw0],hI,trivial⟩
  ·obtain⟨z,M4,e4,hz,k4⟩:=out (k:=k-1) (by omega) hI.good (m:=1+w) (by omega);exact⟨decide (z=0),M4,by simp[hw0,e4],hI.trans k4,trivial⟩) (λx _ M' _=>by simp)
 rw[List.map_nil,List.nil_append]at e3;have rg:qAI (N (2 ^ (1+d)))=some ((List.range (2 ^ (1+d))).map N):=jE (by omega);have last:∀(F:List Nat) (M4:Mem),Kept n M3 M4->F.length<=2 ^ (1+d)->∃G M5,qQ [] (.name 0) (pec (glT gs) (Pk (glT gs) Tb.fns Cs (k-1)) .nil) (pe (glT gs) (Pk (glT gs) Tb.fns Cs (k-1)) (.bin .mul (.call 18 (.cons (.var 1) (.cons (nE 2) .nil))) (.blt .int (.cons (.cmp .ne (.var 2) (nE 5)) .nil)))) ((List.range (2 ^ (1+d)-F.length)).map N) [] true [none,some (.cell n),some (N w)] M4=.ok ((NL G,true),M5)/\Kept n M3 M5/\G.length=2 ^ (1+d)-F.length/\∀y∈G,y<2:=λF M4 k4 hF=>by
  obtain⟨G,M5,e5,k5,l5,r5⟩:=Qk (gl:=glT gs) (P:=Pk (glT gs) Tb.fns Cs (k-1)) (e:=pe (glT gs) (Pk (glT gs) Tb.fns Cs (k-1)) (.bin .mul (.call 18 (.cons (.var 1) (.cons (nE 2) .nil))) (.blt .int (.cons (.cmp .ne (.var 2) (nE 5)) .nil)))) (σ:=[some (.cell n),some (N w)]) (I:=Kept n M3) (R:=λy=>y<2) (List.range (2 ^ (1+d)-F.length)) [] true none M4 (by simp[lim];omega) k4 (λx _ M' hI=>by
   obtain⟨z,M6,e6,hz,k6⟩:=out (k:=k-1) (by omega) hI.good (m:=2) (by omega);have ml:∀{M:Mem}(y:Nat),qv M .mul (N z) (N y)=some (N (z*y),true):=λ{M} y=>B8 (.inl (by omega));refine⟨z*(!decide (w=5)).toNat,M6,?_,hI.trans k6,?_⟩
   ·simp[e6,ml]
   ·cases decide (w=5)<;>simp<;>omega)
  rw[List.nil_append]at e5;exact⟨G,M5,e5,k5,by rw[l5];simp,r5⟩
 have sb:∀{M:Mem}(F:List Nat),F.length<=2 ^ (1+d)->qv M .sub (N (2 ^ (1+d))) (N F.length)=some (N (2 ^ (1+d)-F.length),true):=λ{M} F h=>Je h;have eqe:∀{M:Mem}(F:List Nat),zN M .eq (NL F) (.lst [])=some (decide (F=[])):=λ{M} F=>by cases F<;>rfl
 have kk:Kept n M M3:=(k1.trans k2).trans k3;have m0:M3.length=M.length:=kk.len;by_cases hF:(List.range (2 ^ (1+d))).filter q=[]
 ·rw[hF]at e3;obtain⟨z,M4,e4,hz,k4⟩:=out (k:=k-1) (by omega) kk.good (m:=2 ^ (1+d)) (by omega);obtain⟨G,M5,e5,k5,l5,r5⟩:=last [z] M4 k4 (by show 1<=_;exact pp);have sb1:∀{M:Mem},qv M .sub (N (2 ^ (1+d))) (N 1)=some (N (2 ^ (1+d)-1),true):=λ{M}=>Je pp;have rg2:qAI (N (2 ^ (1+d)-1))=some ((List.range (2 ^ (1+d)-1)).map N):=jE (by omega);have n1:T.lst [N z]=NL [z]:=rfl;have e5':=e5;rw[show ([z]:List Nat).length=1 from rfl]at e5';refine⟨1+d,[z],G,false,M5,?_,kk.trans k5,by omega,by simp,by simpa using hz,by simp,by rw[l5];simp;omega,r5⟩;simp[e1,e2,sh,rg,e3,eqe,lim,e4,sb1,rg2,e5',n1,qAk];rw[qG (by rw[k5.len,m0])]
 ·have hl:((List.range (2 ^ (1+d))).filter q).length<=2 ^ (1+d):=by
   have:=wZ q (List.range (2 ^ (1+d)));simpa using this
  obtain⟨G,M5,e5,k5,l5,r5⟩:=last ((List.range (2 ^ (1+d))).filter q) M3 (Kept.refl kk.good) hl;refine⟨1+d,(List.range (2 ^ (1+d))).filter q,G,false,M5,?_,kk.trans k5,by omega,hF,λx hx=>by have:=(wo.mp hx).1;simpa using this,List.Pairwise.filter _ List.pairwise_lt_range,by rw[l5];omega,r5⟩;generalize (List.range (2 ^ (1+d))).filter q=F at *;have rg2:qAI (N (2 ^ (1+d)-F.length))=some ((List.range (2 ^ (1+d)-F.length)).map N):=jE (by omega);simp[e1,e2,sh,rg,e3,eqe,lim,hF,sb F hl,rg2,e5,qAk];rw[qG (by rw[k5.len,m0])]
end
end My
namespace My
open PySem PySem.Spec PI
open L2 (V)
def Il(M:Mem)(t:T)(L:List Nat):Prop:=t=NL L\/∃n,t=.cell n/\M[n]?=some (L.map N)
theorem Il.nl(M:Mem)(L:List Nat):Il M (NL L) L:=.inl rfl
theorem Il.isl{M:Mem}{t:T}{L:List Nat}(h:Il M t L):IsL M t L:=by
 rcases h with rfl|⟨n,rfl,e⟩
 ·exact IsL.nl M L
 ·exact IsL.cell e
theorem Il.app{M C:Mem}{t:T}{L:List Nat}(h:Il M t L):Il (M++C) t L:=by
 rcases h with rfl|⟨n,rfl,e⟩
 ·exact .inl rfl
 ·exact .inr ⟨n,rfl,by rw[List.getElem?_append_left (List.getElem?_eq_some_iff.mp e).1];exact e⟩
theorem Il.lf{M:Mem}{t:T}{L:List Nat}(h:Il M t L):t.lf=false:=by
 rcases h with rfl|⟨n,rfl,e⟩
 ·unfold NL;simp
 ·simp
theorem y6{d:QB}{i:Nat}{f:TS->Mem->RSt}{x:T}{r:List T}{σ σ2:TS}{M:Mem}(hd:qd d M=true)(h:f (σ.set i (some x)) M=.ok (.nx σ2,M)):zC d (.name i) f (x::r) σ M=zC d (.name i) f r σ2 M:=by
 show PR.bind (f (σ.set i (some x)) M) _=_;rw[h,PR.bind_ok];dsimp only;rw[if_pos hd]
theorem Zj{M:Mem}{t:T}{L:List Nat}(h:IsL M t L)(n:Nat):zN M .notin (N n) t=some (!decide (n∈L)):=by
 have a:zN M .notin (N n) t=zN M .notin (N n) (NL L):=by
  have d1:t.dct=none:=by
   cases t with
   |ob o=>have:=h.its;cases this
   |_=>rfl
  show (inT M (N n) t).map _=(inT M (N n) (NL L)).map _;unfold inT;rw[d1,show (NL L).dct=none from rfl,h.its];rfl
 rw[a,u7]
def Ris(lo hi:Nat):List Nat->Prop
 | []=>True
 |x::L=>lo<=x/\x<hi/\Ris (x+1) hi L
theorem P0:∀{L:List Nat}{lo n:Nat},L.Pairwise (·<·)->(∀x∈L,lo<=x/\x<n)->Ris lo n L
 | [],_,_,_,_=>trivial
 |x::L,lo,n,h,hb=>by
  obtain⟨a,b⟩:=wY.mp h;have hx:=hb x (List.mem_cons_self ..);exact⟨hx.1,hx.2,P0 b λy hy=>⟨a y hy,(hb y (List.mem_cons_of_mem _ hy)).2⟩⟩
structure Cde(s:Nat)(F X:List Nat):Prop where
 s1:1<=s
 s5:s<=5
 ne:F≠[]
 lt:∀x∈F,x<2 ^ s
 up:F.Pairwise (·<·)
 len:F.length+X.length=2 ^ s
 sg:∀x∈X,x<2
theorem Cde.nd{s:Nat}{F X:List Nat}(h:Cde s F X):F.Nodup:=h.up.imp λz e=>by omega
theorem Cde.n5{s:Nat}{F X:List Nat}(h:Cde s F X):2 ^ s<=32:=p5 h.s5
noncomputable abbrev cdt(s:Nat)(t1 t2:T):T:=.tup [N s,t1,t2]
section
variable{k:Nat}
theorem f2L(hk:2<=k){M:Mem}{t:T}{d:QB}(hd:qd d M=true):∀(L:List Nat) (lo n:Nat) (o:Option T),Ris lo n L->∃σ',zC d (.name 3) (pxs (glT gs) (Pk (glT gs) Tb.fns Cs k) [] qBr) (L.map N) [some t,some (N n),some (N lo),o] M=.ok (.nx σ',M)
 | [],lo,n,o,_=>⟨_,rfl⟩
 |x::L,lo,n,o,h=>by
  obtain⟨σ',e⟩:=f2L hk hd (t:=t) L (x+1) n (some (N x)) h.2.2;refine⟨σ',?_⟩;have e1:=f1 (k:=k) hk x n M;rw[wz h.2.1]at e1;have lt:zN M .lt (N x) (N lo)=some false:=by rw[qBT,wy (by have:=h.1;omega)]
  have body:pxs (glT gs) (Pk (glT gs) Tb.fns Cs k) [] qBr [some t,some (N n),some (N lo),some (N x)] M=.ok (.nx [some t,some (N n),some (N (x+1)),some (N x)],M):=by
   rw[qBr];simp[e1,lt,-qBT,bT]
  rw[List.map_cons,y6 hd (σ2:=[some t,some (N n),some (N (x+1)),some (N x)]) body];exact e
theorem d9(hk:3<=k){M:Mem}{t:T}{L:List Nat}(h:IsL M t L){n:Nat}(hr:Ris 0 n L):Pk (glT gs) Tb.fns Cs k 2 [t,N n] M=.ok (bT true,M):=by
 rw[qW t2 ⟨rfl,by decide⟩ (by omega),b2,show Cs.getD 2 []=[] from rfl];obtain⟨d,s1,s2,hd⟩:=h.src;obtain⟨σ',e⟩:=f2L (k:=k-1) (by omega) hd (t:=t) L 0 n none hr;have ty:=h.ty;simp[zp,ty,s1,e,qG]
theorem l0(hk:5<=k){M:Mem}{s:Nat}{t1 t2:T}{F X:List Nat}(c:Cde s F X)(h1:Il M t1 F)(h2:Il M t2 X):Pk (glT gs) Tb.fns Cs k 8 [cdt s t1 t2] M=.ok (bT true,M):=by
 have n5:=c.n5;rw[qW t8 ⟨rfl,by decide⟩ (by omega),b8,show Cs.getD 8 []=[] from rfl];have l:=c.len;have e4:=f4 (k:=k-1) (by omega) c.s1 c.s5 M;have e3:=f3 (k:=k-1) (by omega) c.s5 M;have e2:=d9 (k:=k-1) (by omega) h1.isl (P0 c.up λx hx=>⟨Nat.zero_le _,c.lt x hx⟩);have e8:=f6 (k:=k-1) (by omega) h2.isl (by omega) X.length;have al:(X.all λx=>decide (x<2))=true:=wN.mpr λx hx=>wz (c.sg x hx);rw[wz rfl,al]at e8;have eq:zN M .eq t1 (.lst [])=some false:=by
  have:=h1.isl.ceq (IsL.nl M []);rw[wy c.ne]at this;exact this
 have sb:qv M .sub (N (2 ^ s)) (N F.length)=some (N X.length,true):=by rw[Je (by omega)];congr 3;omega
 have ln:jA M .len [t1]=some (N F.length,true):=h1.isl.len;have l3:jA M .len [cdt s t1 t2]=some (N 3,true):=by rw[qAN];rfl
 have j0:jO M (cdt s t1 t2) (N 0)=some (N s,true):=by rw[Jj];simp
 have j1:jO M (cdt s t1 t2) (N 1)=some (t1,false):=by rw[Jj];simp[h1.lf]
 have j2:jO M (cdt s t1 t2) (N 2)=some (t2,false):=by rw[Jj];simp[h2.lf]
 have ty:zW M (cdt s t1 t2)=some "tuple":=rfl;clear h1 h2;generalize cdt s t1 t2=CC at *;simp[zp,ty,l3,j0,j1,j2,e4,e3,e2,eq,ln,-qBZ,sb,e8,qG]
theorem QW(hk:6<=k){M:Mem}{s:Nat}{t1 t2:T}{F X:List Nat}(c:Cde s F X)(h1:Il M t1 F)(h2:Il M t2 X):Pk (glT gs) Tb.fns Cs k 9 [cdt s t1 t2] M=.ok ((.v .non,true),M):=by
 rw[qW t9 ⟨rfl,by decide⟩ (by omega),b9,show Cs.getD 9 []=[] from rfl];have:=l0 (k:=k-1) (by omega) c h1 h2;generalize cdt s t1 t2=CC at *;simp[this,Qp]
theorem Qe(hk:6<=k){M:Mem}{s:Nat}{t1 t2 t3:T}{F X E:List Nat}(c:Cde s F X)(h1:Il M t1 F)(h2:Il M t2 X)(h3:Il M t3 E)(lE:E.length=F.length)(hE:∀x∈E,x<2):Pk (glT gs) Tb.fns Cs k 10 [cdt s t1 t2,t3] M=.ok ((.v .non,true),M):=by
 have n5:=c.n5;have l:=c.len;rw[qW t10 ⟨rfl,by decide⟩ (by omega),b10,show Cs.getD 10 []=[] from rfl];have e8:=f6 (k:=k-1) (by omega) h3.isl (by omega) F.length;have al:(E.all λx=>decide (x<2))=true:=wN.mpr λx hx=>wz (hE x hx);rw[wz lE,al]at e8;have ln:jA M .len [t1]=some (N F.length,true):=h1.isl.len;have j1:jO M (cdt s t1 t2) (N 1)=some (t1,false):=by rw[Jj];simp[h1.lf]
 clear h1 h2 h3;generalize cdt s t1 t2=CC at *;simp[j1,ln,e8,Qp,bT]
end
theorem getD_some{L:List Nat}{i:Nat}(h:i<L.length):L[i]?=some (L.getD i 0):=by rw[wH,wA h];rfl
theorem qEL{x:List Nat}{i:Nat}(h:i<x.length):(x.map N)[i]?=some (N (x.getD i 0)):=by
 rw[wQ,wA h,wH,wA h];rfl
theorem X7:∀(S:List Nat) (d:Nat),(S.map N).eraseIdx d=(S.eraseIdx d).map N
 | [],d=>by simp
 |x::S,0=>rfl
 |x::S,d+1=>by
  show N x::(S.map N).eraseIdx d=N x::(S.eraseIdx d).map N;rw[X7 S d]
theorem qB8{M:Mem}{c d:Nat}{S:List Nat}(h:M[c]?=some (S.map N))(hd:d<S.length)(hl:S.length<=1000):E5 .popAt c [N d] M=some ((N (S.getD d 0),true),M.set c ((S.eraseIdx d).map N)):=by
 show ((M[c]?).bind λxs=>if xs.length<=lim then (ixN xs.length (d:Int)).bind λk=>(xs[k]?).map λy=>((y,y.lf),M.set c (xs.eraseIdx k)) else none)=_;have ix:ixN (S.map N).length (d:Int)=some d:=by
  unfold ixN L2.ixN;simp;omega
 rw[h,Option.bind_some,if_pos (by rw[wG];exact Nat.le_trans hl (by decide)),ix,Option.bind_some,qEL hd,Option.map_some,lfN,X7]
theorem Qj:∀{S:List Nat}{d:Nat},d<S.length->(S.getD d 0::S.eraseIdx d).Perm S
 | [],d,h=>by simp at h
 |x::S,0,h=>.refl _
 |x::S,d+1,h=>by
  have:=Qj (S:=S) (d:=d) (by simpa using h);show (S.getD d 0::x::S.eraseIdx d).Perm (x::S);exact(List.Perm.swap x _ _).trans (this.cons x)
theorem z7(a b:Nat):T.unds 0 (stT a b)=true:=d8 0 [a,b]
theorem jI{M:Mem}{n:Nat}{C:Mem}(g:J5 M n):J5 (M++C) n:=by
 obtain⟨a,b,e,h⟩:=g;exact⟨a,b,by rw[List.getElem?_append_left (List.getElem?_eq_some_iff.mp e).1];exact e,h⟩
theorem zO{M C M':Mem}{n:Nat}(hn:n<M.length)(h:Kept n (M++C) M'):∃M1,M'=M1++C/\Kept n M M1:=by
 have hl:=h.len;rw[List.length_append]at hl;refine⟨M'.take M.length,?_,?_⟩
 ·apply List.ext_getElem?;intro i;by_cases hi:i<M.length
  ·rw[List.getElem?_append_left (by rw[wS];omega),wM hi]
  ·rw[List.getElem?_append_right (by rw[wS];omega),h.oth i (by omega),List.getElem?_append_right (by omega),wS,Nat.min_eq_left (by omega)]
 ·obtain⟨a,b,e,hb⟩:=h.good;refine⟨⟨a,b,by rw[wM hn];exact e,hb⟩,by rw[wS];omega,λj hj=>?_⟩;by_cases hi:j<M.length
  ·rw[wM hi,h.oth j hj,List.getElem?_append_left hi]
  ·rw[wV (by rw[wS];omega),wV (by omega)]
theorem jX{n:Nat}{M M':Mem}(h:WfM M)(k:Kept n M M'):WfM M':=by
 unfold WfM at *;rw[wN]at h ⊢;intro c hc;rw[k.len];obtain⟨j,hj⟩:=List.getElem?_of_mem hc;by_cases e:j=n
 ·subst e;obtain⟨g,s,e1,_⟩:=k.good;rw[e1]at hj;cases hj;exact zH (Nat.zero_le _) _ (z7 g s)
 ·rw[k.oth j e]at hj;exact h c (List.mem_of_getElem? hj)
theorem JM:∀(is acc:List Int),acc.Nodup->((is.foldl PyProof.Rows.step_dedup acc).length=acc.length+is.length↔(acc++is).Nodup)/\(is.foldl PyProof.Rows.step_dedup acc).length<=acc.length+is.length
 | [],acc,h=>by simp[h]
 |x::is,acc,h=>by
  rw[List.foldl_cons];by_cases hx:x∈acc
  ·have e:PyProof.Rows.step_dedup acc x=acc:=by
    unfold PyProof.Rows.step_dedup;rw[if_pos (List.any_eq_true.mpr ⟨x,hx,by simp⟩)]
   rw[e];obtain⟨a,b⟩:=JM is acc h;refine⟨⟨λz=>by simp at z;omega,λz=>?_⟩,by simp;omega⟩;have:=(wR.mp z).2.2 x hx x (by simp);exact absurd rfl this
  ·have e:PyProof.Rows.step_dedup acc x=acc++[x]:=by
    unfold PyProof.Rows.step_dedup;rw[if_neg (by rw[List.any_eq_true];rintro⟨y,hy,e⟩;simp at e;subst e;exact hx hy)]
   rw[e];have h2:(acc++[x]).Nodup:=by
    rw[wR];refine⟨h,by simp,λa ha b hb=>?_⟩;rw[wJ.mp hb];rintro rfl;exact hx ha
   obtain⟨a,b⟩:=JM is (acc++[x]) h2;rw[wL,List.singleton_append]at a;simp at a b;refine⟨?_,by simp;omega⟩;rw[<-a];simp;omega
theorem U6(is:List Int):(difs is=is.length)↔is.Nodup:=by
 have:=(JM is [] (by simp)).1;simpa [difs] using this
end My
namespace My
open PySem PySem.Spec PI
open L2 (V)
theorem Qf{α:Type}{d:QB}{gl:List T}{P:Nat->List T->Mem->PR (TB×Mem)}{e:TS->Mem->PR (TB×Mem)}{M:Mem}{σ:TS}(hd:qd d M=true)(g h:α->T)(fr:α->Bool):∀(its:List α) (ys:List T) (b:Bool) (o:Option T),ys.length+its.length<=lim ->
  (∀x∈its,e (some (g x)::σ) M=.ok ((h x,fr x),M)) ->
  qQ d (.name 0) (pec gl P .nil) e (its.map g) ys b (o::σ) M=.ok ((.lst (ys++its.map h),b&&its.all fr),M)
 | [],ys,b,o,_,_=>by simp[qQ]
 |x::r,ys,b,o,hl,he=>by
  rw[List.map_cons,qQ];rw[show qw (.name 0) (g x) (o::σ)=some (some (g x)::σ) from rfl];dsimp only;rw[JC,PR.bind_ok];dsimp only;rw[if_pos rfl,he x (by simp),PR.bind_ok];dsimp only;rw[if_pos ⟨by simp at hl;omega,hd⟩];rw[Qf hd g h fr r (ys++[h x]) (b&&fr x) (some (g x)) (by simp at hl ⊢;omega) λy hy=>he y (by simp[hy])];simp[Bool.and_assoc]
theorem Q7{α:Type}{c:TS->Mem->PR (Bool×Mem)}{e:TS->Mem->PR (TB×Mem)}{M:Mem}{σ:TS}(g:α->T)(p:α->Bool)(fr:Bool):∀(its:List α) (ys:List T) (b:Bool) (o:Option T),ys.length+its.length<=lim ->
  (∀x∈its,c (some (g x)::σ) M=.ok (p x,M))->(∀x∈its,e (some (g x)::σ) M=.ok ((g x,fr),M)) ->
  ∃b',qQ [] (.name 0) c e (its.map g) ys b (o::σ) M=.ok ((.lst (ys++(its.filter p).map g),b'),M)
 | [],ys,b,o,_,_,_=>⟨b,by simp[qQ]⟩
 |x::r,ys,b,o,hl,hc,he=>by
  rw[List.map_cons,qQ];rw[show qw (.name 0) (g x) (o::σ)=some (some (g x)::σ) from rfl];dsimp only;rw[hc x (by simp),PR.bind_ok];dsimp only;cases hp:p x with
  |true=>
   rw[if_pos rfl,he x (by simp),PR.bind_ok];dsimp only;rw[if_pos ⟨by simp at hl;omega,rfl⟩];obtain⟨b',e'⟩:=Q7 g p fr r (ys++[g x]) (b&&fr) (some (g x)) (by simp at hl ⊢;omega) (λy hy=>hc y (by simp[hy])) λy hy=>he y (by simp[hy]);exact⟨b',by rw[e',List.filter_cons_of_pos hp];simp⟩
  |false=>
   rw[if_neg (by decide),if_pos (show qd [] M=true from rfl)];obtain⟨b',e'⟩:=Q7 g p fr r ys b (some (g x)) (by simp at hl ⊢;omega) (λy hy=>hc y (by simp[hy])) λy hy=>he y (by simp[hy]);exact⟨b',by rw[e',we (by rw[hp];decide)]⟩
noncomputable def qp(L:List Nat):Nat:=L.getD (L.length-1) 0
noncomputable abbrev SLs(S:List (List Nat)):T:=.lst (S.map NL)
structure Sls(n:Nat)(S:List (List Nat)):Prop where
 len:S.length<=8
 ris:∀L∈S,Ris 0 n L/\L≠[]
 nd:(S.map qp).Nodup
theorem Ze:∀{L:List Nat}{lo n:Nat},Ris lo n L->∀x∈L,x<n
 | [],_,_,_,x,h=>by simp at h
 |y::L,lo,n,h,x,hx=>by
  obtain⟨h1,h2,h3⟩:=h;rcases List.mem_cons.mp hx with rfl|hx
  ·exact h2
  ·exact Ze h3 x hx
theorem ZE:∀{L:List Nat}{lo n:Nat},Ris lo n L->lo<=n->L.length+lo<=n
 | [],lo,n,_,h=>by simpa using h
 |y::L,lo,n,h,_=>by
  obtain⟨h1,h2,h3⟩:=h;have:=ZE h3 (by omega);simp;omega
theorem Qo{M:Mem}{L:List Nat}(h:L≠[]):jO M (NL L) (.v (.int (-1)))=some (N (qp L),true):=by
 have hl:0<L.length:=List.length_pos_iff.mpr h;show ((some (L.map N)).bind λxs=>(L2.ixN xs.length (-1)).bind λj=>(xs[j]?).map λt=>(t,t.lf))=_;have e:L2.ixN (L.map N).length (-1)=some (L.length-1):=by
  unfold L2.ixN;rw[wG,if_neg (by omega),if_pos (by omega)];congr 1;omega
 rw[Option.bind_some,e,Option.bind_some,wQ,show L[L.length-1]?=some (qp L) by unfold qp;rw[wH,wA (by omega)];rfl];rfl
theorem qCB{gl:List T}{P:Nat->List T->Mem->PR (TB×Mem)}{σ:TS}{M:Mem}:pe gl P (.neg (nE 1)) σ M=.ok ((.v (.int (-1)),true),M):=rfl
noncomputable def pck(E L:List Nat):List Nat:=L.map λi=>E.getD i 0
noncomputable def pln(n:Nat)(S:List (List Nat)):List Nat:=(List.range n).filter λx=>!decide (x∈S.map qp)
theorem Y8{n:Nat}{S:List (List Nat)}:∀x∈pln n S,x<n:=λx hx=>by
 unfold pln at hx;exact wl.mp (wo.mp hx).1
section
variable{k:Nat}
theorem f13(hk:1<=k){n:Nat}{S:List (List Nat)}(h:Sls n S)(M:Mem):Pk (glT gs) Tb.fns Cs k 13 [SLs S] M=.ok ((NL (S.map qp),true),M):=by
 rw[qW t13 ⟨rfl,by decide⟩ hk,b13,show Cs.getD 13 []=[] from rfl];have cc:=Qf (d:=[]) (gl:=glT gs) (P:=Pk (glT gs) Tb.fns Cs (k-1)) (e:=pe (glT gs) (Pk (glT gs) Tb.fns Cs (k-1)) (.idx (.var 0) (.neg (nE 1)))) (M:=M) (σ:=[]) rfl NL (λL=>N (qp L)) (λ_=>true) S [] true none (by have:=h.len;simp[lim];omega) (λL hL=>by
  have i1:=Qo (M:=M) (h.ris L hL).2;simp[qCB,i1])
 rw[List.nil_append,show (true&&S.all λ_=>true)=true by simp,show (S.map λL=>N (qp L))=(S.map qp).map N by rw[wc];rfl,show T.lst ((S.map qp).map N)=NL (S.map qp) from rfl]at cc;have src:jg M (SLs S)=some (S.map NL,[]):=rfl;generalize SLs S=tS at *;generalize NL (S.map qp)=el at *;simp[src,cc];exact qG rfl
theorem f7(hk:1<=k){M:Mem}{t:T}{L:List Nat}(h:IsL M t L):Pk (glT gs) Tb.fns Cs k 7 [t] M=.ok ((N (L.sum % 2),true),M):=by
 rw[qW t7 ⟨rfl,by decide⟩ hk,b7,show Cs.getD 7 []=[] from rfl];have md:∀{M:Mem}(x:Nat),qv M .mod (N x) (N 2)=some (N (x % 2),true):=λ{M} x=>je (by decide);simp[h.sum,md];exact qG rfl
theorem f14(hk:2<=k){M:Mem}{s:Nat}{t1 t2:T}{F:List Nat}(h1:Il M t1 F)(lF:F.length<=32){S:List (List Nat)}(h:Sls F.length S):Pk (glT gs) Tb.fns Cs k 14 [cdt s t1 t2,SLs S] M=.ok ((NL (pln F.length S),true),M):=by
 rw[qW t14 ⟨rfl,by decide⟩ (by omega),b14,show Cs.getD 14 []=[] from rfl];have e13:=f13 (k:=k-1) (by omega) h M;have ln:=h1.isl.len;have cc:=JH (c:=pec (glT gs) (Pk (glT gs) Tb.fns Cs (k-1)) (.cons (.cmp .notin (.var 0) (.call 13 (.cons (.var 1) .nil))) .nil)) (e:=pe (glT gs) (Pk (glT gs) Tb.fns Cs (k-1)) (.var 0)) (M:=M) (σ:=[some (SLs S)]) (o:=none) (its:=List.range F.length) (λx=>!decide (x∈S.map qp)) id (by simp[lim];omega) (λx hx=>by
  have ni:=Zj (IsL.nl M (S.map qp)) x;generalize SLs S=tS at *;generalize S.map qp=ends at *;simp[e13,ni]) (λx _ _=>by simp)
 rw[List.map_id]at cc;rw[show (List.range F.length).filter (λx=>!decide (x∈S.map qp))=pln F.length S from rfl]at cc;generalize SLs S=tS at *;generalize pln F.length S=pl at *;simp(disch:=omega) [ln,jE,cc,qh];exact qG rfl
theorem f11(hk:4<=k){M:Mem}{s:Nat}{t1 t2:T}{F:List Nat}(h1:Il M t1 F)(lF:F.length<=32){S:List (List Nat)}(h:Sls F.length S):Pk (glT gs) Tb.fns Cs k 11 [cdt s t1 t2,SLs S] M=.ok (bT true,M):=by
 rw[qW t11 ⟨rfl,by decide⟩ (by omega),b11,show Cs.getD 11 []=[] from rfl];have e13:=f13 (k:=k-1) (by omega) h M;have ln:=h1.isl.len;have lS:jA M .len [SLs S]=some (N S.length,true):=by have:=IsS.len (M:=M) (t:=SLs S) (ts:=S.map NL) (.inl rfl);rw[wG]at this;exact this
 have cc:=Qf (d:=[]) (gl:=glT gs) (P:=Pk (glT gs) Tb.fns Cs (k-1)) (e:=pe (glT gs) (Pk (glT gs) Tb.fns Cs (k-1)) (.and (.call 2 (.cons (.var 0) (.cons (.blt .len (.cons (.idx (.var 1) (nE 1)) .nil)) .nil))) (.cmp .ne (.var 0) (.lst .nil)))) (M:=M) (σ:=[some (cdt s t1 t2)]) rfl NL (λ_=>T.v (.bl true)) (λ_=>true) S [] true none (by have:=h.len;simp[lim];omega) (λL hL=>by
  obtain⟨r1,r2⟩:=h.ris L hL;have e2:=d9 (k:=k-1) (by omega) (IsL.nl M L) r1;have ne:=(IsL.nl M L).cne (IsL.nl M []);rw[show NL []=.lst [] from rfl,show decide (L=[])=false from wy r2]at ne;simp only[bT]at e2;simp[ln,e2,ne,lim,bT])
 have al:=l7 (M:=M) (λ_:List Nat=>true) S;rw[show (S.all λ_=>true)=true by simp]at al;rw[List.nil_append,show (true&&S.all λ_=>true)=true by simp]at cc;have ns:(PI.difs ((S.map qp).map λ(x:Nat)=>(x:Int)):Nat)=S.length:=by
  have:=(U6 ((S.map qp).map λ(x:Nat)=>(x:Int))).mpr (wd.mpr (h.nd.imp λz e=>z (Int.ofNat.inj e)));rw[this];simp
 have ai:((NL (S.map qp)).lis M).bind qR=some ((S.map qp).map λ(x:Nat)=>(x:Int)):=J8 (S.map qp);have l8:=h.len;generalize (S.map λ_=>T.v (.bl true))=Z at *;have ty:zW M (SLs S)=some "list":=rfl;have lm:((S.map qp).map λ(x:Nat)=>(x:Int)).length=S.length:=by simp
 have src:jg M (SLs S)=some (S.map NL,[]):=rfl;have gt:zN M .gt (N S.length) (N 8)=some false:=by rw[qCh,wy (by omega)]
 generalize NL (S.map qp)=te at *;generalize ((S.map qp).map λ(x:Nat)=>(x:Int))=es at *;generalize hSS:SLs S=tS at *;have l9:es.length<1000:=by omega
 have tt:∀b:Bool,(T.v (.bl b))=(T.v (.bl b)):=λ_=>rfl;have ee:zN M .eq (.v (.int ((S.length:Nat):Int))) (N S.length)=some true:=by rw[show T.v (.int ((S.length:Nat):Int))=N S.length from rfl,qA8,wz rfl]
 simp[ty,zp,lS,gt,src,cc,al,qh,e13,ai,l9,ns,ee];exact qG rfl
theorem f12(hk:5<=k){M:Mem}{s:Nat}{t1 t2:T}{F:List Nat}(h1:Il M t1 F)(lF:F.length<=32){S:List (List Nat)}(h:Sls F.length S):Pk (glT gs) Tb.fns Cs k 12 [cdt s t1 t2,SLs S] M=.ok ((.v .non,true),M):=by
 rw[qW t12 ⟨rfl,by decide⟩ (by omega),b12,show Cs.getD 12 []=[] from rfl];have e:=f11 (k:=k-1) (by omega) (s:=s) (t2:=t2) h1 lF h;simp only[bT]at e;generalize SLs S=tS at *;simp[e];exact Qp rfl
theorem qAi{P:Nat->List T->Mem->PR (TB×Mem)}{M:Mem}{t3:T}{E:List Nat}(h3:Il M t3 E){L:List Nat}(hL:∀x∈L,x<E.length)(lL:L.length<=1000){o:Option T}:qQ [] (.name 0) (pec (glT gs) P .nil) (pe (glT gs) P (.idx (.var 1) (.var 0))) (L.map N) [] true [o,some t3] M=.ok ((NL (pck E L),true),M):=by
 exact w9 (λi=>E.getD i 0) (by simp[lim];omega) λx hx=>by
  have:=h3.isl.idx (getD_some (hL x hx));simp[this]
noncomputable def evn(E L:List Nat):Bool:=decide ((pck E L).sum % 2=0)
theorem f15(hk:7<=k){M:Mem}{s:Nat}{t1 t2 t3:T}{F X E:List Nat}(c:Cde s F X)(h1:Il M t1 F)(h2:Il M t2 X)(h3:Il M t3 E)(lE:E.length=F.length)(hE:∀x∈E,x<2)(lF:F.length<=32){S:List (List Nat)}(h:Sls F.length S):Pk (glT gs) Tb.fns Cs k 15 [cdt s t1 t2,SLs S,t3] M=.ok (bT (S.all (evn E)),M):=by
 rw[qW t15 ⟨rfl,by decide⟩ (by omega),b15,show Cs.getD 15 []=[] from rfl];have e9:=QW (k:=k-1) (by omega) c h1 h2;have e12:=f12 (k:=k-1) (by omega) (s:=s) (t2:=t2) h1 lF h;have e10:=Qe (k:=k-1) (by omega) c h1 h2 h3 lE hE;have cc:=Qf (d:=[]) (gl:=glT gs) (P:=Pk (glT gs) Tb.fns Cs (k-1)) (e:=pe (glT gs) (Pk (glT gs) Tb.fns Cs (k-1)) (.cmp .eq (.call 7 (.cons (.comp (.list (.var 0)) [none,some 1] (.name 0) .nil (.idx (.var 1) (.var 0))) .nil)) (nE 0))) (M:=M) (σ:=[some t3]) rfl NL (λL=>T.v (.bl (evn E L))) (λ_=>true) S [] true none (by have:=h.len;simp[lim];omega) (λL hL=>by
  obtain⟨r1,r2⟩:=h.ris L hL;have hx:∀x∈L,x<E.length:=λx hx=>by rw[lE];exact Ze r1 x hx
  have ll:=ZE r1 (Nat.zero_le _);have pc:=qAi (P:=Pk (glT gs) Tb.fns Cs (k-1)) h3 hx (by omega) (o:=none);have e7:=f7 (k:=k-1) (by omega) (IsL.nl M (pck E L));have src:jg M (NL L)=some (L.map N,[]):=rfl;unfold evn;generalize NL (pck E L)=tp at *;simp[src,qh,pc,e7,bT])
 have al:=l7 (M:=M) (evn E) S;rw[List.nil_append,show (true&&S.all λ_=>true)=true by simp]at cc;have src:jg M (SLs S)=some (S.map NL,[]):=rfl;generalize (S.map λL=>T.v (.bl (evn E L)))=Z at *;generalize SLs S=tS at *;simp[e9,e12,e10,src,qh,cc,al];exact qG rfl
theorem f16(hk:7<=k){M:Mem}{s:Nat}{t1 t2 t3:T}{F X E:List Nat}(c:Cde s F X)(h1:Il M t1 F)(h2:Il M t2 X)(h3:Il M t3 E)(lE:E.length=F.length)(hE:∀x∈E,x<2)(lF:F.length<=32){S:List (List Nat)}(h:Sls F.length S):Pk (glT gs) Tb.fns Cs k 16 [cdt s t1 t2,SLs S,t3] M=.ok ((NL (pck E (pln F.length S)),true),M):=by
 rw[qW t16 ⟨rfl,by decide⟩ (by omega),b16,show Cs.getD 16 []=[] from rfl];have e9:=QW (k:=k-1) (by omega) c h1 h2;have e12:=f12 (k:=k-1) (by omega) (s:=s) (t2:=t2) h1 lF h;have e10:=Qe (k:=k-1) (by omega) c h1 h2 h3 lE hE;have e14:=f14 (k:=k-1) (by omega) (s:=s) (t2:=t2) h1 lF h;have lp:(pln F.length S).length<=32:=Nat.le_trans (wZ _ _) (by simpa using lF);have pc:=qAi (P:=Pk (glT gs) Tb.fns Cs (k-1)) h3 (L:=pln F.length S) (λx hx=>by rw[lE];exact Y8 x hx) (by omega) (o:=none);have src:jg M (NL (pln F.length S))=some ((pln F.length S).map N,[]):=rfl;generalize NL (pck E (pln F.length S))=tp at *;generalize NL (pln F.length S)=tl at *;generalize SLs S=tS at *;simp[e9,e12,e10,e14,src,qh,pc];exact qG rfl
theorem eq_nil{M:Mem}{ts:List T}:zN M .eq (.lst ts) (.lst [])=some (decide (ts=[])):=by
 show eqT M 4 (.lst ts) (.lst [])=_;cases ts<;>rfl
theorem f21(hk:1<=k){M:Mem}{t3:T}{E:List Nat}(h3:Il M t3 E){S:List (List Nat)}(h:Sls E.length S)(lE:E.length<=32):Pk (glT gs) Tb.fns Cs k 21 [SLs S,t3] M=.ok (bT (S.all (evn E)),M):=by
 rw[qW t21 ⟨rfl,by decide⟩ (by omega),b21,show Cs.getD 21 []=[] from rfl];obtain⟨b',cc⟩:=Q7 (c:=pec (glT gs) (Pk (glT gs) Tb.fns Cs (k-1)) (.cons (.cmp .eq (.bin .mod (.blt .sum (.cons (.comp (.list (.var 0)) [none,some 1] (.name 0) .nil (.idx (.var 1) (.var 0))) .nil)) (nE 2)) (nE 1)) .nil)) (e:=pe (glT gs) (Pk (glT gs) Tb.fns Cs (k-1)) (.var 0)) (M:=M) (σ:=[some t3]) NL (λL=>!evn E L) false S [] true none (by have:=h.len;simp[lim];omega) (λL hL=>by
  obtain⟨r1,r2⟩:=h.ris L hL;have ll:=ZE r1 (Nat.zero_le _);have pc:=qAi (P:=Pk (glT gs) Tb.fns Cs (k-1)) h3 (Ze r1) (by omega) (o:=none);have src:jg M (NL L)=some (L.map N,[]):=rfl;have sm:=(IsL.nl M (pck E L)).sum;have md:∀{M:Mem}(x:Nat),qv M .mod (N x) (N 2)=some (N (x % 2),true):=λ{M} x=>je (by decide);have ev:(!evn E L)=decide ((pck E L).sum % 2=1):=by
   unfold evn;rw[wa];simp
  rw[ev];generalize NL (pck E L)=tp at *;simp[src,qh,pc,sm,md]) (λL _=>by simp;rfl)
 have src:jg M (SLs S)=some (S.map NL,[]):=rfl;have q:decide ((S.filter λL=>!evn E L).map NL=[])=S.all (evn E):=by
  rw[wa,vA,List.map_eq_nil_iff,List.filter_eq_nil_iff,wN];constructor
  ·intro h x hx;have:=h x hx;simpa using this
  ·intro h x hx;simp[h x hx]
 have en:=eq_nil (M:=M) (ts:=(S.filter λL=>!evn E L).map NL);rw[q]at en;rw[List.nil_append]at cc;generalize ((S.filter λL=>!evn E L).map NL)=Z at *;generalize SLs S=tS at *;simp[src,qh,cc,en];exact qG rfl
theorem f22(hk:1<=k){M:Mem}{n:Nat}(ln:n<=32){S:List (List Nat)}(h:Sls n S):Pk (glT gs) Tb.fns Cs k 22 [N n,SLs S] M=.ok ((NL (pln n S),true),M):=by
 rw[qW t22 ⟨rfl,by decide⟩ (by omega),b22,show Cs.getD 22 []=[] from rfl];have cc:=Qf (d:=[]) (gl:=glT gs) (P:=Pk (glT gs) Tb.fns Cs (k-1)) (e:=pe (glT gs) (Pk (glT gs) Tb.fns Cs (k-1)) (.idx (.var 0) (.neg (nE 1)))) (M:=M) (σ:=[]) rfl NL (λL=>N (qp L)) (λ_=>true) S [] true none (by have:=h.len;simp[lim];omega) (λL hL=>by
  have i1:=Qo (M:=M) (h.ris L hL).2;simp[qCB,i1])
 rw[List.nil_append,show (true&&S.all λ_=>true)=true by simp,show (S.map λL=>N (qp L))=(S.map qp).map N by rw[wc];rfl,show T.lst ((S.map qp).map N)=NL (S.map qp) from rfl]at cc;have c2:=JH (c:=pec (glT gs) (Pk (glT gs) Tb.fns Cs (k-1)) (.cons (.cmp .notin (.var 0) (.var 1)) .nil)) (e:=pe (glT gs) (Pk (glT gs) Tb.fns Cs (k-1)) (.var 0)) (M:=M) (σ:=[some (NL (S.map qp))]) (o:=none) (its:=List.range n) (λx=>!decide (x∈S.map qp)) id (by simp[lim];omega) (λx hx=>by
  have ni:=Zj (IsL.nl M (S.map qp)) x;generalize S.map qp=ends at *;simp[ni]) (λx _ _=>by simp)
 rw[List.map_id,show (List.range n).filter (λx=>!decide (x∈S.map qp))=pln n S from rfl]at c2;have src:jg M (SLs S)=some (S.map NL,[]):=rfl;generalize SLs S=tS at *;generalize NL (pln n S)=pl at *;generalize NL (S.map qp)=el at *;simp(disch:=omega) [src,cc,jE,c2,qh];exact qG rfl
end
end My
namespace My
open PySem PySem.Spec PI
open L2 (V)
noncomputable def e_0:S:=(.asg (.name 3) (.lst (.cons (.tup (.cons (.idx (.var 0) (nE 0)) (.cons (.blt .list (.cons (.idx (.var 0) (nE 1)) .nil)) (.cons (.blt .list (.cons (.idx (.var 0) (nE 2)) .nil)) .nil)))) (.cons (.comp (.list (.var 1)) [none] (.name 0) .nil (.blt .list (.cons (.var 0) .nil))) (.cons (.blt .list (.cons (.var 2) .nil)) .nil)))))
noncomputable def e_1:S:=(.asg (.name 4) (.call 15 (.cons (.idx (.var 3) (nE 0)) (.cons (.idx (.var 3) (nE 1)) (.cons (.idx (.var 3) (nE 2)) .nil)))))
noncomputable def e_2:S:=(.asg (.name 5) (.comp (.list (.call 22 (.cons (.blt .len (.cons (.var 2) .nil)) (.cons (.var 1) .nil)))) [none,some 2] (.name 0) .nil (.idx (.var 1) (.var 0))))
noncomputable def e_3:S:=(.ifs (.or (.not (.isi (.var 4) ["bool"])) (.cmp .ne (.var 4) (.call 21 (.cons (.var 1) (.cons (.var 2) .nil))))) (.cons (.ret (.cst (V.bl false))) .nil) .nil)
noncomputable def e_4:S:=(.for_ (.name 6) (.rng1 (nE 2)) O4)
noncomputable def e_5:S:=(.ret (.cmp .eq (.var 3) (.lst (.cons (.var 0) (.cons (.var 1) (.cons (.var 2) .nil))))))
theorem qEb:b23=(.cons e_0 (.cons e_1 (.cons e_2 (.cons e_3 (.cons e_4 (.cons e_5 .nil)))))):=rfl
noncomputable def g_0:S:=(.asg (.name 7) (.call 16 (.cons (.idx (.var 3) (nE 0)) (.cons (.idx (.var 3) (nE 1)) (.cons (.idx (.var 3) (nE 2)) .nil)))))
noncomputable def g_1:S:=(.ifs (.or (.not (.isi (.var 7) ["list"])) (.cmp .ne (.var 7) (.var 5))) (.cons (.ret (.cst (V.bl false))) .nil) .nil)
noncomputable def g_2:S:=(.expr (.app (.var 7) (nE 0)))
theorem qD3:O4=(.cons g_0 (.cons g_1 (.cons g_2 .nil))):=rfl
theorem qy{d:QB}{g:Tg}{b:TS->Mem->RSt}{x:T}{r:List T}{σ σ1 σ2:TS}{M M2:Mem}(h1:qw g x σ=some σ1)(h2:b σ1 M=.ok (.nx σ2,M2))(h3:qd d M2=true):zC d g b (x::r) σ M=zC d g b r σ2 M2:=by
 rw[zC,h1];dsimp only;rw[h2,PR.bind_ok];dsimp only;rw[if_pos h3]
theorem G5{M A C:Mem}{t:T}(hA:A.length=M.length)(hW:WfM A)(ht:t.und A.length=true):JJ M.length (.ok (.rt (t,true),A++C))=.ok ((t,true),A):=by
 show PI.finish M.length _ _=_;unfold PI.finish;rw[<-hA];by_cases hb:(A++C).length=A.length
 ·have:C=[]:=List.length_eq_zero_iff.mp (by simp at hb;simp[hb]);subst this;rw[if_pos hb,List.append_nil]
 ·rw[if_neg hb,List.take_left' rfl,if_pos (show A.all (T.unds A.length)=true from hW)];dsimp only;rw[show qP (A++C) A.length 6 t=some t by unfold qP;rw[if_pos ht]];rfl
theorem L5(n:Nat):∀S:List (List Nat),T.unds n (S.map NL)=true
 | []=>rfl
 |L::S=>by
  rw[List.map_cons];show (T.und n (NL L)&&T.unds n (S.map NL))=true;rw[L5 n S,show T.und n (NL L)=true from Qw _ _ (JS L)];rfl
theorem Z6{M:Mem}{d:Nat}:∀S:List (List Nat),qe (eqT M (d+1)) (S.map NL) (S.map NL)=some (S.map λ_=>true)
 | []=>rfl
 |L::S=>by rw[List.map_cons];unfold qe;rw[C5,wz rfl,Z6 S];rfl
theorem qAt{α:Type}(C:List α):(C.map λ_=>true).all id=true:=by
 rw[wN];intro x hx;obtain⟨_,_,rfl⟩:=wn.mp hx;rfl
theorem qAc{M:Mem}{d:Nat}(S:List (List Nat)):eqT M (d+2) (SLs S) (SLs S)=some true:=by
 rw[IsS.eqT (d:=d+1) (.inl rfl:IsS M (SLs S) (S.map NL)) (.inl rfl) rfl (Z6 S),qAt]
theorem qBY{M:Mem}{s:Nat}{F X:List Nat}:eqT M 3 (cdt s (NL F) (NL X)) (cdt s (NL F) (NL X))=some true:=by
 have e1:eqT M 2 (N s) (N s)=some true:=by show some ((s:Int)==(s:Int))=_;simp
 have e2:=C5 (M:=M) (d:=1) F F;have e3:=C5 (M:=M) (d:=1) X X;rw[wz rfl]at e2 e3;show ((qe (eqT M 2) [N s,NL F,NL X] [N s,NL F,NL X]).map λbs=>bs.all id)=_;unfold qe;rw[e1];unfold qe;rw[e2];unfold qe;rw[e3];rfl
theorem qCI{M:Mem}{d:Nat}{t:T}{E:List Nat}(h:Il M t E):eqT M (d+1) (NL E) t=some true:=by
 have:IsS M t (E.map N):=by
  rcases h with rfl|⟨n,rfl,e⟩
  ·exact .inl rfl
  ·exact .inr ⟨n,rfl,e⟩
 have eN:∀(L:List Nat),qe (eqT M d) (L.map N) (L.map N)=some (L.map λ_=>true):=λL=>by
  induction L with
  |nil=>rfl
  |cons x L ih=>
   have e:eqT M d (N x) (N x)=some true:=by cases d<;>(show some ((x:Int)==(x:Int))=_;simp)
   rw[List.map_cons];unfold qe;rw[e,ih];rfl
 rw[IsS.eqT (.inl rfl:IsS M (NL E) (E.map N)) this rfl (eN E),qAt]
section
variable{k:Nat}
theorem rb(hk:7<=k){s:Nat}{t3:T}{F X E:List Nat}(c:Cde s F X)(lE:E.length=F.length)(hE:∀x∈E,x<2)(lF:F.length<=32){S:List (List Nat)}(h:Sls F.length S)(B:Mem)(a0 a1 a2 a4 a6 o7:Option T):pxs (glT gs) (Pk (glT gs) Tb.fns Cs k) [7] O4 [a0,a1,a2,some (.lst [cdt s (NL F) (NL X),SLs S,NL E]),a4,some (NL (pck E (pln F.length S))),a6,o7] B=.ok (.nx [a0,a1,a2,some (.lst [cdt s (NL F) (NL X),SLs S,NL E]),a4,some (NL (pck E (pln F.length S))),a6,some (.cell B.length)],B++[(pck E (pln F.length S)).map N++[N 0]]):=by
 have e16:=f16 (k:=k) (by omega) (M:=B) c (Il.nl B F) (Il.nl B X) (Il.nl B E) lE hE lF h;have ix:∀M:Mem,jO M (.lst [cdt s (NL F) (NL X),SLs S,NL E]) (N 0)=some (cdt s (NL F) (NL X),false)/\jO M (.lst [cdt s (NL F) (NL X),SLs S,NL E]) (N 1)=some (SLs S,false)/\jO M (.lst [cdt s (NL F) (NL X),SLs S,NL E]) (N 2)=some (NL E,false):=λM=>⟨rfl,rfl,rfl⟩
 have lp:(pck E (pln F.length S)).length<=32:=by unfold pck;rw[wG];exact Nat.le_trans (wZ _ _) (by simpa using lF)
 have th:=Qu B.length (pck E (pln F.length S));have at0:(B++[(pck E (pln F.length S)).map N])[B.length]?=some ((pck E (pln F.length S)).map N):=by simp
 have ty:=qCk at0;have ne:=(IsL.cell at0).cne (IsL.nl _ (pck E (pln F.length S)));rw[wz rfl]at ne;have ap:=qAp (x:=N 0) at0 (by rw[wG];show _<100000;omega);rw[show (B++[(pck E (pln F.length S)).map N]).set B.length ((pck E (pln F.length S)).map N++[N 0])=B++[(pck E (pln F.length S)).map N++[N 0]] by simp]at ap;generalize SLs S=tS at *;generalize cdt s (NL F) (NL X)=tc at *;generalize NL E=tE at *;generalize T.lst [tc,tS,tE]=hd at *;have x0:px (glT gs) (Pk (glT gs) Tb.fns Cs k) [7] g_0 [a0,a1,a2,some hd,a4,some (NL (pck E (pln F.length S))),a6,o7] B=.ok (.nx [a0,a1,a2,some hd,a4,some (NL (pck E (pln F.length S))),a6,some (.cell B.length)],B++[(pck E (pln F.length S)).map N]):=by
  generalize pck E (pln F.length S)=pp at *;rw[g_0];simp[ix,e16,th]
 generalize B++[(pck E (pln F.length S)).map N++[N 0]]=B2 at *;generalize B++[(pck E (pln F.length S)).map N]=B1 at *;generalize NL (pck E (pln F.length S))=tp at *;rw[qD3,qc x0,g_1,g_2];simp[ty,zp,ne,ap]
theorem f23(hk:9<=k){M:Mem}(hM:WfM M){s:Nat}{t3:T}{F X E:List Nat}(c:Cde s F X)(h3:Il M t3 E)(lE:E.length=F.length)(hE:∀x∈E,x<2)(lF:F.length<=32){S:List (List Nat)}(h:Sls F.length S):Pk (glT gs) Tb.fns Cs k 23 [cdt s (NL F) (NL X),SLs S,t3] M=.ok (bT true,M):=by
 rw[qW t23 ⟨rfl,by decide⟩ (by omega),show Cs.getD 23 []=[7] from rfl];have hk2:8<=k-1:=by omega
 generalize k-1=kk at *;have e15:=f15 (k:=kk) (by omega) (M:=M) c (Il.nl M F) (Il.nl M X) (Il.nl M E) lE hE lF h;have e22:=f22 (k:=kk) (by omega) (M:=M) lF h;have h':Sls E.length S:=by rw[lE];exact h
 have e21:=f21 (k:=kk) (by omega) h3 h' (by omega);have ix:∀M:Mem,jO M (.lst [cdt s (NL F) (NL X),SLs S,NL E]) (N 0)=some (cdt s (NL F) (NL X),false)/\jO M (.lst [cdt s (NL F) (NL X),SLs S,NL E]) (N 1)=some (SLs S,false)/\jO M (.lst [cdt s (NL F) (NL X),SLs S,NL E]) (N 2)=some (NL E,false):=λM=>⟨rfl,rfl,rfl⟩
 have iy:∀M:Mem,jO M (cdt s (NL F) (NL X)) (N 0)=some (N s,true)/\jO M (cdt s (NL F) (NL X)) (N 1)=some (NL F,false)/\jO M (cdt s (NL F) (NL X)) (N 2)=some (NL X,false):=λM=>⟨rfl,rfl,rfl⟩
 have x0:px (glT gs) (Pk (glT gs) Tb.fns Cs kk) [7] e_0 [some (cdt s (NL F) (NL X)),some (SLs S),some t3,none,none,none,none,none] M=.ok (.nx [some (cdt s (NL F) (NL X)),some (SLs S),some t3,some (.lst [cdt s (NL F) (NL X),SLs S,NL E]),none,none,none,none],M):=by
  have cc:=Qf (d:=[]) (gl:=glT gs) (P:=Pk (glT gs) Tb.fns Cs kk) (e:=pe (glT gs) (Pk (glT gs) Tb.fns Cs kk) (.blt .list (.cons (.var 0) .nil))) (M:=M) (σ:=[]) rfl NL NL (λ_=>true) S [] true none (by have:=h.len;simp[lim];omega) (λL hL=>by
   have:=(IsL.nl M L).list;simp[this])
  rw[List.nil_append,show (true&&S.all λ_=>true)=true by simp]at cc;have l1:=(IsL.nl M F).list;have l2:=(IsL.nl M X).list;have l3:=h3.isl.list;have src:jg M (SLs S)=some (S.map NL,[]):=rfl;rw[show T.lst (S.map NL)=SLs S from rfl]at cc;generalize SLs S=tS at *;rw[e_0];simp[iy,l1,l2,l3,src,qh,cc,lim]
 have x1:px (glT gs) (Pk (glT gs) Tb.fns Cs kk) [7] e_1 [some (cdt s (NL F) (NL X)),some (SLs S),some t3,some (.lst [cdt s (NL F) (NL X),SLs S,NL E]),none,none,none,none] M=.ok (.nx [some (cdt s (NL F) (NL X)),some (SLs S),some t3,some (.lst [cdt s (NL F) (NL X),SLs S,NL E]),some (.v (.bl (S.all (evn E)))),none,none,none],M):=by
  simp only[bT]at e15;generalize S.all (evn E)=bb at *;generalize SLs S=tS at *;generalize cdt s (NL F) (NL X)=tc at *;generalize NL E=tE at *;generalize T.lst [tc,tS,tE]=hd at *;rw[e_1];simp[ix,e15]
 have x2:px (glT gs) (Pk (glT gs) Tb.fns Cs kk) [7] e_2 [some (cdt s (NL F) (NL X)),some (SLs S),some t3,some (.lst [cdt s (NL F) (NL X),SLs S,NL E]),some (.v (.bl (S.all (evn E)))),none,none,none] M=.ok (.nx [some (cdt s (NL F) (NL X)),some (SLs S),some t3,some (.lst [cdt s (NL F) (NL X),SLs S,NL E]),some (.v (.bl (S.all (evn E)))),some (NL (pck E (pln F.length S))),none,none],M):=by
  have ln:=h3.isl.len;rw[lE]at ln;have lp:(pln F.length S).length<=32:=Nat.le_trans (wZ _ _) (by simpa using lF);have pc:=qAi (P:=Pk (glT gs) Tb.fns Cs kk) h3 (L:=pln F.length S) (λx hx=>by rw[lE];exact Y8 x hx) (by omega) (o:=none);have src:jg M (NL (pln F.length S))=some ((pln F.length S).map N,[]):=rfl;generalize NL (pck E (pln F.length S))=tp at *;generalize NL (pln F.length S)=tl at *;generalize S.all (evn E)=bb at *;generalize SLs S=tS at *;generalize cdt s (NL F) (NL X)=tc at *;generalize NL E=tE at *;generalize T.lst [tc,tS,tE]=hd at *;rw[e_2];simp[ln,e22,src,qh,pc]
 have x3:px (glT gs) (Pk (glT gs) Tb.fns Cs kk) [7] e_3 [some (cdt s (NL F) (NL X)),some (SLs S),some t3,some (.lst [cdt s (NL F) (NL X),SLs S,NL E]),some (.v (.bl (S.all (evn E)))),some (NL (pck E (pln F.length S))),none,none] M=.ok (.nx [some (cdt s (NL F) (NL X)),some (SLs S),some t3,some (.lst [cdt s (NL F) (NL X),SLs S,NL E]),some (.v (.bl (S.all (evn E)))),some (NL (pck E (pln F.length S))),none,none],M):=by
  simp only[bT]at e21;have nb:∀b:Bool,zN M .ne (.v (.bl b)) (.v (.bl b))=some false:=λb=>by cases b<;>rfl
  generalize NL (pck E (pln F.length S))=tp at *;generalize S.all (evn E)=bb at *;generalize SLs S=tS at *;generalize cdt s (NL F) (NL X)=tc at *;generalize NL E=tE at *;generalize T.lst [tc,tS,tE]=hd at *;rw[e_3];simp[zp,e21,nb]
 have r1:=rb (k:=kk) (by omega) (t3:=t3) c lE hE lF h M (some (cdt s (NL F) (NL X))) (some (SLs S)) (some t3) (some (.v (.bl (S.all (evn E))))) (some (N 0)) none;have r2:=rb (k:=kk) (by omega) (t3:=t3) c lE hE lF h (M++[(pck E (pln F.length S)).map N++[N 0]]) (some (cdt s (NL F) (NL X))) (some (SLs S)) (some t3) (some (.v (.bl (S.all (evn E))))) (some (N 1)) (some (.cell M.length));have fr:zC [] (.name 6) (pxs (glT gs) (Pk (glT gs) Tb.fns Cs kk) [7] O4) ((List.range 2).map N) [some (cdt s (NL F) (NL X)),some (SLs S),some t3,some (.lst [cdt s (NL F) (NL X),SLs S,NL E]),some (.v (.bl (S.all (evn E)))),some (NL (pck E (pln F.length S))),none,none] M=.ok (.nx [some (cdt s (NL F) (NL X)),some (SLs S),some t3,some (.lst [cdt s (NL F) (NL X),SLs S,NL E]),some (.v (.bl (S.all (evn E)))),some (NL (pck E (pln F.length S))),some (N 1),some (.cell (M++[(pck E (pln F.length S)).map N++[N 0]]).length)],M++[(pck E (pln F.length S)).map N++[N 0]]++[(pck E (pln F.length S)).map N++[N 0]]):=by
  show zC [] (.name 6) _ [N 0,N 1] _ _=_;rw[qy rfl r1 rfl,qy rfl r2 rfl];rfl
 have eqq:∀B:Mem,Il B t3 E->zN B .eq (.lst [cdt s (NL F) (NL X),SLs S,NL E]) (.lst [cdt s (NL F) (NL X),SLs S,t3])=some true:=λB hB=>by
  show eqT B 4 (.lst [cdt s (NL F) (NL X),SLs S,NL E]) (.lst [cdt s (NL F) (NL X),SLs S,t3])=_;rw[IsS.eqT (d:=3) (bs:=[true,true,true]) (.inl rfl:IsS B (.lst [cdt s (NL F) (NL X),SLs S,NL E]) [cdt s (NL F) (NL X),SLs S,NL E]) (.inl rfl:IsS B (.lst [cdt s (NL F) (NL X),SLs S,t3]) [cdt s (NL F) (NL X),SLs S,t3]) rfl (by
   unfold qe;rw[qBY];unfold qe;rw[qAc (d:=1)];unfold qe;rw[qCI (d:=2) hB];rfl)]
  rfl
 have eqq:=eqq _ (Il.app (C:=[(pck E (pln F.length S)).map N++[N 0]]) (Il.app (C:=[(pck E (pln F.length S)).map N++[N 0]]) h3));have x:pxs (glT gs) (Pk (glT gs) Tb.fns Cs kk) [7] b23 ([cdt s (NL F) (NL X),SLs S,t3].map some++List.replicate (8-3) none) M=.ok (.rt (bT true),M++[(pck E (pln F.length S)).map N++[N 0]]++[(pck E (pln F.length S)).map N++[N 0]]):=by
  show pxs (glT gs) (Pk (glT gs) Tb.fns Cs kk) [7] b23 [some (cdt s (NL F) (NL X)),some (SLs S),some t3,none,none,none,none,none] M=_;rw[qEb,qc x0,qc x1,qc x2,qc x3];generalize M++[(pck E (pln F.length S)).map N++[N 0]]++[(pck E (pln F.length S)).map N++[N 0]]=M2 at *;generalize NL (pck E (pln F.length S))=tp at *;generalize S.all (evn E)=bb at *;generalize SLs S=tS at *;generalize cdt s (NL F) (NL X)=tc at *;generalize NL E=tE at *;generalize hhd:T.lst [tc,tS,tE]=hd at *;rw[e_4,e_5];simp(disch:=omega) [jE,fr,lim,eqq]
 rw[x,wL];exact q8 rfl hM
end
end My
namespace My
open PySem PySem.Spec PI
open L2 (V)
noncomputable def h_0:S:=(.asg (.name 2) (.lrng (.var 1)))
noncomputable def h_1:S:=(.asg (.name 3) (.lst .nil))
noncomputable def h_2:S:=(.for_ (.name 4) (.rng1 (.blt .min (.cons (nE 8) (.cons (.call 18 (.cons (.var 0) (.cons (.blt .min (.cons (nE 9) (.cons (.bin .add (.var 1) (nE 1)) .nil))) .nil))) .nil)))) G1)
noncomputable def h_3:S:=(.ret (.comp (.list (.var 3)) [none,some 0] (.name 0) .nil (.bin .add (.comp (.rng1 (.var 0)) [none,some 1] (.name 0) (.cons (.cmp .eq (.call 18 (.cons (.var 1) (.cons (nE 2) .nil))) (nE 1)) .nil) (.var 0)) (.lst (.cons (.var 0) .nil)))))
theorem qEO:b20=(.cons h_0 (.cons h_1 (.cons h_2 (.cons h_3 .nil)))):=rfl
section
variable{k:Nat}
theorem qBj(hk:1<=k){n nb c:Nat}{a1:Option T}:∀(m i:Nat) (S Es:List Nat) (A:Mem) (o4:Option T),A.length=c->J5 A nb->m<=S.length->S.length<=100->(Es++S).Nodup->(∀v∈Es++S,v<n)->Es.length+m<=100 ->
  ∃(Es' S':List Nat) (A':Mem) (p4:Option T),zC [] (.name 4) (pxs (glT gs) (Pk (glT gs) Tb.fns Cs k) [2,3] G1) ((List.range' i m).map N) [some (.cell nb),a1,some (.cell c),some (.cell (c+1)),o4] (A++[S.map N,Es.map N])=.ok (.nx [some (.cell nb),a1,some (.cell c),some (.cell (c+1)),p4],A'++[S'.map N,Es'.map N])/\Kept nb A A'/\Es'.Nodup/\(∀v∈Es',v<n)/\Es'.length=Es.length+m
 | 0,i,S,Es,A,o4,hc,g,hm,hS,nd,lt,hl=>⟨Es,S,A,o4,rfl,⟨g,rfl,λ_ _=>rfl⟩,(wR.mp nd).1,λv hv=>lt v (wE _ hv),rfl⟩
 |m+1,i,S,Es,A,o4,hc,g,hm,hS,nd,lt,hl=>by
  have hb:∀{B:Mem},J5 B nb->nb<B.length:=λ{B} z=>by
   obtain⟨a,s,e,_⟩:=z;exact(List.getElem?_eq_some_iff.mp e).1
  obtain⟨d1,M1,e1,h1,k1⟩:=out (k:=k) hk (jI (C:=[S.map N,Es.map N]) g) (m:=S.length) (by omega);obtain⟨A1,rfl,kk1⟩:=zO (hb g) k1;obtain⟨S1,hS1⟩:∃S1,S1=S.eraseIdx d1:=⟨_,rfl⟩
  have lS1:S1.length=S.length-1:=by rw[hS1,List.length_eraseIdx_of_lt h1]
  have c1:A1.length=c:=kk1.len.trans hc;have pr1:=Qj h1;rw[<-hS1]at pr1;have g0:∀{B:Mem}(X Y:List T),B.length=c->(B++[X,Y])[c]?=some X:=λ{B} X Y z=>by rw[<-z];simp
  have g1:∀{B:Mem}(X Y:List T),B.length=c->(B++[X,Y])[c+1]?=some Y:=λ{B} X Y z=>by rw[<-z,List.getElem?_append_right (by omega)];simp
  have s0:∀{B:Mem}(X Y Z:List T),B.length=c->(B++[X,Y]).set c Z=B++[Z,Y]:=λ{B} X Y Z z=>by rw[<-z,List.set_append_right _ _ (by omega)];simp
  have s1:∀{B:Mem}(X Y Z:List T),B.length=c->(B++[X,Y]).set (c+1) Z=B++[X,Z]:=λ{B} X Y Z z=>by rw[<-z,List.set_append_right _ _ (by omega)];simp
  have p1:=qB8 (M:=A1++[S.map N,Es.map N]) (c:=c) (d:=d1) (S:=S) (g0 _ _ c1) h1 (by omega);rw[s0 _ _ _ c1,<-hS1]at p1;generalize S.getD d1 0=va at p1 pr1;have perm:((Es++[va])++S1).Perm (Es++S):=by
   rw[wL];exact List.Perm.append_left _ pr1
  have ap:qBO (A1++[S1.map N,Es.map N]) (c+1) (N va)=some (A1++[S1.map N,(Es++[va]).map N]):=by
   rw[qAp (g1 _ _ c1) (by rw[wG];exact wC (show Es.length<200 by omega) (by decide)),s1 _ _ _ c1,wg];rfl
  have ln:jA (A++[S.map N,Es.map N]) .len [.cell c]=some (N S.length,true):=(IsL.cell (g0 _ _ hc)).len;obtain⟨Es',S',A',p4,e,kk,n',l',z'⟩:=qBj hk (a1:=a1) m (i+1) S1 (Es++[va]) A1 (some (N i)) c1 kk1.good (by omega) (by omega) (perm.nodup_iff.mpr nd) (λv hv=>lt v (perm.mem_iff.mp hv)) (by simp;omega);refine⟨Es',S',A',p4,?_,kk1.trans kk,n',l',by rw[z'];simp;omega⟩;have body:pxs (glT gs) (Pk (glT gs) Tb.fns Cs k) [2,3] G1 [some (.cell nb),a1,some (.cell c),some (.cell (c+1)),some (N i)] (A++[S.map N,Es.map N])=.ok (.nx [some (.cell nb),a1,some (.cell c),some (.cell (c+1)),some (N i)],A1++[S1.map N,(Es++[va]).map N]):=by
   generalize (A++[S.map N,Es.map N])=MM at *;generalize (A1++[S.map N,Es.map N])=MM1 at *;generalize (A1++[S1.map N,Es.map N])=MM2 at *;generalize (A1++[S1.map N,(Es++[va]).map N])=MM3 at *;rw[G1];simp[ln,e1,p1,ap]
  rw[List.range'_succ,List.map_cons,qy rfl body rfl];exact e
def Prs(x z:T):Prop:=∃e L,x=N e/\z=NL (L++[e])/\L.Pairwise (·<·)/\∀y∈L,y<e
theorem L1{n:Nat}:∀{Es:List Nat}{zs:List T},zQ Prs (Es.map N) zs->(∀v∈Es,v<n)->∃S:List (List Nat),zs=S.map NL/\S.map qp=Es/\∀L∈S,Ris 0 n L/\L≠[]
 | [],zs,h,_=>by
  have e:zs=[]:=h;subst e;exact⟨[],rfl,rfl,λL h=>by simp at h⟩
 |e::Es,zs,h,lt=>by
  obtain⟨z,zs',rfl,⟨e',L,h1,rfl,h3,h4⟩,h5⟩:=h;have he:e'=e:=by have:=h1;unfold N at this;injection this with q;injection q with q;omega
  subst he;obtain⟨S,rfl,q2,q3⟩:=L1 h5 (λv hv=>lt v (by simp[hv]));refine⟨(L++[e'])::S,rfl,?_,λK hK=>?_⟩
  ·rw[List.map_cons,q2];congr 1;unfold qp;simp
  ·rcases List.mem_cons.mp hK with rfl|hK
   ·refine⟨P0 ?_ λx hx=>?_,by simp⟩
    ·rw[List.pairwise_append];exact⟨h3,List.pairwise_singleton _ _,λa ha b hb=>by rw[wJ.mp hb];exact h4 a ha⟩
    ·have:=lt e' (by simp);rcases wD.mp hx with z|z
     ·have:=h4 x z;omega
     ·rw[wJ.mp z];omega
   ·exact q3 K hK
theorem f20(hk:2<=k){M:Mem}{nb n:Nat}(h1:1<=n)(h32:n<=32)(hW:WfM M)(g:J5 M nb):∃S M',Pk (glT gs) Tb.fns Cs k 20 [.cell nb,N n] M=.ok ((SLs S,true),M')/\Sls n S/\Kept nb M M':=by
 have hb:∀{B:Mem},J5 B nb->nb<B.length:=λ{B} z=>by
  obtain⟨a,s,e,_⟩:=z;exact(List.getElem?_eq_some_iff.mp e).1
 obtain⟨md,hmd,md1,md2⟩:∃md:Nat,(∀M:Mem,jA M .min [N 9,N (n+1)]=some (N md,true))/\0<md/\md<=n+1/\md<=9:=⟨min 9 (n+1),λM=>Z5 _ _,by omega,by omega,by omega⟩
 obtain⟨cnt,M1,e1,hc1,k1⟩:=out (k:=k-1) (by omega) (jI (C:=[(List.range n).map N,([]:List Nat).map N]) g) (m:=md) (by omega);obtain⟨A1,rfl,kk1⟩:=zO (hb g) k1;obtain⟨m8,hm8,m81⟩:∃m8:Nat,(∀M:Mem,jA M .min [N 8,N cnt]=some (N m8,true))/\m8<=n/\m8<=8:=⟨min 8 cnt,λM=>Z5 _ _,by omega,by omega⟩
 obtain⟨Es,S',A2,p4,e2,kk2,nd,lt,lE⟩:=qBj (k:=k-1) (by omega) (n:=n) (a1:=some (N n)) m8 0 (List.range n) [] A1 none rfl kk1.good (by simp;omega) (by simp;omega) (by simpa using List.nodup_range) (λv hv=>by simpa using hv) (by simp;omega);rw[<-List.range_eq_range']at e2;rw[List.length_nil]at lE;have l1:A1.length=M.length:=kk1.len;have l2:A2.length=M.length:=by rw[kk2.len,l1]
 have kA:=kk1.trans kk2;have at1:∀B:Mem,B.length=M.length->(B++[S'.map N,Es.map N])[M.length+1]?=some (Es.map N):=λB z=>by rw[<-z,List.getElem?_append_right (by omega)];simp
 obtain⟨zs,M3,e3,⟨A3,rfl,k3⟩,al⟩:=Z2 (d:=[(M.length+1,Es.map N)]) (gl:=glT gs) (P:=Pk (glT gs) Tb.fns Cs (k-1)) (e:=pe (glT gs) (Pk (glT gs) Tb.fns Cs (k-1)) (.bin .add (.comp (.rng1 (.var 0)) [none,some 1] (.name 0) (.cons (.cmp .eq (.call 18 (.cons (.var 1) (.cons (nE 2) .nil))) (nE 1)) .nil) (.var 0)) (.lst (.cons (.var 0) .nil)))) (σ:=[some (.cell nb)]) (J:=λM'=>∃A',M'=A'++[S'.map N,Es.map N]/\Kept nb M A') (Pr:=Prs) (Es.map N) [] true none (A2++[S'.map N,Es.map N]) (by simp[lim];omega) ⟨A2,rfl,kA⟩ (λM' ⟨A',h,kk⟩=>by rw[h];exact L3 (at1 A' kk.len)) (λx hx M' ⟨A',hM',kk⟩=>by
  obtain⟨e,he,rfl⟩:=wn.mp hx;subst hM';have en:=lt e he;obtain⟨q,M4,e4,⟨A4,rfl,k4⟩,_⟩:=Qv (c:=pec (glT gs) (Pk (glT gs) Tb.fns Cs (k-1)) (.cons (.cmp .eq (.call 18 (.cons (.var 1) (.cons (nE 2) .nil))) (nE 1)) .nil)) (e:=pe (glT gs) (Pk (glT gs) Tb.fns Cs (k-1)) (.var 0)) (σ:=[some (.cell nb)]) (I:=λM'=>∃A',M'=A'++[S'.map N,Es.map N]/\Kept nb M A') (R:=λ_ _=>True) (List.range e) [] true none (A'++[S'.map N,Es.map N]) List.nodup_range (by simp[lim];omega) ⟨A',rfl,kk⟩ (λy _ M' ⟨A5,h5,kk5⟩=>by
   subst h5;obtain⟨d,M6,e6,hd,k6⟩:=out (k:=k-1) (by omega) (jI (C:=[S'.map N,Es.map N]) kk5.good) (m:=2) (by decide);obtain⟨A6,rfl,kk6⟩:=zO (hb kk5.good) k6;refine⟨decide (d=1),_,?_,⟨A6,rfl,kk5.trans kk6⟩,trivial⟩;generalize (A5++[S'.map N,Es.map N])=MM5 at *;generalize (A6++[S'.map N,Es.map N])=MM6 at *;simp[e6]) (λy _ M' _=>by simp)
  simp only[List.map_nil,List.nil_append]at e4;refine⟨NL ((List.range e).filter q++[e]),_,?_,⟨A4,rfl,k4⟩,e,(List.range e).filter q,rfl,rfl,List.Pairwise.sublist List.filter_sublist List.pairwise_lt_range,λy hy=>wl.mp (wo.mp hy).1⟩;have ad:∀M:Mem,qv M .add (NL ((List.range e).filter q)) (.lst [N e])=some (NL ((List.range e).filter q++[e]),true):=λM=>v5 (K:=[e]) (by have:=wZ q (List.range e);simp[lim]at this ⊢;omega);generalize NL ((List.range e).filter q++[e])=r1 at *;generalize NL ((List.range e).filter q)=r2 at *;generalize (A'++[S'.map N,Es.map N])=MM5 at *;generalize (A4++[S'.map N,Es.map N])=MM6 at *;simp(disch:=omega) [jE,qh,e4,ad,lim])
 rw[List.nil_append]at e3;obtain⟨S,rfl,q2,q3⟩:=L1 al lt;refine⟨S,A3,?_,⟨by have:=congrArg List.length q2;simp at this;omega,q3,by rw[q2];exact nd⟩,k3⟩;rw[qW t20 ⟨rfl,by decide⟩ (by omega),show Cs.getD 20 []=[2,3] from rfl];have lr:=m3 (n:=n) (by omega);have th:=Qu M.length (List.range n);have w3:=jX hW k3;have x:pxs (glT gs) (Pk (glT gs) Tb.fns Cs (k-1)) [2,3] b20 ([T.cell nb,N n].map some++List.replicate (5-2) none) M=.ok (.rt (SLs S,true),A3++[S'.map N,Es.map N]):=by
  show pxs (glT gs) (Pk (glT gs) Tb.fns Cs (k-1)) [2,3] b20 [some (.cell nb),some (N n),none,none,none] M=_;have x0:px (glT gs) (Pk (glT gs) Tb.fns Cs (k-1)) [2,3] h_0 [some (.cell nb),some (N n),none,none,none] M=.ok (.nx [some (.cell nb),some (N n),some (.cell M.length),none,none],M++[(List.range n).map N]):=by
   rw[h_0];simp[lr,show T.lst ((List.range n).map N)=NL (List.range n) from rfl,th]
  have x1:px (glT gs) (Pk (glT gs) Tb.fns Cs (k-1)) [2,3] h_1 [some (.cell nb),some (N n),some (.cell M.length),none,none] (M++[(List.range n).map N])=.ok (.nx [some (.cell nb),some (N n),some (.cell M.length),some (.cell (M.length+1)),none],M++[(List.range n).map N,([]:List Nat).map N]):=by
   have th0:thaw (M++[(List.range n).map N]).length (.lst [])=(.cell (M.length+1),[([]:List Nat).map N]):=by rw[List.length_append];rfl
   rw[show M++[(List.range n).map N,([]:List Nat).map N]=(M++[(List.range n).map N])++[([]:List Nat).map N] by simp];generalize (M++[(List.range n).map N])=MM at *;rw[h_1];simp[th0,lim]
  have sr:=ZV (at1 A2 l2);rw[l1]at e2;rw[qEO,qc x0,qc x1];rw[show T.lst (S.map NL)=SLs S from rfl]at e3;generalize (M++[(List.range n).map N,([]:List Nat).map N])=MM0 at *;generalize (A1++[(List.range n).map N,([]:List Nat).map N])=MM1 at *;generalize (A2++[S'.map N,Es.map N])=MM2 at *;generalize (A3++[S'.map N,Es.map N])=MM3 at *;generalize SLs S=tS at *;rw[h_2,h_3];simp(disch:=omega) [hmd,e1,hm8,jE,e2,sr,qh,e3]
 rw[x];exact G5 k3.len w3 (L5 _ S)
end
end My
namespace My
open PySem PySem.Spec PI
open L2 (V)
noncomputable def d_0:S:=(.asg (.name 2) (.call 17 (.cons (.var 0) (.cons (.var 1) .nil))))
noncomputable def d_1:S:=(.asg (.name 3) (.call 19 (.cons (.var 2) (.cons (nE 5) .nil))))
noncomputable def d_2:S:=(.asg (.name 4) (.call 20 (.cons (.var 2) (.cons (.blt .len (.cons (.idx (.var 3) (nE 1)) .nil)) .nil))))
noncomputable def d_3:S:=(.asg (.name 5) (.comp (.list (.idx (.var 3) (nE 1))) [none,some 2] (.name 0) .nil (.call 18 (.cons (.var 1) (.cons (nE 2) .nil)))))
noncomputable def d_4:S:=(.ifs (.cmp .eq (.call 18 (.cons (.var 2) (.cons (nE 2) .nil))) (nE 1)) (.cons (.for_ (.name 6) (.list (.srtm (.var 4))) O1) .nil) .nil)
noncomputable def d_5:S:=(.asg (.name 7) (.call 18 (.cons (.var 2) (.cons (.blt .len (.cons (.var 5) .nil)) .nil))))
noncomputable def d_6:S:=(.for_ (.name 8) (.list (.lst (.cons (.var 5) (.cons (.bin .add (.bin .add (.sl (.var 5) .nil (.cons (.var 7) .nil)) (.lst (.cons (.bin .sub (nE 1) (.idx (.var 5) (.var 7))) .nil))) (.sl (.var 5) (.cons (.bin .add (.var 7) (nE 1)) .nil) .nil)) (.cons (.var 5) .nil))))) M0)
theorem qEp:U7=(.cons d_0 (.cons d_1 (.cons d_2 (.cons d_3 (.cons d_4 (.cons d_5 (.cons d_6 .nil))))))):=rfl
theorem V9{L:List Nat}{m:Nat}(h:m<=L.length):Qt (L.map N) none (some (m:Int))=(L.take m).map N:=by
 unfold Qt;rw[HT.sIx_none,HT.sIx_nat,wG,Nat.min_eq_left h,List.drop_zero,List.map_take];rfl
theorem W0{L:List Nat}{m:Nat}(h:m<=L.length):Qt (L.map N) (some (m:Int)) none=(L.drop m).map N:=by
 unfold Qt;rw[HT.sIx_none,HT.sIx_nat,wG,Nat.min_eq_left h,List.map_drop,List.take_of_length_le (by simp)]
theorem qBc(L:List Nat):Qt (L.map N) none (some (-1))=(L.take (L.length-1)).map N:=by
 unfold Qt;rw[HT.sIx_none,show HT.sIx (L.map N).length (L.map N).length (some (-1))=L.length-1 by
  show (if (-1:Int)<0 then ((-1:Int)+((L.map N).length:Int)).toNat else min (-1:Int).toNat (L.map N).length)=_;rw[if_pos (by decide),wG];omega,List.drop_zero,List.map_take];rfl
theorem qBx(L:List Nat):lT (L.map N)=(NL L,true):=by unfold lT;rw[JS];rfl
theorem C4:∀{L:List Nat}{lo n:Nat},Ris lo n L->L≠[]->R8 (L.map λ(x:Nat)=>(x:Int))=some ((qp L:Nat):Int)/\lo<=qp L
 | [],_,_,_,h=>absurd rfl h
 | [x],lo,n,h,_=>⟨rfl,h.1⟩
 |x::y::L,lo,n,h,_=>by
  obtain⟨h1,h2,h3⟩:=h;obtain⟨e,q⟩:=C4 h3 (by simp);have l1:qp (x::y::L)=qp (y::L):=by unfold qp;simp
  refine⟨?_,by rw[l1];omega⟩;rw[List.map_cons];unfold R8;rw[e,l1];show some (if (x:Int)<=_ then _ else _)=_;rw[if_pos (by omega)]
theorem f8{M:Mem}{n:Nat}:∀(S:List (List Nat)),(∀L∈S,Ris 0 n L/\L≠[])->(S.map NL).mapM (h9 M)=some ((S.map qp).map λ(x:Nat)=>(x:Int))
 | [],_=>rfl
 |L::S,h=>by
  obtain⟨r1,r2⟩:=h L (by simp);have e:h9 M (NL L)=some ((qp L:Nat):Int):=by
   show (qR (L.map N)).bind R8=_;rw[J8,Option.bind_some,(C4 r1 r2).1]
  rw[List.map_cons,wm,e,f8 S λK hK=>h K (by simp[hK])];rfl
theorem I0{S:List (List Nat)}:∀{ts:List T},(∀t∈ts,t∈S.map NL)->∃S':List (List Nat),ts=S'.map NL/\∀L∈S',L∈S
 | [],_=>⟨[],rfl,λ_ h=>by simp at h⟩
 |t::ts,h=>by
  obtain⟨L,hL,rfl⟩:=wn.mp (h t (by simp));obtain⟨S',rfl,q⟩:=I0 (ts:=ts) λu hu=>h u (by simp[hu]);exact⟨L::S',rfl,λK hK=>by rcases List.mem_cons.mp hK with rfl|hK;exact hL;exact q K hK⟩
theorem j6{α:Type}{ks:List Int}{xs:List α}{x:α}(h:x∈Jc ks xs):x∈xs:=by
 unfold Jc at h;obtain⟨p,hp,rfl⟩:=wn.mp h;exact(wt ((jF _).mem_iff.mp hp)).2
theorem V5(A:List (List T))(a b:List T):(A++[a]).set A.length b=A++[b]:=by simp
section
variable{k:Nat}
theorem qDl{P:Nat->List T->Mem->PR (TB×Mem)}{n:Nat}(hn:n<=32){A:Mem}(a0 a1 a2 a3 a4 a7 a8:Option T):∀(S':List (List Nat)) (E:List Nat) (o6:Option T),(∀L∈S',Ris 0 n L/\L≠[])->E.length=n->(∀x∈E,x<2) ->
  ∃(E':List Nat) (p6:Option T),zC [] (.name 6) (pxs (glT gs) P [2,5] O1) (S'.map NL) [a0,a1,a2,a3,a4,some (.cell A.length),o6,a7,a8] (A++[E.map N])=.ok (.nx [a0,a1,a2,a3,a4,some (.cell A.length),p6,a7,a8],A++[E'.map N])/\E'.length=n/\∀x∈E',x<2
 | [],E,o6,_,lE,hE=>⟨E,o6,rfl,lE,hE⟩
 |L::S',E,o6,h,lE,hE=>by
  obtain⟨r1,r2⟩:=h L (by simp);have at0:(A++[E.map N])[A.length]?=some (E.map N):=by simp
  have il:Il (A++[E.map N]) (.cell A.length) E:=.inr ⟨_,rfl,at0⟩;have ll:=ZE r1 (Nat.zero_le _);have pc:=qAi (P:=P) il (L:=L.take (L.length-1)) (λx hx=>by rw[lE];exact Ze r1 x (List.mem_of_mem_take hx)) (by simp;omega) (o:=none);have lt:qp L<n:=Ze r1 _ (by unfold qp;rw[wH,wA (by have:=List.length_pos_iff.mpr r2;omega)];exact List.getElem_mem _);have ia:=Qo (M:=A++[E.map N]) r2;have sm:=(IsL.nl (A++[E.map N]) (pck E (L.take (L.length-1)))).sum;have md:∀{M:Mem}(x:Nat),qv M .mod (N x) (N 2)=some (N (x % 2),true):=λ{M} x=>je (by decide);obtain⟨v,hv⟩:∃v,v=(pck E (L.take (L.length-1))).sum % 2:=⟨_,rfl⟩
  have pt:qAh (A++[E.map N]) (.cell A.length) (N (qp L)) (N v)=some (A++[(E.set (qp L) v).map N]):=by
   rw[qAe at0 (by rw[wG,lE];exact lt),V5,List.map_set]
  have sl1:∀lo hi,R7 (NL L) (L.map N) lo hi=some (lT (Qt (L.map N) lo hi)):=λlo hi=>slm (IsL.nl [] L) _ lo hi;have cm:=qBc L;have src:∀M:Mem,jg M (NL (L.take (L.length-1)))=some ((L.take (L.length-1)).map N,[]):=λ_=>rfl;have its:∀M:Mem,(NL L).its M=some (L.map N):=λ_=>rfl;have ii:qR [.v (.int (-1))]=some [-1]:=rfl;have ii0:qR []=some []:=rfl;have body:pxs (glT gs) P [2,5] O1 [a0,a1,a2,a3,a4,some (.cell A.length),some (NL L),a7,a8] (A++[E.map N])=.ok (.nx [a0,a1,a2,a3,a4,some (.cell A.length),some (NL L),a7,a8],A++[(E.set (qp L) v).map N]):=by
   have lt1:=qBx (L.take (L.length-1));have mdv:∀M:Mem,qv M .mod (N (pck E (L.take (L.length-1))).sum) (N 2)=some (N v,true):=λM=>by rw[md,hv]
   clear hv;generalize (pck E (L.take (L.length-1))).sum=sv at *;generalize (A++[(E.set (qp L) v).map N])=MM2 at *;generalize (A++[E.map N])=MM at *;generalize NL (pck E (L.take (L.length-1)))=tp at *;generalize hlm:L.map N=Lm at *;generalize (L.take (L.length-1)).map N=Lt at *;generalize NL (L.take (L.length-1))=tl at *;generalize hnl:NL L=tL at *;rw[O1];simp[its,ii,ii0,sl1,cm,lt1,src,qh,pc,sm,mdv,qCB,ia,pt,-qB1]
  obtain⟨E',p6,e',l',b'⟩:=qDl hn a0 a1 a2 a3 a4 a7 a8 S' (E.set (qp L) v) (some (NL L)) (λK hK=>h K (by simp[hK])) (by rw[List.length_set];exact lE) (λx hx=>by
   rcases List.mem_or_eq_of_mem_set hx with z|rfl
   ·exact hE x z
   ·rw[hv];exact Nat.mod_lt _ (by decide))
  refine⟨E',p6,?_,l',b'⟩;rw[List.map_cons,qy rfl body rfl];exact e'
theorem qAL(hk:12<=k)(ns:List Int){i:Nat}(hi:i<=62){M:Mem}(hM:WfM M){o2 o3 o4 o5 o6 o7 o8:Option T}:∃p2 p3 p4 p5 p6 p7 p8 M',pxs (glT gs) (Pk (glT gs) Tb.fns Cs k) [2,5] U7 [some (.fz (ns.map λn=>.v (.int n))),some (N i),o2,o3,o4,o5,o6,o7,o8] M=.ok (.nx [some (.fz (ns.map λn=>.v (.int n))),some (N i),p2,p3,p4,p5,p6,p7,p8],M')/\WfM M':=by
 obtain⟨g0,s0,e1,hb0⟩:=bag (k:=k) (by omega) ns (kk:=i) (by omega) M;have gd:J5 (M++[stT g0 s0]) M.length:=⟨g0,s0,by simp,hb0⟩
 have hM0:WfM (M++[stT g0 s0]):=hM.one (JS [g0,s0]);obtain⟨s,F,X,f,M1,e2,k1,⟨hs1,hs5⟩,hF0,hFl,hFp,hFX,hXb⟩:=qD7 (k:=k) (by omega) gd;have cde:Cde s F X:=⟨hs1,hs5,hF0,hFl,hFp,hFX,hXb⟩
 have n5:=cde.n5;have lF:F.length<=32:=by omega
 have lF1:1<=F.length:=List.length_pos_iff.mpr hF0;have w1:=jX hM0 k1;obtain⟨S,M2,e3,hS,k2⟩:=f20 (k:=k) (by omega) (n:=F.length) lF1 lF w1 k1.good;have w2:=jX w1 k2;obtain⟨E0,M3,e4,k3,lE0,hE0⟩:=Qk (gl:=glT gs) (P:=Pk (glT gs) Tb.fns Cs k) (e:=pe (glT gs) (Pk (glT gs) Tb.fns Cs k) (.call 18 (.cons (.var 1) (.cons (nE 2) .nil)))) (σ:=[some (.cell M.length)]) (I:=λM'=>Kept M.length (M++[stT g0 s0]) M') (R:=λy=>y<2) F [] true none M2 (by simp[lim];omega) (k1.trans k2) (λx _ M' hM'=>by
  obtain⟨d,M'',e,hd,kk⟩:=out (k:=k) (by omega) hM'.good (m:=2) (by decide);refine⟨d,M'',?_,hM'.trans kk,hd⟩;simp[e])
 simp only[List.map_nil,List.nil_append]at e4;have w3:=jX hM0 k3;have nb3:M.length<M3.length:=by rw[k3.len];simp
 obtain⟨d4,M4',e5,hd4,k4'⟩:=out (k:=k) (by omega) (jI (C:=[E0.map N]) k3.good) (m:=2) (by decide);obtain⟨M4,rfl,k4⟩:=zO nb3 k4';have w4:=jX w3 k4;have l4:M4.length=M3.length:=k4.len;generalize hZ:(ns.map λn=>T.v (.int n))=Z at *;have iy:∀M:Mem,jO M (cdt s (NL F) (NL X)) (N 1)=some (NL F,false):=λM=>rfl;have x0:px (glT gs) (Pk (glT gs) Tb.fns Cs k) [2,5] d_0 [some (.fz Z),some (N i),o2,o3,o4,o5,o6,o7,o8] M=.ok (.nx [some (.fz Z),some (N i),some (.cell M.length),o3,o4,o5,o6,o7,o8],M++[stT g0 s0]):=by
  have th:thaw M.length (.lst (stT g0 s0))=(.cell M.length,[stT g0 s0]):=Qu M.length [g0,s0];rw[d_0];simp[e1,th]
 have x1:px (glT gs) (Pk (glT gs) Tb.fns Cs k) [2,5] d_1 [some (.fz Z),some (N i),some (.cell M.length),o3,o4,o5,o6,o7,o8] (M++[stT g0 s0])=.ok (.nx [some (.fz Z),some (N i),some (.cell M.length),some (cdt s (NL F) (NL X)),o4,o5,o6,o7,o8],M1):=by
  generalize (M++[stT g0 s0])=MM at *;rw[show T.tup [N s,NL F,NL X]=cdt s (NL F) (NL X) from rfl]at e2;generalize cdt s (NL F) (NL X)=tc at *;rw[d_1];simp[e2]
 have x2:px (glT gs) (Pk (glT gs) Tb.fns Cs k) [2,5] d_2 [some (.fz Z),some (N i),some (.cell M.length),some (cdt s (NL F) (NL X)),o4,o5,o6,o7,o8] M1=.ok (.nx [some (.fz Z),some (N i),some (.cell M.length),some (cdt s (NL F) (NL X)),some (SLs S),o5,o6,o7,o8],M2):=by
  have ln:=(IsL.nl M1 F).len;generalize hc:cdt s (NL F) (NL X)=tc at *;generalize NL F=tF at *;generalize SLs S=tS at *;rw[d_2];simp[iy,ln,e3]
 have x3:px (glT gs) (Pk (glT gs) Tb.fns Cs k) [2,5] d_3 [some (.fz Z),some (N i),some (.cell M.length),some (cdt s (NL F) (NL X)),some (SLs S),o5,o6,o7,o8] M2=.ok (.nx [some (.fz Z),some (N i),some (.cell M.length),some (cdt s (NL F) (NL X)),some (SLs S),some (.cell M3.length),o6,o7,o8],M3++[E0.map N]):=by
  have th:=Qu M3.length E0;have src:jg M2 (NL F)=some (F.map N,[]):=rfl;generalize hc:cdt s (NL F) (NL X)=tc at *;generalize NL F=tF at *;generalize SLs S=tS at *;generalize NL E0=tE at *;rw[d_3];simp[iy,src,qh,e4,th]
 obtain⟨E,p6,x4,lE,hE⟩:∃(E:List Nat) (p6:Option T),px (glT gs) (Pk (glT gs) Tb.fns Cs k) [2,5] d_4 [some (.fz Z),some (N i),some (.cell M.length),some (cdt s (NL F) (NL X)),some (SLs S),some (.cell M3.length),o6,o7,o8] (M3++[E0.map N])=.ok (.nx [some (.fz Z),some (N i),some (.cell M.length),some (cdt s (NL F) (NL X)),some (SLs S),some (.cell M3.length),p6,o7,o8],M4++[E.map N])/\E.length=F.length/\∀x∈E,x<2:=by
  by_cases h1:d4=1
  ·have kS:=f8 (M:=M4++[E0.map N]) S hS.ris;obtain⟨S',hS',mS'⟩:=I0 (S:=S) (ts:=Jc ((S.map qp).map λ(x:Nat)=>(x:Int)) (S.map NL)) (λt ht=>j6 ht);have kn:((S.map qp).map λ(x:Nat)=>(x:Int)).length<64/\((S.map qp).map λ(x:Nat)=>(x:Int)).Nodup:=⟨by have:=hS.len;simp;omega,wd.mpr (hS.nd.imp λz e=>z (Int.ofNat.inj e))⟩
   obtain⟨E,p6,e6,lE,hE⟩:=qDl (P:=Pk (glT gs) Tb.fns Cs k) lF (A:=M4) (some (.fz Z)) (some (N i)) (some (.cell M.length)) (some (cdt s (NL F) (NL X))) (some (SLs S)) o7 o8 S' E0 o6 (λL hL=>hS.ris L (mS' L hL)) lE0 hE0;refine⟨E,p6,?_,lE,hE⟩;rw[l4]at e6;have lis:∀M:Mem,(SLs S).lis M=some (S.map NL):=λ_=>rfl;have src:∀M:Mem,jg M (lT (S'.map NL)).1=some (S'.map NL,[]):=λ_=>rfl;subst h1;generalize cdt s (NL F) (NL X)=tc at *;generalize SLs S=tS at *;generalize ((S.map qp).map λ(x:Nat)=>(x:Int))=ks at *;generalize S.map NL=sm at *;generalize lT (S'.map NL)=tl at *;generalize (M3++[E0.map N])=MM3 at *;generalize (M4++[E0.map N])=MM4 at *;generalize (M4++[E.map N])=MM5 at *;rw[d_4];simp[e5,i8,lis,kS,kn,hS',src,e6]
  ·refine⟨E0,o6,?_,lE0,hE0⟩;generalize cdt s (NL F) (NL X)=tc at *;generalize SLs S=tS at *;generalize (M3++[E0.map N])=MM3 at *;generalize (M4++[E0.map N])=MM4 at *;rw[d_4];simp[e5,h1]
 have at4:∀B:Mem,B.length=M3.length->(B++[E.map N])[M3.length]?=some (E.map N):=λB z=>by rw[<-z];simp
 obtain⟨a,M5',e7,ha,k5'⟩:=out (k:=k) (by omega) (jI (C:=[E.map N]) k4.good) (m:=E.length) (by omega);obtain⟨M5,rfl,k5⟩:=zO (by rw[l4];exact nb3) k5';have l5:M5.length=M3.length:=k5.len.trans l4;have w5:WfM (M5++[E.map N]):=(jX w4 k5).one (JS E);have il:Il (M5++[E.map N]) (.cell M3.length) E:=.inr ⟨_,rfl,at4 M5 l5⟩;have x5:px (glT gs) (Pk (glT gs) Tb.fns Cs k) [2,5] d_5 [some (.fz Z),some (N i),some (.cell M.length),some (cdt s (NL F) (NL X)),some (SLs S),some (.cell M3.length),p6,o7,o8] (M4++[E.map N])=.ok (.nx [some (.fz Z),some (N i),some (.cell M.length),some (cdt s (NL F) (NL X)),some (SLs S),some (.cell M3.length),p6,some (N a),o8],M5++[E.map N]):=by
  have ln:=(IsL.cell (at4 M4 l4)).len;generalize cdt s (NL F) (NL X)=tc at *;generalize SLs S=tS at *;generalize (M4++[E.map N])=MM4 at *;generalize (M5++[E.map N])=MM5 at *;rw[d_5];simp[ln,e7]
 obtain⟨E1,hE1⟩:∃E1,E1=E.take a++[1-E.getD a 0]++E.drop (a+1):=⟨_,rfl⟩
 have lE1:E1.length=F.length:=by rw[hE1];simp;omega
 have bE1:∀x∈E1,x<2:=λx hx=>by
  rw[hE1]at hx;rcases wD.mp hx with h|h
  ·rcases wD.mp h with h|h
   ·exact hE x (List.mem_of_mem_take h)
   ·rw[wJ.mp h];omega
  ·exact hE x (List.mem_of_mem_drop h)
 have r1:=f23 (k:=k) (by omega) w5 cde il lE hE lF hS;have r2:=f23 (k:=k) (by omega) w5 cde (Il.nl _ E1) lE1 bE1 lF hS;have lb:∀(t:T) (o:Option T),Pk (glT gs) Tb.fns Cs k 23 [cdt s (NL F) (NL X),SLs S,t] (M5++[E.map N])=.ok (bT true,M5++[E.map N])->pxs (glT gs) (Pk (glT gs) Tb.fns Cs k) [2,5] M0 [some (.fz Z),some (N i),some (.cell M.length),some (cdt s (NL F) (NL X)),some (SLs S),some (.cell M3.length),p6,some (N a),some t] (M5++[E.map N])=.ok (.nx [some (.fz Z),some (N i),some (.cell M.length),some (cdt s (NL F) (NL X)),some (SLs S),some (.cell M3.length),p6,some (N a),some t],M5++[E.map N]):=λt o e=>by
  simp only[bT]at e;generalize cdt s (NL F) (NL X)=tc at *;generalize SLs S=tS at *;generalize (M5++[E.map N])=MM5 at *;rw[M0];simp[e]
 have x6:px (glT gs) (Pk (glT gs) Tb.fns Cs k) [2,5] d_6 [some (.fz Z),some (N i),some (.cell M.length),some (cdt s (NL F) (NL X)),some (SLs S),some (.cell M3.length),p6,some (N a),o8] (M5++[E.map N])=.ok (.nx [some (.fz Z),some (N i),some (.cell M.length),some (cdt s (NL F) (NL X)),some (SLs S),some (.cell M3.length),p6,some (N a),some (.cell M3.length)],M5++[E.map N]):=by
  have b1:=lb (.cell M3.length) none r1;have b2:=lb (NL E1) none r2;have fr:zC [] (.name 8) (pxs (glT gs) (Pk (glT gs) Tb.fns Cs k) [2,5] M0) [.cell M3.length,NL E1,.cell M3.length] [some (.fz Z),some (N i),some (.cell M.length),some (cdt s (NL F) (NL X)),some (SLs S),some (.cell M3.length),p6,some (N a),o8] (M5++[E.map N])=.ok (.nx [some (.fz Z),some (N i),some (.cell M.length),some (cdt s (NL F) (NL X)),some (SLs S),some (.cell M3.length),p6,some (N a),some (.cell M3.length)],M5++[E.map N]):=by
   rw[qy rfl b1 rfl,qy rfl b2 rfl,qy rfl b1 rfl];rfl
  have its:(T.cell M3.length).its (M5++[E.map N])=some (E.map N):=at4 M5 l5;have sl1:∀lo hi,R7 (T.cell M3.length) (E.map N) lo hi=some (lT (Qt (E.map N) lo hi)):=λlo hi=>slm (IsL.cell (at4 M5 l5)) _ lo hi;have c1:=V9 (L:=E) (m:=a) (by omega);have c2:Qt (E.map N) (some ((a:Int)+1)) none=(E.drop (a+1)).map N:=W0 (L:=E) (m:=a+1) (by omega);have t1:=qBx (E.take a);have t2:=qBx (E.drop (a+1));have ix:=(IsL.cell (at4 M5 l5)).idx (getD_some ha);have sb:∀M:Mem,qv M .sub (N 1) (N (E.getD a 0))=some (N (1-E.getD a 0),true):=λM=>Je (by
   have:=hE (E.getD a 0) (by rw[wH,wA ha];exact List.getElem_mem _);omega)
  have ad1:∀M:Mem,qv M .add (NL (E.take a)) (.lst [N (1-E.getD a 0)])=some (NL (E.take a++[1-E.getD a 0]),true):=λM=>v5 (K:=[1-E.getD a 0]) (by simp[lim];omega);have ad2:∀M:Mem,qv M .add (NL (E.take a++[1-E.getD a 0])) (NL (E.drop (a+1)))=some (NL E1,true):=λM=>by rw[hE1];exact v5 (by simp[lim];omega)
  have ii:qR [N a]=some [(a:Int)]:=rfl;have ii2:qR [N (a+1)]=some [((a+1:Nat):Int)]:=rfl;have ii0:qR []=some []:=rfl;have src:∀M:Mem,jg M (.lst [.cell M3.length,NL E1,.cell M3.length])=some ([.cell M3.length,NL E1,.cell M3.length],[]):=λ_=>rfl;generalize cdt s (NL F) (NL X)=tc at *;generalize SLs S=tS at *;generalize (M5++[E.map N])=MM5 at *;generalize NL E1=tE1 at *;generalize NL (E.take a++[1-E.getD a 0])=v3 at *;generalize NL (E.take a)=v1 at *;generalize NL (E.drop (a+1))=v2 at *;generalize (E.take a).map N=w1 at *;generalize (E.drop (a+1)).map N=w2 at *;generalize 1-E.getD a 0=u1 at *;generalize E.getD a 0=u0 at *;rw[d_6];simp[its,ii,ii0,ii2,sl1,c1,c2,t1,t2,ix,sb,ad1,ad2,lim,src,fr,-qB4]
 rw[qEp,qc x0,qc x1,qc x2,qc x3,qc x4,qc x5,qc x6];exact⟨_,_,_,_,_,_,_,M5++[E.map N],rfl,w5⟩
theorem qC6(hk:12<=k)(ns:List Int):∀(m i:Nat) (M:Mem) (o1 o2 o3 o4 o5 o6 o7 o8:Option T),i+m<=63->WfM M->∃σ' M',zC [] (.name 1) (pxs (glT gs) (Pk (glT gs) Tb.fns Cs k) [2,5] U7) ((List.range' i m).map N) [some (.fz (ns.map λn=>.v (.int n))),o1,o2,o3,o4,o5,o6,o7,o8] M=.ok (.nx σ',M')
 | 0,i,M,o1,o2,o3,o4,o5,o6,o7,o8,h,_=>⟨_,M,rfl⟩
 |m+1,i,M,o1,o2,o3,o4,o5,o6,o7,o8,h,hF=>by
  obtain⟨p2,p3,p4,p5,p6,p7,p8,M1,e,F1⟩:=qAL hk ns (i:=i) (by omega) hF (o2:=o2) (o3:=o3) (o4:=o4) (o5:=o5) (o6:=o6) (o7:=o7) (o8:=o8);obtain⟨σ',M',e'⟩:=qC6 hk ns m (i+1) M1 (some (N i)) p2 p3 p4 p5 p6 p7 p8 (by omega) F1;refine⟨σ',M',?_⟩;rw[List.range'_succ,List.map_cons,qy rfl e rfl];exact e'
end
theorem main:∀ns:List Int,ns.length<=63->∃h',Fk Tb.fns 30 24 [.ref gs.length] (Zt gs ns)=.ok (.bl true,h'):=by
 intro ns hn;obtain⟨σ',M',e⟩:=qC6 (k:=29) (by omega) ns (max 1 (min ns.length 30)) 0 [] none none none none none none none none (by omega) rfl;rw[<-List.range_eq_range']at e;have key:∃b M2,Pk (glT gs) Tb.fns Cs 30 24 [.fz (ns.map λn=>.v (.int n))] []=.ok ((.v (.bl true),b),M2):=by
  rw[qW t24 ⟨rfl,by decide⟩ (by omega),show Cs.getD 24 []=[2,5] from rfl];clear hn;have ex:pxs (glT gs) (Pk (glT gs) Tb.fns Cs (30-1)) [2,5] b24 ([T.fz (ns.map λn=>.v (.int n))].map some++List.replicate (9-1) none) []=.ok (.rt (bT true),M'):=by
   rw[b24];simp(disch:=omega) [jE,e]
  rw[ex];exact J7 _ _ _
 obtain⟨b,M2,e2⟩:=key;exact qA7 rfl e2
end My
namespace PySem.W.Fast
theorem tw6149275204461506302:True:=trivial
theorem tw4663959316146939870:True:=trivial
theorem tw11229896514401827888:True:=trivial
theorem tw16995941129482048972:True:=trivial
theorem tw3932458816897039978:True:=trivial
theorem tw8103893311011533839:True:=trivial
theorem tw2529296562986075199:True:=trivial
theorem tw8347319040265279010:True:=trivial
theorem tw8640140560858560013:True:=trivial
theorem tw8419446040088607562:True:=trivial
theorem tw12042327676226913953:True:=trivial
theorem tw14845777776359924703:True:=trivial
theorem tw10253201104392346675:True:=trivial
theorem tw7396208005442146862:True:=trivial
theorem tw13645030983036346738:True:=trivial
theorem tw17076762655048646935:True:=trivial
theorem tw16770358659997136936:True:=trivial
theorem tw7519641439029104618:True:=trivial
theorem tw11488529547042522087:True:=trivial
theorem tw15962621450308665120:True:=trivial
theorem tw7459161427309349118:True:=trivial
theorem tw15301057863626416245:True:=trivial
theorem tw15170812638765109397:True:=trivial
theorem tw14799122603692577037:True:=trivial
theorem tw6257303289974995018:True:=trivial
theorem tw10643504167837234064:True:=trivial
theorem tw2560506563657183645:True:=trivial
theorem tw2997325566923777084:True:=trivial
theorem tw15414807116508016857:True:=trivial
theorem tw1939635127219490709:True:=trivial
theorem tw190872124158701467:True:=trivial
theorem tw4010213013904386012:True:=trivial
theorem tw7019756975746853954:True:=trivial
theorem tw17412276927991929665:True:=trivial
theorem tw11502544680655375192:True:=trivial
theorem tw10294034196882467785:True:=trivial
theorem tw1427747813309090771:True:=trivial
theorem tw7201212687098534245:True:=trivial
theorem tw11211085115574098890:True:=trivial
theorem tw11692496647074136058:True:=trivial
theorem tw11372279771623915205:True:=trivial
theorem tw1818199284747187145:True:=trivial
theorem tw3140020401467335655:True:=trivial
theorem tw1539660499877542470:True:=trivial
theorem tw18365201200954202379:True:=trivial
theorem tw13749961620360574370:True:=trivial
theorem tw3956233523270208504:True:=trivial
theorem tw8802282625719406448:True:=trivial
theorem tw3573274603942284510:True:=trivial
theorem tw17545666416629417220:True:=trivial
theorem tw7506659866838268608:True:=trivial
theorem tw3337737876764832351:True:=trivial
theorem tw11064768649470262028:True:=trivial
theorem tw14908769199847610070:True:=trivial
theorem tw8542805503532444988:True:=trivial
theorem tw16658186577568350989:True:=trivial
theorem tw15739598235420383882:True:=trivial
theorem tw16207751556069313480:True:=trivial
theorem tw11252297449723327976:True:=trivial
theorem tw17568787081205555052:True:=trivial
theorem tw653354114295220297:True:=trivial
theorem tw13151897289537756797:True:=trivial
theorem tw2940617500035152561:True:=trivial
theorem tw16977510680126796665:True:=trivial
theorem tw2771996410712622167:True:=trivial
theorem tw9984732094194362919:True:=trivial
theorem tw4618481668396291409:True:=trivial
theorem tw809771367803967503:True:=trivial
theorem tw16725777836896905425:True:=trivial
theorem tw6818726590629661903:True:=trivial
theorem tw6307594550396862948:True:=trivial
theorem tw9247773219717322047:True:=trivial
theorem tw14912787778316538810:True:=trivial
theorem tw11070772827604397932:True:=trivial
theorem tw8583494417754286151:True:=trivial
theorem tw17854497631883566292:True:=trivial
theorem tw1405146593735458655:True:=trivial
theorem tw10705518041481034062:True:=trivial
theorem tw8678106729000667593:True:=trivial
theorem tw17388409179756999318:True:=trivial
theorem tw9778832870618689950:True:=trivial
theorem tw13655076984451602875:True:=trivial
theorem tw16437541586260327951:True:=trivial
theorem tw13972023007630515529:True:=trivial
theorem tw14336042624073217812:True:=trivial
theorem tw13627523145647393122:True:=trivial
theorem tw3365952813382232302:True:=trivial
theorem tw18187917437683914756:True:=trivial
theorem tw997798180604994203:True:=trivial
theorem tw14985353761483444963:True:=trivial
theorem tw15587627423150943256:True:=trivial
theorem tw8637693334030219344:True:=trivial
theorem tw12091560568194257619:True:=trivial
theorem tw15000473462393372358:True:=trivial
theorem tw1949481361057896382:True:=trivial
theorem tw4836180203521986447:True:=trivial
theorem tw605734394258066435:True:=trivial
theorem tw1043387501310924978:True:=trivial
theorem tw7341314562928643054:True:=trivial
theorem tw6677082365529193171:True:=trivial
theorem tw8341868691283765130:True:=trivial
theorem tw12409652074004368344:True:=trivial
theorem tw12474375004402351641:True:=trivial
theorem tw4346691514393026646:True:=trivial
theorem tw9349032255935792874:True:=trivial
theorem tw12949871487867709618:True:=trivial
theorem tw13309295789231201913:True:=trivial
theorem tw10169757391138120265:True:=trivial
theorem tw9175560235778520321:True:=trivial
theorem tw13269647314244239840:True:=trivial
theorem tw16935520703327589047:True:=trivial
theorem tw2120173282561960296:True:=trivial
theorem tw18324884991171074955:True:=trivial
theorem tw17494294462282793989:True:=trivial
theorem tw10220864166168085997:True:=trivial
theorem tw14910277608404152290:True:=trivial
theorem tw10106168832845171724:True:=trivial
theorem tw2627286801340527793:True:=trivial
theorem tw17401499589582506882:True:=trivial
theorem tw15160549643127464638:True:=trivial
theorem tw15849847241448323604:True:=trivial
theorem tw17517898202348668011:True:=trivial
theorem tw5298360744708405151:True:=trivial
theorem tw15669078835610158314:True:=trivial
theorem tw12350053179034254255:True:=trivial
theorem tw6532796652632508823:True:=trivial
theorem tw3330158302891344911:True:=trivial
theorem tw10172665171188596085:True:=trivial
theorem tw15819991115728585948:True:=trivial
theorem tw302753248026677245:True:=trivial
theorem tw2105318780725515955:True:=trivial
theorem tw8603440080209551017:True:=trivial
theorem tw1441533656838478188:True:=trivial
theorem tw3069970223793833380:True:=trivial
theorem tw2319075122125324420:True:=trivial
theorem tw14077042358547938360:True:=trivial
theorem tw5739024103860963356:True:=trivial
theorem tw15533277980343490813:True:=trivial
theorem tw601364369150460109:True:=trivial
theorem tw6145912674729918211:True:=trivial
theorem tw15432660911734756943:True:=trivial
theorem tw1898763511506113348:True:=trivial
theorem tw18410221184696309453:True:=trivial
theorem tw5299854493823122858:True:=trivial
theorem tw12375771865250266298:True:=trivial
theorem tw11229024697280677729:True:=trivial
theorem tw12254675392067468429:True:=trivial
theorem tw3378801138501208418:True:=trivial
theorem tw10017197352703157278:True:=trivial
theorem tw18144403272643087730:True:=trivial
theorem tw18007877334725939715:True:=trivial
theorem tw3443271759473511864:True:=trivial
theorem tw11683445943776786259:True:=trivial
theorem tw14952993432564356371:True:=trivial
theorem tw293277814923779498:True:=trivial
theorem tw8151611839445001114:True:=trivial
theorem tw8414271904779722196:True:=trivial
theorem tw1645233443792049631:True:=trivial
theorem tw3673549426176511128:True:=trivial
theorem tw13124208961032432946:True:=trivial
theorem tw4428308135376005402:True:=trivial
theorem tw7881012501677613605:True:=trivial
theorem tw14122677650021865797:True:=trivial
theorem tw8499935218406128724:True:=trivial
theorem tw267984273531410242:True:=trivial
theorem tw6069100523551588820:True:=trivial
theorem tw5269681470265930498:True:=trivial
theorem tw18260553571246757467:True:=trivial
theorem tw9911376393542068300:True:=trivial
theorem tw11155238365216986094:True:=trivial
theorem tw6151754883880230448:True:=trivial
theorem tw15380267836968890512:True:=trivial
theorem tw13080708574845790761:True:=trivial
theorem tw14793323884395871226:True:=trivial
theorem tw446567014412206148:True:=trivial
theorem tw16449589889498301637:True:=trivial
theorem tw3151809739718884721:True:=trivial
theorem tw13808204269052336811:True:=trivial
theorem tw3210662498208367954:True:=trivial
theorem tw2994393831365843985:True:=trivial
theorem tw6954806533128218011:True:=trivial
theorem tw5391500895741063978:True:=trivial
theorem tw1719631653350110708:True:=trivial
theorem tw11557525059994343646:True:=trivial
theorem tw11121534957767392469:True:=trivial
theorem tw483136715249733624:True:=trivial
theorem tw17540676044017323652:True:=trivial
theorem tw835211320676354564:True:=trivial
theorem tw3929541198028670257:True:=trivial
theorem tw7917406403049184840:True:=trivial
theorem tw15870070484043505970:True:=trivial
theorem tw7168229357373597096:True:=trivial
theorem tw14419562081398026676:True:=trivial
theorem tw2457764273004445779:True:=trivial
theorem tw8422290141463928733:True:=trivial
theorem tw11844618189154008820:True:=trivial
theorem tw11136732581395216406:True:=trivial
theorem tw1932043676172163975:True:=trivial
theorem tw9319383502773937047:True:=trivial
theorem tw9781565385314040326:True:=trivial
theorem tw4554966793354934379:True:=trivial
theorem tw15302457997452218089:True:=trivial
theorem tw16745828057060388114:True:=trivial
theorem tw1490235070174981093:True:=trivial
end PySem.W.Fast
namespace My
open PySem PySem.Spec PyProof.Rows L2 PI
theorem dk1{d:D2}(h:d.ps.length=1)(sc:zE d.N d.ps (defScope d.st))(b:∀(kV doc pm:Value) (an:Option Addr) (cdv ct:Value),∀u0:Value,bindArgs (PySem.W.fnOf d.x d.x (zL d.st) (defBody d.st) (defScope d.st) .none kV doc pm an cdv ct) ⟨[u0],[]⟩=pure (d.ps.zip [u0])):z9 d:=⟨sc,λ_ _ _ _ _ _ us hl=>by
 rw[h]at hl;obtain⟨_,rfl⟩:=PI.len1 hl;exact b _ _ _ _ _ _ _⟩
theorem dk2{d:D2}(h:d.ps.length=2)(sc:zE d.N d.ps (defScope d.st))(b:∀(kV doc pm:Value) (an:Option Addr) (cdv ct:Value),∀u0 u1:Value,bindArgs (PySem.W.fnOf d.x d.x (zL d.st) (defBody d.st) (defScope d.st) .none kV doc pm an cdv ct) ⟨[u0,u1],[]⟩=pure (d.ps.zip [u0,u1])):z9 d:=⟨sc,λ_ _ _ _ _ _ us hl=>by
 rw[h]at hl;obtain⟨_,_,rfl⟩:=PI.len2 hl;exact b _ _ _ _ _ _ _ _⟩
theorem dk3{d:D2}(h:d.ps.length=3)(sc:zE d.N d.ps (defScope d.st))(b:∀(kV doc pm:Value) (an:Option Addr) (cdv ct:Value),∀u0 u1 u2:Value,bindArgs (PySem.W.fnOf d.x d.x (zL d.st) (defBody d.st) (defScope d.st) .none kV doc pm an cdv ct) ⟨[u0,u1,u2],[]⟩=pure (d.ps.zip [u0,u1,u2])):z9 d:=⟨sc,λ_ _ _ _ _ _ us hl=>by
 rw[h]at hl;obtain⟨_,_,_,rfl⟩:=PI.len3 hl;exact b _ _ _ _ _ _ _ _ _⟩
theorem dks:∀d∈Tb.ds,z9 d:=by
 unfold Tb;dsimp only
 repeat' (refine wO.2 ⟨?_,?_⟩;first|exact dk1 rfl ⟨rfl,rfl,rfl,by decide +kernel,rfl,by decide +kernel,by decide +kernel⟩ λ_ _ _ _ _ _ _=>rfl|exact dk2 rfl ⟨rfl,rfl,rfl,by decide +kernel,rfl,by decide +kernel,by decide +kernel⟩ λ_ _ _ _ _ _ _ _=>rfl|exact dk3 rfl ⟨rfl,rfl,rfl,by decide +kernel,rfl,by decide +kernel,by decide +kernel⟩ λ_ _ _ _ _ _ _ _ _=>rfl)
 exact λ_ h=>nomatch h
theorem all_mk{l:PySem.W.OpenLaw}{w:World}{K:PySem.W.Frag}{h:Heap}{mg:Str->Option Value}{fa:Addr}(X:K.In h)(G:h.Ns mainGlobals mg)(hfa:mg "law"=some (.ref fa))
  (hds:∀d∈Tb.ds,qAT K d)
  {ga0:Addr}{gn0:Nat}{gsl0:Array (Option Value)}{u0_0 u0_1 u0_2 u0_3 u0_4 u0_5:Tok}(g_LENGTHS:PySem.W.nsIn K mainGlobals "LENGTHS"=some (some (.ref ga0))) (m0:K.lookup ga0=some ⟨.type "tuple",none,.seq #[.int 1 u0_0,.int 2 u0_1,.int 4 u0_2,.int 8 u0_3,.int 16 u0_4,.int 32 u0_5] gn0,gsl0⟩)
  {tg_GREATEST_SIZE:Tok}(g_GREATEST_SIZE:PySem.W.nsIn K mainGlobals "GREATEST_SIZE"=some (some (.int 5 tg_GREATEST_SIZE)))
  {tg_MOST_SEALS:Tok}(g_MOST_SEALS:PySem.W.nsIn K mainGlobals "MOST_SEALS"=some (some (.int 8 tg_MOST_SEALS)))
  (z_len:PySem.W.nsIn K mainGlobals "len"=some none)
  (z_sum:PySem.W.nsIn K mainGlobals "sum"=some none)
  (z_all:PySem.W.nsIn K mainGlobals "all"=some none)
  (z_max:PySem.W.nsIn K mainGlobals "max"=some none)
  (z_min:PySem.W.nsIn K mainGlobals "min"=some none)
  (z_list:PySem.W.nsIn K mainGlobals "list"=some none)
  (z_int:PySem.W.nsIn K mainGlobals "int"=some none)
  (z_tuple:PySem.W.nsIn K mainGlobals "tuple"=some none)
  (z_range:PySem.W.nsIn K mainGlobals "range"=some none)
  (z_isinstance:PySem.W.nsIn K mainGlobals "isinstance"=some none)
  (z_bool:PySem.W.nsIn K mainGlobals "bool"=some none)
  (z_sorted:PySem.W.nsIn K mainGlobals "sorted"=some none)
  (z_set:PySem.W.nsIn K mainGlobals "set"=some none)
  (z_ValueError:PySem.W.nsIn K mainGlobals "ValueError"=some none)
  (main:∀ns:List Int,ns.length<=63->∃h',Fk Tb.fns 30 24 [.ref gs.length] (Zt gs ns)=.ok (.bl true,h')):
  ∃fd:FuncData,(∀(s:Shared) (v:Value),BindsTo s fd ⟨[v],[]⟩ [("_law_script",v)])/\∀base:Heap,K.In base->base.Ns mainGlobals mg->FnOk l.prog w K mg base CX0 60 fa fd ["_law_script"] (V7 K):=by
 obtain⟨fas,fds,hT⟩:=c9 X G Tb.ds hds dks;have O:T8 K mg [ga0] Tb fas fds:=by
  refine⟨hT,λx e hx=>?_,λx hx=>?_,λa ha=>(List.mem_cons.mp ha).elim (λz=>by subst z;exact⟨_,m0,rfl,rfl⟩) λha=>nomatch ha⟩
  ·have hx2:List.lookup x ([("LENGTHS",E.glob 0),("GREATEST_SIZE",E.cst (.int 5)),("MOST_SEALS",E.cst (.int 8))]:List (Str×E))=some e:=hx;simp only[List.lookup_cons,List.lookup_nil]at hx2;split at hx2
   ·rename_i hq;have hq2:x="LENGTHS":=by simpa using hq
    subst hq2;cases hx2;exact .inr ⟨_,_,rfl,PySem.W.mg_of X G g_LENGTHS,rfl⟩
   split at hx2
   ·rename_i hq;have hq2:x="GREATEST_SIZE":=by simpa using hq
    subst hq2;cases hx2;exact .inl ⟨_,_,rfl,PySem.W.mg_of X G g_GREATEST_SIZE,⟨_,rfl⟩,λ_=>rfl⟩
   split at hx2
   ·rename_i hq;have hq2:x="MOST_SEALS":=by simpa using hq
    subst hq2;cases hx2;exact .inl ⟨_,_,rfl,PySem.W.mg_of X G g_MOST_SEALS,⟨_,rfl⟩,λ_=>rfl⟩
   cases hx2
  ·have hx2:x∈(["len","sum","all","max","min","list","int","tuple","range","isinstance","bool","sorted","set","ValueError"]:List Str):=List.contains_iff_mem.mp hx;simp only[List.mem_cons,List.not_mem_nil,or_false]at hx2;rcases hx2 with rfl|rfl|rfl|rfl|rfl|rfl|rfl|rfl|rfl|rfl|rfl|rfl|rfl|rfl
   ·exact PySem.W.mg_none_of X G z_len
   ·exact PySem.W.mg_none_of X G z_sum
   ·exact PySem.W.mg_none_of X G z_all
   ·exact PySem.W.mg_none_of X G z_max
   ·exact PySem.W.mg_none_of X G z_min
   ·exact PySem.W.mg_none_of X G z_list
   ·exact PySem.W.mg_none_of X G z_int
   ·exact PySem.W.mg_none_of X G z_tuple
   ·exact PySem.W.mg_none_of X G z_range
   ·exact PySem.W.mg_none_of X G z_isinstance
   ·exact PySem.W.mg_none_of X G z_bool
   ·exact PySem.W.mg_none_of X G z_sorted
   ·exact PySem.W.mg_none_of X G z_set
   ·exact PySem.W.mg_none_of X G z_ValueError
 have hG:Jt K [ga0] gs:=⟨⟨.inr ⟨_,_,_,m0,rfl,rfl,by show 6<=sizeLine;decide,.cons ⟨_,rfl⟩ (.cons ⟨_,rfl⟩ (.cons ⟨_,rfl⟩ (.cons ⟨_,rfl⟩ (.cons ⟨_,rfl⟩ (.cons ⟨_,rfl⟩ (.nil))))))⟩,rfl⟩,True.intro⟩
 obtain⟨a,f,e1,e2,F,_,em,_⟩:=hT 24 _ rfl;have e:=hfa.symm.trans em;cases e;exact⟨f,qCt F (dks _ (List.mem_of_getElem? (i:=24) rfl)) rfl,λbase _ _=>K3 O hG (i:=24) rfl e1 e2 rfl main⟩
theorem walk{l:PySem.W.OpenLaw}{q:Program}{loose:List Str}{XP:(Str->Option Value)->Heap->Prop}{YP:World->Heap->Prop}{d:DefRec}{K:Params->PySem.W.Frag}(hn:l.most=some 63)(hdf:d.params.defaults=[])
  (hY:∀(w:World) (h:Heap),YP w h->(K w.params).In h)
  (F:∀(w:World) (mg:Str->Option Value) (fa:Addr) (h:Heap),(K w.params).In h->h.Ns mainGlobals mg->mg d.name=some (.ref fa) ->
   ∃fd:FuncData,(∀(s:Shared) (u:Value),BindsTo s fd ⟨[u],[]⟩ [("_law_script",u)])/\∀base:Heap,(K w.params).In base->base.Ns mainGlobals mg->FnOk l.prog w (K w.params) mg base CX0 60 fa fd ["_law_script"] (V7 (K w.params))):
  PySem.W.WalkO q loose XP YP l.row.toRowW d [] (λf vs=>PySem.call f vs):=
 L2.walk_of (n:=63) (k:=60) (x:="_law_script") (CX:=λ_=>CX0) (sp:=λw=>V7 (K w.params)) hn (by decide) hdf ⟨rfl,by decide,by decide,rfl⟩ hY F (λ_ _ a ns hl hO hS=>⟨a,ns,rfl,hO,hS,hl,λ_=>rfl⟩) λ_ _ _ _ _ z=>z
end My
open PySem PySem.W PyProof.Rows
set_option maxRecDepth 100000 in
set_option maxHeartbeats 0 in
theorem PySem.Challenge.cw_healhalves_k66_seals_held_holds : PySem.Challenge.rw_healhalves_k66_seals_held.Holds := by
 w_on;o_law;k_head;(case hw=>w_witness2)
 k_fill
 refine My.walk (l:=PySem.Challenge.rw_healhalves_k66_seals_held) rfl rfl (λw h Y=>PySem.W.kIn_of Y) ?F
 case F=>
  intro w mg fa h KX G hmg
  refine' My.all_mk KX G hmg ?ds ?g_LENGTHS ?m0 ?g_GREATEST_SIZE ?g_MOST_SEALS ?z_len ?z_sum ?z_all ?z_max ?z_min ?z_list ?z_int ?z_tuple ?z_range ?z_isinstance ?z_bool ?z_sorted ?z_set ?z_ValueError My.main
  case ds=>
   unfold My.Tb;dsimp only
   repeat' (refine wO.2 ⟨⟨_,_,_,_,_,_,_,_,_,_,by k_is,by k_is,by k_is,by k_is⟩,?_⟩)
   exact λ_ h=>nomatch h
  all_goals (try k_is)
