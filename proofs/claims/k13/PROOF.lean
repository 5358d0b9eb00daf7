import PyProof.Rows.All
import Wide.All
import OpenK.AllK
import Wide.FinOn
import Lean
import PyProof.EqAt
import PyProof.EqKinds
import PyProof.TupleCall
import PyProof.NeKinds
import PyProof.ZipIter
import PyProof.ReprRoads
import Wide.Words
import KE.KIntText
import PyProof.StrWalks
import PyProof.StrLawsJoin
import KE.KSortKey
import PyProof.Rows.MinMaxN
import KE.KDictOf
import KE.KItemsList
import PyProof.AttrMissHeap
import KE.KRevIter
import PyProof.EnumMake
import PyProof.EnumFor
import PyProof.WalksEnum
import PyProof.Rows.EnumRows
import PyProof.FactsAll.range_2
import PyProof.AutoRange
import KE.KTryMore
import PyProof.ExcArgsOwn
import OpenK.KOwn
import PyProof.NsDelKeeps
import PyProof.StrLawsIdx
import PyProof.StrLawsRepr
import PySem.Challenge.RW_healhalves_k13_nets_refused
def wB:=@List.getElem?_eq_getElem
def wC:=@List.mem_append
def wD:=@Nat.lt_of_lt_of_le
def wE:=@List.mem_append_left
def wF:=@List.size_toArray
def wG:=@List.mem_append_right
def wH:=@List.all_eq_true
def wI:=@List.not_mem_nil
def wJ:=@List.nodup_append
def wK:=@Nat.ne_of_lt
def wL:=@List.length_map
def wM:=@List.mem_singleton
def wN:=@List.forall_mem_cons
def wO:=@List.append_assoc
def wP:=@List.length_take
def wQ:=@List.getElem?_map
def wR:=@List.getElem?_take_of_lt
def wS:=@List.mem_map
def wT:=@List.getD_eq_getElem?_getD
def wU:=@List.filterMap_cons
def wV:=@Bool.false_ne_true
def wW:=@List.eraseIdx_eq_take_drop_succ
def wX:=@Nat.lt_trans
def wY:=@List.length_drop
def wZ:=@List.lookup_append
def wa:=@Bool.eq_iff_iff
def wb:=@List.map_map
def wc:=@Nat.le_of_lt
def wd:=@List.map_append
def we:=@Bool.and_self
def wf:=@List.getElem?_eq_none
def wg:=@Int.toNat_natCast
def wj:=@Bool.and_false
def wl:=@List.nodup_nil
def wm:=@Bool.or_eq_true
def wn:=@List.reverse_cons
def wo:=@List.mem_iff_getElem?
def wp:=@List.set_append_right
def wq:=@Nat.succ_le_succ
def wt:=@Nat.le_add_right
def wu:=@Nat.not_lt_of_le
def wv:=@List.drop_eq_nil_iff
def wx:=@List.range_eq_range'
def wy:=@List.mem_of_mem_drop
def wz:=@List.nodup_cons
def vA:=@Nat.le_add_left
def vB:=@List.mem_range
open PySem PySem.Spec in def vC:=@wpAny_bind
open PySem PySem.Spec in def vD:=@wpAny_pure
def vE:=@decide_eq_false
def vF:=@decide_eq_true
def vG:=@decide_eq_true_eq
def vH:=@of_decide_eq_true
open PySem PySem.Spec in def vI:=@wpAny_truthy_bool
def vJ:=@beq_self_eq_true
set_option bootstrap.genMatcherCode false
set_option compiler.extract_closed false
set_option genSizeOf false
set_option genSizeOfSpec false
set_option Elab.async false
set_option linter.all false
set_option maxRecDepth 100000
namespace L2
open PySem PySem.Spec PyProof.Rows
noncomputable abbrev Key:=Sum Int Str
noncomputable def R6:Key->Value->Bool
 | .inl k,v=>Value.isInt k v
 | .inr x,v=>Value.isStrOf x v
noncomputable def qIe(w:World):Key->Int
 | .inl k=>hashInt k
 | .inr x=>hashStr w x
theorem qj:∀{k:Key}{v:Value},R6 k v=true->(∃i t,k=Sum.inl i/\v=Value.int i t)\/(∃x t,k=Sum.inr x/\v=Value.str x t)
 | .inl i,v,h=>by
  obtain⟨t,e⟩:=Value.isInt_shape (k:=i) (v:=v) h;exact .inl ⟨i,t,rfl,e⟩
 | .inr x,v,h=>by
  obtain⟨t,e⟩:=Value.isStrOf_shape (x:=x) (v:=v) h;exact .inr ⟨x,t,rfl,e⟩
theorem W2(i:Int)(t:Tok):R6 (.inl i) (.int i t)=true:=by simp[R6,Value.isInt]
theorem a8(x:Str)(t:Tok):R6 (.inr x) (.str x t)=true:=by simp[R6,Value.isStrOf]
theorem qET(a b:Int):decide ((Sum.inl a:Key)=Sum.inl b)=(a==b):=by
 by_cases e:a=b
 ·subst e;simp
 ·have h:¬ (Sum.inl a:Key)=Sum.inl b:=λq=>e (Sum.inl.inj q);rw[vE h];exact(beq_eq_false_iff_ne.mpr e).symm
theorem qEU(a b:Str):decide ((Sum.inr a:Key)=Sum.inr b)=decide (a=b):=by
 by_cases e:a=b
 ·subst e;simp
 ·have h:¬ (Sum.inr a:Key)=Sum.inr b:=λq=>e (Sum.inr.inj q);rw[vE h,vE e]
theorem qEW(a:Int)(b:Str):decide ((Sum.inl a:Key)=Sum.inr b)=false:=vE (λq=>nomatch q)
theorem qE5(a:Str)(b:Int):decide ((Sum.inr a:Key)=Sum.inl b)=false:=vE (λq=>nomatch q)
noncomputable def zA(prog:Program)(w:World):PySem.KeyKind prog w Key where
 is:=R6
 hash:=qIe w
 inj:=λv a b ha hb=>by
  rcases qj ha with⟨i,t,rfl,rfl⟩|⟨x,t,rfl,rfl⟩
  ·rcases qj hb with⟨j,u,rfl,e⟩|⟨y,u,rfl,e⟩
   ·injection e with e1 _;rw[e1]
   ·exact nomatch e
  ·rcases qj hb with⟨j,u,rfl,e⟩|⟨y,u,rfl,e⟩
   ·exact nomatch e
   ·injection e with e1 _;rw[e1]
 byValue:=λk v h=>by
  rcases qj h with⟨i,t,rfl,rfl⟩|⟨x,t,rfl,rfl⟩<;>rfl
 pyHash:=λhv h=>by
  rcases qj hv with⟨i,t,rfl,rfl⟩|⟨x,t,rfl,rfl⟩
  ·exact wpAny_pyHash_int h
  ·exact wpAny_pyHash_str h
 eqBool:=λhu hv h=>by
  rcases qj hu with⟨i,t,rfl,rfl⟩|⟨x,t,rfl,rfl⟩
  ·rcases qj hv with⟨j,u,rfl,rfl⟩|⟨y,u,rfl,rfl⟩
   ·rw[qET]at h;exact wpAny_eqBool_int h
   ·rw[qEW]at h;exact SeqAt.EqAt.int_str i t y u _ _ _ _ h
  ·rcases qj hv with⟨j,u,rfl,rfl⟩|⟨y,u,rfl,rfl⟩
   ·rw[qE5]at h;exact SeqAt.EqAt.str_int x t j u _ _ _ _ h
   ·rw[qEU]at h;exact wpAny_eqBool_str h
 «strs»:=λk x t v h=>by
  rcases qj h with⟨i,u,rfl,e⟩|⟨y,u,rfl,e⟩
  ·exact nomatch e
  ·injection e with e1 _;subst e1;cases v<;>rfl
theorem G6(prog:Program)(w:World)(i:Int)(t:Tok):(zA prog w).is (.inl i) (.int i t)=true:=W2 i t
theorem D8(prog:Program)(w:World)(x:Str)(t:Tok):(zA prog w).is (.inr x) (.str x t)=true:=a8 x t
inductive V where
 |non|bl (b:Bool)|int (i:Int)|str (x:Str)|byt (b:Array UInt8)|flt (b:UInt64)|ref (a:Addr)|ty (n:String)
 deriving DecidableEq
def RelV:V->Value->Prop
 | .non,u=>u=Value.none
 | .bl b,u=>u=Value.bool b
 | .int i,u=>∃t,u=Value.int i t
 | .str x,u=>∃t,u=Value.str x t
 | .byt b,u=>∃t,u=Value.bytes b t
 | .flt b,u=>∃t,u=Value.float b t
 | .ref a,u=>u=Value.ref a
 | .ty n,u=>u=Value.type n
abbrev Vals:List V->List Value->Prop:=Paired RelV
theorem Vals.length{xs:List V}{us:List Value}(r:Vals xs us):xs.length=us.length:=Paired.length r
theorem Vals.get:∀{xs:List V}{us:List Value}{i:Nat}{x:V},Vals xs us->xs[i]?=some x->∃u,us[i]?=some u/\RelV x u
 |_,_,_,_,.nil,e=>by simp at e
 |_,_,0,_,.cons r _,e=>by simp at e;subst e;exact⟨_,rfl,r⟩
 |_,_,i+1,x,.cons _ t,e=>by
  obtain⟨u,h1,h2⟩:=Vals.get (i:=i) (x:=x) t (by simpa using e);exact⟨u,by simpa using h1,h2⟩
theorem Vals.set{x:V}{u:Value}(r:RelV x u):∀{xs:List V}{us:List Value}(i:Nat),Vals xs us->Vals (xs.set i x) (us.set i u)
 |_,_,_,.nil=>.nil
 |_,_,0,.cons _ t=>.cons r t
 |_,_,i+1,.cons q t=>.cons q (Vals.set r i t)
theorem Vals.append:∀{xs ys:List V}{us ws:List Value},Vals xs us->Vals ys ws->Vals (xs++ys) (us++ws)
 |_,_,_,_,.nil,s=>s
 |_,_,_,_,.cons r t,s=>.cons r (Vals.append t s)
theorem Vals.take:∀{xs:List V}{us:List Value}(n:Nat),Vals xs us->Vals (xs.take n) (us.take n)
 |_,_,0,_=>.nil
 |_,_,_+1,.nil=>.nil
 |_,_,n+1,.cons r t=>.cons r (Vals.take n t)
theorem Vals.drop:∀{xs:List V}{us:List Value}(n:Nat),Vals xs us->Vals (xs.drop n) (us.drop n)
 |_,_,0,r=>r
 |_,_,_+1,.nil=>.nil
 |_,_,n+1,.cons _ t=>Vals.drop n t
def RelO:Option V->Option Value->Prop
 |some v,some u=>RelV v u
 |none,none=>True
 |_,_=>False
def KV{κ:Type}:List (κ×V)->List (κ×Value)->Prop:=Paired λ(p:κ×V) (q:κ×Value)=>p.1=q.1/\RelV p.2 q.2
noncomputable def kV:Key->V
 | .inl i=>.int i
 | .inr x=>.str x
inductive HO where
 |lst (xs:List V)
 |tup (xs:List V)
 |dK (kvs:List (Key×V))|dT (kvs:List (List Key×V))
 |set (S:Int->Bool) (n:Nat)
 |ins (C dx:Addr) (fs:List (Str×V))
 |own (x:Addr)
 |xd (fs:List (Str×V))
 |met (f x:Addr)
 |rng (lo hi:Int)
 |frz (o:Obj) (u:HO)
 |tbl (ps:Array Value)
 |ext (φ:Heap->Prop)
noncomputable abbrev Hp:=Addr->Option HO
noncomputable def upd(H:Hp)(a:Addr)(o:HO):Hp:=λb=>if b=a then some o else H b
theorem qG{H:Hp}{a:Addr}{o:HO}:upd H a o a=some o:=by unfold upd;rw[if_pos rfl]
theorem qF{H:Hp}{a b:Addr}{o:HO}(h:b≠a):upd H a o b=H b:=by unfold upd;rw[if_neg h]
theorem qGV{H:Hp}{a b:Addr}{o u:HO}(h:H a=some o)(h':H b=some u)(d:o≠u):a≠b:=by
 intro e;subst e;rw[h]at h';exact d (Option.some.inj h')
theorem ne_of_none{H:Hp}{a b:Addr}{o:HO}(h:H a=some o)(h':H b=none):a≠b:=by
 intro e;subst e;rw[h]at h';cases h'
section
variable (P:Program)(w:World)
def ObjOk(H:Hp)(h:Heap)(a:Addr):HO->Prop
 | .lst xs=>xs.length<=sizeLine/\∃(its:List Value) (n:Nat),Vals xs its/\h.get? a=some { cls:=.type "list",data:=.seq its.toArray n }
 | .tup xs=>xs.length<=sizeLine/\∃its:List Value,Vals xs its/\IsTup h a its.toArray
 | .dK kvs=>kvs.length<=sizeLine/\(a==sysModules)=false/\∃vs,KV kvs vs/\h.DictOf (zA P w) a vs
 | .dT kvs=>kvs.length<=sizeLine/\(a==sysModules)=false/\∃xs:List (List Key×Addr×Value),
   Paired (λ(p:List Key×V) (q:List Key×Addr×Value)=>p.1=q.1/\H q.2.1=some (.tup (p.1.map kV))/\RelV p.2 q.2.2) kvs xs/\
   ∃o es ep,h.get? a=some o/\o.ExactDict/\o.data=.dict es ep/\es.toList=xs.map (entryOfKey (tupleKind (zA P w)))/\(xs.map (·.1)).Nodup
 | .set S n=>h.SetOf (intKind P w) a S n
 | .ins C dx fs=>H dx=some (.own a)/\fs.length<=1000/\dx≠a/\h.get? a=some (PySem.W.instObj C dx)/\
   ∃mA,h.Ns1 dx mA/\(∀f,RelO (fs.lookup f) (mA f))/\PySem.Within mA (fs.map (·.1))
 | .own _=>∃o,h.get? a=some o
 | .xd fs=>∃mA,h.Ns1 a mA/\∀f,RelO (fs.lookup f) (mA f)
 | .rng lo hi=>∃t u v,h.get? a=some { cls:=.type "range",data:=.fields #[.int lo t,.int hi u,.int 1 v] }
 | .frz o u=>h.get? a=some o/\ObjOk H h a u
 | .tbl ps=>h.get? a=some { cls:=.none,data:=.fields ps }
 | .met f x=>h.get? a=some (PySem.W.methodObj (.ref f) (.ref x))
 | .ext φ=>φ h/\(∃o,h.get? a=some o)/\∀h1 h2:Heap,φ h1->(∀o,h1.get? a=some o->h2.get? a=some o)->φ h2
def HOk(H:Hp)(h:Heap):Prop:=∀a o,H a=some o->ObjOk P w H h a o
end
section
variable{P:Program}{w:World}{H H':Hp}{h h':Heap}{a:Addr}{o:HO}
theorem ObjOk.lt(x:ObjOk P w H h a o):a<h.objs.size:=by
 cases o with
 |lst xs=>obtain⟨_,_,_,_,e⟩:=x;exact Heap.lt_size e
 |tup xs=>obtain⟨_,_,_,p⟩:=x;exact p.lt
 |dK kvs=>obtain⟨_,_,_,_,o,_,_,e,_⟩:=x;exact Heap.lt_size e
 |dT kvs=>obtain⟨_,_,_,_,o,_,_,e,_⟩:=x;exact Heap.lt_size e
 |set S n=>obtain⟨o,_,_,_,e,_⟩:=x;exact Heap.lt_size e
 |ins C dx fs=>obtain⟨_,_,_,e,_⟩:=x;exact Heap.lt_size e
 |own y=>obtain⟨_,e⟩:=x;exact Heap.lt_size e
 |xd fs=>obtain⟨_,⟨_,_,_,e,_⟩,_⟩:=x;exact Heap.lt_size e
 |rng lo hi=>obtain⟨_,_,_,e⟩:=x;exact Heap.lt_size e
 |frz ob u=>obtain⟨e,_⟩:=x;exact Heap.lt_size e
 |tbl ps=>exact Heap.lt_size (show h.get? a=some _ from x)
 |met f y=>exact Heap.lt_size (show h.get? a=some _ from x)
 |ext φ=>obtain⟨_,⟨_,e⟩,_⟩:=x;exact Heap.lt_size e
theorem Paired.mapP{α β:Type}{F G:α->β->Prop}:∀{l₁:List α}{l₂:List β},Paired F l₁ l₂->(∀a b,F a b->G a b)->Paired G l₁ l₂
 |_,_,.nil,_=>.nil
 |_,_,.cons r t,f=>.cons (f _ _ r) (Paired.mapP t f)
theorem ObjOk.stay(x:ObjOk P w H h a o)(k:∀b u,(b=a\/H b=some (.own a))->h.get? b=some u->h'.get? b=some u)
  (ho:∀b,H b=some (.own a)->H' b=some (.own a)) (ht:∀b xs,H b=some (.tup xs)->H' b=some (.tup xs)):ObjOk P w H' h' a o:=by
 induction o with
 |lst xs=>obtain⟨z,its,n,r,e⟩:=x;exact⟨z,its,n,r,k _ _ (.inl rfl) e⟩
 |tup xs=>obtain⟨z,its,r,ob,e,c⟩:=x;exact⟨z,its,r,ob,k _ _ (.inl rfl) e,c⟩
 |dK kvs=>obtain⟨z,y,vs,r,ob,es,ep,e,c⟩:=x;exact⟨z,y,vs,r,ob,es,ep,k _ _ (.inl rfl) e,c⟩
 |dT kvs=>
  obtain⟨z,y,xs,r,ob,es,ep,e,c⟩:=x;exact⟨z,y,xs,Paired.mapP r λp q z=>⟨z.1,ht _ _ z.2.1,z.2.2⟩,ob,es,ep,k _ _ (.inl rfl) e,c⟩
 |set S n=>obtain⟨ob,es,ep,t,e,c⟩:=x;exact⟨ob,es,ep,t,k _ _ (.inl rfl) e,c⟩
 |ins C dx fs=>
  obtain⟨d,z,ne,e,mA,⟨od,es,ep,e2,c⟩,r⟩:=x;exact⟨ho _ d,z,ne,k _ _ (.inl rfl) e,mA,⟨od,es,ep,k _ _ (.inr d) e2,c⟩,r⟩
 |own y=>obtain⟨ob,e⟩:=x;exact⟨ob,k _ _ (.inl rfl) e⟩
 |xd fs=>obtain⟨mA,⟨od,es,ep,e,c⟩,r⟩:=x;exact⟨mA,⟨od,es,ep,k _ _ (.inl rfl) e,c⟩,r⟩
 |rng lo hi=>obtain⟨t,u,v,e⟩:=x;exact⟨t,u,v,k _ _ (.inl rfl) e⟩
 |frz ob u ih=>obtain⟨e,q⟩:=x;exact⟨k _ _ (.inl rfl) e,ih q⟩
 |tbl ps=>
  have e:h.get? a=some { cls:=.none,data:=.fields ps }:=x;show h'.get? a=some { cls:=.none,data:=.fields ps };exact k a _ (.inl rfl) e
 |met f y=>
  have e:h.get? a=some (PySem.W.methodObj (.ref f) (.ref y)):=x;show h'.get? a=some (PySem.W.methodObj (.ref f) (.ref y));exact k a _ (.inl rfl) e
 |ext φ=>obtain⟨p,⟨o,e⟩,st⟩:=x;exact⟨st _ _ p λo q=>k _ _ (.inl rfl) q,⟨o,k _ _ (.inl rfl) e⟩,st⟩
theorem HOk.lt(x:HOk P w H h)(e:H a=some o):a<h.objs.size:=(x a o e).lt
theorem HOk.fresh(x:HOk P w H h)(e:h.objs.size<=a):H a=none:=by
 cases q:H a with
 |none=>rfl
 |some u=>exact absurd (wD (x.lt q) e) (Nat.lt_irrefl _)
theorem HOk.kept(x:HOk P w H h)(k:∀b u,h.get? b=some u->h'.get? b=some u):HOk P w H h':=λa o e=>
 (x a o e).stay (λb u _ q=>k b u q) (λ_ q=>q) λ_ _ q=>q
theorem HOk.laid(x:HOk P w H h)(k:∀b u,h.get? b=some u->h'.get? b=some u)(hp:h.objs.size<=a)(new:ObjOk P w (upd H a o) h' a o):HOk P w (upd H a o) h':=λb u e=>by
 have hn:=x.fresh hp;by_cases hb:b=a
 ·subst hb;rw[qG]at e;cases e;exact new
 ·rw[qF hb]at e;exact(x b u e).stay (λc v _ q=>k c v q) (λc q=>by rw[qF (ne_of_none q hn)];exact q) λc xs q=>by rw[qF (ne_of_none q hn)];exact q
end
def Rd(H:Hp)(a:Addr)(u:HO):Prop:=H a=some u\/∃o,H a=some (.frz o u)
theorem Rd.ok{P:Program}{w:World}{H:Hp}{h:Heap}{a:Addr}{u:HO}(r:Rd H a u)(x:HOk P w H h):ObjOk P w H h a u:=by
 rcases r with r|⟨o,r⟩
 ·exact x a u r
 ·obtain⟨_,q⟩:=x a _ r;exact q
def Mut:Option HO->Prop
 |some (.lst _)=>True
 |some (.dK _)=>True
 |some (.dT _)=>True
 |some (.set _ _)=>True
 |some (.ins _ _ _)=>True
 |some (.ext _)=>True
 |_=>False
section
variable{P:Program}{w:World}{H:Hp}{h h':Heap}{x e:Addr}{o':HO}
theorem HOk.write(ok:HOk P w H h)(mu:Mut (H x))(he:e=x\/H e=some (.own x))(k:∀b u,b≠e->h.get? b=some u->h'.get? b=some u)(heo:∃u,h'.get? e=some u)
  (new:ObjOk P w (upd H x o') h' x o'):HOk P w (upd H x o') h':=λb u q=>by
 have nown:∀c y,H c=some (.own y)->c≠x:=λc y r z=>by subst z;rw[r]at mu;exact mu
 have ntup:∀c xs,H c=some (.tup xs)->c≠x:=λc xs r z=>by subst z;rw[r]at mu;exact mu
 by_cases hb:b=x
 ·subst hb;rw[qG]at q;cases q;exact new
 ·rw[qF hb]at q;by_cases hbe:b=e
  ·have q':H b=some (.own x):=by
    rcases he with z|z
    ·exact absurd (hbe.trans z) hb
    ·rw[hbe];exact z
   rw[q]at q';cases q';obtain⟨v,hv⟩:=heo;exact⟨v,by rw[hbe];exact hv⟩
  ·refine(ok b u q).stay (λc v hc r=>k c v ?_ r) (λc r=>by rw[qF (nown c b r)];exact r) λc xs r=>by rw[qF (ntup c xs r)];exact r
   rcases hc with rfl|hc
   ·exact hbe
   ·rintro rfl;rcases he with z|z
    ·exact nown c b hc z
    ·rw[hc]at z;cases z;exact hb rfl
end
structure Un(fs ex:List Addr)(H H':Hp)(h h':Heap):Prop where
 keep:∀b o,h.get? b=some o->H b=none->b∉fs->b∉ex->h'.get? b=some o
 slot:∀b o,h.get? b=some o->H b=none->b∈fs->b∉ex->∃sl,h'.get? b=some { o with slots:=sl }
 free:∀b o,h.get? b=some o->H b=none->b∉ex->H' b=none
 there:∀b o,h.get? b=some o->b∉ex->∃o',h'.get? b=some o'
 tups:∀b xs,H b=some (.tup xs)->H' b=some (.tup xs)
 frzs:∀b o u,H b=some (.frz o u)->H' b=some (.frz o u)
 tbls:∀b ps,H b=some (.tbl ps)->∃more,H' b=some (.tbl (ps++more))
section
variable{fs fs' ex ex':List Addr}{H H1 H2:Hp}{h h1 h2 h':Heap}{a x e:Addr}{o:HO}
theorem Un.any(u:Un fs ex H H1 h h1){b:Addr}{ob:Obj}(q:h.get? b=some ob)(n:H b=none)(hx:b∉ex):∃sl,h1.get? b=some { ob with slots:=sl }:=by
 by_cases hb:b∈fs
 ·exact u.slot b ob q n hb hx
 ·exact⟨ob.slots,u.keep b ob q n hb hx⟩
theorem Un.kept(k:∀b u,h.get? b=some u->h'.get? b=some u):Un fs ex H H h h':=
 ⟨λb ob q _ _ _=>k b ob q,λb ob q _ _ _=>⟨ob.slots,k b ob q⟩,λ_ _ _ n _=>n,λb ob q _=>⟨ob,k b ob q⟩,λ_ _ q=>q,λ_ _ _ q=>q,λ_ ps q=>⟨#[],by rw[q];simp⟩⟩
theorem Un.refl:Un fs ex H H h h:=Un.kept λ_ _ q=>q
theorem Un.laid(k:∀b u,h.get? b=some u->h'.get? b=some u)(hp:h.objs.size<=a)(hn:H a=none):Un fs ex H (upd H a o) h h' where
 keep:=λb u q _ _ _=>k b u q
 slot:=λb u q _ _ _=>⟨u.slots,k b u q⟩
 free:=λb u q n _=>by rw[qF (wK (wD (Heap.lt_size q) hp))];exact n
 there:=λb u q _=>⟨u,k b u q⟩
 tups:=λb xs q=>by rw[qF (ne_of_none q hn)];exact q
 frzs:=λb u xs q=>by rw[qF (ne_of_none q hn)];exact q
 tbls:=λb ps q=>⟨#[],by rw[qF (ne_of_none q hn),q];simp⟩
theorem Un.write(mu:Mut (H x))(he:e=x\/H e=some (.own x))(k:∀b u,b≠e->h.get? b=some u->h'.get? b=some u)(heo:∃u,h'.get? e=some u):Un fs ex H (upd H x o) h h':=by
 have hx:∀b,H b=none->b≠x:=λb n z=>by subst z;rw[n]at mu;exact mu
 have hb:∀b,H b=none->b≠e:=λb n z=>by
  subst z;rcases he with r|r
  ·exact hx b n r
  ·rw[n]at r;cases r
 have hm:∀b u,H b=some u->¬ Mut (some u)->b≠x:=λb u q nm z=>by subst z;rw[q]at mu;exact nm mu
 refine⟨λb u q n _ _=>k b u (hb b n) q,λb u q n _ _=>⟨u.slots,k b u (hb b n) q⟩,λb u q n _=>by rw[qF (hx b n)];exact n,λb u q _=>?_,
  λb xs q=>by rw[qF (hm b _ q λz=>z)];exact q,λb u xs q=>by rw[qF (hm b _ q λz=>z)];exact q,λb ps q=>⟨#[],by rw[qF (hm b _ q λz=>z),q];simp⟩⟩
 by_cases hbe:b=e
 ·subst hbe;exact heo
 ·exact⟨u,k b u hbe q⟩
end
noncomputable def trk(h:Heap)(H:Hp):List Addr:=(List.range h.objs.size).filter λa=>(H a).isSome
noncomputable def qAO(h:Heap)(H:Hp):Heap:=PySem.W.hideAll h (trk h H)
theorem X8(h:Heap)(H:Hp):(qAO h H).objs.size=h.objs.size:=PySem.W.hideAll_size _ _
theorem z0{h:Heap}{H:Hp}{b:Addr}{o:Obj}(e:h.get? b=some o)(n:H b=none):(qAO h H).get? b=some o:=
 PySem.W.hideAll_get _ e λhm=>by
  have q:(H b).isSome=true:=(List.mem_filter.mp hm).2;rw[n]at q;simp at q
theorem qBz{h:Heap}{H:Hp}{b:Addr}{o:Obj}(e:(qAO h H).get? b=some o):h.get? b=some o/\H b=none:=by
 have e':h.get? b=some o:=PySem.W.of_hideAll (trk h H) e;refine⟨e',?_⟩;cases q:H b with
 |none=>rfl
 |some x=>
  have hm:b∈trk h H:=List.mem_filter.mpr ⟨vB.mpr (Heap.lt_size e'),by simp[q]⟩;have z:(qAO h H).get? b=none:=PySem.W.hideAll_none (trk h H) hm;rw[z]at e;cases e
noncomputable def qB1(g h:Heap)(L:Addr):List (Addr×Obj):=(List.range h.objs.size).filterMap λa=>if a=L\/(g.get? a).isSome=true then none else (h.get? a).map λo=>(a,o)
noncomputable def jz(g h:Heap)(L d:Addr):List (Addr×Obj):=(qB1 g h L).filter λp=>decide (p.1≠d)
structure Mod(K:PySem.W.Frag)(mg:Str->Option Value)(base:Heap):Prop where
 kin:K.In base
 glob:base.Ns mainGlobals mg
 blt:∃mb,base.Ns builtinsNs mb/\∀x:Str,x≠"__name__" -> mb x=bootBuiltins x
 nolimit:base.NoLimit
structure Cx where
 prog:Program
 w:World
 K:PySem.W.Frag
 mg:Str->Option Value
 base:Heap
 A:Around
 N:List Str
 s₀:Shared
 H₀:Hp
 env:Env
 outer:List Env
 stack:List Env
 ex:List Addr
 fn:Str->Bool
 calm:Bool
 pn:List (Addr×Obj)
 xe:Value->Shared->Prop
noncomputable def frs(l:List Env):List Addr:=l.filterMap (·.frame)
noncomputable abbrev Cx.fs(X:Cx):List Addr:=frs X.outer
def Vis(sc:Scope)(x:Str):Prop:=sc.names.lookup x=some .local\/sc.names.lookup x=some .cell\/sc.names.lookup x=some .free
def Loc(sc:Scope)(x:Str):Prop:=sc.names.lookup x=some .local\/sc.names.lookup x=some .cell
def qI7(env:Env)(h:Heap)(m:Str->Option Value)(x:Str)(u:Value):Prop:=
 (env.kindOf x=some .local/\m x=some u)\/((env.kindOf x=some .cell\/env.kindOf x=some .free)/\∃c,env.cells.lookup x=some c/\h.IsCell c (some u))
structure Cx.Ok(X:Cx):Prop where
 mod:Mod X.K X.mg X.base
 kind:X.env.scope.kind=.function
 glob:X.env.globals=mainGlobals
 blt:X.env.builtins=builtinsNs
 above:X.s₀.heap.objs.size<=X.env.locals
 inj:∀x y c,X.env.cells.lookup x=some c->X.env.cells.lookup y=some c->x=y
 has:∀x,(X.env.kindOf x=some .cell\/X.env.kindOf x=some .free)->∃c,X.env.cells.lookup x=some c
 cab:∀x c,X.fn x=true->X.env.cells.lookup x=some c->X.s₀.heap.objs.size<=c
 hd:X.calm=true->X.A.handled=none
 frames:X.A.frames=some X.stack
 stk:X.stack=X.outer\/(X.stack=X.env::X.outer/\X.env.frame=some X.env.locals)
 exf:∀b∈X.ex,b≠X.env.locals/\∀x c,X.env.cells.lookup x=some c->c≠b
 bs:∀b o,X.base.get? b=some o->X.s₀.heap.get? b=some o/\X.H₀ b=none
 bsz:X.base.objs.size<=X.s₀.heap.objs.size
 noex:∀b o,X.base.get? b=some o->b∉X.ex
 exfs:∀b∈X.ex,b∉X.fs
 funs:X.s₀.heap.FunFrames X.base X.outer
 frf:∀b∈X.fs,X.H₀ b=none
structure Inv(X:Cx)(pins:List (Addr×Obj))(σ:List (Option V))(H:Hp)(s:Shared):Prop where
 ok:X.Ok
 os:s.os=X.s₀.os
 bare:AllBare s.gens
 base:Un X.fs X.ex X.H₀ H X.s₀.heap s.heap
 loc:∃m,s.heap.Ns X.env.locals m/\∀(i:Nat) (x:Str) (v:V),X.N[i]?=some x->σ[i]?=some (some v)->Vis X.env.scope x->∃u,RelV v u/\qI7 X.env s.heap m x u
 cell:∀x c,X.env.cells.lookup x=some c->∃v,s.heap.IsCell c v
 free:H X.env.locals=none
 freeC:∀x c,X.env.cells.lookup x=some c->H c=none
 pin:∀p∈X.pn++pins,s.heap.get? p.1=some p.2/\H p.1=none/\p.1≠X.env.locals/\p.1∉X.fs/\∀v,p.2.data≠.cell v
 hok:HOk X.prog X.w H s.heap
 len:σ.length=X.N.length
section
variable{X:Cx}{pins:List (Addr×Obj)}{σ:List (Option V)}{H H':Hp}{s:Shared}{h':Heap}
theorem Cx.Ok.nofr(ok:X.Ok){b:Addr}{o:Obj}(e:X.base.get? b=some o):b∉X.fs:=λhb=>by
 have:=(ok.funs.mem hb).1;rw[e]at this;cases this
theorem Inv.bs(I:Inv X pins σ H s):∀b o,X.base.get? b=some o->s.heap.get? b=some o/\H b=none:=λb o e=>
 ⟨I.base.keep b o (I.ok.bs b o e).1 (I.ok.bs b o e).2 (I.ok.nofr e) (I.ok.noex b o e),I.base.free b o (I.ok.bs b o e).1 (I.ok.bs b o e).2 (I.ok.noex b o e)⟩
theorem Inv.bk(I:Inv X pins σ H s):∀b o,X.base.get? b=some o->s.heap.get? b=some o:=λb o e=>(I.bs b o e).1
theorem Inv.mod(I:Inv X pins σ H s):Mod X.K X.mg X.base:=I.ok.mod
theorem Inv.kIn(I:Inv X pins σ H s):X.K.In s.heap:=I.ok.mod.kin.keeps I.bk
theorem Inv.lt(I:Inv X pins σ H s):X.env.locals<s.heap.objs.size:=let ⟨_,hn,_⟩:=I.loc;hn.lt
theorem Inv.sz(I:Inv X pins σ H s):X.s₀.heap.objs.size<=s.heap.objs.size:=Nat.le_trans I.ok.above (wc I.lt)
theorem Inv.nofs(I:Inv X pins σ H s){a:Addr}(h:s.heap.objs.size<=a):a∉X.fs:=λhb=>by
 obtain⟨_,o,ho,_⟩:=I.ok.funs.mem hb;exact absurd (wD (Heap.lt_size ho) (Nat.le_trans I.sz h)) (Nat.lt_irrefl _)
theorem Inv.cne(I:Inv X pins σ H s):∀x c,X.env.cells.lookup x=some c->c≠X.env.locals:=λx c e z=>by
 obtain⟨v,o,ho,hd⟩:=I.cell x c e;obtain⟨m,⟨o',es,ep,ho',hd',_⟩,_⟩:=I.loc;rw[z,ho']at ho;cases ho;rw[hd']at hd;cases hd
theorem Inv.funs(I:Inv X pins σ H s):s.heap.FunFrames X.base X.outer:=by
 have all:∀(l:List Env),(∀b∈frs l,b∈X.fs)->X.s₀.heap.FunFrames X.base l->s.heap.FunFrames X.base l:=by
  intro l
  induction l with
  |nil=>intro _ _;trivial
  |cons env r ih=>
   intro hs hl;obtain⟨hk,⟨L,o,hf,hn,ho,hd⟩,hr⟩:=hl;have hL:L∈X.fs:=hs L (by unfold frs;rw[wU,hf];exact List.mem_cons_self);obtain⟨sl,e⟩:=I.base.slot L o ho (I.ok.frf L hL) hL λz=>I.ok.exfs L z hL;exact⟨hk,⟨L,_,hf,hn,e,hd⟩,ih (λb hb=>hs b (by unfold frs;rw[wU,hf];exact List.mem_cons_of_mem _ hb)) hr⟩
 exact all X.outer (λ_ hb=>hb) I.ok.funs
theorem Inv.stack(I:Inv X pins σ H s):s.heap.FunFrames X.base X.stack:=by
 rcases I.ok.stk with e|⟨e,hf⟩
 ·rw[e];exact I.funs
 ·rw[e];obtain⟨m,hn,_⟩:=I.loc;refine .cons (by rw[I.ok.kind];decide) hf hn ?_ I.funs;exact Heap.get?_none_of_le (Nat.le_trans I.ok.bsz I.ok.above)
theorem Inv.stkSub(I:Inv X pins σ H s):∀b∈frs X.stack,b∈X.env.locals::X.fs:=λb hb=>by
 rcases I.ok.stk with e|⟨e,hf⟩
 ·rw[e]at hb;exact List.mem_cons_of_mem _ hb
 ·rw[e]at hb;unfold frs at hb;rw[wU,hf]at hb;exact hb
theorem Inv.stkFree(I:Inv X pins σ H s):∀b∈frs X.stack,H b=none:=λb hb=>by
 rcases List.mem_cons.mp (I.stkSub b hb) with e|hb
 ·rw[e];exact I.free
 ·obtain⟨_,o,ho,_⟩:=I.ok.funs.mem hb;exact I.base.free b o ho (I.ok.frf b hb) λz=>I.ok.exfs b z hb
theorem Inv.step{g':Array GenState}{t':Nat}{d':Drawn}{ch:List Addr}(I:Inv X pins σ H s)
  (hch:∀b∈ch,(b∈X.ex\/X.s₀.heap.objs.size<=b)/\b≠X.env.locals/\(∀x c,X.env.cells.lookup x=some c->c≠b)/\∀p∈X.pn++pins,p.1≠b)
  (keep:∀b o,b≠X.env.locals->b∉X.fs->b∉ch->s.heap.get? b=some o->H b=none->h'.get? b=some o)
  (slot:∀b o,b≠X.env.locals->b∈X.fs->b∉ch->s.heap.get? b=some o->H b=none->∃sl,h'.get? b=some { o with slots:=sl }) (free:∀b o,b∉ch->s.heap.get? b=some o->H b=none->H' b=none)
  (there:∀b o,b∉ch->s.heap.get? b=some o->∃o',h'.get? b=some o')
  (tups:∀b xs,H b=some (.tup xs)->H' b=some (.tup xs)) (frzs:∀b o u,H b=some (.frz o u)->H' b=some (.frz o u)) (tbls:∀b ps,H b=some (.tbl ps)->∃more,H' b=some (.tbl (ps++more)))
  (ns:∀m,s.heap.Ns X.env.locals m->h'.Ns X.env.locals m) (hok:HOk X.prog X.w H' h') (hg:AllBare g'):
  Inv X pins σ H' { s with heap:=h',gens:=g',drawn:=d',toks:=t' }:=by
 have neL:∀b o,X.s₀.heap.get? b=some o->b≠X.env.locals:=λb o e=>wK (wD (Heap.lt_size e) I.ok.above);have neC:∀b o,X.s₀.heap.get? b=some o->b∉X.ex->b∉ch:=λb o e hx hb=>by
  rcases(hch b hb).1 with z|z
  ·exact hx z
  ·exact absurd (wD (Heap.lt_size e) z) (Nat.lt_irrefl _)
 have cellK:∀x c,X.env.cells.lookup x=some c->∀v,s.heap.IsCell c v->h'.IsCell c v:=λx c e v ⟨o,ho,hd⟩=>by
  have nch:c∉ch:=λz=>(hch c z).2.2.1 x c e rfl;by_cases hc:c∈X.fs
  ·obtain⟨sl,q⟩:=slot c o (I.cne x c e) hc nch ho (I.freeC x c e);exact⟨_,q,hd⟩
  ·exact⟨o,keep c o (I.cne x c e) hc nch ho (I.freeC x c e),hd⟩
 refine⟨I.ok,I.os,hg,⟨λb o e n hb hx=>?_,λb o e n hb hx=>?_,λb o e n hx=>?_,λb o e hx=>?_,λb xs e=>tups b xs (I.base.tups b xs e),λb o xs e=>frzs b o xs (I.base.frzs b o xs e),λb ps e=>?_⟩,?_,λx c e=>?_,?_,λx c e=>?_,λp hp=>?_,hok,I.len⟩
 ·exact keep b o (neL b o e) hb (neC b o e hx) (I.base.keep b o e n hb hx) (I.base.free b o e n hx)
 ·obtain⟨sl,e1⟩:=I.base.slot b o e n hb hx;obtain⟨sl',e2⟩:=slot b _ (neL b o e) hb (neC b o e hx) e1 (I.base.free b o e n hx);exact⟨sl',e2⟩
 ·obtain⟨o',e1⟩:=I.base.there b o e hx;exact free b o' (neC b o e hx) e1 (I.base.free b o e n hx)
 ·obtain⟨o',e1⟩:=I.base.there b o e hx;exact there b o' (neC b o e hx) e1
 ·obtain⟨m1,e1⟩:=I.base.tbls b ps e;obtain⟨m2,e2⟩:=tbls b _ e1;exact⟨m1++m2,by rw[e2,Array.append_assoc]⟩
 ·obtain⟨m,hn,hl⟩:=I.loc;refine⟨m,ns m hn,λi x v e1 e2 e3=>?_⟩;obtain⟨u,r,l⟩:=hl i x v e1 e2 e3;refine⟨u,r,?_⟩;rcases l with l|⟨k,c,e,z⟩
  ·exact .inl l
  ·exact .inr ⟨k,c,e,cellK x c e _ z⟩
 ·obtain⟨v,z⟩:=I.cell x c e;exact⟨v,cellK x c e v z⟩
 ·obtain⟨m,⟨o,_,_,ho,_⟩,_⟩:=I.loc;exact free _ o (λz=>(hch _ z).2.1 rfl) ho I.free
 ·obtain⟨v,o,ho,hd⟩:=I.cell x c e;exact free c o (λz=>(hch c z).2.2.1 x c e rfl) ho (I.freeC x c e)
 ·obtain⟨e,n,ne,nf,d⟩:=I.pin p hp;have nch:p.1∉ch:=λz=>(hch p.1 z).2.2.2 p hp rfl;exact⟨keep p.1 p.2 ne nf nch e n,free p.1 p.2 nch e n,ne,nf,d⟩
theorem Inv.un{t':Nat}(I:Inv X pins σ H s)(u:Un X.fs [] H H' s.heap h')(hok:HOk X.prog X.w H' h'):Inv X pins σ H' { s with heap:=h',toks:=t' }:=by
 obtain⟨m,⟨o,es,ep,ho,r⟩,_⟩:=id I.loc;obtain⟨sl,hL⟩:=u.any ho I.free (by simp);exact I.step (g':=s.gens) (d':=s.drawn) (ch:=[]) (λ_ z=>nomatch z) (λb o _ hb _ e n=>u.keep b o e n hb (by simp)) (λb o _ hb _ e n=>u.slot b o e n hb (by simp)) (λb o _ e n=>u.free b o e n (by simp)) (λb o _ e=>u.there b o e (by simp)) u.tups u.frzs u.tbls (λm' hm=>by
  obtain⟨o',es',ep',ho',r'⟩:=hm;rw[ho]at ho';cases ho';exact⟨_,es',ep',hL,r'⟩) hok I.bare
theorem Inv.call{g':Array GenState}{t':Nat}{d':Drawn}{ch:List Addr}(I:Inv X pins σ H s)(u:Un (frs X.stack) ch H H' s.heap h')(hok:HOk X.prog X.w H' h')(hg:AllBare g')
  (hch:∀b∈ch,(b∈X.ex\/X.s₀.heap.objs.size<=b)/\b≠X.env.locals/\(∀x c,X.env.cells.lookup x=some c->c≠b)/\∀p∈X.pn++pins,p.1≠b):
  Inv X pins σ H' { s with heap:=h',gens:=g',drawn:=d',toks:=t' }:=by
 obtain⟨m,⟨o,es,ep,ho,r⟩,_⟩:=id I.loc;obtain⟨sl,hL⟩:=u.any ho I.free λz=>(hch _ z).2.1 rfl;exact I.step (ch:=ch) hch (λb o hL hb hc e n=>u.keep b o e n (λz=>(List.mem_cons.mp (I.stkSub b z)).elim hL hb) hc) (λb o _ _ hc e n=>u.any e n hc) (λb o hc e n=>u.free b o e n hc) (λb o hc e=>u.there b o e hc) u.tups u.frzs u.tbls (λm' hm=>by
  obtain⟨o',es',ep',ho',r'⟩:=hm;rw[ho]at ho';cases ho';exact⟨_,es',ep',hL,r'⟩) hok hg
theorem Inv.turned{t':Nat}{it:Addr}(I:Inv X pins σ H s)(k:∀b o,b≠it->s.heap.get? b=some o->h'.get? b=some o)(hn:H it=none)(hL:it≠X.env.locals)
  (h1:it∈X.ex\/X.s₀.heap.objs.size<=it) (h2:∀x c,X.env.cells.lookup x=some c->c≠it) (h3:∀p∈X.pn++pins,p.1≠it):Inv X pins σ H { s with heap:=h',toks:=t' }:=by
 have nit:∀b u,H b=some u->b≠it:=λb u e z=>by rw[z,hn]at e;cases e
 refine I.step (g':=s.gens) (d':=s.drawn) (ch:=[it]) (λb hb=>?_) (λb o _ _ hc e _=>k b o (λz=>hc (by simp[z])) e) (λb o _ _ hc e _=>⟨o.slots,k b o (λz=>hc (by simp[z])) e⟩) (λ_ _ _ _ n=>n)
  (λb o hc e=>⟨o,k b o (λz=>hc (by simp[z])) e⟩) (λ_ _ e=>e) (λ_ _ _ e=>e) (λb ps e=>⟨#[],by rw[e];simp⟩) (λm hm=>?_) (λb u e=>?_) I.bare
 ·have e:b=it:=by simpa using hb
  subst e;exact⟨h1,hL,h2,h3⟩
 ·obtain⟨o,es,ep,ho,r⟩:=hm;exact⟨o,es,ep,k _ o (Ne.symm hL) ho,r⟩
 ·refine(I.hok b u e).stay (λc v hc q=>k c v ?_ q) (λ_ q=>q) λ_ _ q=>q;rcases hc with z|z
  ·rw[z];exact nit b u e
  ·exact nit c _ z
theorem Inv.tok(I:Inv X pins σ H s)(t:Nat):Inv X pins σ H { s with toks:=t }:=I.un (h':=s.heap) (t':=t) Un.refl I.hok
theorem Inv.kept{t':Nat}(I:Inv X pins σ H s)(k:∀b u,s.heap.get? b=some u->h'.get? b=some u):Inv X pins σ H { s with heap:=h',toks:=t' }:=I.un (Un.kept k) (I.hok.kept k)
theorem Inv.laid{a:Addr}{o:HO}{t':Nat}(I:Inv X pins σ H s)(k:∀b u,s.heap.get? b=some u->h'.get? b=some u)(hp:s.heap.objs.size<=a)(new:ObjOk X.prog X.w (upd H a o) h' a o):
  Inv X pins σ (upd H a o) { s with heap:=h',toks:=t' }:=I.un (Un.laid k hp (I.hok.fresh hp)) (I.hok.laid k hp new)
theorem Inv.write{x e:Addr}{o:HO}{t':Nat}(I:Inv X pins σ H s)(mu:Mut (H x))(he:e=x\/H e=some (.own x))(k:∀b u,b≠e->s.heap.get? b=some u->h'.get? b=some u)(heo:∃u,h'.get? e=some u)
  (new:ObjOk X.prog X.w (upd H x o) h' x o):Inv X pins σ (upd H x o) { s with heap:=h',toks:=t' }:=I.un (Un.write mu he k heo) (I.hok.write mu he k heo new)
theorem Inv.pins_of{pins':List (Addr×Obj)}(I:Inv X pins σ H s)(h:∀p∈pins',s.heap.get? p.1=some p.2/\H p.1=none/\p.1≠X.env.locals/\p.1∉X.fs/\∀v,p.2.data≠.cell v):Inv X pins' σ H s:=
 ⟨I.ok,I.os,I.bare,I.base,I.loc,I.cell,I.free,I.freeC,λp hp=>(wC.mp hp).elim (λz=>I.pin p (wE _ z)) (h p),I.hok,I.len⟩
theorem nodup_ix{N:List Str}(hN:N.Nodup){i j:Nat}{x:Str}(a:N[i]?=some x)(b:N[j]?=some x):i=j:=by
 obtain⟨h1,e1⟩:=List.getElem?_eq_some_iff.mp a;obtain⟨h2,e2⟩:=List.getElem?_eq_some_iff.mp b;exact(List.getElem_inj hN).mp (e1.trans e2.symm)
theorem Jg{M:Model}{A:Around}{E:Value->Shared->Prop}{i:Nat}{x:Str}{v:V}{u:Value}{Q:Unit->Shared->Prop}(I:Inv X pins σ H s)(hN:X.N.Nodup)(hi:X.N[i]?=some x)(hx:Loc X.env.scope x)(r:RelV v u)
  (h:∀s',Inv X pins (σ.set i (some v)) H s'->(∃a,Heap.SameBut a s.heap s'.heap/\(a=X.env.locals\/X.env.cells.lookup x=some a))->Q () s') (hf:X.fn x=true\/X.env.scope.names.lookup x=some .local:=by first|exact .inl rfl|exact .inr rfl|assumption):wpAny M A (storeName X.env x u) Q E s:=by
 obtain⟨m,hn,hl⟩:=id I.loc;have hcls:(X.env.scope.kind==.class||(X.env.scope.kind==.module&&X.env.locals != X.env.globals))=false:=by rw[I.ok.kind];rfl
 have hiσ:i<σ.length:=by rw[I.len];exact(List.getElem?_eq_some_iff.mp hi).1
 have cne:=I.cne;have tracked:∀{a:Addr}{h':Heap},(∃o,s.heap.get? a=some o/\H a=none)->Heap.SameBut a s.heap h'->HOk X.prog X.w H h':=λ{a h'} ha hs b ob e=>by
  obtain⟨_,_,hfree⟩:=ha;refine(I.hok b ob e).stay (λc w' hc q=>(hs.2 c ?_).trans q) (λ_ q=>q) λ_ _ q=>q;rintro rfl;rcases hc with rfl|hc
  ·rw[hfree]at e;cases e
  ·rw[hfree]at hc;cases hc
 rcases hx with hk|hk
 ·refine wpAny_storeName_local hk hn (λh' hn' hs=>?_) hcls;obtain⟨oL,_,_,hoL,_⟩:=id hn;refine h _ ⟨I.ok,I.os,I.bare,⟨λb o e n hb hx=>?_,λb o e n hb hx=>?_,I.base.free,λb o e hx=>?_,I.base.tups,I.base.frzs,I.base.tbls⟩,⟨_,hn',λj y v' e1 e2 e3=>?_⟩,λy c e=>?_,I.free,I.freeC,λp hp=>?_,tracked ⟨oL,hoL,I.free⟩ hs,by simpa using I.len⟩ ⟨_,hs,.inl rfl⟩
  ·exact(hs.2 b (wK (wD (Heap.lt_size e) I.ok.above))).trans (I.base.keep b o e n hb hx)
  ·obtain⟨sl,e1⟩:=I.base.slot b o e n hb hx;exact⟨sl,(hs.2 b (wK (wD (Heap.lt_size e) I.ok.above))).trans e1⟩
  ·obtain⟨o',e1⟩:=I.base.there b o e hx;exact⟨o',(hs.2 b (wK (wD (Heap.lt_size e) I.ok.above))).trans e1⟩
  ·by_cases hj:j=i
   ·subst hj;rw[hi]at e1;cases e1;rw[List.getElem?_set_self hiσ]at e2;cases e2;exact⟨u,r,.inl ⟨hk,by simp⟩⟩
   ·rw[List.getElem?_set_ne (Ne.symm hj)]at e2;obtain⟨u',r',q⟩:=hl j y v' e1 e2 e3;refine⟨u',r',?_⟩;rcases q with⟨k,e⟩|⟨k,c,e,z⟩
    ·refine .inl ⟨k,?_⟩;have:y≠x:=λe=>hj (nodup_ix hN e1 (e ▸ hi));simp[this,e]
    ·exact .inr ⟨k,c,e,z.sameBut hs (cne y c e)⟩
  ·obtain⟨w',z⟩:=I.cell y c e;exact⟨w',z.sameBut hs (cne y c e)⟩
  ·obtain⟨e,n,ne,nf,d⟩:=I.pin p hp;exact⟨(hs.2 p.1 ne).trans e,n,ne,nf,d⟩
 ·have hfn:X.fn x=true:=by
   rcases hf with z|z
   ·exact z
   ·rw[z]at hk;cases hk
  obtain⟨c,hc⟩:=I.ok.has x (.inl hk);obtain⟨w',z⟩:=I.cell x c hc;refine wpAny_storeName_cell I.ok.kind hk hc z (λh' hc' hs=>?_);obtain⟨oc,hoc,hocd⟩:=id z;refine h { s with heap:=h' } ⟨I.ok,I.os,I.bare,⟨λb o e n hb hx=>?_,λb o e n hb hx=>?_,I.base.free,λb o e hx=>?_,I.base.tups,I.base.frzs,I.base.tbls⟩,⟨m,hn.sameBut hs (Ne.symm (cne x c hc)),λj y v' e1 e2 e3=>?_⟩,λy c' e=>?_,I.free,I.freeC,λp hp=>?_,tracked ⟨oc,hoc,I.freeC x c hc⟩ hs,by simpa using I.len⟩ ⟨c,hs,.inr hc⟩
  ·exact(hs.2 b (wK (wD (Heap.lt_size e) (I.ok.cab x c hfn hc)))).trans (I.base.keep b o e n hb hx)
  ·obtain⟨sl,e1⟩:=I.base.slot b o e n hb hx;exact⟨sl,(hs.2 b (wK (wD (Heap.lt_size e) (I.ok.cab x c hfn hc)))).trans e1⟩
  ·obtain⟨o',e1⟩:=I.base.there b o e hx;exact⟨o',(hs.2 b (wK (wD (Heap.lt_size e) (I.ok.cab x c hfn hc)))).trans e1⟩
  ·by_cases hj:j=i
   ·subst hj;rw[hi]at e1;cases e1;rw[List.getElem?_set_self hiσ]at e2;cases e2;exact⟨u,r,.inr ⟨.inl hk,c,hc,hc'⟩⟩
   ·rw[List.getElem?_set_ne (Ne.symm hj)]at e2;obtain⟨u',r',q⟩:=hl j y v' e1 e2 e3;refine⟨u',r',?_⟩;rcases q with q|⟨k,c',e,z'⟩
    ·exact .inl q
    ·refine .inr ⟨k,c',e,z'.sameBut hs ?_⟩;rintro rfl;exact hj (nodup_ix hN e1 (I.ok.inj _ _ _ e hc ▸ hi))
  ·by_cases hcc:c'=c
   ·subst hcc;exact⟨_,hc'⟩
   ·obtain⟨w2,z2⟩:=I.cell y c' e;exact⟨w2,z2.sameBut hs hcc⟩
  ·obtain⟨e,n,ne,nf,d⟩:=I.pin p hp;refine⟨(hs.2 p.1 ?_).trans e,n,ne,nf,d⟩;intro q;rw[q,hoc]at e;have q':oc=p.2:=Option.some.inj e;exact d w' (by rw[<-q'];exact hocd)
theorem store_ok{M:Model}{A:Around}{E:Value->Shared->Prop}{i:Nat}{x:Str}{v:V}{u:Value}{Q:Unit->Shared->Prop}(I:Inv X pins σ H s)(hN:X.N.Nodup)(hi:X.N[i]?=some x)(hx:Loc X.env.scope x)(r:RelV v u)
  (h:∀s',Inv X pins (σ.set i (some v)) H s'->Q () s') (hf:X.fn x=true\/X.env.scope.names.lookup x=some .local:=by first|exact .inl rfl|exact .inr rfl|assumption):wpAny M A (storeName X.env x u) Q E s:=
 Jg I hN hi hx r (λs' I' _=>h s' I') hf
theorem Inv.call'{s':Shared}{ch:List Addr}(I:Inv X pins σ H s)(ho:s'.os=s.os)(u:Un (frs X.stack) ch H H' s.heap s'.heap)(hok:HOk X.prog X.w H' s'.heap)(hg:AllBare s'.gens)
  (hch:∀b∈ch,(b∈X.ex\/X.s₀.heap.objs.size<=b)/\b≠X.env.locals/\(∀x c,X.env.cells.lookup x=some c->c≠b)/\∀p∈X.pn++pins,p.1≠b):Inv X pins σ H' s':=by
 obtain⟨h',g',d',t',o'⟩:=s';have e:o'=s.os:=ho;subst e;exact I.call (g':=g') (t':=t') (d':=d') u hok hg hch
end
noncomputable abbrev XK:=Value->Option Addr->Hp->Prop
noncomputable abbrev St:=List (Option V)
noncomputable abbrev VK:=V->Hp->Prop
noncomputable abbrev TE:=St->Hp->VK->Prop
noncomputable abbrev TT:=St->Hp->(Bool->Hp->Prop)->Prop
noncomputable abbrev TA:=St->Hp->(List V->Hp->Prop)->Prop
structure C4 where
 nx:St->Hp->Prop
 rt:VK
 bk:St->Hp->Prop:=λ_ _=>False
 ct:St->Hp->Prop:=λ_ _=>False
noncomputable abbrev TS:=C4->St->Hp->Prop
def EP(X:Cx)(pins:List (Addr×Obj))(σ:St)(Q:VK)(u:Value)(s':Shared):Prop:=∃v H',Inv X pins σ H' s'/\RelV v u/\Q v H'
def TP(X:Cx)(pins:List (Addr×Obj))(σ:St)(Q:Bool->Hp->Prop)(b:Bool)(s':Shared):Prop:=∃H',Inv X pins σ H' s'/\Q b H'
def AP(X:Cx)(pins:List (Addr×Obj))(σ:St)(Q:List V->Hp->Prop)(us:List Value)(s':Shared):Prop:=∃vs H',Inv X pins σ H' s'/\Vals vs us/\Q vs H'
def SP(X:Cx)(pins:List (Addr×Obj))(D:C4)(f:Flow)(s':Shared):Prop:=
 match f with
 | .next=>∃σ' H',Inv X pins σ' H' s'/\D.nx σ' H'
 | .brk=>∃σ' H',Inv X pins σ' H' s'/\D.bk σ' H'
 | .cont=>∃σ' H',Inv X pins σ' H' s'/\D.ct σ' H'
 | .ret u=>∃v σ' H',Inv X pins σ' H' s'/\RelV v u/\D.rt v H'
def PE(X:Cx)(e:Expr)(t:TE):Prop:=
 ∀(pins:List (Addr×Obj)) (s:Shared) (σ:St) (H:Hp) (Q:VK),Inv X pins σ H s->t σ H Q->wpAny (model X.prog X.w) X.A (eval e X.env) (EP X pins σ Q) X.xe s
def PT(X:Cx)(e:Expr)(t:TT):Prop:=
 ∀(pins:List (Addr×Obj)) (s:Shared) (σ:St) (H:Hp) (Q:Bool->Hp->Prop),Inv X pins σ H s->t σ H Q->wpAny (model X.prog X.w) X.A (isTrue e X.env (eval e X.env)) (TP X pins σ Q) X.xe s
def PW(X:Cx)(e:Expr)(t:TT):Prop:=
 ∀(whole:Sem Value) (pins:List (Addr×Obj)) (s:Shared) (σ:St) (H:Hp) (Q:Bool->Hp->Prop),Inv X pins σ H s->t σ H Q->wpAny (model X.prog X.w) X.A (isTrue e X.env whole) (TP X pins σ Q) X.xe s
theorem PW.pt{X:Cx}{e:Expr}{t:TT}(h:PW X e t):PT X e t:=h _
def PA(X:Cx)(es:List Expr)(t:TA):Prop:=
 ∀(pos:Pos) (pins:List (Addr×Obj)) (s:Shared) (σ:St) (H:Hp) (Q:List V->Hp->Prop),Inv X pins σ H s->t σ H Q->wpAny (model X.prog X.w) X.A (spliced (backTo pos (starEach es X.env))) (AP X pins σ Q) X.xe s
def PS(X:Cx)(st:Stmt)(t:TS):Prop:=
 ∀(pins:List (Addr×Obj)) (s:Shared) (σ:St) (H:Hp) (D:C4),Inv X pins σ H s->t D σ H->wpAny (model X.prog X.w) X.A (exec st X.env) (SP X pins D) X.xe s
def PSs(X:Cx)(st:List Stmt)(t:TS):Prop:=
 ∀(pins:List (Addr×Obj)) (s:Shared) (σ:St) (H:Hp) (D:C4),Inv X pins σ H s->t D σ H->wpAny (model X.prog X.w) X.A (execs st X.env) (SP X pins D) X.xe s
theorem thn{α:Type}{t:Sem α}{Q Q':α->Shared->Prop}{M:Model}{A:Around}{E:Value->Shared->Prop}{s:Shared}(h:wpAny M A t Q E s)(hQ:∀a s,Q a s->Q' a s):wpAny M A t Q' E s:=wpAny_mono h hQ λ_ _ x=>x
section
variable{X:Cx}
theorem bin{a b:Expr}{ta tb:TE}(ha:PE X a ta)(hb:PE X b tb){pins:List (Addr×Obj)}{s:Shared}{σ:St}{H:Hp}{R:V->V->Hp->Prop}(I:Inv X pins σ H s)(h:ta σ H λx H1=>tb σ H1 λy H2=>R x y H2)
  {α:Type}{Q:α->Shared->Prop}{f:Value->Value->Sem α}
  (hf:∀v u s2 x y H2,Inv X pins σ H2 s2->RelV x v->RelV y u->R x y H2->wpAny (model X.prog X.w) X.A (f v u) Q X.xe s2):
  wpAny (model X.prog X.w) X.A (eval a X.env) (λv s₁=>wpAny (model X.prog X.w) X.A (eval b X.env) (λu s₂=>wpAny (model X.prog X.w) X.A (f v u) Q X.xe s₂) X.xe s₁) X.xe s:=by
 refine thn (ha pins s σ H _ I h) λv s1 ⟨x,H1,I1,r1,q1⟩=>?_;refine thn (hb pins s1 σ H1 _ I1 q1) λu s2 ⟨y,H2,I2,r2,q2⟩=>?_;exact hf v u s2 x y H2 I2 r1 r2 q2
noncomputable def qIl(i:Nat):TE:=λσ H Q=>∃v,σ[i]?=some (some v)/\Q v H
noncomputable def tC(v:V):TE:=λ_ H Q=>Q v H
theorem pe_var{i:Nat}{x:Str}{pos:Pos}(hN:X.N[i]?=some x)(hv:Vis X.env.scope x)(hd:(x==("__debug__":Str))=false:=by decide)(hcd:(x==("__classdict__":Str))=false:=by decide):PE X (.Name x pos) (qIl i):=by
 intro pins s σ H Q I h;obtain⟨v,e,h⟩:=h;obtain⟨m,hn,hl⟩:=I.loc;obtain⟨u,r,l⟩:=hl i x v hN e hv;have fin:EP X pins σ Q u s:=⟨v,H,I,r,h⟩
 rcases l with⟨hk,hm⟩|⟨hk,c,hc,hcell⟩
 ·exact wpAny_Name (wpAny_loadName_local I.ok.kind hk hn hm fin) hd
 ·rcases hk with hk|hk
  ·exact wpAny_Name (wpAny_loadName_cell I.ok.kind hk hc hcell fin) hd
  ·exact wpAny_Name (wpAny_loadName_free I.ok.kind hk hc hcell fin hcd) hd
theorem pe_int {i j pos}:PE X (.Constant (.int i) j pos) (tC (.int i)):=λ_ _ _ H _ I h=>wpAny_Constant_int ⟨.int i,H,I.tok _,⟨_,rfl⟩,h⟩
theorem pe_bl {b j pos}:PE X (.Constant (.bool b) j pos) (tC (.bl b)):=λ_ _ _ H _ I h=>Constant_bool ⟨.bl b,H,I,rfl,h⟩
theorem pe_non {j pos}:PE X (.Constant .none j pos) (tC .non):=λ_ _ _ H _ I h=>Constant_none ⟨.non,H,I,rfl,h⟩
theorem pe_str {x j pos}:PE X (.Constant (.str x) j pos) (tC (.str x)):=λ_ _ _ H _ I h=>Calls.Constant_str ⟨.str x,H,I.tok _,⟨_,rfl⟩,h⟩
def Gl(X:Cx)(x:Str):Prop:=X.env.kindOf x=some .globalImplicit
theorem ld_glob{E:Value->Shared->Prop}{pins:List (Addr×Obj)}{s:Shared}{σ:St}{H:Hp}{x:Str}{u:Value}{pos:Pos}{Q:Value->Shared->Prop}(I:Inv X pins σ H s)(hg:Gl X x)(hm:X.mg x=some u)(h:Q u s)
  (hd:(x==("__debug__":Str))=false:=by decide):wpAny (model X.prog X.w) X.A (eval (.Name x pos) X.env) Q E s:=
 Calls.Name_function_global I.ok.kind hg (Calls.loadGlobal_global (by rw[I.ok.glob];exact I.mod.glob.keeps I.bk) hm h) hd
theorem ld_blt{E:Value->Shared->Prop}{pins:List (Addr×Obj)}{s:Shared}{σ:St}{H:Hp}{x:Str}{u:Value}{pos:Pos}{Q:Value->Shared->Prop}(I:Inv X pins σ H s)(hg:Gl X x)(hm:X.mg x=none)(hv:bootBuiltins x=some u)(h:Q u s)
  (hn:x≠"__name__":=by decide) (hd:(x==("__debug__":Str))=false:=by decide):wpAny (model X.prog X.w) X.A (eval (.Name x pos) X.env) Q E s:=by
 obtain⟨mb,h1,h2⟩:=I.mod.blt;exact Calls.Name_function_global I.ok.kind hg (Calls.loadGlobal_builtin (by rw[I.ok.glob];exact I.mod.glob.keeps I.bk) hm (by rw[I.ok.blt];exact h1.keeps I.bk) ((h2 x hn).trans hv) h) hd
theorem pe_glob{x:Str}{v:V}{u:Value}{pos:Pos}(hg:Gl X x)(hm:X.mg x=some u)(r:RelV v u)(hd:(x==("__debug__":Str))=false:=by decide):PE X (.Name x pos) (tC v):=
 λ_ _ _ H _ I h=>ld_glob I hg hm ⟨v,H,I,r,h⟩ hd
theorem pe_bltn{x:Str}{v:V}{u:Value}{pos:Pos}(hg:Gl X x)(hm:X.mg x=none)(hv:bootBuiltins x=some u)(r:RelV v u)(hn:x≠"__name__":=by decide)(hd:(x==("__debug__":Str))=false:=by decide):PE X (.Name x pos) (tC v):=
 λ_ _ _ H _ I h=>ld_blt I hg hm hv ⟨v,H,I,r,h⟩ hn hd
variable{a b:Expr}{ta tb:TE}{pos:Pos}
def PC(X:Cx)(op:CmpOp)(a b:Expr)(t:TE):Prop:=
 ∀(pins:List (Addr×Obj)) (s:Shared) (σ:St) (H:Hp) (Q:VK),Inv X pins σ H s->t σ H Q ->
  wpAny (model X.prog X.w) X.A (eval a X.env) (λv s₁=>wpAny (model X.prog X.w) X.A (eval b X.env) (λu s₂=>wpAny (model X.prog X.w) X.A (compareOp op v u) (EP X pins σ Q) X.xe s₂) X.xe s₁) X.xe s
noncomputable def tB(t:TE):TT:=λσ H Q=>t σ H λx H1=>∃c,x=.bl c/\Q c H1
theorem qAt{op:CmpOp}{t:TE}(h:PC X op a b t)(h1:behindInMarks op b=false:=by first|exact nobehind _ (by decide) (by decide)|rfl):PE X (.Compare a [op] [b] pos) t:=λpins s σ H Q I hw=>wpAny_Compare1 (h pins s σ H Q I hw) h1
theorem pt_val{e:Expr}{t:TE}(h:PE X e t)(he:∀whole,isTrue e X.env whole=(do let v <- whole;standAt e.pos;holding [v] (truthy v)):=by intro _;rfl):PT X e (tB t):=by
 intro pins s σ H Q I hw;refine isTrue_plain (thn (h pins s σ H _ I hw) λv s1 ⟨x,H1,I1,r1,q1⟩=>?_) (he _);obtain⟨d,rfl,q⟩:=q1;cases r1;exact vI ⟨H1,I1,q⟩
variable{tA tB':TT}{jz:List Expr}
noncomputable def tAnd(t u:TT):TT:=λσ H Q=>t σ H λc H1=>if c=true then u σ H1 Q else Q false H1
noncomputable def tOr(t u:TT):TT:=λσ H Q=>t σ H λc H1=>if c=true then Q true H1 else u σ H1 Q
noncomputable def qIf(t:TT):TT:=λσ H Q=>t σ H λc H1=>Q (!c) H1
theorem pw_and1(ha:PT X a tA):PW X (.BoolOp .And [a] pos) tA:=by
 intro wh pins s σ H Q I h;refine isTrue_and (thn (ha pins s σ H Q I h) λc s1 e=>?_);cases c with
 |true=>exact isTrue_and_nil e
 |false=>exact e
theorem pw_or1(ha:PT X a tA):PW X (.BoolOp .Or [a] pos) tA:=by
 intro wh pins s σ H Q I h;refine isTrue_or (thn (ha pins s σ H Q I h) λc s1 e=>?_);cases c with
 |false=>exact isTrue_or_nil e
 |true=>exact e
theorem pw_and(ha:PT X a tA)(hb:PW X (.BoolOp .And (b::jz) pos) tB'):PW X (.BoolOp .And (a::b::jz) pos) (tAnd tA tB'):=by
 intro wh pins s σ H Q I h;refine isTrue_and (thn (ha pins s σ H _ I h) λc s1 ⟨H1,I1,q1⟩=>?_);cases c with
 |true=>exact hb wh pins s1 σ H1 Q I1 q1
 |false=>exact⟨H1,I1,q1⟩
theorem pw_or(ha:PT X a tA)(hb:PW X (.BoolOp .Or (b::jz) pos) tB'):PW X (.BoolOp .Or (a::b::jz) pos) (tOr tA tB'):=by
 intro wh pins s σ H Q I h;refine isTrue_or (thn (ha pins s σ H _ I h) λc s1 ⟨H1,I1,q1⟩=>?_);cases c with
 |true=>exact⟨H1,I1,q1⟩
 |false=>exact hb wh pins s1 σ H1 Q I1 q1
theorem pt_not(ha:PT X a tA):PT X (.UnaryOp .Not a pos) (qIf tA):=by
 intro pins s σ H Q I h;exact isTrue_not (ha pins s σ H (λc H1=>Q (!c) H1) I h)
noncomputable def tAndV(ta tb:TE):TE:=λσ H Q=>ta σ H λx H1=>∃c,x=.bl c/\if c=true then tb σ H1 Q else Q (.bl false) H1
noncomputable def tOrV(ta tb:TE):TE:=λσ H Q=>ta σ H λx H1=>∃c,x=.bl c/\if c=true then Q (.bl true) H1 else tb σ H1 Q
noncomputable def qGJ(ta:TE):TE:=λσ H Q=>ta σ H λx H1=>∃c,x=.bl c/\Q (.bl (!c)) H1
theorem pe_one {op}{t:TE}(h:PE X a t):PE X (.BoolOp op [a] pos) t:=λpins s σ H Q I hw=>BoolOp_one (h pins s σ H Q I hw)
theorem pe_and(ha:PE X a ta)(hb:PE X (.BoolOp .And (b::jz) pos) tb):PE X (.BoolOp .And (a::b::jz) pos) (tAndV ta tb):=by
 intro pins s σ H Q I h;refine BoolOp_and (thn (ha pins s σ H _ I h) λv s1 ⟨x,H1,I1,r1,q1⟩=>?_);obtain⟨c,rfl,q1⟩:=q1;cases r1;refine vI ?_;cases c with
 |true=>exact hb pins s1 σ H1 Q I1 q1
 |false=>exact⟨.bl false,H1,I1,rfl,q1⟩
theorem pe_or(ha:PE X a ta)(hb:PE X (.BoolOp .Or (b::jz) pos) tb):PE X (.BoolOp .Or (a::b::jz) pos) (tOrV ta tb):=by
 intro pins s σ H Q I h;refine BoolOp_or (thn (ha pins s σ H _ I h) λv s1 ⟨x,H1,I1,r1,q1⟩=>?_);obtain⟨c,rfl,q1⟩:=q1;cases r1;refine vI ?_;cases c with
 |false=>exact hb pins s1 σ H1 Q I1 q1
 |true=>exact⟨.bl true,H1,I1,rfl,q1⟩
theorem pe_not(ha:PE X a ta):PE X (.UnaryOp .Not a pos) (qGJ ta):=by
 intro pins s σ H Q I h;refine UnaryOp_ (thn (ha pins s σ H _ I h) λv s1 ⟨x,H1,I1,r1,q1⟩=>?_);obtain⟨c,rfl,q1⟩:=q1;cases r1;exact not_of (vI ⟨.bl (!c),H1,I1,rfl,q1⟩)
noncomputable def tIf(t:TT)(ta tb:TE):TE:=λσ H Q=>t σ H λc H1=>if c=true then ta σ H1 Q else tb σ H1 Q
theorem pe_ifExp{c:Expr}(hc:PT X c tA)(ha:PE X a ta)(hb:PE X b tb):PE X (.IfExp c a b pos) (tIf tA ta tb):=by
 intro pins s σ H Q I h;refine wpAny_IfExp (thn (hc pins s σ H _ I h) λd s1 ⟨H1,I1,q1⟩=>?_);cases d with
 |true=>exact ha pins s1 σ H1 Q I1 q1
 |false=>exact hb pins s1 σ H1 Q I1 q1
end
def SqL(K:PySem.W.Frag)(H:Hp)(a:Addr)(xs:List V):Prop:=
 Rd H a (.lst xs)\/
  ∃(o:Obj) (its:Array Value) (n:Nat),K.lookup a=some o/\o.cls=.type "list"/\o.dict=none/\o.data=.seq its n/\its.size<=sizeLine/\Vals xs its.toList
def SqT(K:PySem.W.Frag)(H:Hp)(a:Addr)(xs:List V):Prop:=
 Rd H a (.tup xs)\/
  ∃(o:Obj) (its:Array Value) (n:Nat),K.lookup a=some o/\o.cls=.type "tuple"/\o.data=.seq its n/\its.size<=sizeLine/\Vals xs its.toList
noncomputable def qIp:Value->Option V
 | .none=>some .non
 | .bool b=>some (.bl b)
 | .int i _=>some (.int i)
 | .str x _=>some (.str x)
 | .bytes b _=>some (.byt b)
 | .float b _=>some (.flt b)
 | .ref a=>some (.ref a)
 | .type n=>some (.ty n)
 |_=>none
theorem RelV.abs{x:V}{u:Value}(r:RelV x u):qIp u=some x:=by
 cases x with
 |non=>cases r;rfl
 |bl _=>cases r;rfl
 |int _=>obtain⟨t,rfl⟩:=r;rfl
 |str _=>obtain⟨t,rfl⟩:=r;rfl
 |byt _=>obtain⟨t,rfl⟩:=r;rfl
 |flt _=>obtain⟨t,rfl⟩:=r;rfl
 |ref _=>cases r;rfl
 |ty _=>cases r;rfl
theorem RelV.inj{x y:V}{u:Value}(r:RelV x u)(q:RelV y u):x=y:=Option.some.inj (r.abs.symm.trans q.abs)
theorem Vals.inj:∀{xs ys:List V}{us:List Value},Vals xs us->Vals ys us->xs=ys
 |_,_,_,.nil,.nil=>rfl
 |_,_,_,.cons r t,.cons r' t'=>by rw[r.inj r',Vals.inj t t']
section
variable{X:Cx}{pins:List (Addr×Obj)}{σ:St}{H:Hp}{s:Shared}{a:Addr}{xs ys:List V}
theorem Inv.list(I:Inv X pins σ H s)(h:SqL X.K H a xs):∃its:List Value,Vals xs its/\PlainL s.heap a its.toArray/\xs.length<=sizeLine:=by
 rcases h with h|⟨o,its,n,hk,hc,hd,hs,hz,r⟩
 ·obtain⟨z,its,n,r,e⟩:=h.ok I.hok;exact⟨its,r,⟨_,n,e,rfl,rfl,rfl⟩,z⟩
 ·refine⟨its.toList,r,⟨o,n,I.kIn a o hk,hc,hd,by simpa using hs⟩,?_⟩;have e:=r.length;simp only[Array.length_toList]at e;omega
theorem Inv.tuple(I:Inv X pins σ H s)(h:SqT X.K H a xs):∃its:List Value,Vals xs its/\IsTup s.heap a its.toArray/\xs.length<=sizeLine:=by
 rcases h with h|⟨o,its,n,hk,hc,hs,hz,r⟩
 ·obtain⟨z,its,r,p⟩:=h.ok I.hok;exact⟨its,r,p,z⟩
 ·refine⟨its.toList,r,⟨o,I.kIn a o hk,hc,n,by simpa using hs⟩,?_⟩;have e:=r.length;simp only[Array.length_toList]at e;omega
theorem Inv.list_inj(I:Inv X pins σ H s)(h:SqL X.K H a xs)(h':SqL X.K H a ys):xs=ys:=by
 obtain⟨its,r,⟨o,n,e,_,_,d⟩,_⟩:=I.list h;obtain⟨its',r',⟨o',n',e',_,_,d'⟩,_⟩:=I.list h';rw[e]at e';cases e';rw[d]at d';injection d' with d1 _;have:its=its':=by simpa using congrArg Array.toList d1
 subst this;exact r.inj r'
theorem Inv.tuple_inj(I:Inv X pins σ H s)(h:SqT X.K H a xs)(h':SqT X.K H a ys):xs=ys:=by
 obtain⟨its,r,⟨o,e,_,n,d⟩,_⟩:=I.tuple h;obtain⟨its',r',⟨o',e',_,n',d'⟩,_⟩:=I.tuple h';rw[e]at e';cases e';rw[d]at d';injection d' with d1 _;have:its=its':=by simpa using congrArg Array.toList d1
 subst this;exact r.inj r'
end
noncomputable abbrev Cx.wish(X:Cx)(E:Value->Shared->Prop):Cx:={ X with xe:=E }
noncomputable abbrev Cx.nox(X:Cx):Cx:=X.wish λ_ _=>False
theorem Cx.Ok.wish{X:Cx}(ok:X.Ok)(E:Value->Shared->Prop):(X.wish E).Ok:=
 ⟨ok.mod,ok.kind,ok.glob,ok.blt,ok.above,ok.inj,ok.has,ok.cab,ok.hd,ok.frames,ok.stk,ok.exf,ok.bs,ok.bsz,ok.noex,ok.exfs,ok.funs,ok.frf⟩
theorem Cx.Ok.unwish{X:Cx}{E:Value->Shared->Prop}(ok:(X.wish E).Ok):X.Ok:=
 ⟨ok.mod,ok.kind,ok.glob,ok.blt,ok.above,ok.inj,ok.has,ok.cab,ok.hd,ok.frames,ok.stk,ok.exf,ok.bs,ok.bsz,ok.noex,ok.exfs,ok.funs,ok.frf⟩
section
variable{X:Cx}{pins:List (Addr×Obj)}{σ:St}{H:Hp}{s:Shared}{E:Value->Shared->Prop}
theorem Inv.wish(I:Inv X pins σ H s)(E:Value->Shared->Prop):Inv (X.wish E) pins σ H s:=⟨I.ok.wish E,I.os,I.bare,I.base,I.loc,I.cell,I.free,I.freeC,I.pin,I.hok,I.len⟩
theorem Inv.unwish(I:Inv (X.wish E) pins σ H s):Inv X pins σ H s:=⟨I.ok.unwish,I.os,I.bare,I.base,I.loc,I.cell,I.free,I.freeC,I.pin,I.hok,I.len⟩
theorem SP.unwish{D:C4}{f:Flow}{s':Shared}(h:SP (X.wish E) pins D f s'):SP X pins D f s':=by
 cases f with
 |next=>obtain⟨σ',H',I,q⟩:=h;exact⟨σ',H',I.unwish,q⟩
 |brk=>obtain⟨σ',H',I,q⟩:=h;exact⟨σ',H',I.unwish,q⟩
 |cont=>obtain⟨σ',H',I,q⟩:=h;exact⟨σ',H',I.unwish,q⟩
 |ret u=>obtain⟨v,σ',H',I,r,q⟩:=h;exact⟨v,σ',H',I.unwish,r,q⟩
theorem PSs.nox{st:List Stmt}{t:TS}(h:PSs X.nox st t):PSs X st t:=λpins s σ H D I hw=>
 wpAny_mono (h pins s σ H D (I.wish _) hw) (λ_ _ q=>q.unwish) λ_ _ z=>False.elim z
end
section
variable{X:Cx}{st:Stmt}{jz:List Stmt}{t u:TS}{e:Expr}{te:TE}{pos:Pos}
noncomputable def qHB:TS:=λD σ H=>D.nx σ H
noncomputable def qIT(t u:TS):TS:=λD σ H=>t { D with nx:=u D } σ H
theorem pss_nil:PSs X [] qHB:=λ_ _ σ H _ I h=>wpAny_execs_nil ⟨σ,H,I,h⟩
theorem pss_cons(h1:PS X st t)(h2:PSs X jz u):PSs X (st::jz) (qIT t u):=by
 intro pins s σ H D I h;refine wpAny_execs_cons (thn (h1 pins s σ H { D with nx:=u D } I h) λf s1 q=>?_);cases f with
 |next=>
  obtain⟨σ',H',I',q⟩:=q;exact h2 pins s1 σ' H' D I' q
 |ret v=>exact q
 |brk=>exact q
 |cont=>exact q
theorem pss_one(h1:PS X st t):PSs X [st] t:=by
 intro pins s σ H D I h;refine wpAny_execs_cons (thn (h1 pins s σ H D I h) λf s1 q=>?_);cases f with
 |next=>exact wpAny_execs_nil q
 |ret v=>exact q
 |brk=>exact q
 |cont=>exact q
theorem Inv.quiet{pins:List (Addr×Obj)}{σ:St}{H:Hp}{s:Shared}(I:Inv X pins σ H s):interactive X.env=false:=by simp[interactive,I.ok.kind]
noncomputable def qF0(te:TE):TS:=λD σ H=>te σ H λ_ H1=>D.nx σ H1
theorem ps_expr(he:PE X e te)(hs:swapsWith e none pos.line X.env=pure false:=by rfl):PS X (.Expr e pos) (qF0 te):=by
 intro pins s σ H D I h;exact wpAny_Expr_any (thn (he pins s σ H _ I h) λv s1 ⟨x,H1,I1,r1,q1⟩=>⟨σ,H1,I1,q1⟩) I.quiet hs
noncomputable def qIi(te:TE):TS:=λD σ H=>te σ H D.rt
theorem ps_ret(he:PE X e te):PS X (.Return (some e) pos) (qIi te):=by
 intro pins s σ H D I h;exact wpAny_Return_some (thn (he pins s σ H _ I h) λv s1 ⟨x,H1,I1,r1,q1⟩=>⟨x,σ,H1,I1,r1,q1⟩)
noncomputable def qIR(c:TT)(t u:TS):TS:=λD σ H=>c σ H λb H1=>if b=true then t D σ H1 else u D σ H1
theorem ps_if{c:Expr}{a b:List Stmt}{tc:TT}(hc:PT X c tc)(ha:PSs X a t)(hb:PSs X b u):PS X (.If c a b pos) (qIR tc t u):=by
 intro pins s σ H D I h;refine wpAny_If (thn (hc pins s σ H _ I h) λd s1 ⟨H1,I1,q1⟩=>?_);cases d with
 |true=>exact ha pins s1 σ H1 D I1 q1
 |false=>exact hb pins s1 σ H1 D I1 q1
end
noncomputable abbrev TG:=V->St->Hp->(St->Hp->Prop)->Prop
noncomputable abbrev TGs:=List V->St->Hp->(St->Hp->Prop)->Prop
def PG(X:Cx)(target:Expr)(t:TG):Prop:=
 ∀(pins:List (Addr×Obj)) (s:Shared) (σ:St) (H:Hp) (v:V) (u:Value) (Q:St->Hp->Prop),Inv X pins σ H s->RelV v u->t v σ H Q ->
  wpAny (model X.prog X.w) X.A (assign target X.env u) (λ_ s'=>∃σ' H',Inv X pins σ' H' s'/\Q σ' H') X.xe s
def PGs(X:Cx)(ts:List Expr)(t:TGs):Prop:=
 ∀(pins:List (Addr×Obj)) (s:Shared) (σ:St) (H:Hp) (vs:List V) (us:List Value) (Q:St->Hp->Prop),Inv X pins σ H s->Vals vs us->t vs σ H Q ->
  wpAny (model X.prog X.w) X.A (assignInOrder ((assignEach ts X.env).map (·.2)) us) (λ_ s'=>∃σ' H',Inv X pins σ' H' s'/\Q σ' H') X.xe s
noncomputable abbrev TSet:=V->V->V->Hp->(Hp->Prop)->Prop
def PSet(X:Cx)(t:TSet):Prop:=
 ∀(pins:List (Addr×Obj)) (s:Shared) (σ:St) (H:Hp) (o i v:V) (ov iv u:Value) (Q:Hp->Prop),Inv X pins σ H s->RelV o ov->RelV i iv->RelV v u->t o i v H Q ->
  wpAny (model X.prog X.w) X.A (setItem ov iv u) (λ_ s'=>∃H',Inv X pins σ H' s'/\Q H') X.xe s
section
variable{X:Cx}{pos:Pos}
noncomputable def qCF(i:Nat):TG:=λv σ H Q=>Q (σ.set i (some v)) H
theorem pg_name{i:Nat}{x:Str}(hN:X.N.Nodup)(hi:X.N[i]?=some x)(hx:Loc X.env.scope x)(hf:X.fn x=true\/X.env.scope.names.lookup x=some .local:=by first|exact .inl rfl|exact .inr rfl|assumption):PG X (.Name x pos) (qCF i):=by
 intro pins s σ H v u Q I r h;exact wpAny_assign_Name (store_ok I hN hi hx r (λs' I'=>⟨_,H,I',h⟩) hf)
noncomputable def qIa:TGs:=λvs σ H Q=>vs=[]/\Q σ H
noncomputable def qGB(t:TG)(u:TGs):TGs:=λvs σ H Q=>∃v r,vs=v::r/\t v σ H λσ' H'=>u r σ' H' Q
theorem pgs_nil:PGs X [] qIa:=by
 intro pins s σ H vs us Q I r h;obtain⟨e,h⟩:=h;subst e;cases r;exact assignInOrder_nil ⟨σ,H,I,h⟩
theorem pgs_cons{e:Expr}{es:List Expr}{t:TG}{u:TGs}(h1:PG X e t)(h2:PGs X es u)
  (hs:(assignEach (e::es) X.env).map (·.2)=assign e X.env::(assignEach es X.env).map (·.2):=by rfl):PGs X (e::es) (qGB t u):=by
 intro pins s σ H vs us Q I r h;obtain⟨v,vr,e1,h⟩:=h;subst e1;cases r with
 |cons r rr=>
  rw[hs];refine assignInOrder_cons (thn (h1 pins s σ H _ _ _ I r h) λ_ s1 ⟨σ1,H1,I1,q1⟩=>?_);exact h2 pins s1 σ1 H1 _ _ Q I1 rr q1
noncomputable def qIt(K:PySem.W.Frag)(n:Nat)(t:TGs):TG:=λv σ H Q=>∃a xs,v=.ref a/\SqT K H a xs/\xs.length=n/\t xs σ H Q
theorem pg_tup{es:List Expr}{k:Nat}{t:TGs}{n:Nat}(hc:X.calm=true)(h:PGs X es t)
  (hn:(assignEach es X.env).length=n:=by rfl) (hst:(assignEach es X.env).findIdx? (·.1)=none:=by rfl):PG X (.Tuple es k pos) (qIt X.K n t):=by
 intro pins s σ H v u Q I r hw;obtain⟨a,xs,e1,hq,hl,hw⟩:=hw;subst e1;cases r;obtain⟨its,rv,ht,hz⟩:=I.tuple hq;refine assign_Tuple_tuple (I.ok.hd hc) ht (by simp[hn,<-hl,rv.length]) hst λh' hx=>?_;have I1:Inv X pins σ H { s with heap:=h' }:=I.kept (t':=s.toks) λb o e=>hx b o (wK (Heap.lt_size e)) e;exact h pins _ σ H xs _ Q I1 (by simpa using rv) hw
noncomputable def qIv(to ti:TE)(t:TSet):TG:=λv σ H Q=>to σ H λo H1=>ti σ H1 λi H2=>t o i v H2 λH3=>Q σ H3
theorem pg_sub{o i:Expr}{to ti:TE}{t:TSet}(ho:PE X o to)(hi:PE X i ti)(hs:PSet X t)
  (ha:∀v,assign (.Subscript o i pos) X.env v=(do
   let ov <- holding [v] (eval o X.env)
   let iv <- holding [v,ov] (eval i X.env)
   standAt pos
   holding [v,ov,iv] (setItem ov iv v)
   release [v,ov,iv] []):=by intro _;rfl):PG X (.Subscript o i pos) (qIv to ti t):=by
 intro pins s σ H v u Q I r h;rw[ha];refine vC (wpAny_holding (thn (ho pins s σ H _ I h) λov s1 ⟨x,H1,I1,r1,q1⟩=>?_));refine vC (wpAny_holding (thn (hi pins s1 σ H1 _ I1 q1) λiv s2 ⟨y,H2,I2,r2,q2⟩=>?_));refine vC (wpAny_standAt (vC (wpAny_holding (thn (hs pins s2 σ H2 x y v ov iv u _ I2 r1 r2 r q2) λ_ s3 ⟨H3,I3,q3⟩=>?_))));exact wpAny_release ⟨σ,H3,I3,q3⟩
noncomputable def tAsg(te:TE)(g:TG):TS:=λD σ H=>te σ H λx H1=>g x σ H1 D.nx
theorem ps_asg{tg e:Expr}{te:TE}{g:TG}(he:PE X e te)(hg:PG X tg g)(hs:swapsWithSole [tg] e pos.line X.env=pure false:=by rfl)(hw:swappedStores [tg] e X.env=pure none:=by rfl)
  (h1:(assignEach [tg] X.env).map (·.2)=[assign tg X.env]:=by rfl):PS X (.Assign [tg] e pos) (tAsg te g):=by
 intro pins s σ H D I h;refine wpAny_Assign_stores (thn (he pins s σ H _ I h) λv s1 ⟨x,H1,I1,r1,q1⟩=>?_) hs hw;rw[h1];exact thn (hg pins s1 σ H1 x v _ I1 r1 q1) λ_ s2 q=>q
theorem ps_set{i:Nat}{x:Str}{e:Expr}{te:TE}{pos':Pos}(hN:X.N.Nodup)(hi:X.N[i]?=some x)(hx:Loc X.env.scope x)(he:PE X e te)(hs:swapsWith e (some (.Name x pos')) pos.line X.env=pure false:=by rfl)(hf:X.fn x=true\/X.env.scope.names.lookup x=some .local:=by first|exact .inl rfl|exact .inr rfl|assumption):
  PS X (.Assign [.Name x pos'] e pos) (tAsg te (qCF i)):=by
 intro pins s σ H D I h;refine wpAny_Assign_Name (thn (he pins s σ H _ I h) λv s1 ⟨y,H1,I1,r1,q1⟩=>?_) hs;exact store_ok I1 hN hi hx r1 (λs2 I2=>⟨_,H1,I2,q1⟩) hf
end
structure It where
 go:Nat->Hp->Prop
 yld:Nat->Hp->V->Hp->Prop
 stop:Nat->Hp->Prop
def ZJ(X:Cx)(pins:List (Addr×Obj))(H:Hp)(b:Addr):Prop:=
 H b=none/\b≠X.env.locals/\b∉X.fs/\(b∈X.ex\/X.s₀.heap.objs.size<=b)/\(∀x c,X.env.cells.lookup x=some c->c≠b)/\∀p∈X.pn++pins,p.1≠b
theorem Inv.fpOk{X:Cx}{pins:List (Addr×Obj)}{σ:St}{H H':Hp}{s:Shared}{b:Addr}(I:Inv X pins σ H s)(hb:s.heap.objs.size<=b)(hn:H' b=none):ZJ X pins H' b:=by
 refine⟨hn,Nat.ne_of_gt (wD I.lt hb),I.nofs hb,.inr (Nat.le_trans I.sz hb),λx c e z=>?_,λp hp z=>?_⟩
 ·obtain⟨v,q⟩:=I.cell x c e;exact absurd (wD q.lt (by rw[z];exact hb)) (Nat.lt_irrefl _)
 ·exact absurd (wD (Heap.lt_size (I.pin p hp).1) (by rw[z];exact hb)) (Nat.lt_irrefl _)
structure Zi(P:Program)(w:World)(K:PySem.W.Frag)(tg:Expr)(J:It)(fp:List Addr)(it:Addr)(tn:Nat->Heap->Prop):Prop where
 mem:it∈fp
 obj:∀i h,tn i h->∀b∈fp,∃o,h.get? b=some o/\∀v,o.data≠.cell v
 keep:∀i h h',tn i h->(∀b∈fp,∀o,h.get? b=some o->h'.get? b=some o)->tn i h'
 item:∀(X:Cx),X.prog=P->X.w=w->X.K=K->X.calm=true->∀(i:Nat) (pins:List (Addr×Obj)) (s:Shared) (σ:St) (H:Hp) (E:Value->Shared->Prop),Inv X pins σ H s->(∀b∈fp,ZJ X pins H b)->tn i s.heap->J.go i H ->
  wpAny (model P w) X.A (pyNext (.ref it)) (λr s1=>∃u,r=some u/\
   wpAny (model P w) X.A (letOwnedTupleGo tg (.ref it) u) (λ_ s2=>∃x H',Inv X pins σ H' s2/\RelV x u/\J.yld i H x H'/\tn (i+1) s2.heap/\∀b∈fp,H' b=none) E s1) E s
 done:∀(X:Cx),X.prog=P->X.w=w->X.K=K->X.calm=true->∀(i:Nat) (pins:List (Addr×Obj)) (s:Shared) (σ:St) (H:Hp) (E:Value->Shared->Prop),Inv X pins σ H s->(∀b∈fp,ZJ X pins H b)->tn i s.heap->J.stop i H ->
  wpAny (model P w) X.A (pyNext (.ref it)) (λr s1=>r=none/\Inv X pins σ H s1) E s
 self:∀(A:Around) (i:Nat) (s:Shared) (Q:Value->Shared->Prop) (E:Value->Shared->Prop),tn i s.heap->Q (.ref it) s->wpAny (model P w) A (pyIter (.ref it)) Q E s
noncomputable abbrev TI:=St->Hp->(It->Hp->Prop)->Prop
def PIE(X:Cx)(pins:List (Addr×Obj))(σ:St)(tg:Expr)(R:It->Hp->Prop)(itv:Value)(s2:Shared):Prop:=
 ∃(it:Addr) (fp:List Addr) (tn:Nat->Heap->Prop) (J:It) (H':Hp),itv=.ref it/\Inv X pins σ H' s2/\Zi X.prog X.w X.K tg J fp it tn/\tn 0 s2.heap/\(∀b∈fp,ZJ X pins H' b)/\R J H'
def PI(X:Cx)(tg iter:Expr)(wi:TI):Prop:=
 ∀(pins:List (Addr×Obj)) (s:Shared) (σ:St) (H:Hp) (R:It->Hp->Prop),Inv X pins σ H s->wi σ H R ->
  wpAny (model X.prog X.w) X.A (eval iter X.env) (λv s1=>wpAny (model X.prog X.w) X.A (pyIter v) (PIE X pins σ tg R) X.xe s1) X.xe s
theorem go_of{M:Model}{A:Around}{E:Value->Shared->Prop}{s:Shared}{tg:Expr}{it:Addr}{u:Value}{o:Obj}{n:String}{vs:Array Value}{Q:Unit->Shared->Prop}(ho:s.heap.get? it=some o)(hc:o.cls=.type n)(hd:o.data=.fields vs)
  (hn:["enumerate","zip","dict_itemiterator","dict_reverseitemiterator","odict_iterator","itertools.zip_longest","itertools.pairwise"].contains n=false) (hQ:Q () s):wpAny M A (letOwnedTupleGo tg (.ref it) u) Q E s:=by
 unfold letOwnedTupleGo;cases tg<;>first
  |exact vD hQ
  | (cases u<;>first
    |exact vD hQ
    | (refine vC (wpAny_load ho ?_)
       rw[hc,hd];show wpAny M A (if (["enumerate","zip","dict_itemiterator","dict_reverseitemiterator","odict_iterator","itertools.zip_longest","itertools.pairwise"].contains n&&vs[0]?==some (rawInt _))=true then _ else _) Q E s;rw[if_neg (by intro h;rw[hn,Bool.false_and]at h;cases h)];exact vD hQ))
noncomputable def Itl(K:PySem.W.Frag)(a:Addr):It:=
 ⟨λi H=>∃xs x,SqL K H a xs/\xs[i]?=some x,λi H x H'=>H'=H/\∀xs,SqL K H a xs->xs[i]?=some x,λi H=>∃xs,SqL K H a xs/\xs.length<=i⟩
noncomputable def Itt(K:PySem.W.Frag)(a:Addr):It:=
 ⟨λi H=>∃xs x,SqT K H a xs/\xs[i]?=some x,λi H x H'=>H'=H/\∀xs,SqT K H a xs->xs[i]?=some x,λi H=>∃xs,SqT K H a xs/\xs.length<=i⟩
noncomputable def Itr(lo:Int)(n:Nat):It:=⟨λi _=>i<n,λi H x H'=>H'=H/\x=.int (lo+i),λi _=>n<=i⟩
theorem turn_list{P:Program}{w:World}{K:PySem.W.Frag}{tg:Expr}(a it:Addr):Zi P w K tg (Itl K a) [it] it (λi h=>h.IsListIter it a i) where
 mem:=by simp
 obj:=λi h st b hb=>by
  have e:b=it:=by simpa using hb
  subst e;obtain⟨o,e,c,d⟩:=st;exact⟨o,e,λv z=>by rw[d]at z;cases z⟩
 keep:=λi h h' st k=>st.at λo e=>k it (by simp) o e
 item:=by
  intro X hP hw hK hc i pins s σ H E I hf st hg;subst hP hw hK;obtain⟨xs,x,hq,hx⟩:=hg;obtain⟨its,rv,p,hz⟩:=I.list hq;obtain⟨u,hu,ru⟩:=rv.get hx;obtain⟨f0,f1,f2,f3,f4,f5⟩:=hf it (by simp);refine wpAny_pyNext_list_item st p.isList (x:=u) (by simpa using hu) λh' st' sb=>?_;have I1:Inv X pins σ H { s with heap:=h' }:=I.turned (t':=s.toks) (λb o hb e=>(sb.2 b hb).trans e) f0 f1 f3 f4 f5;obtain⟨o,e,c,d⟩:=id st';exact⟨u,rfl,go_of (s:={ s with heap:=h' }) e c d (by decide) ⟨x,H,I1,ru,⟨rfl,λys hy=>by rw[I.list_inj hy hq];exact hx⟩,st',λb hb=>(hf b hb).1⟩⟩
 done:=by
  intro X hP hw hK hc i pins s σ H E I hf st hg;subst hP hw hK;obtain⟨xs,hq,hx⟩:=hg;obtain⟨its,rv,p,hz⟩:=I.list hq;obtain⟨f0,f1,f2,f3,f4,f5⟩:=hf it (by simp);have hl:=rv.length;exact wpAny_pyNext_list_end (I.ok.hd hc) st p.isList (by simp;omega) λh' eb=>⟨rfl,I.turned (t':=s.toks) (λb o hb e=>eb b o hb e) f0 f1 f3 f4 f5⟩
 self:=λ_ _ _ _ _ st h=>wpAny_pyIter_listiter st h
theorem turn_tuple{P:Program}{w:World}{K:PySem.W.Frag}{tg:Expr}(a it:Addr):Zi P w K tg (Itt K a) [it] it (λi h=>h.IsTupleIter it a i) where
 mem:=by simp
 obj:=λi h st b hb=>by
  have e:b=it:=by simpa using hb
  subst e;obtain⟨o,e,c,d⟩:=st;exact⟨o,e,λv z=>by rw[d]at z;cases z⟩
 keep:=λi h h' st k=>st.at λo e=>k it (by simp) o e
 item:=by
  intro X hP hw hK hc i pins s σ H E I hf st hg;subst hP hw hK;obtain⟨xs,x,hq,hx⟩:=hg;obtain⟨its,rv,p,hz⟩:=I.tuple hq;obtain⟨u,hu,ru⟩:=rv.get hx;obtain⟨f0,f1,f2,f3,f4,f5⟩:=hf it (by simp);refine wpAny_pyNext_tuple_item st (show s.heap.IsTuple a its.toArray from p) (x:=u) (by simpa using hu) λh' st' sb=>?_;have I1:Inv X pins σ H { s with heap:=h' }:=I.turned (t':=s.toks) (λb o hb e=>(sb.2 b hb).trans e) f0 f1 f3 f4 f5;obtain⟨o,e,c,d⟩:=id st';exact⟨u,rfl,go_of (s:={ s with heap:=h' }) e c d (by decide) ⟨x,H,I1,ru,⟨rfl,λys hy=>by rw[I.tuple_inj hy hq];exact hx⟩,st',λb hb=>(hf b hb).1⟩⟩
 done:=by
  intro X hP hw hK hc i pins s σ H E I hf st hg;subst hP hw hK;obtain⟨xs,hq,hx⟩:=hg;obtain⟨its,rv,p,hz⟩:=I.tuple hq;obtain⟨f0,f1,f2,f3,f4,f5⟩:=hf it (by simp);have hl:=rv.length;exact wpAny_pyNext_tuple_end (I.ok.hd hc) st (show s.heap.IsTuple a its.toArray from p) (by simp;omega) λh' eb=>⟨rfl,I.turned (t':=s.toks) (λb o hb e=>eb b o hb e) f0 f1 f3 f4 f5⟩
 self:=λ_ _ _ _ _ st h=>wpAny_pyIter_tupleiter st h
theorem P0{P:Program}{w:World}{K:PySem.W.Frag}{tg:Expr}(it:Addr)(lo:Int)(n:Nat):Zi P w K tg (Itr lo n) [it] it (λi h=>IsRangeIter h it (lo+(i:Nat)*1) ((n:Int)-(i:Nat)) 1) where
 mem:=by simp
 obj:=λi h st b hb=>by
  have e:b=it:=by simpa using hb
  subst e;exact⟨_,st,λv z=>by
   have z':Data.fields _=Data.cell v:=z;cases z'⟩
 keep:=λi h h' st k=>k it (by simp) _ st
 item:=by
  intro X hP hw hK hc i pins s σ H E I hf st hg;subst hP hw hK;obtain⟨f0,f1,f2,f3,f4,f5⟩:=hf it (by simp);have W:=Walks.range (prog:=X.prog) (w:=X.w) (I.ok.hd hc) it lo 1 n;refine W.item i s _ _ hg st λv h' tk hv st' kk=>?_;obtain⟨t,rfl⟩:=hv;have I1:Inv X pins σ H { s with heap:=h',toks:=tk }:=I.turned (λb o hb e=>kk b o (by simpa using hb) e) f0 f1 f3 f4 f5;refine⟨_,rfl,go_of (s:={ s with heap:=h',toks:=tk }) (n:="range_iterator") st' rfl rfl (by decide) ⟨.int (lo+i),H,I1,⟨t,?_⟩,⟨rfl,rfl⟩,st',λb hb=>(hf b hb).1⟩⟩;rw[Int.mul_one]
 done:=by
  intro X hP hw hK hc i pins s σ H E I hf st hg;subst hP hw hK;obtain⟨f0,f1,f2,f3,f4,f5⟩:=hf it (by simp);exact wpAny_pyNext_range_end (I.ok.hd hc) st (by have:n<=i:=hg;omega) λh' eb=>⟨rfl,I.turned (t':=s.toks) (λb o hb e=>eb b o hb e) f0 f1 f3 f4 f5⟩
 self:=λ_ _ _ _ _ st h=>wpAny_pyIter_rangeiter st h
section
variable{X:Cx}{tg:Expr}
theorem L8{pins:List (Addr×Obj)}{σ:St}{H:Hp}{s:Shared}{R:It->Hp->Prop}{E:Value->Shared->Prop}{lo hi:Int}{t u v:Tok}{tk:Nat}(I:Inv X pins σ H s)(h1:-(2 ^ 62)<=lo)(h2:lo<2 ^ 62)(h3:-(2 ^ 62)<=hi)(h4:hi<2 ^ 62)
  (q:R (Itr lo (hi-lo).toNat) H):wpAny (model X.prog X.w) X.A (pyIter (.ref s.heap.objs.size)) (PIE X pins σ tg R) E { s with heap:=s.heap.push { cls:=.type "range",data:=.fields #[.int lo t,.int hi u,.int 1 v] },toks:=tk }:=by
 refine wpAny_pyIter_range (IsRange.new ..) (small_one h1 h2 h3 h4) ?_;have I1:Inv X pins σ H { s with heap:=s.heap.push { cls:=.type "range",data:=.fields #[.int lo t,.int hi u,.int 1 v] },toks:=tk }:=I.kept λb o e=>Heap.get?_push_of_some _ e;refine⟨(s.heap.push { cls:=.type "range",data:=.fields #[.int lo t,.int hi u,.int 1 v] }).objs.size,[(s.heap.push { cls:=.type "range",data:=.fields #[.int lo t,.int hi u,.int 1 v] }).objs.size],_,_,H,rfl,
  I1.kept (t':=tk) λb o e=>Heap.get?_push_of_some _ e,P0 _ lo (hi-lo).toNat,?_,λb hb=>?_,q⟩
 ·have e1:lo+((0:Nat):Int)*1=lo:=by simp
  have e2:(((hi-lo).toNat:Nat):Int)-((0:Nat):Int)=Builtin.Range.rangeSize lo hi 1:=by rw[rangeSize_one];split<;>omega
  show IsRangeIter _ _ (lo+((0:Nat):Int)*1) ((((hi-lo).toNat:Nat):Int)-((0:Nat):Int)) 1;rw[e1,e2];exact Heap.get?_push_size _ rfl
 ·have e:b=(s.heap.push { cls:=.type "range",data:=.fields #[.int lo t,.int hi u,.int 1 v] }).objs.size:=by simpa using hb
  subst e;exact I1.fpOk (Nat.le_refl _) (I1.hok.fresh (Nat.le_refl _))
noncomputable def qGR(ta:TA):TI:=λσ H R=>ta σ H λvs H1=>∃j:Int,vs=[.int j]/\-(2 ^ 62)<=j/\j<2 ^ 62/\R (Itr 0 j.toNat) H1
noncomputable def qFw(ta:TA):TI:=λσ H R=>ta σ H λvs H1=>∃i j:Int,vs=[.int i,.int j]/\(-(2 ^ 62)<=i/\i<2 ^ 62/\-(2 ^ 62)<=j/\j<2 ^ 62)/\R (Itr i (j-i).toNat) H1
theorem pi_range1{a:Expr}{ta:TA}{p pos:Pos}(hg:Gl X "range")(hm:X.mg "range"=none)(ha:PA X [a] ta)(hs:starEach [a] X.env=[(false,eval a X.env)]:=by rfl):PI X tg (.Call (.Name "range" p) [a] [] pos) (qGR ta):=by
 intro pins s σ H R I h;refine Call_ (ld_blt I hg hm boot_range (PyProof.Rows.callWith_type1 (thn (ha pos pins s σ H _ I h) λus s1 ⟨vs,H1,I1,r1,q1⟩=>?_) hs rfl));obtain⟨j,e,q1,q2,q⟩:=q1;subst e;cases r1 with
 |cons r rr=>
  cases rr;obtain⟨t,rfl⟩:=r;exact call_range_1 (L8 I1 (by omega) (by omega) q1 q2 (by simpa using q))
theorem pi_range2{a b:Expr}{ta:TA}{p pos:Pos}(hg:Gl X "range")(hm:X.mg "range"=none)(ha:PA X [a,b] ta)(hs:starEach [a,b] X.env=[(false,eval a X.env),(false,eval b X.env)]:=by rfl)(hs2:starEach [b] X.env=[(false,eval b X.env)]:=by rfl):
  PI X tg (.Call (.Name "range" p) [a,b] [] pos) (qFw ta):=by
 intro pins s σ H R I h;refine Call_ (ld_blt I hg hm boot_range (PyProof.Rows.callWith_type1 (thn (ha pos pins s σ H _ I h) λus s1 ⟨vs,H1,I1,r1,q1⟩=>?_) (by rw[hs,hs2]) (by rw[hs2];rfl)));obtain⟨i,j,e,⟨q1,q2,q3,q4⟩,q⟩:=q1;subst e;cases r1 with
 |cons r rr=>
  cases rr with
  |cons r' rr=>
   cases rr;obtain⟨t,rfl⟩:=r;obtain⟨t',rfl⟩:=r';exact call_range_2 (L8 I1 q1 q2 q3 q4 q)
noncomputable def qIx(wi:TI)(g:TG)(tb:TS):TS:=λD σ H=>wi σ H λJ H1=>∃W:Nat->Nat->St->Hp->Prop,(∃m,W 0 m σ H1)/\∀i m σ H,W i m σ H ->
 (J.stop i H/\D.nx σ H)\/(J.go i H/\∃N:St->Hp->Prop,(∀σ' H',N σ' H'->∃m',m'<m/\W (i+1) m' σ' H')/\∀x H',J.yld i H x H'->g x σ H' λσ2 H2=>tb { D with nx:=N,ct:=N,bk:=D.nx } σ2 H2)
noncomputable def Jc(fp:List Addr)(h:Heap):List (Addr×Obj):=fp.filterMap λb=>(h.get? b).map λo=>(b,o)
theorem jN{fp:List Addr}{h:Heap}{b:Addr}{o:Obj}(hb:b∈fp)(e:h.get? b=some o):(b,o)∈Jc fp h:=List.mem_filterMap.mpr ⟨b,hb,by rw[e];rfl⟩
theorem Z8{fp:List Addr}{h:Heap}{p:Addr×Obj}(hp:p∈Jc fp h):p.1∈fp/\h.get? p.1=some p.2:=by
 obtain⟨b,hb,e⟩:=List.mem_filterMap.mp hp;cases q:h.get? b with
 |none=>rw[q]at e;cases e
 |some o=>
  rw[q]at e;have e':(b,o)=p:=Option.some.inj e;subst e';exact⟨hb,q⟩
theorem Inv.pinned{pins:List (Addr×Obj)}{σ:St}{H:Hp}{s:Shared}{fp:List Addr}(I:Inv X pins σ H s)(hf:∀b∈fp,ZJ X pins H b)(ho:∀b∈fp,∃o,s.heap.get? b=some o/\∀v,o.data≠.cell v):Inv X (pins++Jc fp s.heap) σ H s:=
 I.pins_of λp hp=>(wC.mp hp).elim (λz=>I.pin p (wG _ z)) λz=>by
  obtain⟨hb,e⟩:=Z8 z;obtain⟨f0,f1,f2,_⟩:=hf p.1 hb;obtain⟨o,e',d⟩:=ho p.1 hb;rw[e]at e';cases e';exact⟨e,f0,f1,f2,d⟩
theorem Inv.unpinned{pins pl:List (Addr×Obj)}{σ:St}{H:Hp}{s:Shared}(I:Inv X (pins++pl) σ H s):Inv X pins σ H s:=I.pins_of λp hp=>I.pin p (wG _ (wE _ hp))
theorem ps_for{iter:Expr}{body:List Stmt}{wi:TI}{g:TG}{tb:TS}{pos:Pos}(hp:PassesOwn (model X.prog X.w) X.A X.env X.xe)(hc:X.calm=true)(hi:PI X tg iter wi)(hg:PG X tg g)(hb:PSs X body tb)
  (hs:∀x,foldedSetIterable iter X.env x=pure x:=by intro _;rfl):PS X (.For tg iter body [] pos) (qIx wi g tb):=by
 intro pins s σ H D I h;refine wpAny_For (thn (hi pins s σ H _ I h) λv s1 h1=>thn h1 λitv s2 h2=>?_) hs;obtain⟨it,fp,tn,J,H2,e,I2,T,st2,f2,W,⟨m0,w0⟩,qEC⟩:=h2;subst e;have stat:∀{H':Hp},(∀b∈fp,H' b=none)->∀b∈fp,ZJ X pins H' b:=λhn b hb=>⟨hn b hb,(f2 b hb).2⟩
 refine codeAny_forLoop_any (λn s'=>∃i σ' H',Inv X pins σ' H' s'/\tn i s'.heap/\(∀b∈fp,H' b=none)/\W i n σ' H') ?_ m0 ⟨0,σ,H2,I2,st2,λb hb=>(f2 b hb).1,w0⟩;rintro n s3 ⟨i,σ3,H3,I3,st3,fr3,w3⟩;rcases qEC i n σ3 H3 w3 with⟨stop,qn⟩|⟨go,N,hN,step⟩
 ·refine wpAny_passesOwn hp (thn (T.done X rfl rfl rfl hc i pins s3 σ3 H3 X.xe I3 (stat fr3) st3 stop) λr s4 ⟨hr,I4⟩=>?_);subst hr;exact wpAny_execs_nil ⟨σ3,H3,I4,qn⟩
 ·refine wpAny_passesOwn hp (thn (T.item X rfl rfl rfl hc i pins s3 σ3 H3 X.xe I3 (stat fr3) st3 go) λr s4 ⟨u,hr,h4⟩=>?_);subst hr;refine wpAny_passesOwn hp (thn h4 λ_ s5 ⟨x,H5,I5,r5,y5,st5,fr5⟩=>?_);have I5':=I5.pinned (stat fr5) (T.obj _ _ st5);refine wpAny_passesOwn hp (thn (hg _ s5 σ3 H5 x u _ I5' r5 (step x H5 y5)) λ_ s6 ⟨σ6,H6,I6,q6⟩=>?_);refine wpAny_passesOwn hp (thn (hb _ s6 σ6 H6 _ I6 q6) λf s7 q7=>?_);have again:∀{σ7:St}{H7:Hp},Inv X (pins++Jc fp s5.heap) σ7 H7 s7->N σ7 H7->∃m,m<n/\∃i σ' H',Inv X pins σ' H' s7/\tn i s7.heap/\(∀b∈fp,H' b=none)/\W i m σ' H':=λ{σ7 H7} I7 n7=>by
   obtain⟨m',hm,w7⟩:=hN σ7 H7 n7;refine⟨m',hm,i+1,σ7,H7,I7.unpinned,T.keep _ _ _ st5 λb hb o e=>(I7.pin (b,o) (wG _ (wG _ (jN hb e)))).1,λb hb=>?_,w7⟩;obtain⟨o,e,d⟩:=T.obj _ _ st5 b hb;exact(I7.pin (b,o) (wG _ (wG _ (jN hb e)))).2.1
  cases f with
  |next=>obtain⟨σ7,H7,I7,n7⟩:=q7;exact again I7 n7
  |cont=>obtain⟨σ7,H7,I7,n7⟩:=q7;exact again I7 n7
  |brk=>obtain⟨σ7,H7,I7,q7⟩:=q7;exact⟨σ7,H7,I7.unpinned,q7⟩
  |ret v=>obtain⟨x7,σ7,H7,I7,r7,q7⟩:=q7;exact⟨x7,σ7,H7,I7.unpinned,r7,q7⟩
end
noncomputable abbrev R2:=V->V->Hp->VK->Prop
def OpR(X:Cx)(f:Value->Value->Sem Value)(r:R2):Prop:=
 ∀(pins:List (Addr×Obj)) (s:Shared) (σ:St) (H:Hp) (x y:V) (v u:Value) (Q:VK),Inv X pins σ H s->RelV x v->RelV y u->r x y H Q ->
  wpAny (model X.prog X.w) X.A (f v u) (EP X pins σ Q) X.xe s
def UnR(X:Cx)(f:Value->Sem Value)(r:V->Hp->VK->Prop):Prop:=
 ∀(pins:List (Addr×Obj)) (s:Shared) (σ:St) (H:Hp) (x:V) (v:Value) (Q:VK),Inv X pins σ H s->RelV x v->r x H Q ->
  wpAny (model X.prog X.w) X.A (f v) (EP X pins σ Q) X.xe s
def qq(X:Cx)(f:Value)(r:List V->Hp->VK->Prop):Prop:=
 ∀(pins:List (Addr×Obj)) (s:Shared) (σ:St) (H:Hp) (xs:List V) (us:List Value) (Q:VK),Inv X pins σ H s->Vals xs us->r xs H Q ->
  wpAny (model X.prog X.w) X.A (call f us) (EP X pins σ Q) X.xe s
noncomputable def tOp(r:R2)(ta tb:TE):TE:=λσ H Q=>ta σ H λx H1=>tb σ H1 λy H2=>r x y H2 Q
noncomputable def tUn(r:V->Hp->VK->Prop)(ta:TE):TE:=λσ H Q=>ta σ H λx H1=>r x H1 Q
noncomputable def rI(C:Int->Int->Prop)(g:Int->Int->V):R2:=λx y H Q=>∃i j,x=.int i/\y=.int j/\C i j/\Q (g i j) H
noncomputable def rI0(g:Int->Int->V):R2:=λx y H Q=>∃i j,x=.int i/\y=.int j/\Q (g i j) H
def rU(g:Int->V):V->Hp->VK->Prop:=λx H Q=>∃i,x=.int i/\Q (g i) H
section
variable{X:Cx}{a b c:Expr}{ta tb tc:TE}{pos:Pos}
theorem qr(ha:PE X a ta)(hb:PE X b tb){pins:List (Addr×Obj)}{s:Shared}{σ:St}{H:Hp}{R:V->V->Hp->Prop}(I:Inv X pins σ H s)
  (h:ta σ H λx H1=>tb σ H1 λy H2=>R x y H2){Q:Value->Shared->Prop}{f:Value->Value->Sem Value}
  (hf:∀v u s2 x y H2,Inv X pins σ H2 s2->RelV x v->RelV y u->R x y H2->wpAny (model X.prog X.w) X.A (f v u) Q X.xe s2):
  wpAny (model X.prog X.w) X.A (eval a X.env) (λv s₁=>wpAny (model X.prog X.w) X.A (eval b X.env) (λu s₂=>wpAny (model X.prog X.w) X.A (f v u) Q X.xe s₂) X.xe s₁) X.xe s:=by
 refine thn (ha pins s σ H _ I h) λv s1 ⟨x,H1,I1,r1,q1⟩=>?_;refine thn (hb pins s1 σ H1 _ I1 q1) λu s2 ⟨y,H2,I2,r2,q2⟩=>?_;exact hf v u s2 x y H2 I2 r1 r2 q2
theorem pe_op{op:Operator}{r:R2}(ho:OpR X (binaryOp op) r)(ha:PE X a ta)(hb:PE X b tb):PE X (.BinOp a op b pos) (tOp r ta tb):=by
 intro pins s σ H Q I h;exact wpAny_BinOp (qr ha hb I h λv u s2 x y H2 I2 rx ry q=>ho pins s2 σ H2 x y v u Q I2 rx ry q)
theorem pe_un{op:UnaryOp}{r:V->Hp->VK->Prop}(ho:UnR X (unaryOp op) r)(ha:PE X a ta):PE X (.UnaryOp op a pos) (tUn r ta):=by
 intro pins s σ H Q I h;exact UnaryOp_ (thn (ha pins s σ H _ I h) λv s1 ⟨x,H1,I1,r1,q1⟩=>ho pins s1 σ H1 x v Q I1 r1 q1)
theorem opI{f:Value->Value->Sem Value}{C:Int->Int->Prop}{g:Int->Int->Int}
  (rule:∀(i j:Int) (t u:Tok) (s:Shared) (Q:Value->Shared->Prop) (E:Value->Shared->Prop),C i j->Q (.int (g i j) s.toks) { s with toks:=s.toks+1 }->wpAny (model X.prog X.w) X.A (f (.int i t) (.int j u)) Q E s):
  OpR X f (rI C λi j=>.int (g i j)):=by
 intro pins s σ H x y v u Q I rx ry h;obtain⟨i,j,rfl,rfl,hc,q⟩:=h;obtain⟨t,rfl⟩:=rx;obtain⟨t',rfl⟩:=ry;exact rule i j t t' s _ _ hc ⟨.int (g i j),H,I.tok _,⟨_,rfl⟩,q⟩
theorem qGm{f:Value->Value->Sem Value}{g:Int->Int->Int}
  (rule:∀(i j:Int) (t u:Tok) (s:Shared) (Q:Value->Shared->Prop) (E:Value->Shared->Prop),Q (.int (g i j) s.toks) { s with toks:=s.toks+1 }->wpAny (model X.prog X.w) X.A (f (.int i t) (.int j u)) Q E s):
  OpR X f (rI0 λi j=>.int (g i j)):=by
 intro pins s σ H x y v u Q I rx ry h;obtain⟨i,j,rfl,rfl,q⟩:=h;obtain⟨t,rfl⟩:=rx;obtain⟨t',rfl⟩:=ry;exact rule i j t t' s _ _ ⟨.int (g i j),H,I.tok _,⟨_,rfl⟩,q⟩
theorem qFS{f:Value->Value->Sem Value}{g:Int->Int->Bool}
  (rule:∀(i j:Int) (t u:Tok) (s:Shared) (Q:Value->Shared->Prop) (E:Value->Shared->Prop),Q (.bool (g i j)) s->wpAny (model X.prog X.w) X.A (f (.int i t) (.int j u)) Q E s):
  OpR X f (rI0 λi j=>.bl (g i j)):=by
 intro pins s σ H x y v u Q I rx ry h;obtain⟨i,j,rfl,rfl,q⟩:=h;obtain⟨t,rfl⟩:=rx;obtain⟨t',rfl⟩:=ry;exact rule i j t t' s _ _ ⟨.bl (g i j),H,I,rfl,q⟩
def CDiv(i j:Int):Prop:=0<j/\j<1073741824
def CPow(i j:Int):Prop:=0<=j/\j<=1000000/\i.natAbs<2 ^ 64
def CMul(i j:Int):Prop:=(-(2 ^ 64)<i/\i<2 ^ 64)\/(-(2 ^ 64)<j/\j<2 ^ 64)
theorem CMul.ok{i j:Int}(h:CMul i j):IntMulOk i j:=by
 rcases h with⟨h1,h2⟩|⟨h1,h2⟩
 ·exact .of_left (intBits_le_64 h1 h2)
 ·exact .of_right (intBits_le_64 h1 h2)
theorem op_add:OpR X (binaryOp .Add) (rI0 λi j=>.int (i+j)):=qGm λ_ _ _ _ _ _ _ q=>add_int q
theorem op_sub:OpR X (binaryOp .Sub) (rI0 λi j=>.int (i-j)):=qGm λ_ _ _ _ _ _ _ q=>sub_int q
theorem op_mul:OpR X (binaryOp .Mult) (rI CMul λi j=>.int (i*j)):=opI λ_ _ _ _ _ _ _ hc q=>mul_int q hc.ok
theorem op_fdiv:OpR X (binaryOp .FloorDiv) (rI CDiv λi j=>.int (i / j)):=opI λi j _ _ _ _ _ hc q=>by
 have h1:(0:Int)<j:=hc.1;have h2:j<1073741824:=hc.2;exact floordiv_int (by omega) (by rw[Int.fdiv_eq_ediv_of_nonneg i (by omega)];exact q) (.inl (PyProof.noPylong_small (by omega)))
theorem op_mod:OpR X (binaryOp .Mod) (rI (λ_ j=>0<j) λi j=>.int (i % j)):=opI λi j _ _ _ _ _ hc q=>by
 have h1:(0:Int)<j:=hc;exact mod_int' (by omega) (by rw[Int.fmod_eq_emod_of_nonneg i (by omega)];exact q)
theorem op_modN:OpR X (binaryOp .Mod) (rI (λ_ j=>j≠0) λi j=>.int (i.fmod j)):=opI λ_ _ _ _ _ _ _ hc q=>mod_int' hc q
theorem op_pow:OpR X (binaryOp .Pow) (rI CPow λi j=>.int (i ^ j.toNat)):=opI λ_ _ _ _ _ _ _ hc q=>pow_int_small hc.1 hc.2.1 hc.2.2 q
theorem op_shl:OpR X (binaryOp .LShift) (rI CPow λi j=>.int (i*2 ^ j.toNat)):=opI λ_ _ _ _ _ _ _ hc q=>lshift_int_small hc.1 hc.2.1 hc.2.2 q
theorem op_and:OpR X (binaryOp .BitAnd) (rI0 λi j=>.int (Builtin.bitAnd i j)):=qGm λ_ _ _ _ _ _ _ q=>and_int q
theorem unI{f:Value->Sem Value}{g:Int->Int}
  (rule:∀(i:Int) (t:Tok) (s:Shared) (Q:Value->Shared->Prop) (E:Value->Shared->Prop),Q (.int (g i) s.toks) { s with toks:=s.toks+1 }->wpAny (model X.prog X.w) X.A (f (.int i t)) Q E s):
  UnR X f (rU λi=>.int (g i)):=by
 intro pins s σ H x v Q I rx h;obtain⟨i,rfl,q⟩:=h;obtain⟨t,rfl⟩:=rx;exact rule i t s _ _ ⟨.int (g i),H,I.tok _,⟨_,rfl⟩,q⟩
theorem un_neg:UnR X (unaryOp .USub) (rU λi=>.int (-i)):=unI λ_ _ _ _ _ q=>neg_int q
end
section
variable{X:Cx}{a b c:Expr}{ta tb tc:TE}{pos:Pos}
theorem qA7{pins:List (Addr×Obj)}{σ:St}{H:Hp}{s:Shared}{Q:VK}{k k':Bool}(I:Inv X pins σ H s)(q:Q (.bl k) H)(e:k=k'):EP X pins σ Q (.bool k') s:=by
 subst e;exact⟨.bl k,H,I,rfl,q⟩
theorem op_lt:OpR X (compareOp .Lt) (rI0 λi j=>.bl (decide (i<j))):=qFS λ_ _ _ _ _ _ _ q=>lt_int q
theorem op_le:OpR X (compareOp .LtE) (rI0 λi j=>.bl (decide (i<=j))):=qFS λ_ _ _ _ _ _ _ q=>le_int q
theorem op_gt:OpR X (compareOp .Gt) (rI0 λi j=>.bl (decide (j<i))):=qFS λ_ _ _ _ _ _ _ q=>gt_int q
theorem op_ge:OpR X (compareOp .GtE) (rI0 λi j=>.bl (decide (j<=i))):=qFS λ_ _ _ _ _ _ _ q=>ge_int q
theorem op_isN:OpR X (compareOp .Is) (λx y H Q=>y=.non/\Q (.bl (decide (x=.non))) H):=by
 intro pins s σ H x y v u Q I rx ry h;obtain⟨rfl,q⟩:=h;cases ry;refine is_none_gen (qA7 I q ?_);cases x<;>first
  | (cases rx;rfl)
  | (obtain⟨t,rfl⟩:=rx;rfl)
theorem op_notN:OpR X (compareOp .IsNot) (λx y H Q=>y=.non/\Q (.bl (!decide (x=.non))) H):=by
 intro pins s σ H x y v u Q I rx ry h;obtain⟨rfl,q⟩:=h;cases ry;refine isnot_none_gen (qA7 I q ?_);cases x<;>first
  | (cases rx;rfl)
  | (obtain⟨t,rfl⟩:=rx;rfl)
theorem OpR.or{f:Value->Value->Sem Value}{r r':R2}(h:OpR X f r)(h':OpR X f r'):OpR X f (λx y H Q=>r x y H Q\/r' x y H Q):=by
 intro pins s σ H x y v u Q I rx ry q;rcases q with q|q
 ·exact h pins s σ H x y v u Q I rx ry q
 ·exact h' pins s σ H x y v u Q I rx ry q
theorem pe_cmpR{op:CmpOp}{r:R2}(ho:OpR X (compareOp op) r)(ha:PE X a ta)(hb:PE X b tb)(hm:behindInMarks op b=false):PE X (.Compare a [op] [b] pos) (tOp r ta tb):=by
 intro pins s σ H Q I h;exact wpAny_Compare1 (qr ha hb I h λv u s2 x y H2 I2 rx ry q=>ho pins s2 σ H2 x y v u Q I2 rx ry q) hm
noncomputable def qEJ(t:TE):TT:=λσ H Q=>t σ H λx H'=>∃k,x=.bl k/\Q k H'
theorem pt_cmpR{op:CmpOp}{r:R2}(ho:OpR X (compareOp op) r)(ha:PE X a ta)(hb:PE X b tb)(hm:behindInMarks op b=false):PT X (.Compare a [op] [b] pos) (qEJ (tOp r ta tb)):=by
 intro pins s σ H Q I h;refine wpAny_isTrue_Compare1 (thn (ha pins s σ H _ I h) λv s1 ⟨x,H1,I1,r1,q1⟩=>thn (hb pins s1 σ H1 _ I1 q1) λu s2 ⟨y,H2,I2,r2,q2⟩=>
  thn (ho pins s2 σ H2 x y v u _ I2 r1 r2 q2) λc s3 ⟨z,H3,I3,r3,k,e,q3⟩=>?_) hm
 subst e;cases r3;exact vI ⟨H3,I3,q3⟩
noncomputable def tChain(r r':R2)(ta tb tc:TE):TE:=λσ H Q=>ta σ H λx H1=>tb σ H1 λy H2=>r x y H2 λz H3=>∃k,z=.bl k/\
 (if k=true then tc σ H3 λw' H4=>r' y w' H4 Q else Q (.bl false) H3)
theorem pe_chain{op op':CmpOp}{r r':R2}(ho:OpR X (compareOp op) r)(ho':OpR X (compareOp op') r')(ha:PE X a ta)(hb:PE X b tb)(hc:PE X c tc)
  (hm:lastMarks [op,op'] [b,c]=false:=by with_unfolding_all rfl):PE X (.Compare a [op,op'] [b,c] pos) (tChain r r' ta tb tc):=by
 intro pins s σ H Q I h;refine Compare_chain (thn (ha pins s σ H _ I h) λv s1 ⟨x,H1,I1,r1,q1⟩=>chain_link (thn (hb pins s1 σ H1 _ I1 q1) λu s2 ⟨y,H2,I2,r2,q2⟩=>
  thn (ho pins s2 σ H2 x y v u _ I2 r1 r2 q2) λd s3 ⟨z,H3,I3,r3,k,e,q3⟩=>?_)) hm
 subst e;cases r3;refine vI ?_;cases k with
 |false=>exact ite_ff ⟨.bl false,H3,I3,rfl,q3⟩
 |true=>exact ite_tt (chain_last (thn (hc pins s3 σ H3 _ I3 q3) λw' s4 ⟨z',H4,I4,r4,q4⟩=>ho' pins s4 σ H4 y z' u w' Q I4 r2 r4 q4))
theorem pt_chain{op op':CmpOp}{r r':R2}(ho:OpR X (compareOp op) r)(ho':OpR X (compareOp op') r')(ha:PE X a ta)(hb:PE X b tb)(hc:PE X c tc)
  (hm:lastMarks [op,op'] [b,c]=false:=by with_unfolding_all rfl):PT X (.Compare a [op,op'] [b,c] pos) (qEJ (tChain r r' ta tb tc)):=by
 intro pins s σ H Q I h;refine isTrue_chain (thn (ha pins s σ H _ I h) λv s1 ⟨x,H1,I1,r1,q1⟩=>test_link (thn (hb pins s1 σ H1 _ I1 q1) λu s2 ⟨y,H2,I2,r2,q2⟩=>
  thn (ho pins s2 σ H2 x y v u _ I2 r1 r2 q2) λd s3 ⟨z,H3,I3,r3,k,e,q3⟩=>?_)) hm
 subst e;cases r3;refine vI ?_;cases k with
 |false=>
  obtain⟨k',e',q'⟩:=q3;cases e';exact ite_ff ⟨H3,I3,q'⟩
 |true=>
  refine ite_tt (test_last (thn (hc pins s3 σ H3 _ I3 q3) λw' s4 ⟨z',H4,I4,r4,q4⟩=>thn (ho' pins s4 σ H4 y z' u w' _ I4 r2 r4 q4) λd' s5 ⟨z2,H5,I5,r5,k2,e2,q5⟩=>?_));subst e2;cases r5;exact vI ⟨H5,I5,q5⟩
theorem B5:(sizeLine:Nat)<2 ^ 63:=by rw[sizeLine_eq];decide
theorem vals1{x:V}{us:List Value}(r:Vals [x] us):∃u,us=[u]/\RelV x u:=by
 cases r with
 |cons r1 r2=>cases r2;exact⟨_,rfl,r1⟩
theorem vals2{x y:V}{us:List Value}(r:Vals [x,y] us):∃u w',us=[u,w']/\RelV x u/\RelV y w':=by
 cases r with
 |cons r1 r2=>
  cases r2 with
  |cons r3 r4=>cases r4;exact⟨_,_,rfl,r1,r3⟩
theorem call_max2(hc:X.calm=true):qq X (.builtin "max") (λxs H Q=>∃i j,xs=[.int i,.int j]/\Q (.int (if j>i then j else i)) H):=by
 intro pins s σ H xs us Q I r h;obtain⟨i,j,rfl,q⟩:=h;obtain⟨u,w',rfl,⟨t,rfl⟩,⟨t',rfl⟩⟩:=vals2 r;refine max_two_ints (I.ok.hd hc) λh' tk k=>⟨_,H,I.kept k,?_,q⟩
 by_cases hj:j>i
 ·rw[if_pos hj,if_pos hj];exact⟨_,rfl⟩
 ·rw[if_neg hj,if_neg hj];exact⟨_,rfl⟩
theorem call_min2(hc:X.calm=true):qq X (.builtin "min") (λxs H Q=>∃i j,xs=[.int i,.int j]/\Q (.int (if j<i then j else i)) H):=by
 intro pins s σ H xs us Q I r h;obtain⟨i,j,rfl,q⟩:=h;obtain⟨u,w',rfl,⟨t,rfl⟩,⟨t',rfl⟩⟩:=vals2 r;refine min_two_ints (I.ok.hd hc) λh' tk k=>⟨_,H,I.kept k,?_,q⟩
 by_cases hj:j<i
 ·rw[if_pos hj,if_pos hj];exact⟨_,rfl⟩
 ·rw[if_neg hj,if_neg hj];exact⟨_,rfl⟩
theorem call_str_int:qq X (.type "str") (λxs H Q=>∃i,xs=[.int i]/\i.natAbs.log2<1920/\Q (.str (toString i)) H):=by
 intro pins s σ H xs us Q I r h;obtain⟨i,rfl,hz,q⟩:=h;obtain⟨u,rfl,t,rfl⟩:=vals1 r;exact PySem.P.str_of_int hz ⟨.str _,H,I.tok _,⟨_,rfl⟩,q⟩
end
structure Room(k:Nat)(A:Around):Prop where
 hd:A.handled=none
 dp:A.depth+3*k+5<recursionLimit
 un:A.units+16*k+200<cLine
 gd:A.guards=some []
theorem Room.mono{j k:Nat}{A:Around}(r:Room k A)(h:j<=k):Room j A:=⟨r.hd,by have:=r.dp;omega,by have:=r.un;omega,r.gd⟩
theorem Room.deeper{k:Nat}{A:Around}(r:Room (k+1) A)(env:Env):Room k (A.deeper env):=
 ⟨r.hd,by have:=r.dp;show A.depth+1+3*k+5<_;omega,by have:=r.un;show A.units+3+16*k+200<_;omega,r.gd⟩
theorem Room.in1{k:Nat}{A:Around}(r:Room (k+1) A):Room k A.in1:=
 ⟨r.hd,by have:=r.dp;show A.depth+3*k+5<_;omega,by have:=r.un;show A.units+1+16*k+200<_;omega,r.gd⟩
theorem Room.depth{k:Nat}{A:Around}(r:Room k A):A.depth<recursionLimit:=by have:=r.dp;omega
theorem Room.units{k:Nat}{A:Around}(r:Room k A):A.units+64<cLine:=by have:=r.un;omega
noncomputable def tNil:TA:=λ_ H Q=>Q [] H
noncomputable def tCons(ta:TE)(tr:TA):TA:=λσ H Q=>ta σ H λx H1=>tr σ H1 λxs H2=>Q (x::xs) H2
section
variable{X:Cx}{e:Expr}{es:List Expr}{te:TE}{t:TA}{pos:Pos}
theorem pa_nil:PA X [] tNil:=λ_ _ _ _ H Q I h=>Calls.spliced_nil ⟨[],H,I,.nil,h⟩
theorem pa_cons(ha:PE X e te)(hr:PA X es t)(hs:starEach (e::es) X.env=(false,eval e X.env)::starEach es X.env:=by rfl):PA X (e::es) (tCons te t):=by
 intro pos pins s σ H Q I h;rw[hs];show wpAny _ _ (spliced ((false,eval e X.env)::backTo pos (starEach es X.env))) _ _ s;refine Calls.spliced_cons (thn (ha pins s σ H _ I h) λu s1 ⟨x,H1,I1,r1,q1⟩=>?_);exact thn (hr pos pins s1 σ H1 _ I1 q1) λus s2 ⟨xs,H2,I2,r2,q2⟩=>⟨x::xs,H2,I2,.cons r1 r2,q2⟩
noncomputable def qJA(t:TA):TE:=λσ H Q=>t σ H λxs H1=>xs.length<=sizeLine/\∀p,H1 p=none->Q (.ref p) (upd H1 p (.tup xs))
noncomputable def qIQ(t:TA):TE:=λσ H Q=>t σ H λxs H1=>xs.length<=sizeLine/\∀p,H1 p=none->Q (.ref p) (upd H1 p (.lst xs))
theorem pe_tup {x1}(h:PA X es t):PE X (.Tuple es x1 pos) (qJA t):=by
 intro pins s σ H Q I hq;refine wpAny_Tuple_spliced (thn (h pos pins s σ H _ I hq) λus s1 ⟨xs,H1,I1,r,z,q⟩=>⟨by rw[<-r.length];exact z,?_⟩);have hf:H1 s1.heap.objs.size=none:=I1.hok.fresh (Nat.le_refl _);refine⟨.ref s1.heap.objs.size,upd H1 s1.heap.objs.size (.tup xs),I1.laid (t':=s1.toks) (λb u e=>Heap.get?_push_of_some _ e) (Nat.le_refl _) ?_,rfl,q _ hf⟩;exact⟨z,us,r,⟨_,Heap.get?_push_size _ rfl,rfl,_,rfl⟩⟩
theorem pe_lst(h:PA X es t):PE X (.List es pos) (qIQ t):=by
 intro pins s σ H Q I hq;refine wpAny_List_spliced (thn (h pos pins s σ H _ I hq) λus s1 ⟨xs,H1,I1,r,z,q⟩=>⟨by rw[<-r.length];exact z,?_⟩);have hf:H1 s1.heap.objs.size=none:=I1.hok.fresh (Nat.le_refl _);refine⟨.ref s1.heap.objs.size,upd H1 s1.heap.objs.size (.lst xs),I1.laid (t':=s1.toks) (λb u e=>Heap.get?_push_of_some _ e) (Nat.le_refl _) ?_,rfl,q _ hf⟩;exact⟨z,us,0,r,Heap.get?_push_size _ rfl⟩
end
noncomputable abbrev Sp:=List V->Hp->VK->XK->Prop
noncomputable abbrev CXT:=List Env->Hp->Shared->XK->Value->Shared->Prop
structure Env0(P:Program)(w:World)(K:PySem.W.Frag)(mg:Str->Option Value)(base:Heap)(A:Around)(outer:List Env)(s:Shared)(H:Hp):Prop where
 frames:A.frames=some outer
 mod:Mod K mg base
 bs:∀b o,base.get? b=some o->s.heap.get? b=some o/\H b=none
 bsz:base.objs.size<=s.heap.objs.size
 funs:s.heap.FunFrames base outer
 frf:∀b∈frs outer,H b=none
 hok:HOk P w H s.heap
 bare:AllBare s.gens
def CE(outer:List Env)(P:Program)(w:World)(H:Hp)(s:Shared)(Q:VK)(u:Value)(s':Shared):Prop:=
 ∃v H',s'.os=s.os/\AllBare s'.gens/\Un (frs outer) [] H H' s.heap s'.heap/\HOk P w H' s'.heap/\RelV v u/\Q v H'
def CR(CX:CXT)(outer:List Env)(P:Program)(w:World)(H:Hp)(s:Shared)(Q:VK)(E:XK)(r:Result)(s':Shared):Prop:=
 match r with
 | .ok (.ret u)=>CE outer P w H s Q u s'
 | .ok _=>False
 | .error e=>CX outer H s E e s'
structure FnOk(P:Program)(w:World)(K:PySem.W.Frag)(mg:Str->Option Value)(base:Heap)(CX:CXT)(k:Nat)(f:Addr)(fd:FuncData)(ps:List Str)(sp:Sp):Prop where
 len:∀vs H Q E,sp vs H Q E->vs.length=ps.length
 run:∀(A:Around) (outer:List Env) (s:Shared) (H:Hp) (args:Args) (us:List Value) (vs:List V) (Q:VK) (E:XK),Room k A->Env0 P w K mg base A outer s H->BindsTo s fd args (ps.zip us)->Vals vs us->sp vs H Q E ->
  codeAny (model P w) A (.call (.ref f) args) (CR CX outer P w H s Q E) s
theorem Env0.in1{P:Program}{w:World}{K:PySem.W.Frag}{mg:Str->Option Value}{base:Heap}{A:Around}{outer:List Env}{s:Shared}{H:Hp}(e:Env0 P w K mg base A outer s H):
  Env0 P w K mg base A.in1 outer s H:=⟨e.frames,e.mod,e.bs,e.bsz,e.funs,e.frf,e.hok,e.bare⟩
section
variable{X:Cx}{pins:List (Addr×Obj)}{σ:St}{H:Hp}{s s':Shared}
theorem Inv.env0(I:Inv X pins σ H s):Env0 X.prog X.w X.K X.mg X.base X.A X.stack s H:=
 ⟨I.ok.frames,I.ok.mod,I.bs,Nat.le_trans I.ok.bsz I.sz,I.stack,I.stkFree,I.hok,I.bare⟩
theorem Inv.after{Q:VK}{u:Value}(I:Inv X pins σ H s)(h:CE X.stack X.prog X.w H s Q u s'):EP X pins σ Q u s':=by
 obtain⟨v,H',os,bare,un,hok,r,q⟩:=h;obtain⟨hh,g,d,t,os'⟩:=s';obtain rfl:os'=s.os:=os;exact⟨v,H',I.call (h':=hh) (g':=g) (d':=d) (t':=t) (ch:=[]) un hok bare (λb z=>absurd z (by simp)),r,q⟩
end
noncomputable def tCall(sp:Sp)(dvs:List V)(E:XK)(t:TA):TE:=λσ H Q=>t σ H λvs H1=>sp (vs++dvs) H1 Q E
def Binds(K:PySem.W.Frag)(fd:FuncData)(ps:List Str)(ds:List Value):Prop:=
 ∀(s:Shared) (us:List Value),K.In s.heap->(us++ds).length=ps.length->BindsTo s fd ⟨us,[]⟩ (ps.zip (us++ds))
theorem Binds.all{K:PySem.W.Frag}{fd:FuncData}{ps:List Str}(h:∀us:List Value,us.length=ps.length->bindArgs fd ⟨us,[]⟩=pure (ps.zip us)):Binds K fd ps []:=λs us _ hl=>by
 rw[List.append_nil]at hl ⊢;exact .of_eq (h us hl)
def K9(CX:CXT)(X:Cx)(E:XK):Prop:=∀(pins:List (Addr×Obj)) (σ:St) (H:Hp) (s:Shared) (e:Value) (s':Shared),Inv X pins σ H s->CX X.stack H s E e s'->X.xe e s'
section
variable{X:Cx}{CX:CXT}{k:Nat}{f C:Addr}{fd:FuncData}{ps:List Str}{sp:Sp}{dvs:List V}{ds:List Value}{E:XK}{x m:Str}{p pos apos:Pos}{e o:Expr}{es:List Expr}{ta:TE}{t:TA}
theorem qBN{pins:List (Addr×Obj)}{σ:St}{H:Hp}{s:Shared}{Q:VK}{us:List Value}{vs:List V}(F:FnOk X.prog X.w X.K X.mg X.base CX k f fd ps sp)(hr:Room k X.A)(hb:Binds X.K fd ps ds)(hd:Vals dvs ds)(hx:K9 CX X E)
  (I:Inv X pins σ H s) (r:Vals vs us) (h:sp (vs++dvs) H Q E):wpAny (model X.prog X.w) X.A (call (.ref f) us) (EP X pins σ Q) X.xe s:=by
 have r2:Vals (vs++dvs) (us++ds):=r.append hd;have hl:(us++ds).length=ps.length:=by rw[<-r2.length];exact F.len _ _ _ _ h
 refine wpAny_call (codeAny_mono (F.run X.A X.stack s H ⟨us,[]⟩ (us++ds) (vs++dvs) Q E hr I.env0 (hb s us I.kIn hl) r2 h) λr s' hq=>?_);cases r with
 |error e=>exact hx pins σ H s e s' I hq
 |ok fl=>
  cases fl with
  |ret u=>exact I.after hq
  |next=>exact False.elim hq
  |brk=>exact False.elim hq
  |cont=>exact False.elim hq
theorem pe_call(F:FnOk X.prog X.w X.K X.mg X.base CX k f fd ps sp)(hr:Room k X.A)(hg:Gl X x)(hm:X.mg x=some (.ref f))(hk:PySem.W.keepIn X.K (.ref f)=true)(hb:Binds X.K fd ps ds)(hd:Vals dvs ds)(hx:K9 CX X E)
  (ha:PA X (e::es) t) (hdb:(x==("__debug__":Str))=false:=by decide) (he:starEach (e::es) X.env=(false,eval e X.env)::starEach es X.env:=by rfl) (hpl:(backTo pos (starEach es X.env)).any (·.1)=false:=by rfl):
  PE X (.Call (.Name x p) (e::es) [] pos) (tCall sp dvs E t):=by
 intro pins s σ H Q I h;refine wpAny_Call_Name_kw (ld_glob I hg hm ?_ hdb);refine PySem.W.callWith_K (h₀:=X.base) I.ok.mod.kin hk (thn (ha pos pins s σ H _ I h) λus s1 ⟨vs,H1,I1,r,q⟩=>⟨I1.kIn,?_⟩) he hpl;exact qBN F hr hb hd hx I1 r q
theorem pe_call0(F:FnOk X.prog X.w X.K X.mg X.base CX k f fd ps sp)(hr:Room k X.A)(hg:Gl X x)(hm:X.mg x=some (.ref f))(hk:PySem.W.keepIn X.K (.ref f)=true)(hb:Binds X.K fd ps ds)(hd:Vals dvs ds)(hx:K9 CX X E)
  (hdb:(x==("__debug__":Str))=false:=by decide):PE X (.Call (.Name x p) [] [] pos) (tCall sp dvs E tNil):=by
 intro pins s σ H Q I h;refine wpAny_Call_Name_kw (ld_glob I hg hm ?_ hdb);exact PySem.W.callWith_K0 I.kIn hk (qBN (us:=[]) F hr hb hd hx I .nil h)
end
structure zC(N P:List Str)(sc:Scope):Prop where
 kind:sc.kind=.function
 co:sc.isCoroutine=false
 gen:sc.isGenerator=false
 nd:N.Nodup
 pre:N.take P.length=P
 par:∀x∈P,sc.names.lookup x=some .local\/sc.names.lookup x=some .cell
 nofree:∀y∈sc.names,y.2≠.free
theorem Jo{kindOf:Str->Option NameKind}{x:Str}:∀{binds:List (Str×Value)}{m:Str->Option Value},(∀v,(x,v)∉binds)->bindL kindOf binds m x=m x
 | [],_,_=>rfl
 | (n,v)::r,m,h=>by
  unfold bindL;rw[Jo λw hw=>h w (List.mem_cons_of_mem _ hw)];split
  ·have:x≠n:=by rintro rfl;exact h v List.mem_cons_self
   simp[this]
  ·rfl
theorem B9{kindOf:Str->Option NameKind}{x:Str}:∀{binds:List (Str×Value)}{m:Str->Option Value},(∀v,(x,v)∉binds)->bindC kindOf binds m x=m x
 | [],_,_=>rfl
 | (n,v)::r,m,h=>by
  unfold bindC;rw[B9 λw hw=>h w (List.mem_cons_of_mem _ hw)];split
  ·rfl
  ·have:x≠n:=by rintro rfl;exact h v List.mem_cons_self
   simp[this]
theorem Jy{kindOf:Str->Option NameKind}{x:Str}{v:Value}:∀{P:List Str}{vs:List Value}{i:Nat}{m:Str->Option Value},P.Nodup->P[i]?=some x->vs[i]?=some v->kindOf x=some .local ->
  bindL kindOf (P.zip vs) m x=some v
 | [],_,_,_,_,h,_,_=>by simp at h
 |_::_,[],_,_,_,_,h,_=>by simp at h
 |p::P,w::vs,0,m,nd,h1,h2,hk=>by
  simp at h1 h2;subst h1;subst h2;show bindL kindOf ((p,w)::P.zip vs) m p=_;unfold bindL;rw[Jo λv hv=>(wz.mp nd).1 (List.of_mem_zip hv).1,if_pos hk];simp
 |p::P,w::vs,i+1,m,nd,h1,h2,hk=>by
  show bindL kindOf ((p,w)::P.zip vs) m x=_;unfold bindL;exact Jy (i:=i) (wz.mp nd).2 (by simpa using h1) (by simpa using h2) hk
theorem A3{kindOf:Str->Option NameKind}{x:Str}{v:Value}:∀{P:List Str}{vs:List Value}{i:Nat}{m:Str->Option Value},P.Nodup->P[i]?=some x->vs[i]?=some v->kindOf x≠some .local ->
  bindC kindOf (P.zip vs) m x=some v
 | [],_,_,_,_,h,_,_=>by simp at h
 |_::_,[],_,_,_,_,h,_=>by simp at h
 |p::P,w::vs,0,m,nd,h1,h2,hk=>by
  simp at h1 h2;subst h1;subst h2;show bindC kindOf ((p,w)::P.zip vs) m p=_;unfold bindC;rw[B9 λv hv=>(wz.mp nd).1 (List.of_mem_zip hv).1,if_neg hk];simp
 |p::P,w::vs,i+1,m,nd,h1,h2,hk=>by
  show bindC kindOf ((p,w)::P.zip vs) m x=_;unfold bindC;exact A3 (i:=i) (wz.mp nd).2 (by simpa using h1) (by simpa using h2) hk
noncomputable def start(N:List Str)(vs:List V):St:=vs.map some++List.replicate (N.length-vs.length) none
noncomputable def cxOf(CX:CXT)(P:Program)(w:World)(K:PySem.W.Frag)(mg:Str->Option Value)(base:Heap)(N:List Str)(qual:Str)(scope:Scope)(f:Addr)(cd:Value)(A:Around)(outer:List Env)(s:Shared)(H:Hp)(E:XK):Cx where
 prog:=P
 w:=w
 K:=K
 mg:=mg
 base:=base
 A:=A.deeper (envOfC qual scope s.heap.objs.size f cd)
 N:=N
 s₀:=s
 H₀:=H
 env:=envOfC qual scope s.heap.objs.size f cd
 outer:=outer
 stack:=envOfC qual scope s.heap.objs.size f cd::outer
 ex:=[]
 calm:=true
 fn:=λ_=>true
 pn:=[]
 xe:=λe s'=>wpAny (model P w) (A.deeper (envOfC qual scope s.heap.objs.size f cd)) (leaving (envOfC qual scope s.heap.objs.size f cd) e) (λ_ s''=>CX outer H s E e s'') (λe' s''=>CX outer H s E e' s'') s'
theorem K1{sc:Scope}{n:Nat}{x:Str}(h:sc.names.lookup x=some .cell):∃c,(cellsFrom n sc.names []).lookup x=some c:=by
 have q:=PySem.W.cellsFrom_some sc.names n [] (.inl h);exact Option.isSome_iff_exists.mp q
theorem U3{CX:CXT}{P:Program}{w:World}{K:PySem.W.Frag}{mg:Str->Option Value}{base:Heap}{N ps:List Str}{qual:Str}{scope:Scope}{f:Addr}{cd:Value}{A:Around}{outer:List Env}{s s1:Shared}{H:Hp}{E:XK}{us:List Value}{vs:List V}
  (S:zC N ps scope) (hd:A.handled=none) (e0:Env0 P w K mg base A outer s H) (hl:vs.length=ps.length) (r:Vals vs us)
  (x:InCallC s s.heap.objs.size (bindL (envOfC qual scope s.heap.objs.size f cd).kindOf (ps.zip us) λ_=>none) (cellsFrom (s.heap.objs.size+1) scope.names []) (bindC (envOfC qual scope s.heap.objs.size f cd).kindOf (ps.zip us) λ_=>none) s1):
  Inv (cxOf CX P w K mg base N qual scope f cd A outer s H E) [] (start N vs) H s1:=by
 have hpl:ps.length<=N.length:=by have:=congrArg List.length S.pre;rw[wP]at this;omega
 obtain⟨h1,tk,rfl,hk⟩:=x.done;have noA:∀b:Addr,b∉(cxOf CX P w K mg base N qual scope f cd A outer s H E).ex:=λb z=>absurd (show b∈([]:List Addr) from z) (by simp);refine⟨⟨e0.mod,S.kind,rfl,rfl,Nat.le_refl _,λy z c h1 h2=>?_,λy hy=>?_,λy c _ h=>?_,λ_=>hd,Around.frames_deeper e0.frames,.inr ⟨rfl,rfl⟩,λb z=>absurd z (noA b),e0.bs,e0.bsz,λb _ _=>noA b,λb z=>absurd z (noA b),e0.funs,e0.frf⟩,
  rfl,e0.bare,Un.kept hk,⟨_,x.toInCall.ns,λi y v h1 h2 h3=>?_⟩,λy c h=>⟨_,x.cell y c h⟩,e0.hok.fresh (Nat.le_refl _),λy c h=>?_,λp hp=>absurd (show p∈([]:List (Addr×Obj)) from hp) (by simp),e0.hok.kept hk,?_⟩
 ·exact name_of_addr x.apart (PySem.mem_of_lookup h1) (PySem.mem_of_lookup h2)
 ·have hy:scope.names.lookup y=some .cell\/scope.names.lookup y=some .free:=hy;rcases hy with hy|hy
  ·exact K1 hy
  ·exact absurd rfl (S.nofree _ (PySem.mem_of_lookup hy))
 ·exact wc (x.above y c (PySem.mem_of_lookup h))
 ·have hi:i<vs.length:=by
   unfold start at h2;by_cases hi:i<vs.length
   ·exact hi
   ·rw[List.getElem?_append_right (by simpa using hi)]at h2;rw[List.getElem?_replicate]at h2;split at h2<;>cases h2
  have ha:vs[i]?=some v:=by
   unfold start at h2;rw[List.getElem?_append_left (by simpa using hi),wQ]at h2;cases e:vs[i]? with
   |none=>rw[e]at h2;cases h2
   |some a=>rw[e]at h2;cases h2;rfl
  obtain⟨u,hu,rv⟩:=r.get ha;have hp:ps[i]?=some y:=by
   rw[<-S.pre,wR (by omega)];exact h1
  have ndP:ps.Nodup:=by rw[<-S.pre];exact S.nd.sublist (List.take_sublist _ _)
  refine⟨u,rv,?_⟩;rcases S.par y (List.mem_of_getElem? hp) with k|k
  ·exact .inl ⟨k,Jy ndP hp hu k⟩
  ·obtain⟨c,e⟩:=K1 (n:=s.heap.objs.size+1) k;refine .inr ⟨.inl k,c,e,?_⟩;have q:=x.cell y c e;rw[A3 ndP hp hu (by show scope.names.lookup y≠_;rw[k];decide)]at q;exact q
 ·exact e0.hok.fresh (wc (x.above y c (PySem.mem_of_lookup h)))
 ·unfold start;show _=N.length;rw[List.length_append,wL,List.length_replicate];omega
theorem fn_of{CX:CXT}{P:Program}{w:World}{K:PySem.W.Frag}{mg:Str->Option Value}{base:Heap}{k:Nat}{f:Addr}{name qual:Str}{params:Arguments}{body:List Stmt}{scope:Scope}{dV kV doc pm cdv ct oc:Value}{an od:Option Addr}
  {osl:Array (Option Value)}{N ps:List Str}{sp:Sp}(lk:K.lookup f=some ⟨oc,od,.func (PySem.W.fnOf name qual params body scope dV kV doc pm an cdv ct),osl⟩) (hcd:PySem.W.codeIn K cdv qual=true) (S:zC N ps scope)
  (len:∀vs H Q E,sp vs H Q E->vs.length=ps.length)
  (hbody:∀(A:Around) (outer:List Env) (s:Shared) (H:Hp) (vs:List V) (Q:VK) (E:XK),Room k (A.deeper (envOfC qual scope s.heap.objs.size f cdv))->sp vs H Q E ->
   ∃t,PSs (cxOf CX P w K mg base N qual scope f cdv A outer s H E) body t/\t { nx:=λ_ H'=>Q .non H',rt:=Q } (start N vs) H):
  FnOk P w K mg base CX (k+1) f (PySem.W.fnOf name qual params body scope dV kV doc pm an cdv ct) ps sp:=by
 refine⟨len,λA outer s H args us vs Q E hr e0 hb r hsp=>?_⟩;have hl:=len _ _ _ _ hsp;have KX:K.In s.heap:=e0.mod.kin.keeps λb o e=>(e0.bs b o e).1;have lim:s.heap.NoLimit:=e0.mod.nolimit.keeps λb o e=>(e0.bs b o e).1;have hkind:∀y∈ps.zip us,scope.names.lookup y.1=some .local\/(scope.names.lookup y.1=some .cell/\((cellsFrom (s.heap.objs.size+1) scope.names []).lookup y.1).isSome=true):=λ⟨n,v⟩ hy=>by
  rcases S.par n (List.of_mem_zip hy).1 with q|q
  ·exact .inl q
  ·exact .inr ⟨q,PySem.W.cellsFrom_some _ _ _ (.inl q)⟩
 refine codeAny_call_function hr.depth (KX _ _ lk) rfl S.co S.gen rfl (PySem.W.codeRec_of KX hcd) (hb _ _ _ _ ?_);refine wpAny_newFunctionEnv_cells S.kind hkind λenv he s1 x=>?_;subst he;refine⟨lim.keeps x.toInCall.keep,codeAny_func ?_⟩;obtain⟨t,ht,hq⟩:=hbody A outer s H vs Q E (hr.deeper _) hsp;have I:Inv (cxOf CX P w K mg base N qual scope f cdv A outer s H E) [] (start N vs) H s1:=U3 S hr.hd e0 hl r x;refine wpAny_mono (ht [] s1 (start N vs) H _ I hq) (λfl s' hs=>?_) λe s' hs=>hs;have fin:∀{σ':St}{H':Hp}{v:V}{u:Value},Inv (cxOf CX P w K mg base N qual scope f cdv A outer s H E) [] σ' H' s'->RelV v u->Q v H'->CE outer P w H s Q u s':=
  λ{σ' H' v u} J rv q=>⟨v,H',J.os,J.bare,J.base,J.hok,rv,q⟩
 cases fl with
 |ret u=>
  obtain⟨v,σ',H',J,rv,q⟩:=hs;exact fin J rv q
 |next=>
  obtain⟨σ',H',J,q⟩:=hs;exact fin (v:=V.non) (u:=Value.none) J rfl q
 |brk=>
  obtain⟨_,_,_,q⟩:=hs;exact False.elim q
 |cont=>
  obtain⟨_,_,_,q⟩:=hs;exact False.elim q
section
variable{X:Cx}{x:Str}{p pos:Pos}{e:Expr}{es:List Expr}{t:TA}{id T:String}{r:List V->Hp->VK->Prop}
noncomputable def tCB(r:List V->Hp->VK->Prop)(t:TA):TE:=λσ H Q=>t σ H λvs H1=>r vs H1 Q
theorem pe_callB(hc:qq X (.builtin id) r)(hg:Gl X x)(hm:X.mg x=none)(hv:bootBuiltins x=some (.builtin id))(ha:PA X (e::es) t)(hn:x≠"__name__":=by decide)(hdb:(x==("__debug__":Str))=false:=by decide)
  (he:starEach (e::es) X.env=(false,eval e X.env)::starEach es X.env:=by rfl) (hpl:(backTo pos (starEach es X.env)).any (·.1)=false:=by rfl):PE X (.Call (.Name x p) (e::es) [] pos) (tCB r t):=by
 intro pins s σ H Q I h;refine wpAny_Call_Name_kw (ld_blt I hg hm hv ?_ hn hdb);exact PyProof.Rows.callWith_builtin1 (thn (ha pos pins s σ H _ I h) λus s1 ⟨vs,H1,I1,r1,q1⟩=>hc pins s1 σ H1 vs us Q I1 r1 q1) he hpl
theorem pe_callTy(hc:qq X (.type T) r)(hg:Gl X x)(hm:X.mg x=none)(hv:bootBuiltins x=some (.type T))(ha:PA X (e::es) t)(hn:x≠"__name__":=by decide)(hdb:(x==("__debug__":Str))=false:=by decide)
  (he:starEach (e::es) X.env=(false,eval e X.env)::starEach es X.env:=by rfl) (hpl:(backTo pos (starEach es X.env)).any (·.1)=false:=by rfl):PE X (.Call (.Name x p) (e::es) [] pos) (tCB r t):=by
 intro pins s σ H Q I h;refine wpAny_Call_Name_kw (ld_blt I hg hm hv ?_ hn hdb);exact PyProof.Rows.callWith_type1 (thn (ha pos pins s σ H _ I h) λus s1 ⟨vs,H1,I1,r1,q1⟩=>hc pins s1 σ H1 vs us Q I1 r1 q1) he hpl
end
end L2
namespace HT
open PySem PyProof.Rows
section
variable{prog:Program}{w:World}{A:Around}{E:Value->Shared->Prop}{s:Shared}
theorem cat_tup{t b:Addr}{vs ws:List Value}{Q:Value->Shared->Prop}(ht:IsTup s.heap t vs.toArray)(hb:IsTup s.heap b ws.toArray)(hv:vs≠[])
  (h1:ws=[]->Q (.ref t) s) (h2:ws≠[]->Q (.ref s.heap.objs.size) { s with heap:=s.heap.push { cls:=.type "tuple",data:=.seq (vs++ws).toArray } })
  (hsz:vs.length+ws.length<=sizeLine):wpAny (model prog w) A (binaryOp .Add (.ref t) (.ref b)) Q E s:=by
 obtain⟨⟨cls,dd,data,sl⟩,ho,hc,n,hd⟩:=id ht;obtain⟨⟨cls2,dd2,data2,sl2⟩,ho2,hc2,n2,hd2⟩:=id hb;simp only at hc hd hc2 hd2;subst hc hd hc2 hd2;have e:vs.toArray++ws.toArray=(vs++ws).toArray:=by simp
 by_cases hw:ws=[]
 ·exact concat_meets ⟨_,ho,rfl⟩ ⟨_,ho2,rfl⟩ noFill_tuple_add seq_tuple_add PySem.F.slot_tuple_add PySem.F.entry_tuple_add (PySem.F.args_tuple_add_2 _ _)
   (tuple_addW1 t b vs.toArray ws.toArray n n2 dd dd2 sl sl2 (by simpa using hv) (by simp[hw])) ⟨ho,ho2,h1 hw⟩
 ·refine concat_meets ⟨_,ho,rfl⟩ ⟨_,ho2,rfl⟩ noFill_tuple_add seq_tuple_add PySem.F.slot_tuple_add PySem.F.entry_tuple_add (PySem.F.args_tuple_add_2 _ _)
   (tuple_addW2 t b vs.toArray ws.toArray n n2 dd dd2 sl sl2 (by simpa using hv) (by simpa using hw) (by rw[wF,wF];exact hsz)) ⟨ho,ho2,?_⟩
  rw[e];exact h2 hw
noncomputable def sIx(n d:Nat):Option Int->Nat
 |none=>d
 |some v=>if v<0 then (v+(n:Int)).toNat else min v.toNat n
theorem sIx_none(n d:Nat):sIx n d none=d:=rfl
theorem sIx_nat(n d k:Nat):sIx n d (some (k:Int))=min k n:=by
 show (if (k:Int)<0 then ((k:Int)+(n:Int)).toNat else min (k:Int).toNat n)=min k n;rw[if_neg (by omega),wg]
theorem qEB(n d:Nat)(hd:d<=n)(o:Option Int):sIx n d o<=n:=by
 cases o with
 |none=>exact hd
 |some v=>
  show (if v<0 then (v+(n:Int)).toNat else min v.toNat n)<=n;by_cases hv:v<0
  ·rw[if_pos hv];omega
  ·rw[if_neg hv];exact Nat.min_le_right _ _
theorem X7(v:Int)(n d:Nat):(if v<0 then max (v+(n:Int)) 0 else min v (n:Int))=((sIx n d (some v):Nat):Int):=by
 show (if v<0 then max (v+(n:Int)) 0 else min v (n:Int))=(((if v<0 then (v+(n:Int)).toNat else min v.toNat n):Nat):Int);by_cases hv:v<0
 ·simp only[if_pos hv];omega
 ·simp only[if_neg hv];omega
theorem P6(lo hi:Option Int)(n:Nat):Builtin.Slice.sliceAdjust lo hi 1 (n:Int)=(((sIx n 0 lo:Nat):Int),((sIx n n hi:Nat):Int)):=by
 have h1:¬ ((1:Int)<0):=by omega
 unfold Builtin.Slice.sliceAdjust;simp only[h1,if_false];refine Prod.ext ?_ ?_
 ·cases lo with
  |none=>rfl
  |some v=>exact X7 v n 0
 ·cases hi with
  |none=>rfl
  |some v=>exact X7 v n n
theorem T4(i j:Nat):Builtin.Slice.slicePlaces (i:Int) (j:Int) 1=j-i:=by
 unfold Builtin.Slice.slicePlaces;have h1:(1:Int)>0:=by omega
 simp only[h1,if_true,Int.ediv_one];split<;>omega
theorem Zc{v:Value}{o:Option Int}{Q:Option Int->Shared->Prop}(p:IsPart v o)(h:Q o s):wpAny (model prog w) A (Builtin.Slice.slicePartIndex v) Q E s:=by
 cases p with
 |none=>exact slicePart_none h
 |int i t=>exact slicePart_int h
theorem QW{sl:Addr}{vl vu:Value}{lo hi:Option Int}{n:Nat}{Q:Int×Int×Nat->Shared->Prop}(hs:s.heap.IsSliceOf sl vl vu .none)(pl:IsPart vl lo)(pu:IsPart vu hi)
  (h:Q (((sIx n 0 lo:Nat):Int),1,sIx n n hi-sIx n 0 lo) s):wpAny (model prog w) A (Builtin.Slice.sliceApplied (.ref sl) (pure (n:Int))) Q E s:=by
 obtain⟨os,hos,hcs,hds⟩:=id hs;unfold Builtin.Slice.sliceApplied Builtin.Slice.sliceFields;refine vC (vC (wpAny_field hos hds (x:=vl) rfl (vC (wpAny_field hos hds (x:=vu) rfl (vC (wpAny_field hos hds (x:=.none) rfl (vD ?_)))))));refine vC (slicePart_none ?_);show wpAny _ _ (if ((1:Int)==0)=true then _ else _) _ _ s;rw[if_neg (by decide)];refine vC (Zc pl (vC (Zc pu (vC (vD ?_)))));show wpAny _ _ (match Builtin.Slice.sliceAdjust lo hi 1 (n:Int) with|(lo,hi)=>pure (lo,(1:Int),Builtin.Slice.slicePlaces lo hi 1)) _ _ s;rw[P6 lo hi n];show wpAny _ _ (pure (((sIx n 0 lo:Nat):Int),(1:Int),Builtin.Slice.slicePlaces ((sIx n 0 lo:Nat):Int) ((sIx n n hi:Nat):Int) 1)) _ _ s;rw[T4];exact vD h
theorem qAS(xs:Array Value)(i k:Nat):((List.range k).filterMap λ(m:Nat)=>xs[((i:Int)+(m:Int)*1).toNat]?).toArray=((xs.toList.drop i).take k).toArray:=by
 have e:(λ(m:Nat)=>xs[((i:Int)+(m:Int)*1).toNat]?)=λm=>xs[i+m]?:=by
  funext m
  have:((i:Int)+(m:Int)*1).toNat=i+m:=by omega
  rw[this]
 rw[e];have:=pick_run xs i k;rw[List.filterMap_map]at this;have e2:((λx=>xs[x]?)∘λx=>i+x)=λm=>xs[i+m]?:=rfl;rw[e2]at this;rw[this]
theorem getItem_tuple_cut{t sl:Addr}{items:Array Value}{vl vu:Value}{lo hi:Option Int}{Q:Value->Shared->Prop}(ht:IsTup s.heap t items)(hs:s.heap.IsSliceOf sl vl vu .none)(pl:IsPart vl lo)(pu:IsPart vu hi)
  (hw:¬ (sIx items.size 0 lo=0/\sIx items.size items.size hi=items.size))
  (h:Q (.ref s.heap.objs.size) { s with heap:=s.heap.push { cls:=.type "tuple",data:=.seq ((items.toList.drop (sIx items.size 0 lo)).take (sIx items.size items.size hi-sIx items.size 0 lo)).toArray } })
  (hsz:items.size<=sizeLine):wpAny (model prog w) A (getItem (.ref t) (.ref sl)) Q E s:=by
 have htake:sizeOk (.seq ((items.toList.drop (sIx items.size 0 lo)).take (sIx items.size items.size hi-sIx items.size 0 lo)).toArray):=by
  show ((items.toList.drop (sIx items.size 0 lo)).take (sIx items.size items.size hi-sIx items.size 0 lo)).toArray.size<=sizeLine;rw[wF,wP,wY,Array.length_toList];omega
 have hj:sIx items.size items.size hi<=items.size:=qEB _ _ (Nat.le_refl _) hi;obtain⟨os,hos,hcs,hds⟩:=id hs;have hTs:s.TypeIs (.ref sl) "slice":=⟨os,hos,hcs⟩
 unfold getItem
 try with_reducible refine wpAny_holding ?_
 first|refine vC (vD ?_)|skip
 refine vC (wpAny_sequenceKey ht.typeIs (by decide) ?_);refine vC (wpAny_callSpecial?_slot (name:=Str.ofString "__getitem__") ht.typeIs PyProof.Rows.slot_tuple_getitem
  (wpAny_call_entry PyProof.Rows.slot_tuple_getitem ht.typeIs entry_tuple_getitem ?_ (args_tuple_getitem _ _)))
 show wpAny _ _ (Builtin.Tuple.tupleItemsOf (.ref t) >>=_) _ _ s;refine vC (tupleItemsOf_ ht ?_);refine vC (wpAny_typeOf hTs ?_);rw[if_pos (by decide)];refine vC (QW hs pl pu ?_);have hno:¬ ((((sIx items.size 0 lo:Nat):Int)==0&&(1:Int)==1&&(sIx items.size items.size hi-sIx items.size 0 lo)==items.size)=true):=by
  intro q;rw[Bool.and_eq_true,Bool.and_eq_true]at q;have q1:((sIx items.size 0 lo:Nat):Int)=0:=eq_of_beq q.1.1;have q2:sIx items.size items.size hi-sIx items.size 0 lo=items.size:=eq_of_beq q.2;exact hw ⟨by omega,by omega⟩
 show wpAny _ _ (if (((sIx items.size 0 lo:Nat):Int)==0&&(1:Int)==1&&(sIx items.size items.size hi-sIx items.size 0 lo)==items.size)=true then _ else _) _ _ s;rw[if_neg hno,qAS]
 first
  |exact vC (m:=Builtin.Tuple.tupleExact _) (wpAny_newObj_type (vD ⟨_,rfl,vD h⟩) htake)
  |exact vC (m:=Builtin.Tuple.tupleExact _) (wpAny_newObj_type (vC (vD (vD ⟨_,rfl,vD h⟩))) htake)
  |exact vC (vC (m:=Builtin.Tuple.tupleExact _) (wpAny_newObj_type (vD (vD ⟨_,rfl,vD h⟩)) htake))
  |exact vC (vC (m:=Builtin.Tuple.tupleExact _) (wpAny_newObj_type (vD ⟨_,rfl,vD h⟩) htake))
end
end HT
namespace L2
open PySem PySem.Spec PyProof.Rows
noncomputable abbrev TO:=St->Hp->(Option Int->Hp->Prop)->Prop
def PO(X:Cx)(e:Option Expr)(t:TO):Prop:=
 ∀(pins:List (Addr×Obj)) (s:Shared) (σ:St) (H:Hp) (Q:Option Int->Hp->Prop),Inv X pins σ H s->t σ H Q ->
  wpAny (model X.prog X.w) X.A (evalPart e X.env) (λu s'=>∃o H',Inv X pins σ H' s'/\IsPart u o/\Q o H') X.xe s
noncomputable def qCl:TO:=λ_ H Q=>Q none H
noncomputable def qFu(t:TE):TO:=λσ H Q=>t σ H λx H1=>∃i,x=.int i/\Q (some i) H1
section
variable{X:Cx}{e:Expr}{te:TE}{lo hi:Option Expr}{tl th:TO}{pos p2:Pos}
theorem po_none:PO X none qCl:=by
 intro pins s σ H Q I h;rw[evalPart_none];exact vD ⟨none,H,I,.none,h⟩
theorem po_some(h:PE X e te):PO X (some e) (qFu te):=by
 intro pins s σ H Q I hw;rw[evalPart_some];refine thn (h pins s σ H _ I hw) λu s1 ⟨x,H1,I1,r1,q1⟩=>?_;obtain⟨i,rfl,q⟩:=q1;obtain⟨t,rfl⟩:=r1;exact⟨some i,H1,I1,.int i t,q⟩
def SlR(X:Cx)(r:V->Option Int->Option Int->Hp->VK->Prop):Prop:=
 ∀(pins:List (Addr×Obj)) (s:Shared) (σ:St) (H:Hp) (x:V) (v vl vu:Value) (lo hi:Option Int) (sl:Addr) (Q:VK),Inv X pins σ H s->RelV x v->s.heap.IsSliceOf sl vl vu .none->IsPart vl lo->IsPart vu hi->r x lo hi H Q ->
  ∃T id,typeLookup (.type T) "__getitem__"=pure (some (.builtin id))/\s.TypeIs v T/\wpAny (model X.prog X.w) X.A (getItem v (.ref sl)) (EP X pins σ Q) X.xe s
theorem SlR.or{r r':V->Option Int->Option Int->Hp->VK->Prop}(h:SlR X r)(h':SlR X r'):SlR X (λx lo hi H Q=>r x lo hi H Q\/r' x lo hi H Q):=by
 intro pins s σ H x v vl vu lo hi sl Q I rx hs pl pu q;rcases q with q|q
 ·exact h pins s σ H x v vl vu lo hi sl Q I rx hs pl pu q
 ·exact h' pins s σ H x v vl vu lo hi sl Q I rx hs pl pu q
noncomputable def tSl(r:V->Option Int->Option Int->Hp->VK->Prop)(te:TE)(tl th:TO):TE:=λσ H Q=>te σ H λx H1=>tl σ H1 λl H2=>th σ H2 λu H3=>r x l u H3 Q
theorem pe_slice{r:V->Option Int->Option Int->Hp->VK->Prop}(hr:SlR X r)(he:PE X e te)(hl:PO X lo tl)(hu:PO X hi th):PE X (.Subscript e (.Slice lo hi none p2) pos) (tSl r te tl th):=by
 intro pins s σ H Q I h;refine Subscript_ (thn (he pins s σ H _ I h) λv s1 ⟨x,H1,I1,r1,q1⟩=>?_);refine wpAny_Slice (thn (hl pins s1 σ H1 _ I1 q1) λvl s2 ⟨l,H2,I2,pl,q2⟩=>thn (hu pins s2 σ H2 _ I2 q2) λvu s3 ⟨u,H3,I3,pu,q3⟩=>?_);rw[evalPart_none];refine vD ?_;have I4:Inv X pins σ H3 { s3 with heap:=s3.heap.push { cls:=.type "slice",data:=.fields #[vl,vu,.none] } }:=I3.kept (t':=s3.toks) λb ob q=>Heap.get?_push_of_some _ q;obtain⟨T,id,hT,ht,hg⟩:=hr pins { s3 with heap:=s3.heap.push { cls:=.type "slice",data:=.fields #[vl,vu,.none] } } σ H3 x v vl vu l u s3.heap.objs.size Q I4 r1 (Heap.IsSliceOf.new ..) pl pu q3;show wpAny (model X.prog X.w) X.A (subscriptTail e (.Slice lo hi none p2) v (.ref s3.heap.objs.size)) (EP X pins σ Q) X.xe { s3 with heap:=s3.heap.push { cls:=.type "slice",data:=.fields #[vl,vu,.none] } };exact tail_any (ops:=[.ref s3.heap.objs.size,v]) ht hT hg (by with_unfolding_all rfl)
noncomputable def cutV(xs:List V)(lo hi:Option Int):List V:=(xs.drop (HT.sIx xs.length 0 lo)).take (HT.sIx xs.length xs.length hi-HT.sIx xs.length 0 lo)
theorem ZI(xs:List V)(lo hi:Option Int):(cutV xs lo hi).length<=xs.length:=by
 unfold cutV;rw[wP,wY];omega
def qIS(K:PySem.W.Frag):V->Option Int->Option Int->Hp->VK->Prop:=λx lo hi H Q=>∃a xs,x=.ref a/\SqT K H a xs/\
 ¬ (HT.sIx xs.length 0 lo=0/\HT.sIx xs.length xs.length hi=xs.length)/\∀p,H p=none->Q (.ref p) (upd H p (.tup (cutV xs lo hi)))
theorem sl_tup:SlR X (qIS X.K):=by
 intro pins s σ H x v vl vu lo hi sl Q I rx hs pl pu h;obtain⟨a,xs,rfl,hx,hw,q⟩:=h;cases rx;obtain⟨its,r,ht,hz⟩:=I.tuple hx;have hlen:its.toArray.size=xs.length:=by rw[wF];exact r.length.symm
 refine⟨"tuple",_,PyProof.Rows.slot_tuple_getitem.lookup,ht.typeIs,?_⟩;refine HT.getItem_tuple_cut ht hs pl pu (by rw[hlen];exact hw) ?_ (by rw[hlen];exact hz);rw[hlen];refine⟨.ref s.heap.objs.size,_,I.laid (t':=s.toks) (o:=.tup (cutV xs lo hi)) (λb ob q=>Heap.get?_push_of_some _ q) (Nat.le_refl _) ?_,rfl,q _ (I.hok.fresh (Nat.le_refl _))⟩;exact⟨Nat.le_trans (ZI xs lo hi) hz,_,(r.drop (HT.sIx xs.length 0 lo)).take (HT.sIx xs.length xs.length hi-HT.sIx xs.length 0 lo),IsTup.new _ _⟩
noncomputable def rCatT(K:PySem.W.Frag):R2:=λx y H Q=>∃a b xs ys,x=.ref a/\y=.ref b/\SqT K H a xs/\SqT K H b ys/\xs≠[]/\xs.length+ys.length<=sizeLine/\
 (ys=[]->Q (.ref a) H)/\(ys≠[]->∀p,H p=none->Q (.ref p) (upd H p (.tup (xs++ys))))
theorem Vals.nil_iff{xs:List V}{us:List Value}(r:Vals xs us):us=[]↔xs=[]:=by
 cases r with
 |nil=>simp
 |cons _ _=>simp
theorem op_catT:OpR X (binaryOp .Add) (rCatT X.K):=by
 intro pins s σ H x y v u Q I rx ry h;obtain⟨a,b,xs,ys,rfl,rfl,ha,hb,hx,hz,q1,q2⟩:=h;cases rx;cases ry;obtain⟨its,r1,p1,_⟩:=I.tuple ha;obtain⟨its2,r2,p2,_⟩:=I.tuple hb;refine HT.cat_tup p1 p2 (λz=>hx (r1.nil_iff.mp z)) (λz=>⟨.ref a,H,I,rfl,q1 (r2.nil_iff.mp z)⟩) (λz=>?_) (by rw[<-r1.length,<-r2.length];exact hz);refine⟨.ref s.heap.objs.size,_,I.laid (t':=s.toks) (o:=.tup (xs++ys)) (λb ob q=>Heap.get?_push_of_some _ q) (Nat.le_refl _) ?_,rfl,q2 (λw=>z (r2.nil_iff.mpr w)) _ (I.hok.fresh (Nat.le_refl _))⟩;exact⟨by rw[List.length_append];exact hz,_,r1.append r2,IsTup.new _ _⟩
end
noncomputable def ixN(n:Nat)(i:Int):Option Nat:=if 0<=i then (if i<n then some i.toNat else none) else if -(n:Int)<=i then some (i+n).toNat else none
noncomputable def atI{α:Type}(xs:List α)(i:Int):Option α:=(ixN xs.length i).bind λj=>xs[j]?
theorem ixN_seq{n:Nat}{i:Int}{j:Nat}(h:ixN n i=some j):seqIndex? i n=some j/\j<n/\-(n:Int)<=i/\i<n:=by
 unfold ixN at h;by_cases h0:0<=i
 ·rw[if_pos h0]at h;by_cases h1:i<n
  ·rw[if_pos h1]at h;have e:i.toNat=j:=Option.some.inj h;exact⟨by rw[seqIndex_of h0 h1,e],by omega,by omega,h1⟩
  ·rw[if_neg h1]at h;cases h
 ·rw[if_neg h0]at h;by_cases h1:-(n:Int)<=i
  ·rw[if_pos h1]at h;have e:(i+n).toNat=j:=Option.some.inj h;exact⟨by rw[seqIndex_neg (by omega) h1,e],by omega,h1,by omega⟩
  ·rw[if_neg h1]at h;cases h
theorem X0{α:Type}{xs:List α}{i:Int}{v:α}(h:atI xs i=some v):∃j,seqIndex? i xs.length=some j/\xs[j]?=some v/\j<xs.length/\-(xs.length:Int)<=i/\i<xs.length:=by
 unfold atI at h;cases e:ixN xs.length i with
 |none=>rw[e]at h;cases h
 |some j=>
  rw[e]at h;obtain⟨h1,h2,h3,h4⟩:=ixN_seq e;exact⟨j,h1,h,h2,h3,h4⟩
def PlainIx(b:Expr):Prop:=∀o i,subscripted b false o i=operate [o,i] (getItem o i)
def IxR(X:Cx)(r:R2):Prop:=
 ∀(value slice:Expr) (pins:List (Addr×Obj)) (s:Shared) (σ:St) (H:Hp) (x y:V) (v u:Value) (Q:VK),Inv X pins σ H s->RelV x v->RelV y u->r x y H Q ->
  subscripted slice false v u=operate [v,u] (getItem v u)->wpAny (model X.prog X.w) X.A (subscriptTail value slice v u) (EP X pins σ Q) X.xe s
def MtR(X:Cx)(id:String)(r:V->List V->Hp->VK->Prop):Prop:=
 ∀(pins:List (Addr×Obj)) (s:Shared) (σ:St) (H:Hp) (x:V) (xs:List V) (v:Value) (us:List Value) (Q:VK),Inv X pins σ H s->RelV x v->Vals xs us->r x xs H Q ->
  wpAny (model X.prog X.w) X.A (call (.builtin id) (v::us)) (EP X pins σ Q) X.xe s
section
variable{X:Cx}{a b:Expr}{ta tb:TE}{pos:Pos}
theorem IxR.or{r r':R2}(h:IxR X r)(h':IxR X r'):IxR X (λx y H Q=>r x y H Q\/r' x y H Q):=by
 intro value slice pins s σ H x y v u Q I rx ry q hs;rcases q with q|q
 ·exact h value slice pins s σ H x y v u Q I rx ry q hs
 ·exact h' value slice pins s σ H x y v u Q I rx ry q hs
theorem pe_ix{r:R2}(hr:IxR X r)(ha:PE X a ta)(hb:PE X b tb)(hs:PlainIx b):PE X (.Subscript a b pos) (tOp r ta tb):=by
 intro pins s σ H Q I h;exact Subscript_ (qr ha hb I h λv u s2 x y H2 I2 rx ry q=>hr a b pins s2 σ H2 x y v u Q I2 rx ry q (hs _ _))
noncomputable def qIU(K:PySem.W.Frag):R2:=λx y H Q=>∃p xs i v,x=.ref p/\y=.int i/\SqL K H p xs/\atI xs i=some v/\Q v H
noncomputable def qI8(K:PySem.W.Frag):R2:=λx y H Q=>∃p xs i v,x=.ref p/\y=.int i/\SqT K H p xs/\atI xs i=some v/\Q v H
theorem ix_list:IxR X (qIU X.K):=by
 intro value slice pins s σ H x y v u Q I rx ry h hs;obtain⟨p,xs,i,z,rfl,rfl,hq,he,q⟩:=h;cases rx;obtain⟨t,rfl⟩:=ry;obtain⟨its,r,pl,hz⟩:=I.list hq;obtain⟨j,h1,h2,h3,h4,h5⟩:=X0 he;obtain⟨w,ew,rw'⟩:=r.get h2;have hl:=r.length;have hn:=B5;have fin:EP X pins σ Q w s:=⟨z,H,I,rw',q⟩
 by_cases h0:0<=i
 ·have hj:i.toNat=j:=by
   rw[seqIndex_of h0 h5]at h1;exact Option.some.inj h1
  exact item_listR pl.isList h0 (by omega) (by rw[hj];simpa using ew) fin hs
 ·have hj:(i+(its.toArray.size:Int)).toNat=j:=by
   rw[seqIndex_neg (by omega) h4]at h1;rw[wF,<-hl];exact Option.some.inj h1
  exact subscriptTail_builtinR (x:=w) pl.isList.typeIs slot_list_getitem.lookup
   (wpAny_getItem_list_neg (Q:=λr s'=>r=w/\EP X pins σ Q r s') pl.isList (by omega) (by rw[wF]<;>omega) (by omega) (by rw[hj];simpa using ew) ⟨rfl,fin⟩) hs
theorem ix_tup:IxR X (qI8 X.K):=by
 intro value slice pins s σ H x y v u Q I rx ry h hs;obtain⟨p,xs,i,z,rfl,rfl,hq,he,q⟩:=h;cases rx;obtain⟨t,rfl⟩:=ry;obtain⟨its,r,pl,hz⟩:=I.tuple hq;obtain⟨j,h1,h2,h3,h4,h5⟩:=X0 he;obtain⟨w,ew,rw'⟩:=r.get h2;have hl:=r.length;have hn:=B5;have fin:EP X pins σ Q w s:=⟨z,H,I,rw',q⟩
 exact subscriptTail_builtinR (x:=w) pl.typeIs slot_tuple_getitem.lookup
  (getItem_tuple (j:=j) (Q:=λr s'=>r=w/\EP X pins σ Q r s') pl (by omega) (by omega) (by rw[wF,<-hl];exact h1) (by simpa using ew) ⟨rfl,fin⟩) hs
theorem Q6(its:List Value)(n j:Nat)(u:Value):Obj.mapSeq (·.setIfInBounds j u) { cls:=.type "list",data:=.seq its.toArray n }={ cls:=.type "list",data:=.seq (its.set j u).toArray n }:=by
 simp[Obj.mapSeq]
theorem Inv.lst{pins:List (Addr×Obj)}{σ:St}{H:Hp}{s:Shared}{p:Addr}{xs:List V}(I:Inv X pins σ H s)(h:H p=some (.lst xs)):
  ∃(its:List Value) (n:Nat),Vals xs its/\s.heap.get? p=some { cls:=.type "list",data:=.seq its.toArray n }/\xs.length<=sizeLine:=by
 obtain⟨z,its,n,r,e⟩:=I.hok p _ h;exact⟨its,n,r,e,z⟩
theorem Inv.lstUpd{pins:List (Addr×Obj)}{σ:St}{H:Hp}{s:Shared}{p:Addr}{xs ys:List V}{its its':List Value}{n n':Nat}{f:Obj->Obj}(I:Inv X pins σ H s)(h:H p=some (.lst xs))
  (ho:s.heap.get? p=some { cls:=.type "list",data:=.seq its.toArray n }) (hf:f { cls:=.type "list",data:=.seq its.toArray n }={ cls:=.type "list",data:=.seq its'.toArray n' }) (r:Vals ys its') (hz:ys.length<=sizeLine) (t:Nat):
  Inv X pins σ (upd H p (.lst ys)) { s with heap:=s.heap.update p f,toks:=t }:=by
 have e:(s.heap.update p f).get? p=some { cls:=.type "list",data:=.seq its'.toArray n' }:=by
  rw[Heap.get?_update_self f ho (by rw[hf]<;>rfl),hf]
 refine I.write (x:=p) (e:=p) (by rw[h];trivial) (.inl rfl) (λb u hb q=>(Heap.get?_update_other _ _ (Ne.symm hb)).trans q) ⟨_,e⟩ ?_;exact⟨hz,its',n',r,e⟩
def rSetL:V->V->V->Hp->(Hp->Prop)->Prop:=λo i v H Q=>∃p xs k j,o=.ref p/\i=.int k/\H p=some (.lst xs)/\ixN xs.length k=some j/\Q (upd H p (.lst (xs.set j v)))
theorem set_list:PSet X rSetL:=by
 intro pins s σ H o i v ov iv u Q I ro ri rv h;obtain⟨p,xs,k,j,rfl,rfl,hp,hj,q⟩:=h;cases ro;obtain⟨t,rfl⟩:=ri;obtain⟨its,n,r,ho,hz⟩:=I.lst hp;obtain⟨h1,h2,h3,h4⟩:=ixN_seq hj;have hl:=r.length;have hn:=B5;have I':Inv X pins σ (upd H p (.lst (xs.set j v))) { s with heap:=s.heap.update p (Obj.mapSeq (·.setIfInBounds j u)) }:=
  I.lstUpd hp ho (Q6 its n j u) (r.set rv j) (by rw[List.length_set];exact hz) s.toks
 by_cases h0:0<=k
 ·have hk:k.toNat=j:=by
   rw[seqIndex_of h0 h4]at h1;exact Option.some.inj h1
  exact PySem.W.ki_setAt ho h0 (by omega) (by rw[wF,<-hl];exact h4) (by rw[hk];exact⟨_,I',q⟩)
 ·have hk:(k+(its.toArray.size:Int)).toNat=j:=by
   rw[seqIndex_neg (by omega) h3]at h1;rw[wF,<-hl];exact Option.some.inj h1
  exact PySem.W.ki_setBack ho (by omega) (by rw[wF,<-hl];exact h3) (by omega) (by rw[hk];exact⟨_,I',q⟩)
theorem Jw(lo hi:Option Int)(n:Nat):(sliceBounds lo hi none n).1=((HT.sIx n 0 lo:Nat):Int)/\(sliceBounds lo hi none n).2.1=((HT.sIx n n hi:Nat):Int)/\(sliceBounds lo hi none n).2.2=1:=by
 refine⟨?_,?_,rfl⟩
 ·cases lo with
  |none=>simp[sliceBounds,HT.sIx]
  |some i=>
   simp only[sliceBounds,HT.sIx,Option.getD_none,show (1:Int)>0 by decide,if_true];by_cases h:i<0
   ·simp only[h,if_true]<;>omega
   ·simp only[h,if_false]<;>omega
 ·cases hi with
  |none=>simp[sliceBounds,HT.sIx]
  |some i=>
   simp only[sliceBounds,HT.sIx,Option.getD_none,show (1:Int)>0 by decide,if_true];by_cases h:i<0
   ·simp only[h,if_true]<;>omega
   ·simp only[h,if_false]<;>omega
theorem Zk(its:List Value)(lo hi:Option Int):slicePick its.toArray lo hi none=((its.drop (HT.sIx its.length 0 lo)).take (HT.sIx its.length its.length hi-HT.sIx its.length 0 lo)).toArray:=by
 obtain⟨h1,h2,h3⟩:=Jw lo hi its.toArray.size;unfold slicePick;rw[h1,h2,h3];simp only[sliceRange_one,pick_run,wF]<;>rfl
def qIs(K:PySem.W.Frag):V->Option Int->Option Int->Hp->VK->Prop:=λx lo hi H Q=>∃a xs,x=.ref a/\SqL K H a xs/\∀p,H p=none->Q (.ref p) (upd H p (.lst (cutV xs lo hi)))
theorem sl_list:SlR X (qIs X.K):=by
 intro pins s σ H x v vl vu lo hi sl Q I rx hs pl pu h;obtain⟨a,xs,rfl,hx,q⟩:=h;cases rx;obtain⟨its,r,ht,hz⟩:=I.list hx;have hlen:=r.length;refine⟨"list",_,slot_list_getitem.lookup,ht.isList.typeIs,?_⟩;refine wpAny_getItem_list_slice ht.isList hs pl pu .none (by simp) ?_ (by rw[wF]<;>omega);rw[Zk,<-hlen];refine⟨.ref s.heap.objs.size,_,I.laid (t':=s.toks) (o:=.lst (cutV xs lo hi)) (λb ob q=>Heap.get?_push_of_some _ q) (Nat.le_refl _) ?_,rfl,q _ (I.hok.fresh (Nat.le_refl _))⟩;exact⟨Nat.le_trans (ZI xs lo hi) hz,_,0,(r.drop (HT.sIx xs.length 0 lo)).take (HT.sIx xs.length xs.length hi-HT.sIx xs.length 0 lo),Heap.get?_push_size _ rfl⟩
noncomputable def flatV:V->Bool
 | .non=>true
 | .bl _=>true
 | .int _=>true
 | .str _=>true
 |_=>false
noncomputable def eqV:V->V->Bool
 | .non,.non=>true
 | .bl a,.bl b=>a==b
 | .bl a,.int b=>(if a then 1 else 0)==b
 | .int a,.bl b=>a==(if b then 1 else 0)
 | .int a,.int b=>a==b
 | .str a,.str b=>a==b
 |_,_=>false
theorem qFN{A:Around}{s:Shared}{y x:V}{u v:Value}(ry:RelV y u)(rx:RelV x v)(fy:flatV y=true)(fx:flatV x=true):SeqAt.EqAt A s u v (eqV y x):=by
 cases y with
 |non=>
  cases ry;cases x with
  |non=>cases rx;exact SeqAt.EqAt.same _
  |bl b=>cases rx;exact SeqAt.EqAt.none_bool b
  |int b=>obtain⟨t,rfl⟩:=rx;exact SeqAt.EqAt.none_int b t
  |str b=>obtain⟨t,rfl⟩:=rx;exact SeqAt.EqAt.none_str b t
  |_=>exact absurd (show false=true from fx) wV
 |bl a=>
  cases ry;cases x with
  |non=>cases rx;exact SeqAt.EqAt.bool_none a
  |bl b=>cases rx;exact SeqAt.EqAt.bool_bool a b
  |int b=>obtain⟨t,rfl⟩:=rx;exact SeqAt.EqAt.bool_int a b t
  |str b=>obtain⟨t,rfl⟩:=rx;exact SeqAt.EqAt.bool_str a b t
  |_=>exact absurd (show false=true from fx) wV
 |int a=>
  obtain⟨t',rfl⟩:=ry;cases x with
  |non=>cases rx;exact SeqAt.EqAt.int_none a t'
  |bl b=>cases rx;exact SeqAt.EqAt.int_bool a t' b
  |int b=>obtain⟨t,rfl⟩:=rx;exact SeqAt.EqAt.int_int a t' b t
  |str b=>obtain⟨t,rfl⟩:=rx;exact SeqAt.EqAt.int_str a t' b t
  |_=>exact absurd (show false=true from fx) wV
 |str a=>
  obtain⟨t',rfl⟩:=ry;cases x with
  |non=>cases rx;exact SeqAt.EqAt.str_none a t'
  |bl b=>cases rx;exact SeqAt.EqAt.str_bool a t' b
  |int b=>obtain⟨t,rfl⟩:=rx;exact SeqAt.EqAt.str_int a t' b t
  |str b=>obtain⟨t,rfl⟩:=rx;exact SeqAt.EqAt.str_str a t' b t
  |_=>exact absurd (show false=true from fx) wV
 |_=>exact absurd (show false=true from fy) wV
noncomputable def eqU(x:V)(u:Value):Bool:=match u with
 | .none=>eqV .non x
 | .bool b=>eqV (.bl b) x
 | .int i _=>eqV (.int i) x
 | .str z _=>eqV (.str z) x
 |_=>false
theorem qAw{x y:V}{u:Value}(r:RelV y u)(f:flatV y=true):eqU x u=eqV y x:=by
 cases y with
 |non=>cases r;rfl
 |bl b=>cases r;rfl
 |int i=>obtain⟨t,rfl⟩:=r;rfl
 |str z=>obtain⟨t,rfl⟩:=r;rfl
 |_=>exact absurd (show false=true from f) wV
theorem ZB{x:V}:∀{xs:List V}{us:List Value},Vals xs us->xs.all flatV=true->us.any (eqU x)=xs.any λy=>eqV y x
 |_,_,.nil,_=>rfl
 |y::xs,u::us,.cons r t,f=>by
  rw[List.all_cons,Bool.and_eq_true]at f;rw[List.any_cons,List.any_cons,qAw r f.1,ZB t f.2]
theorem jq{A:Around}{s:Shared}{x:V}{v:Value}(rx:RelV x v)(fx:flatV x=true):∀{xs:List V}{us:List Value},Vals xs us->xs.all flatV=true->∀u∈us,SeqAt.EqAt A s u v (eqU x u)
 |_,_,.nil,_=>λu hu=>by cases hu
 |y::xs,u::us,.cons r t,f=>λu' hu=>by
  rw[List.all_cons,Bool.and_eq_true]at f;rcases List.mem_cons.mp hu with rfl|hu
  ·rw[qAw r f.1];exact qFN r rx f.1 fx
  ·exact jq rx fx t f.2 u' hu
noncomputable def inV(x:V)(xs:List V):Bool:=xs.any λy=>eqV y x
noncomputable def rIn(K:PySem.W.Frag)(neg:Bool):R2:=λx y H Q=>∃p xs,y=.ref p/\(SqL K H p xs\/SqT K H p xs)/\flatV x=true/\xs.all flatV=true/\Q (.bl (if neg then !inV x xs else inV x xs)) H
theorem op_in_seq:OpR X (compareOp .In) (rIn X.K false):=by
 intro pins s σ H x y v u Q I rx ry h;obtain⟨p,xs,rfl,hq,fx,fs,q⟩:=h;cases ry;rcases hq with hq|hq
 ·obtain⟨its,r,pl,hz⟩:=I.list hq;refine SeqAt.in_listAt (eqU x) pl.isList (λw hw=>jq rx fx r fs w (by simpa using hw)) ⟨.bl _,H,I,rfl,?_⟩;rw[show its.toArray.any (eqU x)=its.any (eqU x) by simp,ZB r fs];exact q
 ·obtain⟨its,r,pl,hz⟩:=I.tuple hq;refine SeqAt.in_tupleAt (eqU x) pl (λw hw=>jq rx fx r fs w (by simpa using hw)) ⟨.bl _,H,I,rfl,?_⟩;rw[show its.toArray.any (eqU x)=its.any (eqU x) by simp,ZB r fs];exact q
theorem op_notIn_seq:OpR X (compareOp .NotIn) (rIn X.K true):=by
 intro pins s σ H x y v u Q I rx ry h;obtain⟨p,xs,rfl,hq,fx,fs,q⟩:=h;cases ry;rcases hq with hq|hq
 ·obtain⟨its,r,pl,hz⟩:=I.list hq;refine SeqAt.notIn_listAt (eqU x) pl.isList (λw hw=>jq rx fx r fs w (by simpa using hw)) ⟨.bl _,H,I,rfl,?_⟩;rw[show its.toArray.any (eqU x)=its.any (eqU x) by simp,ZB r fs];exact q
 ·obtain⟨its,r,pl,hz⟩:=I.tuple hq;refine SeqAt.notIn_tupleAt (eqU x) pl (λw hw=>jq rx fx r fs w (by simpa using hw)) ⟨.bl _,H,I,rfl,?_⟩;rw[show its.toArray.any (eqU x)=its.any (eqU x) by simp,ZB r fs];exact q
theorem call_len_seq:qq X (.builtin "len") (λxs H Q=>∃p ys,xs=[.ref p]/\(SqL X.K H p ys\/SqT X.K H p ys)/\Q (.int ys.length) H):=by
 intro pins s σ H xs us Q I r h;obtain⟨p,ys,rfl,hq,q⟩:=h;obtain⟨u,rfl,rx⟩:=vals1 r;cases rx;have hn:=B5;rcases hq with hq|hq
 ·obtain⟨its,r',pl,hz⟩:=I.list hq;have hlen:=r'.length;exact Calls.call_len_list pl.isList (by simp only[wF]<;>omega) ⟨.int ys.length,H,I.tok _,⟨s.toks+1,by rw[wF,hlen]⟩,q⟩
 ·obtain⟨its,r',pl,hz⟩:=I.tuple hq;have hlen:=r'.length;exact len_tuple pl (by simp only[wF]<;>omega) ⟨.int ys.length,H,I.tok _,⟨s.toks+1,by rw[wF,hlen]⟩,q⟩
theorem call_len_str:qq X (.builtin "len") (λxs H Q=>∃z,xs=[.str z]/\z.length<=sizeLine/\Q (.int z.length) H):=by
 intro pins s σ H xs us Q I r h;obtain⟨z,rfl,hz,q⟩:=h;obtain⟨u,rfl,t,rfl⟩:=vals1 r;have hn:=B5;exact len_str (by omega) ⟨.int z.length,H,I.tok _,⟨_,rfl⟩,q⟩
theorem call_list_of:qq X (.type "list") (λxs H Q=>∃p ys,xs=[.ref p]/\(SqL X.K H p ys\/SqT X.K H p ys)/\∀l,H l=none->Q (.ref l) (upd H l (.lst ys))):=by
 intro pins s σ H xs us Q I r h;obtain⟨p,ys,rfl,hq,q⟩:=h;obtain⟨u,rfl,rx⟩:=vals1 r;cases rx;have fin:∀(its:List Value),Vals ys its->ys.length<=sizeLine->∀(h':Heap) (c':Nat),(∀b o',s.heap.get? b=some o'->h'.get? b=some o') ->
   h'.get? s.heap.objs.size=some { cls:=.type "list",dict:=none,data:=.seq its.toArray c',slots:=#[] }->EP X pins σ Q (.ref s.heap.objs.size) { s with heap:=h' }:=λits r' hz h' c' kp e=>
  ⟨.ref s.heap.objs.size,_,I.laid (t':=s.toks) kp (Nat.le_refl _) (show ObjOk X.prog X.w _ h' _ (.lst ys) from⟨hz,its,c',r',e⟩),rfl,q _ (I.hok.fresh (Nat.le_refl _))⟩
 rcases hq with hq|hq
 ·obtain⟨its,r',pl,hz⟩:=I.list hq;have hlen:=r'.length;obtain⟨o,ho,hc,n,hd⟩:=pl.isList;exact call_list_seq p (.inl rfl) ho hc hd (λh' c' kp e=>fin its r' hz h' c' kp e) (by simp only[wF]<;>omega)
 ·obtain⟨its,r',pl,hz⟩:=I.tuple hq;have hlen:=r'.length;obtain⟨o,ho,hc,n,hd⟩:=pl;exact call_list_seq p (.inr rfl) ho hc hd (λh' c' kp e=>fin its r' hz h' c' kp e) (by simp only[wF]<;>omega)
theorem call_tuple_of:qq X (.type "tuple") (λxs H Q=>∃p ys,xs=[.ref p]/\((SqL X.K H p ys/\∀l,H l=none->Q (.ref l) (upd H l (.tup ys)))\/(SqT X.K H p ys/\Q (.ref p) H))):=by
 intro pins s σ H xs us Q I r h;obtain⟨p,ys,rfl,h⟩:=h;obtain⟨u,rfl,rx⟩:=vals1 r;cases rx;rcases h with⟨hq,q⟩|⟨hq,q⟩
 ·obtain⟨its,r',pl,hz⟩:=I.list hq;have hlen:=r'.length;refine call_tuple_list pl.isList (λh' kp=>?_) (by simp only[wF]<;>omega);have I1:Inv X pins σ H { s with heap:=h' }:=I.kept (t':=s.toks) kp;have I2:Inv X pins σ (upd H h'.objs.size (.tup ys)) { s with heap:=h'.push { cls:=.type "tuple",data:=.seq its.toArray } }:=
   I1.laid (t':=s.toks) (λb o e=>Heap.get?_push_of_some _ e) (Nat.le_refl _) (show ObjOk X.prog X.w _ _ _ (.tup ys) from⟨hz,its,r',IsTup.new _ _⟩)
  exact⟨.ref h'.objs.size,_,I2,rfl,q _ (I1.hok.fresh (Nat.le_refl _))⟩
 ·obtain⟨its,r',pl,hz⟩:=I.tuple hq;exact call_tuple_same pl ⟨.ref p,H,I,rfl,q⟩
def tyV(K:PySem.W.Frag)(T:String)(x:V)(H:Hp):Prop:=match x with
 | .str _=>T="str"
 | .int _=>T="int"
 | .ref p=>(T="list"/\∃xs,SqL K H p xs)\/(T="tuple"/\∃o,K.lookup p=some o/\o.cls=.type "tuple"/\o.dict=none)\/
   (T="dict"/\((∃kvs,H p=some (.dK kvs))\/∃kvs,H p=some (.dT kvs)))\/(T="set"/\∃S n,H p=some (.set S n))
 |_=>False
theorem qEY{pins:List (Addr×Obj)}{σ:St}{H:Hp}{s:Shared}{T:String}{x:V}{v:Value}(I:Inv X pins σ H s)(r:RelV x v)(ty:tyV X.K T x H):
  s.TypeIs v T/\∀a,v=.ref a->∃ob,s.heap.get? a=some ob/\ob.dict=none:=by
 cases x with
 |str z=>
  obtain⟨t,rfl⟩:=r;cases (show T="str" from ty);exact⟨typeIs_str s z t,λ_ e=>nomatch e⟩
 |int i=>
  obtain⟨t,rfl⟩:=r;cases (show T="int" from ty);exact⟨typeIs_int s i t,λ_ e=>nomatch e⟩
 |ref p=>
  cases r;rcases ty with⟨rfl,xs,hq⟩|⟨rfl,o,hk,hc,hd⟩|⟨rfl,hk⟩|⟨rfl,S,n,hk⟩
  ·obtain⟨its,_,pl,_⟩:=I.list hq;refine⟨pl.isList.typeIs,λa e=>?_⟩;cases e;obtain⟨o,n,e,c,hd,_⟩:=pl;exact⟨o,e,hd⟩
  ·refine⟨⟨o,I.kIn p o hk,hc⟩,λa e=>?_⟩;cases e;exact⟨o,I.kIn _ o hk,hd⟩
  ·have z:∃o,s.heap.get? p=some o/\o.ExactDict:=by
    rcases hk with⟨kvs,hk⟩|⟨kvs,hk⟩
    ·obtain⟨_,_,_,_,o,_,_,e,ex,_⟩:=I.hok p _ hk;exact⟨o,e,ex⟩
    ·obtain⟨_,_,_,_,o,_,_,e,ex,_⟩:=I.hok p _ hk;exact⟨o,e,ex⟩
   obtain⟨o,e,ex⟩:=z;refine⟨⟨o,e,ex.1⟩,λa e2=>?_⟩;cases e2;exact⟨o,e,ex.2.1⟩
  ·obtain⟨o,_,_,_,e,ex,_⟩:=I.hok p _ hk;refine⟨⟨o,e,ex.1⟩,λa e2=>?_⟩;cases e2;exact⟨o,e,ex.2.1⟩
 |_=>exact False.elim ty
noncomputable def tBM(K:PySem.W.Frag)(T:String)(r:V->List V->Hp->VK->Prop)(to:TE)(t:TA):TE:=λσ H Q=>to σ H λx H1=>tyV K T x H1/\t σ H1 λxs H2=>r x xs H2 Q
variable{o e:Expr}{es:List Expr}{to:TE}{t:TA}{name:Str}{apos cpos:Pos}{T id:String}{r:V->List V->Hp->VK->Prop}
theorem pe_bm(pa:PlainAttrs T)(slot:Slot T name id)(hty:typeOf (.builtin id)=pure (.type "method_descriptor"))(hm:MtR X id r)(ho:PE X o to)(ha:PA X (e::es) t)
  (hbase:attributeBase o name X.env (eval o X.env)=eval o X.env:=by rfl)
  (hfew:((backTo cpos (starEach (e::es) X.env)).all (λx=>!x.1)&&(backToKw cpos (keywordEach [] X.env)).all (λx=>x.1.isSome)
   && decide ((e::es).length+([]:List Keyword).length+(if ([]:List Keyword).isEmpty then 0 else 1)<30))=true:=by rfl)
  (hline:(apos.endLine==cpos.line)=true:=by rfl) (hs:starEach (e::es) X.env=(false,eval e X.env)::starEach es X.env:=by rfl) (hplain:(backTo cpos (starEach es X.env)).any (·.1)=false:=by rfl):
  PE X (.Call (.Attribute o name apos) (e::es) [] cpos) (tBM X.K T r to t):=by
 intro pins s σ H Q I h;refine wpAny_Call_method_late hbase hfew hline rfl (thn (ho pins s σ H _ I h) λv s1 ⟨x,H1,I1,r1,ty,q1⟩=>?_);obtain⟨h1,h2⟩:=qEY I1 r1 ty;refine⟨T,id,pa,slot,hty,h1,h2,?_⟩;have hA:=ha cpos pins s1 σ H1 _ I1 q1;rw[hs]at hA ⊢;refine Calls.callWith_builtin (by show (false||(backTo cpos (starEach es X.env)).any (·.1))=false;rw[hplain]<;>rfl) (Calls.evalArgs_plain ?_);exact thn hA λus s2 ⟨vs,H2,I2,r2,q2⟩=>hm pins s2 σ H2 x vs v us Q I2 r1 r2 q2
end
def MtM(X:Cx)(id:String)(r:V->List V->Hp->VK->Prop):Prop:=
 ∀(pins:List (Addr×Obj)) (s:Shared) (σ:St) (H:Hp) (x:V) (xs:List V) (v:Value) (us:List Value) (Q:VK),Inv X pins σ H s->RelV x v->Vals xs us->r x xs H Q ->
  wpAny (model X.prog X.w) X.A (call (.builtin id) (v::us)) (EP X pins σ Q) X.xe s
theorem Vals.one:∀{x:V}{us:List Value},Vals [x] us->∃u,us=[u]/\RelV x u
 |_,_,.cons r .nil=>⟨_,rfl,r⟩
theorem Vals.zero:∀{us:List Value},Vals [] us->us=[]
 |_,.nil=>rfl
theorem Vals.dropLast{xs:List V}{us:List Value}(h:Vals xs us):Vals xs.dropLast us.dropLast:=by
 induction h with
 |nil=>exact .nil
 |cons r t ih=>
  cases t with
  |nil=>exact .nil
  |cons q t'=>exact .cons r ih
theorem Vals.eraseIdx:∀{xs:List V}{us:List Value}(i:Nat),Vals xs us->Vals (xs.eraseIdx i) (us.eraseIdx i)
 |_,_,_,.nil=>.nil
 |_,_,0,.cons _ t=>t
 |_,_,i+1,.cons r t=>.cons r (Vals.eraseIdx i t)
theorem Vals.reverse{xs:List V}{us:List Value}(h:Vals xs us):Vals xs.reverse us.reverse:=by
 induction h with
 |nil=>exact .nil
 |cons r t ih=>rw[wn,wn];exact Vals.append ih (.cons r .nil)
theorem Vals.rep{xs:List V}{us:List Value}(h:Vals xs us):∀k:Nat,Vals (List.replicate k xs).flatten (List.replicate k us).flatten
 | 0=>.nil
 |k+1=>by
  rw[List.replicate_succ,List.replicate_succ,List.flatten_cons,List.flatten_cons];exact Vals.append h (Vals.rep h k)
theorem A9{α:Type}:∀(l:List α) (i:Nat),(l.eraseIdx i).length<=l.length
 | [],_=>Nat.le_refl _
 |_::_,0=>Nat.le_succ _
 |_::r,i+1=>wq (A9 r i)
theorem B3(its:List Value):∀(k:Nat) (acc:List Value),
  List.foldl (λx1 x2=>x1++x2) acc.toArray (List.replicate k its.toArray)=(acc++(List.replicate k its).flatten).toArray
 | 0,acc=>by simp
 |k+1,acc=>by
  have e:acc.toArray++its.toArray=(acc++its).toArray:=by simp
  have e2:(acc++its)++(List.replicate k its).flatten=acc++(List.replicate (k+1) its).flatten:=by
   rw[List.replicate_succ,List.flatten_cons,wO]
  rw[<-e2,<-B3 its k (acc++its),<-e,List.replicate_succ,List.foldl_cons]
section
variable{X:Cx}{pins:List (Addr×Obj)}{σ:St}{H:Hp}{s:Shared}{l b:Addr}{xs ys zs:List V}
theorem Inv.lset{its its':List Value}{n:Nat}{f:Array Value->Array Value}{t':Nat}(I:Inv X pins σ H s)(hH:H l=some (.lst xs))
  (e:s.heap.get? l=some { cls:=.type "list",data:=.seq its.toArray n }) (hf:f its.toArray=its'.toArray) (hv:Vals ys its') (hz:ys.length<=sizeLine):
  Inv X pins σ (upd H l (.lst ys)) { s with heap:=s.heap.update l (Obj.mapSeq f),toks:=t' }:=by
 have q:=PySem.IsL.update e f;rw[hf]at q;refine I.write (x:=l) (e:=l) (by rw[hH];exact trivial) (.inl rfl) (λb' u hb hu=>(Heap.get?_update_other s.heap (Obj.mapSeq f) (Ne.symm hb)).trans hu) ⟨_,q⟩ ?_;exact⟨hz,its',_,hv,q⟩
theorem Inv.lnew{its:List Value}{t':Nat}(I:Inv X pins σ H s)(hv:Vals ys its)(hz:ys.length<=sizeLine):
  Inv X pins σ (upd H s.heap.objs.size (.lst ys)) { s with heap:=s.heap.push { cls:=.type "list",data:=.seq its.toArray },toks:=t' }:=
 I.laid (λ_ _ q=>Heap.get?_push_of_some _ q) (Nat.le_refl _) ⟨hz,its,0,hv,Heap.get?_push_size _ rfl⟩
theorem Inv.fresh(I:Inv X pins σ H s):H s.heap.objs.size=none:=I.hok.fresh (Nat.le_refl _)
theorem Inv.lstM(I:Inv X pins σ H s)(hH:H l=some (.lst xs)):xs.length<=sizeLine/\∃(its:List Value) (n:Nat),Vals xs its/\xs.length=its.length/\s.heap.get? l=some { cls:=.type "list",data:=.seq its.toArray n }:=by
 obtain⟨z,its,n,r,e⟩:=I.hok l _ hH;exact⟨z,its,n,r,r.length,e⟩
theorem v8{n:Nat}(h:n<=sizeLine):Builtin.List.listTooLong n=false:=by
 unfold Builtin.List.listTooLong;exact vE (by omega)
end
section
variable{X:Cx}
def qCs:V->List V->Hp->VK->Prop:=λx vs H Q=>∃l xs y,x=.ref l/\vs=[y]/\H l=some (.lst xs)/\xs.length<sizeLine/\Q .non (upd H l (.lst (xs++[y])))
theorem mt_append:MtM X "list.append" qCs:=by
 intro pins s σ H x vs v us Q I rx rv h;obtain⟨l,xs,y,rfl,rfl,hH,hz,q⟩:=h;cases rx;obtain⟨u,rfl,ru⟩:=rv.one;obtain⟨z,its,n,r,hl,e⟩:=I.lstM hH;refine call_meets F.slot_list_append ⟨_,e,rfl⟩ F.entry_list_append (F.args_list_append_2 _ _) (PySem.list_append l its.toArray n u (by rw[wF];omega)) ⟨e,?_⟩;refine⟨.non,_,I.lset (its':=its++[u]) hH e (by simp) (r.append (.cons ru .nil)) ?_,rfl,q⟩;rw[List.length_append,List.length_singleton];omega
def rPopAt:V->List V->Hp->VK->Prop:=λx vs H Q=>∃l xs i k y,x=.ref l/\vs=[.int i]/\H l=some (.lst xs)/\-(2 ^ 63)<=i/\i<2 ^ 63/\seqIndex? i xs.length=some k/\xs[k]?=some y/\Q y (upd H l (.lst (xs.eraseIdx k)))
theorem mt_popAt:MtM X "list.pop" rPopAt:=by
 intro pins s σ H x vs v us Q I rx rv h;obtain⟨l,xs,i,k,y,rfl,rfl,hH,h1,h2,hk,hy,q⟩:=h;cases rx;obtain⟨u,rfl,ru⟩:=rv.one;obtain⟨t,rfl⟩:=ru;obtain⟨z,its,n,r,hl,e⟩:=I.lstM hH;obtain⟨w,hw,rw'⟩:=r.get hy;refine call_meets F.slot_list_pop ⟨_,e,rfl⟩ F.entry_list_pop (F.args_list_pop_2 _ _)
  (MeetsSeq.list_pop_at l its.toArray n i t k w (fitsIndex_both h1 h2) (by rw[wF,<-hl];exact hk) (by rw[<-Array.getElem?_toList];exact hw) (by rw[wF];omega)) ⟨e,?_⟩
 refine⟨y,_,I.lset (its':=its.eraseIdx k) hH e ?_ (r.eraseIdx k) ?_,rw',q⟩
 ·show its.toArray.eraseIdxIfInBounds k=(its.eraseIdx k).toArray;rw[List.eraseIdxIfInBounds_toArray]
 ·have:=A9 xs k;omega
noncomputable def rCat:R2:=λx y H Q=>∃l b xs zs,x=.ref l/\y=.ref b/\H l=some (.lst xs)/\H b=some (.lst zs)/\xs.length+zs.length<=sizeLine/\∀p,H p=none->Q (.ref p) (upd H p (.lst (xs++zs)))
theorem op_cat:OpR X (binaryOp .Add) rCat:=by
 intro pins s σ H x y v u Q I rx ry h;obtain⟨l,b,xs,zs,rfl,rfl,hH,hB,hz,q⟩:=h;cases rx;cases ry;obtain⟨z,its,n,r,hl,e⟩:=I.lstM hH;obtain⟨z2,its2,n2,r2,hl2,e2⟩:=I.lstM hB;refine PySem.P.add_list e e2 ?_ (by rw[wF,wF];omega);have ea:its.toArray++its2.toArray=(its++its2).toArray:=by simp
 rw[ea];exact⟨.ref _,_,I.lnew (t':=s.toks) (r.append r2) (by rw[List.length_append];omega),rfl,q _ I.fresh⟩
noncomputable def rRep:R2:=λx y H Q=>∃l k xs,x=.ref l/\y=.int k/\H l=some (.lst xs)/\-(2 ^ 63)<=k/\k<2 ^ 63/\xs.length*k.toNat<=sizeLine/\
 ∀p,H p=none->Q (.ref p) (upd H p (.lst (List.replicate k.toNat xs).flatten))
theorem qCQ{α:Type}(xs:List α)(k:Nat):(List.replicate k xs).flatten.length=k*xs.length:=by
 induction k with
 |zero=>simp
 |succ k ih=>rw[List.replicate_succ,List.flatten_cons,List.length_append,ih,Nat.succ_mul,Nat.add_comm]
theorem op_rep:OpR X (binaryOp .Mult) rRep:=by
 intro pins s σ H x y v u Q I rx ry h;obtain⟨l,k,xs,rfl,rfl,hH,h1,h2,hz,q⟩:=h;cases rx;obtain⟨t,rfl⟩:=ry;obtain⟨z,its,n,r,hl,e⟩:=I.lstM hH;have hlen:its.toArray.size*k.toNat<=sizeLine:=by rw[wF,<-hl];exact hz
 have hcap:¬ its.toArray.size*k.toNat>(2 ^ 63-1) / 8:=by
  have:(sizeLine:Nat)<=(2 ^ 63-1) / 8:=by decide
  omega
 have hfit:¬ (!Builtin.List.listFitsIndex k)=true:=by
  rw[fitsIndex_both h1 h2];exact wV
 have hlong:¬ Builtin.List.listTooLong (its.toArray.size*k.toNat)=true:=by
  rw[v8 hlen];exact wV
 have hnew:List.foldl (λx1 x2=>x1++x2) #[] (List.replicate (if its.toArray.isEmpty=true then 0 else k.toNat) its.toArray)=(List.replicate k.toNat its).flatten.toArray:=by
  have f0:∀m:Nat,List.foldl (λx1 x2=>x1++x2) #[] (List.replicate m its.toArray)=(List.replicate m its).flatten.toArray:=λm=>by
   have:=B3 its m [];rw[List.nil_append]at this;exact this
  rw[f0];cases its with
  |nil=>simp
  |cons a r'=>rw[if_neg (by simp)]
 refine wpAny_binaryOp_repeat_ref (T:="list") (U:="int") (by decide) ⟨_,e,rfl⟩ (λs'=>typeIs_int s' k t) noFill_list_mul F.fills_int_mul F.slot_int_rmul repeat_list F.slot_int_index.lookup
  (call_meets F.slot_int_rmul (typeIs_int s k t) F.entry_int_rmul (F.args_int_rmul_2 _ _) (int___rmul___int_list k t l its.toArray n)
   ⟨e,rfl,⟨_,e,rfl⟩,call_meets F.slot_list_mul ⟨_,e,rfl⟩ F.entry_list_mul (F.args_list_mul_2 _ _) (AutoListH.list___mul___list_int_3 l its.toArray n k t hfit hcap hlong) ⟨e,?_⟩⟩)
 rw[hnew];exact⟨.ref _,_,I.lnew (t':=s.toks) (r.rep k.toNat) (by rw[qCQ,Nat.mul_comm];exact hz),rfl,q _ I.fresh⟩
end
end L2
namespace Att
open PySem PySem.W PySem.Calls PyProof.Rows
theorem Ql{P:Params}{h:Heap}:∀(ns:List Int) (vs:List Value),WellAll P h vs (ns.map WData.int)->IntsAre vs ns:=by
 intro ns
 induction ns with
 |nil=>
  intro vs w;rw[List.map_nil]at w;cases w;exact .nil
 |cons n ns ih=>
  intro vs w;rw[List.map_cons]at w;cases w with
  |cons a b=>
   cases a;exact .cons _ _ (ih _ b)
theorem Z6{l:OpenLaw}{n:Nat}(hn:l.most=some n){P:Params}{h:Heap}{args:List WData}{vals:List Value}
  (hpre:l.row.toRowW.claim.pre args=true) (hwl:WellAll P h vals args):
  ∃a vs ns,vals=[Value.ref a]/\args=[WData.list (ns.map WData.int)]/\h.get? a=some { cls:=.type "list",data:=.seq vs.toArray }/\IntsAre vs ns/\ns.length<=n:=by
 have hsh:WShape.hasAll [] args [.list .int]=true:=(pre_splitW hpre).1;have hc:l.pre.holds [] { args:=args }=true:=(pre_splitW hpre).2;obtain⟨d,r,rfl,h1,h2⟩:=hasAllW_cons hsh;obtain rfl:=hasAllW_nil h2;obtain⟨xs,rfl,h3⟩:=hasW_list h1;obtain⟨ns,rfl⟩:=items_int h3;have hlen:ns.length<=n:=by
  unfold OpenLaw.pre at hc;have h4:(WTm.not (.lt (.lit (.int (n:Int))) (.len (.arg 0)))).holds [] { args:=[.list (ns.map .int)] }=true:=by
   have h4:=(holds_andW hc).1;rw[hn]at h4;exact h4
  have h5:=condW_of h4 (w_not (w_lt w_lit (w_len_list (w_arg rfl))));rw[wL]at h5;refine Nat.le_of_not_lt λq=>?_;have q':(n:Int)<((ns.length:Nat):Int):=by omega
  first
   | (rw[vF q']at h5;exact absurd h5 (by decide))
   | (simp at h5;omega)
 cases hwl with
 |cons w1 w2=>
  cases w2;cases w1 with
  |list ho hall=>exact⟨_,_,ns,rfl,rfl,ho,Ql ns _ hall,hlen⟩
theorem j5(l:OpenLaw)(args:List WData):l.row.toRowW.claim.post args (.bool true) args=true:=
 postW_of (r:=l.row.toRowW) (X:=(true==true))
  (show WShape.has [] (.bool true) .bool=true by first|rfl|decide|simp[WShape.has,WShape.arms,WShape.armsAll])
  (show (WTm.eq .res (.lit (.bool true))).value [] { args:=args,res:=some (.bool true),after:=args }=some (.bool (true==true)) from w_eq_bool (w_res rfl) w_lit) rfl
theorem attach_call{l:OpenLaw}{n:Nat}{q:Program}{loose:List Str}{XP:(Str->Option Value)->Heap->Prop}{YP:World->Heap->Prop}{d:DefRec}
  (hn:l.most=some n) (hdf:d.params.defaults=[])
  (call:∀(w:World) (s₀ s₁:Shared) (mg mb:Str->Option Value) (fa:Addr) (o:Obj) (pm cd doc:Value) (a:Addr) (vs:List Value) (ns:List Int),
   Ground q loose [] XP w s₀ mg mb s₁.heap->YP w s₁.heap ->
   s₁.heap.get? fa=some o->o.data=.func (docDef d.name d.params d.body d.scope pm cd doc)->s₁.heap.CodeRec cd d.name->mg d.name=some (.ref fa) ->
   s₁.heap.get? a=some { cls:=.type "list",data:=.seq vs.toArray }->IntsAre vs ns->ns.length<=n->s₁.gens=#[] ->
   codeAny (model l.prog w) callerA (.call (.ref fa) ⟨[.ref a],[]⟩) (λr s'=>r=.ok (.ret (.bool true))/\OldK s₁.heap s'.heap/\s'.os=s₁.os/\AllBare s'.gens) s₁):
  WalkO q loose XP YP l.row.toRowW d [] (λf vs=>PySem.call f vs):=by
 intro w s₀ s₁ mg mb G Y fa o pm cd doc dV kV ho hd hcd hD hmg hg args vals as hpre hlay hrd hwl hlo;obtain rfl:dV=.none:=Dflts.none hD hdf;obtain rfl:kV=.none:=Dflts.noKw hD;obtain⟨a,vs,ns,rfl,rfl,hobj,hints,hlen⟩:=Z6 hn hpre hwl;refine enter_call (codeAny_mono (call w s₀ s₁ mg mb fa o pm cd doc a vs ns G Y ho (fd_plain hd) hcd hmg hobj hints hlen hg) λr s' hq=>?_);obtain⟨rfl,h2,h3,h4⟩:=hq;exact⟨.inl ⟨.bool true,.bool true,[],rfl,λ_=>rfl,.bool true,j5 l _,λ_=>⟨List.Pairwise.nil,λ_ hm=>(nomatch hm)⟩⟩,h2,h3,h4⟩
end Att
namespace L2
open PySem PySem.Spec PyProof.Rows
theorem jy:∀{vs:List Value}{ns:List Int},IntsAre vs ns->Vals (ns.map V.int) vs
 |_,_,.nil=>.nil
 |_,_,.cons n t h=>.cons ⟨t,rfl⟩ (jy h)
def Only(H:Hp):Prop:=∀b,H b=none\/∃o xs,H b=some (.frz o (.lst xs))
theorem qAQ{P:Program}{w:World}{K:PySem.W.Frag}{mg mb:Str->Option Value}{CX:CXT}{k:Nat}{fa a:Addr}{fd:FuncData}{x:Str}{sp:Sp}{s₁:Shared}{vs:List Value}{ns:List Int}
  (KX:K.In s₁.heap) (hns:s₁.heap.Ns mainGlobals mg) (hb:s₁.heap.Ns builtinsNs mb) (hbb:∀x:Str,x≠"__name__" -> mb x=bootBuiltins x) (hlim:s₁.heap.NoLimit) (hg:s₁.gens=#[])
  (ha:s₁.heap.get? a=some { cls:=.type "list",data:=.seq vs.toArray }) (hi:IntsAre vs ns) (hl:ns.length<=sizeLine) (hr:Room k callerA)
  (F:∀base:Heap,K.In base->base.Ns mainGlobals mg->FnOk P w K mg base CX k fa fd [x] sp) (hbind:∀(s:Shared) (u:Value),BindsTo s fd ⟨[u],[]⟩ [(x,u)])
  (hsp:∀H:Hp,Only H->SqL K H a (ns.map V.int)->sp [.ref a] H (λv _=>v=.bl true) λ_ _ _=>False)
  (hCX:∀H e s',CX [] H s₁ (λ_ _ _=>False) e s'->False):
  codeAny (model P w) callerA (.call (.ref fa) ⟨[.ref a],[]⟩) (λr s'=>r=.ok (.ret (.bool true))/\OldK s₁.heap s'.heap/\s'.os=s₁.os/\AllBare s'.gens) s₁:=by
 have rv:=jy hi;have lenV:=hi.length;have core:∀H:Hp,Only H->SqL K H a (ns.map V.int)->HOk P w H s₁.heap->(∀b,H b≠none->b=a)->(H a≠none->K.lookup a=none) ->
   codeAny (model P w) callerA (.call (.ref fa) ⟨[.ref a],[]⟩) (λr s'=>r=.ok (.ret (.bool true))/\OldK s₁.heap s'.heap/\s'.os=s₁.os/\AllBare s'.gens) s₁:=by
  intro H hO hS hok hA hK;have base_of:∀{b:Addr}{o:Obj},s₁.heap.get? b=some o->H b=none->(qAO s₁.heap H).get? b=some o:=λe n=>z0 e n;have noA:∀{b:Addr}{o:Obj}{es:Array DictEntry}{ep:Nat},s₁.heap.get? b=some o->o.data=.dict es ep->H b=none:=λ{b o es ep} e d=>by
   cases q:H b with
   |none=>rfl
   |some u=>
    have e':b=a:=hA b (by rw[q];simp);subst e';rw[ha]at e;cases e;have d':Data.seq vs.toArray _=Data.dict es ep:=d;cases d'
  have nsK:∀{b:Addr}{m:Str->Option Value},s₁.heap.Ns b m->(qAO s₁.heap H).Ns b m:=λ{b m} ⟨o,es,ep,e,d,r⟩=>⟨o,es,ep,base_of e (noA e d),d,r⟩
  have hKb:K.In (qAO s₁.heap H):=λb o e=>base_of (KX b o e) (by
   cases q:H b with
   |none=>rfl
   |some u=>
    have e':b=a:=hA b (by rw[q];simp);subst e';rw[hK (by rw[q];simp)]at e;cases e)
  have hM:Mod K mg (qAO s₁.heap H):=⟨hKb,nsK hns,⟨mb,nsK hb,hbb⟩,let ⟨mc,h1,h2⟩:=hlim;⟨mc,nsK h1,h2⟩⟩
  have e0:Env0 P w K mg (qAO s₁.heap H) callerA [] s₁ H:=⟨rfl,hM,λb o e=>qBz e,Nat.le_of_eq (X8 _ _),trivial,λb hb=>absurd (show b∈([]:List Addr) from hb) (by simp),hok,.of_eq hg⟩
  refine codeAny_mono ((F _ hKb (nsK hns)).run callerA [] s₁ H ⟨[.ref a],[]⟩ [.ref a] [.ref a] _ _ hr e0 (hbind s₁ (.ref a)) (.cons rfl .nil) (hsp H hO hS)) λr s' h=>?_;cases r with
  |error e=>exact(hCX H e s' h).elim
  |ok fl=>
   cases fl with
   |next=>exact False.elim h
   |brk=>exact False.elim h
   |cont=>exact False.elim h
   |ret u=>
    obtain⟨v,H',os,bare,un,hok',r',q⟩:=h;have q':v=.bl true:=q;subst q';obtain rfl:u=Value.bool true:=r';refine⟨rfl,OldK.of_keep λb o e=>?_,os,bare⟩;cases q:H b with
    |none=>exact un.keep b o e q (by intro z;exact absurd (show b∈([]:List Addr) from z) (by simp)) (by simp)
    |some u=>
     rcases hO b with z|⟨ob,xs,z⟩
     ·rw[q]at z;cases z
     ·have z2:=un.frzs b ob _ z;obtain⟨e1,_⟩:=hok b _ z;obtain⟨e2,_⟩:=hok' b _ z2;rw[e]at e1;cases e1;exact e2
 cases hk:K.lookup a with
 |some o=>
  have e:=KX a o hk;rw[ha]at e;cases e;refine core (λ_=>none) (λ_=>.inl rfl) (.inr ⟨_,vs.toArray,_,hk,rfl,rfl,rfl,by rw[wF,lenV];exact hl,by simpa using rv⟩) (λb u z=>by have z':(none:Option HO)=some u:=z;cases z') (λb z=>absurd rfl z) λz=>absurd rfl z
 |none=>
  refine core (λb=>if b=a then some (.frz { cls:=.type "list",data:=.seq vs.toArray } (.lst (ns.map V.int))) else none) (λb=>?_) (.inl (.inr ⟨{ cls:=.type "list",data:=.seq vs.toArray },if_pos rfl⟩)) (λb u z=>?_) (λb z=>?_) λ_=>hk
  ·by_cases hb:b=a
   ·exact .inr ⟨_,_,if_pos hb⟩
   ·exact .inl (if_neg hb)
  ·by_cases hb:b=a
   ·have z':=(if_pos hb).symm.trans z;cases z';subst hb;exact⟨ha,by rw[wL];exact hl,vs,_,rv,ha⟩
   ·have z':=(if_neg hb).symm.trans z;cases z'
  ·by_cases hb:b=a
   ·exact hb
   ·exact absurd (if_neg hb) z
theorem walk_of{l:PySem.W.OpenLaw}{n k:Nat}{q:Program}{loose:List Str}{XP:(Str->Option Value)->Heap->Prop}{YP:World->Heap->Prop}{d:DefRec}{K:Params->PySem.W.Frag}{CX:World->CXT}{sp:World->Sp}{x:Str}
  (hn:l.most=some n) (hn2:n<=sizeLine) (hdf:d.params.defaults=[]) (hr:Room k callerA)
  (hY:∀(w:World) (h:Heap),YP w h->(K w.params).In h)
  (F:∀(w:World) (mg:Str->Option Value) (fa:Addr) (h:Heap),(K w.params).In h->h.Ns mainGlobals mg->mg d.name=some (.ref fa) ->
   ∃fd:FuncData,(∀(s:Shared) (u:Value),BindsTo s fd ⟨[u],[]⟩ [(x,u)])/\
    ∀base:Heap,(K w.params).In base->base.Ns mainGlobals mg->FnOk l.prog w (K w.params) mg base (CX w) k fa fd [x] (sp w))
  (hsp:∀(w:World) (H:Hp) (a:Addr) (ns:List Int),ns.length<=n->Only H->SqL (K w.params) H a (ns.map V.int)->sp w [.ref a] H (λv _=>v=.bl true) λ_ _ _=>False)
  (hCX:∀(w:World) (H:Hp) (s:Shared) (e:Value) (s':Shared),CX w [] H s (λ_ _ _=>False) e s'->False):
  PySem.W.WalkO q loose XP YP l.row.toRowW d [] (λf vs=>PySem.call f vs):=by
 refine Att.attach_call hn hdf λw s₀ s₁ mg mb fa o pm cd doc a vs ns G Y ho hd hcd hmg hobj hints hlen hg=>?_;have KX:=hY w _ Y;obtain⟨fd,hb,hF⟩:=F w mg fa _ KX G.T.g hmg;exact qAQ KX G.T.g G.T.b G.T.builtins G.T.nolimit hg hobj hints (Nat.le_trans hlen hn2) hr hF hb (λH hO hS=>hsp w H a ns hlen hO hS) λH e s'=>hCX w H s₁ e s'
noncomputable def zd(s:Stmt):Arguments:=match s with
 | .FunctionDef _ a _ _ _ _ _ _ _ _=>a
 |_=>{ posonlyargs:=[],args:=[],vararg:=none,kwonlyargs:=[],kw_defaults:=[],kwarg:=none,defaults:=[] }
noncomputable def defBody(s:Stmt):List Stmt:=match s with
 | .FunctionDef _ _ b _ _ _ _ _ _ _=>b
 |_=>[]
noncomputable def defScope(s:Stmt):Scope:=match s with
 | .FunctionDef _ _ _ _ _ _ sc _ _ _=>sc
 |_=>{ kind:=.function,names:=[],isGenerator:=false,isCoroutine:=false }
noncomputable abbrev CX0:CXT:=λ_ _ _ _ _ _=>False
noncomputable abbrev E0:XK:=λ_ _ _=>False
theorem pass0{X:Cx}:K9 CX0 X E0:=λ_ _ _ _ _ _ _ h=>h.elim
structure Fun(K:PySem.W.Frag)(x qual:Str)(st:Stmt)(f:Addr)(fd:FuncData):Prop where
 ex:∃(oc:Value) (od:Option Addr) (kV doc pm:Value) (an:Option Addr) (cdv ct:Value) (osl:Array (Option Value)),
  fd=PySem.W.fnOf x qual (zd st) (defBody st) (defScope st) .none kV doc pm an cdv ct/\K.lookup f=some ⟨oc,od,.func fd,osl⟩/\PySem.W.codeIn K cdv qual=true
 kp:PySem.W.keepIn K (.ref f)=true
section
variable{P:Program}{w:World}{K:PySem.W.Frag}{mg:Str->Option Value}{base:Heap}
theorem Fun.ok{x qual:Str}{st:Stmt}{f:Addr}{fd:FuncData}{N ps:List Str}{k:Nat}{sp:Sp}(F:Fun K x qual st f fd)(S:zC N ps (defScope st))(len:∀vs H Q E,sp vs H Q E->vs.length=ps.length)
  (hbody:∀(cdv:Value) (A:Around) (outer:List Env) (s:Shared) (H:Hp) (vs:List V) (Q:VK) (E:XK),Room k (A.deeper (envOfC qual (defScope st) s.heap.objs.size f cdv))->sp vs H Q E ->
   ∃t,PSs (cxOf CX0 P w K mg base N qual (defScope st) f cdv A outer s H E).nox (defBody st) t/\t { nx:=λ_ H'=>Q .non H',rt:=Q } (start N vs) H):FnOk P w K mg base CX0 (k+1) f fd ps sp:=by
 obtain⟨oc,od,kV,doc,pm,an,cdv,ct,osl,rfl,lk,hcd⟩:=F.ex;refine fn_of lk hcd S len λA outer s H vs Q E hr hsp=>?_;obtain⟨t,h,q⟩:=hbody cdv A outer s H vs Q E hr hsp;exact⟨t,h.nox,q⟩
theorem Fun.binds{x qual:Str}{st:Stmt}{f:Addr}{fd:FuncData}{ps:List Str}(F:Fun K x qual st f fd)
  (h:∀(kV doc pm:Value) (an:Option Addr) (cdv ct:Value) (us:List Value),us.length=ps.length->bindArgs (PySem.W.fnOf x qual (zd st) (defBody st) (defScope st) .none kV doc pm an cdv ct) ⟨us,[]⟩=pure (ps.zip us)):Binds K fd ps []:=by
 obtain⟨oc,od,kV,doc,pm,an,cdv,ct,osl,rfl,lk,hcd⟩:=F.ex;exact .all (h kV doc pm an cdv ct)
theorem qAh{x qual:Str}{st:Stmt}{f:Addr}{oc:Value}{od an:Option Addr}{osl:Array (Option Value)}{kV doc pm cdv ct:Value}(l:K.lookup f=some ⟨oc,od,.func (PySem.W.fnOf x qual (zd st) (defBody st) (defScope st) .none kV doc pm an cdv ct),osl⟩)
  (c:PySem.W.codeIn K cdv qual=true) (k:PySem.W.keepIn K (.ref f)=true):Fun K x qual st f (PySem.W.fnOf x qual (zd st) (defBody st) (defScope st) .none kV doc pm an cdv ct):=⟨⟨oc,od,kV,doc,pm,an,cdv,ct,osl,rfl,l,c⟩,k⟩
end
def ZL(H H':Hp):Prop:=∀b o,H b=some o->H' b=some o
section
variable{κ:Type}[DecidableEq κ]
noncomputable def valV(kvs:List (κ×V))(k:κ):Option V:=(kvs.find? λkv=>decide (kv.1=k)).map (·.2)
noncomputable def putK(kvs:List (κ×V))(k:κ)(v:V):List (κ×V):=
 if (kvs.any λkv=>decide (kv.1=k))=true then kvs.map (λkv=>if kv.1=k then (kv.1,v) else kv) else kvs++[(k,v)]
noncomputable def qFA(kvs:List (κ×V))(k:κ):List (κ×V):=kvs.filter λkv=>decide (kv.1≠k)
theorem Ja{p:κ×V}{r:List (κ×V)}{k:κ}(e:p.1=k):valV (p::r) k=some p.2:=by simp[valV,List.find?_cons,e]
theorem JC{p:κ×V}{r:List (κ×V)}{k:κ}(e:¬ p.1=k):valV (p::r) k=valV r k:=by simp[valV,List.find?_cons,e]
theorem valV_any(k:κ):∀kvs:List (κ×V),(kvs.any λkv=>decide (kv.1=k))=(valV kvs k).isSome
 | []=>rfl
 |p::r=>by
  rw[List.any_cons];by_cases e:p.1=k
  ·simp only[Ja e,vF e,Bool.true_or,Option.isSome_some]
  ·rw[JC e,vE e,Bool.false_or];exact valV_any k r
theorem Qt(kvs:List (κ×V))(k:κ)(v:V):(putK kvs k v).length<=kvs.length+1:=by
 unfold putK;split
 ·rw[wL];omega
 ·rw[List.length_append,List.length_cons,List.length_nil];omega
theorem RelO.isSome_eq{o:Option V}{u:Option Value}(r:RelO o u):o.isSome=u.isSome:=by
 cases o with
 |none=>cases u with
  |none=>rfl
  |some _=>exact(show False from r).elim
 |some _=>cases u with
  |none=>exact(show False from r).elim
  |some _=>rfl
theorem RelO.getD{o:Option V}{u:Option Value}{d:V}{d':Value}(r:RelO o u)(rd:RelV d d'):RelV (o.getD d) (u.getD d'):=by
 cases o with
 |none=>cases u with
  |none=>exact rd
  |some _=>exact(show False from r).elim
 |some _=>cases u with
  |none=>exact(show False from r).elim
  |some _=>exact r
theorem KV.val{kvs:List (κ×V)}{vs:List (κ×Value)}(r:KV kvs vs)(k:κ):RelO (valV kvs k) (valueAt vs k):=by
 unfold KV at r
 induction r with
 |nil=>exact True.intro
 | @cons p q ps qs h t ih=>
  obtain⟨h1,h2⟩:=h;by_cases e:p.1=k
  ·have e':q.1=k:=h1.symm.trans e;have b:valueAt (q::qs) k=some q.2:=by simp[valueAt,List.find?_cons,e']
   rw[Ja e,b];exact h2
  ·have e':¬ q.1=k:=λz=>e (h1.trans z);have b:valueAt (q::qs) k=valueAt qs k:=by simp[valueAt,List.find?_cons,e']
   rw[JC e,b];exact ih
theorem KV.any{kvs:List (κ×V)}{vs:List (κ×Value)}(r:KV kvs vs)(k:κ):(kvs.any λkv=>decide (kv.1=k))=vs.any λkv=>decide (kv.1=k):=by
 unfold KV at r
 induction r with
 |nil=>rfl
 |cons h t ih=>rw[List.any_cons,List.any_cons,ih,h.1]
theorem KV.repl{kvs:List (κ×V)}{vs:List (κ×Value)}(r:KV kvs vs)(k:κ){y:V}{u:Value}(ry:RelV y u):
  KV (kvs.map λkv=>if kv.1=k then (kv.1,y) else kv) (vs.map λkv=>if kv.1=k then (kv.1,u) else kv):=by
 unfold KV at r ⊢
 induction r with
 |nil=>exact .nil
 | @cons p q ps qs h t ih=>
  rw[List.map_cons,List.map_cons];refine .cons ?_ ih;obtain⟨h1,h2⟩:=h;by_cases e:p.1=k
  ·rw[if_pos e,if_pos (h1.symm.trans e)];exact⟨h1,ry⟩
  ·rw[if_neg e,if_neg (λz=>e (h1.trans z))];exact⟨h1,h2⟩
theorem KV.put{kvs:List (κ×V)}{vs:List (κ×Value)}(r:KV kvs vs)(k:κ){y:V}{u:Value}(ry:RelV y u):KV (putK kvs k y) (stored vs k u):=by
 unfold putK stored;rw[r.any k];by_cases e:(vs.any λkv=>decide (kv.1=k))=true
 ·rw[if_pos e,if_pos e];exact r.repl k ry
 ·rw[if_neg e,if_neg e];exact Paired.snoc r ⟨rfl,ry⟩
theorem KV.drop{kvs:List (κ×V)}{vs:List (κ×Value)}(r:KV kvs vs)(k:κ):KV (qFA kvs k) (without vs k):=by
 unfold KV at r ⊢;unfold qFA without
 induction r with
 |nil=>exact .nil
 | @cons p q ps qs h t ih=>
  obtain⟨h1,h2⟩:=h;rw[List.filter_cons,List.filter_cons];by_cases e:p.1=k
  ·have a:¬ decide (p.1≠k)=true:=by simp[e]
   have b:¬ decide (q.1≠k)=true:=by simp[h1.symm.trans e]
   rw[if_neg a,if_neg b];exact ih
  ·have e':¬ q.1=k:=λz=>e (h1.trans z);have a:decide (p.1≠k)=true:=by simp[e]
   have b:decide (q.1≠k)=true:=by simp[e']
   rw[if_pos a,if_pos b];exact .cons ⟨h1,h2⟩ ih
theorem KV.length{kvs:List (κ×V)}{vs:List (κ×Value)}(r:KV kvs vs):kvs.length=vs.length:=Paired.length r
end
theorem u7{P:Program}{w:World}{k:Key}{u:Value}(r:RelV (kV k) u):(zA P w).is k u=true:=by
 cases k with
 |inl i=>obtain⟨t,e⟩:=(show ∃t,u=Value.int i t from r);subst e;exact G6 P w i t
 |inr x=>obtain⟨t,e⟩:=(show ∃t,u=Value.str x t from r);subst e;exact D8 P w x t
theorem Jh{P:Program}{w:World}:∀{ks:List Key}{us:List Value},Vals (ks.map kV) us->ItemsAre (zA P w) ks us
 | [],_,r=>by rw[List.map_nil]at r;cases r;exact .nil
 |k::ks,_,r=>by
  rw[List.map_cons]at r;cases r with
  |cons h t=>exact .cons (u7 h) (Jh t)
abbrev KT(H:Hp):List (List Key×V)->List (List Key×Addr×Value)->Prop:=Paired λp q=>p.1=q.1/\H q.2.1=some (.tup (p.1.map kV))/\RelV p.2 q.2.2
theorem KT.val{H:Hp}{kvs:List (List Key×V)}{xs:List (List Key×Addr×Value)}(r:KT H kvs xs)(k:List Key):RelO (valV kvs k) ((atKey xs k).map (·.2)):=by
 induction r with
 |nil=>exact True.intro
 | @cons p q ps qs h t ih=>
  obtain⟨h1,_,h2⟩:=h;by_cases e:p.1=k
  ·have e':q.1=k:=h1.symm.trans e;have b:atKey (q::qs) k=some q.2:=by simp[atKey,List.find?_cons,e']
   rw[Ja e,b];exact h2
  ·have e':¬ q.1=k:=λz=>e (h1.trans z);have b:atKey (q::qs) k=atKey qs k:=by simp[atKey,List.find?_cons,e']
   rw[JC e,b];exact ih
theorem KT.repl{H:Hp}{kvs:List (List Key×V)}{xs:List (List Key×Addr×Value)}(r:KT H kvs xs)(k:List Key){y:V}{u:Value}(ry:RelV y u):
  KT H (kvs.map λkv=>if kv.1=k then (kv.1,y) else kv) (xs.map (putAt k u)):=by
 induction r with
 |nil=>exact .nil
 | @cons p q ps qs h t ih=>
  rw[List.map_cons,List.map_cons];refine .cons ?_ ih;obtain⟨h1,h2,h3⟩:=h;unfold putAt;by_cases e:p.1=k
  ·rw[if_pos e,if_pos (h1.symm.trans e)];exact⟨h1,h2,ry⟩
  ·rw[if_neg e,if_neg (λz=>e (h1.trans z))];exact⟨h1,h2,h3⟩
theorem KT.put{H:Hp}{kvs:List (List Key×V)}{xs:List (List Key×Addr×Value)}(r:KT H kvs xs)(k:List Key){b:Addr}{y:V}{u:Value}(hb:H b=some (.tup (k.map kV)))(ry:RelV y u):
  KT H (putK kvs k y) (storedH xs k b u):=by
 have e:(kvs.any λkv=>decide (kv.1=k))=(atKey xs k).isSome:=by
  rw[valV_any,(r.val k).isSome_eq,Option.isSome_map]
 unfold putK storedH;rw[e];by_cases q:(atKey xs k).isSome=true
 ·rw[if_pos q,if_pos q];exact r.repl k ry
 ·rw[if_neg q,if_neg q];exact Paired.snoc r ⟨rfl,hb,ry⟩
theorem KT.keeps{H H':Hp}{kvs:List (List Key×V)}{xs:List (List Key×Addr×Value)}(r:KT H kvs xs)(ht:∀b ys,H b=some (.tup ys)->H' b=some (.tup ys)):KT H' kvs xs:=
 Paired.mapP r λ_ _ z=>⟨z.1,ht _ _ z.2.1,z.2.2⟩
section
variable{P:Program}{w:World}{H:Hp}{h:Heap}{a:Addr}
theorem qFF{u:HO}(ok:HOk P w H h)(e:Rd H a u):ObjOk P w H h a u:=e.ok ok
theorem qCK{kvs:List (Key×V)}(ok:HOk P w H h)(e:Rd H a (.dK kvs)):kvs.length<=sizeLine/\(a==sysModules)=false/\∃vs,KV kvs vs/\h.DictOf (zA P w) a vs:=
 show ObjOk P w H h a (.dK kvs) from qFF ok e
theorem qGO{kvs:List (Key×V)}(ok:HOk P w H h)(e:H a=some (.dK kvs)):kvs.length<=sizeLine/\(a==sysModules)=false/\∃vs,KV kvs vs/\h.DictOf (zA P w) a vs:=qCK ok (.inl e)
theorem J8{ks:List Key}(ok:HOk P w H h)(e:H a=some (.tup (ks.map kV))):(tupleKind (zA P w)).is h ks a:=by
 obtain⟨_,its,r,o,h1,h2,n,h3⟩:=(show ObjOk P w H h a (.tup (ks.map kV)) from ok a _ e)
 exact⟨o,its.toArray,n,h1,h2,h3,by simpa using Jh r⟩
theorem qCX{kvs:List (List Key×V)}(ok:HOk P w H h)(e:Rd H a (.dT kvs)):kvs.length<=sizeLine/\(a==sysModules)=false/\
  ∃xs,KT H kvs xs/\h.DictOfH (tupleKind (zA P w)) a xs:=by
 obtain⟨z,y,xs,r,o,es,ep,h1,h2,h3,h4,h5⟩:=(show ObjOk P w H h a (.dT kvs) from qFF ok e)
 refine⟨z,y,xs,r,o,es,ep,h1,h2,h3,h4,λx hx=>?_,h5⟩;have all:∀{l:List (List Key×V)}{m:List (List Key×Addr×Value)},KT H l m->∀x∈m,(tupleKind (zA P w)).is h x.1 x.2.1:=by
  intro l m q
  induction q with
  |nil=>intro x hx;exact nomatch hx
  | @cons p q ps qs hq t ih=>
   intro x hx;rcases List.mem_cons.mp hx with e|hx
   ·subst e;exact J8 ok (by rw[<-hq.1];exact hq.2.1)
   ·exact ih x hx
 exact all r x hx
theorem qGH{kvs:List (List Key×V)}(ok:HOk P w H h)(e:H a=some (.dT kvs)):kvs.length<=sizeLine/\(a==sysModules)=false/\
  ∃xs,KT H kvs xs/\h.DictOfH (tupleKind (zA P w)) a xs:=qCX ok (.inl e)
end
def DGet(H:Hp)(a:Addr)(y:V)(r:Option V):Prop:=
 (∃kvs k,Rd H a (.dK kvs)/\y=kV k/\r=valV kvs k)\/∃kvs k b,Rd H a (.dT kvs)/\y=.ref b/\H b=some (.tup (k.map kV))/\r=valV kvs k
def DPut(H:Hp)(a:Addr)(y v:V)(H':Hp):Prop:=
 (∃kvs k,H a=some (.dK kvs)/\y=kV k/\kvs.length<sizeLine/\H'=upd H a (.dK (putK kvs k v)))\/
 ∃kvs k b,H a=some (.dT kvs)/\y=.ref b/\H b=some (.tup (k.map kV))/\kvs.length<sizeLine/\H'=upd H a (.dT (putK kvs k v))
theorem DGet.k{H:Hp}{a:Addr}{kvs:List (Key×V)}{k:Key}(e:H a=some (.dK kvs)):DGet H a (kV k) (valV kvs k):=.inl ⟨kvs,k,.inl e,rfl,rfl⟩
theorem DGet.t{H:Hp}{a b:Addr}{kvs:List (List Key×V)}{k:List Key}(e:H a=some (.dT kvs))(eb:H b=some (.tup (k.map kV))):DGet H a (.ref b) (valV kvs k):=.inr ⟨kvs,k,b,.inl e,rfl,eb,rfl⟩
theorem DPut.k{H:Hp}{a:Addr}{kvs:List (Key×V)}{k:Key}{v:V}(e:H a=some (.dK kvs))(hl:kvs.length<sizeLine):DPut H a (kV k) v (upd H a (.dK (putK kvs k v))):=.inl ⟨kvs,k,e,rfl,hl,rfl⟩
theorem DPut.t{H:Hp}{a b:Addr}{kvs:List (List Key×V)}{k:List Key}{v:V}(e:H a=some (.dT kvs))(eb:H b=some (.tup (k.map kV)))(hl:kvs.length<sizeLine):
  DPut H a (.ref b) v (upd H a (.dT (putK kvs k v))):=.inr ⟨kvs,k,b,e,rfl,eb,hl,rfl⟩
section
variable{X:Cx}{pins:List (Addr×Obj)}{σ:St}{H:Hp}{s:Shared}{a:Addr}{y v:V}{u r:Value}{o:Option V}{A:Around}{E:Value->Shared->Prop}
theorem d_in{Q:Value->Shared->Prop}(hu:A.units+1<cLine)(I:Inv X pins σ H s)(g:DGet H a y o)(ry:RelV y u)(h:∀s',Inv X pins σ H s'->Q (.bool o.isSome) s'):
  wpAny (model X.prog X.w) A (compareOp .In u (.ref a)) Q E s:=by
 rcases g with⟨kvs,k,e,ey,l⟩|⟨kvs,k,b,e,ey,eb,l⟩
 ·subst ey;obtain⟨z,hd,vs,rel,dd⟩:=qCK I.hok e;refine wpAny_in_of (u7 ry) hd dd.mapOf ?_;rw[<-(rel.val k).isSome_eq,<-l];exact h _ (I.tok _)
 ·subst ey;cases (show u=Value.ref b from ry);obtain⟨z,hd,xs,rel,dd⟩:=qCX I.hok e;refine wpAny_in_heap (tupleKind_room_in1 hu) (J8 I.hok eb) hd dd ?_;have q:=(rel.val k).isSome_eq;rw[Option.isSome_map]at q;rw[<-q,<-l];exact h _ (I.tok _)
theorem d_notIn{Q:Value->Shared->Prop}(hu:A.units+1<cLine)(I:Inv X pins σ H s)(g:DGet H a y o)(ry:RelV y u)(h:∀s',Inv X pins σ H s'->Q (.bool (!o.isSome)) s'):
  wpAny (model X.prog X.w) A (compareOp .NotIn u (.ref a)) Q E s:=by
 rcases g with⟨kvs,k,e,ey,l⟩|⟨kvs,k,b,e,ey,eb,l⟩
 ·subst ey;obtain⟨z,hd,vs,rel,dd⟩:=qCK I.hok e;refine wpAny_notIn_of (u7 ry) hd dd.mapOf ?_;rw[<-(rel.val k).isSome_eq,<-l];exact h _ (I.tok _)
 ·subst ey;cases (show u=Value.ref b from ry);obtain⟨z,hd,xs,rel,dd⟩:=qCX I.hok e;refine wpAny_notIn_heap (tupleKind_room_in1 hu) (J8 I.hok eb) hd dd ?_;have q:=(rel.val k).isSome_eq;rw[Option.isSome_map]at q;rw[<-q,<-l];exact h _ (I.tok _)
theorem V8{h':Heap}{t':Nat}{ob:HO}(I:Inv X pins σ H s)(mu:Mut (H a))(hs:Heap.SameBut a s.heap h')(he:∃q,h'.get? a=some q)(new:ObjOk X.prog X.w (upd H a ob) h' a ob):
  Inv X pins σ (upd H a ob) { s with heap:=h',toks:=t' }:=
 I.write (x:=a) (e:=a) mu (.inl rfl) (λb q hb z=>(hs.2 b hb).trans z) he new
theorem qEL{P:Program}{w:World}{H':Hp}{h':Heap}{kvs:List (Key×V)}{vs:List (Key×Value)}(z:kvs.length<=sizeLine)(hd:(a==sysModules)=false)(rel:KV kvs vs)(dd:h'.DictOf (zA P w) a vs):
  ObjOk P w H' h' a (.dK kvs):=⟨z,hd,vs,rel,dd⟩
theorem d_setItem{H':Hp}{Q:Unit->Shared->Prop}(hu:A.units+1<cLine)(I:Inv X pins σ H s)(g:DPut H a y v H')(ry:RelV y u)(rv:RelV v r)(h:∀s',Inv X pins σ H' s'->Q () s'):
  wpAny (model X.prog X.w) A (setItem (.ref a) u r) Q E s:=by
 rcases g with⟨kvs,k,e,ey,l,eH⟩|⟨kvs,k,b,e,ey,eb,l,eH⟩
 ·subst ey eH;obtain⟨z,hd,vs,rel,dd⟩:=qGO I.hok e;have hz:vs.length<=sizeLine:=by rw[<-rel.length];exact z
  have hl:(putK kvs k v).length<=sizeLine:=by have:=Qt kvs k v;omega
  refine wpAny_setItem_pairs (hsz:=hz) (u7 ry) dd λh' dd' hs=>h _ ?_;have he:∃q,h'.get? a=some q:=let ⟨q,_,_,hq,_⟩:=dd';⟨q,hq⟩
  exact V8 I (by rw[e];exact True.intro) hs he (qEL hl hd (rel.put k rv) dd')
 ·subst ey eH;cases (show u=Value.ref b from ry);obtain⟨z,hd,xs,rel,dd⟩:=qGH I.hok e;have hz:xs.length<=sizeLine:=by rw[<-Paired.length rel];exact z
  have hl:(putK kvs k v).length<=sizeLine:=by have:=Qt kvs k v;omega
  refine wpAny_setItem_heap (hsz:=hz) (tupleKind_room_in1 hu) (J8 I.hok eb) dd λh' dd' hs=>h _ ?_;obtain⟨q,es,ep,hq,h2,h3,h4,_,h5⟩:=dd';refine V8 I (by rw[e];exact True.intro) hs ⟨q,hq⟩ ⟨hl,hd,_,(rel.put k eb rv).keeps λc ys ec=>?_,q,es,ep,hq,h2,h3,h4,h5⟩;rw[qF (qGV ec e (λz=>nomatch z))];exact ec
end
noncomputable def qDz(kvs more:List (Key×V)):List (Key×V):=more.foldl (λacc kv=>putK acc kv.1 kv.2) kvs
structure M1(X:Cx)(o:Expr)(m:Str)(apos:Pos)(e:Expr)(cpos:Pos):Prop where
 base:attributeBase o m X.env (eval o X.env)=eval o X.env
 few:((backTo cpos (starEach [e] X.env)).all (λx=>!x.1)&&(backToKw cpos (keywordEach [] X.env)).all (λx=>x.1.isSome)
  && decide (([e]:List Expr).length+([]:List Keyword).length+(if ([]:List Keyword).isEmpty then 0 else 1)<30))=true
 line:(apos.endLine==cpos.line)=true
 trees:backTo cpos (starEach [e] X.env)=[(false,eval e X.env)]
structure M2(X:Cx)(o:Expr)(m:Str)(apos:Pos)(e f:Expr)(cpos:Pos):Prop where
 base:attributeBase o m X.env (eval o X.env)=eval o X.env
 few:((backTo cpos (starEach [e,f] X.env)).all (λx=>!x.1)&&(backToKw cpos (keywordEach [] X.env)).all (λx=>x.1.isSome)
  && decide (([e,f]:List Expr).length+([]:List Keyword).length+(if ([]:List Keyword).isEmpty then 0 else 1)<30))=true
 line:(apos.endLine==cpos.line)=true
 trees:backTo cpos (starEach [e,f] X.env)=[(false,eval e X.env),(false,eval f X.env)]
end L2
set_option maxHeartbeats 4000000
namespace L2
open PySem PySem.Spec PyProof.Rows
theorem KV.len{kvs:List (Key×V)}{vs:List (Key×Value)}(r:KV kvs vs):vs.length=kvs.length:=(Paired.length r).symm
theorem KV.key{kvs:List (Key×V)}{vs:List (Key×Value)}(r:KV kvs vs){i:Nat}{k:Key×V}(e:kvs[i]?=some k):∃v,vs[i]?=some (k.1,v):=by
 induction r generalizing i with
 |nil=>simp at e
 |cons h t ih=>
  cases i with
  |zero=>cases e;exact⟨_,by rw[List.getElem?_cons_zero];congr 1;exact Prod.ext h.1.symm rfl⟩
  |succ i=>exact ih (by simpa using e)
noncomputable def T7(cells:List (Str×Addr)):List (Str×NameKind)->List (Str×Addr)->List (Str×Addr)
 | [],cs=>cs
 | (n,k)::r,cs=>T7 cells r (if k=.free then (match cells.lookup n with|some c=>(n,c)::cs|none=>cs) else cs)
theorem zv{scope:Scope}{env:Env}(h:∀y∈scope.names,y.2=.free->∃c,env.cells.lookup y.1=some c):closureFor scope env=pure (T7 env.cells scope.names []):=by
 simp only[closureFor];generalize scope.names=names at h;have key:∀(names:List (Str×NameKind)) (cs:List (Str×Addr)),(∀y∈names,y.2=.free->∃c,env.cells.lookup y.1=some c) ->
   (forIn names cs λx r=>if (x.2==NameKind.free)=true then do let c <- cellOf env x.1;pure (ForInStep.yield ((x.1,c)::r)) else pure (ForInStep.yield r))=(pure (T7 env.cells names cs):Sem _):=by
  intro names
  induction names with
  |nil=>intro cs _;rfl
  |cons y r ih=>
   intro cs hy;obtain⟨n,k⟩:=y;rw[List.forIn_cons];by_cases hk:k=.free
   ·subst hk;obtain⟨c,hc⟩:=hy (n,.free) List.mem_cons_self rfl;have hc':List.lookup n env.cells=some c:=hc;have e:cellOf env n=pure c:=by unfold cellOf;rw[hc']
    simp only[vJ,if_true,e,pure_bind,T7,hc'];exact ih _ λy hm=>hy y (List.mem_cons_of_mem _ hm)
   ·have hb:(k==NameKind.free)=false:=by simpa using hk
    simp only[hb,Bool.false_eq_true,if_false,pure_bind,T7,if_neg hk];exact ih _ λy hm=>hy y (List.mem_cons_of_mem _ hm)
 rw[key names [] h];rfl
theorem qA9{cells:List (Str×Addr)}{x:Str}{c:Addr}:∀{names:List (Str×NameKind)}{cs:List (Str×Addr)},(T7 cells names cs).lookup x=some c->cs.lookup x=some c\/cells.lookup x=some c
 | [],cs,h=>.inl h
 | (n,k)::r,cs,h=>by
  unfold T7 at h;rcases qA9 h with h2|h2
  ·clear h;by_cases hk:k=.free
   ·rw[if_pos hk]at h2;cases e:cells.lookup n with
    |none=>rw[e]at h2;exact .inl h2
    |some c'=>
     rw[e]at h2;simp only[List.lookup_cons]at h2;cases hx:x==n with
     |true=>
      have hx':x=n:=by simpa using hx
      rw[hx]at h2;subst hx';cases h2;exact .inr e
     |false=>
      rw[hx]at h2;exact .inl h2
   ·rw[if_neg hk]at h2;exact .inl h2
  ·exact .inr h2
theorem qAu{cells:List (Str×Addr)}{x:Str}{c:Addr}(hc:cells.lookup x=some c):∀{names:List (Str×NameKind)}{cs:List (Str×Addr)},((x,NameKind.free)∈names\/cs.lookup x=some c)->(∀c',cs.lookup x=some c'->c'=c)->(T7 cells names cs).lookup x=some c
 | [],cs,h,_=>by
  rcases h with h|h
  ·exact nomatch h
  ·exact h
 | (n,k)::r,cs,h,hu=>by
  unfold T7;refine qAu hc ?_ ?_
  ·rcases h with h|h
   ·rcases List.mem_cons.mp h with h|h
    ·cases h;right;rw[if_pos rfl,hc];simp
    ·exact .inl h
   ·right;by_cases hk:k=.free
    ·rw[if_pos hk];cases e:cells.lookup n with
     |none=>exact h
     |some c'=>
      simp only[List.lookup_cons];cases hx:x==n with
      |true=>
       have hx':x=n:=by simpa using hx
       subst hx';rw[hc]at e;cases e;rfl
      |false=>exact h
    ·rw[if_neg hk];exact h
  ·intro c' h';by_cases hk:k=.free
   ·rw[if_pos hk]at h';cases e:cells.lookup n with
    |none=>rw[e]at h';exact hu c' h'
    |some c2=>
     rw[e]at h';simp only[List.lookup_cons]at h';cases hx:x==n with
     |true=>
      have hx':x=n:=by simpa using hx
      subst hx';rw[hx]at h';rw[hc]at e;cases e;cases h';rfl
     |false=>
      rw[hx]at h';exact hu c' h'
   ·rw[if_neg hk]at h';exact hu c' h'
theorem QR{env:Env}:∀{names:List (Str×NameKind)}{x:Str},names.lookup x=some .free ->
  (names.map λ(n,k)=>if (k==NameKind.free&&env.scope.kind==.function&&env.kindOf n==some .cell) then (n,NameKind.cell) else (n,k)).lookup x=some .cell\/
  (names.map λ(n,k)=>if (k==NameKind.free&&env.scope.kind==.function&&env.kindOf n==some .cell) then (n,NameKind.cell) else (n,k)).lookup x=some .free
 | [],_,h=>by simp at h
 | (n,k)::r,x,h=>by
  have ih:=@QR env r x;simp only[List.map_cons];cases hx:x==n with
  |true=>
   simp only[List.lookup_cons,hx]at h;cases h;by_cases hc:(NameKind.free==NameKind.free&&env.scope.kind==.function&&env.kindOf n==some .cell)=true
   ·rw[if_pos hc];left;simp[List.lookup_cons,hx]
   ·rw[if_neg hc];right;simp[List.lookup_cons,hx]
  |false=>
   simp only[List.lookup_cons,hx]at h;by_cases hc:(k==NameKind.free&&env.scope.kind==.function&&env.kindOf n==some .cell)=true
   ·rw[if_pos hc];simp only[List.lookup_cons,hx];exact ih h
   ·rw[if_neg hc];simp only[List.lookup_cons,hx];exact ih h
theorem jE{env:Env}:∀{names:List (Str×NameKind)}{x:Str},
  ((names.map λ(n,k)=>if (k==NameKind.free&&env.scope.kind==.function&&env.kindOf n==some .cell) then (n,NameKind.cell) else (n,k)).lookup x=some .cell\/
  (names.map λ(n,k)=>if (k==NameKind.free&&env.scope.kind==.function&&env.kindOf n==some .cell) then (n,NameKind.cell) else (n,k)).lookup x=some .free)->names.lookup x=some .free\/names.lookup x=some .cell
 | [],_,h=>by simp at h
 | (n,k)::r,x,h=>by
  have ih:=@jE env r x;simp only[List.map_cons]at h;cases hx:x==n with
  |true=>
   simp only[List.lookup_cons,hx];by_cases hc:(k==NameKind.free&&env.scope.kind==.function&&env.kindOf n==some .cell)=true
   ·rw[if_pos hc]at h;have hk:k=.free:=by
     cases k<;>first|rfl|(simp at hc)
    rw[hk];exact .inl rfl
   ·rw[if_neg hc]at h;simp only[List.lookup_cons,hx]at h;exact h.symm
  |false=>
   simp only[List.lookup_cons,hx];by_cases hc:(k==NameKind.free&&env.scope.kind==.function&&env.kindOf n==some .cell)=true
   ·rw[if_pos hc]at h;simp only[List.lookup_cons,hx]at h;exact ih h
   ·rw[if_neg hc]at h;simp only[List.lookup_cons,hx]at h;exact ih h
theorem jY:∀(names:List (Str×NameKind)) (a:Nat) (acc:List (Str×Addr)),cellsFrom a names acc=cellsFrom a names []++acc
 | [],a,acc=>rfl
 | (n,k)::r,a,acc=>by
  unfold cellsFrom;split
  ·rw[jY r (a+1) ((n,a)::acc),jY r (a+1) [(n,a)],wO];rfl
  ·exact jY r a acc
theorem JJ{x:Str}{c:Addr}:∀{names:List (Str×NameKind)}{a:Nat},(x,c)∈cellsFrom a names []->(x,NameKind.cell)∈names
 | [],a,h=>nomatch h
 | (n,k)::r,a,h=>by
  unfold cellsFrom at h;split at h
  ·rename_i hk;rw[jY,wC]at h;rcases h with h|h
   ·exact List.mem_cons_of_mem _ (JJ h)
   ·have:(x,c)=(n,a):=wM.mp h;cases this;rw[beq_iff_eq.mp hk];exact List.mem_cons_self
  ·exact List.mem_cons_of_mem _ (JJ h)
theorem J6{x:Str}:∀{names:List (Str×NameKind)}{a:Nat},(x,NameKind.cell)∈names->∃c,(cellsFrom a names []).lookup x=some c
 | [],a,h=>nomatch h
 | (n,k)::r,a,h=>by
  unfold cellsFrom;rcases List.mem_cons.mp h with h|h
  ·cases h;rw[if_pos (by decide),jY,wZ];cases (cellsFrom (a+1) r []).lookup x with
   |none=>exact⟨a,by simp⟩
   |some c=>exact⟨c,rfl⟩
  ·split
   ·obtain⟨c,hc⟩:=J6 (a:=a+1) h;exact⟨c,by rw[jY,wZ,hc];rfl⟩
   ·exact J6 h
noncomputable def jA(X:Cx)(scope:Scope)(C:Addr):List (Str×Addr):=cellsFrom (C+1) scope.names (T7 X.env.cells scope.names [])
noncomputable def cxComp(X:Cx)(scope:Scope)(C:Addr)(fp:List Addr)(s₂:Shared)(H₂:Hp)(N:List Str):Cx:=
 { X with N:=N,s₀:=s₂,H₀:=H₂,env:=compEnvC scope (jA X scope C) C X.env,outer:=X.stack,ex:=fp,fn:=λx=>decide (scope.names.lookup x=some .cell),pn:=[],xe:=λ_ _=>False }
noncomputable def inner(src:List (Option Nat))(σ:St):St:=src.map λo=>match o with|none=>none|some j=>(σ[j]?).join
structure CompScope(X:Cx)(scope:Scope)(N:List Str)(src:List (Option Nat)):Prop where
 kind:scope.kind=.function
 uniq:∀y∈scope.names,scope.names.lookup y.1=some y.2
 frees:∀y∈scope.names,y.2=NameKind.free->X.env.kindOf y.1=some .cell\/X.env.kindOf y.1=some .free
 nd:N.Nodup
 len:src.length=N.length
 from_:∀(i:Nat) x j,N[i]?=some x->src[i]?=some (some j)->X.N[j]?=some x/\scope.names.lookup x=some .free
theorem ql{x:Str}{k:NameKind}:∀{names:List (Str×NameKind)},names.lookup x=some k->(x,k)∈names
 | [],h=>by simp at h
 | (n,k')::r,h=>by
  cases hx:x==n with
  |true=>
   simp only[List.lookup_cons,hx]at h;have hx':x=n:=by simpa using hx
   cases h;subst hx';exact List.mem_cons_self
  |false=>
   simp only[List.lookup_cons,hx]at h;exact List.mem_cons_of_mem _ (ql h)
section
variable{X:Cx}{pins:List (Addr×Obj)}{σ:St}{H₂:Hp}{s₂:Shared}{scope:Scope}{N:List Str}{src:List (Option Nat)}{fp:List Addr}
theorem CompScope.cells(S:CompScope X scope N src)(ok:X.Ok):∀y∈scope.names,y.2=.free->∃c,X.env.cells.lookup y.1=some c:=λy hy hk=>ok.has y.1 (S.frees y hy hk)
theorem CompScope.names(S:CompScope X scope N src):∀y∈scope.names,y.2=NameKind.local->scope.names.lookup y.1=some .local:=λy hy hk=>by rw[<-hk];exact S.uniq y hy
theorem zJ{C:Addr}{h₁:Heap}(ow:CellsOk h₁ (C+1) (cellsFrom (C+1) scope.names [])){x:Str}{c:Addr}(h:(jA X scope C).lookup x=some c):
  ((x,c)∈cellsFrom (C+1) scope.names []/\(x,NameKind.cell)∈scope.names/\h₁.IsCell c none/\C<c)\/X.env.cells.lookup x=some c:=by
 unfold jA at h;rw[jY,wZ]at h;cases e:(cellsFrom (C+1) scope.names []).lookup x with
 |some c'=>
  rw[e]at h;cases h;have m:=PySem.mem_of_lookup e;exact .inl ⟨m,JJ m,(ow.empty x c m).1,(ow.empty x c m).2⟩
 |none=>
  rw[e]at h;rcases qA9 (show (T7 X.env.cells scope.names []).lookup x=some c by simpa using h) with h|h
  ·simp at h
  ·exact .inr h
theorem ZV(S:CompScope X scope N src){C:Addr}{x:Str}{c:Addr}(hf:scope.names.lookup x=some .free)(h:X.env.cells.lookup x=some c):(jA X scope C).lookup x=some c:=by
 unfold jA;rw[jY,wZ];have:(cellsFrom (C+1) scope.names []).lookup x=none:=by
  cases e:(cellsFrom (C+1) scope.names []).lookup x with
  |none=>rfl
  |some c'=>
   have:=S.uniq _ (JJ (PySem.mem_of_lookup e));rw[hf]at this;cases this
 rw[this,qAu h (.inl (ql hf)) (by intro c' h';simp at h')];rfl
theorem qCM(S:CompScope X scope N src)(I:Inv X pins σ H₂ s₂)(f2:∀b∈fp,ZJ X pins H₂ b)(ob:∀b∈fp,∃o,s₂.heap.get? b=some o/\∀v,o.data≠.cell v){C:Addr}(hC:s₂.heap.objs.size<=C){h₁:Heap}(ow:CellsOk h₁ (C+1) (cellsFrom (C+1) scope.names [])):
  (cxComp X scope C fp s₂ H₂ N).Ok:=by
 have lt:∀x c,X.env.cells.lookup x=some c->c<s₂.heap.objs.size:=λx c h=>let ⟨v,q⟩:=I.cell x c h;q.lt
 refine⟨I.ok.mod,S.kind,I.ok.glob,I.ok.blt,hC,λx y c h1 h2=>?_,λx hx=>?_,λx c hf h=>?_,I.ok.hd,I.ok.frames,.inl rfl,λb hb=>⟨?_,λx c h=>?_⟩,λb o e=>I.bs b o e,?_,λb o e hb=>?_,λb hb=>?_,I.stack,I.stkFree⟩
 ·rcases zJ ow h1 with⟨m1,_,_,g1⟩|g1<;>rcases zJ ow h2 with⟨m2,_,_,g2⟩|g2
  ·exact PySem.name_of_addr ow.apart m1 m2
  ·exact absurd (wX (wD (lt y c g2) hC) g1) (Nat.lt_irrefl _)
  ·exact absurd (wX (wD (lt x c g1) hC) g2) (Nat.lt_irrefl _)
  ·exact I.ok.inj x y c g1 g2
 ·rcases jE hx with hf|hf
  ·obtain⟨c,hc⟩:=S.cells I.ok (x,.free) (ql hf) rfl;exact⟨c,ZV S hf hc⟩
  ·obtain⟨c,hc⟩:=J6 (a:=C+1) (ql hf);exact⟨c,by show (jA X scope C).lookup x=_;unfold jA;rw[jY,wZ,hc];rfl⟩
 ·have hf':scope.names.lookup x=some .cell:=vH hf;rcases zJ ow h with⟨_,_,_,g⟩|g
  ·exact wc (Nat.lt_of_le_of_lt hC g)
  ·unfold cxComp at h;have h:(jA X scope C).lookup x=some c:=h;obtain⟨c',hc'⟩:=J6 (a:=C+1) (ql hf');have e:(jA X scope C).lookup x=some c':=by unfold jA;rw[jY,wZ,hc'];rfl
   rw[e]at h;cases h;have:=(ow.empty x c (PySem.mem_of_lookup hc')).2;exact Nat.le_trans hC (Nat.le_of_succ_le this)
 ·obtain⟨o,e,_⟩:=ob b hb;exact wK (wD (Heap.lt_size e) hC)
 ·rcases zJ ow h with⟨_,_,_,g⟩|g
  ·obtain⟨o,e,_⟩:=ob b hb;exact Nat.ne_of_gt (wX (wD (Heap.lt_size e) hC) g)
  ·exact(f2 b hb).2.2.2.2.1 x c g
 ·exact Nat.le_trans I.ok.bsz I.sz
 ·rcases(f2 b hb).2.2.2.1 with z|z
  ·exact I.ok.noex b o e z
  ·exact absurd (wD (Heap.lt_size e) (Nat.le_trans I.ok.bsz z)) (Nat.lt_irrefl _)
 ·intro hz;rcases List.mem_cons.mp (I.stkSub b hz) with e|e
  ·exact(f2 b hb).2.1 e
  ·exact(f2 b hb).2.2.1 e
theorem JH(S:CompScope X scope N src)(I:Inv X pins σ H₂ s₂)(f2:∀b∈fp,ZJ X pins H₂ b)(ob:∀b∈fp,∃o,s₂.heap.get? b=some o/\∀v,o.data≠.cell v){C:Addr}{h₁:Heap}{m:Str->Option Value}{tk n:Nat}
  (hC:s₂.heap.objs.size<C) (keep:∀b o,s₂.heap.get? b=some o->h₁.get? b=some o) (hD:h₁.get? s₂.heap.objs.size=some { cls:=.type "list",data:=.seq #[] n }) (hn:h₁.Ns C m) (ow:CellsOk h₁ (C+1) (cellsFrom (C+1) scope.names [])):
  Inv (cxComp X scope C fp s₂ H₂ N) [] (inner src σ) (upd H₂ s₂.heap.objs.size (.lst [])) { s₂ with heap:=h₁,toks:=tk }:=by
 have lt:∀x c,X.env.cells.lookup x=some c->c<s₂.heap.objs.size:=λx c h=>let ⟨v,q⟩:=I.cell x c h;q.lt
 have hfr:H₂ s₂.heap.objs.size=none:=I.hok.fresh (Nat.le_refl _);refine⟨qCM S I f2 ob (wc hC) ow,rfl,I.bare,Un.laid keep (Nat.le_refl _) hfr,⟨m,hn,λi x v e1 e2 e3=>?_⟩,λx c h=>?_,?_,λx c h=>?_,λp hp=>absurd (show p∈([]:List (Addr×Obj)) from hp) (by simp),I.hok.laid keep (Nat.le_refl _) ⟨by simp,[],n,.nil,hD⟩,?_⟩
 ·have e2':(inner src σ)[i]?=some (some v):=e2;unfold inner at e2';rw[wQ]at e2';cases q:src[i]? with
  |none=>rw[q]at e2';cases e2'
  |some o=>
   rw[q]at e2';cases o with
   |none=>cases e2'
   |some j=>
    have ej:(σ[j]?).join=some v:=Option.some.inj e2';have ej':σ[j]?=some (some v):=by
     cases z:σ[j]? with
     |none=>rw[z]at ej;cases ej
     |some w=>rw[z]at ej;exact congrArg some ej
    obtain⟨n1,n2⟩:=S.from_ i x j e1 q;obtain⟨m0,hn0,hl⟩:=I.loc;have hfr':=S.frees (x,.free) (ql n2) rfl;obtain⟨u,r,l⟩:=hl j x v n1 ej' (by rcases hfr' with z|z;exact .inr (.inl z);exact .inr (.inr z));refine⟨u,r,.inr ⟨QR n2,?_⟩⟩;rcases l with⟨k,_⟩|⟨_,c,hc,o,ho,hd⟩
    ·have k':X.env.kindOf x=some .local:=k;rcases hfr' with z|z
     ·have z':X.env.kindOf x=some .cell:=z;rw[k']at z';cases z'
     ·have z':X.env.kindOf x=some .free:=z;rw[k']at z';cases z'
    ·exact⟨c,ZV S n2 hc,o,keep c o ho,hd⟩
 ·rcases zJ ow h with⟨_,_,g,_⟩|g
  ·exact⟨none,g⟩
  ·obtain⟨v,o,ho,hd⟩:=I.cell x c g;exact⟨v,o,keep c o ho,hd⟩
 ·show upd H₂ s₂.heap.objs.size (.lst []) C=none;rw[qF (Nat.ne_of_gt hC)];exact I.hok.fresh (wc hC)
 ·rcases zJ ow h with⟨_,_,_,g⟩|g
  ·rw[qF (Nat.ne_of_gt (wX hC g))];exact I.hok.fresh (wc (wX hC g))
  ·rw[qF (wK (lt x c g))];exact I.freeC x c g
 ·show (inner src σ).length=N.length;unfold inner;rw[wL,S.len]
theorem Jd(I:Inv X pins σ H₂ s₂)(f2:∀b∈fp,ZJ X pins H₂ b){C:Addr}{pins':List (Addr×Obj)}{σ':St}{H':Hp}{s':Shared}{h':Heap}(hC:s₂.heap.objs.size<=C)(J:Inv (cxComp X scope C fp s₂ H₂ N) pins' σ' H' s')
  (kp:∀b o,b≠C->s'.heap.get? b=some o->h'.get? b=some o):Inv X pins σ H' { s' with heap:=h' }:=by
 have neC:∀b o,s₂.heap.get? b=some o->b≠C:=λb o e=>wK (wD (Heap.lt_size e) hC);have B:=J.base;refine I.call' (s':={ s' with heap:=h' }) (ch:=fp) J.os ⟨λb o e n hb hx=>kp b o (neC b o e) (B.keep b o e n hb hx),λb o e n hb hx=>?_,B.free,λb o e hx=>?_,B.tups,B.frzs,B.tbls⟩ (λa o e=>?_) J.bare λb hb=>⟨(f2 b hb).2.2.2.1,(f2 b hb).2.1,(f2 b hb).2.2.2.2⟩
 ·obtain⟨sl,q⟩:=B.slot b o e n hb hx;exact⟨sl,kp b _ (neC b o e) q⟩
 ·obtain⟨o',q⟩:=B.there b o e hx;exact⟨o',kp b o' (neC b o e) q⟩
 ·have nC:H' C=none:=J.free;have ne:∀b u,H' b=some u->b≠C:=λb u q z=>by rw[z,nC]at q;cases q
  refine(J.hok a o e).stay (λc v hc q=>kp c v ?_ q) (λ_ q=>q) λ_ _ q=>q;rcases hc with z|z
  ·rw[z];exact ne a o e
  ·exact ne c _ z
end
def PTs(X:Cx)(ifs:List Expr)(t:TT):Prop:=
 ∀(pins:List (Addr×Obj)) (s:Shared) (σ:St) (H:Hp) (Q:Bool->Hp->Prop),Inv X pins σ H s->t σ H Q ->
  wpAny (model X.prog X.w) X.A (forIn ifs true λc r=>if r=true then do let ok <- isTrue c X.env (eval c X.env);pure (ForInStep.yield ok) else pure (ForInStep.yield r)) (TP X pins σ Q) X.xe s
theorem pts_nil{X:Cx}:PTs X [] (λ_ H Q=>Q true H):=λpins s σ H Q I h=>vD ⟨H,I,h⟩
theorem pts_one{X:Cx}{c:Expr}{t:TT}(hc:PT X c t):PTs X [c] t:=by
 intro pins s σ H Q I h;rw[List.forIn_cons];simp only[if_true];refine vC (vC (thn (hc pins s σ H Q I h) λb s1 q=>?_));exact vD (vD q)
noncomputable def tComp(wi:TI)(src:List (Option Nat))(g:TG)(tc:TT)(te:TE):TE:=λσ H Q=>wi σ H λJ H1=>∀D,H1 D=none ->
 ∃W:Nat->Nat->List V->St->Hp->Prop,(∃m,W 0 m [] (inner src σ) (upd H1 D (.lst [])))/\∀i m ys σ' H',W i m ys σ' H'->H' D=some (.lst ys) ->
  (J.stop i H'/\Q (.ref D) H')\/
  (J.go i H'/\∀x H2,J.yld i H' x H2->g x σ' H2 λσ3 H3=>tc σ3 H3 λb H4=>
   if b=true then te σ3 H4 λy H5=>H5 D=some (.lst ys)/\ys.length<sizeLine/\∃m',m'<m/\W (i+1) m' (ys++[y]) σ3 (upd H5 D (.lst (ys++[y])))
   else H4 D=some (.lst ys)/\∃m',m'<m/\W (i+1) m' ys σ3 H4)
section
variable{X:Cx}{pins:List (Addr×Obj)}{σ:St}{H₂:Hp}{s₂:Shared}{scope:Scope}{N:List Str}{src:List (Option Nat)}
theorem D9{M:Model}{A:Around}{E:Value->Shared->Prop}{s:Shared}{scope:Scope}{globals:Addr}{cl:List (Str×Addr)}{qual:Str}{env:Env}{Q:Env->Shared->Prop}
  (h:Q (newEnv scope s.heap.objs.size globals (cellsFrom (s.heap.objs.size+1) scope.names cl) qual none .none (some env) builtinsNs) { s with heap:=pushCells (s.heap.push { cls:=.type "dict",data:=.dict #[] }) scope.names }):
  wpAny M A (newFunctionEnv scope globals cl [] qual none .none (some env)) Q E s:=by
 simp only[newFunctionEnv,Option.isSome_some,if_true];refine vC (wpAny_alloc ?_);refine vC (wpAny_layCells _ (λname kind cells=>by cases hkc:kind==NameKind.cell<;>simp[hkc]) _ _ _ _ ?_);rw[show ({ s with heap:=s.heap.push { cls:=.type "dict",data:=.dict #[] } }:Shared).heap.objs.size=s.heap.objs.size+1 from Heap.size_push ..];refine vC ?_;rw[List.forIn_nil];exact vD (vD h)
theorem K7{elt tg iter:Expr}{ifs:List Expr}{pos:Pos}{g:TG}{tc:TT}{te:TE}{it:Addr}{fp:List Addr}{tn:Nat->Heap->Prop}{J:It}{Q:VK}{E:Value->Shared->Prop}{RR:Value->Addr->Result->Shared->Prop}
  (hc:X.calm=true) (S:CompScope X scope N src) (I2:Inv X pins σ H₂ s₂) (T:Zi X.prog X.w X.K tg J fp it tn) (st2:tn 0 s₂.heap) (f2:∀b∈fp,ZJ X pins H₂ b)
  (hg:∀C fp s H,PG (cxComp X scope C fp s H N) tg g) (ht:∀C fp s H,PTs (cxComp X scope C fp s H N) ifs tc) (he:∀C fp s H,PE (cxComp X scope C fp s H N) elt te)
  (h:∀D,H₂ D=none->∃W:Nat->Nat->List V->St->Hp->Prop,(∃m,W 0 m [] (inner src σ) (upd H₂ D (.lst [])))/\∀i m ys σ' H',W i m ys σ' H'->H' D=some (.lst ys) ->
   (J.stop i H'/\Q (.ref D) H')\/
   (J.go i H'/\∀x H2,J.yld i H' x H2->g x σ' H2 λσ3 H3=>tc σ3 H3 λb H4=>
    if b=true then te σ3 H4 λy H5=>H5 D=some (.lst ys)/\ys.length<sizeLine/\∃m',m'<m/\W (i+1) m' (ys++[y]) σ3 (upd H5 D (.lst (ys++[y])))
    else H4 D=some (.lst ys)/\∃m',m'<m/\W (i+1) m' ys σ3 H4))
  (hRR:∀(D C:Addr) (σ':St) (H':Hp) (s':Shared),s₂.heap.objs.size<=C->Inv (cxComp X scope C fp s₂ H₂ N) [] σ' H' s'->Q (.ref D) H'->RR (.ref D) C (.ok .next) s'):
  wpAny (model X.prog X.w) X.A (newList []) (λacc s₃=>wpAny (model X.prog X.w) X.A (newFunctionEnv scope X.env.globals (T7 X.env.cells scope.names []) [] X.env.qual none .none (some X.env)) (λcenv s₄=>
   codeAny (model X.prog X.w) X.A (.compStart (.ListComp elt [⟨tg,iter,ifs,0⟩] scope pos) 0 (.ref it) acc { cenv with scope:=relabel scope X.env }) (RR acc cenv.locals) s₄) E s₃) E s₂:=by
 refine wpAny_newObj_type (D9 ?_);dsimp only;generalize hH2:s₂.heap.push { cls:=.type "list",dict:=none,data:=.seq ([]:List Value).toArray }=P2;have hC:P2.objs.size=s₂.heap.objs.size+1:=by rw[<-hH2,Heap.size_push]
 have ow:=cellsFrom_ok scope.names (P2.push { cls:=.type "dict",data:=.dict #[] }) (P2.objs.size+1) [] ⟨λ_ _ hm=>(nomatch hm),List.Pairwise.nil⟩ (by rw[Heap.size_push];exact Nat.le_refl _);rw[Heap.size_push]at ow;generalize hh1:pushCells (P2.push { cls:=.type "dict",data:=.dict #[] }) scope.names=h₁ at ow ⊢;have kp:∀b o,P2.get? b=some o->h₁.get? b=some o:=λb o e=>hh1 ▸ pushCells_keeps _ _ b o (Heap.get?_push_of_some _ e);have hns₁:h₁.Ns P2.objs.size (λ_=>none):=hh1 ▸ (Heap.Ns.new P2 (.type "dict")).keeps (pushCells_keeps _ _);have old:∀b o,s₂.heap.get? b=some o->h₁.get? b=some o:=λb o e=>kp b o (hH2 ▸ Heap.get?_push_of_some _ e);have hacc:h₁.get? s₂.heap.objs.size=some { cls:=.type "list",data:=.seq #[] }:=kp _ _ (hH2 ▸ Heap.get?_push_size _ rfl);have st1:tn 0 h₁:=T.keep _ _ _ st2 λb _ o e=>old b o e;have ob:=T.obj _ _ st2;have lt:s₂.heap.objs.size<P2.objs.size:=by rw[hC];exact Nat.lt_succ_self _
 have I3:=JH (tk:=s₂.toks) S I2 f2 ob lt old hacc hns₁ ow;obtain⟨W,⟨m0,w0⟩,step⟩:=h s₂.heap.objs.size I2.fresh;have fpn:∀b∈fp,b≠s₂.heap.objs.size:=λb hb=>by
  obtain⟨o,e,_⟩:=ob b hb;exact wK (Heap.lt_size e)
 have fok:∀{pins':List (Addr×Obj)}{H':Hp},(∀b∈fp,H' b=none)->(∀p∈pins',p.1∉fp)->∀b∈fp,ZJ (cxComp X scope P2.objs.size fp s₂ H₂ N) pins' H' b:=λ{pins' H'} hn hp b hb=>by
  have okc:=I3.ok;exact⟨hn b hb,(okc.exf b hb).1,okc.exfs b hb,.inl hb,(okc.exf b hb).2,λp hp' z=>hp p (by simpa [cxComp] using hp') (z ▸ hb)⟩
 have loop:∀s₃:Shared,s₃={ s₂ with heap:=h₁,toks:=s₂.toks } ->
   codeAny (model X.prog X.w) X.A (.compLoop (.ListComp elt [⟨tg,iter,ifs,0⟩] scope pos) 0 (.ref it) (.ref s₂.heap.objs.size) (compEnvC scope (jA X scope P2.objs.size) P2.objs.size X.env))
    (RR (.ref s₂.heap.objs.size) P2.objs.size) s₃:=by
  rintro s₃ rfl;refine codeAny_loop rfl (λn s'=>∃i ys σ' H',Inv (cxComp X scope P2.objs.size fp s₂ H₂ N) [] σ' H' s'/\tn i s'.heap/\(∀b∈fp,H' b=none)/\H' s₂.heap.objs.size=some (.lst ys)/\W i n ys σ' H') (λn s' hI=>?_) m0
   ⟨0,[],inner src σ,_,I3,st1,λb hb=>by rw[qF (fpn b hb)];exact(f2 b hb).1,qG,w0⟩
  obtain⟨i,ys,σ3,H3,J3,st3,fr3,hD3,w3⟩:=hI;show wpAny _ X.A ((compTurn (.ListComp elt [⟨tg,iter,ifs,0⟩] scope pos) 0 (.ref it) (.ref s₂.heap.objs.size) _).onRaise (λx=>do noteFrame x _;theTreesLotGoes x)) _ _ s';refine wpAny_noted ?_;rw[compTurn_list];have never:∀{α:Type}{t:Sem α}{Q1:α->Shared->Prop}{E1:Value->Shared->Prop}{s1:Shared},wpAny (model X.prog X.w) X.A t Q1 (λ_ _=>False) s1->wpAny (model X.prog X.w) X.A t Q1 E1 s1:=λh=>wpAny_mono h (λ_ _ q=>q) λ_ _ f=>f.elim;refine vC (wpAny_standAt (vC ?_));rcases step i n ys σ3 H3 w3 hD3 with⟨stop,qn⟩|⟨go,qEC⟩
  ·refine never (thn (T.done (cxComp X scope P2.objs.size fp s₂ H₂ N) rfl rfl rfl hc i [] s' σ3 H3 _ J3 (fok fr3 (by simp)) st3 stop) λr s4 ⟨hr,I4⟩=>?_);subst hr;exact vD (hRR _ _ σ3 H3 s4 (wc lt) I4 qn)
  ·refine never (thn (T.item (cxComp X scope P2.objs.size fp s₂ H₂ N) rfl rfl rfl hc i [] s' σ3 H3 _ J3 (fok fr3 (by simp)) st3 go) λr s4 ⟨u,hr,h4⟩=>?_);subst hr;refine vC (never (thn h4 λ_ s5 ⟨x,H5,I5,r5,y5,st5,fr5⟩=>?_));have I5':=I5.pinned (fok fr5 (by simp)) (T.obj _ _ st5);have kept:∀{σ7:St}{H7:Hp}{s7:Shared},Inv (cxComp X scope P2.objs.size fp s₂ H₂ N) ([]++Jc fp s5.heap) σ7 H7 s7->Inv (cxComp X scope P2.objs.size fp s₂ H₂ N) [] σ7 H7 s7/\tn (i+1) s7.heap/\∀b∈fp,H7 b=none:=λ{σ7 H7 s7} I7=>by
    refine⟨I7.unpinned,T.keep _ _ _ st5 λb hb o e=>(I7.pin (b,o) (wG _ (wG _ (jN hb e)))).1,λb hb=>?_⟩;obtain⟨o,e,d⟩:=T.obj _ _ st5 b hb;exact(I7.pin (b,o) (wG _ (wG _ (jN hb e)))).2.1
   refine vC (never (thn (hg _ _ _ _ _ s5 σ3 H5 x u _ I5' r5 (qEC x H5 y5)) λ_ s6 ⟨σ6,H6,I6,q6⟩=>?_));refine vC (never (thn (ht _ _ _ _ _ s6 σ6 H6 _ I6 q6) λb s7 ⟨H7,I7,q7⟩=>?_));cases b with
   |false=>
    rw[if_neg (by decide)]at q7;obtain⟨hD7,m',hm,w7⟩:=q7;obtain⟨I7',st7,fr7⟩:=kept I7;exact vD ⟨rfl,m',hm,i+1,ys,σ6,H7,I7',st7,fr7,hD7,w7⟩
   |true=>
    rw[if_pos rfl]at q7;refine vC (vC (never (thn (he _ _ _ _ _ s7 σ6 H7 _ I7 q7) λyv s8 ⟨y,H8,I8,r8,hD8,hz,m',hm,w8⟩=>?_)));refine vC (never (thn (mt_append (X:=cxComp X scope P2.objs.size fp s₂ H₂ N) _ s8 σ6 H8 (.ref s₂.heap.objs.size) [y] _ [yv] (λv H'=>v=.non/\H'=upd H8 s₂.heap.objs.size (.lst (ys++[y]))) I8 rfl (.cons r8 .nil) ⟨_,ys,y,rfl,rfl,hD8,hz,rfl,rfl⟩) λ_ s9 ⟨v9,H9,I9,_,_,e9⟩=>?_));subst e9;obtain⟨I9',st9,fr9⟩:=kept I9;exact vD (vD ⟨rfl,m',hm,i+1,_,σ6,_,I9',st9,fr9,qG,w8⟩)
 exact codeAny_compStart_list (loop _ rfl) (T.self _ 0 _ _ _ st1 (loop _ rfl))
end
section
variable{X:Cx}{scope:Scope}{N:List Str}{src:List (Option Nat)}{elt tg iter:Expr}{ifs:List Expr}{pos:Pos}{wi:TI}{g:TG}{tc:TT}{te:TE}
theorem pe_comp(hc:X.calm=true)(hi:PI X tg iter wi)(S:CompScope X scope N src)
  (hg:∀C fp s H,PG (cxComp X scope C fp s H N) tg g) (ht:∀C fp s H,PTs (cxComp X scope C fp s H N) ifs tc) (he:∀C fp s H,PE (cxComp X scope C fp s H N) elt te)
  (hs:∀x,foldedSetIterable iter X.env x=pure x:=by intro _;rfl):PE X (.ListComp elt [⟨tg,iter,ifs,0⟩] scope pos) (tComp wi src g tc te):=by
 intro pins s σ H Q I h;rw[eval_ListComp];refine wpAny_comprehension_free (use:=none) rfl hs (zv (S.cells I.ok)) S.kind S.names (thn (hi pins s σ H _ I h) λv s1 h1=>thn h1 λitv s2 h2=>?_);obtain⟨it,fp,tn,J,H2,rfl,I2,T,st2,f2,hW⟩:=h2;refine K7 (Q:=Q) (RR:=λacc C=>compPost (model X.prog X.w) X.A X.xe none (EP X pins σ Q) acc C) hc S I2 T st2 f2 hg ht he hW ?_;intro D C σ' H' s' hC J q;obtain⟨m,hn,_⟩:=id J.loc;exact⟨m,hn,λh' hs'=>⟨.ref D,H',Jd I2 f2 hC J (λb o hb e=>hs'.extBut b o hb e),rfl,q⟩⟩
theorem ps_setcomp{i:Nat}{x:Str}{pos' spos:Pos}(hc:X.calm=true)(hi:PI X tg iter wi)(S:CompScope X scope N src)
  (hg:∀C fp s H,PG (cxComp X scope C fp s H N) tg g) (ht:∀C fp s H,PTs (cxComp X scope C fp s H N) ifs tc) (he:∀C fp s H,PE (cxComp X scope C fp s H N) elt te)
  (hsw:swapsWith (.ListComp elt [⟨tg,iter,ifs,0⟩] scope pos) (some (.Name x pos')) spos.line X.env=pure true)
  (hN:X.N.Nodup) (hx:X.N[i]?=some x) (hl:X.env.scope.names.lookup x=some .local)
  (hs:∀x,foldedSetIterable iter X.env x=pure x:=by intro _;rfl):PS X (.Assign [.Name x pos'] (.ListComp elt [⟨tg,iter,ifs,0⟩] scope pos) spos) (tAsg (tComp wi src g tc te) (qCF i)):=by
 intro pins s σ H D I h;rw[exec_Assign_Name_used _ _ _ _ hsw];refine vC (wpAny_standAt (vC ?_));show wpAny _ X.A (do let _ <- comprehension (.ListComp elt [⟨tg,iter,ifs,0⟩] scope pos) scope X.env _ (newList []) false (eval iter X.env) (some (assign (.Name x pos') X.env))) _ _ s;refine vC (wpAny_mono (wpAny_comprehension_free (use:=some (assign (.Name x pos') X.env)) (Q:=λ_ s'=>SP X pins D .next s') rfl hs (zv (S.cells I.ok)) S.kind S.names
  (thn (hi pins s σ H _ I h) λv s1 h1=>thn h1 λitv s2 h2=>?_)) (λ_ s' hq=>vD (vD hq)) λ_ _ e=>e)
 obtain⟨it,fp,tn,J,H2,rfl,I2,T,st2,f2,hW⟩:=h2;refine K7 (Q:=λv H'=>D.nx (σ.set i (some v)) H') (RR:=λacc C=>compPost (model X.prog X.w) X.A X.xe (some (assign (.Name x pos') X.env)) (λ_ s'=>SP X pins D .next s') acc C) hc S I2 T st2 f2 hg ht he hW ?_;intro L C σ' H' s' hC J q;obtain⟨m,hn,_⟩:=id J.loc;have I3:Inv X pins σ H' s':=Jd (h':=s'.heap) I2 f2 hC J (λb o hb e=>e);show wpAny _ X.A (assign (.Name x pos') X.env (.ref L)) _ _ _;have nL:X.env.locals≠C:=wK (wD I2.lt hC);refine wpAny_assign_Name (Jg I3 hN hx (.inl hl) (show RelV (.ref L) (.ref L) from rfl) (λs4 I4 hsb=>?_) (.inr hl));obtain⟨a,sb,ha⟩:=hsb;have ha':a≠C:=by
  rcases ha with z|z
  ·rw[z];exact nL
  ·obtain⟨v,hv⟩:=I2.cell x a z;exact wK (wD hv.lt hC)
 refine⟨m,hn.sameBut sb (Ne.symm ha'),λh5 sb5=>?_⟩;have I5:Inv X pins (σ.set i (some (V.ref L))) H' { s4 with heap:=h5,toks:=s4.toks }:=I4.turned (it:=C) (λb o hb e=>sb5.extBut b o hb e) J.free (Ne.symm nL) (.inr (Nat.le_trans I2.sz hC)) (λy c e z=>by
   obtain⟨v,hv⟩:=I2.cell y c e;exact absurd (wD hv.lt (by rw[z];exact hC)) (Nat.lt_irrefl _)) λp hp z=>absurd (wD (Heap.lt_size (I2.pin p hp).1) (by rw[z];exact hC)) (Nat.lt_irrefl _)
 exact⟨_,H',I5,q⟩
end
end L2
namespace PI
open L2 (V Key)
open PySem (Str)
inductive BOp|add|sub|mul|fdiv|mod|pow|band|shl
 deriving DecidableEq
inductive COp|lt|le|gt|ge|eq|ne|inn|notin|is|isnot
 deriving DecidableEq
inductive BF|len|sum|all|any|max|min|list|tuple|repr|bits
 deriving DecidableEq
inductive Mt|popAt|ins
 deriving DecidableEq
inductive Tg|name(i:Nat)|tup(is:List Nat)
 deriving DecidableEq
inductive TU|str|int|len
 deriving DecidableEq
mutual
inductive E
 |var (i:Nat)|cst (v:V)|glob (g:Nat)
 |bin (op:BOp) (a b:E)|neg (a:E)
 |cmp (op:COp) (a b:E)|cmp2 (o1 o2:COp) (a b c:E)
 |and (a b:E)|or (a b:E)|not (a:E)|ite (c a b:E)
 |call (f:Nat) (as:Es)|blt (f:BF) (as:Es)|isi (a:E) (ts:List String)
 |idx (a b:E)|sl (a:E) (lo hi:Es)   | lst (as:Es)|tup (as:Es)
 |comp (it:Itr) (src:List (Option Nat)) (g:Tg) (c:Es) (e:E)
 |app (a b:E)|lrng (a:E)|dnew|meth (m:Mt) (a:E) (as:Es)            | txu (o:TU) (a:E)   | join (a:E)
inductive Es|nil|cons(a:E)(as:Es)
inductive Itr|list(a:E)|rng1(a:E)|rng2(a b:E)|zip(a b:E)  | revd(a:E)
end
mutual
inductive S
 |asg (g:Tg) (e:E)  | put (o i v:E)
 |expr (e:E)|ret (e:E)  | ifs (c:E) (t u:Ss)
 |for_ (g:Tg) (it:Itr) (b:Ss)     | stop
 |xexpr (f:Nat) (as:Es)|nloop (u x f i:Nat) (a:E)|raise (c:Nat)|tryK (b:S) (e i m:Nat) (ks:List Nat)  | xret (f:Nat) (as:Es)|xrn (o:COp) (f:Nat) (as:Es)
inductive Ss|nil|cons(s:S)(r:Ss)
end
noncomputable def Es.snoc:Es->E->Es
 | .nil,e=>.cons e .nil
 | .cons a as,e=>.cons a (Es.snoc as e)
inductive Ob|dct(kvs:List (Int×V))|exn(c:Str)
 deriving DecidableEq
inductive O|lst(fz:Bool)(xs:List V)|tup(xs:List V)|ob(o:Ob)
 deriving DecidableEq
noncomputable abbrev AH:=List O
noncomputable abbrev St:=List (Option V)
inductive Res(α:Type)|ok(a:α)|exc(c:Nat)(h:AH)|stuck
noncomputable def Res.bind{α β:Type}:Res α->(α->Res β)->Res β
 | .ok a,f=>f a
 | .exc c h,_=>.exc c h
 | .stuck,_=>.stuck
noncomputable def Res.nx{α:Type}:Res α->Res α
 | .ok a=>.ok a
 | .exc _ _=>.stuck
 | .stuck=>.stuck
noncomputable def ZP(c k:Nat):Bool:=k==c||k==0||k==999
@[simp] theorem Res.bind_ok{α β:Type}(a:α)(f:α->Res β):(Res.ok a).bind f=f a:=rfl
noncomputable abbrev RV:=Res (V×AH)
noncomputable def items(h:AH)(a:Nat):Option (List V):=match h[a]? with
 |some (.lst _ xs)=>some xs
 |some (.tup xs)=>some xs
 |_=>none
noncomputable def qM(h:AH)(a:Nat):Option (List V):=match h[a]? with
 |some (.lst _ xs)=>some xs
 |_=>none
noncomputable def qc(h:AH)(a:Nat):Option (List V):=match h[a]? with
 |some (.tup xs)=>some xs
 |_=>none
noncomputable def Qc(h:AH)(a:Nat):Option (List (Int×V)):=match h[a]? with
 |some (.ob (.dct kvs))=>some kvs
 |_=>none
noncomputable def ZK(kvs:List (Int×V))(k:Int):Bool:=kvs.any λp=>decide (p.1=k)
noncomputable def jv(kvs:List (Int×V))(k:Int)(v:V):List (Int×V):=if ZK kvs k=true then kvs.map (λp=>if p.1=k then (p.1,v) else p) else kvs++[(k,v)]
noncomputable def qDa(h:AH)(a:Nat):Option Str:=match h[a]? with
 |some (.ob (.exn c))=>some c
 |_=>none
noncomputable def qHe(c k:Str):Bool:=decide (k=c)||decide (k="HealError")||decide (k="ValueError")
noncomputable def qt(h:AH)(a:Nat):Option (List V):=match h[a]? with
 |some (.lst false xs)=>some xs
 |_=>none
noncomputable def lim:Nat:=100000
noncomputable def newL(xs:List V)(h:AH):RV:=.ok (.ref h.length,h++[.lst false xs])
noncomputable def newT(xs:List V)(h:AH):RV:=.ok (.ref h.length,h++[.tup xs])
noncomputable def flat:V->Bool
 | .non=>true | .bl _=>true | .int _=>true | .str _=>true|_=>false
noncomputable def eqF:V->V->Option Bool
 | .int i,.int j=>some (i==j)
 | .bl i,.bl j=>some (i==j)
 | .str i,.str j=>some (i==j)
 | .non,.non=>some true
 | .int i,.bl b=>some (i==(if b then 1 else 0))
 | .bl b,.int i=>some ((if b then 1 else 0)==i)
 | .non,.int _=>some false | .int _,.non=>some false
 | .non,.bl _=>some false | .bl _,.non=>some false
 | .non,.str _=>some false | .str _,.non=>some false
 | .int _,.str _=>some false | .str _,.int _=>some false
 | .bl _,.str _=>some false | .str _,.bl _=>some false
 |_,_=>none
noncomputable def ZO(f:V->V->Option Bool):List V->List V->Option (List Bool)
 | [],[]=>some []
 |x::xs,y::ys=>match f x y,ZO f xs ys with
  |some b,some bs=>some (b::bs)
  |_,_=>none
 |_,_=>none
noncomputable def eqD(h:AH):Nat->V->V->Option Bool
 | 0,x,y=>eqF x y
 |n+1,.ref a,.ref b=>match h[a]?,h[b]? with
  |some (.lst _ xs),some (.lst _ ys)=>if a=b then some true else if xs.length=ys.length then (ZO (eqD h n) xs ys).map λbs=>bs.all id else some false
  |some (.tup xs),some (.tup ys)=>if a=b then some true else if xs.length=ys.length then (ZO (eqD h n) xs ys).map λbs=>bs.all id else (ZO (eqD h n) (xs.take ys.length) (ys.take xs.length)).map λ_=>false
  |some (.lst _ _),some (.tup _)=>some false
  |some (.tup _),some (.lst _ _)=>some false
  |_,_=>none
 |_+1,.ref a,y=>if (items h a).isSome&&flat y then some false else none
 |_+1,x,.ref b=>if flat x&&(items h b).isSome then some false else none
 |_+1,x,y=>eqF x y
noncomputable abbrev ixN(n:Nat)(i:Int):Option Nat:=L2.ixN n i
noncomputable abbrev cut(xs:List V)(lo hi:Option Int):List V:=L2.cutV xs lo hi
noncomputable def two64:Int:=18446744073709551616
noncomputable def QZ(i:Int):Bool:=decide (-two64<i/\i<two64)
noncomputable def mid(i:Int):Bool:=decide (i.natAbs.log2<9000)
noncomputable def J4(x y:V)(f:Int->Int->RV):RV:=match x with
 | .int i=>(match y with | .int j=>f i j|_=>.stuck)
 |_=>.stuck
theorem zK{x y:V}{f:Int->Int->RV}{r:V×AH}(e:J4 x y f=.ok r):∃i j,x=.int i/\y=.int j/\f i j=.ok r:=by
 unfold J4 at e;split at e
 ·split at e
  ·exact⟨_,_,rfl,rfl,e⟩
  ·cases e
 ·cases e
noncomputable def T6(x:V)(f:Nat->RV):RV:=match x with
 | .ref a=>f a
 |_=>.stuck
theorem ze{x:V}{f:Nat->RV}{r:V×AH}(e:T6 x f=.ok r):∃a,x=.ref a/\f a=.ok r:=by
 unfold T6 at e;split at e
 ·exact⟨_,rfl,e⟩
 ·cases e
noncomputable def qCw:BOp->V->V->AH->RV
 | .add,x,y,h=>(match x with
  | .ref a=>T6 y λb=>(match qt h a,qt h b with
   |some xs,some ys=>if xs.length+ys.length<=lim then newL (xs++ys) h else .stuck
   |_,_=>(match qc h a,qc h b with
    |some xs,some ys=>if xs≠[]/\xs.length+ys.length<=lim then (if ys=[] then .ok (.ref a,h) else newT (xs++ys) h) else .stuck
    |_,_=>.stuck))
  |x=>J4 x y λi j=>.ok (.int (i+j),h))
 | .sub,x,y,h=>J4 x y λi j=>.ok (.int (i-j),h)
 | .mul,x,y,h=>(match x with
  | .ref a=>(match y with
   | .int k=>(match qt h a with
    |some xs=>if 0<=k/\xs.length*k.toNat<=lim/\k<1000000 then newL (List.replicate k.toNat xs).flatten h else .stuck
    |none=>.stuck)
   |_=>.stuck)
  |x=>J4 x y λi j=>if QZ i||QZ j||(mid i&&mid j) then .ok (.int (i*j),h) else .stuck)
 | .fdiv,x,y,h=>J4 x y λi j=>if 0<j/\(j<1073741824\/mid j=true) then .ok (.int (i / j),h) else if j<0/\mid j=true then .ok (.int (i.fdiv j),h) else .stuck
 | .mod,x,y,h=>J4 x y λi j=>if 0<j then .ok (.int (i % j),h) else if j<0 then .ok (.int (i.fmod j),h) else .stuck
 | .pow,x,y,h=>J4 x y λi j=>if 0<=j/\j<=1000/\i.natAbs<18446744073709551616 then .ok (.int (i ^ j.toNat),h) else .stuck
 | .band,x,y,h=>J4 x y λi j=>.ok (.int (PySem.Builtin.bitAnd i j),h)
 | .shl,x,y,h=>J4 x y λi j=>if 0<=j/\j<=1000/\i.natAbs<18446744073709551616 then .ok (.int (i*2 ^ j.toNat),h) else .stuck
noncomputable def qDE(x y:V)(f:Int->Int->Bool):Option Bool:=match x with
 | .int i=>(match y with | .int j=>some (f i j)|_=>none)
 |_=>none
theorem Qe{x y:V}{f:Int->Int->Bool}{r:Bool}(e:qDE x y f=some r):∃i j,x=.int i/\y=.int j/\f i j=r:=by
 unfold qDE at e;split at e
 ·split at e
  ·exact⟨_,_,rfl,rfl,Option.some.inj e⟩
  ·cases e
 ·cases e
noncomputable def qAB(y:V)(f:Nat->Option Bool):Option Bool:=match y with
 | .ref a=>f a
 |_=>none
theorem N0{y:V}{f:Nat->Option Bool}{r:Bool}(e:qAB y f=some r):∃a,y=.ref a/\f a=some r:=by
 unfold qAB at e;split at e
 ·exact⟨_,rfl,e⟩
 ·cases e
noncomputable def isC(x y:V)(f:Bool->Bool):Option Bool:=match y with
 | .non=>some (f (decide (x=.non)))
 | .bl d=>(match x with | .bl c=>some (f (c==d))|_=>none)
 |_=>none
theorem V5{x y:V}{f:Bool->Bool}{r:Bool}(e:isC x y f=some r):(y=.non/\f (decide (x=.non))=r)\/∃c d,x=.bl c/\y=.bl d/\f (c==d)=r:=by
 unfold isC at e;split at e
 ·exact .inl ⟨rfl,Option.some.inj e⟩
 ·split at e
  ·exact .inr ⟨_,_,rfl,rfl,Option.some.inj e⟩
  ·cases e
 ·cases e
noncomputable def O9:COp->V->V->AH->Option Bool
 | .lt,x,y,_=>qDE x y λi j=>decide (i<j)
 | .le,x,y,_=>qDE x y λi j=>decide (i<=j)
 | .gt,x,y,_=>qDE x y λi j=>decide (j<i)
 | .ge,x,y,_=>qDE x y λi j=>decide (j<=i)
 | .eq,x,y,h=>eqD h 4 x y
 | .ne,x,y,h=>(eqD h 4 x y).map (!·)
 | .inn,x,y,h=>qAB y λa=>(match items h a with
  |some xs=>if flat x&&xs.all flat then some (xs.any λy=>L2.eqV y x) else none
  |none=>match Qc h a with
   |some kvs=>(match x with | .int i=>some (ZK kvs i)|_=>none)
   |none=>none)
 | .notin,x,y,h=>qAB y λa=>(match items h a with
  |some xs=>if flat x&&xs.all flat then some (!(xs.any λy=>L2.eqV y x)) else none
  |none=>match Qc h a with
   |some kvs=>(match x with | .int i=>some (!ZK kvs i)|_=>none)
   |none=>none)
 | .is,x,y,_=>isC x y id
 | .isnot,x,y,_=>isC x y (!·)
noncomputable def N2(op:COp)(x y:V)(h:AH):RV:=match O9 op x y h with
 |some b=>.ok (.bl b,h)
 |none=>.stuck
noncomputable def jW:List V->Option (List Int)
 | []=>some []
 | .int i::r=>(jW r).map (i::·)
 |_::_=>none
noncomputable def jg:List V->Option (List Bool)
 | []=>some []
 | .bl b::r=>(jg r).map (b::·)
 |_::_=>none
noncomputable def jM:List V->Option (List Int)
 | []=>some []
 | .int i::r=>(jM r).map (i::·)
 | .bl b::r=>(jM r).map ((if b=true then 1 else 0)::·)
 |_::_=>none
noncomputable def jV(lo:Int)(n:Nat):List V:=(List.range n).map λ(i:Nat)=>V.int (lo+(i:Int))
noncomputable def ins(x:Int):List Int->List Int
 | []=>[x]
 |y::r=>if x<=y then x::y::r else y::ins x r
noncomputable def one(as:List V)(f:V->RV):RV:=match as with
 | [a]=>f a
 |_=>.stuck
theorem zy{as:List V}{f:V->RV}{r:V×AH}(e:one as f=.ok r):∃a,as=[a]/\f a=.ok r:=by
 unfold one at e;split at e
 ·exact⟨_,rfl,e⟩
 ·cases e
noncomputable def two(as:List V)(f:V->V->RV):RV:=match as with
 | [a,b]=>f a b
 |_=>.stuck
theorem two_inv{as:List V}{f:V->V->RV}{r:V×AH}(e:two as f=.ok r):∃a b,as=[a,b]/\f a b=.ok r:=by
 unfold two at e;split at e
 ·exact⟨_,_,rfl,e⟩
 ·cases e
noncomputable def qAg:V->Option PySem.PyData
 | .non=>some .none
 | .bl b=>some (.bool b)
 | .int i=>some (.int i)
 | .str x=>some (.str x)
 |_=>none
noncomputable def Q4(f:V->Option PySem.PyData):List V->Option (List PySem.PyData)
 | []=>some []
 |x::r=>(f x).bind λd=>(Q4 f r).map λds=>d::ds
noncomputable def dat(h:AH):Nat->V->Option PySem.PyData
 | 0,x=>qAg x
 |n+1,x=>match x with
  | .ref a=>(match h[a]? with
   |some (.lst _ xs)=>(Q4 (dat h n) xs).map .list
   |some (.tup xs)=>(Q4 (dat h n) xs).map .tuple
   |some (.ob (.dct []))=>some (.dict [])
   |_=>none)
  |y=>qAg y
noncomputable def P7(d:PySem.PyData):Option V:=if d.showable=true/\d.shown.length<=PySem.sizeLine then some (.str d.shown) else none
noncomputable def qGk(h:AH)(x:V):Option PySem.PyData:=dat h 5 x
noncomputable def qDT(h:AH)(x:V):RV:=match (qGk h x).bind P7 with
 |some v=>.ok (v,h)
 |none=>.stuck
noncomputable def qFO:BF->List V->AH->RV
 | .len,as,h=>one as λx=>T6 x λa=>(match items h a with|some xs=>.ok (.int xs.length,h)|none=>.stuck)
 | .sum,as,h=>one as λx=>T6 x λa=>(match qM h a with
  |some xs=>match jM xs with|some is=>.ok (.int is.sum,h)|none=>.stuck
  |none=>.stuck)
 | .all,as,h=>one as λx=>T6 x λa=>(match qM h a with
  |some xs=>match jg xs with|some bs=>.ok (.bl (bs.all id),h)|none=>.stuck
  |none=>.stuck)
 | .any,as,h=>one as λx=>T6 x λa=>(match qM h a with
  |some xs=>match jg xs with|some bs=>.ok (.bl (bs.any id),h)|none=>.stuck
  |none=>.stuck)
 | .max,as,h=>two as λx y=>J4 x y λi j=>.ok (.int (if j>i then j else i),h)
 | .min,as,h=>two as λx y=>J4 x y λi j=>.ok (.int (if j<i then j else i),h)
 | .list,as,h=>one as λx=>T6 x λa=>(match items h a with|some xs=>newL xs h|none=>.stuck)
 | .tuple,as,h=>one as λx=>T6 x λa=>(match h[a]? with|some (.lst _ xs)=>newT xs h|some (.tup _)=>.ok (.ref a,h)|_=>.stuck)
 | .bits,as,h=>one as λx=>(match x with | .int i=>.ok (.int ((PySem.Builtin.Int.intBits i:Nat):Int),h)|_=>.stuck)
 | .repr,as,h=>one as λx=>qDT h x
noncomputable def D3:Mt->Nat->List V->AH->RV
 | .popAt,p,[.int i],h=>match qt h p with
  |some xs=>if xs.length<=lim then (match ixN xs.length i with|some k=>(match xs[k]? with|some y=>.ok (y,h.set p (.lst false (xs.eraseIdx k)))|none=>.stuck)|none=>.stuck) else .stuck
  |none=>.stuck
 | .ins,p,[.int i,y],h=>match qt h p with
  |some xs=>if 0<=i/\i<=xs.length/\xs.length<lim then .ok (.non,h.set p (.lst false (xs.take i.toNat++y::xs.drop i.toNat))) else .stuck
  |none=>.stuck
 |_,_,_,_=>.stuck
noncomputable def zw(h:AH):V->Option String
 | .non=>some "NoneType"
 | .bl _=>some "bool"
 | .int _=>some "int"
 | .str _=>some "str"
 | .ref a=>match h[a]? with|some (.lst _ _)=>some "list" | some (.tup _)=>some "tuple" | some (.ob (.dct _))=>some "dict" | _=>none
 |_=>none
noncomputable def zE(t c:String):Bool:=t==c||(t=="bool"&&c=="int")
inductive Src|list(a:Nat)|tupl(a:Nat)|rng(lo:Int)(n:Nat)|zip(a b:Nat)|rvd(a n:Nat)
noncomputable def N7(h:AH):Src->Option Nat
 | .list a=>(qM h a).map List.length
 | .tupl a=>(qc h a).map List.length
 | .rng _ n=>some n
 | .zip a b=>match qM h a,qM h b with|some xs,some ys=>some (min xs.length ys.length)|_,_=>none
 | .rvd _ n=>some n
noncomputable def qy(h:AH)(i:Nat):Src->Option (V×AH)
 | .list a=>match qM h a with|some xs=>xs[i]?.map λx=>(x,h)|none=>none
 | .tupl a=>match qc h a with|some xs=>xs[i]?.map λx=>(x,h)|none=>none
 | .rng lo n=>if i<n then some (.int (lo+(i:Int)),h) else none
 | .zip a b=>match qM h a,qM h b with
  |some xs,some ys=>match xs[i]?,ys[i]? with|some x,some y=>some (.ref h.length,h++[.tup [x,y]])|_,_=>none
  |_,_=>none
 | .rvd a n=>if i<n then (match qM h a with|some xs=>xs[n-1-i]?.map λx=>(x,h)|none=>none) else none
noncomputable def jX(h:AH)(i:Nat):Src->Bool
 | .list a=>match qM h a with|some xs=>decide (xs.length<=i)|none=>false
 | .tupl a=>match qc h a with|some xs=>decide (xs.length<=i)|none=>false
 | .rng _ n=>decide (n<=i)
 | .zip a b=>match qM h a,qM h b with|some xs,some ys=>decide (xs.length<=i\/ys.length<=i)|_,_=>false
 | .rvd _ n=>decide (i=n)
noncomputable def G2(o:TU)(x:V):Option V:=match o with
 | .str=>(match x with | .int i=>if i.natAbs.log2<1920 then some (.str (PySem.Str.ofString (toString i))) else none|_=>none)
 | .int=>(match x with | .str y=>if y.length<=640 then (PySem.intText? y).map .int else none|_=>none)
 | .len=>(match x with | .str y=>if y.length<=1000 then some (.int y.length) else none|_=>none)
theorem Je{o:TU}{x v:V}(e:G2 o x=some v):flat x=true/\flat v=true:=by
 cases o with
 |str=>
  cases x with
  |int i=>unfold G2 at e;dsimp only at e;split at e<;>cases e;exact⟨rfl,rfl⟩
  |_=>cases e
 |int=>
  cases x with
  |str y=>
   unfold G2 at e;dsimp only at e;split at e
   ·obtain⟨n,_,rfl⟩:=Option.map_eq_some_iff.mp e;exact⟨rfl,rfl⟩
   ·cases e
  |_=>cases e
 |len=>
  cases x with
  |str y=>unfold G2 at e;dsimp only at e;split at e<;>cases e;exact⟨rfl,rfl⟩
  |_=>cases e
noncomputable def Zh:List V->Option (List Str)
 | []=>some []
 | .str y::r=>(Zh r).map (y::·)
 |_::_=>none
noncomputable def Za:List Nat->List V->St->Option St
 | [],[],σ=>some σ
 |i::is,x::xs,σ=>Za is xs (σ.set i (some x))
 |_,_,_=>none
noncomputable def store:Tg->V->St->AH->Option St
 | .name i,v,σ,_=>some (σ.set i (some v))
 | .tup is,.ref a,σ,h=>match qc h a with|some xs=>Za is xs σ | none=>none
 | .tup _,_,_,_=>none
noncomputable def Qv(s:Src)(g:Tg)(c:St->AH->Res (Bool×AH))(e:St->AH->RV)(D:Nat):Nat->Nat->List V->St->AH->RV
 | 0,i,_,_,h=>if jX h i s then .ok (.ref D,h) else .stuck
 |n+1,i,ys,σ,h=>match qy h i s with
  |some (x,h1)=>match store g x σ h1 with
   |some σ1=>(c σ1 h1).bind λ(b,h2)=>
    if b then (e σ1 h2).bind λ(y,h3)=>if h3[D]?=some (.lst false ys)/\ys.length<lim then Qv s g c e D n (i+1) (ys++[y]) σ1 (h3.set D (.lst false (ys++[y]))) else .stuck
    else if h2[D]?=some (.lst false ys) then Qv s g c e D n (i+1) ys σ1 h2 else .stuck
   |none=>.stuck
  |none=>.stuck
noncomputable def asB(r:RV):Res (Bool×AH):=r.bind λ(v,h)=>match v with | .bl b=>.ok (b,h)|_=>.stuck
section
variable (F:Nat->List V->AH->RV)
mutual
noncomputable def ev:E->St->AH->RV
 | .var i=>λσ h=>match σ[i]? with|some (some v)=>.ok (v,h)|_=>.stuck
 | .cst v=>λ_ h=>.ok (v,h)
 | .glob g=>λ_ h=>.ok (.ref g,h)
 | .bin op a b=>λσ h=>(ev a σ h).bind λ(x,h1)=>(ev b σ h1).bind λ(y,h2)=>qCw op x y h2
 | .neg a=>λσ h=>(ev a σ h).bind λ(x,h1)=>match x with | .int i=>.ok (.int (-i),h1)|_=>.stuck
 | .cmp op a b=>λσ h=>(ev a σ h).bind λ(x,h1)=>(ev b σ h1).bind λ(y,h2)=>N2 op x y h2
 | .cmp2 o1 o2 a b c=>λσ h=>(ev a σ h).bind λ(x,h1)=>(ev b σ h1).bind λ(y,h2)=>match O9 o1 x y h2 with
  |some true=>(ev c σ h2).bind λ(z,h3)=>N2 o2 y z h3
  |some false=>.ok (.bl false,h2)
  |none=>.stuck
 | .and a b=>λσ h=>(asB (ev a σ h)).bind λ(x,h1)=>if x then ev b σ h1 else .ok (.bl false,h1)
 | .or a b=>λσ h=>(asB (ev a σ h)).bind λ(x,h1)=>if x then .ok (.bl true,h1) else ev b σ h1
 | .not a=>λσ h=>(asB (ev a σ h)).bind λ(x,h1)=>.ok (.bl (!x),h1)
 | .ite c a b=>λσ h=>(asB (ev c σ h)).bind λ(x,h1)=>if x then ev a σ h1 else ev b σ h1
 | .call f as=>λσ h=>(evs as σ h).bind λ(xs,h1)=>(F f xs h1).nx
 | .blt f as=>λσ h=>(evs as σ h).bind λ(xs,h1)=>qFO f xs h1
 | .isi a ts=>λσ h=>(ev a σ h).bind λ(x,h1)=>match zw h1 x with|some t=>.ok (.bl (ts.any (zE t)),h1)|none=>.stuck
 | .idx a b=>λσ h=>(ev a σ h).bind λ(x,h1)=>(ev b σ h1).bind λ(y,h2)=>match x,y with
  | .ref p,.int i=>match items h2 p with
   |some xs=>match (ixN xs.length i).bind λj=>xs[j]? with|some v=>.ok (v,h2)|none=>.stuck
   |none=>.stuck
  |_,_=>.stuck
 | .sl a lo hi=>λσ h=>(ev a σ h).bind λ(x,h1)=>(evs lo σ h1).bind λ(l,h2)=>(evs hi σ h2).bind λ(u,h3)=>
  match x,jW l,jW u with
  | .ref p,some l,some u=>match qM h3 p with
   |some xs=>newL (cut xs l.head? u.head?) h3
   |none=>match qc h3 p with
    |some xs=>if HT.sIx xs.length 0 l.head?=0/\HT.sIx xs.length xs.length u.head?=xs.length then .stuck else newT (cut xs l.head? u.head?) h3
    |none=>.stuck
  |_,_,_=>.stuck
 | .lst as=>λσ h=>(evs as σ h).bind λ(xs,h1)=>if xs.length<=lim then newL xs h1 else .stuck
 | .tup as=>λσ h=>(evs as σ h).bind λ(xs,h1)=>if xs.length<=lim then newT xs h1 else .stuck
 | .comp it src g c e=>λσ h=>(evi it σ h).bind λ(s,h1)=>match N7 (h1++[.lst false []]) s with
  |some n=>Qv s g (evc c) (ev e) h1.length n 0 [] (L2.inner src σ) (h1++[.lst false []])
  |none=>.stuck
 | .app a b=>λσ h=>(ev a σ h).bind λ(x,h1)=>match x with
  | .ref p=>(match qM h1 p with
   |some _=>(ev b σ h1).bind λ(y,h2)=>match qt h2 p with
    |some xs=>if xs.length<lim then .ok (.non,h2.set p (.lst false (xs++[y]))) else .stuck
    |none=>.stuck
   |none=>.stuck)
  |_=>.stuck
 | .txu o a=>λσ h=>(ev a σ h).bind λ(x,h1)=>(match G2 o x with|some v=>.ok (v,h1)|none=>.stuck)
 | .join a=>λσ h=>(ev a σ h).bind λ(x,h1)=>T6 x λp=>(match qM h1 p with
  |some xs=>(match Zh xs with
   |some ys=>if ys.length<=1000/\(ys.all λy=>decide (y.length<=1000))=true then .ok (.str (PySem.Txt.join (PySem.Str.ofString "") ys),h1) else .stuck
   |none=>.stuck)
  |none=>.stuck)
 | .lrng a=>λσ h=>(ev a σ h).bind λ(x,h1)=>match x with | .int j=>if -1000000<=j/\j<=100000 then newL (jV 0 j.toNat) h1 else .stuck|_=>.stuck
 | .dnew=>λ_ h=>.ok (.ref h.length,h++[.ob (.dct [])])
 | .meth m a as=>λσ h=>(ev a σ h).bind λ(x,h1)=>match x with
  | .ref p=>(match qM h1 p with
   |some _=>(evs as σ h1).bind λ(ys,h2)=>D3 m p ys h2
   |none=>.stuck)
  |_=>.stuck
noncomputable def evs:Es->St->AH->Res (List V×AH)
 | .nil=>λ_ h=>.ok ([],h)
 | .cons a as=>λσ h=>(ev a σ h).bind λ(x,h1)=>(evs as σ h1).bind λ(xs,h2)=>.ok (x::xs,h2)
noncomputable def evc:Es->St->AH->Res (Bool×AH)
 | .nil=>λ_ h=>.ok (true,h)
 | .cons a _=>λσ h=>asB (ev a σ h)
noncomputable def evi:Itr->St->AH->Res (Src×AH)
 | .list a=>λσ h=>(ev a σ h).bind λ(x,h1)=>match x with | .ref p=>(match h1[p]? with|some (.lst _ _)=>.ok (.list p,h1)|some (.tup _)=>.ok (.tupl p,h1)|_=>.stuck)|_=>.stuck
 | .rng1 a=>λσ h=>(ev a σ h).bind λ(x,h1)=>match x with | .int j=>if -1000000<=j/\j<=1000000 then .ok (.rng 0 j.toNat,h1) else .stuck|_=>.stuck
 | .rng2 a b=>λσ h=>(ev a σ h).bind λ(x,h1)=>(ev b σ h1).bind λ(y,h2)=>match x,y with
  | .int i,.int j=>if (-1000000<=i/\i<=1000000)/\-1000000<=j/\j<=1000000 then .ok (.rng i (j-i).toNat,h2) else .stuck
  |_,_=>.stuck
 | .zip a b=>λσ h=>(ev a σ h).bind λ(x,h1)=>(ev b σ h1).bind λ(y,h2)=>match x,y with
  | .ref p,.ref q=>match qM h2 p,qM h2 q with|some _,some _=>.ok (.zip p q,h2)|_,_=>.stuck
  |_,_=>.stuck
 | .revd a=>λσ h=>(ev a σ h).bind λ(x,h1)=>match x with | .ref p=>(match qM h1 p with|some xs=>.ok (.rvd p xs.length,h1)|none=>.stuck)|_=>.stuck
end
inductive Out|nx(σ:St)|rt(v:V)|bk(σ:St)|ct(σ:St)
noncomputable abbrev RS:=Res (Out×AH)
noncomputable def A0(s:Src)(g:Tg)(b:St->AH->RS):Nat->Nat->St->AH->RS
 | 0,i,σ,h=>if jX h i s then .ok (.nx σ,h) else .stuck
 |n+1,i,σ,h=>match qy h i s with
  |some (x,h1)=>match store g x σ h1 with
   |some σ1=>(b σ1 h1).bind λ(o,h2)=>match o with
    | .nx σ2=>A0 s g b n (i+1) σ2 h2
    | .ct σ2=>A0 s g b n (i+1) σ2 h2
    | .bk σ2=>.ok (.nx σ2,h2)
    | .rt v=>.ok (.rt v,h2)
   |none=>.stuck
  |none=>.stuck
noncomputable def qHM(u x f i:Nat):E:=.or (.not (.call f (.cons (.var i) (.cons (.var x) .nil)))) (.or (.cmp .inn (.idx (.var x) (.cst (.int 0))) (.var u)) (.cmp .inn (.idx (.var x) (.cst (.int 1))) (.var u)))
noncomputable def qB3(F:Nat->List V->AH->RV)(u x:Nat)(k:Int)(σ:St)(h:AH):RS:=(ev F (.cst (.bl true)) σ h).bind λ(x1,h1)=>(ev F (.var u) σ h1).bind λ(p,h2)=>(ev F (.idx (.var x) (.cst (.int k))) σ h2).bind λ(k,h3)=>match p,k with
  | .ref a,.int k=>match qt h3 a with
   |some xs=>match ixN xs.length k with|some j=>.ok (.nx σ,h3.set a (.lst false (xs.set j x1)))|none=>.stuck
   |none=>match Qc h3 a with
    |some kvs=>if flat x1=true/\kvs.length<lim then .ok (.nx σ,h3.set a (.ob (.dct (jv kvs k x1)))) else .stuck
    |none=>.stuck
  |_,_=>.stuck
noncomputable def C8(r:RS)(k:St->AH->RS):RS:=r.bind λ(o,h1)=>match o with
  | .nx σ1=>k σ1 h1
  |o=>.ok (o,h1)
noncomputable def jb(F:Nat->List V->AH->RV)(u x f i:Nat)(σ:St)(h:AH):RS:=C8 ((asB (ev F (qHM u x f i) σ h)).bind λ(b,h1)=>if b then C8 ((ev F (.cst (.bl false)) σ h1).bind λ(y,h2)=>.ok (.rt y,h2)) (λσ h=>.ok (.nx σ,h)) else .ok (.nx σ,h1)) λσ h=>C8 (qB3 F u x 0 σ h) λσ h=>C8 (qB3 F u x 1 σ h) λσ h=>.ok (.nx σ,h)
mutual
noncomputable def ex:S->St->AH->RS
 | .asg g e=>λσ h=>(ev F e σ h).bind λ(x,h1)=>match store g x σ h1 with|some σ1=>.ok (.nx σ1,h1)|none=>.stuck
 | .put o i v=>λσ h=>(ev F v σ h).bind λ(x,h1)=>(ev F o σ h1).bind λ(p,h2)=>(ev F i σ h2).bind λ(k,h3)=>match p,k with
  | .ref a,.int k=>match qt h3 a with
   |some xs=>match ixN xs.length k with|some j=>.ok (.nx σ,h3.set a (.lst false (xs.set j x)))|none=>.stuck
   |none=>match Qc h3 a with
    |some kvs=>if flat x=true/\kvs.length<lim then .ok (.nx σ,h3.set a (.ob (.dct (jv kvs k x)))) else .stuck
    |none=>.stuck
  |_,_=>.stuck
 | .expr e=>λσ h=>(ev F e σ h).bind λ(_,h1)=>.ok (.nx σ,h1)
 | .ret e=>λσ h=>(ev F e σ h).bind λ(x,h1)=>.ok (.rt x,h1)
 | .ifs c t u=>λσ h=>(asB (ev F c σ h)).bind λ(x,h1)=>if x then exs t σ h1 else exs u σ h1
 | .for_ g it b=>λσ h=>(evi F it σ h).bind λ(s,h1)=>match N7 h1 s with
  |some n=>A0 s g (exs b) n 0 σ h1
  |none=>.stuck
 | .stop=>λ_ _=>.stuck
 | .xexpr f as=>λσ h=>(evs F as σ h).bind λ(xs,h1)=>(F f xs h1).bind λ(_,h2)=>.ok (.nx σ,h2)
 | .nloop u x f i a=>λσ h=>(evi F (.list a) (σ.set u (some (.ref h.length))) (h++[.ob (.dct [])])).bind λ(s,h1)=>match N7 h1 s with
  |some n=>A0 s (.name x) (jb F u x f i) n 0 (σ.set u (some (.ref h.length))) h1
  |none=>.stuck
 | .raise c=>λ_ h=>.exc c h
 | .tryK b e i m ks=>λσ h=>match ex b σ h with
  | .exc c h1=>if c<m then .ok (.nx ((σ.set i (some (.ref h1.length))).set e none),h1++[.lst false (ks.map λk=>.bl (ZP c k))]) else .stuck
  |r=>r
 | .xret f as=>λσ h=>(evs F as σ h).bind λ(xs,h1)=>(F f xs h1).bind λ(v,h2)=>.ok (.rt v,h2)
 | .xrn o f as=>λσ h=>(evs F as σ h).bind λ(xs,h1)=>(F f xs h1).bind λ(v,h2)=>(N2 o v .non h2).bind λ(b,h3)=>.ok (.rt b,h3)
noncomputable def exs:Ss->St->AH->RS
 | .nil=>λσ h=>.ok (.nx σ,h)
 | .cons s r=>λσ h=>(ex s σ h).bind λ(o,h1)=>match o with
  | .nx σ1=>exs r σ1 h1
  |o=>.ok (o,h1)
end
end
structure Fn where
 npar:Nat
 nslot:Nat
 body:Ss
noncomputable def Fk(tb:List Fn):Nat->Nat->List V->AH->RV
 | 0,_,_,_=>.stuck
 |k+1,f,vs,h=>match tb[f]? with
  |some d=>if vs.length=d.npar/\d.npar<=d.nslot then (exs (Fk tb k) d.body (vs.map some++List.replicate (d.nslot-d.npar) none) h).bind λ(o,h1)=>match o with
    | .nx _=>.ok (.non,h1)
    | .rt v=>.ok (v,h1)
    |_=>.stuck
   else .stuck
  |none=>.stuck
open PySem PySem.Spec PyProof.Rows
open L2 (Hp HO Cx PE PT PA PS PSs TE TT TA TS VK upd qG qF SqL SqT ZL)
def rv(φ:List Addr):V->V->Prop
 | .ref i,.ref a=>φ[i]?=some a
 | .non,.non=>True
 | .bl b,.bl c=>b=c
 | .int i,.int j=>i=j
 | .str x,.str y=>x=y
 |_,_=>False
abbrev rvs(φ:List Addr):List V->List V->Prop:=Paired (rv φ)
def ropt(φ:List Addr):Option V->Option V->Prop
 |some v,oc=>∃w,oc=some w/\rv φ v w
 |none,_=>True
abbrev rst(φ:List Addr):St->St->Prop:=Paired (ropt φ)
def Ext(φ φ':List Addr):Prop:=∃r,φ'=φ++r
theorem Ext.refl(φ:List Addr):Ext φ φ:=⟨[],by simp⟩
theorem Ext.trans{a b c:List Addr}(h:Ext a b)(g:Ext b c):Ext a c:=by
 obtain⟨r,rfl⟩:=h;obtain⟨q,rfl⟩:=g;exact⟨r++q,by simp⟩
theorem Ext.get{φ φ':List Addr}(x:Ext φ φ'){i:Nat}{a:Addr}(h:φ[i]?=some a):φ'[i]?=some a:=by
 obtain⟨r,rfl⟩:=x;rw[List.getElem?_append_left (List.getElem?_eq_some_iff.mp h).1];exact h
theorem rv.mono{φ φ':List Addr}(x:Ext φ φ'):∀{v w:V},rv φ v w->rv φ' v w
 | .ref i,.ref a,h=>x.get h
 | .non,.non,h=>h
 | .bl _,.bl _,h=>h
 | .int _,.int _,h=>h
 | .str _,.str _,h=>h
 | .byt _,_,h=>by cases h
 | .flt _,_,h=>by cases h
 | .ty _,_,h=>by cases h
theorem rvs.mono{φ φ':List Addr}(x:Ext φ φ'){vs ws:List V}(h:rvs φ vs ws):rvs φ' vs ws:=L2.Paired.mapP h λ_ _ r=>rv.mono x r
theorem ropt.mono{φ φ':List Addr}(x:Ext φ φ'):∀{v w:Option V},ropt φ v w->ropt φ' v w
 |some v,oc,h=>by obtain⟨w,e,r⟩:=h;exact⟨w,e,rv.mono x r⟩
 |none,_,_=>trivial
theorem rst.mono{φ φ':List Addr}(x:Ext φ φ'){σ τ:St}(h:rst φ σ τ):rst φ' σ τ:=L2.Paired.mapP h λ_ _ r=>ropt.mono x r
theorem qH{α β:Type}{R:α->β->Prop}:∀{xs:List α}{ys:List β}{i:Nat}{x:α},Paired R xs ys->xs[i]?=some x->∃y,ys[i]?=some y/\R x y
 |_,_,_,_,.nil,e=>by simp at e
 |_,_,0,_,.cons r _,e=>by simp at e;subst e;exact⟨_,rfl,r⟩
 |_,_,i+1,x,.cons _ t,e=>by
  obtain⟨u,h1,h2⟩:=qH (i:=i) (x:=x) t (by simpa using e);exact⟨u,by simpa using h1,h2⟩
theorem zI{α β:Type}{R:α->β->Prop}{x:α}{u:β}(r:R x u):∀{xs:List α}{us:List β}(i:Nat),Paired R xs us->Paired R (xs.set i x) (us.set i u)
 |_,_,_,.nil=>.nil
 |_,_,0,.cons _ t=>.cons r t
 |_,_,i+1,.cons q t=>.cons q (zI r i t)
theorem qU{α β:Type}{R:α->β->Prop}:∀{xs ys:List α}{us ws:List β},Paired R xs us->Paired R ys ws->Paired R (xs++ys) (us++ws)
 |_,_,_,_,.nil,s=>s
 |_,_,_,_,.cons r t,s=>.cons r (qU t s)
theorem zY{α β:Type}{R:α->β->Prop}:∀{xs:List α}{us:List β}(n:Nat),Paired R xs us->Paired R (xs.take n) (us.take n)
 |_,_,0,_=>.nil
 |_,_,_+1,.nil=>.nil
 |_,_,n+1,.cons r t=>.cons r (zY n t)
theorem jf{α β:Type}{R:α->β->Prop}:∀{xs:List α}{us:List β}(n:Nat),Paired R xs us->Paired R (xs.drop n) (us.drop n)
 |_,_,0,r=>r
 |_,_,_+1,.nil=>.nil
 |_,_,n+1,.cons _ t=>jf n t
theorem ZW{α β:Type}{R:α->β->Prop}{xs:List α}{us:List β}(h:Paired R xs us):∀k:Nat,Paired R (List.replicate k xs).flatten (List.replicate k us).flatten
 | 0=>.nil
 |k+1=>by
  rw[List.replicate_succ,List.replicate_succ,List.flatten_cons,List.flatten_cons];exact qU h (ZW h k)
noncomputable def kk(p:Int×V):L2.Key×V:=(.inl p.1,p.2)
noncomputable def O.mu:O->Bool
 | .lst false _=>true | .ob (.dct _)=>true|_=>false
def exP(a C:Addr):Heap->Prop:=λh=>∃o,h.get? a=some o/\o.cls=.ref C
def ro(K:PySem.W.Frag)(φ:List Addr)(H:Hp)(a:Addr):O->Prop
 | .lst false xs=>∃ys,H a=some (.lst ys)/\rvs φ xs ys
 | .lst true xs=>∃ys,((∃o,H a=some (.frz o (.lst ys)))\/SqL K (λ_=>none) a ys)/\rvs φ xs ys
 | .tup xs=>∃ys,SqT K H a ys/\rvs φ xs ys
 | .ob (.dct kvs)=>H a=some (.dK (kvs.map kk))
 | .ob (.exn x)=>∃C,PySem.W.nsIn K mainGlobals x=some (some (.ref C))/\H a=some (.ext (exP a C))
structure Rl(K:PySem.W.Frag)(G:List Addr)(φ:List Addr)(h:AH)(H:Hp):Prop where
 len:φ.length=h.length
 glob:Ext G φ
 obj:∀(i:Nat) o a,h[i]?=some o->φ[i]?=some a->ro K φ H a o
 inj:∀(i j:Nat) x y a,x.mu=true->y.mu=true->h[i]?=some x->h[j]?=some y->φ[i]?=some a->φ[j]?=some a->i=j
section
variable{K:PySem.W.Frag}{G φ φ':List Addr}{h:AH}{H H':Hp}{a b p:Addr}
theorem qAU{xs:List V}(s:ZL H H')(q:SqT K H a xs):SqT K H' a xs:=by
 rcases q with(h|⟨o,h⟩)|h
 ·exact .inl (.inl (s _ _ h))
 ·exact .inl (.inr ⟨o,s _ _ h⟩)
 ·exact .inr h
theorem qAH{xs:List V}(q:SqL K (λ_=>none) a xs):SqL K H a xs:=by
 rcases q with(h|⟨o,h⟩)|h
 ·cases h
 ·cases h
 ·exact .inr h
theorem JL{o:HO}(hp:H p=none):ZL H (upd H p o):=λb u e=>by rw[qF (L2.ne_of_none e hp)];exact e
theorem ro.keep{o:O}(x:Ext φ φ')(s:ZL H H')(r:ro K φ H a o):ro K φ' H' a o:=by
 match o,r with
 | .lst false xs,⟨ys,e,r⟩=>exact⟨ys,s _ _ e,rvs.mono x r⟩
 | .lst true xs,⟨ys,.inl ⟨o,e⟩,r⟩=>exact⟨ys,.inl ⟨o,s _ _ e⟩,rvs.mono x r⟩
 | .lst true xs,⟨ys,.inr e,r⟩=>exact⟨ys,.inr e,rvs.mono x r⟩
 | .tup xs,⟨ys,e,r⟩=>exact⟨ys,qAU s e,rvs.mono x r⟩
 | .ob (.dct _),e=>exact s _ _ e
 | .ob (.exn _),⟨C,e1,e2⟩=>exact⟨C,e1,s _ _ e2⟩
def Wr(w:HO):Prop:=(∃zs,w=.lst zs)\/∃ks,w=.dK ks
theorem ro.wr{o:O}(m:o.mu=true)(r:ro K φ H a o):∃w,H a=some w/\Wr w:=by
 match o,m,r with
 | .lst false xs,_,⟨ys,e,r⟩=>exact⟨_,e,.inl ⟨_,rfl⟩⟩
 | .ob (.dct _),_,e=>exact⟨_,e,.inr ⟨_,rfl⟩⟩
theorem Wr.ne{w v:HO}(h:Wr w)(e:H a=some v)(hb:H b=some w)(h1:∀zs,v≠.lst zs)(h2:∀ks,v≠.dK ks):a≠b:=λz=>by
 subst z;rw[e]at hb;cases hb;rcases h with⟨zs,rfl⟩|⟨ks,rfl⟩
 ·exact h1 _ rfl
 ·exact h2 _ rfl
theorem ro.other{o:O}{w w':HO}(hw:Wr w)(hb:H b=some w)(hne:o.mu=true->a≠b)(r:ro K φ H a o):ro K φ (upd H b w') a o:=by
 match o,r with
 | .lst false xs,⟨ys,e,r⟩=>exact⟨ys,by rw[qF (hne rfl)];exact e,r⟩
 | .lst true xs,⟨ys,.inl ⟨o,e⟩,r⟩=>exact⟨ys,.inl ⟨o,by rw[qF (hw.ne e hb (λ_ z=>by cases z) (λ_ z=>by cases z))];exact e⟩,r⟩
 | .lst true xs,⟨ys,.inr e,r⟩=>exact⟨ys,.inr e,r⟩
 | .tup xs,⟨ys,e,r⟩=>
  refine⟨ys,?_,r⟩;rcases e with(h|⟨o,h⟩)|h
  ·exact .inl (.inl (by rw[qF (hw.ne h hb (λ_ z=>by cases z) (λ_ z=>by cases z))];exact h))
  ·exact .inl (.inr ⟨o,by rw[qF (hw.ne h hb (λ_ z=>by cases z) (λ_ z=>by cases z))];exact h⟩)
  ·exact .inr h
 | .ob (.dct _),e=>exact(by show upd H b _ a=_;rw[qF (hne rfl)];exact e)
 | .ob (.exn _),⟨C,e1,e2⟩=>exact⟨C,e1,by rw[qF (hw.ne e2 hb (λ_ z=>by cases z) (λ_ z=>by cases z))];exact e2⟩
theorem Rl.at(R:Rl K G φ h H){i:Nat}{o:O}(e:h[i]?=some o):∃a,φ[i]?=some a/\ro K φ H a o:=by
 have hi:i<φ.length:=by rw[R.len];exact(List.getElem?_eq_some_iff.mp e).1
 exact⟨φ[i],wB hi,R.obj i o _ e (wB hi)⟩
theorem Rl.new(R:Rl K G φ h H)(hp:H p=none){o:O}{ob:HO}(n:ro K (φ++[p]) (upd H p ob) p o):Rl K G (φ++[p]) (h++[o]) (upd H p ob):=by
 have x:Ext φ (φ++[p]):=⟨[p],rfl⟩
 refine⟨by simp[R.len],R.glob.trans x,λi u a e1 e2=>?_,λi j xs ys a m1 m2 e1 e2 e3 e4=>?_⟩
 ·by_cases hi:i<h.length
  ·rw[List.getElem?_append_left hi]at e1;rw[List.getElem?_append_left (by rw[R.len];exact hi)]at e2;exact(R.obj i u a e1 e2).keep x (JL hp)
  ·have hi':i=h.length:=by
    have:=(List.getElem?_eq_some_iff.mp e1).1;simp at this;omega
   subst hi';simp at e1;rw[<-R.len]at e2;simp at e2;subst e1 e2;exact n
 ·have lt:∀{k:Nat}{z:O},(h++[o])[k]?=some z->(h[k]?=some z/\k<h.length)\/k=h.length:=λ{k zs} e=>by
   by_cases hk:k<h.length
   ·rw[List.getElem?_append_left hk]at e;exact .inl ⟨e,hk⟩
   ·have:=(List.getElem?_eq_some_iff.mp e).1;simp at this;exact .inr (by omega)
  have old:∀{k:Nat}{b:Addr},k<h.length->(φ++[p])[k]?=some b->φ[k]?=some b:=λ{k b} hk e=>by
   rwa [List.getElem?_append_left (by rw[R.len];exact hk)]at e
  have newA:∀{b:Addr},(φ++[p])[h.length]?=some b->b=p:=λ{b} e=>by
   rw[<-R.len]at e;simp at e;exact e.symm
  rcases lt e1 with⟨e1,h1⟩|rfl<;>rcases lt e2 with⟨e2,h2⟩|rfl
  ·exact R.inj i j xs ys a m1 m2 e1 e2 (old h1 e3) (old h2 e4)
  ·have ea:=newA e4;subst ea;obtain⟨w,hz,_⟩:=(R.obj i _ a e1 (old h1 e3)).wr m1;rw[hp]at hz;cases hz
  ·have ea:=newA e3;subst ea;obtain⟨w,hz,_⟩:=(R.obj j _ a e2 (old h2 e4)).wr m2;rw[hp]at hz;cases hz
  ·rfl
theorem Rl.more(R:Rl K G φ h H)(hp:H p=none){ob:HO}:Rl K G φ h (upd H p ob):=
 ⟨R.len,R.glob,λi u a e1 e2=>(R.obj i u a e1 e2).keep (Ext.refl _) (JL hp),R.inj⟩
theorem Rl.exn(R:Rl K G φ h H){i:Nat}{x:Str}(e:qDa h i=some x):∃a C,φ[i]?=some a/\PySem.W.nsIn K mainGlobals x=some (some (.ref C))/\H a=some (.ext (exP a C)):=by
 unfold qDa at e;split at e
 ·rename_i c q;cases e;obtain⟨a,ea,C,r1,r2⟩:=R.at q;exact⟨a,C,ea,r1,r2⟩
 ·cases e
theorem Rl.newL(R:Rl K G φ h H)(hp:H p=none){xs ys:List V}(r:rvs φ xs ys):Rl K G (φ++[p]) (h++[.lst false xs]) (upd H p (.lst ys)):=
 R.new hp ⟨ys,qG,rvs.mono ⟨[p],rfl⟩ r⟩
theorem Rl.newT(R:Rl K G φ h H)(hp:H p=none){xs ys:List V}(r:rvs φ xs ys):Rl K G (φ++[p]) (h++[.tup xs]) (upd H p (.tup ys)):=
 R.new hp ⟨ys,.inl (.inl qG),rvs.mono ⟨[p],rfl⟩ r⟩
theorem Rl.lastRef(R:Rl K G φ h H):(φ++[p])[h.length]?=some p:=by rw[<-R.len];simp
theorem Rl.write(R:Rl K G φ h H){i:Nat}{x y:O}{w':HO}(mx:x.mu=true)(my:y.mu=true)(e:h[i]?=some x)(ea:φ[i]?=some a)(n:ro K φ (upd H a w') a y):Rl K G φ (h.set i y) (upd H a w'):=by
 have hi:=(List.getElem?_eq_some_iff.mp e).1;obtain⟨w,hw,ww⟩:=(R.obj i _ a e ea).wr mx;have lk:∀{k:Nat}{z:O},z.mu=true->(h.set i y)[k]?=some z->∃z',z'.mu=true/\h[k]?=some z':=λ{k zs} m q=>by
  by_cases hk:k=i
  ·subst hk;exact⟨x,mx,e⟩
  ·rw[List.getElem?_set_ne (Ne.symm hk)]at q;exact⟨zs,m,q⟩
 refine⟨by simp[R.len],R.glob,λk u b e1 e2=>?_,λk l us vs b m1 m2 e1 e2 e3 e4=>?_⟩
 ·by_cases hk:k=i
  ·subst hk;rw[List.getElem?_set_self hi]at e1;rw[ea]at e2;cases e1;cases e2;exact n
  ·rw[List.getElem?_set_ne (Ne.symm hk)]at e1;refine(R.obj k u b e1 e2).other ww hw λmu hb=>?_;subst hb;exact hk (R.inj k i u x b mu mx e1 e e2 ea)
 ·obtain⟨z1,n1,q1⟩:=lk m1 e1;obtain⟨z2,n2,q2⟩:=lk m2 e2;exact R.inj k l z1 z2 b n1 n2 q1 q2 e3 e4
theorem Rl.set(R:Rl K G φ h H){i:Nat}{xs ys zs:List V}(e:h[i]?=some (.lst false xs))(ea:φ[i]?=some a)(r:rvs φ ys zs):Rl K G φ (h.set i (.lst false ys)) (upd H a (.lst zs)):=
 R.write rfl rfl e ea ⟨zs,qG,r⟩
theorem Rl.dct(R:Rl K G φ h H){i:Nat}{kvs:List (Int×V)}(e:Qc h i=some kvs):∃a,φ[i]?=some a/\h[i]?=some (.ob (.dct kvs))/\H a=some (.dK (kvs.map kk)):=by
 unfold Qc at e;split at e
 ·rename_i zs q;cases e;obtain⟨a,ea,r⟩:=R.at q;exact⟨a,ea,q,r⟩
 ·cases e
theorem Rl.lst(R:Rl K G φ h H){i:Nat}{xs:List V}(e:qM h i=some xs):∃a ys,φ[i]?=some a/\SqL K H a ys/\rvs φ xs ys:=by
 unfold qM at e;split at e
 ·rename_i fz zs q;cases e;obtain⟨a,ea,r⟩:=R.at q;cases fz with
  |false=>obtain⟨ys,e,r⟩:=r;exact⟨a,ys,ea,.inl (.inl e),r⟩
  |true=>
   obtain⟨ys,e,r⟩:=r;rcases e with⟨o,e⟩|e
   ·exact⟨a,ys,ea,.inl (.inr ⟨o,e⟩),r⟩
   ·exact⟨a,ys,ea,qAH e,r⟩
 ·cases e
theorem Rl.tup(R:Rl K G φ h H){i:Nat}{xs:List V}(e:qc h i=some xs):∃a ys,φ[i]?=some a/\SqT K H a ys/\rvs φ xs ys:=by
 unfold qc at e;split at e
 ·rename_i zs q;cases e;obtain⟨a,ea,ys,e,r⟩:=R.at q;exact⟨a,ys,ea,e,r⟩
 ·cases e
theorem Rl.mut(R:Rl K G φ h H){i:Nat}{xs:List V}(e:qt h i=some xs):h[i]?=some (.lst false xs)/\∃a ys,φ[i]?=some a/\H a=some (.lst ys)/\rvs φ xs ys:=by
 unfold qt at e;split at e
 ·rename_i zs q;cases e;obtain⟨a,ea,ys,e,r⟩:=R.at q;exact⟨q,a,ys,ea,e,r⟩
 ·cases e
theorem Rl.its(R:Rl K G φ h H){i:Nat}{xs:List V}(e:items h i=some xs):∃a ys,φ[i]?=some a/\(SqL K H a ys\/SqT K H a ys)/\rvs φ xs ys:=by
 unfold items at e;split at e
 ·rename_i fz zs q;cases e;obtain⟨a,ys,h1,h2,h3⟩:=R.lst (i:=i) (xs:=xs) (by unfold qM;rw[q]);exact⟨a,ys,h1,.inl h2,h3⟩
 ·rename_i zs q;cases e;obtain⟨a,ys,h1,h2,h3⟩:=R.tup (i:=i) (xs:=xs) (by unfold qc;rw[q]);exact⟨a,ys,h1,.inr h2,h3⟩
 ·cases e
end
open L2 (PG Inv RelV Vals EP TP AP SP OpR qq R2)
theorem Res.bind_inv{α β:Type}{r:Res α}{f:α->Res β}{x:β}(h:r.bind f=.ok x):∃a,r=.ok a/\f a=.ok x:=by
 cases r with
 |ok a=>exact⟨a,rfl,h⟩
 |exc c h'=>cases h
 |stuck=>cases h
theorem qC{φ:List Addr}{i:Int}{w:V}(h:rv φ (.int i) w):w=.int i:=by
 cases w with
 |int j=>exact congrArg V.int (show i=j from h).symm
 |_=>exact False.elim h
theorem zV{φ:List Addr}{i:Bool}{w:V}(h:rv φ (.bl i) w):w=.bl i:=by
 cases w with
 |bl j=>exact congrArg V.bl (show i=j from h).symm
 |_=>exact False.elim h
theorem zR{φ:List Addr}{i:Str}{w:V}(h:rv φ (.str i) w):w=.str i:=by
 cases w with
 |str j=>exact congrArg V.str (show i=j from h).symm
 |_=>exact False.elim h
theorem zB{φ:List Addr}{w:V}(h:rv φ .non w):w=.non:=by
 cases w with
 |non=>rfl
 |_=>exact False.elim h
theorem qK{φ:List Addr}{i:Nat}{w:V}(h:rv φ (.ref i) w):∃a,w=.ref a/\φ[i]?=some a:=by
 cases w with
 |ref j=>exact⟨j,rfl,h⟩
 |_=>exact False.elim h
section
variable (K:PySem.W.Frag)(G:List Addr)(F:Nat->List V->AH->RV)
noncomputable def tE(e:E):TE:=λσc H Q=>∃φ h σ v h',Rl K G φ h H/\rst φ σ σc/\ev F e σ h=.ok (v,h')/\∀φ' H' w,Ext φ φ'->Rl K G φ' h' H'->rv φ' v w->Q w H'
noncomputable def tB(r:St->AH->Res (Bool×AH)):TT:=λσc H Q=>∃φ h σ b h',Rl K G φ h H/\rst φ σ σc/\r σ h=.ok (b,h')/\∀φ' H',Ext φ φ'->Rl K G φ' h' H'->Q b H'
noncomputable abbrev tT(e:E):TT:=tB K G (λσ h=>asB (ev F e σ h))
noncomputable def tL(as:Es):TA:=λσc H Q=>∃φ h σ vs h',Rl K G φ h H/\rst φ σ σc/\evs F as σ h=.ok (vs,h')/\∀φ' H' ws,Ext φ φ'->Rl K G φ' h' H'->rvs φ' vs ws->Q ws H'
end
section
variable{X:Cx}{G:List Addr}{F:Nat->List V->AH->RV}
theorem qp{e:Expr}{t t':TE}(h:PE X e t)(w:∀σ H Q,t' σ H Q->t σ H Q):PE X e t':=λpins s σ H Q I q=>h pins s σ H Q I (w σ H Q q)
theorem qAJ{e:Expr}{t t':TT}(h:PT X e t)(w:∀σ H Q,t' σ H Q->t σ H Q):PT X e t':=λpins s σ H Q I q=>h pins s σ H Q I (w σ H Q q)
theorem qAX{e:List Expr}{t t':TA}(h:PA X e t)(w:∀σ H Q,t' σ H Q->t σ H Q):PA X e t':=λpos pins s σ H Q I q=>h pos pins s σ H Q I (w σ H Q q)
variable (X G F) in
abbrev SE(e:Expr)(a:E):Prop:=PE X e (tE X.K G F a)
variable (X G F) in
abbrev ST(e:Expr)(a:E):Prop:=PT X e (tT X.K G F a)
variable (X G F) in
abbrev SA(es:List Expr)(as:Es):Prop:=PA X es (tL X.K G F as)
variable{K:PySem.W.Frag}{φ φ':List Addr}{h h1 h2:AH}{H:Hp}{σ σc:St}{a b:E}{x y:V}
theorem QJ(R:Rl K G φ h H)(rs:rst φ σ σc)(ea:ev F a σ h=.ok (x,h1))(eb:ev F b σ h1=.ok (y,h2)){Rr:V->V->Hp->Prop}
  (k:∀φ2 H2 xc yc,Ext φ φ2->Rl K G φ2 h2 H2->rv φ2 x xc->rv φ2 y yc->Rr xc yc H2):tE K G F a σc H (λxc H1=>tE K G F b σc H1 (λyc H2=>Rr xc yc H2)):=
 ⟨φ,h,σ,x,h1,R,rs,ea,λφ1 H1 xc e1 R1 r1=>⟨φ1,h1,σ,y,h2,R1,rst.mono e1 rs,eb,λφ2 H2 yc e2 R2 r2=>k φ2 H2 xc yc (e1.trans e2) R2 (rv.mono e2 r1) r2⟩⟩
theorem qDO{i:Nat}{n:Str}{pos:Pos}(hN:X.N[i]?=some n)(hv:L2.Vis X.env.scope n)(hd:(n==("__debug__":Str))=false)(hcd:(n==("__classdict__":Str))=false):SE X G F (.Name n pos) (.var i):=by
 refine qp (L2.pe_var hN hv hd hcd) λσc H Q q=>?_;obtain⟨φ,h,σ,v,h',R,rs,e,k⟩:=q;unfold ev at e;split at e
 ·rename_i w q;cases e;obtain⟨oc,ec,r⟩:=qH rs q;obtain⟨u,rfl,r⟩:=r;exact⟨u,ec,k φ H u (.refl _) R r⟩
 ·cases e
theorem j7{v:V}{w:V}{σc:St}{H:Hp}{Q:VK}(hr:∀φ,rv φ v w)(q:tE K G F (.cst v) σc H Q):L2.tC w σc H Q:=by
 obtain⟨φ,h,σ,v',h',R,rs,e,k⟩:=q;unfold ev at e;cases e;exact k φ H w (.refl _) R (hr φ)
theorem qBI {i j pos}:SE X G F (.Constant (.int i) j pos) (.cst (.int i)):=qp L2.pe_int λ_ _ _=>j7 λ_=>rfl
theorem qFJ {i j pos}:SE X G F (.Constant (.bool i) j pos) (.cst (.bl i)):=qp L2.pe_bl λ_ _ _=>j7 λ_=>rfl
theorem V6 {j pos}:SE X G F (.Constant .none j pos) (.cst .non):=qp L2.pe_non λ_ _ _=>j7 λ_=>trivial
theorem qBF {i j pos}:SE X G F (.Constant (.str i) j pos) (.cst (.str i)):=qp L2.pe_str λ_ _ _=>j7 λ_=>rfl
theorem qCz{n:Str}{v:V}{u:Value}{pos:Pos}(hg:L2.Gl X n)(hm:X.mg n=some u)(r:RelV v u)(hv:∀φ,rv φ v v)(hd:(n==("__debug__":Str))=false):SE X G F (.Name n pos) (.cst v):=
 qp (L2.pe_glob hg hm r hd) λ_ _ _=>j7 hv
theorem qBZ{n:Str}{g:Nat}{a:Addr}{pos:Pos}(hg:L2.Gl X n)(hm:X.mg n=some (.ref a))(hG:G[g]?=some a)(hd:(n==("__debug__":Str))=false):SE X G F (.Name n pos) (.glob g):=by
 refine qp (L2.pe_glob (v:=.ref a) hg hm rfl hd) λσc H Q q=>?_;obtain⟨φ,h,σ,v',h',R,rs,e,k⟩:=q;unfold ev at e;cases e;exact k φ H (.ref a) (.refl _) R (R.glob.get hG)
noncomputable def opB:BOp->Operator
 | .add=>.Add | .sub=>.Sub | .mul=>.Mult | .fdiv=>.FloorDiv | .mod=>.Mod | .pow=>.Pow | .band=>.BitAnd | .shl=>.LShift
def qHX(i j:Int):Prop:=j≠0/\j.natAbs.log2<9000
theorem qAZ:OpR X (binaryOp .FloorDiv) (L2.rI qHX λi j=>.int (i.fdiv j)):=L2.opI λ_ _ _ _ _ _ _ hc q=>floordiv_int hc.1 q (.inl (PyProof.noPylong_of_log2 hc.2))
def qH7(i j:Int):Prop:=i.natAbs.log2<9000/\j.natAbs.log2<9000
theorem L0{i:Int}(h:i.natAbs.log2<9000):Builtin.Int.intBits i<=2 ^ 20:=by
 unfold Builtin.Int.intBits;have e:(2:Nat) ^ 20=1048576:=by decide
 rw[e];split<;>omega
theorem qB7:OpR X (binaryOp .Mult) (L2.rI qH7 λi j=>.int (i*j)):=L2.opI λ_ _ _ _ _ _ _ hc q=>mul_int q (IntMulOk.of_bits (L0 hc.1) (L0 hc.2))
theorem L1{i:Int}(h:mid i=true):i.natAbs.log2<9000:=vH h
noncomputable def qHz(K:PySem.W.Frag):BOp->R2
 | .add=>λx y H Q=>(L2.rI0 (λi j=>.int (i+j)) x y H Q\/L2.rCat x y H Q)\/L2.rCatT K x y H Q
 | .sub=>L2.rI0 λi j=>.int (i-j)
 | .mul=>λx y H Q=>(L2.rI L2.CMul (λi j=>.int (i*j)) x y H Q\/L2.rRep x y H Q)\/L2.rI qH7 (λi j=>.int (i*j)) x y H Q
 | .fdiv=>λx y H Q=>L2.rI L2.CDiv (λi j=>.int (i / j)) x y H Q\/L2.rI qHX (λi j=>.int (i.fdiv j)) x y H Q
 | .mod=>λx y H Q=>L2.rI (λ_ j=>0<j) (λi j=>.int (i % j)) x y H Q\/L2.rI (λ_ j=>j≠0) (λi j=>.int (i.fmod j)) x y H Q
 | .pow=>L2.rI L2.CPow λi j=>.int (i ^ j.toNat)
 | .band=>L2.rI0 λi j=>.int (Builtin.bitAnd i j)
 | .shl=>L2.rI L2.CPow λi j=>.int (i*2 ^ j.toNat)
theorem qCx:∀op,OpR X (binaryOp (opB op)) (qHz X.K op)
 | .add=>(L2.op_add.or L2.op_cat).or L2.op_catT
 | .sub=>L2.op_sub
 | .mul=>(L2.op_mul.or L2.op_rep).or qB7
 | .fdiv=>L2.op_fdiv.or qAZ
 | .mod=>L2.op_mod.or L2.op_modN
 | .pow=>L2.op_pow
 | .band=>L2.op_and
 | .shl=>L2.op_shl
theorem QO:lim<=sizeLine:=by decide
theorem qBB:lim<sizeLine:=by decide
theorem O3{i:Int}(h:QZ i=true):-(2 ^ 64)<i/\i<2 ^ 64:=by
 unfold QZ two64 at h;have:=vH h;omega
theorem qB6{op:BOp}{v xc yc:V}{h':AH}{Q:VK}(e:qCw op x y h=.ok (v,h'))(R:Rl K G φ h H)(rx:rv φ x xc)(ry:rv φ y yc)
  (k:∀φ' H' w,Ext φ φ'->Rl K G φ' h' H'->rv φ' v w->Q w H'):qHz K op xc yc H Q:=by
 cases op with
 |add=>
  dsimp only[qCw]at e;split at e
  ·replace e:=ze e;obtain⟨b,rfl,e⟩:=e;split at e
   ·rename_i xs ys e1 e2;split at e
    ·rename_i hl;cases e;obtain⟨q1,a1,ys1,ha1,hH1,r1⟩:=R.mut e1;obtain⟨q2,a2,ys2,ha2,hH2,r2⟩:=R.mut e2;obtain⟨b1,rfl,hb1⟩:=qK rx;obtain⟨b2,rfl,hb2⟩:=qK ry;rw[ha1]at hb1;cases hb1;rw[ha2]at hb2;cases hb2;refine .inl (.inr ⟨a1,a2,ys1,ys2,rfl,rfl,hH1,hH2,?_,λp hp=>k (φ++[p]) _ _ ⟨[p],rfl⟩ (R.newL hp (qU r1 r2)) R.lastRef⟩);have l1:=Paired.length r1;have l2:=Paired.length r2;have:=QO;omega
    ·cases e
   ·split at e
    ·rename_i xs ys e1 e2;split at e
     ·rename_i hl;obtain⟨a1,ys1,ha1,hH1,r1⟩:=R.tup e1;obtain⟨a2,ys2,ha2,hH2,r2⟩:=R.tup e2;obtain⟨b1,rfl,hb1⟩:=qK rx;obtain⟨b2,rfl,hb2⟩:=qK ry;rw[ha1]at hb1;cases hb1;rw[ha2]at hb2;cases hb2;have l1:=Paired.length r1;have l2:=Paired.length r2;refine .inr ⟨a1,a2,ys1,ys2,rfl,rfl,hH1,hH2,?_,?_,λz=>?_,λz p hp=>?_⟩
      ·rintro rfl;exact hl.1 (List.length_eq_zero_iff.mp l1)
      ·have:=QO;omega
      ·subst z;rw[if_pos (List.length_eq_zero_iff.mp l2)]at e;cases e;exact k φ H _ (.refl _) R ha1
      ·rw[if_neg (λq=>z (by subst q;exact List.length_eq_zero_iff.mp l2.symm))]at e;cases e;exact k (φ++[p]) _ _ ⟨[p],rfl⟩ (R.newT hp (qU r1 r2)) R.lastRef
     ·cases e
    ·cases e
  ·replace e:=zK e;obtain⟨i,j,rfl,rfl,e⟩:=e;cases e;cases qC rx;cases qC ry;exact .inl (.inl ⟨_,_,rfl,rfl,k φ H _ (.refl _) R rfl⟩)
 |sub=>
  replace e:=zK e;obtain⟨i,j,rfl,rfl,e⟩:=e;cases e;cases qC rx;cases qC ry;exact⟨_,_,rfl,rfl,k φ H _ (.refl _) R rfl⟩
 |mul=>
  dsimp only[qCw]at e;split at e
  ·split at e
   ·split at e
    ·rename_i xs e1;split at e
     ·rename_i hl;obtain⟨h0,hl,h3⟩:=hl;cases e;obtain⟨q1,a1,ys1,ha1,hH1,r1⟩:=R.mut e1;obtain⟨b1,rfl,hb1⟩:=qK rx;rw[ha1]at hb1;cases hb1;cases qC ry;refine .inl (.inr ⟨a1,_,ys1,rfl,rfl,hH1,by omega,by omega,?_,λp hp=>k (φ++[p]) _ _ ⟨[p],rfl⟩ (R.newL hp (ZW r1 _)) R.lastRef⟩);have l1:=Paired.length r1;have:=QO;rw[<-l1];omega
     ·cases e
    ·cases e
   ·cases e
  ·replace e:=zK e;obtain⟨i,j,rfl,rfl,e⟩:=e;split at e
   ·rename_i hs;cases e;cases qC rx;cases qC ry;rw[wm,wm,Bool.and_eq_true]at hs;rcases hs with(z|z)|z
    ·exact .inl (.inl ⟨_,_,rfl,rfl,.inl (O3 z),k φ H _ (.refl _) R rfl⟩)
    ·exact .inl (.inl ⟨_,_,rfl,rfl,.inr (O3 z),k φ H _ (.refl _) R rfl⟩)
    ·exact .inr ⟨_,_,rfl,rfl,⟨L1 z.1,L1 z.2⟩,k φ H _ (.refl _) R rfl⟩
   ·cases e
 |fdiv=>
  replace e:=zK e;obtain⟨i,j,rfl,rfl,e⟩:=e;split at e
  ·rename_i hc;cases e;cases qC rx;cases qC ry;rcases hc.2 with z|z
   ·exact .inl ⟨_,_,rfl,rfl,⟨hc.1,z⟩,k φ H _ (.refl _) R rfl⟩
   ·refine .inr ⟨_,_,rfl,rfl,⟨by omega,L1 z⟩,?_⟩;dsimp only;rw[Int.fdiv_eq_ediv_of_nonneg _ (by omega)];exact k φ H _ (.refl _) R rfl
  ·split at e
   ·rename_i hc;cases e;cases qC rx;cases qC ry;exact .inr ⟨_,_,rfl,rfl,⟨by omega,L1 hc.2⟩,k φ H _ (.refl _) R rfl⟩
   ·cases e
 |mod=>
  replace e:=zK e;obtain⟨i,j,rfl,rfl,e⟩:=e;split at e
  ·rename_i hc;cases e;cases qC rx;cases qC ry;exact .inl ⟨_,_,rfl,rfl,hc,k φ H _ (.refl _) R rfl⟩
  ·split at e
   ·rename_i hc;cases e;cases qC rx;cases qC ry;exact .inr ⟨_,_,rfl,rfl,(by omega),k φ H _ (.refl _) R rfl⟩
   ·cases e
 |pow=>
  replace e:=zK e;obtain⟨i,j,rfl,rfl,e⟩:=e;split at e
  ·rename_i hc;cases e;cases qC rx;cases qC ry;refine⟨_,_,rfl,rfl,⟨hc.1,by omega,by omega⟩,k φ H _ (.refl _) R rfl⟩
  ·cases e
 |band=>
  replace e:=zK e;obtain⟨i,j,rfl,rfl,e⟩:=e;cases e;cases qC rx;cases qC ry;exact⟨_,_,rfl,rfl,k φ H _ (.refl _) R rfl⟩
 |shl=>
  replace e:=zK e;obtain⟨i,j,rfl,rfl,e⟩:=e;split at e
  ·rename_i hc;cases e;cases qC rx;cases qC ry;refine⟨_,_,rfl,rfl,⟨hc.1,by omega,by omega⟩,k φ H _ (.refl _) R rfl⟩
  ·cases e
theorem qA5{op:BOp}{ea eb:Expr}{pos:Pos}(ha:SE X G F ea a)(hb:SE X G F eb b):SE X G F (.BinOp ea (opB op) eb pos) (.bin op a b):=by
 refine qp (L2.pe_op (qCx op) ha hb) λσc H Q q=>?_;obtain⟨φ,h,σ,v,h',R,rs,e,k⟩:=q;unfold ev at e;obtain⟨⟨x,h1⟩,e1,e⟩:=Res.bind_inv e;obtain⟨⟨y,h2⟩,e2,e⟩:=Res.bind_inv e;exact QJ R rs e1 e2 λφ2 H2 xc yc x2 R2 r1 r2=>qB6 e R2 r1 r2 λφ' H' w x' R' r'=>k φ' H' w (x2.trans x') R' r'
theorem qDP{ea:Expr}{pos:Pos}(ha:SE X G F ea a):SE X G F (.UnaryOp .USub ea pos) (.neg a):=by
 refine qp (L2.pe_un L2.un_neg ha) λσc H Q q=>?_;obtain⟨φ,h,σ,v,h',R,rs,e,k⟩:=q;unfold ev at e;obtain⟨⟨x,h1⟩,e1,e⟩:=Res.bind_inv e;refine⟨φ,h,σ,x,h1,R,rs,e1,λφ1 H1 xc x1 R1 r1=>?_⟩;dsimp only at e;split at e
 ·cases e;cases qC r1;exact⟨_,rfl,k φ1 H1 _ x1 R1 rfl⟩
 ·cases e
end
open PySem.SeqAt
structure Eq3(A:Around)(s:Shared)(u w:Value)(b:Bool):Prop where
 eq:EqAt A s u w b
 rc:RcAt A s u w b
 ne:RcNeAt A s u w (!b)
theorem A6{A:Around}{s:Shared}{φ:List Addr}:∀{x y xc yc:V}{u w:Value}{b:Bool},eqF x y=some b->rv φ x xc->rv φ y yc->RelV xc u->RelV yc w->Eq3 A s u w b:=by
 intro x y xc yc u w b e rx ry ru rw';cases x with
 |non=>
  cases zB rx;cases ru;cases y with
  |non=>cases zB ry;cases rw';cases e;exact⟨.same _,.none_none,.none_none⟩
  |bl j=>cases zV ry;cases rw';cases e;exact⟨.none_bool _,.none_bool _,.none_bool _⟩
  |int j=>cases qC ry;obtain⟨t,rfl⟩:=rw';cases e;exact⟨.none_int _ _,.none_int _ _,.none_int _ _⟩
  |str j=>cases zR ry;obtain⟨t,rfl⟩:=rw';cases e;exact⟨.none_str _ _,.none_str _ _,.none_str _ _⟩
  |_=>cases e
 |bl i=>
  cases zV rx;cases ru;cases y with
  |non=>cases zB ry;cases rw';cases e;exact⟨.bool_none _,.bool_none _,.bool_none _⟩
  |bl j=>cases zV ry;cases rw';cases e;exact⟨.bool_bool _ _,.bool_bool _ _,.bool_bool _ _⟩
  |int j=>cases qC ry;obtain⟨t,rfl⟩:=rw';cases e;exact⟨.bool_int _ _ _,.bool_int _ _ _,.bool_int _ _ _⟩
  |str j=>cases zR ry;obtain⟨t,rfl⟩:=rw';cases e;exact⟨.bool_str _ _ _,.bool_str _ _ _,.bool_str _ _ _⟩
  |_=>cases e
 |int i=>
  cases qC rx;obtain⟨t,rfl⟩:=ru;cases y with
  |non=>cases zB ry;cases rw';cases e;exact⟨.int_none _ _,.int_none _ _,.int_none _ _⟩
  |bl j=>cases zV ry;cases rw';cases e;exact⟨.int_bool _ _ _,.int_bool _ _ _,.int_bool _ _ _⟩
  |int j=>cases qC ry;obtain⟨t,rfl⟩:=rw';cases e;exact⟨.int_int _ _ _ _,.int_int _ _ _ _,.int_int _ _ _ _⟩
  |str j=>cases zR ry;obtain⟨t,rfl⟩:=rw';cases e;exact⟨.int_str _ _ _ _,.int_str _ _ _ _,.int_str _ _ _ _⟩
  |_=>cases e
 |str i=>
  cases zR rx;obtain⟨t,rfl⟩:=ru;cases y with
  |non=>cases zB ry;cases rw';cases e;exact⟨.str_none _ _,.str_none _ _,.str_none _ _⟩
  |bl j=>cases zV ry;cases rw';cases e;exact⟨.str_bool _ _ _,.str_bool _ _ _,.str_bool _ _ _⟩
  |int j=>cases qC ry;obtain⟨t,rfl⟩:=rw';cases e;exact⟨.str_int _ _ _ _,.str_int _ _ _ _,.str_int _ _ _ _⟩
  |str j=>cases zR ry;obtain⟨t,rfl⟩:=rw';cases e;exact⟨.str_str _ _ _ _,.str_str _ _ _ _,.str_str _ _ _ _⟩
  |_=>cases e
 |_=>cases y<;>cases e
theorem O0{φ:List Addr}{x y w:V}{b:Bool}(e:eqF x y=some b)(rx:rv φ x w)(ry:rv φ y w):b=true:=by
 cases x with
 |non=>cases zB rx;cases y<;>first|exact False.elim ry|(cases e;rfl)|cases e
 |bl i=>cases zV rx;cases y<;>first|exact False.elim ry|(rename_i j;cases (show j=i from ry);cases e;simp)|cases e
 |int i=>cases qC rx;cases y<;>first|exact False.elim ry|(rename_i j;cases (show j=i from ry);cases e;simp)|cases e
 |str i=>cases zR rx;cases y<;>first|exact False.elim ry|(rename_i j;cases (show j=i from ry);cases e;simp)|cases e
 |_=>cases y<;>cases e
theorem ZG{f:V->V->Option Bool}:∀{xs ys:List V}{bs:List Bool},ZO f xs ys=some bs->bs.length=xs.length/\ys.length=xs.length/\∀(j:Nat) x y,xs[j]?=some x->ys[j]?=some y->∃b,bs[j]?=some b/\f x y=some b
 | [],[],bs,e=>by
  cases e;exact⟨rfl,rfl,λj x y h=>by simp at h⟩
 | [],_::_,_,e=>by cases e
 |_::_,[],_,e=>by cases e
 |x::xs,y::ys,bs,e=>by
  unfold ZO at e;split at e
  ·rename_i b bs' e1 e2;cases e;obtain⟨l1,l2,k⟩:=ZG e2;refine⟨by simp[l1],by simp[l2],λj u v h1 h2=>?_⟩;cases j with
   |zero=>simp at h1 h2;subst h1 h2;exact⟨b,rfl,e1⟩
   |succ j=>obtain⟨b',h3,h4⟩:=k j u v (by simpa using h1) (by simpa using h2);exact⟨b',by simpa using h3,h4⟩
  ·cases e
theorem A5(bs:List Bool):(List.range bs.length).all (λj=>bs.getD j true)=bs.all id:=by
 rw[wa];simp only[wH,vB,id];constructor
 ·intro h b hb;obtain⟨j,hj,rfl⟩:=List.mem_iff_getElem.mp hb;have:=h j hj;rw[wT,wB hj]at this;exact this
 ·intro h j hj;rw[wT,wB hj];exact h _ (List.getElem_mem hj)
section
variable{X:Cx}{G φ:List Addr}{h:AH}{H:Hp}{pins:List (Addr×Obj)}{σ:L2.St}{s:Shared}
theorem J9(I:Inv X pins σ H s)(R:Rl X.K G φ h H):∀(n:Nat){x y w:V}{b:Bool},eqD h n x y=some b->rv φ x w->rv φ y w->b=true
 | 0,x,y,w,b,e,rx,ry=>O0 e rx ry
 |n+1,x,y,w,b,e,rx,ry=>by
  have all:∀{xs ys zs:List V}{bs:List Bool},rvs φ xs zs->rvs φ ys zs->ZO (eqD h n) xs ys=some bs->bs.all id=true:=λ{xs ys zs bs} r1 r2 e=>by
   obtain⟨l1,l2,k⟩:=ZG e;rw[wH];intro b hb;obtain⟨j,hj,rfl⟩:=List.mem_iff_getElem.mp hb;have hx:j<xs.length:=by omega
   have hy:j<ys.length:=by omega
   obtain⟨b',hb',e'⟩:=k j _ _ (wB hx) (wB hy);rw[wB hj]at hb';cases hb';obtain⟨z,hz,q1⟩:=qH r1 (wB hx);obtain⟨z',hz',q2⟩:=qH r2 (wB hy);rw[hz]at hz';cases hz';exact J9 I R n e' q1 q2
  cases x with
  |ref a=>
   obtain⟨p,rfl,hp⟩:=qK rx;cases y with
   |ref c=>
    have hc:φ[c]?=some p:=ry;simp only[eqD]at e;split at e
    ·rename_i f1 xs f2 ys e1 e2;split at e
     ·cases e;rfl
     ·obtain⟨p1,z1,q1,s1,r1⟩:=R.lst (i:=a) (xs:=xs) (by unfold qM;rw[e1]);obtain⟨p2,z2,q2,s2,r2⟩:=R.lst (i:=c) (xs:=ys) (by unfold qM;rw[e2]);rw[hp]at q1;cases q1;rw[hc]at q2;cases q2;have:=I.list_inj s1 s2;subst this;split at e
      ·obtain⟨bs,e3,rfl⟩:=Option.map_eq_some_iff.mp e;exact all r1 r2 e3
      ·rename_i hne;exact absurd ((Paired.length r1).trans (Paired.length r2).symm) hne
    ·rename_i xs ys e1 e2;split at e
     ·cases e;rfl
     ·obtain⟨p1,z1,q1,s1,r1⟩:=R.tup (i:=a) (xs:=xs) (by unfold qc;rw[e1]);obtain⟨p2,z2,q2,s2,r2⟩:=R.tup (i:=c) (xs:=ys) (by unfold qc;rw[e2]);rw[hp]at q1;cases q1;rw[hc]at q2;cases q2;have:=I.tuple_inj s1 s2;subst this;split at e
      ·obtain⟨bs,e3,rfl⟩:=Option.map_eq_some_iff.mp e;exact all r1 r2 e3
      ·rename_i hne;exact absurd ((Paired.length r1).trans (Paired.length r2).symm) hne
    ·rename_i f1 xs ys e1 e2;obtain⟨p1,z1,q1,s1,r1⟩:=R.lst (i:=a) (xs:=xs) (by unfold qM;rw[e1]);obtain⟨p2,z2,q2,s2,r2⟩:=R.tup (i:=c) (xs:=ys) (by unfold qc;rw[e2]);rw[hp]at q1;cases q1;rw[hc]at q2;cases q2;obtain⟨i1,_,t1,_⟩:=I.list s1;obtain⟨i2,_,t2,_⟩:=I.tuple s2;exact absurd rfl (ne_of_list_tuple t1.isList t2)
    ·rename_i xs f1 ys e1 e2;obtain⟨p1,z1,q1,s1,r1⟩:=R.tup (i:=a) (xs:=xs) (by unfold qc;rw[e1]);obtain⟨p2,z2,q2,s2,r2⟩:=R.lst (i:=c) (xs:=ys) (by unfold qM;rw[e2]);rw[hp]at q1;cases q1;rw[hc]at q2;cases q2;obtain⟨i1,_,t1,_⟩:=I.tuple s1;obtain⟨i2,_,t2,_⟩:=I.list s2;exact absurd rfl (ne_of_list_tuple t2.isList t1)
    ·cases e
   |_=>exact False.elim ry
  |_=>
   cases y with
   |ref c=>
    obtain⟨p,rfl,hp⟩:=qK ry;exact False.elim rx
   |_=>exact O0 e rx ry
theorem g6(I:Inv X pins σ H s)(R:Rl X.K G φ h H):∀(n:Nat){A:Around}{x y xc yc:V}{u w:Value}{b:Bool},A.units+n<cLine->eqD h n x y=some b->rv φ x xc->rv φ y yc->RelV xc u->RelV yc w->Eq3 A s u w b
 | 0,A,x,y,xc,yc,u,w,b,hu,e,rx,ry,ru,rw'=>A6 e rx ry ru rw'
 |n+1,A,x,y,xc,yc,u,w,b,hu,e,rx,ry,ru,rw'=>by
  have hu0:A.units<cLine:=by omega
  have hu1:A.in1.units+n<cLine:=by show A.units+1+n<cLine;omega
  have item:∀{xs ys zs ts:List V}{us ws:List Value}{bs:List Bool},rvs φ xs zs->rvs φ ys ts->Vals zs us->Vals ts ws->ZO (eqD h n) xs ys=some bs->us.length=bs.length/\ws.length=bs.length/\
    ∀(j:Nat) (h1:j<us.toArray.size) (h2:j<ws.toArray.size),EqAt A.in1 s us.toArray[j] ws.toArray[j] (bs.getD j true):=λ{xs ys zs ts us ws bs} r1 r2 v1 v2 e=>by
   obtain⟨l1,l2,k⟩:=ZG e;have n1:=Paired.length r1;have n2:=Paired.length r2;have n3:=v1.length;have n4:=v2.length;refine⟨by omega,by omega,λj h1 h2=>?_⟩;have g1:j<us.length:=by simpa using h1
   have g2:j<ws.length:=by simpa using h2
   have hx:j<xs.length:=by omega
   have hy:j<ys.length:=by omega
   obtain⟨b',hb',e'⟩:=k j _ _ (wB hx) (wB hy);obtain⟨z,hz,q1⟩:=qH r1 (wB hx);obtain⟨t,ht,q2⟩:=qH r2 (wB hy);obtain⟨u',hu',q3⟩:=v1.get hz;obtain⟨w',hw',q4⟩:=v2.get ht;rw[wB g1]at hu';rw[wB g2]at hw';cases hu';cases hw';rw[wT,hb'];have:=(g6 I R n (A:=A.in1) hu1 e' q1 q2 q3 q4).eq;simpa using this
  have refs:∀{a:Nat}{p:Addr}{v:V}{b:Bool},φ[a]?=some p->(if (items h a).isSome&&flat v then some false else none)=some b->b=false/\∃its,s.heap.IsList p its\/s.heap.IsTuple p its:=λ{a p v b} hp e=>by
   cases ea:h[a]? with
   |none=>rw[show items h a=none from(by unfold items;rw[ea])]at e;cases e
   |some o=>
    have hb:b=false:=by
     split at e
     ·cases e;rfl
     ·cases e
    refine⟨hb,?_⟩;cases o with
    |lst f xs=>
     obtain⟨p1,z1,q1,s1,r1⟩:=R.lst (i:=a) (xs:=xs) (by unfold qM;rw[ea]);rw[hp]at q1;cases q1;obtain⟨i1,_,t1,_⟩:=I.list s1;exact⟨_,.inl t1.isList⟩
    |tup xs=>
     obtain⟨p1,z1,q1,s1,r1⟩:=R.tup (i:=a) (xs:=xs) (by unfold qc;rw[ea]);rw[hp]at q1;cases q1;obtain⟨i1,_,t1,_⟩:=I.tuple s1;exact⟨_,.inr t1⟩
    |ob ks=>rw[show items h a=none from(by unfold items;rw[ea])]at e;cases e
  cases x with
  |ref a=>
   obtain⟨p,rfl,hp⟩:=qK rx;cases ru;cases y with
   |ref c=>
    obtain⟨q,rfl,hq⟩:=qK ry;cases rw';have same:p=q->b=true:=λz=>by
     subst z;exact J9 I R (n+1) e rx (show rv φ (.ref c) (.ref p) from hq)
    simp only[eqD]at e;split at e
    ·rename_i f1 xs f2 ys e1 e2;obtain⟨p1,z1,q1,s1,r1⟩:=R.lst (i:=a) (xs:=xs) (by unfold qM;rw[e1]);obtain⟨p2,z2,q2,s2,r2⟩:=R.lst (i:=c) (xs:=ys) (by unfold qM;rw[e2]);rw[hp]at q1;cases q1;rw[hq]at q2;cases q2;obtain⟨i1,v1,t1,_⟩:=I.list s1;obtain⟨i2,v2,t2,_⟩:=I.list s2;split at e
     ·rename_i hac;subst hac;rw[hp]at hq;cases hq;cases e;have rc:=RcAt.lists (A:=A) (e:=λ_=>true) t1.isList t1.isList rfl hu0 λj _ _=>EqAt.same _;have ne:=RcNeAt.lists (A:=A) (e:=λ_=>true) t1.isList t1.isList rfl hu0 λj _ _=>EqAt.same _;have al:∀l:List Nat,(l.all λ_=>true)=true:=λl=>by simp
      rw[al]at rc ne;exact⟨.same _,rc,ne⟩
     ·split at e
      ·obtain⟨bs,e3,rfl⟩:=Option.map_eq_some_iff.mp e;obtain⟨m1,m2,he⟩:=item r1 r2 v1 v2 e3;have hsz:i1.toArray.size=i2.toArray.size:=by simp;omega
       have rc:=RcAt.lists (A:=A) (e:=λj=>bs.getD j true) t1.isList t2.isList hsz hu0 he;have ne:=RcNeAt.lists (A:=A) (e:=λj=>bs.getD j true) t1.isList t2.isList hsz hu0 he;have sz:i1.toArray.size=bs.length:=by simpa using m1
       rw[sz,A5]at rc ne;refine⟨?_,rc,ne⟩;by_cases hpq:p=q
       ·rw[same hpq];subst hpq;exact .same _
       ·exact .of_refs hpq rc
      ·rename_i hl;cases e;have n1:=Paired.length r1;have n2:=Paired.length r2;have n3:=v1.length;have n4:=v2.length;have hsz:(i1.toArray.size != i2.toArray.size)=true:=by simp;omega
       have rc:=RcAt.lists_lengths (A:=A) t1.isList t2.isList hsz hu0;have ne:=RcNeAt.lists_lengths (A:=A) t1.isList t2.isList hsz hu0;refine⟨?_,rc,ne⟩;by_cases hpq:p=q
       ·exact absurd (same hpq) (by decide)
       ·exact .of_refs hpq rc
    ·rename_i xs ys e1 e2;obtain⟨p1,z1,q1,s1,r1⟩:=R.tup (i:=a) (xs:=xs) (by unfold qc;rw[e1]);obtain⟨p2,z2,q2,s2,r2⟩:=R.tup (i:=c) (xs:=ys) (by unfold qc;rw[e2]);rw[hp]at q1;cases q1;rw[hq]at q2;cases q2;obtain⟨i1,v1,t1,_⟩:=I.tuple s1;obtain⟨i2,v2,t2,_⟩:=I.tuple s2;have t1':s.heap.IsTuple p i1.toArray:=t1;have t2':s.heap.IsTuple q i2.toArray:=t2;split at e
     ·rename_i hac;subst hac;rw[hp]at hq;cases hq;cases e;have rc:=RcAt.tuples (A:=A) (e:=λ_=>true) t1' t1' hu0 λj _ _=>EqAt.same _;have ne:=RcNeAt.tuples (A:=A) (e:=λ_=>true) t1' t1' hu0 λj _ _=>EqAt.same _;have al:∀l:List Nat,(l.all λ_=>true)=true:=λl=>by simp
      rw[al]at rc ne;simp only[vJ,we]at rc ne;exact⟨.same _,rc,ne⟩
     ·split at e
      ·obtain⟨bs,e3,rfl⟩:=Option.map_eq_some_iff.mp e;obtain⟨m1,m2,he⟩:=item r1 r2 v1 v2 e3;have hsz:i1.toArray.size=i2.toArray.size:=by simp;omega
       have rc:=RcAt.tuples (A:=A) (e:=λj=>bs.getD j true) t1' t2' hu0 he;have ne:=RcNeAt.tuples (A:=A) (e:=λj=>bs.getD j true) t1' t2' hu0 he;have sz:i1.toArray.size=bs.length:=by simpa using m1
       have sz2:i2.toArray.size=bs.length:=by simpa using m2
       rw[sz,sz2,Nat.min_self,A5,vJ,Bool.and_true]at rc ne;refine⟨?_,rc,ne⟩;by_cases hpq:p=q
       ·rw[same hpq];subst hpq;exact .same _
       ·exact .of_refs hpq rc
      ·rename_i hl;have n1:=Paired.length r1;have n2:=Paired.length r2;have n3:=v1.length;have n4:=v2.length;obtain⟨bs,e3,hb⟩:=Option.map_eq_some_iff.mp e;subst hb;have hsz:(i1.toArray.size==i2.toArray.size)=false:=by simp;omega
       obtain⟨m1,m2,he⟩:=item (zY ys.length r1) (zY xs.length r2) (v1.take ys.length) (v2.take xs.length) e3;have he':∀(j:Nat) (h1:j<i1.toArray.size) (h2:j<i2.toArray.size),EqAt A.in1 s i1.toArray[j] i2.toArray[j] (bs.getD j true):=λj h1 h2=>by
        have g1:j<i1.length:=by simpa using h1
        have g2:j<i2.length:=by simpa using h2
        have:=he j (by simp;omega) (by simp;omega);simpa using this
       have rc:=RcAt.tuples (A:=A) (e:=λj=>bs.getD j true) t1' t2' hu0 he';have ne:=RcNeAt.tuples (A:=A) (e:=λj=>bs.getD j true) t1' t2' hu0 he';rw[hsz,wj]at rc ne;refine⟨?_,rc,ne⟩;by_cases hpq:p=q
       ·exact absurd (same hpq) (by decide)
       ·exact .of_refs hpq rc
    ·rename_i f1 xs ys e1 e2;cases e;obtain⟨p1,z1,q1,s1,r1⟩:=R.lst (i:=a) (xs:=xs) (by unfold qM;rw[e1]);obtain⟨p2,z2,q2,s2,r2⟩:=R.tup (i:=c) (xs:=ys) (by unfold qc;rw[e2]);rw[hp]at q1;cases q1;rw[hq]at q2;cases q2;obtain⟨i1,_,t1,_⟩:=I.list s1;obtain⟨i2,_,t2,_⟩:=I.tuple s2;exact⟨.list_tuple t1.isList t2 hu0,.list_tuple t1.isList t2 hu0,.list_tuple t1.isList t2 hu0⟩
    ·rename_i xs f1 ys e1 e2;cases e;obtain⟨p1,z1,q1,s1,r1⟩:=R.tup (i:=a) (xs:=xs) (by unfold qc;rw[e1]);obtain⟨p2,z2,q2,s2,r2⟩:=R.lst (i:=c) (xs:=ys) (by unfold qM;rw[e2]);rw[hp]at q1;cases q1;rw[hq]at q2;cases q2;obtain⟨i1,_,t1,_⟩:=I.tuple s1;obtain⟨i2,_,t2,_⟩:=I.list s2;exact⟨.tuple_list t1 t2.isList hu0,.tuple_list t1 t2.isList hu0,.tuple_list t1 t2.isList hu0⟩
    ·cases e
   |non=>
    cases zB ry;cases rw';rcases refs hp (show (if (items h a).isSome&&flat V.non then some false else none)=some b from e) with⟨rfl,its,t|t⟩
    ·exact⟨.list_none t hu0,.list_none t hu0,.list_none t hu0⟩
    ·exact⟨.tuple_none t hu0,.tuple_none t hu0,.tuple_none t hu0⟩
   |bl j=>
    cases zV ry;cases rw';rcases refs hp (show (if (items h a).isSome&&flat (V.bl j) then some false else none)=some b from e) with⟨rfl,its,t|t⟩
    ·exact⟨.list_bool _ t hu0,.list_bool _ t hu0,.list_bool _ t hu0⟩
    ·exact⟨.tuple_bool _ t hu0,.tuple_bool _ t hu0,.tuple_bool _ t hu0⟩
   |int j=>
    cases qC ry;obtain⟨t',rfl⟩:=rw';rcases refs hp (show (if (items h a).isSome&&flat (V.int j) then some false else none)=some b from e) with⟨rfl,its,t|t⟩
    ·exact⟨.list_int _ _ t hu0,.list_int _ _ t hu0,.list_int _ _ t hu0⟩
    ·exact⟨.tuple_int _ _ t hu0,.tuple_int _ _ t hu0,.tuple_int _ _ t hu0⟩
   |str j=>
    cases zR ry;obtain⟨t',rfl⟩:=rw';rcases refs hp (show (if (items h a).isSome&&flat (V.str j) then some false else none)=some b from e) with⟨rfl,its,t|t⟩
    ·exact⟨.list_str _ _ t hu0,.list_str _ _ t hu0,.list_str _ _ t hu0⟩
    ·exact⟨.tuple_str _ _ t hu0,.tuple_str _ _ t hu0,.tuple_str _ _ t hu0⟩
   |_=>exact False.elim ry
  |non=>
   cases y with
   |ref c=>
    obtain⟨p,rfl,hp⟩:=qK ry;cases rw';cases zB rx;cases ru;rcases refs hp (show (if (items h c).isSome&&flat V.non then some false else none)=some b from(Bool.and_comm _ _) ▸ e) with⟨rfl,its,t|t⟩
    ·exact⟨.none_list t hu0,.none_list t hu0,.none_list t hu0⟩
    ·exact⟨.none_tuple t hu0,.none_tuple t hu0,.none_tuple t hu0⟩
   |_=>exact A6 e rx ry ru rw'
  |bl i=>
   cases y with
   |ref c=>
    obtain⟨p,rfl,hp⟩:=qK ry;cases rw';cases zV rx;cases ru;rcases refs hp (show (if (items h c).isSome&&flat (V.bl i) then some false else none)=some b from(Bool.and_comm _ _) ▸ e) with⟨rfl,its,t|t⟩
    ·exact⟨.bool_list _ t hu0,.bool_list _ t hu0,.bool_list _ t hu0⟩
    ·exact⟨.bool_tuple _ t hu0,.bool_tuple _ t hu0,.bool_tuple _ t hu0⟩
   |_=>exact A6 e rx ry ru rw'
  |int i=>
   cases y with
   |ref c=>
    obtain⟨p,rfl,hp⟩:=qK ry;cases rw';cases qC rx;obtain⟨t',rfl⟩:=ru;rcases refs hp (show (if (items h c).isSome&&flat (V.int i) then some false else none)=some b from(Bool.and_comm _ _) ▸ e) with⟨rfl,its,t|t⟩
    ·exact⟨.int_list _ _ t hu0,.int_list _ _ t hu0,.int_list _ _ t hu0⟩
    ·exact⟨.int_tuple _ _ t hu0,.int_tuple _ _ t hu0,.int_tuple _ _ t hu0⟩
   |_=>exact A6 e rx ry ru rw'
  |str i=>
   cases y with
   |ref c=>
    obtain⟨p,rfl,hp⟩:=qK ry;cases rw';cases zR rx;obtain⟨t',rfl⟩:=ru;rcases refs hp (show (if (items h c).isSome&&flat (V.str i) then some false else none)=some b from(Bool.and_comm _ _) ▸ e) with⟨rfl,its,t|t⟩
    ·exact⟨.str_list _ _ t hu0,.str_list _ _ t hu0,.str_list _ _ t hu0⟩
    ·exact⟨.str_tuple _ _ t hu0,.str_tuple _ _ t hu0,.str_tuple _ _ t hu0⟩
   |_=>exact A6 e rx ry ru rw'
  |_=>cases xc<;>exact False.elim rx
end
theorem E9{φ:List Addr}:∀{x w:V},flat x=true->rv φ x w->w=x
 | .non,_,_,h=>zB h
 | .bl _,_,_,h=>zV h
 | .int _,_,_,h=>qC h
 | .str _,_,_,h=>zR h
 | .ref _,_,f,_=>by cases f
 | .byt _,_,f,_=>by cases f
 | .flt _,_,f,_=>by cases f
 | .ty _,_,f,_=>by cases f
theorem jP{φ:List Addr}:∀{xs ws:List V},xs.all flat=true->rvs φ xs ws->ws=xs
 |_,_,_,.nil=>rfl
 |x::xs,w::ws,f,.cons r t=>by
  simp only[List.all_cons,Bool.and_eq_true]at f;rw[E9 f.1 r,jP f.2 t]
theorem O1:∀x:V,L2.flatV x=flat x:=by intro x;cases x<;>rfl
theorem V2(xs:List V):xs.all L2.flatV=xs.all flat:=by
 induction xs with
 |nil=>rfl
 |cons x xs ih=>rw[List.all_cons,List.all_cons,ih,O1]
section
variable{X:Cx}{G:List Addr}{F:Nat->List V->AH->RV}
noncomputable def opC:COp->CmpOp
 | .lt=>.Lt | .le=>.LtE | .gt=>.Gt | .ge=>.GtE | .eq=>.Eq | .ne=>.NotEq | .inn=>.In | .notin=>.NotIn | .is=>.Is | .isnot=>.IsNot
variable (X G) in
noncomputable def qFV(op:COp):R2:=λx y H Q=>∃φ h xa ya b,Rl X.K G φ h H/\rv φ xa x/\rv φ ya y/\O9 op xa ya h=some b/\Q (.bl b) H
theorem O7{φ:List Addr}{x y:V}(r:rv φ x y):decide (x=V.non)=decide (y=V.non):=by
 by_cases hx:x=V.non
 ·subst hx;cases zB r;rfl
 ·have hy:y≠V.non:=λhy=>by subst hy;cases x<;>first|exact hx rfl|exact False.elim r
  rw[vE hx,vE hy]
theorem C9(kvs:List (Int×V))(i:Int):((kvs.map kk).any λkv=>decide (kv.1=Sum.inl i))=ZK kvs i:=by
 unfold ZK;rw[List.any_map];congr 1
 funext p
 show decide ((Sum.inl p.1:L2.Key)=Sum.inl i)=_;rw[wa];simp
theorem qCJ(kvs:List (Int×V))(i:Int)(v:V):L2.putK (kvs.map kk) (Sum.inl i:L2.Key) v=(jv kvs i v).map kk:=by
 unfold L2.putK jv;rw[C9];split
 ·rw[wb,wb];congr 1
  funext p
  show (if (Sum.inl p.1:L2.Key)=Sum.inl i then ((Sum.inl p.1:L2.Key),v) else kk p)=kk (if p.1=i then (p.1,v) else p);by_cases h:p.1=i
  ·rw[if_pos (by rw[h]),if_pos h];rfl
  ·rw[if_neg (λz=>h (Sum.inl.inj z)),if_neg h]
 ·rw[wd];rfl
theorem QA(hu:X.A.units+8<cLine):∀op,OpR X (compareOp (opC op)) (qFV X G op):=by
 intro op pins s σ H x y v u Q I rx ry ⟨φ,h,xa,ya,b,R,r1,r2,e,q⟩;have hin:∀(neg:Bool){p:Nat}{ya':V}(e:(match items h p with|some xs=>if flat xa&&xs.all flat then some (if neg then !(xs.any λy=>L2.eqV y xa) else xs.any λy=>L2.eqV y xa) else none|none=>none)=some b),rv φ (.ref p) y->L2.rIn X.K neg x y H Q:=by
  intro neg p ya' e r2;split at e
  ·rename_i xs ex;split at e
   ·rename_i hf;simp only[Bool.and_eq_true]at hf;obtain⟨a,ys,ha,hs,rs⟩:=R.its ex;obtain⟨a',rfl,ha'⟩:=qK r2;rw[ha]at ha';cases ha';have e1:=E9 hf.1 r1;have e2:=jP hf.2 rs;subst e1 e2;refine⟨a,ys,rfl,hs,by rw[O1];exact hf.1,by rw[V2];exact hf.2,?_⟩;cases e;exact q
   ·cases e
  ·cases e
 cases op with
 |lt=>
  replace e:=Qe e;obtain⟨i,j,rfl,rfl,rfl⟩:=e;cases qC r1;cases qC r2;exact L2.op_lt pins s σ H _ _ v u Q I rx ry ⟨_,_,rfl,rfl,q⟩
 |le=>
  replace e:=Qe e;obtain⟨i,j,rfl,rfl,rfl⟩:=e;cases qC r1;cases qC r2;exact L2.op_le pins s σ H _ _ v u Q I rx ry ⟨_,_,rfl,rfl,q⟩
 |gt=>
  replace e:=Qe e;obtain⟨i,j,rfl,rfl,rfl⟩:=e;cases qC r1;cases qC r2;exact L2.op_gt pins s σ H _ _ v u Q I rx ry ⟨_,_,rfl,rfl,q⟩
 |ge=>
  replace e:=Qe e;obtain⟨i,j,rfl,rfl,rfl⟩:=e;cases qC r1;cases qC r2;exact L2.op_ge pins s σ H _ _ v u Q I rx ry ⟨_,_,rfl,rfl,q⟩
 |eq=>exact(g6 I R 4 (by omega) (show eqD h 4 xa ya=some b from e) r1 r2 rx ry).rc _ _ _ _ ⟨.bl b,H,I,rfl,q⟩
 |ne=>
  have e':(eqD h 4 xa ya).map (!·)=some b:=e;obtain⟨c,e1,rfl⟩:=Option.map_eq_some_iff.mp e';exact(g6 I R 4 (by omega) e1 r1 r2 rx ry).ne _ _ _ _ ⟨.bl (!c),H,I,rfl,q⟩
 |inn=>
  replace e:=N0 e;obtain⟨p,rfl,e⟩:=e;cases ei:items h p with
  |some xs=>exact L2.op_in_seq pins s σ H x y v u Q I rx ry (hin false (ya':=.non) (by rw[ei]at e ⊢;exact e) r2)
  |none=>
   rw[ei]at e;dsimp only at e;split at e
   ·rename_i kvs ed;split at e
    ·rename_i i;cases e;obtain⟨a,ea,_,hH⟩:=R.dct ed;obtain⟨a',rfl,ha'⟩:=qK r2;rw[ea]at ha';cases ha';cases qC r1;cases ry;refine L2.d_in (by omega) I (L2.DGet.k (k:=.inl i) hH) rx λs' I'=>⟨.bl (L2.valV (kvs.map kk) (Sum.inl i)).isSome,H,I',rfl,?_⟩
     rw[<-L2.valV_any,C9];exact q
    ·cases e
   ·cases e
 |notin=>
  replace e:=N0 e;obtain⟨p,rfl,e⟩:=e;cases ei:items h p with
  |some xs=>exact L2.op_notIn_seq pins s σ H x y v u Q I rx ry (hin true (ya':=.non) (by rw[ei]at e ⊢;exact e) r2)
  |none=>
   rw[ei]at e;dsimp only at e;split at e
   ·rename_i kvs ed;split at e
    ·rename_i i;cases e;obtain⟨a,ea,_,hH⟩:=R.dct ed;obtain⟨a',rfl,ha'⟩:=qK r2;rw[ea]at ha';cases ha';cases qC r1;cases ry;refine L2.d_notIn (by omega) I (L2.DGet.k (k:=.inl i) hH) rx λs' I'=>⟨.bl (!(L2.valV (kvs.map kk) (Sum.inl i)).isSome),H,I',rfl,?_⟩
     rw[<-L2.valV_any,C9];exact q
    ·cases e
   ·cases e
 |is=>
  rcases V5 (show isC xa ya id=some b from e) with⟨rfl,rfl⟩|⟨c,d,rfl,rfl,rfl⟩
  ·cases zB r2;rw[O7 r1]at q;exact L2.op_isN pins s σ H x _ v u Q I rx ry ⟨rfl,q⟩
  ·cases zV r1;cases zV r2;cases (show v=Value.bool c from rx);cases (show u=Value.bool d from ry);exact PySem.wpAny_is_plain rfl ⟨.bl (c==d),H,I,(by cases c<;>cases d<;>rfl),q⟩
 |isnot=>
  rcases V5 (show isC xa ya (!·)=some b from e) with⟨rfl,rfl⟩|⟨c,d,rfl,rfl,rfl⟩
  ·cases zB r2;rw[O7 r1]at q;exact L2.op_notN pins s σ H x _ v u Q I rx ry ⟨rfl,q⟩
  ·cases zV r1;cases zV r2;cases (show v=Value.bool c from rx);cases (show u=Value.bool d from ry);exact PySem.wpAny_isNot_plain rfl ⟨.bl (!(c==d)),H,I,(by cases c<;>cases d<;>rfl),q⟩
theorem JS:∀{bs:List Bool}{us:List Value},Vals (bs.map V.bl) us->LSm.BoolsAre us bs
 | [],_,.nil=>.nil
 |b::bs,u::us,.cons r t=>by
  cases (show u=Value.bool b from r);exact .cons b (JS t)
theorem T5{A:Around}{E:Value->Shared->Prop}{prog:Program}{w:World}{s:Shared}{l:Addr}{vs:List Value}{bs:List Bool}{Q:Value->Shared->Prop}(hh:A.handled=none)(hl:s.heap.IsList l vs.toArray)(hb:LSm.BoolsAre vs bs)
  (h:∀h' tk,(∀b x,s.heap.get? b=some x->h'.get? b=some x)->Q (.bool (bs.all id)) { s with heap:=h',toks:=tk }):wpAny (model prog w) A (call (.builtin "all") [.ref l]) Q E s:=by
 have hlt:l<s.heap.objs.size:=by obtain⟨_,e,_⟩:=hl;exact Heap.lt_size e
 refine call_all_walk (wpAny_pyIter_list hl ?_);refine⟨s.heap.objs.size,[s.heap.objs.size,l],[s.heap.objs.size],vs.toArray.size,_,_,λi=>(bs[i]?).getD true,rfl,Walks.list (A:=A.in1) hh _ l (wK hlt) vs.toArray,
  ⟨⟨_,Heap.get?_push_size _ rfl,rfl,rfl⟩,hl.push _⟩,λi v s' Q' E' hP hQ=>?_,λh' tk hk=>?_⟩
 ·obtain⟨b,e,rfl⟩:=hb.get i v (by simpa using hP);simp only[e,Option.getD_some]at hQ;exact vI hQ
 ·have e:((List.range vs.toArray.size).all λi=>(bs[i]?).getD true)=bs.all id:=by
   rw[wF,hb.length];exact LSm.range_all bs
  rw[e];exact h h' tk (LSm.kept_iter hk)
theorem Q0{A:Around}{E:Value->Shared->Prop}{prog:Program}{w:World}{s:Shared}{l:Addr}{vs:List Value}{bs:List Bool}{Q:Value->Shared->Prop}(hh:A.handled=none)(hl:s.heap.IsList l vs.toArray)(hb:LSm.BoolsAre vs bs)
  (h:∀h' tk,(∀b x,s.heap.get? b=some x->h'.get? b=some x)->Q (.bool (bs.any id)) { s with heap:=h',toks:=tk }):wpAny (model prog w) A (call (.builtin "any") [.ref l]) Q E s:=by
 have hlt:l<s.heap.objs.size:=by obtain⟨_,e,_⟩:=hl;exact Heap.lt_size e
 refine call_any_walk (wpAny_pyIter_list hl ?_);refine⟨s.heap.objs.size,[s.heap.objs.size,l],[s.heap.objs.size],vs.toArray.size,_,_,λi=>(bs[i]?).getD false,rfl,Walks.list (A:=A.in1) hh _ l (wK hlt) vs.toArray,
  ⟨⟨_,Heap.get?_push_size _ rfl,rfl,rfl⟩,hl.push _⟩,λi v s' Q' E' hP hQ=>?_,λh' tk hk=>?_⟩
 ·obtain⟨b,e,rfl⟩:=hb.get i v (by simpa using hP);simp only[e,Option.getD_some]at hQ;exact vI hQ
 ·have e:((List.range vs.toArray.size).any λi=>(bs[i]?).getD false)=bs.any id:=by
   rw[wF,hb.length];exact LSm.range_any bs
  rw[e];exact h h' tk (LSm.kept_iter hk)
theorem G0:∀{xs:List V}{is:List Int}{us:List Value},jM xs=some is->Vals xs us->us.length=is.length/\∀i v,us[i]?=some v->NumOf (is.getD i 0) v
 | [],is,_,e,.nil=>by cases e;exact⟨rfl,λi v e=>by simp at e⟩
 |x::r,is,u::us,e,.cons a t=>by
  unfold jM at e;split at e
  ·rename_i e';cases e'
  ·rename_i e';cases e';obtain⟨js,e1,rfl⟩:=Option.map_eq_some_iff.mp e;obtain⟨l,g⟩:=G0 e1 t;refine⟨by simp[l],λi v q=>?_⟩;cases i with
   |zero=>
    cases q;obtain⟨w,rfl⟩:=a;exact .inl ⟨w,rfl⟩
   |succ i=>exact g i v q
  ·rename_i e';cases e';obtain⟨js,e1,rfl⟩:=Option.map_eq_some_iff.mp e;obtain⟨l,g⟩:=G0 e1 t;refine⟨by simp[l],λi v q=>?_⟩;cases i with
   |zero=>
    cases q;exact .inr ⟨_,a,rfl⟩
   |succ i=>exact g i v q
  ·cases e
theorem ZD:∀{xs:List V}{is:List Int},jM xs=some is->xs.all flat=true
 | [],_,_=>rfl
 |x::r,is,e=>by
  unfold jM at e;split at e
  ·rename_i e';cases e'
  ·rename_i e';cases e';obtain⟨js,e1,rfl⟩:=Option.map_eq_some_iff.mp e;rw[List.all_cons,ZD e1];rfl
  ·rename_i e';cases e';obtain⟨js,e1,rfl⟩:=Option.map_eq_some_iff.mp e;rw[List.all_cons,ZD e1];rfl
  ·cases e
theorem Q8{A:Around}{E:Value->Shared->Prop}{prog:Program}{w:World}{s:Shared}{l:Addr}{vs:List Value}{xs:List V}{is:List Int}{Q:Value->Shared->Prop}(hh:A.handled=none)(hl:s.heap.IsList l vs.toArray)(ei:jM xs=some is)(hb:Vals xs vs)
  (h:∀h' tk t',(∀b x,s.heap.get? b=some x->h'.get? b=some x)->Q (.int is.sum t') { s with heap:=h',toks:=tk }):wpAny (model prog w) A (call (.builtin "sum") [.ref l]) Q E s:=by
 have hlt:l<s.heap.objs.size:=by obtain⟨_,e,_⟩:=hl;exact Heap.lt_size e
 obtain⟨hlen,hn⟩:=G0 ei hb;refine call_sum_walkAnyB (wpAny_pyIter_list hl ?_);refine⟨s.heap.objs.size,_,_,_,_,_,_,λi=>is.getD i 0,rfl,(Walks.list (prog:=prog) (w:=w) (A:=A.in1) hh s.heap.objs.size l (wK hlt) vs.toArray).toS,
  ⟨⟨_,Heap.get?_push_size _ rfl,rfl,rfl⟩,hl.push _⟩,λb hb=>?_,λi v hP=>hn i v (by simpa using hP),λs' t' hm=>?_⟩
 ·rcases List.mem_cons.mp hb with rfl|hb
  ·exact Heap.lt_size (Heap.get?_push_size _ rfl)
  ·obtain rfl:=wM.mp hb;obtain⟨_,e,_⟩:=hl;exact Heap.lt_size (Heap.get?_push_of_some _ e)
 ·obtain⟨h',g',d',tk',os'⟩:=s';have e1:g'=s.gens:=hm.gens;have e2:d'=s.drawn:=hm.drawn;have e3:os'=s.os:=hm.os;subst e1 e2 e3;have e:=preSum_getD is vs.toArray.size;rw[wF,hlen,List.take_of_length_le (Nat.le_refl _),<-hlen,<-wF]at e;rw[e];exact h h' tk' t' λb o e=>hm.heap b o (λhb=>absurd (Heap.lt_size e) ((wM.mp hb) ▸ Nat.lt_irrefl _)) (Heap.get?_push_of_some _ e)
theorem Ze:∀{xs:List V}{is:List Int},jW xs=some is->xs=is.map V.int
 | [],is,e=>by cases e;rfl
 | .int i::r,is,e=>by
  simp only[jW]at e;obtain⟨js,e1,rfl⟩:=Option.map_eq_some_iff.mp e;rw[Ze e1];rfl
 | .non::_,_,e=>by cases e
 | .bl _::_,_,e=>by cases e
 | .str _::_,_,e=>by cases e
 | .ref _::_,_,e=>by cases e
 | .byt _::_,_,e=>by cases e
 | .flt _::_,_,e=>by cases e
 | .ty _::_,_,e=>by cases e
theorem jd:∀{xs:List V}{is:List Bool},jg xs=some is->xs=is.map V.bl
 | [],is,e=>by cases e;rfl
 | .bl i::r,is,e=>by
  simp only[jg]at e;obtain⟨js,e1,rfl⟩:=Option.map_eq_some_iff.mp e;rw[jd e1];rfl
 | .non::_,_,e=>by cases e
 | .int _::_,_,e=>by cases e
 | .str _::_,_,e=>by cases e
 | .ref _::_,_,e=>by cases e
 | .byt _::_,_,e=>by cases e
 | .flt _::_,_,e=>by cases e
 | .ty _::_,_,e=>by cases e
theorem Jt{φ:List Addr}:∀{xs:List V},xs.all flat=true->rvs φ xs xs
 | [],_=>.nil
 |x::xs,h=>by
  simp only[List.all_cons,Bool.and_eq_true]at h;refine .cons ?_ (Jt h.2);cases x<;>first|rfl|exact trivial|(cases h.1)
theorem jy:∀{us:List Value}{ns:List Int},IntsAre us ns->Vals (ns.map V.int) us
 |_,_,.nil=>.nil
 |_,_,.cons n t r=>.cons ⟨_,rfl⟩ (jy r)
theorem W4(is:List Int):(is.map V.int).all flat=true:=by simp[flat]
theorem Zd(is:List Bool):(is.map V.bl).all flat=true:=by simp[flat]
noncomputable def fnB:BF->Value
 | .len=>.builtin "len" | .sum=>.builtin "sum" | .all=>.builtin "all" | .any=>.builtin "any" | .max=>.builtin "max" | .min=>.builtin "min"
 | .list=>.type "list" | .tuple=>.type "tuple" | .repr=>.builtin "repr" | .bits=>.builtin "int.bit_length"
variable (X G) in
def qHj(f:BF):List V->Hp->VK->Prop:=λxs H Q=>∃φ h ws v h',Rl X.K G φ h H/\rvs φ ws xs/\qFO f ws h=.ok (v,h')/\∀φ' H' w,Ext φ φ'->Rl X.K G φ' h' H'->rv φ' v w->Q w H'
theorem Y3{φ:List Addr}{hp:Heap}{x v:V}{u:Value}{d:PyData}(e:qAg x=some d)(r:rv φ x v)(ru:RelV v u):(∃as,Reads hp u d as)/\d.hasDict=false/\d.depth<=0:=by
 unfold qAg at e;split at e
 ·cases e;cases zB r;cases (show u=Value.none from ru);exact⟨⟨_,.none⟩,rfl,Nat.le_refl _⟩
 ·cases e;cases zV r;cases (show u=Value.bool _ from ru);exact⟨⟨_,.bool _⟩,rfl,Nat.le_refl _⟩
 ·cases e;cases qC r;obtain⟨t,rfl⟩:=ru;exact⟨⟨_,.int _ _⟩,rfl,Nat.le_refl _⟩
 ·cases e;cases zR r;obtain⟨t,rfl⟩:=ru;exact⟨⟨_,.str _ _⟩,rfl,Nat.le_refl _⟩
 ·cases e
def DR(P:Program)(W:World)(h:Heap)(n:Nat)(u:Value)(d:PyData):Prop:=(∃as,Reads h u d as)/\d.depth<=n/\(d.showable=true->d.shown.length<=sizeLine->∃bs,ReadAtMost h d.depth bs/\ReprK P W bs h d.depth u d.shown)
def DRs(P:Program)(W:World)(h:Heap)(n:Nat)(us:List Value)(ds:List PyData):Prop:=(∃as,ReadsAll h us ds as)/\PyData.depthAll ds<=n/\(PyData.showableAll ds=true->(∀t∈PyData.shownAll ds,t.length<=sizeLine)->∃bs,ReadAtMost h (PyData.depthAll ds) bs/\ReprAllK P W bs h (PyData.depthAll ds) us (PyData.shownAll ds))
theorem DR.flat{P:Program}{W:World}{hp:Heap}{n:Nat}{u:Value}{d:PyData}(q:(∃as,Reads hp u d as)/\d.hasDict=false/\d.depth<=0):DR P W hp n u d:=by
 obtain⟨⟨as,q1⟩,q2,q3⟩:=q;exact⟨⟨as,q1⟩,by omega,λhs hz=>ReprK.of_reads q1 hs (λz=>by rw[q2]at z;cases z) hz⟩
theorem Qw{P:Program}{W:World}{φ:List Addr}{hp:Heap}{n:Nat}{f:V->Option PyData}(hf:∀x v u d,f x=some d->rv φ x v->RelV v u->DR P W hp n u d):∀(xs ys:List V) (us:List Value) (ds:List PyData),Q4 f xs=some ds->rvs φ xs ys->Vals ys us->DRs P W hp n us ds
 | [],ys,us,ds,e,r,ru=>by
  cases e;cases r;cases ru;exact⟨⟨_,.nil⟩,Nat.zero_le _,λ_ _=>⟨[],(λ_ h=>nomatch h),by simp only[PyData.shownAll];exact .nil⟩⟩
 |x::xs,ys,us,ds,e,r,ru=>by
  unfold Q4 at e;obtain⟨d,e1,e⟩:=Option.bind_eq_some_iff.mp e;obtain⟨ds',e2,rfl⟩:=Option.map_eq_some_iff.mp e;cases r with
  |cons r1 r2=>
   cases ru with
   |cons u1 u2=>
    obtain⟨⟨as,q1⟩,q3,q2⟩:=hf _ _ _ _ e1 r1 u1;obtain⟨⟨bs,p1⟩,p2,p3⟩:=Qw hf xs _ _ ds' e2 r2 u2;refine⟨⟨_,.cons q1 p1⟩,Nat.max_le.mpr ⟨q3,p2⟩,λhs hz=>?_⟩;have hs':d.showable=true/\PyData.showableAll ds'=true:=by simpa [PyData.showableAll] using hs
    obtain⟨b1,hb1,k1⟩:=q2 hs'.1 (hz _ (by simp only[PyData.shownAll];exact List.mem_cons_self ..));obtain⟨b2,hb2,k2⟩:=p3 hs'.2 (λt ht=>hz t (by simp only[PyData.shownAll];exact List.mem_cons_of_mem _ ht));refine⟨b1++b2,?_,?_⟩
    ·intro b hm;simp only[PyData.depthAll];rcases wC.mp hm with hm|hm
     ·obtain⟨d',as',r',hd'⟩:=hb1 b hm;exact⟨d',as',r',Nat.le_trans hd' (Nat.le_max_left _ _)⟩
     ·obtain⟨d',as',r',hd'⟩:=hb2 b hm;exact⟨d',as',r',Nat.le_trans hd' (Nat.le_max_right _ _)⟩
    ·simp only[PyData.depthAll,PyData.shownAll];exact .cons ((k1.more λb hb=>wE _ hb).level_le (Nat.le_max_left _ _)) (k2.more_le (λb hb=>wG _ hb) (Nat.le_max_right _ _))
theorem DRs.list{P:Program}{W:World}{hp:Heap}{n m:Nat}{p:Addr}{o:Obj}{its:List Value}{ds:List PyData}(q:DRs P W hp n its ds)(ho:hp.get? p=some o)(hc:o.cls=.type "list")(hd:o.data=.seq its.toArray m)(hs:PyData.showableAll ds=true)(hz:(listText (PyData.shownAll ds)).length<=sizeLine):
  ∃bs,ReadAtMost hp (PyData.depthAll ds) bs/\ReprAllK P W bs hp (PyData.depthAll ds) its (PyData.shownAll ds)/\p∉bs:=by
 obtain⟨⟨as,q1⟩,q2,q3⟩:=q;obtain⟨bs,hb,hk⟩:=q3 hs (λt ht=>Nat.le_trans (listText_mem_le ht) hz);exact⟨bs,hb,hk,not_mem_of_deeper (Reads.list ho hc hd (by simpa using q1)) (by simp only[PyData.depth];omega) hb⟩
theorem DRs.tuple{P:Program}{W:World}{hp:Heap}{n m:Nat}{p:Addr}{o:Obj}{its:List Value}{ds:List PyData}(q:DRs P W hp n its ds)(ho:hp.get? p=some o)(hc:o.cls=.type "tuple")(hd:o.data=.seq its.toArray m)(hs:PyData.showableAll ds=true)(hz:(tupleText (PyData.shownAll ds)).length<=sizeLine):
  ∃bs,ReadAtMost hp (PyData.depthAll ds) bs/\ReprAllK P W bs hp (PyData.depthAll ds) its (PyData.shownAll ds)/\p∉bs:=by
 obtain⟨⟨as,q1⟩,q2,q3⟩:=q;obtain⟨bs,hb,hk⟩:=q3 hs (λt ht=>Nat.le_trans (tupleText_mem_le ht) hz);exact⟨bs,hb,hk,not_mem_of_deeper (Reads.tuple ho hc hd (by simpa using q1)) (by simp only[PyData.depth];omega) hb⟩
theorem qAl{pins:List (Addr×Obj)}{s:Shared}{σ:L2.St}{H:Hp}{φ:List Addr}{h:AH}(I:Inv X pins σ H s)(R:Rl X.K G φ h H){a:Nat}{p:Addr}(ey:h[a]?=some (.ob (.dct [])))(hp:φ[a]?=some p):∃as,Reads s.heap (.ref p) (.dict []) as/\sysModules∉as:=by
 obtain⟨p',hp',hs⟩:=R.at ey;rw[hp]at hp';cases hp';obtain⟨_,hne,vs,hkv,o,es,ep,h1,h2,h3,h4,h5,h6⟩:=(show L2.ObjOk X.prog X.w H s.heap p (.dK []) from I.hok p _ hs)
 cases hkv;have he:es.toList=[]:=by cases hh:es.toList with|nil=>rfl|cons a b=>rw[hh]at h5;cases h5
 refine⟨_,.dict (as:=[]) (bs:=[]) h1 h2.1 h3 (by rw[he];exact .nil) (by rw[he];exact .nil),λz=>?_⟩;simp at z;rw[<-z]at hne;simp at hne
theorem M7{pins:List (Addr×Obj)}{s:Shared}{σ:L2.St}{H:Hp}{φ:List Addr}{h:AH}(I:Inv X pins σ H s)(R:Rl X.K G φ h H):∀(n:Nat) (x v:V) (u:Value) (d:PyData),dat h n x=some d->rv φ x v->RelV v u->DR X.prog X.w s.heap n u d
 | 0,x,v,u,d,e,r,ru=>.flat (Y3 e r ru)
 |n+1,x,v,u,d,e,r,ru=>by
  unfold dat at e;split at e
  ·rename_i a;obtain⟨p,rfl,hp⟩:=qK r;cases (show u=Value.ref p from ru);split at e
   ·rename_i f xs ey;obtain⟨ds,e1,rfl⟩:=Option.map_eq_some_iff.mp e;obtain⟨p',zs,hp',hs,rs⟩:=R.lst (show qM h a=some xs by unfold qM;rw[ey]);rw[hp]at hp';cases hp';obtain⟨its,rv',pl,_⟩:=I.list hs;obtain⟨o,ho,hc,m,hd⟩:=pl.isList;have q:=Qw (M7 I R n) xs zs its ds e1 rs rv';obtain⟨⟨as,q1⟩,q2,_⟩:=id q;refine⟨⟨_,.list ho hc hd (by simpa using q1)⟩,wq q2,λhs' hz=>?_⟩;have hz':(listText (PyData.shownAll ds)).length<=sizeLine:=by simpa only[PyData.shown] using hz
    obtain⟨bs,hb,hk,hna⟩:=q.list ho hc hd (by simpa [PyData.showable] using hs') hz';refine⟨p::bs,ReadAtMost.cons (Reads.list ho hc hd (by simpa using q1)) (by simp only[PyData.depth];omega) hb,?_⟩;simp only[PyData.depth,PyData.shown];cases its with
    |nil=>
     cases q1;simp only[PyData.shownAll,listText_nil];exact ReprK.listEmpty ho hc hd
    |cons y l=>exact ReprK.list ho hc hd hna (by simpa using hk.length_eq) (λi y e=>hk.item i y (by simpa using e))
   ·rename_i xs ey;obtain⟨ds,e1,rfl⟩:=Option.map_eq_some_iff.mp e;obtain⟨p',zs,hp',hs,rs⟩:=R.tup (show qc h a=some xs by unfold qc;rw[ey]);rw[hp]at hp';cases hp';obtain⟨its,rv',pl,_⟩:=I.tuple hs;obtain⟨o,ho,hc,m,hd⟩:=pl;have q:=Qw (M7 I R n) xs zs its ds e1 rs rv';obtain⟨⟨as,q1⟩,q2,_⟩:=id q;refine⟨⟨_,.tuple ho hc hd (by simpa using q1)⟩,wq q2,λhs' hz=>?_⟩;have hz':(tupleText (PyData.shownAll ds)).length<=sizeLine:=by simpa only[PyData.shown] using hz
    obtain⟨bs,hb,hk,hna⟩:=q.tuple ho hc hd (by simpa [PyData.showable] using hs') hz';refine⟨p::bs,ReadAtMost.cons (Reads.tuple ho hc hd (by simpa using q1)) (by simp only[PyData.depth];omega) hb,?_⟩;simp only[PyData.depth,PyData.shown];exact ReprK.tuple ho hc hd hna (by simpa using hk)
   ·rename_i ey;cases e;obtain⟨as,q1,q2⟩:=qAl I R ey hp;exact⟨⟨as,q1⟩,wq (Nat.zero_le _),λhs hz=>ReprK.of_reads q1 hs (λ_=>q2) hz⟩
   ·cases e
  ·exact .flat (Y3 e r ru)
theorem g8(hc:X.calm=true)(hu:X.A.units+8<cLine)(hgd:X.A.guards=some []):∀f,qq X (fnB f) (qHj X G f):=by
 intro f pins s σ H xs us Q I r ⟨φ,h,ws,v,h',R,rw',e,k⟩;cases f with
 |len=>
  replace e:=zy e;obtain⟨x0,rfl,e⟩:=e;replace e:=ze e;obtain⟨a,rfl,e⟩:=e;split at e
  ·rename_i ys ey;cases e;cases rw' with
   |cons r1 t=>
    cases t;obtain⟨p,rfl,hp⟩:=qK r1;obtain⟨p',zs,hp',hs,rs⟩:=R.its ey;rw[hp]at hp';cases hp';refine L2.call_len_seq pins s σ H _ us Q I r ⟨p,zs,rfl,hs,?_⟩;rw[<-Paired.length rs];exact k φ H _ (.refl _) R rfl
  ·cases e
 |sum=>
  replace e:=zy e;obtain⟨x0,rfl,e⟩:=e;replace e:=ze e;obtain⟨a,rfl,e⟩:=e;split at e
  ·rename_i ys ey;split at e
   ·rename_i is ei;cases e;cases rw' with
    |cons r1 t=>
     cases t;obtain⟨p,rfl,hp⟩:=qK r1;obtain⟨p',zs,hp',hs,rs⟩:=R.lst ey;rw[hp]at hp';cases hp';have hz:=jP (ZD ei) rs;subst hz;obtain⟨its,rv',pl,_⟩:=I.list hs;obtain⟨u,rfl,ru⟩:=L2.vals1 r;cases ru;exact Q8 (I.ok.hd hc) pl.isList ei rv' λh1 tk t' hk=>⟨.int is.sum,H,I.kept hk,⟨_,rfl⟩,k φ H _ (.refl _) R rfl⟩
   ·cases e
  ·cases e
 |all=>
  replace e:=zy e;obtain⟨x0,rfl,e⟩:=e;replace e:=ze e;obtain⟨a,rfl,e⟩:=e;split at e
  ·rename_i ys ey;split at e
   ·rename_i is ei;cases e;cases rw' with
    |cons r1 t=>
     cases t;obtain⟨p,rfl,hp⟩:=qK r1;obtain⟨p',zs,hp',hs,rs⟩:=R.lst ey;rw[hp]at hp';cases hp';have hm:=jd ei;subst hm;have hz:=jP (Zd is) rs;subst hz;obtain⟨its,rv',pl,_⟩:=I.list hs;obtain⟨u,rfl,ru⟩:=L2.vals1 r;cases ru;exact T5 (I.ok.hd hc) pl.isList (JS rv') λh1 tk hk=>⟨.bl (is.all id),H,I.kept hk,rfl,k φ H _ (.refl _) R rfl⟩
   ·cases e
  ·cases e
 |any=>
  replace e:=zy e;obtain⟨x0,rfl,e⟩:=e;replace e:=ze e;obtain⟨a,rfl,e⟩:=e;split at e
  ·rename_i ys ey;split at e
   ·rename_i is ei;cases e;cases rw' with
    |cons r1 t=>
     cases t;obtain⟨p,rfl,hp⟩:=qK r1;obtain⟨p',zs,hp',hs,rs⟩:=R.lst ey;rw[hp]at hp';cases hp';have hm:=jd ei;subst hm;have hz:=jP (Zd is) rs;subst hz;obtain⟨its,rv',pl,_⟩:=I.list hs;obtain⟨u,rfl,ru⟩:=L2.vals1 r;cases ru;exact Q0 (I.ok.hd hc) pl.isList (JS rv') λh1 tk hk=>⟨.bl (is.any id),H,I.kept hk,rfl,k φ H _ (.refl _) R rfl⟩
   ·cases e
  ·cases e
 |max=>
  replace e:=two_inv e;obtain⟨x0,y0,rfl,e⟩:=e;replace e:=zK e;obtain⟨i,j,rfl,rfl,e⟩:=e;cases e;cases rw' with
  |cons r1 t=>
   cases t with
   |cons r2 t=>
    cases t;cases qC r1;cases qC r2;exact L2.call_max2 hc pins s σ H _ us Q I r ⟨_,_,rfl,k φ H _ (.refl _) R rfl⟩
 |min=>
  replace e:=two_inv e;obtain⟨x0,y0,rfl,e⟩:=e;replace e:=zK e;obtain⟨i,j,rfl,rfl,e⟩:=e;cases e;cases rw' with
  |cons r1 t=>
   cases t with
   |cons r2 t=>
    cases t;cases qC r1;cases qC r2;exact L2.call_min2 hc pins s σ H _ us Q I r ⟨_,_,rfl,k φ H _ (.refl _) R rfl⟩
 |bits=>
  replace e:=zy e;obtain⟨x0,rfl,e⟩:=e;split at e
  ·cases e;cases rw' with
   |cons r1 t=>
    cases t;cases qC r1;obtain⟨u,rfl,ru⟩:=L2.vals1 r;obtain⟨t,rfl⟩:=ru;rename_i j;exact call_int_bit_length ⟨.int ((Builtin.Int.intBits j:Nat):Int),H,I.tok _,⟨_,rfl⟩,k φ H _ (.refl _) R rfl⟩
  ·cases e
 |list=>
  replace e:=zy e;obtain⟨x0,rfl,e⟩:=e;replace e:=ze e;obtain⟨a,rfl,e⟩:=e;split at e
  ·rename_i ys ey;cases e;cases rw' with
   |cons r1 t=>
    cases t;obtain⟨p,rfl,hp⟩:=qK r1;obtain⟨p',zs,hp',hs,rs⟩:=R.its ey;rw[hp]at hp';cases hp';exact L2.call_list_of pins s σ H _ us Q I r ⟨p,zs,rfl,hs,λl hl=>k (φ++[l]) _ _ ⟨[l],rfl⟩ (R.newL hl rs) R.lastRef⟩
  ·cases e
 |tuple=>
  replace e:=zy e;obtain⟨x0,rfl,e⟩:=e;replace e:=ze e;obtain⟨a,rfl,e⟩:=e;split at e
  ·rename_i fz ys ey;cases e;cases rw' with
   |cons r1 t=>
    cases t;obtain⟨p,rfl,hp⟩:=qK r1;obtain⟨p',zs,hp',hs,rs⟩:=R.lst (i:=_) (xs:=ys) (by unfold qM;rw[ey]);rw[hp]at hp';cases hp';exact L2.call_tuple_of pins s σ H _ us Q I r ⟨p,zs,rfl,.inl ⟨hs,λl hl=>k (φ++[l]) _ _ ⟨[l],rfl⟩ (R.newT hl rs) R.lastRef⟩⟩
  ·rename_i ys ey;cases e;cases rw' with
   |cons r1 t=>
    cases t;obtain⟨p,rfl,hp⟩:=qK r1;obtain⟨p',zs,hp',hs,rs⟩:=R.tup (i:=_) (xs:=ys) (by unfold qc;rw[ey]);rw[hp]at hp';cases hp';exact L2.call_tuple_of pins s σ H _ us Q I r ⟨p,zs,rfl,.inr ⟨hs,k φ H _ (.refl _) R hp⟩⟩
  ·cases e
 |repr=>
  replace e:=zy e;obtain⟨x0,rfl,e⟩:=e;unfold qDT at e;split at e
  ·rename_i v0 ev0;cases e;obtain⟨d,e1,e2⟩:=Option.bind_eq_some_iff.mp ev0;unfold P7 at e2;split at e2
   ·rename_i hsh;cases e2;cases rw' with
    |cons r1 t=>
     cases t;obtain⟨u,rfl,ru⟩:=L2.vals1 r;cases x0 with
     |ref a=>
      obtain⟨p,rfl,hp⟩:=qK r1;cases (show u=Value.ref p from ru);unfold qGk dat at e1;dsimp only at e1;split at e1
      ·rename_i f xs ey;obtain⟨ds,e2,rfl⟩:=Option.map_eq_some_iff.mp e1;obtain⟨p',zs,hp',hs,rs⟩:=R.lst (show qM h a=some xs by unfold qM;rw[ey]);rw[hp]at hp';cases hp';obtain⟨its,rv',pl,_⟩:=I.list hs;obtain⟨o,ho,hc',m,hd⟩:=pl.isList;have q:=Qw (M7 I R 4) xs zs its ds e2 rs rv';have q2:=q.2.1;have hz':(listText (PyData.shownAll ds)).length<=sizeLine:=by simpa only[PyData.shown] using hsh.2
       obtain⟨bs,hb,hk,hna⟩:=q.list ho hc' hd (by simpa [PyData.showable] using hsh.1) hz';cases its with
       |nil=>
        obtain⟨⟨as,q1⟩,_,_⟩:=q;cases q1;refine call_repr_slot (by omega) ⟨o,ho,hc'⟩ F.slot_list_repr.toG (call_list_repr_empty ⟨o,ho,hc'⟩ ho hd ⟨_,_,rfl,?_⟩);exact⟨.str (PyData.shown (.list [])),H,I.tok _,⟨s.toks,by simp only[PyData.shown,PyData.shownAll,listText_nil]⟩,k φ H _ (.refl _) R rfl⟩
       |cons y l=>
        refine call_repr_slot (by omega) ⟨o,ho,hc'⟩ F.slot_list_repr.toG (call_list_reprK ho hc' hd hna (by simpa using hk.length_eq) (λi y e=>hk.item i y (by simpa using e)) hgd (λb _=>Clear.nil b) (by show X.A.units+1+_<cLine;omega) (λ_ _ e=>e) (λh1 u tk hk=>⟨_,_,rfl,?_⟩) hz');exact⟨.str (PyData.shown (.list ds)),H,I.kept hk,⟨u,by simp only[PyData.shown]⟩,k φ H _ (.refl _) R rfl⟩
      ·rename_i ws ey;obtain⟨ds,e2,rfl⟩:=Option.map_eq_some_iff.mp e1;obtain⟨p',zs,hp',hs,rs⟩:=R.tup (show qc h a=some ws by unfold qc;rw[ey]);rw[hp]at hp';cases hp';obtain⟨its,rv',pl,_⟩:=I.tuple hs;obtain⟨o,ho,hc',m,hd⟩:=pl;have q:=Qw (M7 I R 4) ws zs its ds e2 rs rv';have q2:=q.2.1;have hz':(tupleText (PyData.shownAll ds)).length<=sizeLine:=by simpa only[PyData.shown] using hsh.2
       obtain⟨bs,hb,hk,hna⟩:=q.tuple ho hc' hd (by simpa [PyData.showable] using hsh.1) hz';refine call_repr_slot (by omega) ⟨o,ho,hc'⟩ F.slot_tuple_repr (call_tuple_reprK ho hc' hd hna (by simpa using hk) hgd (λb _=>Clear.nil b) (by show X.A.units+1+_<cLine;omega) (λ_ _ e=>e) (λh1 u tk hk=>⟨_,_,rfl,?_⟩) hz');exact⟨.str (PyData.shown (.tuple ds)),H,I.kept hk,⟨u,by simp only[PyData.shown]⟩,k φ H _ (.refl _) R rfl⟩
      ·rename_i ey;cases e1;obtain⟨as,q1,q2⟩:=qAl I R ey hp;refine repr_of_reads' q1 hsh.1 (λ_=>q2) hgd (by show X.A.units+(1+1)<cLine;omega) (λb o e=>e) (λh1 u tk hk=>?_) hsh.2;exact⟨.str (PyData.shown (.dict [])),H,I.kept hk,⟨_,rfl⟩,k φ H _ (.refl _) R rfl⟩
      ·cases e1
     |non=>
      cases e1;cases zB r1;cases (show u=Value.none from ru);exact PySem.P.repr_of_none ⟨.str (PyData.shown .none),H,I.tok _,⟨_,rfl⟩,k φ H _ (.refl _) R rfl⟩
     |bl b=>
      cases e1;cases zV r1;cases (show u=Value.bool b from ru);exact PySem.P.repr_of_bool ⟨.str (PyData.shown (.bool b)),H,I.tok _,⟨_,by cases b<;>rfl⟩,k φ H _ (.refl _) R rfl⟩
     |int i=>
      cases e1;cases qC r1;obtain⟨tt,rfl⟩:=ru;exact PySem.P.repr_of_int (vH hsh.1) ⟨.str (PyData.shown (.int i)),H,I.tok _,⟨_,rfl⟩,k φ H _ (.refl _) R rfl⟩
     |str x=>
      cases e1;cases zR r1;obtain⟨tt,rfl⟩:=ru;exact PySem.P.repr_of_str ⟨.str (PyData.shown (.str x)),H,I.tok _,⟨_,rfl⟩,k φ H _ (.refl _) R rfl⟩ hsh.2
     |_=>cases e1
   ·cases e2
  ·cases e
end
open L2 (PW)
theorem jC{r:RV}{b:Bool}{h:AH}(e:asB r=.ok (b,h)):r=.ok (.bl b,h):=by
 unfold asB at e;obtain⟨⟨v,h1⟩,e1,e2⟩:=Res.bind_inv e;dsimp only at e2;split at e2
 ·cases e2;exact e1
 ·cases e2
theorem O6{r:RV}{b:Bool}{h:AH}(e:r=.ok (.bl b,h)):asB r=.ok (b,h):=by
 subst e;rfl
section
variable{X:Cx}{G:List Addr}{F:Nat->List V->AH->RV}{a b c:E}{as:Es}{ea eb ec:Expr}{es:List Expr}{pos:Pos}
theorem JM{K:PySem.W.Frag}{σ:St}{H:Hp}{Q:Bool->Hp->Prop}(q:tT K G F a σ H Q):tE K G F a σ H (λx H'=>∃k,x=.bl k/\Q k H'):=by
 obtain⟨φ,h,σa,b,h',R,rs,e,k⟩:=q;exact⟨φ,h,σa,.bl b,h',R,rs,jC e,λφ' H' w x' R' r'=>⟨b,zV r',k φ' H' x' R'⟩⟩
theorem qZ(h:SE X G F ea a)(he:∀whole,isTrue ea X.env whole=(do let v <- whole;standAt ea.pos;holding [v] (truthy v))):ST X G F ea a:=
 qAJ (L2.pt_val h he) λ_ _ _ q=>JM q
theorem qBO{op:COp}{σc:St}{H:Hp}{Q:VK}(q:tE X.K G F (.cmp op a b) σc H Q):L2.tOp (qFV X G op) (tE X.K G F a) (tE X.K G F b) σc H Q:=by
 obtain⟨φ,h,σ,v,h',R,rs,e,k⟩:=q;unfold ev at e;obtain⟨⟨x,h1⟩,e1,e⟩:=Res.bind_inv e;obtain⟨⟨y,h2⟩,e2,e⟩:=Res.bind_inv e;refine QJ R rs e1 e2 λφ2 H2 xc yc x2 R2 r1 r2=>?_;unfold N2 at e;dsimp only at e;split at e
 ·rename_i t et;cases e;exact⟨φ2,_,x,y,t,R2,r1,r2,et,k φ2 H2 _ x2 R2 rfl⟩
 ·cases e
theorem qAi{op:COp}(hu:X.A.units+8<cLine)(ha:SE X G F ea a)(hb:SE X G F eb b)(hm:behindInMarks (opC op) eb=false):SE X G F (.Compare ea [opC op] [eb] pos) (.cmp op a b):=
 qp (L2.pe_cmpR (QA hu op) ha hb hm) λ_ _ _=>qBO
theorem qEa{op:COp}(hu:X.A.units+8<cLine)(ha:SE X G F ea a)(hb:SE X G F eb b)(hm:behindInMarks (opC op) eb=false):ST X G F (.Compare ea [opC op] [eb] pos) (.cmp op a b):=
 qAJ (L2.pt_cmpR (QA hu op) ha hb hm) λ_ _ _ q=>qBO (JM q)
theorem J2{o1 o2:COp}{σc:St}{H:Hp}{Q:VK}(q:tE X.K G F (.cmp2 o1 o2 a b c) σc H Q):L2.tChain (qFV X G o1) (qFV X G o2) (tE X.K G F a) (tE X.K G F b) (tE X.K G F c) σc H Q:=by
 obtain⟨φ,h,σ,v,h',R,rs,e,k⟩:=q;unfold ev at e;obtain⟨⟨x,h1⟩,e1,e⟩:=Res.bind_inv e;obtain⟨⟨y,h2⟩,e2,e⟩:=Res.bind_inv e;refine QJ R rs e1 e2 λφ2 H2 xc yc x2 R2 r1 r2=>?_;dsimp only at e;split at e
 ·rename_i et;refine⟨φ2,_,x,y,true,R2,r1,r2,et,true,rfl,?_⟩;rw[if_pos rfl];obtain⟨⟨z,h3⟩,e3,e⟩:=Res.bind_inv e;refine⟨φ2,_,σ,z,h3,R2,rst.mono x2 rs,e3,λφ3 H3 zc x3 R3 r3=>?_⟩;unfold N2 at e;dsimp only at e;split at e
  ·rename_i t et;cases e;exact⟨φ3,_,y,z,t,R3,rv.mono x3 r2,r3,et,k φ3 H3 _ (x2.trans x3) R3 rfl⟩
  ·cases e
 ·rename_i et;cases e;refine⟨φ2,_,x,y,false,R2,r1,r2,et,false,rfl,?_⟩;rw[if_neg (by decide)];exact k φ2 H2 _ x2 R2 rfl
 ·cases e
theorem qAM{o1 o2:COp}(hu:X.A.units+8<cLine)(ha:SE X G F ea a)(hb:SE X G F eb b)(hc:SE X G F ec c)(hm:lastMarks [opC o1,opC o2] [eb,ec]=false):SE X G F (.Compare ea [opC o1,opC o2] [eb,ec] pos) (.cmp2 o1 o2 a b c):=
 qp (L2.pe_chain (QA hu o1) (QA hu o2) ha hb hc hm) λ_ _ _=>J2
theorem n8{o1 o2:COp}(hu:X.A.units+8<cLine)(ha:SE X G F ea a)(hb:SE X G F eb b)(hc:SE X G F ec c)(hm:lastMarks [opC o1,opC o2] [eb,ec]=false):ST X G F (.Compare ea [opC o1,opC o2] [eb,ec] pos) (.cmp2 o1 o2 a b c):=
 qAJ (L2.pt_chain (QA hu o1) (QA hu o2) ha hb hc hm) λ_ _ _ q=>J2 (JM q)
theorem qCZ{σc:St}{H:Hp}{Q:VK}(q:tE X.K G F (.and a b) σc H Q):L2.tAndV (tE X.K G F a) (tE X.K G F b) σc H Q:=by
 obtain⟨φ,h,σ,v,h',R,rs,e,k⟩:=q;unfold ev at e;obtain⟨⟨x,h1⟩,e1,e⟩:=Res.bind_inv e;refine⟨φ,h,σ,.bl x,h1,R,rs,jC e1,λφ1 H1 w x1 R1 r1=>⟨x,zV r1,?_⟩⟩;dsimp only at e;cases x with
 |true=>
  rw[if_pos rfl]at e ⊢;exact⟨φ1,h1,σ,v,h',R1,rst.mono x1 rs,e,λφ2 H2 w2 x2 R2 r2=>k φ2 H2 w2 (x1.trans x2) R2 r2⟩
 |false=>
  rw[if_neg (by decide)]at e ⊢;cases e;exact k φ1 H1 _ x1 R1 rfl
theorem qFK{σc:St}{H:Hp}{Q:VK}(q:tE X.K G F (.or a b) σc H Q):L2.tOrV (tE X.K G F a) (tE X.K G F b) σc H Q:=by
 obtain⟨φ,h,σ,v,h',R,rs,e,k⟩:=q;unfold ev at e;obtain⟨⟨x,h1⟩,e1,e⟩:=Res.bind_inv e;refine⟨φ,h,σ,.bl x,h1,R,rs,jC e1,λφ1 H1 w x1 R1 r1=>⟨x,zV r1,?_⟩⟩;dsimp only at e;cases x with
 |false=>
  rw[if_neg (by decide)]at e ⊢;exact⟨φ1,h1,σ,v,h',R1,rst.mono x1 rs,e,λφ2 H2 w2 x2 R2 r2=>k φ2 H2 w2 (x1.trans x2) R2 r2⟩
 |true=>
  rw[if_pos rfl]at e ⊢;cases e;exact k φ1 H1 _ x1 R1 rfl
theorem qDR{σc:St}{H:Hp}{Q:Bool->Hp->Prop}(q:tT X.K G F (.and a b) σc H Q):L2.tAnd (tT X.K G F a) (tT X.K G F b) σc H Q:=by
 obtain⟨φ,h,σ,t,h',R,rs,e,k⟩:=q;have e:=jC e;unfold ev at e;obtain⟨⟨x,h1⟩,e1,e⟩:=Res.bind_inv e;refine⟨φ,h,σ,x,h1,R,rs,e1,λφ1 H1 x1 R1=>?_⟩;dsimp only at e;cases x with
 |true=>
  rw[if_pos rfl]at e ⊢;exact⟨φ1,h1,σ,t,h',R1,rst.mono x1 rs,O6 e,λφ2 H2 x2 R2=>k φ2 H2 (x1.trans x2) R2⟩
 |false=>
  rw[if_neg (by decide)]at e ⊢;cases e;exact k φ1 H1 x1 R1
theorem qGt{σc:St}{H:Hp}{Q:Bool->Hp->Prop}(q:tT X.K G F (.or a b) σc H Q):L2.tOr (tT X.K G F a) (tT X.K G F b) σc H Q:=by
 obtain⟨φ,h,σ,t,h',R,rs,e,k⟩:=q;have e:=jC e;unfold ev at e;obtain⟨⟨x,h1⟩,e1,e⟩:=Res.bind_inv e;refine⟨φ,h,σ,x,h1,R,rs,e1,λφ1 H1 x1 R1=>?_⟩;dsimp only at e;cases x with
 |false=>
  rw[if_neg (by decide)]at e ⊢;exact⟨φ1,h1,σ,t,h',R1,rst.mono x1 rs,O6 e,λφ2 H2 x2 R2=>k φ2 H2 (x1.trans x2) R2⟩
 |true=>
  rw[if_pos rfl]at e ⊢;cases e;exact k φ1 H1 x1 R1
variable (X G F) in
abbrev SW(e:Expr)(a:E):Prop:=PW X e (tT X.K G F a)
theorem qD1{e:Expr}{t t':TT}(h:PW X e t)(w:∀σ H Q,t' σ H Q->t σ H Q):PW X e t':=λwh pins s σ H Q I q=>h wh pins s σ H Q I (w σ H Q q)
theorem qEX{jz:List Expr}(ha:SE X G F ea a)(hb:SE X G F (.BoolOp .And (eb::jz) pos) b):SE X G F (.BoolOp .And (ea::eb::jz) pos) (.and a b):=qp (L2.pe_and ha hb) λ_ _ _=>qCZ
theorem qG0{jz:List Expr}(ha:SE X G F ea a)(hb:SE X G F (.BoolOp .Or (eb::jz) pos) b):SE X G F (.BoolOp .Or (ea::eb::jz) pos) (.or a b):=qp (L2.pe_or ha hb) λ_ _ _=>qFK
theorem qDX{jz:List Expr}(ha:ST X G F ea a)(hb:SW X G F (.BoolOp .And (eb::jz) pos) b):SW X G F (.BoolOp .And (ea::eb::jz) pos) (.and a b):=qD1 (L2.pw_and ha hb) λ_ _ _=>qDR
theorem qGl{jz:List Expr}(ha:ST X G F ea a)(hb:SW X G F (.BoolOp .Or (eb::jz) pos) b):SW X G F (.BoolOp .Or (ea::eb::jz) pos) (.or a b):=qD1 (L2.pw_or ha hb) λ_ _ _=>qGt
theorem qD2(ha:SE X G F ea a):SE X G F (.UnaryOp .Not ea pos) (.not a):=by
 refine qp (L2.pe_not ha) λσc H Q q=>?_;obtain⟨φ,h,σ,v,h',R,rs,e,k⟩:=q;unfold ev at e;obtain⟨⟨x,h1⟩,e1,e⟩:=Res.bind_inv e;cases e;exact⟨φ,h,σ,.bl x,_,R,rs,jC e1,λφ1 H1 w x1 R1 r1=>⟨x,zV r1,k φ1 H1 _ x1 R1 rfl⟩⟩
theorem qDF(ha:ST X G F ea a):ST X G F (.UnaryOp .Not ea pos) (.not a):=by
 refine qAJ (L2.pt_not ha) λσc H Q q=>?_;obtain⟨φ,h,σ,t,h',R,rs,e,k⟩:=q;have e:=jC e;unfold ev at e;obtain⟨⟨x,h1⟩,e1,e⟩:=Res.bind_inv e;cases e;exact⟨φ,h,σ,x,_,R,rs,e1,λφ1 H1 x1 R1=>k φ1 H1 x1 R1⟩
theorem qEQ(hc:ST X G F ec c)(ha:SE X G F ea a)(hb:SE X G F eb b):SE X G F (.IfExp ec ea eb pos) (.ite c a b):=by
 refine qp (L2.pe_ifExp hc ha hb) λσc H Q q=>?_;obtain⟨φ,h,σ,v,h',R,rs,e,k⟩:=q;unfold ev at e;obtain⟨⟨x,h1⟩,e1,e⟩:=Res.bind_inv e;refine⟨φ,h,σ,x,h1,R,rs,e1,λφ1 H1 x1 R1=>?_⟩;dsimp only at e;cases x with
 |true=>
  rw[if_pos rfl]at e ⊢;exact⟨φ1,h1,σ,v,h',R1,rst.mono x1 rs,e,λφ2 H2 w2 x2 R2 r2=>k φ2 H2 w2 (x1.trans x2) R2 r2⟩
 |false=>
  rw[if_neg (by decide)]at e ⊢;exact⟨φ1,h1,σ,v,h',R1,rst.mono x1 rs,e,λφ2 H2 w2 x2 R2 r2=>k φ2 H2 w2 (x1.trans x2) R2 r2⟩
theorem qD8(hc:ST X G F ec c)(ha:ST X G F ea a)(hb:ST X G F eb b):ST X G F (.IfExp ec ea eb pos) (.ite c a b):=by
 intro pins s σc H Q I q;obtain⟨φ,h,σ,t,h',R,rs,e,k⟩:=q;have e:=jC e;unfold ev at e;obtain⟨⟨x,h1⟩,e1,e⟩:=Res.bind_inv e;refine isTrue_IfExp (L2.thn (hc pins s σc H (λz H1=>(z=true->tT X.K G F a σc H1 Q)/\(z=false->tT X.K G F b σc H1 Q)) I ⟨φ,h,σ,x,h1,R,rs,e1,λφ1 H1 x1 R1=>?_⟩) λz s1 ⟨H1,I1,q1,q2⟩=>?_)
 ·dsimp only at e;cases x with
  |true=>
   rw[if_pos rfl]at e;exact⟨λ_=>⟨φ1,h1,σ,t,h',R1,rst.mono x1 rs,O6 e,λφ2 H2 x2 R2=>k φ2 H2 (x1.trans x2) R2⟩,λz=>nomatch z⟩
  |false=>
   rw[if_neg (by decide)]at e;exact⟨(λz=>nomatch z),λ_=>⟨φ1,h1,σ,t,h',R1,rst.mono x1 rs,O6 e,λφ2 H2 x2 R2=>k φ2 H2 (x1.trans x2) R2⟩⟩
 ·cases z with
  |true=>exact ha pins s1 σc H1 Q I1 (q1 rfl)
  |false=>exact hb pins s1 σc H1 Q I1 (q2 rfl)
noncomputable def qN:Expr->Bool
 | .Starred ..=>false
 |_=>true
theorem qB{e:Expr}{env:Env}(h:qN e=true):starEach (e::es) env=(false,eval e env)::starEach es env:=by
 cases e<;>first|rfl|cases h
theorem zn{env:Env}:∀{es:List Expr},es.all qN=true->(backTo pos (starEach es env)).any (·.1)=false
 | [],_=>rfl
 |e::es,h=>by
  simp only[List.all_cons,Bool.and_eq_true]at h;rw[qB h.1];show (false||(backTo pos (starEach es env)).any (·.1))=false;rw[zn h.2];rfl
theorem qAy:SA X G F [] .nil:=by
 refine qAX L2.pa_nil λσc H Q q=>?_;obtain⟨φ,h,σ,v,h',R,rs,e,k⟩:=q;unfold evs at e;cases e;exact k φ H [] (.refl _) R .nil
theorem d7(hn:qN ea=true)(ha:SE X G F ea a)(hr:SA X G F es as):SA X G F (ea::es) (.cons a as):=by
 refine qAX (L2.pa_cons ha hr (qB hn)) λσc H Q q=>?_;obtain⟨φ,h,σ,v,h',R,rs,e,k⟩:=q;unfold evs at e;obtain⟨⟨x,h1⟩,e1,e⟩:=Res.bind_inv e;obtain⟨⟨xs,h2⟩,e2,e⟩:=Res.bind_inv e;cases e;exact⟨φ,h,σ,x,h1,R,rs,e1,λφ1 H1 w x1 R1 r1=>⟨φ1,h1,σ,xs,_,R1,rst.mono x1 rs,e2,λφ2 H2 ws x2 R2 r2=>k φ2 H2 _ (x1.trans x2) R2 (.cons (rv.mono x2 r1) r2)⟩⟩
theorem qDb(h:SA X G F es as):SE X G F (.List es pos) (.lst as):=by
 refine qp (L2.pe_lst h) λσc H Q q=>?_;obtain⟨φ,h,σ,v,h',R,rs,e,k⟩:=q;unfold ev at e;obtain⟨⟨xs,h1⟩,e1,e⟩:=Res.bind_inv e;refine⟨φ,h,σ,xs,h1,R,rs,e1,λφ1 H1 ws x1 R1 r1=>?_⟩;dsimp only at e;split at e
 ·rename_i hl;cases e;refine⟨by rw[<-Paired.length r1];exact Nat.le_trans hl QO,λp hp=>k (φ1++[p]) _ _ (x1.trans ⟨[p],rfl⟩) (R1.newL hp r1) R1.lastRef⟩
 ·cases e
theorem W0:SE X G F (.Dict [] [] pos) .dnew:=by
 intro pins s σc H Q I q;obtain⟨φ,h,σ,v,h',R,rs,e,k⟩:=q;unfold ev at e;cases e;have hbig:sysModules<s.heap.objs.size:=wX (by decide) (I.mod.glob.keeps I.bk).lt;have hn:=I.hok.fresh (Nat.le_refl s.heap.objs.size);exact wpAny_Dict_empty ⟨.ref s.heap.objs.size,_,I.laid (a:=s.heap.objs.size) (o:=.dK []) (t':=s.toks) (λ_ _ q=>Heap.get?_push_of_some _ q) (Nat.le_refl _)
  ⟨Nat.zero_le _,beq_eq_false_iff_ne.mpr (Ne.symm (wK hbig)),[],.nil,Heap.DictOf.new s.heap⟩,rfl,
  k (φ++[s.heap.objs.size]) _ _ ⟨[s.heap.objs.size],rfl⟩ (R.new hn (o:=.ob (.dct [])) qG) R.lastRef⟩
theorem qAb {x1}(h:SA X G F es as):SE X G F (.Tuple es x1 pos) (.tup as):=by
 refine qp (L2.pe_tup h) λσc H Q q=>?_;obtain⟨φ,h,σ,v,h',R,rs,e,k⟩:=q;unfold ev at e;obtain⟨⟨xs,h1⟩,e1,e⟩:=Res.bind_inv e;refine⟨φ,h,σ,xs,h1,R,rs,e1,λφ1 H1 ws x1 R1 r1=>?_⟩;dsimp only at e;split at e
 ·rename_i hl;cases e;refine⟨by rw[<-Paired.length r1];exact Nat.le_trans hl QO,λp hp=>k (φ1++[p]) _ _ (x1.trans ⟨[p],rfl⟩) (R1.newT hp r1) R1.lastRef⟩
 ·cases e
variable (G F) in
noncomputable def spF(K:PySem.W.Frag)(f:Nat):L2.Sp:=λvs H Q _=>∃φ h ws v h',Rl K G φ h H/\rvs φ ws vs/\F f ws h=.ok (v,h')/\∀φ' H' w,Ext φ φ'->Rl K G φ' h' H'->rv φ' v w->Q w H'
variable (X G F) in
structure FnS(f:Nat)(x:Str):Prop where
 ex:∃k fa fd ps,L2.FnOk X.prog X.w X.K X.mg X.base L2.CX0 k fa fd ps (spF G F X.K f)/\L2.Room k X.A/\X.mg x=some (.ref fa)/\PySem.W.keepIn X.K (.ref fa)=true/\L2.Binds X.K fd ps []/\L2.Room k X.A.in1
theorem W8{f:Nat}{σc:St}{H:Hp}{Q:VK}(q:tE X.K G F (.call f as) σc H Q):L2.tCall (spF G F X.K f) [] L2.E0 (tL X.K G F as) σc H Q:=by
 obtain⟨φ,h,σ,v,h',R,rs,e,k⟩:=q;unfold ev at e;obtain⟨⟨xs,h1⟩,e1,e⟩:=Res.bind_inv e;refine⟨φ,h,σ,xs,h1,R,rs,e1,λφ1 H1 ws x1 R1 r1=>?_⟩;have e:F f xs h1=.ok (v,h'):=by
  have e:(F f xs h1).nx=.ok (v,h'):=e;revert e;generalize F f xs h1=r;cases r<;>intro e<;>first|exact e|cases e
 refine⟨φ1,h1,xs,v,h',R1,by rw[List.append_nil];exact r1,e,λφ2 H2 w x2 R2 r2=>k φ2 H2 w (x1.trans x2) R2 r2⟩
theorem Zt{f:Nat}{x:Str}{p:Pos}(hf:FnS X G F f x)(hg:L2.Gl X x)(hd:(x==("__debug__":Str))=false)(hn:qN ea=true)(hs:es.all qN=true)(ha:SA X G F (ea::es) as):SE X G F (.Call (.Name x p) (ea::es) [] pos) (.call f as):=by
 obtain⟨k,fa,fd,ps,h1,h2,h3,h4,h5,_⟩:=hf.ex;exact qp (L2.pe_call h1 h2 hg h3 h4 h5 .nil L2.pass0 ha hd (qB hn) (zn hs)) λ_ _ _=>W8
theorem m4{f:Nat}{x:Str}{p:Pos}(hf:FnS X G F f x)(hg:L2.Gl X x)(hd:(x==("__debug__":Str))=false):SE X G F (.Call (.Name x p) [] [] pos) (.call f .nil):=by
 obtain⟨k,fa,fd,ps,h1,h2,h3,h4,h5,_⟩:=hf.ex;refine qp (L2.pe_call0 h1 h2 hg h3 h4 h5 .nil L2.pass0 hd) λσc H Q q=>?_;obtain⟨φ,h,σ,vs,h',R,rs,e,k⟩:=W8 q;unfold evs at e;cases e;exact k φ H [] (.refl _) R .nil
theorem qA3{f:BF}{σc:St}{H:Hp}{Q:VK}(q:tE X.K G F (.blt f as) σc H Q):L2.tCB (qHj X G f) (tL X.K G F as) σc H Q:=by
 obtain⟨φ,h,σ,v,h',R,rs,e,k⟩:=q;unfold ev at e;obtain⟨⟨xs,h1⟩,e1,e⟩:=Res.bind_inv e;exact⟨φ,h,σ,xs,h1,R,rs,e1,λφ1 H1 ws x1 R1 r1=>⟨φ1,h1,xs,v,h',R1,r1,e,λφ2 H2 w x2 R2 r2=>k φ2 H2 w (x1.trans x2) R2 r2⟩⟩
theorem qDK{f:BF}{x:Str}{p:Pos}(hc:X.calm=true)(hu:X.A.units+8<cLine)(hgd:X.A.guards=some [])(hg:L2.Gl X x)(hm:X.mg x=none)(hv:bootBuiltins x=some (fnB f))(hn:qN ea=true)(hs:es.all qN=true)(ha:SA X G F (ea::es) as)
  (h1:x≠"__name__") (h2:(x==("__debug__":Str))=false):SE X G F (.Call (.Name x p) (ea::es) [] pos) (.blt f as):=by
 have rule:=g8 (G:=G) hc hu hgd f;cases f
 all_goals first
  |exact qp (L2.pe_callB rule hg hm hv ha h1 h2 (qB hn) (zn hs)) λ_ _ _=>qA3
  |exact qp (L2.pe_callTy rule hg hm hv ha h1 h2 (qB hn) (zn hs)) λ_ _ _=>qA3
noncomputable def Ju(t:String):Bool:=t=="int"||t=="bool"||t=="list"||t=="tuple"||t=="str"||t=="dict"
theorem ZH(K:PySem.W.Frag):∀{t c:String},(t="NoneType"\/t="bool"\/t="int"\/t="str"\/t="list"\/t="tuple"\/t="dict")->Ju c=true->PySem.W.kitOne K (.type t) (.type c)=some (zE t c):=by
 intro t c ht hc;have hc':c="int"\/c="bool"\/c="list"\/c="tuple"\/c="str"\/c="dict":=by
  simp only[Ju,wm,beq_iff_eq]at hc;rcases hc with((((h|h)|h)|h)|h)|h<;>simp[h]
 rcases ht with rfl|rfl|rfl|rfl|rfl|rfl|rfl<;>rcases hc' with rfl|rfl|rfl|rfl|rfl|rfl<;>kernel_rfl
variable (X G) in
def qJB(c:String):List V->Hp->VK->Prop:=λxs H Q=>∃φ h xa x t,xs=[x,.ty c]/\Rl X.K G φ h H/\rv φ xa x/\zw h xa=some t/\Q (.bl (zE t c)) H
theorem Z5{c:String}(hc:Ju c=true):qq X (.builtin "isinstance") (qJB X G c):=by
 intro pins s σ H xs us Q I r ⟨φ,h,xa,x,t,e,R,rx,ht,q⟩;subst e;obtain⟨u,u2,rfl,r1,r2⟩:=L2.vals2 r;cases (show u2=Value.type c from r2);have fin:∀tk,EP X pins σ Q (.bool (zE t c)) { s with toks:=tk }:=λtk=>⟨.bl (zE t c),H,I.tok tk,rfl,q⟩
 cases xa with
 |non=>cases zB rx;cases r1;cases ht;exact PySem.W.kia_one PySem.W.kitx_none I.kIn True.intro (ZH _ (by simp) hc) (λz=>nomatch z) fin
 |bl i=>cases zV rx;cases r1;cases ht;exact PySem.W.kia_one PySem.W.kitx_bool I.kIn True.intro (ZH _ (by simp) hc) (λz=>nomatch z) fin
 |int i=>cases qC rx;obtain⟨t',rfl⟩:=r1;cases ht;exact PySem.W.kia_one PySem.W.kitx_int I.kIn True.intro (ZH _ (by simp) hc) (λz=>nomatch z) fin
 |str i=>cases zR rx;obtain⟨t',rfl⟩:=r1;cases ht;exact PySem.W.kia_one PySem.W.kitx_str I.kIn True.intro (ZH _ (by simp) hc) (λz=>nomatch z) fin
 |ref i=>
  obtain⟨p,rfl,hp⟩:=qK rx;cases r1;cases ey:h[i]? with
  |none=>rw[show zw h (.ref i)=none by simp only[zw,ey]]at ht;cases ht
  |some o=>
   cases o with
   |lst fz ys=>
    rw[show zw h (.ref i)=some "list" by simp only[zw,ey]]at ht;cases ht;obtain⟨p',zs,hp',hs,rs⟩:=R.lst (i:=i) (xs:=ys) (by unfold qM;rw[ey]);rw[hp]at hp';cases hp';obtain⟨its,_,pl,_⟩:=I.list hs;obtain⟨o,ho,hcl,_⟩:=pl.isList;exact PySem.W.kia_one PySem.W.kitx_list I.kIn ⟨o,ho,hcl⟩ (ZH _ (by simp) hc) (λz=>nomatch z) fin
   |tup ys=>
    rw[show zw h (.ref i)=some "tuple" by simp only[zw,ey]]at ht;cases ht;obtain⟨p',zs,hp',hs,rs⟩:=R.tup (i:=i) (xs:=ys) (by unfold qc;rw[ey]);rw[hp]at hp';cases hp';obtain⟨its,_,pl,_⟩:=I.tuple hs;obtain⟨o,ho,hcl,_⟩:=pl;exact PySem.W.kia_one PySem.W.kitx_tuple I.kIn ⟨o,ho,hcl⟩ (ZH _ (by simp) hc) (λz=>nomatch z) fin
   |ob ks=>
    cases ks with
    |exn c=>rw[show zw h (.ref i)=none by simp only[zw,ey]]at ht;cases ht
    |dct kvs=>
     rw[show zw h (.ref i)=some "dict" by simp only[zw,ey]]at ht;cases ht;obtain⟨p',hp',hs⟩:=R.at ey;rw[hp]at hp';cases hp';obtain⟨_,_,vs,_,o,es,ep,h1,h2,_⟩:=(show L2.ObjOk X.prog X.w H s.heap p (.dK (kvs.map kk)) from I.hok p _ hs)
     exact PySem.W.kia_one PySem.W.kitx_dict I.kIn ⟨o,h1,h2.1⟩ (ZH _ (by simp) hc) (λz=>nomatch z) fin
 |_=>cases ht
theorem qEo{c:String}{xc:Str}{p pc:Pos}(hc:Ju c=true)(hg:L2.Gl X "isinstance")(hm:X.mg "isinstance"=none)(hgc:L2.Gl X xc)(hmc:X.mg xc=none)(hvc:bootBuiltins xc=some (.type c))(hn1:xc≠"__name__")(hn2:(xc==("__debug__":Str))=false)
  (hn:qN ea=true) (ha:SE X G F ea a):SE X G F (.Call (.Name "isinstance" p) [ea,.Name xc pc] [] pos) (.isi a [c]):=by
 refine qp (L2.pe_callB (Z5 (G:=G) hc) hg hm PyProof.Rows.boot_isinstance (L2.pa_cons ha (L2.pa_cons (L2.pe_bltn (v:=.ty c) hgc hmc hvc rfl hn1 hn2) L2.pa_nil rfl) (qB hn)) (by decide) (by decide) (qB hn) rfl) λσc H Q q=>?_;obtain⟨φ,h,σ,v,h',R,rs,e,k⟩:=q;unfold ev at e;obtain⟨⟨x,h1⟩,e1,e⟩:=Res.bind_inv e;refine⟨φ,h,σ,x,h1,R,rs,e1,λφ1 H1 w x1 R1 r1=>?_⟩;dsimp only at e;split at e
 ·rename_i t et;cases e;refine⟨φ1,_,x,w,t,rfl,R1,r1,et,?_⟩;have:=k φ1 H1 (.bl ([c].any (zE t))) x1 R1 rfl;simpa using this
 ·cases e
noncomputable def Qn:Expr->Bool
 | .Slice ..=>false
 |_=>true
theorem P8{e:Expr}(h:Qn e=true):L2.PlainIx e:=by
 intro o i;cases e<;>first|rfl|cases h
theorem o0{φ:List Addr}{x:V}(h:flat x=true):rv φ x x:=by
 cases Jt (φ:=φ) (xs:=[x]) (by simp[h]) with
 |cons r _=>exact r
theorem qFH(hb':Qn eb=true)(ha:SE X G F ea a)(hb:SE X G F eb b):SE X G F (.Subscript ea eb pos) (.idx a b):=by
 refine qp (L2.pe_ix (L2.ix_list.or L2.ix_tup) ha hb (P8 hb')) λσc H Q q=>?_;obtain⟨φ,h,σ,v,h',R,rs,e,k⟩:=q;unfold ev at e;obtain⟨⟨x,h1⟩,e1,e⟩:=Res.bind_inv e;obtain⟨⟨y,h2⟩,e2,e⟩:=Res.bind_inv e;refine QJ R rs e1 e2 λφ2 H2 xc yc x2 R2 r1 r2=>?_;cases x with
 |ref p=>
  cases y with
  |int i=>
   dsimp only at e;split at e
   ·rename_i xs ex;split at e
    ·rename_i w ew;cases e;obtain⟨p',zs,hp',hs,rs'⟩:=R2.its ex;obtain⟨q,rfl,hq⟩:=qK r1;rw[hp']at hq;cases hq;cases qC r2;obtain⟨j,ej,ew⟩:=Option.bind_eq_some_iff.mp ew;obtain⟨w',hw',rw'⟩:=qH rs' ew;have hat:L2.atI zs i=some w':=by
      unfold L2.atI;rw[<-Paired.length rs'];exact Option.bind_eq_some_iff.mpr ⟨j,ej,hw'⟩
     rcases hs with hs|hs
     ·exact .inl ⟨_,zs,i,w',rfl,rfl,hs,hat,k φ2 H2 w' x2 R2 rw'⟩
     ·exact .inr ⟨_,zs,i,w',rfl,rfl,hs,hat,k φ2 H2 w' x2 R2 rw'⟩
    ·cases e
   ·cases e
  |_=>cases e
 |_=>cases e
theorem ZY{φ:List Addr}{xs ys:List V}(r:rvs φ xs ys)(lo hi:Option Int):rvs φ (L2.cutV xs lo hi) (L2.cutV ys lo hi):=by
 unfold L2.cutV;rw[Paired.length r];exact zY _ (jf _ r)
variable (X G F) in
def SO(o:Option Expr)(as:Es):Prop:=L2.PO X o λσc H Q=>∃φ h σ is h',Rl X.K G φ h H/\rst φ σ σc/\(∃vs,evs F as σ h=.ok (vs,h')/\jW vs=some is)/\∀φ' H',Ext φ φ'->Rl X.K G φ' h' H'->Q is.head? H'
theorem qC2:SO X G F none .nil:=by
 intro pins s σc H Q I q;obtain⟨φ,h,σ,is,h',R,rs,⟨vs,e,ei⟩,k⟩:=q;unfold evs at e;cases e;cases ei;exact L2.po_none pins s σc H Q I (k φ H (.refl _) R)
theorem qCh(ha:SE X G F ea a):SO X G F (some ea) (.cons a .nil):=by
 intro pins s σc H Q I q;obtain⟨φ,h,σ,is,h',R,rs,⟨vs,e,ei⟩,k⟩:=q;unfold evs at e;obtain⟨⟨x,h1⟩,e1,e⟩:=Res.bind_inv e;unfold evs at e;cases e;refine L2.po_some ha pins s σc H Q I ⟨φ,h,σ,x,_,R,rs,e1,λφ1 H1 w x1 R1 r1=>?_⟩;have hm:=Ze ei;cases is with
 |nil=>cases hm
 |cons i r=>
  simp only[List.map_cons,List.cons.injEq]at hm;obtain⟨rfl,_⟩:=hm;cases qC r1;exact⟨i,rfl,k φ1 H1 x1 R1⟩
theorem qDd{lo hi:Option Expr}{al ah:Es}{p2:Pos}(ha:SE X G F ea a)(hl:SO X G F lo al)(hh:SO X G F hi ah):SE X G F (.Subscript ea (.Slice lo hi none p2) pos) (.sl a al ah):=by
 refine qp (L2.pe_slice (L2.SlR.or L2.sl_list L2.sl_tup) ha hl hh) λσc H Q q=>?_;obtain⟨φ,h,σ,v,h',R,rs,e,k⟩:=q;unfold ev at e;obtain⟨⟨x,h1⟩,e1,e⟩:=Res.bind_inv e;obtain⟨⟨l,h2⟩,e2,e⟩:=Res.bind_inv e;obtain⟨⟨u,h3⟩,e3,e⟩:=Res.bind_inv e;cases x with
 |ref p=>
  cases eil:jW l with
  |none=>dsimp only at e;rw[eil]at e;cases e
  |some il=>
   cases eiu:jW u with
   |none=>dsimp only at e;rw[eil,eiu]at e;cases e
   |some iu=>
    dsimp only at e;rw[eil,eiu]at e;dsimp only at e;split at e
    ·rename_i xs ex;cases e;refine⟨φ,h,σ,_,h1,R,rs,e1,λφ1 H1 w x1 R1 r1=>?_⟩;refine⟨φ1,h1,σ,il,h2,R1,rst.mono x1 rs,⟨l,e2,eil⟩,λφ2 H2 x2 R2=>?_⟩;refine⟨φ2,h2,σ,iu,h3,R2,rst.mono (x1.trans x2) rs,⟨u,e3,eiu⟩,λφ3 H3 x3 R3=>?_⟩;obtain⟨p',zs,hp',hs,rs'⟩:=R3.lst ex;obtain⟨q,rfl,hq⟩:=qK (rv.mono (x2.trans x3) r1);rw[hp']at hq;cases hq;exact .inl ⟨_,zs,rfl,hs,λm hm=>k (φ3++[m]) _ _ ((x1.trans (x2.trans x3)).trans ⟨[m],rfl⟩) (R3.newL hm (ZY rs' _ _)) R3.lastRef⟩
    ·split at e
     ·rename_i xs ex;split at e
      ·cases e
      ·rename_i hw;cases e;refine⟨φ,h,σ,_,h1,R,rs,e1,λφ1 H1 w x1 R1 r1=>?_⟩;refine⟨φ1,h1,σ,il,h2,R1,rst.mono x1 rs,⟨l,e2,eil⟩,λφ2 H2 x2 R2=>?_⟩;refine⟨φ2,h2,σ,iu,h3,R2,rst.mono (x1.trans x2) rs,⟨u,e3,eiu⟩,λφ3 H3 x3 R3=>?_⟩;obtain⟨p',zs,hp',hs,rs'⟩:=R3.tup ex;obtain⟨q,rfl,hq⟩:=qK (rv.mono (x2.trans x3) r1);rw[hp']at hq;cases hq;exact .inr ⟨_,zs,rfl,hs,by rw[<-Paired.length rs'];exact hw,λm hm=>k (φ3++[m]) _ _ ((x1.trans (x2.trans x3)).trans ⟨[m],rfl⟩) (R3.newT hm (ZY rs' _ _)) R3.lastRef⟩
     ·cases e
 |_=>cases e
theorem qDs{apos cpos:Pos}(hbase:attributeBase ea "append" X.env (eval ea X.env)=eval ea X.env)(hline:(apos.endLine==cpos.line)=true)(hn:qN eb=true)(ha:SE X G F ea a)(hb:SE X G F eb b):
  SE X G F (.Call (.Attribute ea "append" apos) [eb] [] cpos) (.app a b):=by
 refine qp (L2.pe_bm PySem.F.plainAttrs_list PySem.F.slot_list_append PySem.F.type_list_append L2.mt_append ha (L2.pa_cons hb L2.pa_nil (qB hn)) hbase (by rw[qB hn];rfl) hline (qB hn) rfl) λσc H Q q=>?_;obtain⟨φ,h,σ,v,h',R,rs,e,k⟩:=q;unfold ev at e;obtain⟨⟨x,h1⟩,e1,e⟩:=Res.bind_inv e;dsimp only at e;split at e
 ·rename_i p;split at e
  ·rename_i ys ey;obtain⟨⟨y,h2⟩,e2,e⟩:=Res.bind_inv e;dsimp only at e;split at e
   ·rename_i xs ex;split at e
    ·rename_i hl;cases e;refine⟨φ,h,σ,_,h1,R,rs,e1,λφ1 H1 w x1 R1 r1=>?_⟩;obtain⟨p1,zs1,hp1,hs1,_⟩:=R1.lst ey;obtain⟨q,rfl,hq⟩:=qK r1;rw[hp1]at hq;cases hq;refine⟨.inl ⟨rfl,_,hs1⟩,φ1,h1,σ,y,h2,R1,rst.mono x1 rs,e2,λφ2 H2 yc x2 R2 r2=>?_⟩;obtain⟨q1,p2,zs2,hp2,hH2,rs2⟩:=R2.mut ex;have:=x2.get hp1;rw[hp2]at this;cases this;refine⟨_,zs2,yc,rfl,rfl,hH2,?_,k φ2 _ _ (x1.trans x2) (R2.set q1 hp2 (qU rs2 (.cons r2 .nil))) trivial⟩;rw[<-Paired.length rs2];exact wX hl qBB
    ·cases e
   ·cases e
  ·cases e
 ·cases e
theorem Rl.same{K:PySem.W.Frag}{G φ:List Addr}{h:AH}{H H':Hp}(R:Rl K G φ h H)(s:ZL H H'):Rl K G φ h H':=⟨R.len,R.glob,λi o a e1 e2=>(R.obj i o a e1 e2).keep (.refl _) s,R.inj⟩
theorem B4{φ:List Addr}:∀{xs:List V},xs.all flat=true->rvs φ xs xs
 | [],_=>.nil
 |x::xs,h=>by
  simp only[List.all_cons,Bool.and_eq_true]at h;refine .cons ?_ (B4 h.2);cases x<;>first|rfl|exact trivial|(cases h.1)
theorem Qm{α β:Type}{R:α->β->Prop}{xs:List α}{us:List β}(h:Paired R xs us)(k:Nat):Paired R (xs.eraseIdx k) (us.eraseIdx k):=by
 rw[wW,wW];exact qU (zY _ h) (jf _ h)
theorem W7:qq X (.type "range") (λxs H Q=>∃j:Int,xs=[.int j]/\∀p,H p=none->Q (.ref p) (upd H p (.rng 0 j))):=by
 intro pins s σ H xs us Q I r ⟨j,e,q⟩;subst e;obtain⟨u,rfl,ru⟩:=L2.vals1 r;obtain⟨t,rfl⟩:=ru;refine call_range_1 ⟨.ref s.heap.objs.size,_,I.laid (λ_ _ q=>Heap.get?_push_of_some _ q) (Nat.le_refl _) ?_,rfl,q _ (I.hok.fresh (Nat.le_refl _))⟩;exact⟨_,_,_,Heap.get?_push_size _ rfl⟩
theorem JI{P:Nat->V}:∀{n:Nat}{acc:List Value},acc.length=n->(∀(j:Nat) v,acc[j]?=some v->RelV (P j) v)->Vals ((List.range n).map P) acc:=by
 intro n
 induction n with
 |zero=>intro acc hl _;cases acc with|nil=>exact .nil|cons _ _=>simp at hl
 |succ n ih=>
  intro acc hl ha;have hne:acc≠[]:=by intro z;subst z;simp at hl
  rw[List.range_succ,wd,<-List.dropLast_concat_getLast hne];have hd:acc.dropLast.length=n:=by rw[List.length_dropLast,hl];rfl
  refine qU (ih hd λj v e=>ha j v ?_) (.cons (ha n _ ?_) .nil)
  ·rw[<-List.dropLast_concat_getLast hne,List.getElem?_append_left (List.getElem?_eq_some_iff.mp e).1];exact e
  ·rw[wB (by omega),List.getLast_eq_getElem];congr 1;simp[hl]
theorem JD(hc:X.calm=true):qq X (.type "list") (λxs H Q=>∃p,∃j:Int,xs=[.ref p]/\H p=some (.rng 0 j)/\(-1000000<=j/\j<=100000)/\∀l,H l=none->Q (.ref l) (upd H l (.lst (jV 0 j.toNat)))):=by
 intro pins s σ H xs us Q I r ⟨p,j,e,hp,hj,q⟩;subst e;obtain⟨u,rfl,ru⟩:=L2.vals1 r;cases ru;obtain⟨t,u,v,hr⟩:=I.hok p _ hp;have hn:Builtin.Range.rangeSize 0 j 1=((j.toNat:Nat):Int):=by rw[rangeSize_one];split<;>omega
 refine call_list_range (I.ok.hd hc) hr (small_one (by omega) (by omega) (by omega) (by omega)) hn (by omega) λh' tk acc' c' hk hS hI=>?_;refine⟨.ref s.heap.objs.size,_,I.laid (t':=tk) hk (Nat.le_refl _) ?_,rfl,q _ (I.hok.fresh (Nat.le_refl _))⟩;obtain⟨i1,i2⟩:=hI;refine⟨?_,acc'.toList,c',JI (by simpa using i1) λk v e=>?_,by simpa using hS⟩
 ·have:=QO;unfold lim at this;rw[jV,wL,List.length_range];omega
 ·obtain⟨t',rfl⟩:=i2 k v (by simpa using e);exact⟨t',by rw[Int.mul_one]⟩
theorem qCe{p p2 pos2:Pos}(hc:X.calm=true)(hg:L2.Gl X "list")(hm:X.mg "list"=none)(hg2:L2.Gl X "range")(hm2:X.mg "range"=none)(hn:qN ea=true)(ha:SE X G F ea a):
  SE X G F (.Call (.Name "list" p) [.Call (.Name "range" p2) [ea] [] pos2] [] pos) (.lrng a):=by
 refine qp (L2.pe_callTy (JD hc) hg hm PyProof.Rows.boot_list (L2.pa_cons (L2.pe_callTy W7 hg2 hm2 PyProof.Rows.boot_range (L2.pa_cons ha L2.pa_nil (qB hn)) (by decide) (by decide) (qB hn) rfl) L2.pa_nil rfl) (by decide) (by decide) rfl rfl) λσc H Q q=>?_;obtain⟨φ,h,σ,v,h',R,rs,e,k⟩:=q;unfold ev at e;obtain⟨⟨x,h1⟩,e1,e⟩:=Res.bind_inv e;refine⟨φ,h,σ,x,h1,R,rs,e1,λφ1 H1 w x1 R1 r1=>?_⟩;cases x with
 |int j=>
  dsimp only at e;split at e
  ·rename_i hj;cases e;cases qC r1;refine⟨j,rfl,λp hp=>⟨p,j,rfl,qG,hj,λl hl=>?_⟩⟩;have hlp:l≠p:=by rintro rfl;rw[qG]at hl;cases hl
   have R2:Rl X.K G φ1 h1 (upd H1 p (.rng 0 j)):=R1.same (JL hp);exact k (φ1++[l]) _ _ (x1.trans ⟨[l],rfl⟩) (R2.newL hl (B4 (by simp[jV,flat]))) R2.lastRef
  ·cases e
 |_=>cases e
theorem qBY{m:Mt}{r:V->List V->Hp->VK->Prop}{σc:St}{H:Hp}{Q:VK}{as:Es}
  (hr:∀φ h H p ys ws v h' Q,Rl X.K G φ h H->rvs φ ys ws->D3 m p ys h=.ok (v,h')->(∀φ' H' w,Ext φ φ'->Rl X.K G φ' h' H'->rv φ' v w->Q w H')->∀a,φ[p]?=some a->r (.ref a) ws H Q)
  (q:tE X.K G F (.meth m a as) σc H Q):L2.tBM X.K "list" r (tE X.K G F a) (tL X.K G F as) σc H Q:=by
 obtain⟨φ,h,σ,v,h',R,rs,e,k⟩:=q;unfold ev at e;obtain⟨⟨x,h1⟩,e1,e⟩:=Res.bind_inv e;dsimp only at e;split at e
 ·rename_i p;split at e
  ·rename_i ys ey;obtain⟨⟨zs,h2⟩,e2,e⟩:=Res.bind_inv e;refine⟨φ,h,σ,_,h1,R,rs,e1,λφ1 H1 w x1 R1 r1=>?_⟩;obtain⟨p1,zs1,hp1,hs1,_⟩:=R1.lst ey;obtain⟨q,rfl,hq⟩:=qK r1;rw[hp1]at hq;cases hq;exact⟨.inl ⟨rfl,_,hs1⟩,φ1,h1,σ,zs,h2,R1,rst.mono x1 rs,e2,λφ2 H2 yc x2 R2 r2=>hr φ2 h2 H2 p zs yc v h' Q R2 r2 e (λφ3 H3 w x3 R3 r3=>k φ3 H3 w (x1.trans (x2.trans x3)) R3 r3) _ (x2.get hp1)⟩
  ·cases e
 ·cases e
theorem P1:∀φ h H p ys ws v h' Q,Rl X.K G φ h H->rvs φ ys ws->D3 .popAt p ys h=.ok (v,h')->(∀φ' H' w,Ext φ φ'->Rl X.K G φ' h' H'->rv φ' v w->Q w H')->∀a,φ[p]?=some a->L2.rPopAt (.ref a) ws H Q:=by
 intro φ h H p ys ws v h' Q R rw' e k a ha;unfold D3 at e;split at e
 all_goals first|(rename_i z _ _;cases z;done)|(rename_i z _;cases z;done)|(rename_i z;cases z;done)|skip
 ·cases rw' with
  |cons r1 t=>
   cases t;cases qC r1;split at e
   ·rename_i xs ex;split at e
    ·rename_i hl;split at e
     ·rename_i j ej;split at e
      ·rename_i y ey;cases e;obtain⟨q1,p2,zs2,hp2,hH2,rs2⟩:=R.mut ex;rw[ha]at hp2;cases hp2;obtain⟨w,hw,rw2⟩:=qH rs2 ey;obtain⟨s1,s2,s3,s4⟩:=L2.ixN_seq ej;have:=QO;unfold lim at hl;refine⟨a,zs2,_,j,w,rfl,rfl,hH2,by omega,by omega,by rw[<-Paired.length rs2];exact s1,hw,k φ _ _ (.refl _) (R.set q1 ha (Qm rs2 j)) rw2⟩
      ·cases e
     ·cases e
    ·cases e
   ·cases e
 ·cases e
theorem z9{apos cpos:Pos}(hbase:attributeBase ea "pop" X.env (eval ea X.env)=eval ea X.env)(hline:(apos.endLine==cpos.line)=true)(hn:qN eb=true)(ha:SE X G F ea a)(hb:SE X G F eb b):
  SE X G F (.Call (.Attribute ea "pop" apos) [eb] [] cpos) (.meth .popAt a (.cons b .nil)):=
 qp (L2.pe_bm PySem.F.plainAttrs_list PySem.F.slot_list_pop PySem.F.type_list_pop L2.mt_popAt ha (d7 hn hb qAy) hbase (by rw[qB hn];rfl) hline (qB hn) rfl) λ_ _ _=>qBY P1
end
open L2 (It Zi ZJ)
section
variable{X:Cx}
theorem P5:qq X (.type "int") (λxs H Q=>∃x n,xs=[.str x]/\PySem.intText? x=some n/\x.length<=640/\Q (.int n) H):=by
 intro pins s σ H xs us Q I r ⟨x,n,e,hn,hl,q⟩;subst e;obtain⟨u,rfl,t,rfl⟩:=L2.vals1 r;exact PySem.W.KIN.call_text hn hl ⟨.int n,H,I.tok _,⟨_,rfl⟩,q⟩
theorem Z9:∀{ys:List Str}{its:List Value},Vals (ys.map V.str) its->∃l:List (Str×Tok),its=strValues l/\l.map (·.1)=ys
 | [],_,.nil=>⟨[],rfl,rfl⟩
 |y::ys,_,.cons r rr=>by
  obtain⟨t,rfl⟩:=r;obtain⟨l,e1,e2⟩:=Z9 rr;subst e1;exact⟨(y,t)::l,rfl,by rw[List.map_cons,e2]⟩
theorem qEq{ys:List Str}(h1:ys.length<=1000)(h2:(ys.all λy=>decide (y.length<=1000))=true):JoinOk (Str.ofString "") ys=true:=by
 unfold JoinOk;rw[Bool.not_eq_true'];refine StrLaws.joinFits (B:=1000) (λy hy=>?_) ?_
 ·exact vH (wH.mp h2 y hy)
 ·have:(Str.ofString "").length=0:=rfl;rw[this];omega
theorem qCH:L2.MtR X "str.join" (λx vs H Q=>∃p ys,x=.str (Str.ofString "")/\vs=[.ref p]/\SqL X.K H p (ys.map V.str)/\JoinOk (Str.ofString "") ys=true/\Q (.str (Txt.join (Str.ofString "") ys)) H):=by
 intro pins s σ H x vs v us Q I rx rr ⟨p,ys,ex,ev',hs,hok,q⟩;subst ex ev';obtain⟨t,rfl⟩:=rx;obtain⟨u,rfl,ru⟩:=L2.vals1 rr;cases ru;obtain⟨its,rv',pl,_⟩:=I.list hs;obtain⟨l,rfl,hl⟩:=Z9 rv';exact SC.join (l:=l) pl.isList hl hok λt' k=>⟨.str _,H,I.tok k,⟨t',rfl⟩,q⟩
end
section
variable{X:Cx}{G:List Addr}{F:Nat->List V->AH->RV}{a b:E}{ea eb:Expr}{pos:Pos}
theorem v5{φ:List Addr}{x w:V}(h:flat x=true)(r:rv φ x w):w=x:=by
 cases x with
 |int i=>exact qC r
 |str i=>exact zR r
 |bl i=>cases w<;>first|(cases r;rfl)|cases r
 |non=>cases w<;>first|rfl|cases r
 |_=>cases h
theorem V0{o:TU}{r:List V->Hp->VK->Prop}(hr:∀x v H Q,G2 o x=some v->Q v H->r [x] H Q){σc:L2.St}{H:Hp}{Q:VK}(q:tE X.K G F (.txu o a) σc H Q):L2.tCB r (L2.tCons (tE X.K G F a) L2.tNil) σc H Q:=by
 obtain⟨φ,h,σ,v,h',R,rs,e,k⟩:=q;unfold ev at e;obtain⟨⟨x,h1⟩,e1,e⟩:=Res.bind_inv e;refine⟨φ,h,σ,x,h1,R,rs,e1,λφ1 H1 w x1 R1 r1=>?_⟩;dsimp only at e;split at e
 ·rename_i v' ev';cases e;have hw:w=x/\rv φ1 v v:=by
   obtain⟨f1,f2⟩:=Je ev';exact⟨v5 f1 r1,o0 f2⟩
  obtain⟨rfl,r2⟩:=hw;exact hr _ _ _ _ ev' (k φ1 H1 _ x1 R1 r2)
 ·cases e
theorem qBl{p:Pos}(hg:L2.Gl X "str")(hm:X.mg "str"=none)(hn:qN ea=true)(ha:SE X G F ea a):SE X G F (.Call (.Name "str" p) [ea] [] pos) (.txu .str a):=
 qp (L2.pe_callTy L2.call_str_int hg hm PyProof.Rows.boot_str (L2.pa_cons ha L2.pa_nil (qB hn)) (by decide) (by decide) (qB hn) rfl) λσc H Q q=>V0 (λx v H Q e q=>by
  cases x with
  |int i=>unfold G2 at e;dsimp only at e;split at e<;>first|(cases e;exact⟨i,rfl,‹_›,q⟩)|cases e
  |_=>cases e) q
theorem qCv{p:Pos}(hg:L2.Gl X "int")(hm:X.mg "int"=none)(hn:qN ea=true)(ha:SE X G F ea a):SE X G F (.Call (.Name "int" p) [ea] [] pos) (.txu .int a):=
 qp (L2.pe_callTy P5 hg hm PyProof.Rows.boot_int (L2.pa_cons ha L2.pa_nil (qB hn)) (by decide) (by decide) (qB hn) rfl) λσc H Q q=>V0 (λx v H Q e q=>by
  cases x with
  |str x=>
   unfold G2 at e;dsimp only at e;split at e
   ·obtain⟨n,e1,rfl⟩:=Option.map_eq_some_iff.mp e;exact⟨x,n,rfl,e1,‹_›,q⟩
   ·cases e
  |_=>cases e) q
theorem qCi{p:Pos}(hg:L2.Gl X "len")(hm:X.mg "len"=none)(hn:qN ea=true)(ha:SE X G F ea a):SE X G F (.Call (.Name "len" p) [ea] [] pos) (.txu .len a):=
 qp (L2.pe_callB L2.call_len_str hg hm PySem.boot_len (L2.pa_cons ha L2.pa_nil (qB hn)) (by decide) (by decide) (qB hn) rfl) λσc H Q q=>V0 (λx v H Q e q=>by
  cases x with
  |str x=>
   unfold G2 at e;dsimp only at e;split at e
   ·cases e;exact⟨x,rfl,Nat.le_trans ‹_› (by decide),q⟩
   ·cases e
  |_=>cases e) q
theorem Zb:∀{xs:List V}{ys:List Str},Zh xs=some ys->xs=ys.map V.str
 | [],_,e=>by cases e;rfl
 |x::xs,ys,e=>by
  cases x with
  |str y=>
   obtain⟨zs,e1,rfl⟩:=Option.map_eq_some_iff.mp (show (Zh xs).map (y::·)=some ys from e);rw[Zb e1];rfl
  |_=>cases e
theorem qCG{j:Nat}{p apos cpos:Pos}(hline:(apos.endLine==cpos.line)=true)(hn:qN ea=true)(ha:SE X G F ea a)(hbase:attributeBase (.Constant (.str (Str.ofString "")) j p) "join" X.env (eval (.Constant (.str (Str.ofString "")) j p) X.env)=eval (.Constant (.str (Str.ofString "")) j p) X.env):
  SE X G F (.Call (.Attribute (.Constant (.str (Str.ofString "")) j p) "join" apos) [ea] [] cpos) (.join a):=by
 refine qp (L2.pe_bm PySem.F.plainAttrs_str PySem.F.slot_str_join PySem.F.type_str_join qCH (L2.pe_str (x:=Str.ofString "")) (L2.pa_cons ha L2.pa_nil (qB hn)) hbase (by rw[qB hn];rfl) hline (qB hn) rfl) λσc H Q q=>?_;obtain⟨φ,h,σ,v,h',R,rs,e,k⟩:=q;unfold ev at e;obtain⟨⟨x,h1⟩,e1,e⟩:=Res.bind_inv e;refine⟨rfl,φ,h,σ,x,h1,R,rs,e1,λφ1 H1 w x1 R1 r1=>?_⟩;obtain⟨p,ep,e'⟩:=ze e;clear e;subst ep;split at e'
 ·rename_i xs ex;split at e'
  ·rename_i ys ey;split at e'
   ·rename_i hj;cases e';obtain⟨q',zs,hq,hs,rz⟩:=R1.lst ex;obtain⟨q'',rfl,hq'⟩:=qK r1;rw[hq]at hq';cases hq';have hm':=Zb ey;subst hm';have hz:=jP (by simp[flat]) rz;subst hz;exact⟨_,ys,rfl,rfl,hs,qEq hj.1 hj.2,k φ1 H1 _ x1 R1 rfl⟩
   ·cases e'
  ·cases e'
 ·cases e'
end
theorem qCB{φ:List Addr}{v w w':V}(a:rv φ v w)(b:rv φ v w'):w=w':=by
 cases v with
 |ref i=>
  obtain⟨x,rfl,e1⟩:=qK a;obtain⟨y,rfl,e2⟩:=qK b;rw[e1]at e2;cases e2;rfl
 |int i=>rw[qC a,qC b]
 |bl i=>rw[zV a,zV b]
 |str i=>rw[zR a,zR b]
 |non=>rw[zB a,zB b]
 |_=>cases w<;>cases a
theorem Qi{φ:List Addr}:∀{vs ws ws':List V},rvs φ vs ws->rvs φ vs ws'->ws=ws'
 |_,_,_,.nil,.nil=>rfl
 |_,_,_,.cons a r,.cons b s=>by rw[qCB a b,Qi r s]
theorem Rl.pre{K:PySem.W.Frag}{G φ φ':List Addr}{h h2:AH}{H0 H1:Hp}(R0:Rl K G φ h H0)(R1:Rl K G φ' h2 H1)(x:Ext φ φ')(ht:h2.take h.length=h):Rl K G φ h H1:=by
 have up:∀{i:Nat}{o:O},h[i]?=some o->h2[i]?=some o:=λ{i o} e=>by
  have hi:=(List.getElem?_eq_some_iff.mp e).1;rw[<-ht,wR hi]at e;exact e
 refine⟨R0.len,R0.glob,λi o a e ea=>?_,λi j u y a m1 m2 e1 e2 e3 e4=>R1.inj i j u y a m1 m2 (up e1) (up e2) (x.get e3) (x.get e4)⟩;have r1:=R1.obj i o a (up e) (x.get ea);have r0:=R0.obj i o a e ea
 match o,r0,r1 with
 | .lst false xs,⟨ys,_,p⟩,⟨ys',e',p'⟩=>rw[Qi p' (rvs.mono x p)]at e';exact⟨ys,e',p⟩
 | .lst true xs,⟨ys,_,p⟩,⟨ys',e',p'⟩=>rw[Qi p' (rvs.mono x p)]at e';exact⟨ys,e',p⟩
 | .tup xs,⟨ys,_,p⟩,⟨ys',e',p'⟩=>rw[Qi p' (rvs.mono x p)]at e';exact⟨ys,e',p⟩
 | .ob (.dct _),_,e'=>exact e'
 | .ob (.exn _),_,e'=>exact e'
abbrev Zf(h:Heap)(z ti to:Addr)(f0 f1:Value):Prop:=
 h.get? z=some { cls:=.type "zip",dict:=none,data:=.fields #[f0,f1,.bool false,.ref ti,.ref to],slots:=#[] }
section
variable{P:Program}{w:World}{K:Type}[DecidableEq K]{knd:KeyKind P w K}{A:Around}{E:Value->Shared->Prop}{z ti to i1 i2 a b d:Addr}{xs ys:Array Value}
def Left(knd:KeyKind P w K)(xs ys:Array Value)(k:Nat)(L:List (K×Value)):Prop:=
 (∀j p,L[j]?=some p->∃x,xs[k+j]?=some x/\knd.is p.1 x=true/\ys[k+j]?=some p.2)/\(xs[k+L.length]?=none\/ys[k+L.length]?=none)
theorem Left.next{k:Nat}{p:K×Value}{L:List (K×Value)}(h:Left knd xs ys k (p::L)):(∃x,xs[k]?=some x/\knd.is p.1 x=true/\ys[k]?=some p.2)/\Left knd xs ys (k+1) L:=by
 refine⟨by simpa using h.1 0 p rfl,λj q e=>?_,?_⟩
 ·have:=h.1 (j+1) q (by simpa using e);rw[show k+(j+1)=k+1+j by omega]at this;exact this
 ·have:=h.2;rw[List.length_cons,show k+(L.length+1)=k+1+L.length by omega]at this;exact this
noncomputable def qIA(kvs L:List (K×Value)):List (K×Value):=L.foldl (λacc p=>stored acc p.1 p.2) kvs
end
noncomputable def Itz(K:PySem.W.Frag)(a b:Addr):It:=
 ⟨λi H=>∃xs ys x y,SqL K H a xs/\SqL K H b ys/\xs[i]?=some x/\ys[i]?=some y,
  λi H v H'=>∃p x y,H p=none/\v=.ref p/\H'=upd H p (.tup [x,y])/\(∀xs,SqL K H a xs->xs[i]?=some x)/\∀ys,SqL K H b ys->ys[i]?=some y,
  λi H=>∃xs ys,SqL K H a xs/\SqL K H b ys/\(xs.length<=i\/ys.length<=i)⟩
theorem qB0{X:Cx}{pins:List (Addr×Obj)}{σ:L2.St}{H:Hp}{s:Shared}{h':Heap}{T:Addr}{xs:List V}{its:List Value}{ch:List Addr}{t':Nat}(I:Inv X pins σ H s)(hf:∀b∈ch,ZJ X pins H b)
  (hT:s.heap.objs.size<=T) (k:∀b o,b∉ch->s.heap.get? b=some o->h'.get? b=some o) (hp:IsTup h' T its.toArray) (hv:Vals xs its) (hz:xs.length<=sizeLine) (hTc:T∉ch):
  Inv X pins σ (upd H T (.tup xs)) { s with heap:=h',toks:=t' }:=by
 have hn:H T=none:=I.hok.fresh hT;have neT:∀b o,s.heap.get? b=some o->b≠T:=λb o e=>wK (wD (Heap.lt_size e) hT);refine I.step (g':=s.gens) (d':=s.drawn) (ch:=ch) (λb hb=>⟨(hf b hb).2.2.2.1,(hf b hb).2.1,(hf b hb).2.2.2.2.1,(hf b hb).2.2.2.2.2⟩) (λb o _ _ hc e _=>k b o hc e) (λb o _ _ hc e _=>⟨o.slots,k b o hc e⟩)
  (λb o _ e n=>by rw[qF (neT b o e)];exact n) (λb o hc e=>⟨o,k b o hc e⟩) (λb ys e=>by rw[qF (L2.ne_of_none e hn)];exact e) (λb o u e=>by rw[qF (L2.ne_of_none e hn)];exact e)
  (λb ps e=>⟨#[],by rw[qF (L2.ne_of_none e hn),e];simp⟩) (λm hm=>?_) (λb u e=>?_) I.bare
 ·obtain⟨o,es,ep,ho,r⟩:=hm;exact⟨o,es,ep,k _ o (λz=>(hf _ z).2.1 rfl) ho,r⟩
 ·by_cases hb:b=T
  ·subst hb;rw[qG]at e;cases e;exact⟨hz,its,hv,hp⟩
  ·rw[qF hb]at e;have nc:∀c u,H c=some u->c∉ch:=λc u q z=>by rw[(hf c z).1]at q;cases q
   refine(I.hok b u e).stay (λc v hc q=>k c v ?_ q) (λc q=>by rw[qF (L2.ne_of_none q hn)];exact q) λc ys q=>by rw[qF (L2.ne_of_none q hn)];exact q
   rcases hc with z|z
   ·rw[z];exact nc b u e
   ·exact nc c _ z
theorem qAD{P:Program}{w:World}{K:PySem.W.Frag}{elts:List Expr}{kk:Nat}{tpos:Pos}(z TI TO i1 i2 a b:Addr)(D:ZipApart z TI TO i1 i2 a b):
  Zi P w K (.Tuple elts kk tpos) (Itz K a b) [z,TI,TO,i1,i2] z (λi h=>IsZip h z TI TO .none/\IsPair h TI (.ref i1) (.ref i2)/\(∃x y,IsPair h TO x y)/\h.IsListIter i1 a i/\h.IsListIter i2 b i) where
 mem:=by simp
 obj:=λi h st c hc=>by
  obtain⟨h1,h2,⟨x,y,h3⟩,⟨o4,e4,c4,d4⟩,⟨o5,e5,c5,d5⟩⟩:=st;simp only[List.mem_cons,wI,or_false]at hc;rcases hc with rfl|rfl|rfl|rfl|rfl
  ·exact⟨_,h1,λv q=>by have q':Data.fields _=Data.cell v:=q;cases q'⟩
  ·exact⟨_,h2,λv q=>by have q':Data.seq _ _=Data.cell v:=q;cases q'⟩
  ·exact⟨_,h3,λv q=>by have q':Data.seq _ _=Data.cell v:=q;cases q'⟩
  ·exact⟨o4,e4,λv q=>by rw[d4]at q;cases q⟩
  ·exact⟨o5,e5,λv q=>by rw[d5]at q;cases q⟩
 keep:=λi h h' st k=>by
  obtain⟨h1,h2,⟨x,y,h3⟩,h4,h5⟩:=st;exact⟨k z (by simp) _ h1,k TI (by simp) _ h2,⟨x,y,k TO (by simp) _ h3⟩,h4.at λo e=>k i1 (by simp) o e,h5.at λo e=>k i2 (by simp) o e⟩
 item:=by
  intro X hP hw hK hc i pins s σ H E I hf st hg;subst hP hw hK;obtain⟨xs,ys,x,y,hq1,hq2,hx,hy⟩:=hg;obtain⟨its1,rv1,p1,_⟩:=I.list hq1;obtain⟨its2,rv2,p2,_⟩:=I.list hq2;obtain⟨u,hu,ru⟩:=rv1.get hx;obtain⟨w',hw',rw'⟩:=rv2.get hy;obtain⟨h1,h2,⟨ta,tb,h3⟩,h4,h5⟩:=st;refine wpAny_pyNext_zip_item D h1 h2 h3 h4 h5 p1.isList p2.isList (x:=u) (y:=w') (by simpa using hu) (by simpa using hw') λh' z1 z2 z3 z4 z5 z6 z7=>?_;refine⟨_,rfl,wpAny_letOwnedTupleGo_zip z1 λh'' g1 gs=>?_⟩;have lt:∀c∈[z,TI,TO,i1,i2],c≠s.heap.objs.size:=λc hc=>by
   have ex:∃o,s.heap.get? c=some o:=by
    simp only[List.mem_cons,wI,or_false]at hc;rcases hc with rfl|rfl|rfl|rfl|rfl
    ·exact⟨_,h1⟩
    ·exact⟨_,h2⟩
    ·exact⟨_,h3⟩
    ·obtain⟨o,e,_⟩:=h4;exact⟨o,e⟩
    ·obtain⟨o,e,_⟩:=h5;exact⟨o,e⟩
   obtain⟨o,e⟩:=ex;exact wK (Heap.lt_size e)
  have up:∀c o,c≠z->h'.get? c=some o->h''.get? c=some o:=λc o hz e=>gs.extBut c o hz e;have kp:∀c o,c∉[z,TI,TO,i1,i2]->s.heap.get? c=some o->h''.get? c=some o:=λc o hn e=>by
   simp only[List.mem_cons,wI,or_false,not_or]at hn;exact up c o hn.1 (z7 c o hn.1 hn.2.2.1 hn.2.2.2.1 hn.2.2.2.2 e)
  have ht:IsTup h'' s.heap.objs.size #[u,w']:=⟨_,up _ _ (Ne.symm (lt z (by simp))) z5,rfl,_,rfl⟩
  have I1:=qB0 (t':=s.toks) (xs:=[x,y]) (its:=[u,w']) I hf (Nat.le_refl _) kp ht (.cons ru (.cons rw' .nil)) (by show 2<=sizeLine;decide) (λq=>lt _ q rfl);refine⟨.ref s.heap.objs.size,_,I1,rfl,⟨s.heap.objs.size,x,y,I.hok.fresh (Nat.le_refl _),rfl,rfl,λzs hz=>by rw[I.list_inj hz hq1];exact hx,λzs hz=>by rw[I.list_inj hz hq2];exact hy⟩,
   ⟨g1,up _ _ D.TIz (z7 TI _ D.TIz D.TITO D.TIi1 D.TIi2 h2),⟨_,_,up _ _ D.TOz z2⟩,z3.at λo e=>up _ o D.i1z e,z4.at λo e=>up _ o D.i2z e⟩,λc hc=>?_⟩
  rw[qF (lt c hc)];exact(hf c hc).1
 done:=by
  intro X hP hw hK hc i pins s σ H E I hf st hg;subst hP hw hK;obtain⟨xs,ys,hq1,hq2,hl⟩:=hg;obtain⟨its1,rv1,p1,_⟩:=I.list hq1;obtain⟨its2,rv2,p2,_⟩:=I.list hq2;obtain⟨h1,h2,⟨ta,tb,h3⟩,h4,h5⟩:=st;have n1:=rv1.length;have n2:=rv2.length;refine wpAny_pyNext_zip_end (I.ok.hd hc) D h1 h2 h3 h4 h5 p1.isList p2.isList ?_ λh' z7=>⟨rfl,?_⟩
  ·rcases hl with hl|hl
   ·left;simp;omega
   ·right;simp;omega
  ·have kp:∀c o,c∉[z,TI,TO,i1,i2]->s.heap.get? c=some o->h'.get? c=some o:=λc o hn e=>by
    simp only[List.mem_cons,wI,or_false,not_or]at hn;exact z7 c o hn.1 hn.2.2.1 hn.2.2.2.1 hn.2.2.2.2 e
   refine I.step (g':=s.gens) (d':=s.drawn) (t':=s.toks) (ch:=[z,TI,TO,i1,i2]) (λb hb=>⟨(hf b hb).2.2.2.1,(hf b hb).2.1,(hf b hb).2.2.2.2.1,(hf b hb).2.2.2.2.2⟩) (λb o _ _ hc e _=>kp b o hc e) (λb o _ _ hc e _=>⟨o.slots,kp b o hc e⟩)
    (λb o _ e n=>n) (λb o hc e=>⟨o,kp b o hc e⟩) (λb ys e=>e) (λb o u e=>e) (λb ps e=>⟨#[],by rw[e];simp⟩) (λm hm=>?_) (λb u e=>?_) I.bare
   ·obtain⟨o,es,ep,ho,r⟩:=hm;exact⟨o,es,ep,kp _ o (λz=>(hf _ z).2.1 rfl) ho,r⟩
   ·have nc:∀c u,H c=some u->c∉[z,TI,TO,i1,i2]:=λc u q z=>by rw[(hf c z).1]at q;cases q
    refine(I.hok b u e).stay (λc v hc q=>kp c v ?_ q) (λc q=>q) λc ys q=>q;rcases hc with z|z
    ·rw[z];exact nc b u e
    ·exact nc c _ z
 self:=λ_ _ _ _ _ st h=>wpAny_pyIter_zip st.1 h
noncomputable def qI4(K:PySem.W.Frag)(ta:TA):L2.TI:=λσ H R=>ta σ H λvs H1=>∃a b,vs=[.ref a,.ref b]/\(∃xs,SqL K H1 a xs)/\(∃ys,SqL K H1 b ys)/\R (Itz K a b) H1
theorem qEc{X:Cx}{ea eb:Expr}{ta:TA}{p pos tpos:Pos}{elts:List Expr}{kk:Nat}(hg:L2.Gl X "zip")(hm:X.mg "zip"=none)(ha:PA X [ea,eb] ta)(h1:qN ea=true)(h2:qN eb=true):
  L2.PI X (.Tuple elts kk tpos) (.Call (.Name "zip" p) [ea,eb] [] pos) (qI4 X.K ta):=by
 intro pins s σ H R I h;refine Call_ (L2.ld_blt I hg hm PyProof.Rows.boot_zip (PyProof.Rows.callWith_type1 (L2.thn (ha pos pins s σ H _ I h) λus s1 ⟨vs,H1,I1,r1,q1⟩=>?_) (qB h1) (zn (by simp[h2]))));obtain⟨a,b,e,⟨xs,hq1⟩,⟨ys,hq2⟩,q⟩:=q1;subst e;cases r1 with
 |cons r rr=>
  cases rr with
  |cons r' rr=>
   cases rr;cases r;cases r';obtain⟨its1,rv1,p1,_⟩:=I1.list hq1;obtain⟨its2,rv2,p2,_⟩:=I1.list hq2;have a1:a<s1.heap.objs.size:=by obtain⟨_,e,_⟩:=p1.isList;exact Heap.lt_size e
   have a2:b<s1.heap.objs.size:=by obtain⟨_,e,_⟩:=p2.isList;exact Heap.lt_size e
   refine call_zip_2 p1.isList p2.isList λh' hz hTI hTO hi1 hi2 _ hk=>?_;refine wpAny_pyIter_zip hz ?_;have I2:Inv X pins σ H1 { s1 with heap:=h' }:=I1.kept (t':=s1.toks) hk;refine⟨_,_,_,_,H1,rfl,I2,qAD _ _ _ _ _ a b (zipApart_new a1 a2),⟨hz,hTI,⟨_,_,hTO⟩,hi1,hi2⟩,λc hc=>?_,q⟩;have hge:s1.heap.objs.size<=c:=by
    simp only[List.mem_cons,wI,or_false]at hc;rcases hc with rfl|rfl|rfl|rfl|rfl
    ·exact wt _ 4
    ·exact wt _ 2
    ·exact wt _ 3
    ·exact Nat.le_refl _
    ·exact wt _ 1
   exact I1.fpOk hge (I1.hok.fresh hge)
abbrev Tu(h:Heap)(T:Addr)(vs:Array Value):Prop:=h.get? T=some { cls:=.type "tuple",data:=.seq vs }
section
variable{P:Program}{w:World}{A:Around}{E:Value->Shared->Prop}{s:Shared}{z ti to i1 i2 i3 a b c:Addr}{f0:Value}{k1 k2 k3:Nat}{xs ys us:Array Value}{p q r:Value}
def Kp(z to i1 i2 i3:Addr)(h g:Heap):Prop:=g.objs.size=h.objs.size/\∀c o,c∉[z,to,i1,i2,i3]->h.get? c=some o->g.get? c=some o
theorem Kp.step{h g g':Heap}{d:Addr}(k:Kp z to i1 i2 i3 h g)(hd:d∈[z,to,i1,i2,i3])(e:Heap.SameBut d g g'):Kp z to i1 i2 i3 h g':=
 ⟨by rw[e.1,k.1],λc o hc ho=>e.extBut c o (λx=>hc (x ▸ hd)) (k.2 c o hc ho)⟩
end
noncomputable def Itv(K:PySem.W.Frag)(a:Addr)(n:Nat):It:=
 ⟨λi H=>i<n/\∃xs x,SqL K H a xs/\xs[n-1-i]?=some x,λi H x H'=>H'=H/\∀xs,SqL K H a xs->xs[n-1-i]?=some x,λi _=>i=n⟩
theorem v3{P:Program}{w:World}{K:PySem.W.Frag}{tg:Expr}(a it:Addr)(n:Nat):Zi P w K tg (Itv K a n) [it] it (λi h=>h.IsRevIter it a ((n:Int)-1-(i:Int))) where
 mem:=by simp
 obj:=λi h st b hb=>by
  have e:b=it:=by simpa using hb
  subst e;obtain⟨o,e,c,d⟩:=st;exact⟨o,e,λv z=>by rw[d]at z;cases z⟩
 keep:=λi h h' st k=>st.at λo e=>k it (by simp) o e
 item:=by
  intro X hP hw hK hc i pins s σ H E I hf st hg;subst hP hw hK;obtain⟨hi,xs,x,hq,hx⟩:=hg;obtain⟨its,rv,p,hz⟩:=I.list hq;obtain⟨u,hu,ru⟩:=rv.get hx;obtain⟨f0,f1,f2,f3,f4,f5⟩:=hf it (by simp);have e:(n:Int)-1-(i:Int)=((n-1-i:Nat):Int):=by omega
  rw[e]at st;refine wpAny_pyNext_rev_item st p.isList (x:=u) (by simpa using hu) λh' st' sb=>?_;have e2:((n-1-i:Nat):Int)-1=(n:Int)-1-((i+1:Nat):Int):=by omega
  rw[e2]at st';have I1:Inv X pins σ H { s with heap:=h' }:=I.turned (t':=s.toks) (λb o hb e=>(sb.2 b hb).trans e) f0 f1 f3 f4 f5;obtain⟨o,e,c,d⟩:=id st';exact⟨u,rfl,L2.go_of (s:={ s with heap:=h' }) e c d (by decide) ⟨x,H,I1,ru,⟨rfl,λys hy=>by rw[I.list_inj hy hq];exact hx⟩,st',λb hb=>(hf b hb).1⟩⟩
 done:=by
  intro X hP hw hK hc i pins s σ H E I hf st hg;subst hP hw hK;cases hg;obtain⟨f0,f1,f2,f3,f4,f5⟩:=hf it (by simp);have e:(n:Int)-1-(n:Int)=-1:=by omega
  rw[e]at st;exact wpAny_pyNext_rev_end (I.ok.hd hc) st λh' eb=>⟨rfl,I.turned (t':=s.toks) (λb o hb e=>eb b o hb e) f0 f1 f3 f4 f5⟩
 self:=λ_ _ _ _ _ st h=>wpAny_pyIter_revIter st h
noncomputable def qIM(K:PySem.W.Frag)(ta:TA):L2.TI:=λσ H R=>ta σ H λvs H1=>∃a xs,vs=[.ref a]/\SqL K H1 a xs/\R (Itv K a xs.length) H1
theorem qFI{X:Cx}{ea tg:Expr}{ta:TA}{p pos:Pos}(hg:L2.Gl X "reversed")(hm:X.mg "reversed"=none)(ha:PA X [ea] ta)(h1:qN ea=true):
  L2.PI X tg (.Call (.Name "reversed" p) [ea] [] pos) (qIM X.K ta):=by
 intro pins s σ H R I h;refine Call_ (L2.ld_blt I hg hm PyProof.Rows.boot_reversed (PyProof.Rows.callWith_type1 (L2.thn (ha pos pins s σ H _ I h) λus s1 ⟨vs,H1,I1,r1,q1⟩=>?_) (qB h1) (zn (by simp))));obtain⟨a,xs,e,hq1,q⟩:=q1;subst e;cases r1 with
 |cons r rr=>
  cases rr;cases r;obtain⟨its1,rv1,p1,_⟩:=I1.list hq1;refine call_reversed_list p1.isList ?_;have hk:∀b o,s1.heap.get? b=some o->(s1.heap.push (revObj a ((its1.toArray.size:Int)-1))).get? b=some o:=λb o e=>Heap.get?_push_of_some _ e;have hit:(s1.heap.push (revObj a ((its1.toArray.size:Int)-1))).IsRevIter s1.heap.objs.size a ((xs.length:Int)-1-((0:Nat):Int)):=by
   refine⟨_,Heap.get?_push_size _ rfl,rfl,?_⟩;have:((its1.toArray.size:Nat):Int)-1=(xs.length:Int)-1-((0:Nat):Int):=by rw[rv1.length];simp
   rw[<-this];rfl
  refine wpAny_pyIter_revIter hit ?_;have I2:Inv X pins σ H1 { s1 with heap:=s1.heap.push (revObj a ((its1.toArray.size:Int)-1)) }:=I1.kept (t':=s1.toks) hk;refine⟨_,_,_,_,H1,rfl,I2,v3 a _ xs.length,hit,λc hc=>?_,q⟩;have e:c=s1.heap.objs.size:=by simpa using hc
  subst e;exact I1.fpOk (Nat.le_refl _) (I1.hok.fresh (Nat.le_refl _))
open L2 (PGs TG TGs Itl Itt C4)
section
variable (K:PySem.W.Frag)(G:List Addr)
noncomputable def tG(g:Tg):TG:=λv σc H Q=>∃φ h σ w σ',Rl K G φ h H/\rst φ σ σc/\rv φ w v/\store g w σ h=some σ'/\∀σc',rst φ σ' σc'->Q σc' H
noncomputable def tGs(is:List Nat):TGs:=λvs σc H Q=>∃φ σ ws σ',rst φ σ σc/\rvs φ ws vs/\Za is ws σ=some σ'/\∀σc',rst φ σ' σc'->Q σc' H
end
section
variable{X:Cx}{G:List Addr}{F:Nat->List V->AH->RV}
theorem qEj{e:Expr}{t t':TG}(h:PG X e t)(w:∀v σ H Q,t' v σ H Q->t v σ H Q):PG X e t':=λpins s σ H v u Q I r q=>h pins s σ H v u Q I r (w v σ H Q q)
theorem qAq{e:List Expr}{t t':TGs}(h:PGs X e t)(w:∀v σ H Q,t' v σ H Q->t v σ H Q):PGs X e t':=λpins s σ H v u Q I r q=>h pins s σ H v u Q I r (w v σ H Q q)
variable (X G) in
abbrev SG(e:Expr)(g:Tg):Prop:=PG X e (tG X.K G g)
theorem a5{i:Nat}{x:Str}{pos:Pos}(hN:X.N.Nodup)(hi:X.N[i]?=some x)(hx:L2.Loc X.env.scope x)(hf:X.fn x=true\/X.env.scope.names.lookup x=some .local):SG X G (.Name x pos) (.name i):=by
 refine qEj (L2.pg_name hN hi hx hf) λv σc H Q q=>?_;obtain⟨φ,h,σ,w,σ',R,rs,r,e,k⟩:=q;unfold store at e;cases e;exact k _ (zI (R:=ropt φ) (show ropt φ (some w) (some v) from⟨v,rfl,r⟩) i rs)
theorem qBV:PGs X [] (tGs []):=by
 refine qAq L2.pgs_nil λvs σc H Q q=>?_;obtain⟨φ,σ,ws,σ',rs,r,e,k⟩:=q;cases ws with
 |nil=>
  cases r;cases e;exact⟨rfl,k _ rs⟩
 |cons _ _=>cases e
theorem qAG{i:Nat}{is:List Nat}{x:Str}{pos:Pos}{es:List Expr}(hN:X.N.Nodup)(hi:X.N[i]?=some x)(hx:L2.Loc X.env.scope x)(hf:X.fn x=true\/X.env.scope.names.lookup x=some .local)(hs:PGs X es (tGs is)):
  PGs X (.Name x pos::es) (tGs (i::is)):=by
 refine qAq (L2.pgs_cons (L2.pg_name hN hi hx hf) hs rfl) λvs σc H Q q=>?_;obtain⟨φ,σ,ws,σ',rs,r,e,k⟩:=q;cases ws with
 |nil=>cases e
 |cons w ws=>
  cases r with
  |cons r1 rr=>exact⟨_,_,rfl,φ,_,ws,σ',zI (R:=ropt φ) (show ropt φ (some w) (some _) from⟨_,rfl,r1⟩) i rs,rr,e,k⟩
theorem ZS:∀{is:List Nat}{xs:List V}{σ σ':St},Za is xs σ=some σ'->xs.length=is.length
 | [],[],_,_,_=>rfl
 | [],_::_,_,_,e=>by cases e
 |_::_,[],_,_,e=>by cases e
 |i::is,x::xs,σ,σ',e=>by
  have:=ZS (show Za is xs _=some σ' from e);simp[this]
theorem qFM{is:List Nat}{es:List Expr}{k:Nat}{pos:Pos}(hc:X.calm=true)(h:PGs X es (tGs is))(hn:(assignEach es X.env).length=is.length)(hst:(assignEach es X.env).findIdx? (·.1)=none):SG X G (.Tuple es k pos) (.tup is):=by
 refine qEj (L2.pg_tup hc h hn hst) λv σc H Q q=>?_;obtain⟨φ,h,σ,w,σ',R,rs,r,e,k⟩:=q;cases w with
 |ref a=>
  unfold store at e;dsimp only at e;split at e
  ·rename_i xs ex;obtain⟨p,zs,hp,hs,rz⟩:=R.tup ex;obtain⟨q,rfl,hq⟩:=qK r;rw[hp]at hq;cases hq;exact⟨_,zs,rfl,hs,by rw[<-Paired.length rz];exact ZS e,φ,σ,xs,σ',rs,rz,e,k⟩
  ·cases e
 |_=>cases e
def IsJ(K:PySem.W.Frag)(φ:List Addr):Src->It->Prop
 | .list p,J=>∃a,φ[p]?=some a/\J=Itl K a
 | .tupl p,J=>∃a,φ[p]?=some a/\J=Itt K a
 | .rng lo n,J=>J=L2.Itr lo n
 | .zip p q,J=>∃a b,φ[p]?=some a/\φ[q]?=some b/\J=Itz K a b
 | .rvd p n,J=>∃a,φ[p]?=some a/\J=Itv K a n
theorem IsJ.mono{K:PySem.W.Frag}{φ φ':List Addr}(x:Ext φ φ'):∀{s:Src}{J:It},IsJ K φ s J->IsJ K φ' s J
 | .list _,_,⟨a,h,e⟩=>⟨a,x.get h,e⟩
 | .tupl _,_,⟨a,h,e⟩=>⟨a,x.get h,e⟩
 | .rng _ _,_,e=>e
 | .zip _ _,_,⟨a,b,h,g,e⟩=>⟨a,b,x.get h,x.get g,e⟩
 | .rvd _ _,_,⟨a,h,e⟩=>⟨a,x.get h,e⟩
section
variable{K:PySem.W.Frag}{φ:List Addr}{h h1:AH}{H H':Hp}{s:Src}{J:It}{i:Nat}{x v:V}
theorem IsJ.stop(j:IsJ K φ s J)(R:Rl K G φ h H)(e:jX h i s=true):J.stop i H:=by
 cases s with
 |list p=>
  obtain⟨a,ha,rfl⟩:=j;unfold jX at e;dsimp only at e;split at e
  ·rename_i xs ex;obtain⟨q,zs,hq,hs,rz⟩:=R.lst ex;rw[ha]at hq;cases hq;exact⟨zs,hs,by rw[<-Paired.length rz];exact vH e⟩
  ·cases e
 |tupl p=>
  obtain⟨a,ha,rfl⟩:=j;unfold jX at e;dsimp only at e;split at e
  ·rename_i xs ex;obtain⟨q,zs,hq,hs,rz⟩:=R.tup ex;rw[ha]at hq;cases hq;exact⟨zs,hs,by rw[<-Paired.length rz];exact vH e⟩
  ·cases e
 |rng lo n=>
  cases j;show n<=i;exact vH e
 |zip p q=>
  obtain⟨a,b,ha,hb,rfl⟩:=j;unfold jX at e;dsimp only at e;split at e
  ·rename_i xs ys ex ey;obtain⟨a',zs,hq,hs,rz⟩:=R.lst ex;obtain⟨b',ws,hq',hs',rz'⟩:=R.lst ey;rw[ha]at hq;cases hq;rw[hb]at hq';cases hq';exact⟨zs,ws,hs,hs',by rw[<-Paired.length rz,<-Paired.length rz'];exact vH e⟩
  ·cases e
 |rvd p n=>
  obtain⟨a,ha,rfl⟩:=j;show i=n;exact vH e
theorem IsJ.go(j:IsJ K φ s J)(R:Rl K G φ h H)(e:qy h i s=some (x,h1)):J.go i H:=by
 cases s with
 |list p=>
  obtain⟨a,ha,rfl⟩:=j;unfold qy at e;dsimp only at e;split at e
  ·rename_i xs ex;obtain⟨y,ey,e2⟩:=Option.map_eq_some_iff.mp e;obtain⟨q,zs,hq,hs,rz⟩:=R.lst ex;rw[ha]at hq;cases hq;obtain⟨z,hz,_⟩:=qH rz ey;exact⟨zs,z,hs,hz⟩
  ·cases e
 |tupl p=>
  obtain⟨a,ha,rfl⟩:=j;unfold qy at e;dsimp only at e;split at e
  ·rename_i xs ex;obtain⟨y,ey,e2⟩:=Option.map_eq_some_iff.mp e;obtain⟨q,zs,hq,hs,rz⟩:=R.tup ex;rw[ha]at hq;cases hq;obtain⟨z,hz,_⟩:=qH rz ey;exact⟨zs,z,hs,hz⟩
  ·cases e
 |rng lo n=>
  cases j;unfold qy at e;dsimp only at e;split at e
  ·rename_i hl;exact hl
  ·cases e
 |zip p q=>
  obtain⟨a,b,ha,hb,rfl⟩:=j;unfold qy at e;dsimp only at e;split at e
  ·rename_i xs ys ex ey;split at e
   ·rename_i u w eu ew;obtain⟨a',zs,hq,hs,rz⟩:=R.lst ex;obtain⟨b',ws,hq',hs',rz'⟩:=R.lst ey;rw[ha]at hq;cases hq;rw[hb]at hq';cases hq';obtain⟨z,hz,_⟩:=qH rz eu;obtain⟨z',hz',_⟩:=qH rz' ew;exact⟨zs,ws,z,z',hs,hs',hz,hz'⟩
   ·cases e
  ·cases e
 |rvd p n=>
  obtain⟨a,ha,rfl⟩:=j;unfold qy at e;dsimp only at e;split at e
  ·rename_i hi;split at e
   ·rename_i xs ex;obtain⟨y,ey,e2⟩:=Option.map_eq_some_iff.mp e;obtain⟨q,zs,hq,hs,rz⟩:=R.lst ex;rw[ha]at hq;cases hq;obtain⟨z,hz,_⟩:=qH rz ey;exact⟨hi,zs,z,hs,hz⟩
   ·cases e
  ·cases e
theorem IsJ.yld(j:IsJ K φ s J)(R:Rl K G φ h H)(e:qy h i s=some (x,h1))(y:J.yld i H v H'):∃φ',Ext φ φ'/\Rl K G φ' h1 H'/\rv φ' x v:=by
 cases s with
 |list p=>
  obtain⟨a,ha,rfl⟩:=j;unfold qy at e;dsimp only at e;split at e
  ·rename_i xs ex;obtain⟨y',ey,e2⟩:=Option.map_eq_some_iff.mp e;cases e2;obtain⟨q,zs,hq,hs,rz⟩:=R.lst ex;rw[ha]at hq;cases hq;obtain⟨z,hz,rz'⟩:=qH rz ey;obtain⟨rfl,k⟩:=y;have:=k zs hs;rw[hz]at this;cases this;exact⟨φ,.refl _,R,rz'⟩
  ·cases e
 |tupl p=>
  obtain⟨a,ha,rfl⟩:=j;unfold qy at e;dsimp only at e;split at e
  ·rename_i xs ex;obtain⟨y',ey,e2⟩:=Option.map_eq_some_iff.mp e;cases e2;obtain⟨q,zs,hq,hs,rz⟩:=R.tup ex;rw[ha]at hq;cases hq;obtain⟨z,hz,rz'⟩:=qH rz ey;obtain⟨rfl,k⟩:=y;have:=k zs hs;rw[hz]at this;cases this;exact⟨φ,.refl _,R,rz'⟩
  ·cases e
 |rng lo n=>
  cases j;unfold qy at e;dsimp only at e;split at e
  ·cases e;obtain⟨rfl,rfl⟩:=y;exact⟨φ,.refl _,R,rfl⟩
  ·cases e
 |zip p q=>
  obtain⟨a,b,ha,hb,rfl⟩:=j;unfold qy at e;dsimp only at e;split at e
  ·rename_i xs ys ex ey;split at e
   ·rename_i u w eu ew;cases e;obtain⟨a',zs,hq,hs,rz⟩:=R.lst ex;obtain⟨b',ws,hq',hs',rz'⟩:=R.lst ey;rw[ha]at hq;cases hq;rw[hb]at hq';cases hq';obtain⟨z,hz,r1⟩:=qH rz eu;obtain⟨z',hz',r2⟩:=qH rz' ew;obtain⟨p',x',y',hn,rfl,rfl,k1,k2⟩:=y;have t1:=k1 zs hs;have t2:=k2 ws hs';rw[hz]at t1;cases t1;rw[hz']at t2;cases t2;exact⟨φ++[p'],⟨[p'],rfl⟩,R.newT hn (.cons r1 (.cons r2 .nil)),R.lastRef⟩
   ·cases e
  ·cases e
 |rvd p n=>
  obtain⟨a,ha,rfl⟩:=j;unfold qy at e;dsimp only at e;split at e
  ·split at e
   ·rename_i xs ex;obtain⟨y',ey,e2⟩:=Option.map_eq_some_iff.mp e;cases e2;obtain⟨q,zs,hq,hs,rz⟩:=R.lst ex;rw[ha]at hq;cases hq;obtain⟨z,hz,rz'⟩:=qH rz ey;obtain⟨rfl,k⟩:=y;have:=k zs hs;rw[hz]at this;cases this;exact⟨φ,.refl _,R,rz'⟩
   ·cases e
  ·cases e
end
variable (G F) in
noncomputable def tI(K:PySem.W.Frag)(it:Itr):L2.TI:=λσc H R=>∃φ h σ s h',Rl K G φ h H/\rst φ σ σc/\evi F it σ h=.ok (s,h')/\∀φ' H' J,Ext φ φ'->Rl K G φ' h' H'->IsJ K φ' s J->R J H'
variable (X G F) in
abbrev SI(tg iter:Expr)(it:Itr):Prop:=L2.PI X tg iter (tI G F X.K it)
theorem U7{tg e:Expr}{t t':L2.TI}(h:L2.PI X tg e t)(w:∀σ H Q,t' σ H Q->t σ H Q):L2.PI X tg e t':=λpins s σ H Q I q=>h pins s σ H Q I (w σ H Q q)
variable{a b:E}{ea eb tg:Expr}{pos p:Pos}
noncomputable def qIZ(K:PySem.W.Frag)(tl:TE):L2.TI:=λσ H R=>tl σ H λx H1=>∃a,x=.ref a/\(((∃xs,SqL K H1 a xs)/\R (Itl K a) H1)\/((∃xs,SqT K H1 a xs)/\R (Itt K a) H1))
theorem qDH{l:Expr}{tl:TE}(hl:PE X l tl):L2.PI X tg l (qIZ X.K tl):=by
 intro pins s σ H R I h;refine L2.thn (hl pins s σ H _ I h) λv s1 ⟨x,H1,I1,r1,q1⟩=>?_;obtain⟨a,e,q⟩:=q1;subst e;cases r1;rcases q with⟨⟨xs,hq⟩,q⟩|⟨⟨xs,hq⟩,q⟩
 ·obtain⟨its,rv,p,hz⟩:=I1.list hq;refine wpAny_pyIter_list p.isList ?_;refine⟨s1.heap.objs.size,[s1.heap.objs.size],_,_,H1,rfl,I1.kept (t':=s1.toks) λb o e=>Heap.get?_push_of_some _ e,L2.turn_list a _,⟨_,Heap.get?_push_size _ rfl,rfl,rfl⟩,λb hb=>?_,q⟩;have e:b=s1.heap.objs.size:=by simpa using hb
  subst e;exact I1.fpOk (Nat.le_refl _) (I1.hok.fresh (Nat.le_refl _))
 ·obtain⟨its,rv,p,hz⟩:=I1.tuple hq;refine wpAny_pyIter_tuple (show s1.heap.IsTuple a its.toArray from p) ?_;refine⟨s1.heap.objs.size,[s1.heap.objs.size],_,_,H1,rfl,I1.kept (t':=s1.toks) λb o e=>Heap.get?_push_of_some _ e,L2.turn_tuple a _,⟨_,Heap.get?_push_size _ rfl,rfl,rfl⟩,λb hb=>?_,q⟩;have e:b=s1.heap.objs.size:=by simpa using hb
  subst e;exact I1.fpOk (Nat.le_refl _) (I1.hok.fresh (Nat.le_refl _))
theorem Z0(ha:SE X G F ea a):SI X G F tg ea (.list a):=by
 refine U7 (qDH ha) λσc H Q q=>?_;obtain⟨φ,h,σ,s,h',R,rs,e,k⟩:=q;unfold evi at e;obtain⟨⟨x,h1⟩,e1,e⟩:=Res.bind_inv e;refine⟨φ,h,σ,x,h1,R,rs,e1,λφ1 H1 w x1 R1 r1=>?_⟩;cases x with
 |ref p=>
  dsimp only at e;cases ey:h1[p]? with
  |none=>rw[ey]at e;cases e
  |some o=>
   cases o with
   |lst fz ys=>
    rw[ey]at e;cases e;obtain⟨q,zs,hq,hs,rz⟩:=R1.lst (i:=p) (xs:=ys) (by unfold qM;rw[ey]);obtain⟨q',rfl,hq'⟩:=qK r1;rw[hq]at hq';cases hq';exact⟨_,rfl,.inl ⟨⟨zs,hs⟩,k φ1 H1 _ x1 R1 ⟨_,hq,rfl⟩⟩⟩
   |tup ys=>
    rw[ey]at e;cases e;obtain⟨q,zs,hq,hs,rz⟩:=R1.tup (i:=p) (xs:=ys) (by unfold qc;rw[ey]);obtain⟨q',rfl,hq'⟩:=qK r1;rw[hq]at hq';cases hq';exact⟨_,rfl,.inr ⟨⟨zs,hs⟩,k φ1 H1 _ x1 R1 ⟨_,hq,rfl⟩⟩⟩
   |ob ks=>rw[ey]at e;cases e
 |_=>cases e
theorem qCp(hg:L2.Gl X "range")(hm:X.mg "range"=none)(hn:qN ea=true)(ha:SE X G F ea a):SI X G F tg (.Call (.Name "range" p) [ea] [] pos) (.rng1 a):=by
 refine U7 (L2.pi_range1 hg hm (L2.pa_cons ha L2.pa_nil (qB hn)) (qB hn)) λσc H Q q=>?_;obtain⟨φ,h,σ,s,h',R,rs,e,k⟩:=q;unfold evi at e;obtain⟨⟨x,h1⟩,e1,e⟩:=Res.bind_inv e;refine⟨φ,h,σ,x,h1,R,rs,e1,λφ1 H1 w x1 R1 r1=>?_⟩;cases x with
 |int j=>
  dsimp only at e;split at e
  ·rename_i hj;cases e;cases qC r1;exact⟨j,rfl,by omega,by omega,k φ1 H1 _ x1 R1 rfl⟩
  ·cases e
 |_=>cases e
theorem qDA(hg:L2.Gl X "range")(hm:X.mg "range"=none)(hn:qN ea=true)(hn2:qN eb=true)(ha:SE X G F ea a)(hb:SE X G F eb b):SI X G F tg (.Call (.Name "range" p) [ea,eb] [] pos) (.rng2 a b):=by
 refine U7 (L2.pi_range2 hg hm (L2.pa_cons ha (L2.pa_cons hb L2.pa_nil (qB hn2)) (qB hn)) (by rw[qB hn,qB hn2];rfl) (qB hn2)) λσc H Q q=>?_;obtain⟨φ,h,σ,s,h',R,rs,e,k⟩:=q;unfold evi at e;obtain⟨⟨x,h1⟩,e1,e⟩:=Res.bind_inv e;obtain⟨⟨y,h2⟩,e2,e⟩:=Res.bind_inv e;refine QJ R rs e1 e2 λφ2 H2 xc yc x2 R2 r1 r2=>?_;cases x with
 |int i=>
  cases y with
  |int j=>
   dsimp only at e;split at e
   ·rename_i hj;cases e;cases qC r1;cases qC r2;exact⟨i,j,rfl,⟨by omega,by omega,by omega,by omega⟩,k φ2 H2 _ x2 R2 rfl⟩
   ·cases e
  |_=>cases e
 |_=>cases e
theorem qCN(hg:L2.Gl X "reversed")(hm:X.mg "reversed"=none)(hn:qN ea=true)(ha:SE X G F ea a):
  SI X G F tg (.Call (.Name "reversed" p) [ea] [] pos) (.revd a):=by
 refine U7 (qFI hg hm (L2.pa_cons ha L2.pa_nil (qB hn)) hn) λσc H Q q=>?_;obtain⟨φ,h,σ,s,h',R,rs,e,k⟩:=q;unfold evi at e;obtain⟨⟨x,h1⟩,e1,e⟩:=Res.bind_inv e;refine⟨φ,h,σ,x,h1,R,rs,e1,λφ1 H1 w x1 R1 r1=>?_⟩;cases x with
 |ref p=>
  dsimp only at e;split at e
  ·rename_i xs ex;cases e;obtain⟨q,zs,hq,hs,rz⟩:=R1.lst ex;obtain⟨q',rfl,hq'⟩:=qK r1;rw[hq]at hq';cases hq';exact⟨_,zs,rfl,hs,k φ1 H1 _ x1 R1 ⟨_,hq,by rw[<-Paired.length rz]⟩⟩
  ·cases e
 |_=>cases e
theorem qDq{elts:List Expr}{kk:Nat}{tpos:Pos}(hg:L2.Gl X "zip")(hm:X.mg "zip"=none)(hn:qN ea=true)(hn2:qN eb=true)(ha:SE X G F ea a)(hb:SE X G F eb b):
  SI X G F (.Tuple elts kk tpos) (.Call (.Name "zip" p) [ea,eb] [] pos) (.zip a b):=by
 refine U7 (qEc hg hm (L2.pa_cons ha (L2.pa_cons hb L2.pa_nil (qB hn2)) (qB hn)) hn hn2) λσc H Q q=>?_;obtain⟨φ,h,σ,s,h',R,rs,e,k⟩:=q;unfold evi at e;obtain⟨⟨x,h1⟩,e1,e⟩:=Res.bind_inv e;obtain⟨⟨y,h2⟩,e2,e⟩:=Res.bind_inv e;refine QJ R rs e1 e2 λφ2 H2 xc yc x2 R2 r1 r2=>?_;cases x with
 |ref i=>
  cases y with
  |ref j=>
   dsimp only at e;split at e
   ·rename_i xs ys ex ey;cases e;obtain⟨a',zs,hq,hs,rz⟩:=R2.lst ex;obtain⟨b',ws,hq',hs',rz'⟩:=R2.lst ey;obtain⟨a2,rfl,ha2⟩:=qK r1;obtain⟨b2,rfl,hb2⟩:=qK r2;rw[hq]at ha2;cases ha2;rw[hq']at hb2;cases hb2;exact⟨_,_,rfl,⟨zs,hs⟩,⟨ws,hs'⟩,k φ2 H2 _ x2 R2 ⟨_,_,hq,hq',rfl⟩⟩
   ·cases e
  |_=>cases e
 |_=>cases e
end
section
variable{X:Cx}{G:List Addr}{F:Nat->List V->AH->RV}
theorem qDg{φ:List Addr}:∀{v w w':V},rv φ v w->rv φ v w'->w=w'
 | .ref _,w,w',h,g=>by
  obtain⟨a,e1,h1⟩:=qK h;obtain⟨b,e2,g1⟩:=qK g;rw[h1]at g1;cases g1;rw[e1,e2]
 | .non,_,_,h,g=>by rw[zB h,zB g]
 | .bl _,_,_,h,g=>by rw[zV h,zV g]
 | .int _,_,_,h,g=>by rw[qC h,qC g]
 | .str _,_,_,h,g=>by rw[zR h,zR g]
 | .byt _,w,_,h,_=>by cases w<;>exact False.elim h
 | .flt _,w,_,h,_=>by cases w<;>exact False.elim h
 | .ty _,w,_,h,_=>by cases w<;>exact False.elim h
theorem E5{φ:List Addr}:∀{vs ws us:List V},rvs φ vs ws->rvs φ vs us->ws=us
 |_,_,_,.nil,.nil=>rfl
 |_,_,_,.cons r t,.cons r' t'=>by rw[qDg r r',E5 t t']
theorem Qq{φ:List Addr}{σ σc:St}(r:rst φ σ σc):∀src,rst φ (L2.inner src σ) (L2.inner src σc)
 | []=>.nil
 |none::src=>.cons trivial (Qq r src)
 |some j::src=>by
  refine .cons ?_ (Qq r src);show ropt φ (σ[j]?).join (σc[j]?).join;cases e:σ[j]? with
  |none=>exact trivial
  |some o=>
   cases o with
   |none=>exact trivial
   |some v=>
    obtain⟨oc,ec,r'⟩:=qH r e;obtain⟨w,rfl,r'⟩:=r';rw[ec];exact⟨w,rfl,r'⟩
variable (X G F) in
abbrev SC(ifs:List Expr)(c:Es):Prop:=L2.PTs X ifs (tB X.K G (evc F c))
theorem qDL:SC X G F [] .nil:=by
 intro pins s σ H Q I q;obtain⟨φ,h,σa,b,h',R,rs,e,k⟩:=q;unfold evc at e;cases e;exact L2.pts_nil pins s σ H Q I (k φ H (.refl _) R)
theorem qDx{c:Expr}{a:E}(hc:ST X G F c a):SC X G F [c] (.cons a .nil):=by
 intro pins s σ H Q I q;obtain⟨φ,h,σa,b,h',R,rs,e,k⟩:=q;unfold evc at e;exact L2.pts_one hc pins s σ H Q I ⟨φ,h,σa,b,h',R,rs,e,k⟩
theorem g9{it:Itr}{src:List (Option Nat)}{g:Tg}{c:Es}{e:E}{σc:St}{H:Hp}{Q:VK}(q:tE X.K G F (.comp it src g c e) σc H Q):
  L2.tComp (tI G F X.K it) src (tG X.K G g) (tB X.K G (evc F c)) (tE X.K G F e) σc H Q:=by
 obtain⟨φ,h,σ,v,h',R,rs,ee,k⟩:=q;unfold ev at ee;obtain⟨⟨s,h1⟩,e1,ee⟩:=Res.bind_inv ee;refine⟨φ,h,σ,s,h1,R,rs,e1,λφ1 H1 J x1 R1 j1=>?_⟩;dsimp only at ee;split at ee
 ·rename_i n hn;intro D hD;have R2:Rl X.K G (φ1++[D]) (h1++[.lst false []]) (upd H1 D (.lst [])):=R1.newL hD .nil;have hDφ:(φ1++[D])[h1.length]?=some D:=R1.lastRef;refine⟨λi m ys σ' H'=>∃φ' h2 σa ya,Ext (φ1++[D]) φ'/\Rl X.K G φ' h2 H'/\rst φ' σa σ'/\rvs φ' ya ys/\h2[h1.length]?=some (.lst false ya)/\Qv s g (evc F c) (ev F e) h1.length m i ya σa h2=.ok (v,h'),
   ⟨n,φ1++[D],_,_,[],.refl _,R2,Qq (rst.mono (x1.trans ⟨[D],rfl⟩) rs) src,.nil,by simp,ee⟩,?_⟩
  rintro i m ys σ' H' ⟨φ',h2,σa,ya,x2,Ra,rsa,rya,hya,ec⟩ hys;have jj:IsJ X.K φ' s J:=j1.mono (Ext.trans ⟨[D],rfl⟩ x2);have hDφ':=x2.get hDφ;cases m with
  |zero=>
   unfold Qv at ec;split at ec
   ·rename_i hst;cases ec;exact .inl ⟨jj.stop Ra hst,k φ' H' _ ((x1.trans ⟨[D],rfl⟩).trans x2) Ra hDφ'⟩
   ·cases ec
  |succ m=>
   unfold Qv at ec;split at ec
   ·rename_i x h3 hy;split at ec
    ·rename_i σ3 hst;refine .inr ⟨jj.go Ra hy,λxv H2 hyl=>?_⟩;obtain⟨φ3,x3,R3,rx⟩:=jj.yld Ra hy hyl;refine⟨φ3,h3,σa,x,σ3,R3,rst.mono x3 rsa,rx,hst,λσc3 rs3=>?_⟩;obtain⟨⟨t,h4⟩,e4,ec⟩:=Res.bind_inv ec;refine⟨φ3,h3,σ3,t,h4,R3,rs3,e4,λφ4 H4 x4 R4=>?_⟩;dsimp only at ec;cases t with
     |true=>
      rw[if_pos rfl]at ec ⊢;obtain⟨⟨y,h5⟩,e5,ec⟩:=Res.bind_inv ec;refine⟨φ4,h4,σ3,y,h5,R4,rst.mono x4 rs3,e5,λφ5 H5 yc x5 R5 r5=>?_⟩;dsimp only at ec;split at ec
      ·rename_i hc5;have xx:Ext φ' φ5:=x3.trans (x4.trans x5);have hD5:=xx.get hDφ';obtain⟨zs,hz,rz⟩:=R5.obj _ _ D hc5.1 hD5;have ez:zs=ys:=E5 rz (rvs.mono xx rya);subst ez;refine⟨hz,by rw[<-Paired.length rz];exact wX hc5.2 qBB,m,Nat.lt_succ_self _,φ5,_,σ3,_,x2.trans xx,R5.set hc5.1 hD5 (qU rz (.cons r5 .nil)),rst.mono (x4.trans x5) rs3,qU rz (.cons r5 .nil),?_,ec⟩;rw[List.getElem?_set_self (List.getElem?_eq_some_iff.mp hc5.1).1]
      ·cases ec
     |false=>
      rw[if_neg (by decide)]at ec ⊢;split at ec
      ·rename_i hc4;have xx:Ext φ' φ4:=x3.trans x4;have hD4:=xx.get hDφ';obtain⟨zs,hz,rz⟩:=R4.obj _ _ D hc4 hD4;have ez:zs=ys:=E5 rz (rvs.mono xx rya);subst ez;exact⟨hz,m,Nat.lt_succ_self _,φ4,_,σ3,_,x2.trans xx,R4,rst.mono x4 rs3,rz,hc4,ec⟩
      ·cases ec
    ·cases ec
   ·cases ec
 ·cases ee
end
section
variable{X:Cx}{G:List Addr}{F:Nat->List V->AH->RV}{a b c:E}{ea eb ec tg:Expr}{pos:Pos}
theorem a6{iter elt:Expr}{ifs:List Expr}{scope:Scope}{N:List Str}{it:Itr}{src:List (Option Nat)}{g:Tg}{cs:Es}{e:E}(hc:X.calm=true)(hi:SI X G F tg iter it)(S:L2.CompScope X scope N src)
  (hg:∀C fp s H,SG (L2.cxComp X scope C fp s H N) G tg g) (ht:∀C fp s H,SC (L2.cxComp X scope C fp s H N) G F ifs cs) (he:∀C fp s H,SE (L2.cxComp X scope C fp s H N) G F elt e)
  (hs:∀x,foldedSetIterable iter X.env x=pure x):SE X G F (.ListComp elt [⟨tg,iter,ifs,0⟩] scope pos) (.comp it src g cs e):=
 qp (L2.pe_comp hc hi S hg ht he hs) λ_ _ _=>g9
def Post(K:PySem.W.Frag)(G:List Addr)(D:C4)(φ:List Addr)(o:Out)(h':AH):Prop:=∀φ' H',Ext φ φ'->Rl K G φ' h' H'->match o with
 | .nx σ=>∀σc,rst φ' σ σc->D.nx σc H'
 | .rt v=>∀w,rv φ' v w->D.rt w H'
 | .bk σ=>∀σc,rst φ' σ σc->D.bk σc H'
 | .ct σ=>∀σc,rst φ' σ σc->D.ct σc H'
theorem Post.mono{K:PySem.W.Frag}{D:C4}{φ φ1:List Addr}{o:Out}{h':AH}(x:Ext φ φ1)(p:Post K G D φ o h'):Post K G D φ1 o h':=λφ' H' x' R=>p φ' H' (x.trans x') R
noncomputable def tS(K:PySem.W.Frag)(G:List Addr)(r:St->AH->RS):TS:=λD σc H=>∃φ h σ o h',Rl K G φ h H/\rst φ σ σc/\r σ h=.ok (o,h')/\Post K G D φ o h'
variable (X G F) in
abbrev SS(st:Stmt)(s:S):Prop:=PS X st (tS X.K G (ex F s))
variable (X G F) in
abbrev SSs(st:List Stmt)(s:Ss):Prop:=PSs X st (tS X.K G (exs F s))
theorem QX{e:Stmt}{t t':TS}(h:PS X e t)(w:∀D σ H,t' D σ H->t D σ H):PS X e t':=λpins s σ H D I q=>h pins s σ H D I (w D σ H q)
theorem qAm{e:List Stmt}{t t':TS}(h:PSs X e t)(w:∀D σ H,t' D σ H->t D σ H):PSs X e t':=λpins s σ H D I q=>h pins s σ H D I (w D σ H q)
theorem qa{st:Stmt}:SS X G F st .stop:=by
 intro pins s σ H D I q;obtain⟨φ,h,σa,o,h',R,rs,e,k⟩:=q;unfold ex at e;cases e
noncomputable def jH:Expr->Bool
 | .ListComp ..=>false
 | .SetComp ..=>false
 | .DictComp ..=>false
 |_=>true
noncomputable def qE1:Expr->Bool
 | .Tuple ..=>false
 |_=>true
theorem ja{e:Expr}{t:Option Expr}{l:Nat}{env:Env}(h:jH e=true):swapsWith e t l env=pure false:=by
 cases e<;>first|rfl|cases h
theorem QK{e t:Expr}{l:Nat}{env:Env}(h:jH e=true):swapsWithSole [t] e l env=pure false:=ja h
theorem qCE{K:PySem.W.Frag}{σ:St}{H:Hp}{Q Q':VK}(q:tE K G F a σ H Q)(w:∀v H,Q v H->Q' v H):tE K G F a σ H Q':=by
 obtain⟨φ,h,σa,v,h',R,rs,e,k⟩:=q;exact⟨φ,h,σa,v,h',R,rs,e,λφ' H' u x' R' r'=>w u H' (k φ' H' u x' R' r')⟩
theorem L7{g:Tg}{D:C4}{σc:St}{H:Hp}(q:tS X.K G (ex F (.asg g a)) D σc H):L2.tAsg (tE X.K G F a) (tG X.K G g) D σc H:=by
 obtain⟨φ,h,σ,o,h',R,rs,e,k⟩:=q;unfold ex at e;obtain⟨⟨x,h1⟩,e1,e⟩:=Res.bind_inv e;dsimp only at e;split at e
 ·rename_i σ1 es;cases e;exact⟨φ,h,σ,x,_,R,rs,e1,λφ1 H1 w x1 R1 r1=>⟨φ1,_,σ,x,σ1,R1,rst.mono x1 rs,r1,es,λσc' rs'=>k φ1 H1 x1 R1 σc' rs'⟩⟩
 ·cases e
theorem qEI{is:List Nat}{es:List Expr}{kk:Nat}{p:Pos}(hg:SG X G (.Tuple es kk p) (.tup is))(ha:SE X G F ea a)(hc:jH ea=true)(ht:qE1 ea=true):
  SS X G F (.Assign [.Tuple es kk p] ea pos) (.asg (.tup is) a):=
 QX (L2.ps_asg ha hg (QK hc) (by cases ea<;>first|rfl|cases ht) rfl) λ_ _ _=>L7
theorem qCj{iter elt:Expr}{ifs:List Expr}{scope:Scope}{N:List Str}{it:Itr}{src:List (Option Nat)}{g:Tg}{cs:Es}{e:E}{i:Nat}{n:Str}{p cpos:Pos}(hc:X.calm=true)(hi:SI X G F tg iter it)(S:L2.CompScope X scope N src)
  (hg:∀C fp s H,SG (L2.cxComp X scope C fp s H N) G tg g) (ht:∀C fp s H,SC (L2.cxComp X scope C fp s H N) G F ifs cs) (he:∀C fp s H,SE (L2.cxComp X scope C fp s H N) G F elt e)
  (hs:∀x,foldedSetIterable iter X.env x=pure x) (hN:X.N.Nodup) (hn:X.N[i]?=some n) (hx:L2.Loc X.env.scope n) (hf:X.fn n=true\/X.env.scope.names.lookup n=some .local):
  SS X G F (.Assign [.Name n p] (.ListComp elt [⟨tg,iter,ifs,0⟩] scope cpos) pos) (.asg (.name i) (.comp it src g cs e)):=by
 have hsw:swapsWith (.ListComp elt [⟨tg,iter,ifs,0⟩] scope cpos) (some (.Name n p)) pos.line X.env=pure (X.env.blockKind==.function&&X.env.kindOf n==some .local&&p.line==(Expr.ListComp elt [⟨tg,iter,ifs,0⟩] scope cpos).pos.line
   && !(scope.names.any λ(m,k)=>m==n&&(k==.local||k==.cell))):=rfl
 generalize hb:(X.env.blockKind==.function&&X.env.kindOf n==some .local&&p.line==(Expr.ListComp elt [⟨tg,iter,ifs,0⟩] scope cpos).pos.line
   && !(scope.names.any λ(m,k)=>m==n&&(k==.local||k==.cell)))=bb at hsw
 cases bb with
 |true=>
  have hl:X.env.scope.names.lookup n=some .local:=by
   simp only[Bool.and_eq_true]at hb;have z:X.env.kindOf n=some .local:=by simpa using hb.1.1.2
   exact z
  refine QX (L2.ps_setcomp (i:=i) (g:=tG X.K G g) (tc:=tB X.K G (evc F cs)) (te:=tE X.K G F e) hc hi S hg ht he hsw hN hn hl hs) λD σc H q=>?_;refine g9 (qCE (L7 q) λv H1 z=>?_);obtain⟨φ,h,σ,w,σ',R,rs,r,es,k⟩:=z;unfold store at es;cases es;exact k _ (zI (R:=ropt φ) (show ropt φ (some w) (some v) from⟨v,rfl,r⟩) i rs)
 |false=>exact QX (L2.ps_asg (a6 hc hi S hg ht he hs) (a5 hN hn hx hf) hsw rfl rfl) λ_ _ _=>L7
noncomputable def qHD:L2.TSet:=λo i v H Q=>L2.rSetL o i v H Q\/∃p H',o=.ref p/\L2.DPut H p i v H'/\Q H'
theorem qCW(hu:X.A.units+8<cLine):L2.PSet X qHD:=by
 intro pins s σ H o i v ov iv u Q I ro ri rv h;rcases h with h|⟨p,H',rfl,g,q⟩
 ·exact L2.set_list pins s σ H o i v ov iv u Q I ro ri rv h
 ·cases ro;exact L2.d_setItem (by omega) I g ri rv λs' I'=>⟨H',I',q⟩
theorem qEG(hu:X.A.units+8<cLine){eo ei:Expr}{o i:E}{p:Pos}(ho:SE X G F eo o)(hi:SE X G F ei i)(ha:SE X G F ea a)(hc:jH ea=true)(hsl:Qn ei=true):SS X G F (.Assign [.Subscript eo ei p] ea pos) (.put o i a):=by
 refine QX (L2.ps_asg ha (L2.pg_sub ho hi (qCW hu) (λv=>by cases ei<;>first|rfl|cases hsl)) (QK hc) (by cases ea<;>rfl) rfl) λD σc H q=>?_;obtain⟨φ,h,σ,out,h',R,rs,e,k⟩:=q;unfold ex at e;obtain⟨⟨x,h1⟩,e1,e⟩:=Res.bind_inv e;obtain⟨⟨p1,h2⟩,e2,e⟩:=Res.bind_inv e;obtain⟨⟨k1,h3⟩,e3,e⟩:=Res.bind_inv e;refine⟨φ,h,σ,x,h1,R,rs,e1,λφ1 H1 w x1 R1 r1=>?_⟩;refine⟨φ1,h1,σ,p1,h2,R1,rst.mono x1 rs,e2,λφ2 H2 w2 x2 R2 r2=>?_⟩;refine⟨φ2,h2,σ,k1,h3,R2,rst.mono (x1.trans x2) rs,e3,λφ3 H3 w3 x3 R3 r3=>?_⟩;cases p1 with
 |ref q=>
  cases k1 with
  |int j=>
   dsimp only at e;split at e
   ·rename_i xs ex1;split at e
    ·rename_i jj ej;cases e;obtain⟨q1,a',zs,ha',hH,rz⟩:=R3.mut ex1;obtain⟨a2,rfl,ha2⟩:=qK (rv.mono x3 r2);rw[ha']at ha2;cases ha2;cases qC r3;refine .inl ⟨_,zs,j,jj,rfl,rfl,hH,by rw[<-Paired.length rz];exact ej,?_⟩;have xx:Ext φ φ3:=x1.trans (x2.trans x3);exact k φ3 _ xx (R3.set q1 ha' (zI (rv.mono (x2.trans x3) r1) jj rz)) σc (rst.mono xx rs)
    ·cases e
   ·split at e
    ·rename_i kvs ed;split at e
     ·rename_i hf;cases e;obtain⟨a',ea,eh,hH⟩:=R3.dct ed;obtain⟨a2,rfl,ha2⟩:=qK (rv.mono x3 r2);rw[ea]at ha2;cases ha2;cases qC r3;have hl:(kvs.map kk).length<sizeLine:=by rw[wL];exact wD hf.2 QO
      have xx:Ext φ φ3:=x1.trans (x2.trans x3);have fw:=E9 hf.1 r1;subst fw;refine .inr ⟨_,_,rfl,L2.DPut.k (k:=.inl j) hH hl,?_⟩;rw[qCJ];exact k φ3 _ xx (R3.write rfl rfl eh ea qG) σc (rst.mono xx rs)
     ·cases e
    ·cases e
  |_=>cases e
 |_=>cases e
theorem U5(ha:SE X G F ea a)(hc:jH ea=true):SS X G F (.Expr ea pos) (.expr a):=by
 refine QX (L2.ps_expr ha (ja hc)) λD σc H q=>?_;obtain⟨φ,h,σ,out,h',R,rs,e,k⟩:=q;unfold ex at e;obtain⟨⟨x,h1⟩,e1,e⟩:=Res.bind_inv e;cases e;exact⟨φ,h,σ,x,_,R,rs,e1,λφ1 H1 w x1 R1 r1=>k φ1 H1 x1 R1 σc (rst.mono x1 rs)⟩
theorem V4(ha:SE X G F ea a):SS X G F (.Return (some ea) pos) (.ret a):=by
 refine QX (L2.ps_ret ha) λD σc H q=>?_;obtain⟨φ,h,σ,out,h',R,rs,e,k⟩:=q;unfold ex at e;obtain⟨⟨x,h1⟩,e1,e⟩:=Res.bind_inv e;cases e;exact⟨φ,h,σ,x,_,R,rs,e1,λφ1 H1 w x1 R1 r1=>k φ1 H1 x1 R1 w r1⟩
theorem qCm:SSs X G F [] .nil:=by
 refine qAm L2.pss_nil λD σc H q=>?_;obtain⟨φ,h,σ,out,h',R,rs,e,k⟩:=q;unfold exs at e;cases e;exact k φ H (.refl _) R σc rs
theorem m8{st:Stmt}{sts:List Stmt}{s:S}{ss:Ss}(h1:SS X G F st s)(h2:SSs X G F sts ss):SSs X G F (st::sts) (.cons s ss):=by
 refine qAm (L2.pss_cons h1 h2) λD σc H q=>?_;obtain⟨φ,h,σ,out,h',R,rs,e,k⟩:=q;unfold exs at e;obtain⟨⟨o,h1⟩,e1,e⟩:=Res.bind_inv e;refine⟨φ,h,σ,o,h1,R,rs,e1,λφ1 H1 x1 R1=>?_⟩;cases o with
 |nx σ1=>exact λσc1 rs1=>⟨φ1,h1,σ1,out,h',R1,rs1,e,k.mono x1⟩
 |rt v=>cases e;exact k φ1 H1 x1 R1
 |bk σ1=>cases e;exact k φ1 H1 x1 R1
 |ct σ1=>cases e;exact k φ1 H1 x1 R1
theorem qDc{t u:List Stmt}{st su:Ss}(hc:ST X G F ec c)(ht:SSs X G F t st)(hu:SSs X G F u su):SS X G F (.If ec t u pos) (.ifs c st su):=by
 refine QX (L2.ps_if hc ht hu) λD σc H q=>?_;obtain⟨φ,h,σ,out,h',R,rs,e,k⟩:=q;unfold ex at e;obtain⟨⟨x,h1⟩,e1,e⟩:=Res.bind_inv e;refine⟨φ,h,σ,x,h1,R,rs,e1,λφ1 H1 x1 R1=>?_⟩;dsimp only at e;cases x with
 |true=>
  rw[if_pos rfl]at e ⊢;exact⟨φ1,h1,σ,out,h',R1,rst.mono x1 rs,e,k.mono x1⟩
 |false=>
  rw[if_neg (by decide)]at e ⊢;exact⟨φ1,h1,σ,out,h',R1,rst.mono x1 rs,e,k.mono x1⟩
theorem qE3{iter:Expr}{body:List Stmt}{it:Itr}{g:Tg}{sb:Ss}(hx:X.xe=λ_ _=>False)(hc:X.calm=true)(hi:SI X G F tg iter it)(hg:SG X G tg g)(hb:SSs X G F body sb)
  (hs:∀x,foldedSetIterable iter X.env x=pure x):SS X G F (.For tg iter body [] pos) (.for_ g it sb):=by
 refine QX (L2.ps_for (by rw[hx];exact PassesOwn.never) hc hi hg hb hs) λD σc H q=>?_;obtain⟨φ,h,σ,out,h',R,rs,e,k⟩:=q;unfold ex at e;obtain⟨⟨s,h1⟩,e1,e⟩:=Res.bind_inv e;refine⟨φ,h,σ,s,h1,R,rs,e1,λφ1 H1 J x1 R1 j1=>?_⟩;dsimp only at e;split at e
 ·rename_i n hn;refine⟨λi m σ' H'=>∃φ' h2 σa,Ext φ1 φ'/\Rl X.K G φ' h2 H'/\rst φ' σa σ'/\A0 s g (exs F sb) m i σa h2=.ok (out,h'),⟨n,φ1,h1,σ,.refl _,R1,rst.mono x1 rs,e⟩,?_⟩;rintro i m σ' H' ⟨φ',h2,σa,x2,Ra,rsa,ef⟩;have jj:IsJ X.K φ' s J:=j1.mono x2;cases m with
  |zero=>
   unfold A0 at ef;split at ef
   ·rename_i hst;cases ef;exact .inl ⟨jj.stop Ra hst,k φ' H' (x1.trans x2) Ra σ' rsa⟩
   ·cases ef
  |succ m=>
   unfold A0 at ef;split at ef
   ·rename_i x h3 hy;split at ef
    ·rename_i σ3 hst;refine .inr ⟨jj.go Ra hy,λσ' H'=>∃φ' h2 σa,Ext φ1 φ'/\Rl X.K G φ' h2 H'/\rst φ' σa σ'/\A0 s g (exs F sb) m (i+1) σa h2=.ok (out,h'),λσ2 H2 w=>⟨m,Nat.lt_succ_self _,w⟩,λxv H2 hyl=>?_⟩;obtain⟨φ3,x3,R3,rx⟩:=jj.yld Ra hy hyl;refine⟨φ3,h3,σa,x,σ3,R3,rst.mono x3 rsa,rx,hst,λσc3 rs3=>?_⟩;obtain⟨⟨o,h4⟩,e4,ef⟩:=Res.bind_inv ef;refine⟨φ3,h3,σ3,o,h4,R3,rs3,e4,λφ4 H4 x4 R4=>?_⟩;dsimp only at ef;cases o with
     |nx σ4=>exact λσc4 rs4=>⟨φ4,h4,σ4,x2.trans (x3.trans x4),R4,rs4,ef⟩
     |ct σ4=>exact λσc4 rs4=>⟨φ4,h4,σ4,x2.trans (x3.trans x4),R4,rs4,ef⟩
     |bk σ4=>cases ef;exact k φ4 H4 (x1.trans (x2.trans (x3.trans x4))) R4
     |rt v=>cases ef;exact k φ4 H4 (x1.trans (x2.trans (x3.trans x4))) R4
    ·cases ef
   ·cases ef
 ·cases e
end
def NX{α:Type}(r:Res α):Prop:=∀c h,r≠.exc c h
theorem NX.ok{α:Type}(a:α):NX (.ok a):=λ_ _ z=>nomatch z
theorem NX.st{α:Type}:NX (.stuck:Res α):=λ_ _ z=>nomatch z
theorem NX.nx{α:Type}(r:Res α):NX r.nx:=by cases r<;>(intro c h z;cases z)
theorem NX.bind{α β:Type}{r:Res α}{f:α->Res β}(h:NX r)(k:∀a,NX (f a)):NX (r.bind f):=by
 cases r with
 |ok a=>exact k a
 |exc c h'=>exact absurd rfl (h c h')
 |stuck=>exact NX.st
theorem D1{x y:V}{f:Int->Int->RV}(h:∀i j,NX (f i j)):NX (J4 x y f):=by
 unfold J4;split
 ·split
  ·exact h _ _
  ·exact NX.st
 ·exact NX.st
theorem Zm{x:V}{f:Nat->RV}(h:∀a,NX (f a)):NX (T6 x f):=by
 unfold T6;split
 ·exact h _
 ·exact NX.st
theorem X3{as:List V}{f:V->RV}(h:∀a,NX (f a)):NX (one as f):=by
 unfold one;split
 ·exact h _
 ·exact NX.st
theorem X9{as:List V}{f:V->V->RV}(h:∀a b,NX (f a b)):NX (two as f):=by
 unfold two;split
 ·exact h _ _
 ·exact NX.st
theorem qEr{op:BOp}{x y:V}{h:AH}:NX (qCw op x y h):=by
 unfold qCw newL;cases op<;>try dsimp only<;>(repeat (first|exact NX.ok _|exact NX.st|refine X3 λ_=>?_|refine X9 λ_ _=>?_|refine Zm λ_=>?_|refine D1 λ_ _=>?_|split))
theorem qBS{op:COp}{x y:V}{h:AH}:NX (N2 op x y h):=by unfold N2;(repeat (first|exact NX.ok _|exact NX.st|split))
theorem qD9{f:BF}{as:List V}{h:AH}:NX (qFO f as h):=by
 unfold qFO newL newT qDT;cases f<;>try dsimp only<;>(repeat (first|exact NX.ok _|exact NX.st|refine X3 λ_=>?_|refine X9 λ_ _=>?_|refine Zm λ_=>?_|refine D1 λ_ _=>?_|split))
theorem qC5{m:Mt}{p:Nat}{ys:List V}{h:AH}:NX (D3 m p ys h):=by unfold D3;(repeat (first|exact NX.ok _|exact NX.st|refine X3 λ_=>?_|refine X9 λ_ _=>?_|refine Zm λ_=>?_|refine D1 λ_ _=>?_|split))
theorem Qk{r:RV}(h:NX r):NX (asB r):=by
 unfold asB;refine NX.bind h λa=>?_
 (repeat (first|exact NX.ok _|exact NX.st|split))
theorem JO{s:Src}{g:Tg}{c:St->AH->Res (Bool×AH)}{e:St->AH->RV}{D:Nat}(hc:∀σ h,NX (c σ h))(he:∀σ h,NX (e σ h)):∀(n i:Nat) (ys:List V) (σ:St) (h:AH),NX (Qv s g c e D n i ys σ h)
 | 0,i,ys,σ,h=>by unfold Qv;(repeat (first|exact NX.ok _|exact NX.st|split))
 |n+1,i,ys,σ,h=>by
  unfold Qv;split
  ·split
   ·refine NX.bind (hc _ _) λa=>?_
    try dsimp only
    split
    ·refine NX.bind (he _ _) λb=>?_
     try dsimp only
     split
     ·exact JO hc he n _ _ _ _
     ·exact NX.st
    ·split
     ·exact JO hc he n _ _ _ _
     ·exact NX.st
   ·exact NX.st
  ·exact NX.st
section
variable (F:Nat->List V->AH->RV)
mutual
theorem qf:∀(e:E) (σ:St) (h:AH),NX (ev F e σ h)
 | .var i,σ,h=>by unfold ev;(repeat (first|exact NX.ok _|exact NX.st|split))
 | .cst v,σ,h=>by unfold ev;(repeat (first|exact NX.ok _|exact NX.st|split))
 | .glob g,σ,h=>by unfold ev;(repeat (first|exact NX.ok _|exact NX.st|split))
 | .bin op a b,σ,h=>by unfold ev;exact NX.bind (qf a σ h) λ_=>NX.bind (qf b σ _) λ_=>qEr
 | .neg a,σ,h=>by unfold ev;refine NX.bind (qf a σ h) λ_=>?_;(repeat (first|exact NX.ok _|exact NX.st|split))
 | .cmp op a b,σ,h=>by unfold ev;exact NX.bind (qf a σ h) λ_=>NX.bind (qf b σ _) λ_=>qBS
 | .cmp2 o1 o2 a b c,σ,h=>by
  unfold ev;refine NX.bind (qf a σ h) λ_=>NX.bind (qf b σ _) λ_=>?_
  (try dsimp only);split
  ·exact NX.bind (qf c σ _) λ_=>qBS
  ·exact NX.ok _
  ·exact NX.st
 | .and a b,σ,h=>by unfold ev;refine NX.bind (Qk (qf a σ h)) λ_=>?_;(try dsimp only);split;exact qf b σ _;exact NX.ok _
 | .or a b,σ,h=>by unfold ev;refine NX.bind (Qk (qf a σ h)) λ_=>?_;(try dsimp only);split;exact NX.ok _;exact qf b σ _
 | .not a,σ,h=>by unfold ev;exact NX.bind (Qk (qf a σ h)) λ_=>NX.ok _
 | .ite c a b,σ,h=>by unfold ev;refine NX.bind (Qk (qf c σ h)) λ_=>?_;(try dsimp only);split;exact qf a σ _;exact qf b σ _
 | .call f as,σ,h=>by unfold ev;exact NX.bind (jB as σ h) λ_=>NX.nx _
 | .blt f as,σ,h=>by unfold ev;exact NX.bind (jB as σ h) λ_=>qD9
 | .isi a ts,σ,h=>by unfold ev;refine NX.bind (qf a σ h) λ_=>?_;(repeat (first|exact NX.ok _|exact NX.st|split))
 | .idx a b,σ,h=>by unfold ev;refine NX.bind (qf a σ h) λ_=>NX.bind (qf b σ _) λ_=>?_;(repeat (first|exact NX.ok _|exact NX.st|split))
 | .sl a lo hi,σ,h=>by unfold ev newL newT;refine NX.bind (qf a σ h) λ_=>NX.bind (jB lo σ _) λ_=>NX.bind (jB hi σ _) λ_=>?_;(repeat (first|exact NX.ok _|exact NX.st|split))
 | .lst as,σ,h=>by unfold ev newL;refine NX.bind (jB as σ h) λ_=>?_;(repeat (first|exact NX.ok _|exact NX.st|split))
 | .tup as,σ,h=>by unfold ev newT;refine NX.bind (jB as σ h) λ_=>?_;(repeat (first|exact NX.ok _|exact NX.st|split))
 | .comp it src g c e,σ,h=>by
  unfold ev;refine NX.bind (qA1 it σ h) λ_=>?_
  (try dsimp only);split
  ·exact JO (qEm c) (qf e) _ _ _ _ _
  ·exact NX.st
 | .app a b,σ,h=>by
  unfold ev;refine NX.bind (qf a σ h) λ_=>?_
  (try dsimp only);split
  ·split
   ·refine NX.bind (qf b σ _) λ_=>?_
    (repeat (first|exact NX.ok _|exact NX.st|split))
   ·exact NX.st
  ·exact NX.st
 | .txu o a,σ,h=>by unfold ev;refine NX.bind (qf a σ h) λ_=>?_;(repeat (first|exact NX.ok _|exact NX.st|split))
 | .join a,σ,h=>by unfold ev;refine NX.bind (qf a σ h) λ_=>?_;refine Zm λ_=>?_;(repeat (first|exact NX.ok _|exact NX.st|split))
 | .lrng a,σ,h=>by unfold ev newL;refine NX.bind (qf a σ h) λ_=>?_;(repeat (first|exact NX.ok _|exact NX.st|split))
 | .dnew,σ,h=>by unfold ev;(repeat (first|exact NX.ok _|exact NX.st|split))
 | .meth m a as,σ,h=>by
  unfold ev;refine NX.bind (qf a σ h) λ_=>?_
  (try dsimp only);split
  ·split
   ·exact NX.bind (jB as σ _) λ_=>qC5
   ·exact NX.st
  ·exact NX.st
theorem jB:∀(as:Es) (σ:St) (h:AH),NX (evs F as σ h)
 | .nil,σ,h=>by unfold evs;exact NX.ok _
 | .cons a as,σ,h=>by unfold evs;exact NX.bind (qf a σ h) λ_=>NX.bind (jB as σ _) λ_=>NX.ok _
theorem qEm:∀(as:Es) (σ:St) (h:AH),NX (evc F as σ h)
 | .nil,σ,h=>by unfold evc;exact NX.ok _
 | .cons a _,σ,h=>by unfold evc;exact Qk (qf a σ h)
theorem qA1:∀(it:Itr) (σ:St) (h:AH),NX (evi F it σ h)
 | .list a,σ,h=>by unfold evi;refine NX.bind (qf a σ h) λ_=>?_;(repeat (first|exact NX.ok _|exact NX.st|split))
 | .rng1 a,σ,h=>by unfold evi;refine NX.bind (qf a σ h) λ_=>?_;(repeat (first|exact NX.ok _|exact NX.st|split))
 | .rng2 a b,σ,h=>by unfold evi;refine NX.bind (qf a σ h) λ_=>NX.bind (qf b σ _) λ_=>?_;(repeat (first|exact NX.ok _|exact NX.st|split))
 | .zip a b,σ,h=>by unfold evi;refine NX.bind (qf a σ h) λ_=>NX.bind (qf b σ _) λ_=>?_;(repeat (first|exact NX.ok _|exact NX.st|split))
 | .revd a,σ,h=>by unfold evi;refine NX.bind (qf a σ h) λ_=>?_;(repeat (first|exact NX.ok _|exact NX.st|split))
end
mutual
noncomputable def S.calm:S->Bool
 | .ifs _ t u=>t.calm&&u.calm
 | .for_ _ _ b=>b.calm
 | .xexpr _ _=>false
 | .nloop _ _ _ _ _=>false
 | .raise _=>false
 | .tryK _ _ _ _ _=>true
 | .xret _ _=>false
 | .xrn _ _ _=>false
 |_=>true
noncomputable def Ss.calm:Ss->Bool
 | .nil=>true
 | .cons s r=>s.calm&&r.calm
end
theorem G7{s:Src}{g:Tg}{b:St->AH->RS}(hb:∀σ h,NX (b σ h)):∀(n i:Nat) (σ:St) (h:AH),NX (A0 s g b n i σ h)
 | 0,i,σ,h=>by unfold A0;(repeat (first|exact NX.ok _|exact NX.st|split))
 |n+1,i,σ,h=>by
  unfold A0;split
  ·split
   ·refine NX.bind (hb _ _) λa=>?_
    try dsimp only
    split
    ·exact G7 hb n _ _ _
    ·exact G7 hb n _ _ _
    ·exact NX.ok _
    ·exact NX.ok _
   ·exact NX.st
  ·exact NX.st
mutual
theorem qDn:∀(s:S),s.calm=true->∀(σ:St) (h:AH),NX (ex F s σ h)
 | .asg g e,_,σ,h=>by unfold ex;refine NX.bind (qf F e σ h) λ_=>?_;(repeat (first|exact NX.ok _|exact NX.st|split))
 | .put o i v,_,σ,h=>by unfold ex;refine NX.bind (qf F v σ h) λ_=>NX.bind (qf F o σ _) λ_=>NX.bind (qf F i σ _) λ_=>?_;(repeat (first|exact NX.ok _|exact NX.st|split))
 | .expr e,_,σ,h=>by unfold ex;exact NX.bind (qf F e σ h) λ_=>NX.ok _
 | .ret e,_,σ,h=>by unfold ex;exact NX.bind (qf F e σ h) λ_=>NX.ok _
 | .ifs c t u,hc,σ,h=>by
  unfold S.calm at hc;rw[Bool.and_eq_true]at hc;unfold ex;refine NX.bind (Qk (qf F c σ h)) λ_=>?_
  (try dsimp only);split
  ·exact O4 t hc.1 _ _
  ·exact O4 u hc.2 _ _
 | .for_ g it b,hc,σ,h=>by
  unfold S.calm at hc;unfold ex;refine NX.bind (qA1 F it σ h) λ_=>?_
  (try dsimp only);split
  ·exact G7 (O4 b hc) _ _ _ _
  ·exact NX.st
 | .stop,_,σ,h=>by unfold ex;exact NX.st
 | .xexpr f as,hc,σ,h=>by unfold S.calm at hc;cases hc
 | .nloop _ _ _ _ _,hc,σ,h=>by unfold S.calm at hc;cases hc
 | .raise c,hc,σ,h=>by unfold S.calm at hc;cases hc
 | .xret f as,hc,σ,h=>by unfold S.calm at hc;cases hc
 | .xrn o f as,hc,σ,h=>by unfold S.calm at hc;cases hc
 | .tryK b e i m ks,_,σ,h=>by
  unfold ex
  try dsimp only
  split
  ·split
   ·exact NX.ok _
   ·exact NX.st
  ·rename_i q;intro c h' z;exact q c h' z
theorem O4:∀(s:Ss),s.calm=true->∀(σ:St) (h:AH),NX (exs F s σ h)
 | .nil,_,σ,h=>by unfold exs;exact NX.ok _
 | .cons s r,hc,σ,h=>by
  unfold Ss.calm at hc;rw[Bool.and_eq_true]at hc;unfold exs;refine NX.bind (qDn s hc.1 σ h) λ_=>?_
  (try dsimp only);split
  ·exact O4 r hc.2 _ _
  ·exact NX.ok _
end
end
open L2 (Un HOk ObjOk frs CXT XK)
theorem O8{P:Program}{w:World}{H:Hp}{h:Heap}{a:Addr}{o:HO}(x:ObjOk P w H h a o):∃u,h.get? a=some u:=by
 induction o with
 |lst xs=>obtain⟨z,its,n,r,e⟩:=x;exact⟨_,e⟩
 |tup xs=>obtain⟨z,its,r,ob,e,c⟩:=x;exact⟨_,e⟩
 |dK kvs=>obtain⟨_,_,vs,_,o,es,ep,h1,_⟩:=x;exact⟨_,h1⟩
 |dT kvs=>obtain⟨_,_,xs,_,o,es,ep,h1,_⟩:=x;exact⟨_,h1⟩
 |set S n=>obtain⟨o,_,_,_,e,_⟩:=x;exact⟨_,e⟩
 |ins C dx fs=>obtain⟨_,_,_,h1,_⟩:=x;exact⟨_,h1⟩
 |own y=>exact x
 |xd fs=>obtain⟨mA,⟨o,es,ep,h1,_⟩,_⟩:=x;exact⟨_,h1⟩
 |met f y=>exact⟨_,x⟩
 |rng lo hi=>obtain⟨t,u,v,e⟩:=x;exact⟨_,e⟩
 |frz o u ih=>exact⟨_,x.1⟩
 |tbl ps=>exact⟨_,x⟩
 |ext φ=>exact x.2.1
def Cov(l:List Env)(s:Heap)(H':Hp)(B h:Heap):Prop:=∀b o,h.get? b=some o->b∉frs l->((∃o',s.get? b=some o')\/H' b≠none)->B.get? b=some o
theorem stay{P:Program}{w:World}{l:List Env}{H H':Hp}{s h h' B base:Heap}(un:Un (frs l) [] H H' s h)(hok:HOk P w H' h)(cov:Cov l s H' B h)(hs:B.StaysIn h')(up:h.UpToSlots h')(fre:∀b∈frs l,H' b=none)(ff:h.FunFrames base l):
  Un (frs l) [] H H' s h'/\HOk P w H' h'/\Cov l s H' B h':=by
 have nof:∀b∈frs l,∀o,h.get? b=some o->∃sl,h'.get? b=some { o with slots:=sl }:=λb hb o e=>by
  obtain⟨_,o1,e1,nf⟩:=ff.mem hb;rw[e]at e1;cases e1;exact up b o e nf
 have tr:∀b o,H' b≠none->h.get? b=some o->h'.get? b=some o:=λb o hb e=>hs _ _ (cov b o e (λz=>hb (fre b z)) (.inr hb));refine⟨⟨λb o q n hb _=>?_,λb o q n hb hx=>?_,λb o q n hx=>un.free b o q n hx,λb o q hx=>?_,un.tups,un.frzs,un.tbls⟩,λa o e=>?_,λb o e hb c=>?_⟩
 ·exact hs _ _ (cov b o (un.keep b o q n hb (by simp)) hb (.inl ⟨o,q⟩))
 ·obtain⟨sl,e⟩:=un.slot b o q n hb hx;obtain⟨sl2,e2⟩:=nof b hb _ e;exact⟨sl2,e2⟩
 ·obtain⟨o',e⟩:=un.there b o q hx;by_cases hb:b∈frs l
  ·obtain⟨sl,e2⟩:=nof b hb _ e;exact⟨_,e2⟩
  ·exact⟨o',hs _ _ (cov b o' e hb (.inl ⟨o,q⟩))⟩
 ·refine(hok a o e).stay (λb u hb q=>tr b u ?_ q) (λb q=>q) λb xs q=>q;rcases hb with rfl|z
  ·rw[e];simp
  ·rw[z];simp
 ·have:∃o',h.get? b=some o':=by
   rcases c with⟨o1,q⟩|hb'
   ·exact un.there b o1 q (by simp)
   ·cases q:H' b with
    |none=>exact absurd q hb'
    |some u=>exact O8 (hok b u q)
  obtain⟨o',e'⟩:=this;have z:=cov b o' e' hb c;rw[hs _ _ z]at e;cases e;exact z
structure Fly(P:Program)(w:World)(l:List Env)(H:Hp)(s:Shared)(C ea:Addr)(H':Hp)(s':Shared):Prop where
 os:s'.os=s.os
 bare:AllBare s'.gens
 un:Un (frs l) [] H H' s.heap s'.heap
 hok:HOk P w H' s'.heap
 fl:∃B a0,Heap.FlyingW B l ea (.ref C) a0 s'.heap/\Cov l s.heap H' B s'.heap
noncomputable def CX1(P:Program)(w:World):CXT:=λouter H s E e s'=>∃ea C H',e=.ref ea/\Fly P w outer H s C ea H' s'/\E (.ref C) none H'
section
variable{X:Cx}{pins:List (Addr×Obj)}{σ:L2.St}{H H':Hp}{s s':Shared}
theorem ofs(I:Inv X pins σ H s)(hst:X.stack=X.env::X.outer)(hf:X.env.frame=some X.env.locals){b:Addr}(hb:b∈frs X.stack):b=X.env.locals\/b∈X.fs:=by
 rw[hst]at hb;unfold frs at hb;rw[wU,hf]at hb;exact List.mem_cons.mp hb
theorem qBU{h' B:Heap}{C ea:Addr}{a0:Value}(I:Inv X pins σ H s)(hst:X.stack=X.env::X.outer)(hf:X.env.frame=some X.env.locals)(hex:X.ex=[])(os:s'.os=s.os)(bare:AllBare s'.gens)(un:Un (frs X.stack) [] H H' s.heap h')(hok:HOk X.prog X.w H' h')(cov:Cov X.stack s.heap H' B h')
  (fl:Heap.FlyingW B X.outer ea (.ref C) a0 h'):Fly X.prog X.w X.outer X.H₀ X.s₀ C ea H' { s' with heap:=h' }:=by
 have I':Inv X pins σ H' { s' with heap:=h' }:=I.call' os un hok bare (λb z=>absurd z (by simp));have b0:=I'.base;rw[hex]at b0;refine⟨I'.os,bare,b0,hok,B,a0,fl,λb o e hb c=>?_⟩;refine cov b o e (λz=>?_) ?_
 ·rcases ofs I hst hf z with rfl|z
  ·rcases c with⟨o',q⟩|q
   ·exact absurd (Heap.lt_size q) (Nat.not_lt.mpr I.ok.above)
   ·exact q I'.free
  ·exact hb z
 ·rcases c with⟨o',q⟩|q
  ·exact .inl (I.base.there b o' q (by rw[hex];simp))
  ·exact .inr q
theorem N4{h base:Heap}{fs:List Addr}:∀{l:List Env},(∀b∈frs l,b∈fs)->h.FunFrames base l->h.FunFrames (PySem.W.hideAll h fs) l
 | [],_,_=>trivial
 |env::l,hs,⟨k,⟨L,o,f,_,e,n⟩,r⟩=>⟨k,⟨L,o,f,PySem.W.hideAll_none fs (hs L (by unfold frs;rw[wU,f];exact List.mem_cons_self ..)),e,n⟩,N4 (λb hb=>hs b (by
  unfold frs at hb ⊢;rw[wU,f];exact List.mem_cons_of_mem _ hb)) r⟩
theorem G3{h1:Heap}{C ea:Addr}{vs:List Value}{E:Value->Shared->Prop}(I:Inv X pins σ H s)(hst:X.stack=X.env::X.outer)(hf:X.env.frame=some X.env.locals)(hex:X.ex=[])(hm:Heap.MadeExcOf s.heap h1 ea (.ref C) vs):
  wpAny (model X.prog X.w) X.A (leaving X.env (.ref ea)) (λ_ s''=>Fly X.prog X.w X.outer X.H₀ X.s₀ C ea H s'') E { s with heap:=h1 }:=by
 have fr:=I.ok.frames;rw[hst]at fr;have ff:=I.stack;have fh:s.heap.FunFrames (PySem.W.hideAll s.heap (frs X.stack)) (X.env::X.outer):=by rw[<-hst];exact N4 (λb hb=>hb) ff
 refine wpAny_leaves_madeW (base:=PySem.W.hideAll s.heap (frs X.stack)) (h:=s.heap) fr hf (λb o e=>PySem.W.of_hideAll _ e) fh hm λh' t fl _ _ up=>?_;have ff1:h1.FunFrames X.base X.stack:=ff.of_keeps λb o e _=>⟨o,hm.keeps b o e,rfl⟩
 have cov:Cov X.stack s.heap H (PySem.W.hideAll s.heap (frs X.stack)) h1:=λb o e hb c=>by
  have:∃o',s.heap.get? b=some o':=by
   rcases c with c|c
   ·exact c
   ·cases q:H b with
    |none=>exact absurd q c
    |some u=>exact O8 (I.hok b u q)
  obtain⟨o',e'⟩:=this;rw[hm.keeps b o' e']at e;cases e;exact PySem.W.hideAll_get _ e' hb
 obtain⟨u,k,c⟩:=stay (Un.kept hm.keeps) (I.hok.kept hm.keeps) cov fl.1 up I.stkFree ff1;exact qBU (s':={ s with heap:=h1 }) I hst hf hex rfl I.bare u k c fl
theorem S0{C ea:Addr}{E:Value->Shared->Prop}(I:Inv X pins σ H s)(hst:X.stack=X.env::X.outer)(hf:X.env.frame=some X.env.locals)(hex:X.ex=[])(F:Fly X.prog X.w X.stack H s C ea H' s'):
  wpAny (model X.prog X.w) X.A (leaving X.env (.ref ea)) (λ_ s''=>Fly X.prog X.w X.outer X.H₀ X.s₀ C ea H' s'') E s':=by
 obtain⟨B,a0,fl,cov⟩:=F.fl;have fr:=I.ok.frames;have fl0:=fl;rw[hst]at fr fl;refine wpAny_leaves_onW fr hf fl λh' fl' up=>?_;have fre:∀b∈frs X.stack,H' b=none:=λb hb=>by
  obtain⟨_,o,e,_⟩:=I.stack.mem hb;exact F.un.free b o e (I.stkFree b hb) (by simp)
 obtain⟨u,k,c⟩:=stay F.un F.hok cov fl'.1 up fre fl0.2.2.1;exact qBU (s':=s') I hst hf hex F.os F.bare u k c fl'
end
open PySem.W PySem.Builtin PySem.Builtin.ObjectAttr PySem.Builtin.Getset_descriptor
section
variable{K:Frag}{prog:Program}{w:World}{A:Around}{E:Value->Shared->Prop}{x D:Addr}{ox:Obj}{h:Heap}{g:Array GenState}{d:Drawn}{t:Nat}{os:OsState}
theorem qEM{R:Result->Shared->Prop}{ty:Value}(X:K.In h)(hx:h.get? x=some ox)(hc:ox.cls=.ref D)(hm:mroIn K D (.type "object")=some true)(fin:R (.ok (.ret (.ref D))) ⟨h,g,d,t,os⟩):
  codeAny (model prog w) A (.call (.builtin "getset_descriptor.__get__") ⟨[.builtin "object.__class__",.ref x,ty],[]⟩) R ⟨h,g,d,t,os⟩:=by
 have ty0:Looks (model prog w) h (typeOf (.ref x)) (.ref D):=hc ▸ (Looks.ld hx).andThen .now;have mr:=looks_mroIn (M:=model prog w) X hm;refine codeAny_call_builtin KF.slot_gs.plain KF.entry_gs (KF.slot_gs.check _ _ _ _ _ _ _ _ KF.type_class (KF.args_gs _ _ _) ?_);unfold Builtin.«getset_descriptor.__get__» descrGet;rw[dga_obj];refine vC (vD ?_);unfold descrGetter descrCheckInstance descrNameAndClass isInstance;simp only[KF.owner_class]
 repeat lk
 refine⟨Code.quiet_builtin _ (by decide +kernel),codeAny_builtin KF.entry_class ?_⟩;unfold Builtin.«object.__class__» shownTypeOf;repeat lk
 exact fin
theorem v4{tk:Tok}{Q:Fin->Shared->Prop}(X:K.In h)(hx:h.get? x=some ox)(hc:ox.cls=.ref D)(ha:findIn K (.ref D) "__class__"=some (some (.builtin "object.__class__")))(hm:mroIn K D (.type "object")=some true)(fin:Q (.done (.ret (.ref D))) ⟨h,g,d,t,os⟩):
  wpAny (model prog w) A (Builtin.«object.__getattribute__» ⟨[.ref x,.str "__class__" tk],[]⟩) Q E ⟨h,g,d,t,os⟩:=by
 have g1:(⟨h,g,d,t,os⟩:Shared).TypeIs (.builtin "object.__class__") "getset_descriptor":=F.typeOf_object_class;have g2:=F.typeOf_object_class;have g3:=F.slot_gs_get.lookup;have g4:=F.slot_gs_set.lookup;have g5:=looks_findIn (M:=model prog w) X ha
 repeat (any_goals (first|assumption|(with_reducible refine wpAny_loadPart_at hx ?_;rw[hc])|with_reducible refine g5.at ?_|wp_step))
 refine qEM X hx hc hm ?_
 repeat (any_goals (first|assumption|wp_step))
theorem qAY{M:Model}{nv:Value}{Q:Unit->Shared->Prop}(X:K.In h)(hx:h.get? x=some ox)(hc:ox.cls=.ref D)(hb:mroIn K D (.type "BaseException")=some true)(fin:Q () ⟨h,g,d,t,os⟩):
  wpAny M A (checkBuiltinCall "BaseException.__getattribute__" ⟨[.ref x,nv],[]⟩) Q E ⟨h,g,d,t,os⟩:=by
 have k1:builtinKind "BaseException.__getattribute__"=some .slot:=by decide +kernel
 have k2:splitId "BaseException.__getattribute__"=some ("BaseException","__getattribute__"):=by decide +kernel
 have k3:=F.args_bexc_ga (.ref x) nv;have k4:=looks_mroIn (M:=M) X hb;simp only[checkBuiltinCall,k1,k2];refine vC ?_;unfold isInstance
 repeat (first|(with_reducible refine wpAny_loadPart_at hx ?_;rw[hc])|with_reducible refine k4.at ?_|wp_step)
 exact fin
structure T8(K:Frag)(D:Addr):Prop where
 cl:∃cd,clsIn K D=some cd
 ca:findIn K (.ref D) "__class__"=some (some (.builtin "object.__class__"))
 mo:mroIn K D (.type "object")=some true
 mb:mroIn K D (.type "BaseException")=some true
 ga:findIn K (.ref D) "__getattribute__"=some (some (.builtin "BaseException.__getattribute__"))
 gn:findIn K (.ref D) "__getattr__"=some none
 ex:excIn K D [.type "ValueError",.type "Exception",.type "BaseException",.type "object"] "ValueError.__new__"=true
theorem qGi{tk:Tok}{qIA ex:Bool}{Q:Value->Shared->Prop}(X:K.In h)(c:T8 K D)(hx:h.get? x=some ox)(hc:ox.cls=.ref D)(fin:Q (.ref D) ⟨h,g,d,t,os⟩):wpAny (model prog w) A (getAttrBy (.ref x) (.str "__class__" tk) qIA ex) Q E ⟨h,g,d,t,os⟩:=by
 have e3:=F.excAttr_ValueError.ga.bind (.ref x);have e4:(ex&&onTheHeap (Value.builtin "BaseException.__getattribute__"))=false:=by cases ex<;>rfl
 have e5:(Value.builtin "BaseException.__getattribute__"==Value.builtin "object.__getattribute__")=false:=by decide +kernel
 have e6:(onTheHeap (Value.ref D)&&Value.builtin "BaseException.__getattribute__"==Value.builtin "object.__getattribute__")=false:=by rw[e5];rfl
 have e7:=looks_findIn (M:=model prog w) X c.ga;have e8:=looks_findIn (M:=model prog w) X c.gn
 repeat (any_goals (first|assumption|(with_reducible refine wpAny_loadPart_at hx ?_;rw[hc])|with_reducible refine e7.at ?_|with_reducible refine e8.at ?_|wp_step))
 refine codeAny_call_builtin F.excAttr_ValueError.ga.plain F.entry_bexc_ga (qAY X hx hc c.mb (v4 X hx hc c.ca c.mo ?_))
 repeat (any_goals (first|assumption|wp_step))
theorem v6{Q:Option Value->Shared->Prop}(X:K.In h)(c:T8 K D)(hx:h.get? x=some ox)(hc:ox.cls=.ref D)(fin:Q (some (.ref D)) ⟨h,g,d,t+1,os⟩):wpAny (model prog w) A (getAttr? (.ref x) "__class__") Q E ⟨h,g,d,t,os⟩:=by
 unfold getAttr? getAttrBy?
 repeat (any_goals (first|assumption|with_reducible apply qGi X c hx hc|wp_step))
theorem qBd(c:T8 K D):KitX K (.ref x) (.ref D) (λh=>∃ox,h.get? x=some ox/\ox.cls=.ref D) where
 ty:=λ_ _ _ ⟨ox,hx,hc⟩=>hc ▸ (Looks.ld hx).andThen .now
 it:=λ_ _ X _=>by
  obtain⟨cd,hcd⟩:=c.cl;unfold clsIn at hcd;split at hcd
  ·rename_i ho;intro A2 Q2 E2 s2 k2 q2;unfold isType loadHead;exact vC (wpAny_loadPart (k2 _ _ (X _ _ ho)) (vD q2))
  ·cases hcd
 ne:=λh tp dd its n sl X htp=>by
  obtain⟨cd,hcd⟩:=c.cl;refine Bool.eq_false_iff.mpr λq=>?_;cases Value.ref.inj (beq_iff_eq.mp q);unfold clsIn at hcd;split at hcd
  ·rename_i ho;cases (X _ _ ho).symm.trans htp
  ·cases hcd
 ca:=λ{_ _ _ _ _ s} X ⟨ox,hx,hc⟩ k=>by obtain⟨h,g,d,t,os⟩:=s;exact v6 X c hx hc k
theorem qBs{h:Heap}{C:Addr}{bmB:List Value}{nid:String}(X:K.In h)(q:excIn K C bmB nid=true):∃bm N nm qn bs hd sn sb ab col dd k0 k1 k2 k3 k5 mN,h.get? C=some (excClassObj nm qn C N bs bm hd sn sb ab col dd k0 k1 k2 k3 k5 nid)/\h.Ns N mN/\mN "__init__"=none/\OwnTail h bmB bm:=by
 unfold excIn at q;split at q
 ·rename_i dd cd sl ho;split at q
  ·rename_i C2 bm k0 k1 k2 k3 n k5 hm hs;simp only[Bool.and_eq_true,beq_iff_eq,Bool.not_eq_true']at q;obtain⟨⟨⟨⟨⟨rfl,rfl⟩,hdl⟩,htl⟩,hno⟩,hin⟩:=q;obtain⟨nm,bs,mro,ns,qn,hd,sn,sb,ab,col,dl⟩:=cd;dsimp only at hm hdl hno hin;subst hm hdl;have e6:sl=#[k0,k1,k2,k3,some (.builtin n),k5]:=by obtain⟨l⟩:=sl;simp only at hs;rw[hs]
   subst e6;exact⟨bm,ns,nm,qn,bs,hd,sn,sb,ab,col,dd,k0,k1,k2,k3,k5,_,X _ _ ho,.of_isNs (isNs_of_in X hno),nsMap_none_of_in X hno hin,tail_of_in X htl⟩
  ·cases q
 ·cases q
end
section
variable{X:Cx}{pins:List (Addr×Obj)}{σ:L2.St}{H H':Hp}{s s':Shared}
theorem u8{x:Str}{C:Addr}{v:Str}{np p cpos pos:Pos}{j:Nat}{Q:Flow->Shared->Prop}(hg:L2.Gl X x)(hm:X.mg x=some (.ref C))(hd:(x==("__debug__":Str))=false)(hc:X.calm=true)(c:T8 X.K C)(I:Inv X pins σ H s)
  (k:∀s2 h1 ea vs,Inv X pins σ H s2->Heap.MadeExcOf s2.heap h1 ea (.ref C) vs->X.xe (.ref ea) { s2 with heap:=h1 }):wpAny (model X.prog X.w) X.A (exec (.Raise (some (.Call (.Name x np) [.Constant (.str v) j p] [] cpos)) none pos) X.env) Q X.xe s:=by
 obtain⟨bm,N,nm,qn,bs,hdc,sn,sb,ab,col,dd,k0,k1,k2,k3,k5,mN,hC,hN,hni,T⟩:=qBs I.mod.kin c.ex;have st:starEach [Expr.Constant (.str v) j p] X.env=(false,eval (.Constant (.str v) j p) X.env)::starEach [] X.env:=rfl;refine wpAny_Raise_call_subT (C:=C) (bm:=bm) (nm:=nm) (q:=qn) (N:=N) (bs:=bs) (hdct:=hdc) (sn:=sn) (sub:=sb) (ab:=ab) (col:=col) (dd:=dd) (k0:=k0) (k1:=k1) (k2:=k2) (k3:=k3) (k5:=k5) F.excBase_ValueError (mN:=mN) (T.hasType F.excBase_ValueError.hasBase) (I.ok.hd hc) rfl hni (L2.ld_glob I hg hm ⟨rfl,?_⟩ hd);refine Calls.evalArgs_plain (wpAny_mono (L2.pa_cons (X:=X) L2.pe_str L2.pa_nil st cpos pins s σ H (λws H1=>ws.length=1/\H1=H) I ⟨rfl,rfl⟩) (λus s2 ⟨ws,H1,I1,r1,l1,e1⟩=>?_) λ_ _ y=>y);subst e1;exact⟨rfl,by rw[<-r1.length,l1];decide,I1.bk _ _ hC,hN.keeps I1.bk,T.keeps I1.bk,λh1 e hm=>k s2 h1 e _ I1 hm⟩
end
noncomputable def XE(X:Cx)(ea:Addr)(oe:Obj)(E:Value->Shared->Prop):Cx:={ X with A:=X.A.mark (some (.ref ea)),calm:=false,pn:=(ea,oe)::X.pn,xe:=E }
section
variable{X:Cx}{pins:List (Addr×Obj)}{σ:L2.St}{H H':Hp}{s s':Shared}{ea:Addr}{oe:Obj}{E:Value->Shared->Prop}
theorem qEt(I:Inv X pins σ H s)(h1:s.heap.get? ea=some oe)(h2:H ea=none)(h3:ea≠X.env.locals)(h4:ea∉X.fs)(h5:∀v,oe.data≠.cell v):Inv (XE X ea oe E) pins σ H s:=
 ⟨⟨I.ok.mod,I.ok.kind,I.ok.glob,I.ok.blt,I.ok.above,I.ok.inj,I.ok.has,I.ok.cab,(λz=>nomatch z),I.ok.frames,I.ok.stk,I.ok.exf,I.ok.bs,I.ok.bsz,I.ok.noex,I.ok.exfs,I.ok.funs,I.ok.frf⟩,I.os,I.bare,I.base,I.loc,I.cell,I.free,I.freeC,λp hp=>by
  have hp:p∈(ea,oe)::(X.pn++pins):=hp;rcases List.mem_cons.mp hp with rfl|hp
  ·exact⟨h1,h2,h3,h4,h5⟩
  ·exact I.pin p hp,I.hok,I.len⟩
theorem qFt(ok:X.Ok)(I:Inv (XE X ea oe E) pins σ H s):Inv X pins σ H s:=
 ⟨ok,I.os,I.bare,I.base,I.loc,I.cell,I.free,I.freeC,λp hp=>I.pin p (List.mem_cons_of_mem _ hp),I.hok,I.len⟩
theorem qHR(I:Inv (XE X ea oe E) pins σ H s):s.heap.get? ea=some oe:=(I.pin (ea,oe) (List.mem_cons_self ..)).1
def rXi(ea:Addr)(cv:V)(b:Bool):List V->Hp->VK->Prop:=λxs H Q=>xs=[.ref ea,cv]/\Q (.bl b) H
theorem N3{C:Addr}{cv:V}{u:Value}{b:Bool}(c:T8 X.K C)(hc:oe.cls=.ref C)(hu:∀w,RelV cv w->w=u)(hk:kitOne X.K (.ref C) u=some b):qq (XE X ea oe E) (.builtin "isinstance") (rXi ea cv b):=by
 intro pins s σ H xs us Q I r ⟨e,q⟩;subst e;obtain⟨u1,u2,rfl,r1,r2⟩:=L2.vals2 r;cases (show u1=Value.ref ea from r1);cases hu u2 r2;exact kia_one (qBd c) I.kIn ⟨oe,qHR I,hc⟩ hk (λz=>nomatch z) λtk=>⟨.bl b,H,I.tok tk,rfl,q⟩
theorem qBg{M:Model}{A:Around}{n:Str}{i:Nat}{pos:Pos}{Q:Unit->Shared->Prop}(I:Inv X pins σ H s)(hN:X.N.Nodup)(hi:X.N[i]?=some n)(hk:X.env.scope.names.lookup n=some .local)(k:∀s',Inv X pins (σ.set i none) H s'->Q () s'):
  wpAny M A (do bindName X.env n .none;unbindBehindTheSuite X.env n pos) Q E s:=by
 obtain⟨m,hn,hl⟩:=id I.loc;have cl:(X.env.scope.kind==.class||(X.env.scope.kind==.module&&X.env.locals != X.env.globals))=false:=by rw[I.ok.kind];rfl
 refine wpAny_nameGoes_keeps hk hn cl λh1 v hn1 hs=>k _ ?_;have old:∀b o,X.s₀.heap.get? b=some o->b≠X.env.locals:=λb o e=>wK (wD (Heap.lt_size e) I.ok.above);refine⟨I.ok,I.os,I.bare,⟨λb o e q hb hx=>(hs.2 b (old b o e)).trans (I.base.keep b o e q hb hx),λb o e q hb hx=>?_,I.base.free,λb o e hx=>?_,I.base.tups,I.base.frzs,I.base.tbls⟩,⟨_,hn1,λj y v2 e1 e2 e3=>?_⟩,λy c e=>?_,I.free,I.freeC,λp hp=>?_,λb u e=>?_,by simpa using I.len⟩
 ·obtain⟨sl,e1⟩:=I.base.slot b o e q hb hx;exact⟨sl,(hs.2 b (old b o e)).trans e1⟩
 ·obtain⟨o2,e1⟩:=I.base.there b o e hx;exact⟨o2,(hs.2 b (old b o e)).trans e1⟩
 ·by_cases hj:j=i
  ·subst hj;rw[List.getElem?_set]at e2;simp at e2
  ·rw[List.getElem?_set_ne (Ne.symm hj)]at e2;obtain⟨u2,r2,q⟩:=hl j y v2 e1 e2 e3;refine⟨u2,r2,?_⟩;rcases q with⟨kk,e⟩|⟨kk,c,e,z⟩
   ·have hy:y≠n:=λz=>hj (L2.nodup_ix hN e1 (z ▸ hi));exact .inl ⟨kk,(if_neg hy).trans e⟩
   ·exact .inr ⟨kk,c,e,z.sameBut hs (I.cne y c e)⟩
 ·obtain⟨w2,z⟩:=I.cell y c e;exact⟨w2,z.sameBut hs (I.cne y c e)⟩
 ·obtain⟨e,q,ne,nf,dd⟩:=I.pin p hp;exact⟨(hs.2 p.1 ne).trans e,q,ne,nf,dd⟩
 ·refine(I.hok b u e).stay (λc w2 hc q=>(hs.2 c ?_).trans q) (λ_ q=>q) λ_ _ q=>q;rintro rfl;rcases hc with rfl|hc
  ·rw[I.free]at e;cases e
  ·rw[I.free]at hc;cases hc
theorem qEi{x n:Str}{C C0:Addr}{i:Nat}{np hpos:Pos}{b0:Stmt}{suite:List Stmt}{jz:List ExceptHandler}{Q:Flow->Shared->Prop}{R7:L2.St->Hp->Prop}(I:Inv X pins σ H s)(hst:X.stack=X.env::X.outer)(hf:X.env.frame=some X.env.locals)(hex:X.ex=[])(hN:X.N.Nodup)(hi:X.N[i]?=some n)
  (hk:X.env.scope.names.lookup n=some .local) (hg:L2.Gl X x) (hm:X.mg x=some (.ref C0)) (hd:(x==("__debug__":Str))=false) (hx:exmOne X.K (.ref C) (.ref C0)=some true) (Fy:Fly X.prog X.w X.stack H s C ea H' s')
  (k:∀oe s6,oe.cls=.ref C->Inv (XE X ea oe λ_ _=>False) pins (σ.set i (some (.ref ea))) H' s6->wpAny (model X.prog X.w) (X.A.mark (some (.ref ea))) (execs (b0::suite) X.env) (λf s7=>f=.next/\∃σ7 H7,Inv (XE X ea oe λ_ _=>False) pins σ7 H7 s7/\R7 (σ7.set i none) H7) (λ_ _=>False) s6)
  (fin:∀σ7 H7 s8 oe,oe.cls=.ref C->X.s₀.heap.get? ea=none->s8.heap.get? ea=some oe->H7 ea=none->ea≠X.env.locals->(∀v,oe.data≠.cell v)->(∀p∈X.pn++pins,p.1≠ea)->Inv X pins σ7 H7 s8->R7 σ7 H7->Q .next s8):
  wpAny (model X.prog X.w) X.A (noteFrame (.ref ea) X.env) (λ_ s2=>wpAny (model X.prog X.w) X.A (setFlight (.ref ea) none) (λ_ s3=>wpAny (model X.prog X.w) X.A (handleBy (.ref ea) X.env (.ExceptHandler (some (.Name x np)) (some n) (b0::suite) hpos::jz)) Q E s3) E s2) E s':=by
 obtain⟨B,a0,fl,cov⟩:=Fy.fl;have fr:=I.ok.frames;have fl0:=fl;rw[hst]at fr fl;have fre:∀b∈frs X.stack,H' b=none:=λb hb=>by
  obtain⟨_,o,e,_⟩:=I.stack.mem hb;exact Fy.un.free b o e (I.stkFree b hb) (by simp)
 refine wpAny_looks_onW fr hf fl λh4 held up4=>?_;refine wpAny_landsW held λh5 fl5 up5=>?_;obtain⟨u5,k5,c5⟩:=stay Fy.un Fy.hok cov fl5.1 (up4.trans up5) fre fl0.2.2.1;have I5:Inv X pins σ H' { s' with heap:=h5 }:=I.call' Fy.os u5 k5 Fy.bare (λb z=>absurd z (by simp));have not_fr:∀{h:Heap}{oe:Obj}{ws:Array Value},h.FunFrames B X.stack->h.get? ea=some oe->oe.data=.fields ws->ea∉frs X.stack:=λ{h oe ws} ff e d z=>by
  obtain⟨_,o,e2,nf⟩:=ff.mem z;rw[e]at e2;cases e2;exact nf ws d
 have apart:∀{h:Heap}{oe:Obj}{ws:Array Value},h.FunFrames B X.stack->Cov X.stack s.heap H' B h->B.get? ea=none->h.get? ea=some oe->oe.data=.fields ws->H' ea=none/\ea≠X.env.locals/\ea∉X.fs/\∀v,oe.data≠.cell v:=λ{h oe ws} ff cv hb e d=>by
  have nf:=not_fr ff e d;refine⟨?_,λz=>nf ?_,λz=>nf ?_,λv q=>by rw[d]at q;cases q⟩
  ·cases q:H' ea with
   |none=>rfl
   |some u=>
    have:=cv ea oe e nf (.inr (by rw[q];simp));rw[hb]at this;cases this
  ·rw[hst];unfold frs;rw[wU,hf,z];exact List.mem_cons_self ..
  ·rw[hst];unfold frs;rw[wU,hf];exact List.mem_cons_of_mem _ z
 obtain⟨oe5,ws5,e5,hc5,d5,_⟩:=fl5.first;have ff5:h5.FunFrames B X.stack:=by rw[hst];exact fl5.2.2.1
 obtain⟨a1,a2,a3,a4⟩:=apart ff5 c5 fl5.2.1 e5 d5;have IM:Inv (XE X ea oe5 λ_ _=>False) pins σ H' { s' with heap:=h5 }:=qEt I5 e5 a1 a2 a3 a4;refine wpAny_handleBy_cons (codeAny_handlers_test (L2.ld_glob IM hg hm ?_ hd)) (by intro q;cases q);have LT:Looks (model X.prog X.w) h5 (typeOf (.ref ea)) (.ref C):=hc5 ▸ (Looks.ld e5).andThen .now;refine(exm_one I5.kIn LT hx).here ?_;refine codeAny_handlers_suite_as ?_;refine lands_againW fl5 λh6 fl6 up6=>?_;obtain⟨u6,k6,c6⟩:=stay u5 k5 c5 fl6.1 up6 fre ff5;have I6:Inv X pins σ H' { s' with heap:=h6 }:=I.call' Fy.os u6 k6 Fy.bare (λb z=>absurd z (by simp));obtain⟨oe6,ws6,e6,hc6,d6,_⟩:=fl6.first;have ff6:h6.FunFrames B X.stack:=by rw[hst];exact fl6.2.2.1
 obtain⟨b1,b2,b3,b4⟩:=apart ff6 c6 fl6.2.1 e6 d6;have IM6:Inv (XE X ea oe6 λ_ _=>False) pins σ H' { s' with heap:=h6 }:=qEt I6 e6 b1 b2 b3 b4;refine L2.store_ok (X:=XE X ea oe6 λ_ _=>False) IM6 hN hi (.inl hk) (v:=.ref ea) rfl (λs7 I7=>?_) (.inr hk);refine wpAny_mono (k oe6 s7 hc6 I7) (λf s8 ⟨e,σ7,H7,I8,r⟩=>?_) (λ_ _ z=>z.elim);subst e;have nf6:ea∉frs X.stack:=not_fr ff6 e6 d6;have s0n:s.heap.get? ea=none:=by
  cases q:s.heap.get? ea with
  |none=>rfl
  |some o=>
   have:=c6 ea oe6 e6 nf6 (.inl ⟨o,q⟩);rw[fl6.2.1]at this;cases this
 refine qBg (X:=XE X ea oe6 λ_ _=>False) I8 hN hi hk λs9 I9=>fin _ _ s9 oe6 hc6 ?_ (qHR I9) (I9.pin (ea,oe6) (List.mem_cons_self ..)).2.1 b2 b4 (λp hp z=>?_) (qFt I.ok I9) r
 ·cases q:X.s₀.heap.get? ea with
  |none=>rfl
  |some o=>
   obtain⟨o',e'⟩:=I.base.there ea o q (by rw[hex];simp);rw[s0n]at e';cases e'
 ·have:=(I.pin p hp).1;rw[z,s0n]at this;cases this
end
structure Xs(K:Frag)(mg:Str->Option Value)(cn:List Str):Prop where
 nn:∀x∈cn,∃C,mg x=some (.ref C)/\nsIn K mainGlobals x=some (some (.ref C))/\T8 K C/\kitOne K (.ref C) (.type "ValueError")=some true
 sn:∀x∈cn,∀y∈cn,∀C D,mg x=some (.ref C)->mg y=some (.ref D)->kitOne K (.ref C) (.ref D)=some (qHe x y)
structure Gam where
 N:List Str
 sc:Scope
 fns:List Str
 gl:List (Str×E)
 bl:List Str
 own:Str->Bool
 cls:List Str:=[]
 xr:Bool:=false
noncomputable def slot(N:List Str)(x:Str):Option Nat:=(List.range N.length).find? λi=>N[i]?==some x
theorem qi{N:List Str}{x:Str}{i:Nat}(h:slot N x=some i):N[i]?=some x:=by
 unfold slot at h;simpa using List.find?_some h
noncomputable def qFp(sc:Scope)(x:Str):Bool:=match sc.names.lookup x with|some .local=>true|some .cell=>true|some .free=>true|_=>false
theorem qBu{sc:Scope}{x:Str}(h:qFp sc x=true):L2.Vis sc x:=by
 unfold qFp at h;unfold L2.Vis;split at h<;>first|(rename_i e;simp[e])|cases h
noncomputable def glB(sc:Scope)(x:Str):Bool:=sc.names.lookup x==some .globalImplicit
noncomputable def okN(x:Str):Bool:=!(x==("__debug__":Str))&&!(x==("__classdict__":Str))&&!decide (x="__name__")
noncomputable def qHU:Operator->Option BOp
 | .Add=>some .add | .Sub=>some .sub | .Mult=>some .mul | .FloorDiv=>some .fdiv | .Mod=>some .mod | .Pow=>some .pow | .BitAnd=>some .band | .LShift=>some .shl|_=>none
theorem qB8{o:Operator}{b:BOp}(h:qHU o=some b):o=opB b:=by
 cases o<;>cases h<;>rfl
noncomputable def R8:CmpOp->COp
 | .Lt=>.lt | .LtE=>.le | .Gt=>.gt | .GtE=>.ge | .Eq=>.eq | .NotEq=>.ne | .In=>.inn | .NotIn=>.notin | .Is=>.is | .IsNot=>.isnot
theorem D4(o:CmpOp):o=opC (R8 o):=by cases o<;>rfl
noncomputable def D2:Expr->Bool
 | .Set ..=>false
 |_=>true
noncomputable def Z7:Expr->Bool
 | .Call ..=>false
 |_=>true
noncomputable def bfL:List (Str×BF):=[("len",.len),("sum",.sum),("all",.all),("any",.any),("max",.max),("min",.min),("list",.list),("tuple",.tuple),("repr",.repr)]
noncomputable def qIF(x:Str):Option BF:=bfL.lookup x
theorem Zg{x:Str}{f:BF}:∀{l:List (Str×BF)},l.lookup x=some f->(x,f)∈l
 | [],h=>by cases h
 | (a,b)::l,h=>by
  rw[List.lookup_cons]at h;split at h
  ·rename_i e;cases h;rw[eq_of_beq e];exact List.mem_cons_self ..
  ·exact List.mem_cons_of_mem _ (Zg h)
theorem qD0:∀p∈bfL,bootBuiltins p.1=some (fnB p.2):=
 wN.mpr ⟨PySem.boot_len,wN.mpr ⟨PyProof.Rows.boot_sum,wN.mpr ⟨PyProof.Rows.boot_all,wN.mpr ⟨PyProof.Rows.boot_any,wN.mpr ⟨PyProof.Rows.boot_max,wN.mpr ⟨PyProof.Rows.boot_min,wN.mpr ⟨PyProof.Rows.boot_list,wN.mpr ⟨PyProof.Rows.boot_tuple,wN.mpr ⟨PyProof.Rows.boot_repr,(λ_ h=>absurd h wI)⟩⟩⟩⟩⟩⟩⟩⟩⟩
theorem qBb{x:Str}{f:BF}(h:qIF x=some f):bootBuiltins x=some (fnB f):=qD0 _ (Zg h)
noncomputable def qFj(x:Str):Option String:=
 if x="int" then some "int" else if x="bool" then some "bool" else if x="list" then some "list" else if x="tuple" then some "tuple" else if x="str" then some "str" else if x="dict" then some "dict" else none
theorem qCP{x:Str}{t:String}(h:qFj x=some t):bootBuiltins x=some (.type t)/\Ju t=true:=by
 unfold qFj at h
 repeat' split at h
 all_goals first|cases h|skip
 all_goals (rename_i hx;subst hx)
 ·exact⟨PyProof.Rows.boot_int,by decide⟩
 ·exact⟨PyProof.Rows.boot_bool,by decide⟩
 ·exact⟨PyProof.Rows.boot_list,by decide⟩
 ·exact⟨PyProof.Rows.boot_tuple,by decide⟩
 ·exact⟨PyProof.Rows.boot_str,by decide⟩
 ·exact⟨PyProof.Rows.boot_dict,by decide⟩
noncomputable def qFa(scope sc:Scope):Scope:=
 { scope with names:=scope.names.map λ(n,k)=>if (k==.free&&sc.kind==.function&&sc.names.lookup n==some .cell) then (n,.cell) else (n,k) }
noncomputable def Y2:Expr->List Str
 | .Name x _=>[x]
 | .Tuple es _ _=>es.filterMap λe:Expr=>match e with | .Name x _=>some x|_=>none
 |_=>[]
noncomputable def qEE(scope:Scope):List Str:=scope.names.filterMap λy=>if y.2=.free then some y.1 else none
noncomputable def Zu(Γ:Gam)(scope:Scope)(N:List Str)(src:List (Option Nat)):Bool:=
 decide (scope.kind=.function)&&scope.names.all (λy=>decide (scope.names.lookup y.1=some y.2))
 && scope.names.all (λy=>decide (y.2=.free->(Γ.sc.names.lookup y.1=some .cell\/Γ.sc.names.lookup y.1=some .free)))&&decide N.Nodup&&decide (src.length=N.length)
 && (List.range N.length).all (λi=>match N[i]?,src[i]? with|some x,some (some j)=>decide (Γ.N[j]?=some x/\scope.names.lookup x=some .free)|_,_=>true)
noncomputable def ZR(Γ:Gam)(x:Str):Bool:=match Γ.sc.names.lookup x with|some .local=>true|some .cell=>Γ.own x|_=>false
noncomputable def qFb(Γ:Gam):List Expr->Option (List Nat)
 | []=>some []
 | .Name x _::r=>if ZR Γ x then (match slot Γ.N x,qFb Γ r with|some i,some is=>some (i::is)|_,_=>none) else none
 |_=>none
noncomputable def trT(Γ:Gam):Expr->Option Tg
 | .Name x _=>if ZR Γ x then (slot Γ.N x).map .name else none
 | .Tuple es _ _=>(qFb Γ es).map .tup
 |_=>none
noncomputable def qFd:Expr->Bool
 | .Constant (.str _) _ _=>true
 | .Name x _=>(["text","mark","marks","_law_text","_law_text_here","_law_mark"]:List Str).contains x
 | .Call (.Name f _) _ _ _=>(["_law_text","_law_code_text","str"]:List Str).contains f
 | .Subscript a (.Slice _ _ _ _) _=>qFd a
 | .BinOp a .Add _ _=>qFd a
 |_=>false
noncomputable def qGX:Expr->Bool
 | .Constant (.str y) _ _=>decide (y=Str.ofString "")
 |_=>false
noncomputable def txF(f:Str)(args:List Expr):Option TU:=match args with
 | [a]=>if f="str" then some .str else if f="int"/\qFd a=true then some .int else if f="len"/\qFd a=true then some .len else none
 |_=>none
noncomputable def qG6:List Expr->Bool
 | [.Call (.Name r _) [_] [] _]=>decide (r="range")
 | [.Call (.Name r _) [_,_] [] _]=>decide (r="range")
 |_=>false
noncomputable def qHv:E->Bool
 |_=>true
mutual
noncomputable def trE:Nat->Gam->Expr->Option E
 | 0,_,_=>none
 |n+1,Γ,e=>match e with
  | .Constant c _ _=>(match c with
   | .int i=>some (.cst (.int i))
   | .bool i=>some (.cst (.bl i))
   | .none=>some (.cst .non)
   | .str i=>some (.cst (.str i))
   |_=>none)
  | .Name x _=>if okN x then (if qFp Γ.sc x then (slot Γ.N x).map .var else if glB Γ.sc x then Γ.gl.lookup x else none) else none
  | .BinOp a op b _=>match qHU op,trE n Γ a,trE n Γ b with|some o,some a',some b'=>some (.bin o a' b')|_,_,_=>none
  | .UnaryOp op a _=>(match op with
   | .USub=>(trE n Γ a).map .neg
   | .Not=>(trE n Γ a).map .not
   |_=>none)
  | .BoolOp op vs p=>trB n Γ op p vs
  | .IfExp c a b _=>match trE n Γ c,trE n Γ a,trE n Γ b with|some c',some a',some b'=>some (.ite c' a' b')|_,_,_=>none
  | .Compare a ops bs _=>(match ops,bs with
   | [op],[b]=>if D2 b then (match trE n Γ a,trE n Γ b with|some a',some b'=>some (.cmp (R8 op) a' b')|_,_=>none) else none
   | [o1,o2],[b,c]=>if D2 c then (match trE n Γ a,trE n Γ b,trE n Γ c with|some a',some b',some c'=>some (.cmp2 (R8 o1) (R8 o2) a' b' c')|_,_,_=>none) else none
   |_,_=>none)
  | .Call fn args kws cpos=>(match kws with
   | []=>(match fn with
    | .Name f _=>if okN f&&glB Γ.sc f&&args.all qN then trC n Γ f args else none
    | .Attribute o m apos=>(match args with
     | [x]=>if m="join"/\qGX o=true/\qN x=true/\(apos.endLine==cpos.line)=true then (trE n Γ x).map .join
   else if m="append"/\Z7 o=true/\qN x=true/\(apos.endLine==cpos.line)=true then (match trE n Γ o,trE n Γ x with|some o',some x'=>some (.app o' x')|_,_=>none)
   else if m="pop"/\Z7 o=true/\qN x=true/\(apos.endLine==cpos.line)=true then (match trE n Γ o,trE n Γ x with|some o',some x'=>some (.meth .popAt o' (.cons x' .nil))|_,_=>none)  else none
     | []=>none
     |_=>none)
    |_=>none)
   |_=>none)
  | .Subscript a b _=>(match b with
   | .Slice lo hi st _=>(match st with
    |none=>(match trE n Γ a,trO n Γ lo,trO n Γ hi with|some a',some l,some h=>some (.sl a' l h)|_,_,_=>none)
    |some _=>none)
   |b=>if Qn b then (match trE n Γ a,trE n Γ b with|some a',some b'=>some (.idx a' b')|_,_=>none) else none)
  | .List es _=>if es.all qN then (trA n Γ es).map .lst else none
  | .Tuple es _ _=>if es.all qN then (trA n Γ es).map .tup else none
  | .Dict ks vs _=>(match ks,vs with|[],[]=>some .dnew|_,_=>none)
  | .ListComp elt gens scope _=>(match gens with
   | [gen]=>(match gen with
    | ⟨tg,iter,ifs,asy⟩=>(match asy with
     | 0=>
      let N:=Y2 tg++qEE scope
      let src:=(Y2 tg).map (λ_=>none)++(qEE scope).map (slot Γ.N)
      let Γ':Gam:={ Γ with N:=N,sc:=qFa scope Γ.sc,own:=λx=>decide (scope.names.lookup x=some .cell) }
      if Zu Γ scope N src&&D2 iter then (match trI n Γ tg iter,trT Γ' tg,qDD n Γ' ifs,trE n Γ' elt with|some it,some g,some c,some e'=>some (.comp it src g c e')|_,_,_,_=>none) else none
     |_=>none))
   |_=>none)
  |_=>none
noncomputable def trA:Nat->Gam->List Expr->Option Es
 | 0,_,_=>none
 |_+1,_,[]=>some .nil
 |n+1,Γ,e::es=>match trE n Γ e,trA n Γ es with|some a,some as=>some (.cons a as)|_,_=>none
noncomputable def trB:Nat->Gam->BoolOp->Pos->List Expr->Option E
 | 0,_,_,_,_=>none
 |_+1,_,_,_,[]=>none
 |n+1,Γ,_,_,[a]=>trE n Γ a
 |n+1,Γ,op,p,a::b::r=>match trE n Γ a,trB n Γ op p (b::r) with|some a',some b'=>some (match op with | .And=>.and a' b' | .Or=>.or a' b')|_,_=>none
noncomputable def trC:Nat->Gam->Str->List Expr->Option E
 | 0,_,_,_=>none
 |n+1,Γ,f,args=>match slot Γ.fns f with
  |some i=>(trA n Γ args).map (.call i)
  |none=>if Γ.bl.contains f then
    (if f="isinstance" then (match args with
     | [a,.Name t _]=>if okN t&&glB Γ.sc t&&Γ.bl.contains t then (match trE n Γ a,qFj t with|some a',some t'=>some (.isi a' [t'])|_,_=>none) else none
     |_=>none)
    else if f="list"/\qG6 args=true then (match args with
     | [.Call (.Name r _) [a] [] _]=>if okN r&&glB Γ.sc r&&Γ.bl.contains r&&qN a&&decide (r="range") then (trE n Γ a).map .lrng else none
     |_=>none)
    else if (txF f args).isSome=true then (match txF f args,args with
     |some o,[a]=>(trE n Γ a).map (.txu o)
     |_,_=>none)
    else match qIF f,args with
     |some b,_::_=>(trA n Γ args).map (.blt b)
     |_,_=>none)
   else none
noncomputable def trO:Nat->Gam->Option Expr->Option Es
 | 0,_,_=>none
 |_+1,_,none=>some .nil
 |n+1,Γ,some e=>(trE n Γ e).map λa=>.cons a .nil
noncomputable def qDD:Nat->Gam->List Expr->Option Es
 | 0,_,_=>none
 |_+1,_,[]=>some .nil
 |n+1,Γ,[c]=>(trE n Γ c).map λa=>.cons a .nil
 |_,_,_=>none
noncomputable def trI:Nat->Gam->Expr->Expr->Option Itr
 | 0,_,_,_=>none
 |n+1,Γ,tg,iter=>match iter with
  | .Call (.Name f _) args [] _=>
   if f="range" then (if glB Γ.sc f&&Γ.bl.contains f&&args.all qN then (match args with
    | [a]=>(trE n Γ a).map .rng1
    | [a,b]=>match trE n Γ a,trE n Γ b with|some a',some b'=>some (.rng2 a' b')|_,_=>none
    |_=>none) else none)
   else if f="zip" then (if glB Γ.sc f&&Γ.bl.contains f&&args.all qN then (match tg,args with
    | .Tuple ..,[a,b]=>match trE n Γ a,trE n Γ b with|some a',some b'=>some (.zip a' b')|_,_=>none
    |_,_=>none) else none)
   else if f="reversed" then (if glB Γ.sc f&&Γ.bl.contains f&&args.all qN then (match args with
    | [a]=>(trE n Γ a).map .revd
    |_=>none) else none)
   else (trE n Γ iter).map .list
  |_=>(trE n Γ iter).map .list
end
noncomputable def xOf(Γ:Gam)(e:Expr):Option (Nat×Es):=match e with
 | .Call fn args kws _=>(match fn,args,kws with
  | .Name f _,a::r,[]=>if okN f&&glB Γ.sc f&&(a::r).all qN then (match slot Γ.fns f,trA 60 Γ (a::r) with|some i,some as=>some (i,as)|_,_=>none) else none
  |_,_,_=>none)
 |_=>none
noncomputable def rOf(Γ:Gam)(ex ca:Option Expr):Option Nat:=match ca with
 |none=>(match ex with
  |some (.Call fn args kws _)=>(match fn,args,kws with
   | .Name x _,[.Constant (.str _) _ _],[]=>if okN x&&glB Γ.sc x then slot Γ.cls x else none
   |_,_,_=>none)
  |_=>none)
 |_=>none
noncomputable def qFR(Γ:Gam)(n:Str)(e:Expr):Option Nat:=match e with
 | .Call fn args kws _=>(match fn,args,kws with
  | .Name f _,[.Name m _,.Name k _],[]=>if f="isinstance"/\m=n/\okN k=true/\glB Γ.sc k=true then (match slot Γ.cls k with|some c=>some c|none=>if k="ValueError"/\Γ.bl.contains k=true then some 999 else none) else none
  |_,_,_=>none)
 |_=>none
noncomputable def kOf(Γ:Gam)(n:Str):List Expr->Option (List Nat)
 | []=>some []
 |e::es=>match qFR Γ n e,kOf Γ n es with|some k,some ks=>some (k::ks)|_,_=>none
noncomputable def hOf(Γ:Gam)(hs:List ExceptHandler):Option (Nat×Nat×List Nat):=match hs with
 | [.ExceptHandler ty nm body _]=>(match ty,nm,body with
  |some (.Name x _),some n,[.Assign ts v _]=>(match ts,v with
   | [.Name y _],.List es _=>
    if okN x&&glB Γ.sc x&&okN n&&(slot Γ.cls x==some 0)&&(Γ.sc.names.lookup n==some .local)&&ZR Γ y&&!(n==y)&&glB Γ.sc "isinstance"&&Γ.bl.contains "isinstance" then
     (match slot Γ.N n,slot Γ.N y,kOf Γ n es with|some e,some i,some ks=>if ks.length<=1000 then some (e,i,ks) else none|_,_,_=>none)
    else none
   |_,_=>none)
  |_,_,_=>none)
 |_=>none
noncomputable def xR(Γ:Gam)(e:Expr):Option (Nat×Es):=if Γ.xr then xOf Γ e else none
noncomputable def xN(Γ:Gam)(e:Expr):Option (COp×Nat×Es):=if Γ.xr then (match e with
 | .Compare l ops rs _=>(match ops,rs with
  | [o],[.Constant .none _ _]=>(match o with
   | .IsNot=>(xOf Γ l).map λp=>(.isnot,p)
   | .Is=>(xOf Γ l).map λp=>(.is,p)
   |_=>none)
  |_,_=>none)
 |_=>none) else none
noncomputable def hE(Γ:Gam)(hs:List ExceptHandler):Option (Nat×Nat):=match hs with
 | [.ExceptHandler ty nm body _]=>(match ty,nm,body with
  |some (.Name x _),some n,[.Assign ts v _]=>(match ts,v with
   | [.Name y _],.Name m _=>
    if okN x&&glB Γ.sc x&&okN n&&(slot Γ.cls x==some 0)&&(Γ.sc.names.lookup n==some .local)&&ZR Γ y&&!(n==y)&&m==n then (match slot Γ.N n,slot Γ.N y with|some e,some i=>some (e,i)|_,_=>none) else none
   |_,_=>none)
  |_,_,_=>none)
 |_=>none
noncomputable def Ss.isNil:Ss->Bool
 | .nil=>true
 | .cons _ _=>false
mutual
noncomputable def S.sole:S->Bool
 | .xexpr _ _=>true
 | .ifs _ t u=>t.sole&&u.sole
 |_=>false
noncomputable def Ss.sole:Ss->Bool
 | .nil=>true
 | .cons s r=>s.sole&&r.isNil
end
mutual
noncomputable def S.clean:S->Bool
 | .xexpr _ _=>true
 | .xret _ _=>true
 | .xrn _ _ _=>true
 | .raise _=>true
 | .ifs _ t u=>t.clean&&u.clean
 |s=>s.calm
noncomputable def Ss.clean:Ss->Bool
 | .nil=>true
 | .cons s r=>s.clean&&r.clean
end
mutual
noncomputable def trS:Nat->Gam->Stmt->S
 | 0,_,_=>.stop
 |n+1,Γ,st=>match st with
  | .Assign ts v _=>(match ts with
   | [tgt]=>(match tgt with
    | .Name x _=>(match trT Γ (.Name x ⟨0,0,0,0⟩),trE 60 Γ v with|some g,some a=>if qHv a then .asg g a else .stop|_,_=>.stop)
    | .Tuple es k p=>(match es,v with
     | [.Name _ _,.Name _ _],.Tuple [_,_] _ _=>.stop
     |es,v=>if jH v&&qE1 v then (match trT Γ (.Tuple es k p),trE 60 Γ v with|some g,some a=>.asg g a|_,_=>.stop) else .stop)
    | .Subscript o i _=>if jH v&&Qn i then (match trE 60 Γ o,trE 60 Γ i,trE 60 Γ v with|some o',some i',some v'=>.put o' i' v' | _,_,_=>.stop) else .stop
    |_=>.stop)
   |_=>.stop)
  | .Expr e _=>if jH e then (match xOf Γ e with|some p=>.xexpr p.1 p.2|none=>(match trE 60 Γ e with|some a=>.expr a|none=>.stop)) else .stop
  | .Raise ex ca _=>(match rOf Γ ex ca with|some c=>.raise c|none=>.stop)
  | .Try body hs els fin _=>(match body,els,fin with
   | [st],[],[]=>(match hOf Γ hs with
    |some p=>if (trS n Γ st).sole&&(trS n Γ st).clean then .tryK (trS n Γ st) p.1 p.2.1 Γ.cls.length p.2.2 else .stop
    |none=>.stop)
   |_,_,_=>.stop)
  | .Return r _=>(match r with
   |some e=>(match xR Γ e with|some p=>.xret p.1 p.2|none=>(match xN Γ e with|some p=>.xrn p.1 p.2.1 p.2.2|none=>(match trE 60 Γ e with|some a=>.ret a|none=>.stop)))
   |none=>.stop)
  | .If c t u _=>match trE 60 Γ c with|some c'=>.ifs c' (ZM n Γ t) (ZM n Γ u)|none=>.stop
  | .For tg iter b els _=>(match els with
   | []=>if D2 iter then (match trI 60 Γ tg iter,trT Γ tg with|some it,some g=>.for_ g it (ZM n Γ b)|_,_=>.stop) else .stop
   |_=>.stop)
  |_=>.stop
noncomputable def ZM:Nat->Gam->List Stmt->Ss
 | 0,_,_=>.cons .stop .nil
 |_+1,_,[]=>.nil
 |n+1,Γ,s::r=>.cons (trS n Γ s) (ZM n Γ r)
end
section
variable{X:L2.Cx}{G:List Addr}{F:Nat->List V->AH->RV}{a b:E}{ea eb tg:Expr}{pos p:Pos}
theorem qBj{e:Expr}(h:qGX e=true):∃j q,e=.Constant (.str (Str.ofString "")) j q:=by
 unfold qGX at h;split at h
 ·have:=vH h;subst this;exact⟨_,_,rfl⟩
 ·cases h
theorem qD4{x:Str}{o:TU}(e:txF x [ea]=some o)(hg:L2.Gl X x)(hm:X.mg x=none)(hn:qN ea=true)(ha:SE X G F ea a):SE X G F (.Call (.Name x p) [ea] [] pos) (.txu o a):=by
 unfold txF at e;dsimp only at e;split at e
 ·rename_i h;subst h;cases e;exact qBl hg hm hn ha
 ·split at e
  ·rename_i h;obtain⟨rfl,_⟩:=h;cases e;exact qCv hg hm hn ha
  ·split at e
   ·rename_i h;obtain⟨rfl,_⟩:=h;cases e;exact qCi hg hm hn ha
   ·cases e
end
structure Fit(Γ:Gam)(X:Cx)(G:List Addr)(F:Nat->List V->AH->RV):Prop where
 hN:X.N=Γ.N
 nd:Γ.N.Nodup
 sc:X.env.scope=Γ.sc
 calm:X.calm=true
 fn:∀x,Γ.own x=true->X.fn x=true
 fns:∀(f:Nat) x,Γ.fns[f]?=some x->FnS X G F f x
 gls:∀x e,Γ.gl.lookup x=some e->(∃v u,e=.cst v/\X.mg x=some u/\RelV v u/\∀φ,rv φ v v)\/(∃g a,e=.glob g/\X.mg x=some (.ref a)/\G[g]?=some a)
 blt:∀x,Γ.bl.contains x=true->X.mg x=none
 hu:X.A.units+8<cLine
 gd:X.A.guards=some []
 gtu:∀a∈G,∃o,X.K.lookup a=some o/\o.cls=.type "tuple"/\o.dict=none
 xs:Xs X.K X.mg Γ.cls
section
variable{Γ:Gam}{X:Cx}{G:List Addr}{F:Nat->List V->AH->RV}
theorem jF{x:Str}(h:okN x=true):(x==("__debug__":Str))=false/\(x==("__classdict__":Str))=false/\x≠"__name__":=by
 unfold okN at h;simp only[Bool.and_eq_true,Bool.not_eq_true',decide_eq_false_iff_not]at h;exact⟨h.1.1,h.1.2,h.2⟩
theorem Fit.gl'(f:Fit Γ X G F){x:Str}(h:glB Γ.sc x=true):L2.Gl X x:=by
 unfold L2.Gl Env.kindOf;rw[f.sc];simpa [glB] using h
theorem Fit.store(f:Fit Γ X G F){x:Str}(h:ZR Γ x=true):L2.Loc X.env.scope x/\(X.fn x=true\/X.env.scope.names.lookup x=some .local):=by
 rw[f.sc];unfold ZR at h;unfold L2.Loc;split at h
 ·rename_i e;exact⟨.inl e,.inr e⟩
 ·rename_i e;exact⟨.inr e,.inl (f.fn x h)⟩
 ·cases h
theorem qBM(f:Fit Γ X G F):∀{es:List Expr}{is:List Nat},qFb Γ es=some is->PGs X es (tGs is)/\(assignEach es X.env).length=is.length/\(assignEach es X.env).findIdx? (·.1)=none
 | [],is,h=>by
  cases h;exact⟨qBV,rfl,rfl⟩
 |e::es,is,h=>by
  unfold qFb at h;split at h
  ·rename_i e1;cases e1
  ·rename_i x p r e1;cases e1;split at h
   ·rename_i hs;split at h
    ·rename_i i is' ei eis;cases h;obtain⟨h1,h2⟩:=f.store hs;obtain⟨g1,g2,g3⟩:=qBM f eis;refine⟨qAG (by rw[f.hN];exact f.nd) (by rw[f.hN];exact qi ei) h1 h2 g1,?_,?_⟩
     ·show (assignEach es X.env).length+1=_;rw[g2];rfl
     ·show (((false,assign (.Name x p) X.env)::assignEach es X.env).findIdx? (·.1))=none;rw[List.findIdx?_cons,g3];rfl
    ·cases h
   ·cases h
  ·cases h
theorem W9(f:Fit Γ X G F){tg:Expr}{g:Tg}(h:trT Γ tg=some g):SG X G tg g:=by
 unfold trT at h;split at h
 ·rename_i x p;split at h
  ·rename_i hs;obtain⟨i,ei,rfl⟩:=Option.map_eq_some_iff.mp h;obtain⟨h1,h2⟩:=f.store hs;exact a5 (by rw[f.hN];exact f.nd) (by rw[f.hN];exact qi ei) h1 h2
  ·cases h
 ·obtain⟨is,ei,rfl⟩:=Option.map_eq_some_iff.mp h;obtain⟨g1,g2,g3⟩:=qBM f ei;exact qFM f.calm g1 g2 g3
 ·cases h
theorem Y0{op:CmpOp}{e:Expr}(h:D2 e=true):behindInMarks op e=false:=by
 cases e<;>first|rfl|cases h
theorem i5{o1 o2:CmpOp}{b c:Expr}(h:D2 c=true):lastMarks [o1,o2] [b,c]=false:=by
 show behindInMarks o2 c=false;exact Y0 h
theorem a9{iter:Expr}{env:Env}(h:D2 iter=true):∀x,foldedSetIterable iter env x=pure x:=by
 intro x;cases iter<;>first|rfl|cases h
theorem j6{o:Expr}{n:Str}{env:Env}{w:Sem Value}(h:Z7 o=true):attributeBase o n env w=w:=by
 cases o<;>first|rfl|cases h
theorem QD(f:Fit Γ X G F){scope:Scope}{N:List Str}{src:List (Option Nat)}(h:Zu Γ scope N src=true):L2.CompScope X scope N src:=by
 unfold Zu at h;simp only[Bool.and_eq_true,wH,vG]at h;obtain⟨⟨⟨⟨⟨h1,h2⟩,h4⟩,h5⟩,h6⟩,h7⟩:=h;refine⟨h1,h2,λy hy hk=>?_,h5,h6,λi x j e1 e2=>?_⟩
 ·unfold Env.kindOf;rw[f.sc];exact h4 y hy hk
 ·have hi:i<N.length:=(List.getElem?_eq_some_iff.mp e1).1;have:=h7 i (vB.mpr hi);rw[e1,e2]at this;rw[f.hN];simpa using this
theorem jR(f:Fit Γ X G F){scope:Scope}{N:List Str}{src:List (Option Nat)}(h:Zu Γ scope N src=true)(C:Addr)(fp:List Addr)(s:Shared)(H:Hp):
  Fit { Γ with N:=N,sc:=qFa scope Γ.sc,own:=λx=>decide (scope.names.lookup x=some .cell) } (L2.cxComp X scope C fp s H N) G F:=by
 have S:=QD f h;refine⟨rfl,S.nd,?_,f.calm,λx z=>z,λg x e=>?_,f.gls,f.blt,f.hu,f.gd,f.gtu,f.xs⟩
 ·show relabel scope X.env=qFa scope Γ.sc;unfold relabel qFa Env.kindOf;rw[f.sc]
 ·exact⟨(f.fns g x e).ex⟩
theorem jO(n:Nat):
  (∀ Γ e a,trE n Γ e=some a->∀X:Cx,Fit Γ X G F->SE X G F e a/\ST X G F e a)/\
  (∀ Γ es as,trA n Γ es=some as->es.all qN=true->∀X:Cx,Fit Γ X G F->SA X G F es as)/\
  (∀ Γ op p vs a,trB n Γ op p vs=some a->∀X:Cx,Fit Γ X G F->SE X G F (.BoolOp op vs p) a/\SW X G F (.BoolOp op vs p) a)/\
  (∀ Γ f args a,trC n Γ f args=some a->okN f=true->glB Γ.sc f=true->args.all qN=true->∀X:Cx,Fit Γ X G F->∀p pos,SE X G F (.Call (.Name f p) args [] pos) a)/\
  (∀ Γ o as,trO n Γ o=some as->∀X:Cx,Fit Γ X G F->SO X G F o as)/\
  (∀ Γ ifs as,qDD n Γ ifs=some as->∀X:Cx,Fit Γ X G F->SC X G F ifs as)/\
  (∀ Γ tg iter it,trI n Γ tg iter=some it->∀X:Cx,Fit Γ X G F->SI X G F tg iter it):=by
 induction n with
 |zero=>exact⟨(λ_ _ _ h=>by unfold trE at h;cases h),(λ_ _ _ h=>by unfold trA at h;cases h),(λ_ _ _ _ _ h=>by unfold trB at h;cases h),(λ_ _ _ _ h=>by unfold trC at h;cases h),(λ_ _ _ h=>by unfold trO at h;cases h),(λ_ _ _ h=>by unfold qDD at h;cases h),(λ_ _ _ _ h=>by unfold trI at h;cases h)⟩
 |succ n ih=>
  obtain⟨iE,iA,iB,iC,iO,iIf,iI⟩:=ih;refine⟨?_,?_,?_,?_,?_,?_,?_⟩
  ·intro Γ e a h X f;unfold trE at h;split at h
   ·split at h
    ·cases h;exact⟨qBI,qZ qBI λ_=>rfl⟩
    ·cases h;exact⟨qFJ,qZ qFJ λ_=>rfl⟩
    ·cases h;exact⟨V6,qZ V6 λ_=>rfl⟩
    ·cases h;exact⟨qBF,qZ qBF λ_=>rfl⟩
    ·cases h
   ·rename_i x p;split at h
    ·rename_i ho;obtain⟨o1,o2,o3⟩:=jF ho;split at h
     ·rename_i hv;obtain⟨i,ei,rfl⟩:=Option.map_eq_some_iff.mp h;have s1:SE X G F (.Name x p) (.var i):=qDO (by rw[f.hN];exact qi ei) (by rw[f.sc];exact qBu hv) o1 o2;exact⟨s1,qZ s1 λ_=>rfl⟩
     ·split at h
      ·rename_i hg;rcases f.gls x a h with⟨v,u,rfl,e1,e2,e3⟩|⟨g,ad,rfl,e1,e2⟩
       ·have s1:SE X G F (.Name x p) (.cst v):=qCz (f.gl' hg) e1 e2 e3 o1;exact⟨s1,qZ s1 λ_=>rfl⟩
       ·have s1:SE X G F (.Name x p) (.glob g):=qBZ (f.gl' hg) e1 e2 o1;exact⟨s1,qZ s1 λ_=>rfl⟩
      ·cases h
    ·cases h
   ·split at h
    ·rename_i o a' b' eo ea eb;cases h;rw[qB8 eo];exact⟨qA5 (iE _ _ _ ea X f).1 (iE _ _ _ eb X f).1,qZ (qA5 (iE _ _ _ ea X f).1 (iE _ _ _ eb X f).1) λ_=>rfl⟩
    ·cases h
   ·split at h
    ·obtain⟨a',ea,rfl⟩:=Option.map_eq_some_iff.mp h;have s1:=qDP (pos:=‹Pos›) (iE _ _ _ ea X f).1;exact⟨s1,qZ s1 λ_=>rfl⟩
    ·obtain⟨a',ea,rfl⟩:=Option.map_eq_some_iff.mp h;exact⟨qD2 (iE _ _ _ ea X f).1,qDF (iE _ _ _ ea X f).2⟩
    ·cases h
   ·obtain⟨s1,s2⟩:=iB _ _ _ _ _ h X f;exact⟨s1,s2.pt⟩
   ·split at h
    ·rename_i c' a' b' ec ea eb;cases h;exact⟨qEQ (iE _ _ _ ec X f).2 (iE _ _ _ ea X f).1 (iE _ _ _ eb X f).1,qD8 (iE _ _ _ ec X f).2 (iE _ _ _ ea X f).2 (iE _ _ _ eb X f).2⟩
    ·cases h
   ·split at h
    ·rename_i op b0;split at h
     ·rename_i hs;split at h
      ·rename_i a' b' ea eb;cases h;rw[D4 op];have e1:R8 (opC (R8 op))=R8 op:=by cases op<;>rfl
       rw[e1];exact⟨qAi f.hu (iE _ _ _ ea X f).1 (iE _ _ _ eb X f).1 (Y0 hs),qEa f.hu (iE _ _ _ ea X f).1 (iE _ _ _ eb X f).1 (Y0 hs)⟩
      ·cases h
     ·cases h
    ·rename_i o1 o2 b0 c0;split at h
     ·rename_i hs;split at h
      ·rename_i a' b' c' ea eb ec;cases h;rw[D4 o1,D4 o2];have e1:R8 (opC (R8 o1))=R8 o1:=by cases o1<;>rfl
       have e2:R8 (opC (R8 o2))=R8 o2:=by cases o2<;>rfl
       rw[e1,e2];exact⟨qAM f.hu (iE _ _ _ ea X f).1 (iE _ _ _ eb X f).1 (iE _ _ _ ec X f).1 (i5 hs),n8 f.hu (iE _ _ _ ea X f).1 (iE _ _ _ eb X f).1 (iE _ _ _ ec X f).1 (i5 hs)⟩
      ·cases h
     ·cases h
    ·cases h
   ·split at h
    ·split at h
     ·split at h
      ·rename_i hc;simp only[Bool.and_eq_true]at hc;have s1:=iC _ _ _ _ h hc.1.1 hc.1.2 hc.2 X f;exact⟨s1 _ _,qZ (s1 _ _) λ_=>rfl⟩
      ·cases h
     ·split at h
      ·split at h
       ·rename_i hc;obtain⟨rfl,hc1,hc2,hc3⟩:=hc;obtain⟨x',ex,rfl⟩:=Option.map_eq_some_iff.mp h;obtain⟨j,p0,rfl⟩:=qBj hc1;have s1:=qCG (j:=j) (p:=p0) hc3 hc2 (iE _ _ _ ex X f).1 (j6 rfl);exact⟨s1,qZ s1 λ_=>rfl⟩
       split at h
       ·rename_i hc;obtain⟨rfl,hc1,hc2,hc3⟩:=hc;split at h
        ·rename_i o' x' eo ex;cases h;have s1:=qDs (j6 hc1) hc3 hc2 (iE _ _ _ eo X f).1 (iE _ _ _ ex X f).1;exact⟨s1,qZ s1 λ_=>rfl⟩
        ·cases h
       ·split at h
        ·rename_i hc;obtain⟨rfl,hc1,hc2,hc3⟩:=hc;split at h
         ·rename_i o' x' eo ex;cases h;have s1:=z9 (j6 hc1) hc3 hc2 (iE _ _ _ eo X f).1 (iE _ _ _ ex X f).1;exact⟨s1,qZ s1 λ_=>rfl⟩
         ·cases h
        ·cases h
      ·cases h
      ·cases h
     ·cases h
    ·cases h
   ·split at h
    ·split at h
     ·split at h
      ·rename_i a' l h' ea el eh;cases h;exact⟨qDd (iE _ _ _ ea X f).1 (iO _ _ _ el X f) (iO _ _ _ eh X f),qZ (qDd (iE _ _ _ ea X f).1 (iO _ _ _ el X f) (iO _ _ _ eh X f)) λ_=>rfl⟩
      ·cases h
     ·cases h
    ·split at h
     ·rename_i hs;split at h
      ·rename_i a' b' ea eb;cases h;have s1:=qFH (pos:=‹Pos›) hs (iE _ _ _ ea X f).1 (iE _ _ _ eb X f).1;exact⟨s1,qZ s1 λ_=>rfl⟩
      ·cases h
     ·cases h
   ·split at h
    ·rename_i hs;obtain⟨a',ea,rfl⟩:=Option.map_eq_some_iff.mp h;have s1:=qDb (pos:=‹Pos›) (iA _ _ _ ea hs X f);exact⟨s1,qZ s1 λ_=>rfl⟩
    ·cases h
   ·split at h
    ·rename_i hs;obtain⟨a',ea,rfl⟩:=Option.map_eq_some_iff.mp h;exact⟨qAb (iA _ _ _ ea hs X f),qZ (qAb (iA _ _ _ ea hs X f)) λ_=>rfl⟩
    ·cases h
   ·split at h
    ·cases h;exact⟨W0,qZ W0 λ_=>rfl⟩
    ·cases h
   ·split at h
    ·split at h;split at h
     ·dsimp only at h;split at h
      ·rename_i hc;simp only[Bool.and_eq_true]at hc;split at h
       ·rename_i it g c e' ei eg ec ee;cases h;have s1:=a6 (pos:=‹Pos›) f.calm (iI _ _ _ _ ei X f) (QD f hc.1) (λC fp s H=>W9 (jR f hc.1 C fp s H) eg) (λC fp s H=>iIf _ _ _ ec _ (jR f hc.1 C fp s H)) (λC fp s H=>(iE _ _ _ ee _ (jR f hc.1 C fp s H)).1) (a9 hc.2);exact⟨s1,qZ s1 λ_=>rfl⟩
       ·cases h
      ·cases h
     ·cases h
    ·cases h
   ·cases h
  ·intro Γ es as h hs X f;cases es with
   |nil=>simp only[trA]at h;cases h;exact qAy
   |cons e es=>
    simp only[trA]at h;simp only[List.all_cons,Bool.and_eq_true]at hs;split at h
    ·rename_i a as ea eas;cases h;exact d7 hs.1 (iE _ _ _ ea X f).1 (iA _ _ _ eas hs.2 X f)
    ·cases h
  ·intro Γ op p vs a h X f;cases vs with
   |nil=>simp only[trB]at h;cases h
   |cons e r=>
    cases r with
    |nil=>
     simp only[trB]at h;obtain⟨s1,s2⟩:=iE _ _ _ h X f;refine⟨L2.pe_one s1,?_⟩;cases op with
     |And=>exact L2.pw_and1 s2
     |Or=>exact L2.pw_or1 s2
    |cons b r=>
     simp only[trB]at h;split at h
     ·rename_i a' b' ea eb;cases h;obtain⟨s1,s2⟩:=iE _ _ _ ea X f;obtain⟨s3,s4⟩:=iB _ _ _ _ _ eb X f;cases op with
      |And=>exact⟨qEX s1 s3,qDX s2 s4⟩
      |Or=>exact⟨qG0 s1 s3,qGl s2 s4⟩
     ·cases h
  ·intro Γ g args a h ho hg hs X f p pos;obtain⟨o1,o2,o3⟩:=jF ho;unfold trC at h;split at h
   ·rename_i i ei;obtain⟨as,ea,rfl⟩:=Option.map_eq_some_iff.mp h;have sA:=iA _ _ _ ea hs X f;cases args with
    |nil=>
     have:as=.nil:=by
      cases n with
      |zero=>simp only[trA]at ea;cases ea
      |succ m=>simp only[trA]at ea;cases ea;rfl
     subst this;exact m4 (f.fns i g (qi ei)) (f.gl' hg) o1
    |cons e es=>
     simp only[List.all_cons,Bool.and_eq_true]at hs;exact Zt (f.fns i g (qi ei)) (f.gl' hg) o1 hs.1 hs.2 sA
   ·split at h
    ·rename_i hb;split at h
     ·rename_i hi;subst hi;split at h
      ·rename_i e0 t pt;split at h
       ·rename_i hc;simp only[Bool.and_eq_true]at hc;obtain⟨t1,t2,t3⟩:=jF hc.1.1;split at h
        ·rename_i a' t' ea et;cases h;obtain⟨b1,b2⟩:=qCP et;simp only[List.all_cons,Bool.and_eq_true]at hs;exact qEo b2 (f.gl' hg) (f.blt _ hb) (f.gl' hc.1.2) (f.blt _ hc.2) b1 t3 t1 hs.1 (iE _ _ _ ea X f).1
        ·cases h
       ·cases h
      ·cases h
     ·split at h
      ·rename_i hl;obtain⟨rfl,_⟩:=hl;split at h
       ·rename_i r pr e0 pc;split at h
        ·rename_i hc;simp only[Bool.and_eq_true,vG]at hc;obtain⟨⟨⟨⟨c1,c2⟩,c3⟩,c4⟩,rfl⟩:=hc;obtain⟨a',ea,rfl⟩:=Option.map_eq_some_iff.mp h;exact qCe f.calm (f.gl' hg) (f.blt _ hb) (f.gl' c2) (f.blt _ c3) c4 (iE _ _ _ ea X f).1
        ·cases h
       ·cases h
      rename_i hneg;clear hneg;split at h
      ·split at h
       ·rename_i o a0 eo;obtain⟨a',ea,rfl⟩:=Option.map_eq_some_iff.mp h;simp only[List.all_cons,Bool.and_eq_true]at hs;exact qD4 eo (f.gl' hg) (f.blt _ hb) hs.1 (iE _ _ _ ea X f).1
       ·cases h
      rename_i hneg;clear hneg;split at h
      ·rename_i b e es eb;obtain⟨as,ea,rfl⟩:=Option.map_eq_some_iff.mp h;have sA:=iA _ _ _ ea hs X f;simp only[List.all_cons,Bool.and_eq_true]at hs;exact qDK f.calm f.hu f.gd (f.gl' hg) (f.blt _ hb) (qBb eb) hs.1 hs.2 sA o3 o1
      ·cases h
    ·cases h
  ·intro Γ o as h X f;cases o with
   |none=>simp only[trO]at h;cases h;exact qC2
   |some e=>
    simp only[trO]at h;obtain⟨a,ea,rfl⟩:=Option.map_eq_some_iff.mp h;exact qCh (iE _ _ _ ea X f).1
  ·intro Γ ifs as h X f;cases ifs with
   |nil=>simp only[qDD]at h;cases h;exact qDL
   |cons e r=>
    cases r with
    |nil=>
     simp only[qDD]at h;obtain⟨a,ea,rfl⟩:=Option.map_eq_some_iff.mp h;exact qDx (iE _ _ _ ea X f).2
    |cons b r=>simp only[qDD]at h;cases h
  ·intro Γ tg iter it h X f;unfold trI at h;split at h
   ·rename_i fn p args pos;split at h
    ·rename_i hf;subst hf;split at h
     ·rename_i hc;simp only[Bool.and_eq_true]at hc;split at h
      ·rename_i e;obtain⟨a,ea,rfl⟩:=Option.map_eq_some_iff.mp h;have hs:=hc.2;simp only[List.all_cons,Bool.and_eq_true]at hs;exact qCp (f.gl' hc.1.1) (f.blt _ hc.1.2) hs.1 (iE _ _ _ ea X f).1
      ·rename_i e e2;split at h
       ·rename_i a' b' ea eb;cases h;have hs:=hc.2;simp only[List.all_cons,Bool.and_eq_true]at hs;exact qDA (f.gl' hc.1.1) (f.blt _ hc.1.2) hs.1 hs.2.1 (iE _ _ _ ea X f).1 (iE _ _ _ eb X f).1
       ·cases h
      ·cases h
     ·cases h
    ·split at h
     ·rename_i hf;subst hf;split at h
      ·rename_i hc;simp only[Bool.and_eq_true]at hc;split at h
       ·split at h
        ·rename_i a' b' ea eb;cases h;have hs:=hc.2;simp only[List.all_cons,Bool.and_eq_true]at hs;exact qDq (f.gl' hc.1.1) (f.blt _ hc.1.2) hs.1 hs.2.1 (iE _ _ _ ea X f).1 (iE _ _ _ eb X f).1
        ·cases h
       ·cases h
      ·cases h
     ·split at h
      ·rename_i hf;subst hf;split at h
       ·rename_i hc;simp only[Bool.and_eq_true]at hc;split at h
        ·obtain⟨a,ea,rfl⟩:=Option.map_eq_some_iff.mp h;have hs:=hc.2;simp only[List.all_cons,Bool.and_eq_true]at hs;exact qCN (f.gl' hc.1.1) (f.blt _ hc.1.2) hs.1 (iE _ _ _ ea X f).1
        ·cases h
       ·cases h
      ·obtain⟨a,ea,rfl⟩:=Option.map_eq_some_iff.mp h;exact Z0 (iE _ _ _ ea X f).1
   ·obtain⟨a,ea,rfl⟩:=Option.map_eq_some_iff.mp h;exact Z0 (iE _ _ _ ea X f).1
end
open L2 (FnOk Fun zC Binds Room)
noncomputable def CA(mg:Str->Option Value)(cn:List Str)(c:Nat):Option Addr:=match cn[c]? with
 |some x=>(match mg x with|some (.ref C)=>some C|_=>none)
 |none=>none
theorem j8{mg:Str->Option Value}{cn:List Str}{c:Nat}{C:Addr}(h:CA mg cn c=some C):∃x,cn[c]?=some x/\mg x=some (.ref C):=by
 unfold CA at h;split at h
 ·rename_i x ex;split at h
  ·rename_i C' em;cases h;exact⟨x,ex,em⟩
  ·cases h
 ·cases h
noncomputable def spX(mg:Str->Option Value)(cn:List Str)(G:List Addr)(F:Nat->List V->AH->RV)(K:PySem.W.Frag)(f:Nat):L2.Sp:=λvs H _ E=>∃φ h ws c C h',Rl K G φ h H/\rvs φ ws vs/\F f ws h=.exc c h'/\CA mg cn c=some C/\∀φ' H',Ext φ φ'->Rl K G φ' h' H'->E (.ref C) none H'
structure FnX(X:Cx)(G:List Addr)(F:Nat->List V->AH->RV)(cn:List Str)(f:Nat)(x:Str):Prop where
 ex:∃k fa fd ps,FnOk X.prog X.w X.K X.mg X.base (CX1 X.prog X.w) k fa fd ps (spX X.mg cn G F X.K f)/\Room k X.A/\X.mg x=some (.ref fa)/\PySem.W.keepIn X.K (.ref fa)=true/\Binds X.K fd ps []
structure FitX(Γ:Gam)(X:Cx)(G:List Addr)(F:Nat->List V->AH->RV):Prop where
 stk:X.stack=X.env::X.outer
 fra:X.env.frame=some X.env.locals
 exn:X.ex=[]
 fnx:∀(f:Nat) x,Γ.fns[f]?=some x->FnX X G F Γ.cls f x
 cl:∀(c:Nat) x,Γ.cls[c]?=some x->∃C,X.mg x=some (.ref C)/\T8 X.K C
 sb:∀c k C D,CA X.mg Γ.cls c=some C->CA X.mg Γ.cls k=some D->PySem.W.kitOne X.K (.ref C) (.ref D)=some (ZP c k)
 sv:∀c C,CA X.mg Γ.cls c=some C->PySem.W.kitOne X.K (.ref C) (.type "ValueError")=some true
 ro:∀c C D,CA X.mg Γ.cls c=some C->CA X.mg Γ.cls 0=some D->PySem.W.exmOne X.K (.ref C) (.ref D)=some true
section
variable{Γ:Gam}{X:Cx}{G:List Addr}{F:Nat->List V->AH->RV}
theorem Fit.wish(f:Fit Γ X G F)(E:Value->Shared->Prop):Fit Γ (X.wish E) G F:=⟨f.hN,f.nd,f.sc,f.calm,f.fn,λg x e=>⟨(f.fns g x e).ex⟩,f.gls,f.blt,f.hu,f.gd,f.gtu,f.xs⟩
theorem FitX.wish(f:FitX Γ X G F)(E:Value->Shared->Prop):FitX Γ (X.wish E) G F:=⟨f.stk,f.fra,f.exn,λg x e=>⟨(f.fnx g x e).ex⟩,f.cl,f.sb,f.sv,f.ro⟩
def Thr(X:Cx)(pins:List (Addr×Obj))(Sg:L2.St->Prop)(Ex:XK)(mk:Bool)(e:Value)(s':Shared):Prop:=
 (∃σ1 s1 H1,Sg σ1/\Inv X pins σ1 H1 s1/\CX1 X.prog X.w X.stack H1 s1 Ex e s')\/
 (mk=true/\∃σ1 s2 H1 h1 ea vs C,Inv X pins σ1 H1 s2/\Heap.MadeExcOf s2.heap h1 ea (.ref C) vs/\e=.ref ea/\s'={ s2 with heap:=h1 }/\Ex (.ref C) none H1)
theorem Thr.mono{pins:List (Addr×Obj)}{Sg Sg':L2.St->Prop}{Ex:XK}{mk mk':Bool}{e:Value}{s':Shared}(t:Thr X pins Sg Ex mk e s')(h1:∀σ,Sg σ->Sg' σ)(h2:mk=true->mk'=true):Thr X pins Sg' Ex mk' e s':=by
 rcases t with⟨σ1,s1,H1,a,b,c⟩|⟨a,b⟩
 ·exact .inl ⟨σ1,s1,H1,h1 _ a,b,c⟩
 ·exact .inr ⟨h2 a,b⟩
def tX(X:Cx)(G:List Addr)(cn:List Str)(r:St->AH->RS)(σc:L2.St)(H:Hp)(Ex:XK):Prop:=∃φ h σ c C h',Rl X.K G φ h H/\rst φ σ σc/\r σ h=.exc c h'/\CA X.mg cn c=some C/\∀φ' H',Ext φ φ'->Rl X.K G φ' h' H'->Ex (.ref C) none H'
variable (X G F) in
def SX(cn:List Str)(st:Stmt)(s:S):Prop:=∀(pins:List (Addr×Obj)) (s0:Shared) (σc:L2.St) (H:Hp) (Ex:XK),Inv X pins σc H s0->tX X G cn (ex F s) σc H Ex->wpAny (model X.prog X.w) X.A (exec st X.env) (λ_ _=>False) (Thr X pins (λσ1=>s.sole=true->σ1=σc) Ex (!s.sole)) s0
variable (X G F) in
def SXs(cn:List Str)(st:List Stmt)(s:Ss):Prop:=∀(pins:List (Addr×Obj)) (s0:Shared) (σc:L2.St) (H:Hp) (Ex:XK),Inv X pins σc H s0->tX X G cn (exs F s) σc H Ex->wpAny (model X.prog X.w) X.A (execs st X.env) (λ_ _=>False) (Thr X pins (λσ1=>s.sole=true->σ1=σc) Ex (!s.sole)) s0
theorem zp{cn:List Str}{st:Stmt}{s:S}(h:s.calm=true):SX X G F cn st s:=by
 intro pins s0 σc H Ex I q;obtain⟨φ,h0,σ,c,C,h',R,rs,e,_⟩:=q;exact absurd e (qDn F s h σ h0 c h')
theorem qGw{pins:List (Addr×Obj)}{σ:L2.St}{H:Hp}{s:Shared}{Ex:XK}{us:List Value}{vs:List V}{k:Nat}{fa:Addr}{fd:FuncData}{ps:List Str}{sp:L2.Sp}(Fo:FnOk X.prog X.w X.K X.mg X.base (CX1 X.prog X.w) k fa fd ps sp)(hr:Room k X.A)(hb:Binds X.K fd ps [])
  (I:Inv X pins σ H s) (r:Vals vs us) (h:sp vs H (λ_ _=>False) Ex):wpAny (model X.prog X.w) X.A (call (.ref fa) us) (λ_ _=>False) (λe s'=>CX1 X.prog X.w X.stack H s Ex e s') s:=by
 have hl:(us++[]).length=ps.length:=by rw[List.append_nil,<-r.length];exact Fo.len _ _ _ _ h
 have hb2:=hb s us I.kIn hl;rw[List.append_nil]at hb2;refine wpAny_call (codeAny_mono (Fo.run X.A X.stack s H ⟨us,[]⟩ us vs _ Ex hr I.env0 hb2 r h) λres s' hq=>?_);cases res with
 |error e=>exact hq
 |ok fl=>
  cases fl with
  |ret u=>obtain⟨v,H2,_,_,_,_,_,z⟩:=hq;exact z.elim
  |next=>exact False.elim hq
  |brk=>exact False.elim hq
  |cont=>exact False.elim hq
theorem Res.bind_exc{α β:Type}{r:Res α}{f:α->Res β}{c:Nat}{h:AH}(e:r.bind f=.exc c h)(n:NX r):∃a,r=.ok a/\f a=.exc c h:=by
 cases r with
 |ok a=>exact⟨a,rfl,e⟩
 |exc c' h'=>exact absurd rfl (n c' h')
 |stuck=>cases e
theorem JT{Γ:Gam}{e:Expr}{p:Nat×Es}(h:xOf Γ e=some p):∃g gp a r cpos,e=.Call (.Name g gp) (a::r) [] cpos/\okN g=true/\glB Γ.sc g=true/\(a::r).all qN=true/\slot Γ.fns g=some p.1/\trA 60 Γ (a::r)=some p.2:=by
 unfold xOf at h;split at h
 ·split at h
  ·split at h
   ·rename_i hcc;simp only[Bool.and_eq_true]at hcc;split at h
    ·rename_i ei ea;cases h;exact⟨_,_,_,_,_,rfl,hcc.1.1,hcc.1.2,hcc.2,ei,ea⟩
    ·cases h
   ·cases h
  ·cases h
 ·cases h
theorem qHF(f:Fit Γ X G F)(fx:FitX Γ X G F){e:Expr}{i:Nat}{as:Es}(h:xOf Γ e=some (i,as)){pins:List (Addr×Obj)}{s0:Shared}{σc:L2.St}{H:Hp}{Ex:XK}{so:Bool}(I:L2.Inv X pins σc H s0){φ:List Addr}{h0 h01 h':AH}{σ:St}{xs:List V}{c:Nat}{C:Addr}(R:Rl X.K G φ h0 H)(rs:rst φ σ σc)(e1:evs F as σ h0=.ok (xs,h01))(e2:F i xs h01=.exc c h')(ca:CA X.mg Γ.cls c=some C)(kk:∀φ' H',Ext φ φ'->Rl X.K G φ' h' H'->Ex (Value.ref C) none H'):wpAny (model X.prog X.w) X.A (eval e X.env) (λ_ _=>False) (Thr X pins (λσ1=>so=true->σ1=σc) Ex (!so)) s0:=by
 obtain⟨g,gp,a,r,cpos,rfl,o1,o2,o3,ei,ea⟩:=JT h;obtain⟨d1,d2,d3⟩:=jF o1;obtain⟨k,fa,fd,ps,h1,h2,h3,h4,h5⟩:=(fx.fnx i g (qi ei)).ex;have hs:=o3;simp only[List.all_cons,Bool.and_eq_true]at hs;have sA:SA (X.wish (Thr X pins (λσ1=>so=true->σ1=σc) Ex (!so))) G F (a::r) as:=(jO (G:=G) (F:=F) 60).2.1 Γ _ _ ea o3 _ (f.wish _);refine wpAny_Call_Name_kw (L2.ld_glob I (f.gl' o2) h3 ?_ d1);refine PySem.W.callWith_K (h₀:=X.base) I.ok.mod.kin h4 (L2.thn (sA cpos pins s0 σc H (λvs H1=>spX X.mg Γ.cls G F X.K i vs H1 (λ_ _=>False) Ex) (I.wish _) ⟨φ,h0,σ,xs,h01,R,rs,e1,λφ1 H1 ws x1 R1 r1=>⟨φ1,h01,xs,c,C,h',R1,r1,e2,ca,λφ2 H2 x2 R2=>kk φ2 H2 (x1.trans x2) R2⟩⟩) λus s1 ⟨vs,H1,I1,r1,q1⟩=>⟨I1.kIn,?_⟩) (qB hs.1) (zn hs.2);exact wpAny_mono (qGw (X:=X) h1 h2 h5 I1.unwish r1 q1) (λ_ _ z=>z.elim) λe s' z=>.inl ⟨σc,s1,H1,λ_=>rfl,I1.unwish,z⟩
theorem u4(f:Fit Γ X G F)(fx:FitX Γ X G F){e:Expr}{i:Nat}{as:Es}{pos:Pos}(h:xOf Γ e=some (i,as))(hc:jH e=true):SX X G F Γ.cls (.Expr e pos) (.xexpr i as):=by
 intro pins s0 σc H Ex I q;obtain⟨φ,h0,σ,c,C,h',R,rs,e,ca,kk⟩:=q;unfold ex at e;obtain⟨⟨xs,h01⟩,e1,e⟩:=Res.bind_exc e (jB F as σ h0);have e2:F i xs h01=.exc c h':=by
  dsimp only at e;revert e;generalize F i xs h01=rr;intro e;cases rr with
  |ok p=>cases e
  |exc c2 h2=>cases e;rfl
  |stuck=>cases e
 exact wpAny_Expr_any (qHF f fx h I R rs e1 e2 ca kk) I.quiet (ja hc)
theorem qBo(f:Fit Γ X G F)(fx:FitX Γ X G F){e:Expr}{i:Nat}{as:Es}{pos:Pos}(h:xOf Γ e=some (i,as)):SX X G F Γ.cls (.Return (some e) pos) (.xret i as):=by
 intro pins s0 σc H Ex I q;obtain⟨φ,h0,σ,c,C,h',R,rs,e,ca,kk⟩:=q;unfold ex at e;obtain⟨⟨xs,h01⟩,e1,e⟩:=Res.bind_exc e (jB F as σ h0);have e2:F i xs h01=.exc c h':=by
  dsimp only at e;revert e;generalize F i xs h01=rr;intro e;cases rr with
  |ok p=>cases e
  |exc c2 h2=>cases e;rfl
  |stuck=>cases e
 exact wpAny_Return_some (wpAny_mono (qHF f fx h I R rs e1 e2 ca kk) (λ_ _ z=>z.elim) λ_ _ z=>z)
theorem qDI(f:Fit Γ X G F)(fx:FitX Γ X G F){o:COp}{e:Expr}{i j:Nat}{as:Es}{pos q2 q3:Pos}(h:xOf Γ e=some (i,as)):SX X G F Γ.cls (.Return (some (.Compare e [opC o] [.Constant .none j q2] q3)) pos) (.xrn o i as):=by
 intro pins s0 σc H Ex I q;obtain⟨φ,h0,σ,c,C,h',R,rs,e,ca,kk⟩:=q;unfold ex at e;obtain⟨⟨xs,h01⟩,e1,e⟩:=Res.bind_exc e (jB F as σ h0);have e2:F i xs h01=.exc c h':=by
  dsimp only at e;revert e;generalize F i xs h01=rr;intro e;cases rr with
  |ok p=>
   dsimp only[Res.bind,N2]at e;cases ec:O9 o p.1 .non p.2 with
   |none=>rw[ec]at e;cases e
   |some b=>rw[ec]at e;cases e
  |exc c2 h2=>cases e;rfl
  |stuck=>cases e
 exact wpAny_Return_some (wpAny_Compare1 (wpAny_mono (qHF f fx h I R rs e1 e2 ca kk) (λ_ _ z=>z.elim) λ_ _ z=>z) rfl)
theorem qAN(f:Fit Γ X G F)(fx:FitX Γ X G F){ex ca:Option Expr}{c:Nat}{pos:Pos}(h:rOf Γ ex ca=some c):SX X G F Γ.cls (.Raise ex ca pos) (.raise c):=by
 intro pins s0 σc H Ex I q;unfold rOf at h;split at h
 ·split at h
  ·rename_i fn args kws cpos;split at h
   ·rename_i x np v j p;split at h
    ·rename_i hcc;rw[Bool.and_eq_true]at hcc;obtain⟨d1,d2,d3⟩:=jF hcc.1;obtain⟨C,hm,hC⟩:=fx.cl c x (qi h);obtain⟨φ,h0,σ,c',C',h',R,rs,e,cc,kk⟩:=q;unfold PI.ex at e;cases e;have e2:C'=C:=by
      obtain⟨x',ex',em'⟩:=j8 cc;rw[qi h]at ex';cases ex';rw[hm]at em';cases em';rfl
     subst e2;refine u8 (X:=X.wish (Thr X pins (λσ1=>(S.raise c).sole=true->σ1=σc) Ex (!(S.raise c).sole))) (f.gl' hcc.2) hm d1 f.calm hC (I.wish _) λs2 h1 ea vs I2 mk=>?_;exact .inr ⟨rfl,σc,s2,H,h1,ea,vs,_,I2.unwish,mk,rfl,rfl,kk φ H (.refl _) R⟩
    ·cases h
   ·cases h
  ·cases h
 ·cases h
end
section
variable{Γ:Gam}{X:Cx}{G:List Addr}{F:Nat->List V->AH->RV}{cn:List Str}
theorem qEb{ec:Expr}{c:E}{t u:List Stmt}{st su:Ss}{pos:Pos}(hc:∀E,ST (X.wish E) G F ec c)(ht:SXs X G F cn t st)(hu:SXs X G F cn u su):SX X G F cn (.If ec t u pos) (.ifs c st su):=by
 intro pins s0 σc H Ex I q;obtain⟨φ,h,σ,cc,C,h',R,rs,e,ca,k⟩:=q;unfold ex at e;obtain⟨⟨b,h1⟩,e1,e⟩:=Res.bind_exc e (Qk (qf F c σ h));have sl:(S.ifs c st su).sole=(st.sole&&su.sole):=by rw[S.sole]
 refine wpAny_If (L2.thn (hc (Thr X pins (λσ1=>(S.ifs c st su).sole=true->σ1=σc) Ex (!(S.ifs c st su).sole)) pins s0 σc H (λd H1=>d=b/\tX X G cn (exs F (if b then st else su)) σc H1 Ex) (I.wish _) ⟨φ,h,σ,b,h1,R,rs,e1,λφ1 H1 x1 R1=>⟨rfl,φ1,h1,σ,cc,C,h',R1,rst.mono x1 rs,?_,ca,λφ2 H2 x2 R2=>k φ2 H2 (x1.trans x2) R2⟩⟩) λd s1 ⟨H1,I1,ed,q1⟩=>?_)
 ·dsimp only at e;cases b with
  |true=>rw[if_pos rfl]at e ⊢;exact e
  |false=>rw[if_neg (by decide)]at e ⊢;exact e
 ·subst ed;cases d with
  |true=>
   rw[if_pos rfl]at q1;refine wpAny_mono (ht pins s1 σc H1 Ex I1.unwish q1) (λ_ _ z=>z.elim) λe s' z=>z.mono (λσ1 w y=>w (by rw[sl,Bool.and_eq_true]at y;exact y.1)) λy=>?_;rw[sl];simp at y ⊢;exact .inl y
  |false=>
   rw[if_neg (by decide)]at q1;refine wpAny_mono (hu pins s1 σc H1 Ex I1.unwish q1) (λ_ _ z=>z.elim) λe s' z=>z.mono (λσ1 w y=>w (by rw[sl,Bool.and_eq_true]at y;exact y.2)) λy=>?_;rw[sl];simp at y ⊢;exact .inr y
theorem qC7:SXs X G F cn [] .nil:=by
 intro pins s0 σc H Ex I q;obtain⟨φ,h,σ,cc,C,h',R,rs,e,ca,k⟩:=q;unfold exs at e;cases e
theorem y3{st:Stmt}{sts:List Stmt}{s:S}{r:Ss}(h0:SS X.nox G F st s)(h1:SX X G F cn st s)(h2:SXs X G F cn sts r):SXs X G F cn (st::sts) (.cons s r):=by
 intro pins s0 σc H Ex I q;obtain⟨φ,h,σ,cc,C,h',R,rs,e,ca,k⟩:=q;unfold exs at e;cases er:ex F s σ h with
 |stuck=>rw[er]at e;cases e
 |exc c2 h2'=>
  rw[er]at e;cases e;refine wpAny_execs_cons (wpAny_mono (h1 pins s0 σc H Ex I ⟨φ,h,σ,cc,C,h',R,rs,er,ca,k⟩) (λ_ _ z=>z.elim) λe s' z=>z.mono (λσ1 w y=>w (by rw[Ss.sole,Bool.and_eq_true]at y;exact y.1)) λy=>?_);rw[Ss.sole];simp at y ⊢;exact .inl y
 |ok p=>
  obtain⟨o,h1'⟩:=p;rw[er,Res.bind_ok]at e;cases o with
  |nx σ1=>
   have e:exs F r σ1 h1'=.exc cc h':=e;have hr:(Ss.cons s r).sole=false:=by
    cases r with
    |nil=>unfold exs at e;cases e
    |cons a b=>rw[Ss.sole];simp[Ss.isNil]
   refine wpAny_execs_cons (wpAny_mono (h0 pins s0 σc H { nx:=λσ2 H2=>tX X G cn (exs F r) σ2 H2 Ex,rt:=λ_ _=>False } (I.wish _) ⟨φ,h,σ,.nx σ1,h1',R,rs,er,λφ1 H1 x1 R1 σc1 rs1=>⟨φ1,h1',σ1,cc,C,h',R1,rs1,e,ca,λφ2 H2 x2 R2=>k φ2 H2 (x1.trans x2) R2⟩⟩) (λf s1 z=>?_) λ_ _ z=>False.elim z);cases f with
   |next=>
    obtain⟨σ2,H2,I2,q2⟩:=z;exact wpAny_mono (h2 pins s1 σ2 H2 Ex I2.unwish q2) (λ_ _ z=>z.elim) λe s' z=>z.mono (λσ1 w y=>by rw[hr]at y;cases y) λy=>by rw[hr];rfl
   |ret v=>obtain⟨_,_,_,_,_,z⟩:=z;exact z.elim
   |brk=>obtain⟨_,_,_,z⟩:=z;exact z.elim
   |cont=>obtain⟨_,_,_,z⟩:=z;exact z.elim
  |rt v=>cases e
  |bk σ1=>cases e
  |ct σ1=>cases e
theorem qBD(φ:List Addr){α:Type}(g:α->Bool):∀l:List α,rvs φ (l.map λk=>.bl (g k)) (l.map λk=>.bl (g k))
 | []=>.nil
 |a::r=>.cons rfl (qBD φ g r)
theorem qFx(f:Fit Γ X G F)(fx:FitX Γ X G F){n:Str}{ie c k:Nat}{C ea:Addr}{oe:Obj}{E:Value->Shared->Prop}(ca:CA X.mg Γ.cls c=some C)(hcl:oe.cls=.ref C)(hC:T8 X.K C)(hn:okN n=true)(hloc:Γ.sc.names.lookup n=some .local)(hi:slot Γ.N n=some ie)
  (hgi:glB Γ.sc "isinstance"=true) (hbi:Γ.bl.contains "isinstance"=true){e:Expr}(h:qFR Γ n e=some k):PE (XE X ea oe E) e (λσ H Q=>σ[ie]?=some (some (.ref ea))/\Q (.bl (ZP c k)) H):=by
 unfold qFR at h;split at h
 ·rename_i fn args kws cpos;split at h
  ·rename_i g gp m mp kk kp;split at h
   ·rename_i hcc;obtain⟨rfl,rfl,ok,gk⟩:=hcc;obtain⟨d1,d2,d3⟩:=jF hn;obtain⟨b1,b2,b3⟩:=jF ok;have hN:(XE X ea oe E).N[ie]?=some m:=by show X.N[ie]?=_;rw[f.hN];exact qi hi
    have hv:L2.Vis (XE X ea oe E).env.scope m:=by show L2.Vis X.env.scope m;rw[f.sc];exact .inl hloc
    have pv:=L2.pe_var (X:=XE X ea oe E) (pos:=mp) hN hv d1 d2;have hgl:L2.Gl (XE X ea oe E) "isinstance":=f.gl' hgi;have hgk:L2.Gl (XE X ea oe E) kk:=f.gl' gk;split at h
    ·rename_i k2 ek;cases h;obtain⟨D,hm,hD⟩:=fx.cl k kk (qi ek);have cd:CA X.mg Γ.cls k=some D:=by unfold CA;rw[qi ek];dsimp only;rw[hm]
     refine qp (L2.pe_callB (N3 (E:=E) (cv:=.ref D) (u:=.ref D) hC hcl (λw r=>r) (fx.sb c k C D ca cd)) hgl (f.blt _ hbi) PyProof.Rows.boot_isinstance (L2.pa_cons pv (L2.pa_cons (L2.pe_glob (v:=.ref D) hgk hm rfl b1) L2.pa_nil rfl) rfl) (by decide) (by decide) rfl rfl) λσ H Q q=>?_;exact⟨_,q.1,rfl,q.2⟩
    ·split at h
     ·rename_i hve;cases h;obtain⟨rfl,hbv⟩:=hve;have ev:ZP c 999=true:=by unfold ZP;simp
      rw[ev];refine qp (L2.pe_callB (N3 (E:=E) (cv:=.ty "ValueError") (u:=.type "ValueError") hC hcl (λw r=>r) (fx.sv c C ca)) hgl (f.blt _ hbi) PyProof.Rows.boot_isinstance (L2.pa_cons pv (L2.pa_cons (L2.pe_bltn (v:=.ty "ValueError") hgk (f.blt _ hbv) (by decide +kernel) rfl (by decide) (by decide)) L2.pa_nil rfl) rfl) (by decide) (by decide) rfl rfl) λσ H Q q=>?_;exact⟨_,q.1,rfl,q.2⟩
     ·cases h
   ·cases h
  ·cases h
 ·cases h
theorem qE7(f:Fit Γ X G F)(fx:FitX Γ X G F){n:Str}{ie c:Nat}{C ea:Addr}{oe:Obj}{E:Value->Shared->Prop}(ca:CA X.mg Γ.cls c=some C)(hcl:oe.cls=.ref C)(hC:T8 X.K C)(hn:okN n=true)(hloc:Γ.sc.names.lookup n=some .local)(hi:slot Γ.N n=some ie)
  (hgi:glB Γ.sc "isinstance"=true) (hbi:Γ.bl.contains "isinstance"=true):∀{es:List Expr}{ks:List Nat},kOf Γ n es=some ks->PA (XE X ea oe E) es (λσ H Q=>σ[ie]?=some (some (.ref ea))/\Q (ks.map λk=>.bl (ZP c k)) H)
 | [],ks,h=>by cases h;exact qAX L2.pa_nil λσ H Q q=>q.2
 |e::es,ks,h=>by
  unfold kOf at h;split at h
  ·rename_i k ks' e1 e2;cases h;have st:qN e=true:=by
    unfold qFR at e1;split at e1
    ·rfl
    ·cases e1
   exact qAX (L2.pa_cons (qFx f fx ca hcl hC hn hloc hi hgi hbi e1) (qE7 f fx ca hcl hC hn hloc hi hgi hbi e2) (qB st)) λσ H Q q=>⟨q.1,q.1,q.2⟩
  ·cases h
theorem qDm(f:Fit Γ X G F)(fx:FitX Γ X G F)(hx:X.xe=λ_ _=>False){st:Stmt}{hs:List ExceptHandler}{b:S}{e i:Nat}{ks:List Nat}{pos:Pos}(hh:hOf Γ hs=some (e,i,ks))(h0:SS X G F st b)(h1:SX X G F Γ.cls st b)(sole:b.sole=true):
  SS X G F (.Try [st] hs [] [] pos) (.tryK b e i Γ.cls.length ks):=by
 intro pins s0 σc H D I q;obtain⟨φ,h,σ,o,h',R,rs,ee,kk⟩:=q;unfold ex at ee;unfold hOf at hh;split at hh
 ·rename_i ty nm body hpos;split at hh
  ·rename_i x xp n ts v ap;split at hh
   ·rename_i y yp es lp;split at hh
    ·rename_i hcc;simp only[Bool.and_eq_true,Bool.not_eq_true',beq_iff_eq,beq_eq_false_iff_ne]at hcc;obtain⟨⟨⟨⟨⟨⟨⟨⟨c1,c2⟩,c3⟩,c4⟩,c5⟩,c6⟩,c7⟩,c8⟩,c9⟩:=hcc;split at hh
     ·rename_i e' i' ks' ei ey ek;split at hh
      ·rename_i hlen;cases hh;refine wpAny_Try_except ?_
       try dsimp only at ee
       cases er:ex F b σ h with
       |stuck=>rw[er]at ee;cases ee
       |ok p=>
        rw[er]at ee;cases ee;refine wpAny_execs_cons (wpAny_mono (h0 pins s0 σc H D I ⟨φ,h,σ,o,h',R,rs,er,kk⟩) (λfl s1 z=>?_) λ_ _ z=>by rw[hx]at z;exact z.elim);cases fl with
        |next=>exact wpAny_execs_nil (wpAny_execs_nil z)
        |ret v=>exact z
        |brk=>exact z
        |cont=>exact z
       |exc c h1'=>
        rw[er]at ee
        try dsimp only at ee
        split at ee
        ·rename_i hcm;cases ee;obtain⟨xc,exc⟩:∃xc,Γ.cls[c]?=some xc:=⟨_,wB hcm⟩
         obtain⟨C,hmC,hC⟩:=fx.cl c xc exc;have ca:CA X.mg Γ.cls c=some C:=by unfold CA;rw[exc];dsimp only;rw[hmC]
         obtain⟨D0,hm0,hD0⟩:=fx.cl 0 x (qi c4);have ca0:CA X.mg Γ.cls 0=some D0:=by unfold CA;rw[qi c4];dsimp only;rw[hm0]
         refine wpAny_execs_cons (wpAny_mono (h1 pins s0 σc H (λv _ H1=>v=.ref C/\∃φ1,Ext φ φ1/\Rl X.K G φ1 h1' H1) I ⟨φ,h,σ,c,C,h1',R,rs,er,ca,λφ1 H1 x1 R1=>⟨rfl,φ1,x1,R1⟩⟩) (λ_ _ z=>z.elim) λev s' t=>?_);rcases t with⟨σ1,s1,H1,sg,I1,ea,C2,H2,rfl,Fy,e2,φ1,x1,R1⟩|⟨z,_⟩
         case inr=>rw[sole]at z;cases z
         cases sg sole;cases e2;have nd:X.N.Nodup:=by rw[f.hN];exact f.nd
         have hie:X.N[e]?=some n:=by rw[f.hN];exact qi ei
         have hiy:X.N[i]?=some y:=by rw[f.hN];exact qi ey
         have hloc:X.env.scope.names.lookup n=some .local:=by rw[f.sc];exact c5
         obtain⟨sy,sy2⟩:=f.store c6;have nei:e≠i:=by
          intro z;subst z;rw[hie]at hiy;cases hiy;exact c7 rfl
         refine qEi I1 fx.stk fx.fra fx.exn nd hie hloc (f.gl' c2) hm0 (jF c1).1 (fx.ro c C D0 ca ca0) Fy (R7:=D.nx) (λoe s6 hcl I6=>?_) λσ7 H7 s8 _ _ _ _ _ _ _ _ I8 r=>⟨σ7,H7,I8,r⟩
         have hle:e<σc.length:=by rw[I1.len];exact(List.getElem?_eq_some_iff.mp hie).1
         refine wpAny_mono (L2.pss_one (L2.ps_set (X:=XE X ea oe λ_ _=>False) nd hiy sy (L2.pe_lst (qE7 f fx ca hcl hC c3 c5 ei c8 c9 ek)) rfl sy2) pins s6 _ H2 { nx:=λσ7 H7=>D.nx (σ7.set e none) H7,rt:=λ_ _=>False } I6 ⟨by rw[List.getElem?_set_self hle],by rw[wL];exact Nat.le_trans hlen (by decide),λp hp=>?_⟩) (λfl s7 z=>?_) λ_ _ z=>z
         ·refine kk (φ1++[p]) (L2.upd H2 p (.lst (ks.map λk=>.bl (ZP c k)))) (x1.trans ⟨[p],rfl⟩) (R1.newL hp (qBD _ _ _)) _ ?_;show rst (φ1++[p]) ((σ.set i (some (.ref h1'.length))).set e none) (((σc.set e (some (.ref ea))).set i (some (.ref p))).set e none);have e3:((σc.set e (some (V.ref ea))).set i (some (V.ref p))).set e none=(σc.set i (some (V.ref p))).set e none:=by
           rw[List.set_comm _ _ nei.symm,List.set_set,List.set_comm _ _ nei]
          rw[e3];exact zI (R:=ropt (φ1++[p])) (x:=none) (u:=none) trivial e (zI (R:=ropt (φ1++[p])) (x:=some (.ref h1'.length)) (u:=some (.ref p)) ⟨_,rfl,R1.lastRef⟩ i (rst.mono (x1.trans ⟨[p],rfl⟩) rs))
         ·cases fl with
          |next=>obtain⟨σ7,H7,I7,q7⟩:=z;exact⟨rfl,σ7,H7,I7,q7⟩
          |ret v=>obtain⟨_,_,_,_,_,z⟩:=z;exact z.elim
          |brk=>obtain⟨_,_,_,z⟩:=z;exact z.elim
          |cont=>obtain⟨_,_,_,z⟩:=z;exact z.elim
        ·cases ee
      ·cases hh
     ·cases hh
    ·cases hh
   ·cases hh
  ·cases hh
 ·cases hh
end
section
variable{G:List Addr}{F:Nat->List V->AH->RV}
theorem JH{Γ:Gam}{X:Cx}(f:Fit Γ X G F)(hx:∀x,Γ.own x=true){n:Nat}{elt:Expr}{gens:List Comprehension}{scope:Scope}{cpos p pos:Pos}{a:E}{x:Str}{g:Tg}(hd:qHv a=true)(h:trE n Γ (.ListComp elt gens scope cpos)=some a)
  (hg:trT Γ (.Name x ⟨0,0,0,0⟩)=some g):SS X G F (.Assign [.Name x p] (.ListComp elt gens scope cpos) pos) (.asg g a):=by
 cases n with
 |zero=>unfold trE at h;cases h
 |succ n=>
  unfold trT at hg;dsimp only at hg;split at hg
  ·rename_i hs;obtain⟨i,ei,rfl⟩:=Option.map_eq_some_iff.mp hg;obtain⟨h1,h2⟩:=f.store hs;obtain⟨iE,iA,iB,iC,iO,iIf,iI⟩:=jO (G:=G) (F:=F) n;unfold trE at h;dsimp only at h;split at h
   ·split at h;split at h
    ·split at h
     ·rename_i hc;simp only[Bool.and_eq_true]at hc;split at h
      ·rename_i it g c e' ei' eg ec ee;cases h;exact qCj f.calm (iI _ _ _ _ ei' X f) (QD f hc.1) (λC fp s H=>W9 (jR f hc.1 C fp s H) eg) (λC fp s H=>iIf _ _ _ ec _ (jR f hc.1 C fp s H)) (λC fp s H=>(iE _ _ _ ee _ (jR f hc.1 C fp s H)).1) (a9 hc.2) (by rw[f.hN];exact f.nd) (by rw[f.hN];exact qi ei) h1 h2
      ·cases h
     ·cases h
    ·cases h
   ·cases h
  ·cases hg
theorem y4{Γ:Gam}{X:Cx}(f:Fit Γ X G F){e:Expr}{p:Nat×Es}{pos:Pos}(h:xOf Γ e=some p)(hc:jH e=true):SS X G F (.Expr e pos) (.xexpr p.1 p.2):=by
 have h0:=h;obtain⟨i',as'⟩:=p;obtain⟨g,gp,a,r,cpos,rfl,o1,o2,o3,ei,ea⟩:=JT h;have hs:=o3;simp only[List.all_cons,Bool.and_eq_true]at hs;have s1:=Zt (pos:=cpos) (p:=gp) (f.fns i' g (qi ei)) (f.gl' o2) (jF o1).1 hs.1 hs.2 ((jO (G:=G) (F:=F) 60).2.1 Γ _ _ ea o3 X f);refine QX (U5 (pos:=pos) s1 hc) λD σc H q=>?_;obtain⟨φ,h,σ,o,h',R,rs,e,k⟩:=q;refine⟨φ,h,σ,o,h',R,rs,?_,k⟩;unfold ex at e ⊢;obtain⟨⟨xs,h1⟩,e1,e⟩:=Res.bind_inv e;obtain⟨⟨v,h2⟩,e2,e⟩:=Res.bind_inv e;unfold ev;rw[e1,Res.bind_ok];dsimp only at e2 e ⊢;rw[e2];exact e
theorem qBv{Γ:Gam}{X:Cx}(f:Fit Γ X G F){e:Expr}{p:Nat×Es}{pos:Pos}(h:xOf Γ e=some p):SS X G F (.Return (some e) pos) (.xret p.1 p.2):=by
 obtain⟨i',as'⟩:=p;obtain⟨g,gp,a,r,cpos,rfl,o1,o2,o3,ei,ea⟩:=JT h;have hs:=o3;simp only[List.all_cons,Bool.and_eq_true]at hs;have s1:=Zt (pos:=cpos) (p:=gp) (f.fns i' g (qi ei)) (f.gl' o2) (jF o1).1 hs.1 hs.2 ((jO (G:=G) (F:=F) 60).2.1 Γ _ _ ea o3 X f);refine QX (V4 (pos:=pos) s1) λD σc H q=>?_;obtain⟨φ,h,σ,o,h',R,rs,e,k⟩:=q;refine⟨φ,h,σ,o,h',R,rs,?_,k⟩;unfold ex at e ⊢;obtain⟨⟨xs,h1⟩,e1,e⟩:=Res.bind_inv e;obtain⟨⟨v,h2⟩,e2,e⟩:=Res.bind_inv e;unfold ev;rw[e1,Res.bind_ok];dsimp only at e2 e ⊢;rw[e2];exact e
theorem qBT{Γ:Gam}{e:Expr}{p:COp×Nat×Es}(h:xN Γ e=some p):∃l j q2 q3,(p.1=.isnot\/p.1=.is)/\e=.Compare l [opC p.1] [.Constant .none j q2] q3/\xOf Γ l=some p.2:=by
 unfold xN at h;split at h
 ·split at h
  ·split at h
   ·split at h
    ·obtain⟨q,h1,rfl⟩:=Option.map_eq_some_iff.mp h;exact⟨_,_,_,_,.inl rfl,rfl,h1⟩
    ·obtain⟨q,h1,rfl⟩:=Option.map_eq_some_iff.mp h;exact⟨_,_,_,_,.inr rfl,rfl,h1⟩
    ·cases h
   ·cases h
  ·cases h
 ·cases h
theorem qDf{Γ:Gam}{X:Cx}(f:Fit Γ X G F){o:COp}(ho:o=.isnot\/o=.is){e:Expr}{j:Nat}{p:Nat×Es}{pos q2 q3:Pos}(h:xOf Γ e=some p):SS X G F (.Return (some (.Compare e [opC o] [.Constant .none j q2] q3)) pos) (.xrn o p.1 p.2):=by
 obtain⟨i',as'⟩:=p;obtain⟨g,gp,a,r,cpos,rfl,o1,o2,o3,ei,ea⟩:=JT h;have hs:=o3;simp only[List.all_cons,Bool.and_eq_true]at hs;have s1:=Zt (pos:=cpos) (p:=gp) (f.fns i' g (qi ei)) (f.gl' o2) (jF o1).1 hs.1 hs.2 ((jO (G:=G) (F:=F) 60).2.1 Γ _ _ ea o3 X f);have s2:SE X G F (.Compare (.Call (.Name g gp) (a::r) [] cpos) [opC o] [.Constant .none j q2] q3) (.cmp o (.call i' as') (.cst .non)):=qAi f.hu s1 V6 (by rcases ho with rfl|rfl<;>rfl);refine QX (V4 (pos:=pos) s2) λD σc H q=>?_;obtain⟨φ,h,σ,oo,h',R,rs,e,k⟩:=q;refine⟨φ,h,σ,oo,h',R,rs,?_,k⟩;unfold ex at e ⊢;obtain⟨⟨xs,h1⟩,e1,e⟩:=Res.bind_inv e;obtain⟨⟨v,h2⟩,e2,e⟩:=Res.bind_inv e;obtain⟨⟨w,h3⟩,e3,e⟩:=Res.bind_inv e;have c1:ev F (.call i' as') σ h=.ok (v,h2):=by
  unfold ev;rw[e1,Res.bind_ok];dsimp only at e2 ⊢;rw[e2];rfl
 have c2:ev F (.cst .non) σ h2=.ok (.non,h2):=by unfold ev;rfl
 have c3:ev F (.cmp o (.call i' as') (.cst .non)) σ h=.ok (w,h3):=by
  unfold ev;rw[c1,Res.bind_ok];dsimp only;rw[c2,Res.bind_ok];exact e3
 rw[c3,Res.bind_ok];exact e
theorem S9{s:S}(h:s.clean=true)(h1:∀f as,s≠.xexpr f as)(h2:∀c,s≠.raise c)(h3:∀c t u,s≠.ifs c t u)(h5:∀f as,s≠.xret f as)(h6:∀o f as,s≠.xrn o f as):s.calm=true:=by
 cases s<;>first|(exact absurd rfl (h5 _ _))|(exact absurd rfl (h6 _ _ _))|(exact absurd rfl (h1 _ _))|(exact absurd rfl (h2 _))|(exact absurd rfl (h3 _ _ _))|(rw[S.clean]at h<;>first|exact h|(intros;contradiction))
noncomputable def S.fx:S->Bool
 | .xexpr _ _=>false
 | .xret _ _=>false
 | .xrn _ _ _=>false
 | .raise _=>false
 | .ifs _ _ _=>false
 |_=>true
noncomputable def qCD:Stmt->Bool
 | .Expr _ _=>true
 | .Raise _ _ _=>true
 | .If _ _ _ _=>true
 | .Return (some _) _=>true
 |_=>false
theorem T0{st:Stmt}(h:qCD st=true):(∃e p,st=.Expr e p)\/(∃a b p,st=.Raise a b p)\/(∃c t u p,st=.If c t u p)\/(∃e p,st=.Return (some e) p):=by
 cases st with
 |Expr e q=>exact .inl ⟨_,_,rfl⟩
 |Raise a b q=>exact .inr (.inl ⟨_,_,_,rfl⟩)
 |If c t u q=>exact .inr (.inr (.inl ⟨_,_,_,_,rfl⟩))
 |Return r q=>cases r with
  |some e=>exact .inr (.inr (.inr ⟨_,_,rfl⟩))
  |none=>cases h
 |_=>cases h
theorem qHG(n:Nat)(Γ:Gam)(st:Stmt)(h:qCD st=false):(trS (n+1) Γ st).fx=true:=by
 unfold trS;split
 ·(repeat' split)<;>rfl
 ·cases h
 ·cases h
 ·(repeat' split)<;>rfl
 ·(repeat' split)<;>first|rfl|cases h
 ·cases h
 all_goals ((repeat' split)<;>rfl)
theorem Jm(n:Nat):(∀ Γ st (X:Cx),Fit Γ X G F->FitX Γ X G F->(∀x,Γ.own x=true)->X.xe=(λ_ _=>False)->SS X G F st (trS n Γ st))/\(∀ Γ sts (X:Cx),Fit Γ X G F->FitX Γ X G F->(∀x,Γ.own x=true)->X.xe=(λ_ _=>False)->SSs X G F sts (ZM n Γ sts))/\
  (∀ Γ st (X:Cx),Fit Γ X G F->FitX Γ X G F->(∀x,Γ.own x=true)->(trS n Γ st).clean=true->SX X G F Γ.cls st (trS n Γ st))/\(∀ Γ sts (X:Cx),Fit Γ X G F->FitX Γ X G F->(∀x,Γ.own x=true)->(ZM n Γ sts).clean=true->SXs X G F Γ.cls sts (ZM n Γ sts)):=by
 induction n with
 |zero=>
  refine⟨fun Γ st X f fx ho hx=>?_,fun Γ sts X f fx ho hx=>?_,fun Γ st X f fx ho hc=>?_,fun Γ sts X f fx ho hc=>?_⟩
  ·unfold trS;exact qa
  ·unfold ZM;intro pins s σ H D I q;obtain⟨φ,h,σa,o,h',R,rs,e,k⟩:=q;unfold exs ex at e;cases e
  ·unfold trS;exact zp rfl
  ·unfold ZM;intro pins s0 σc H Ex I q;obtain⟨φ,h,σ,cc,C,h',R,rs,e,ca,k⟩:=q;unfold exs ex at e;cases e
 |succ n ih=>
  obtain⟨i1,i2,i3,i4⟩:=ih;obtain⟨iE,iA,iB,iC,iO,iIf,iI⟩:=jO (G:=G) (F:=F) 60;refine⟨fun Γ st X f fx ho hx=>?_,fun Γ sts X f fx ho hx=>?_,fun Γ st X f fx ho hc=>?_,fun Γ sts X f fx ho hc=>?_⟩
  ·unfold trS;split
   ·split
    ·split
     ·rename_i v pos _ _ x p;split
      ·rename_i g a eg ea;split
       ·rename_i hd;by_cases hc:jH v=true
        ·refine QX (L2.ps_asg (iE _ _ _ ea X f).1 (W9 f (tg:=.Name x p) eg) (QK hc) (by cases v<;>rfl) rfl) λ_ _ _=>L7
        ·cases v with
         |ListComp elt gens scope cpos=>exact JH f ho hd ea eg
         |SetComp elt gens scope cpos=>unfold trE at ea;cases ea
         |DictComp k elt gens scope cpos=>unfold trE at ea;cases ea
         |_=>exact absurd rfl hc
       ·exact qa
      ·exact qa
     ·split
      ·exact qa
      ·split
       ·rename_i hc;simp only[Bool.and_eq_true]at hc;split
        ·rename_i g a eg ea;have hg:=eg;unfold trT at hg;obtain⟨is,ei,rfl⟩:=Option.map_eq_some_iff.mp hg;exact qEI (W9 f eg) (iE _ _ _ ea X f).1 hc.1 hc.2
        ·exact qa
       ·exact qa
     ·split
      ·rename_i hc;simp only[Bool.and_eq_true]at hc;split
       ·rename_i o' i' v' eo ei ev;exact qEG f.hu (iE _ _ _ eo X f).1 (iE _ _ _ ei X f).1 (iE _ _ _ ev X f).1 hc.1 hc.2
       ·exact qa
      ·exact qa
     ·exact qa
    ·exact qa
   ·split
    ·rename_i hc;split
     ·rename_i p ep;exact y4 f ep hc
     ·split
      ·rename_i a ea;exact U5 (iE _ _ _ ea X f).1 hc
      ·exact qa
    ·exact qa
   ·split
    ·intro pins s0 σ H D I q;obtain⟨φ,h,σa,o,h',R,rs,e,k⟩:=q;unfold ex at e;cases e
    ·exact qa
   ·split
    ·split
     ·rename_i p ep;split
      ·rename_i hcc;rw[Bool.and_eq_true]at hcc;exact qDm f fx hx (e:=p.1) (i:=p.2.1) (ks:=p.2.2) ep (i1 _ _ X f fx ho hx) (i3 _ _ X f fx ho hcc.2) hcc.1
      ·exact qa
     ·exact qa
    ·exact qa
   ·split
    ·split
     ·rename_i p ep;unfold xR at ep;split at ep
      ·exact qBv f ep
      ·cases ep
     ·split
      ·rename_i p ep;obtain⟨l,j,q2,q3,ho,rfl,ep2⟩:=qBT ep;exact qDf f ho ep2
      ·split
       ·rename_i a ea;exact V4 (iE _ _ _ ea X f).1
       ·exact qa
    ·exact qa
   ·split
    ·rename_i a ea;exact qDc (iE _ _ _ ea X f).2 (i2 _ _ X f fx ho hx) (i2 _ _ X f fx ho hx)
    ·exact qa
   ·split
    ·split
     ·rename_i hs;split
      ·rename_i it g ei eg;exact qE3 hx f.calm (iI _ _ _ _ ei X f) (W9 f eg) (i2 _ _ X f fx ho hx) (a9 hs)
      ·exact qa
     ·exact qa
    ·exact qa
   ·exact qa
  ·cases sts with
   |nil=>unfold ZM;exact qCm
   |cons s r=>unfold ZM;exact m8 (i1 _ _ X f fx ho hx) (i2 _ _ X f fx ho hx)
  ·rcases(Bool.eq_false_or_eq_true (qCD st)).imp T0 (λh=>qHG n Γ st h) with(⟨e,p,rfl⟩|⟨a,b,p,rfl⟩|⟨c,t,u,p,rfl⟩|⟨e,p,rfl⟩)|hf
   ·unfold trS at hc ⊢;dsimp only at hc ⊢;split
    ·rename_i hn;split
     ·rename_i p ep;exact u4 f fx ep hn
     ·split
      ·exact zp rfl
      ·exact zp rfl
    ·exact zp rfl
   ·unfold trS;dsimp only;split
    ·rename_i c ec;exact qAN f fx ec
    ·exact zp rfl
   ·unfold trS at hc ⊢;dsimp only at hc ⊢;split
    ·rename_i c' ec;rw[ec]at hc;dsimp only at hc;rw[S.clean,Bool.and_eq_true]at hc;exact qEb (λE=>(iE _ _ _ ec _ (f.wish E)).2) (i4 _ _ X f fx ho hc.1) (i4 _ _ X f fx ho hc.2)
    ·exact zp rfl
   ·unfold trS;dsimp only;split
    ·rename_i p ep;unfold xR at ep;split at ep
     ·exact qBo f fx ep
     ·cases ep
    ·split
     ·rename_i p ep;obtain⟨l,j,q2,q3,ho,rfl,ep2⟩:=qBT ep;exact qDI f fx ep2
     ·split
      ·exact zp rfl
      ·exact zp rfl
   ·exact zp (S9 hc (λf as z=>by rw[z]at hf;cases hf) (λc z=>by rw[z]at hf;cases hf) (λc t u z=>by rw[z]at hf;cases hf) (λf as z=>by rw[z]at hf;cases hf) λo f as z=>by rw[z]at hf;cases hf)
  ·cases sts with
   |nil=>unfold ZM;exact qC7
   |cons s r=>
    unfold ZM at hc ⊢;rw[Ss.clean,Bool.and_eq_true]at hc;exact y3 (i1 _ _ X.nox (f.wish _) (fx.wish _) ho rfl) (i3 _ _ X f fx ho hc.1) (i4 _ _ X f fx ho hc.2)
end
theorem len1{α:Type}{us:List α}(h:us.length=1):∃a,us=[a]:=List.length_eq_one_iff.mp h
theorem len2{α:Type}{us:List α}(h:us.length=2):∃a b,us=[a,b]:=by
 cases us with
 |nil=>cases h
 |cons a r=>obtain⟨b,rfl⟩:=len1 (us:=r) (by simpa using h);exact⟨a,b,rfl⟩
theorem len3{α:Type}{us:List α}(h:us.length=3):∃a b c,us=[a,b,c]:=by
 cases us with
 |nil=>cases h
 |cons a r=>obtain⟨b,c,rfl⟩:=len2 (us:=r) (by simpa using h);exact⟨a,b,c,rfl⟩
theorem len4{α:Type}{us:List α}(h:us.length=4):∃a b c d,us=[a,b,c,d]:=by
 cases us with
 |nil=>cases h
 |cons a r=>obtain⟨b,c,d,rfl⟩:=len3 (us:=r) (by simpa using h);exact⟨a,b,c,d,rfl⟩
structure C6 where
 x:Str
 st:Stmt
 ps:List Str
 N:List Str
structure Tbl where
 ds:List C6
 gl:List (Str×E)
 bl:List Str
 cls:List Str:=[]
 xr:List Str:=[]
noncomputable def Tbl.gam(T:Tbl)(d:C6):Gam:=⟨d.N,L2.defScope d.st,T.ds.map (·.x),T.gl,T.bl,λ_=>true,T.cls,T.xr.contains d.x⟩
noncomputable def Qo(b:Ss):Ss:=if b.clean=true then b else .cons .stop .nil
noncomputable def Tbl.fn(T:Tbl)(d:C6):Fn:=⟨d.ps.length,d.N.length,Qo (ZM 60 (T.gam d) (L2.defBody d.st))⟩
noncomputable def Tbl.fns(T:Tbl):List Fn:=T.ds.map T.fn
structure ClsOk(K:PySem.W.Frag)(mg:Str->Option Value)(cn:List Str):Prop where
 cl:∀(c:Nat) x,cn[c]?=some x->∃C,mg x=some (.ref C)/\T8 K C
 sb:∀c k C D,CA mg cn c=some C->CA mg cn k=some D->PySem.W.kitOne K (.ref C) (.ref D)=some (ZP c k)
 sv:∀c C,CA mg cn c=some C->PySem.W.kitOne K (.ref C) (.type "ValueError")=some true
 ro:∀c C D,CA mg cn c=some C->CA mg cn 0=some D->PySem.W.exmOne K (.ref C) (.ref D)=some true
 xs:Xs K mg cn
theorem ClsOk.nil{K:PySem.W.Frag}{mg:Str->Option Value}:ClsOk K mg []:=
 ⟨λc x h=>by simp at h,λc k C D h=>by obtain⟨x,e,_⟩:=j8 h;simp at e,λc C h=>by obtain⟨x,e,_⟩:=j8 h;simp at e,λc C D h=>by obtain⟨x,e,_⟩:=j8 h;simp at e,⟨λx h=>by simp at h,λx h=>by simp at h⟩⟩
structure l4(K:PySem.W.Frag)(mg:Str->Option Value)(G:List Addr)(T:Tbl)(fa:List Addr)(fd:List FuncData):Prop where
 def_:∀(i:Nat) d,T.ds[i]?=some d->∃a f,fa[i]?=some a/\fd[i]?=some f/\Fun K d.x d.x d.st a f/\zC d.N d.ps (L2.defScope d.st)/\mg d.x=some (.ref a)/\Binds K f d.ps []
 gls:∀x e,T.gl.lookup x=some e->(∃v u,e=.cst v/\mg x=some u/\RelV v u/\∀φ,rv φ v v)\/(∃g a,e=.glob g/\mg x=some (.ref a)/\G[g]?=some a)
 blt:∀x,T.bl.contains x=true->mg x=none
 cls:ClsOk K mg T.cls
 gtu:∀a∈G,∃o,K.lookup a=some o/\o.cls=.type "tuple"/\o.dict=none
theorem Js{φ:List Addr}{ws vs:List V}(r:rvs φ ws vs)(n:Nat):rst φ (ws.map some++List.replicate n none) (vs.map some++List.replicate n none):=by
 refine qU ?_ ?_
 ·induction r with
  |nil=>exact .nil
  |cons h t ih=>exact .cons ⟨_,rfl,h⟩ ih
 ·induction n with
  |zero=>exact .nil
  |succ n ih=>exact .cons trivial ih
section
variable{P:Program}{w:World}{K:PySem.W.Frag}{mg:Str->Option Value}{base:Heap}{G:List Addr}{T:Tbl}{fa:List Addr}{fd:List FuncData}
theorem qDe{k i:Nat}{d:C6}(h1:T.ds[i]?=some d){ws:List V}{h h':AH}{v:V}(e:Fk T.fns (k+1) i ws h=.ok (v,h')):ws.length=d.ps.length/\d.ps.length<=d.N.length/\∃o,exs (Fk T.fns k) (ZM 60 (T.gam d) (L2.defBody d.st)) (ws.map some++List.replicate (d.N.length-d.ps.length) none) h=.ok (o,h')/\
  ((∃σ,o=.nx σ/\v=.non)\/o=.rt v):=by
 unfold Fk at e;have ht:T.fns[i]?=some (T.fn d):=by unfold Tbl.fns;rw[wQ,h1];rfl
 rw[ht]at e;dsimp only at e;split at e
 ·rename_i hc;obtain⟨⟨o,h2⟩,e2,e⟩:=Res.bind_inv e;have e3:exs (Fk T.fns k) (Qo (ZM 60 (T.gam d) (L2.defBody d.st))) (ws.map some++List.replicate (d.N.length-d.ps.length) none) h=.ok (o,h2):=e2;have e4:exs (Fk T.fns k) (ZM 60 (T.gam d) (L2.defBody d.st)) (ws.map some++List.replicate (d.N.length-d.ps.length) none) h=.ok (o,h2):=by
   unfold Qo at e3;split at e3
   ·exact e3
   ·unfold exs ex at e3;cases e3
  refine⟨hc.1,hc.2,o,?_,?_⟩
  ·cases o<;>cases e<;>exact e4
  ·cases o with
   |nx σ=>cases e;exact .inl ⟨σ,rfl,rfl⟩
   |rt u=>cases e;exact .inr rfl
   |bk σ=>cases e
   |ct σ=>cases e
 ·cases e
theorem qAk{k i c:Nat}{d:C6}(h1:T.ds[i]?=some d){ws:List V}{h h':AH}(e:Fk T.fns (k+1) i ws h=.exc c h'):ws.length=d.ps.length/\d.ps.length<=d.N.length/\(ZM 60 (T.gam d) (L2.defBody d.st)).clean=true/\exs (Fk T.fns k) (ZM 60 (T.gam d) (L2.defBody d.st)) (ws.map some++List.replicate (d.N.length-d.ps.length) none) h=.exc c h':=by
 unfold Fk at e;have ht:T.fns[i]?=some (T.fn d):=by unfold Tbl.fns;rw[wQ,h1];rfl
 rw[ht]at e;dsimp only at e;split at e
 ·rename_i hc;have e3:(exs (Fk T.fns k) (Qo (ZM 60 (T.gam d) (L2.defBody d.st))) (ws.map some++List.replicate (d.N.length-d.ps.length) none) h).bind (λ(o,h1)=>match o with | .nx _=>Res.ok (V.non,h1) | .rt v=>.ok (v,h1)|_=>.stuck)=.exc c h':=e;unfold Qo at e3;split at e3
  ·rename_i hcl;refine⟨hc.1,hc.2,hcl,?_⟩;revert e3;generalize exs (Fk T.fns k) (ZM 60 (T.gam d) (L2.defBody d.st)) _ h=r;intro e3;cases r with
   |stuck=>cases e3
   |exc c2 h2=>cases e3;rfl
   |ok p=>obtain⟨o,h2⟩:=p;cases o<;>cases e3
  ·unfold exs ex at e3;cases e3
 ·cases e
theorem qBP(O:l4 K mg G T fa fd){k:Nat}{d:C6}(f0:∀(i:Nat) d a f,T.ds[i]?=some d->fa[i]?=some a->fd[i]?=some f->FnOk P w K mg base L2.CX0 (2*k) a f d.ps (spF G (Fk T.fns k) K i))(f1:∀(i:Nat) d a f,T.ds[i]?=some d->fa[i]?=some a->fd[i]?=some f->FnOk P w K mg base (CX1 P w) (2*k) a f d.ps (spX mg T.cls G (Fk T.fns k) K i))
  (hS:zC d.N d.ps (L2.defScope d.st)) (CX:L2.CXT) (a:Addr) (cdv:Value) (A:Around) (outer:List Env) (s:Shared) (H:Hp) (E:L2.XK) (E2:Value->Shared->Prop) (hr:Room (2*k+1) (A.deeper (envOfC d.x (L2.defScope d.st) s.heap.objs.size a cdv))):
  Fit (T.gam d) ((L2.cxOf CX P w K mg base d.N d.x (L2.defScope d.st) a cdv A outer s H E).wish E2) G (Fk T.fns k)/\FitX (T.gam d) ((L2.cxOf CX P w K mg base d.N d.x (L2.defScope d.st) a cdv A outer s H E).wish E2) G (Fk T.fns k):=by
 have get:∀(g:Nat) x,(T.gam d).fns[g]?=some x->∃d2 a2 f2,T.ds[g]?=some d2/\d2.x=x/\fa[g]?=some a2/\fd[g]?=some f2/\mg x=some (.ref a2)/\PySem.W.keepIn K (.ref a2)=true/\Binds K f2 d2.ps []:=λg x eg=>by
  have eg':(T.ds.map (·.x))[g]?=some x:=eg;rw[wQ]at eg';cases hd:T.ds[g]? with
  |none=>rw[hd]at eg';cases eg'
  |some d2=>
   rw[hd]at eg';cases eg';obtain⟨a2,f2,q1,q2,q3,q4,q5,q6⟩:=O.def_ g d2 hd;exact⟨d2,a2,f2,rfl,rfl,q1,q2,q5,q3.kp,q6⟩
 refine⟨⟨rfl,hS.nd,rfl,rfl,λ_ _=>rfl,λg x eg=>?_,O.gls,O.blt,?_,hr.gd,O.gtu,O.cls.xs⟩,⟨rfl,rfl,rfl,λg x eg=>?_,O.cls.cl,O.cls.sb,O.cls.sv,O.cls.ro⟩⟩
 ·obtain⟨d2,a2,f2,q1,rfl,q2,q3,q4,q5,q6⟩:=get g x eg;exact⟨2*k,a2,f2,d2.ps,f0 g d2 a2 f2 q1 q2 q3,hr.mono (Nat.le_succ _),q4,q5,q6,hr.in1⟩
 ·have:=hr.units;show (A.deeper (envOfC d.x (L2.defScope d.st) s.heap.objs.size a cdv)).units+8<cLine;omega
 ·obtain⟨d2,a2,f2,q1,rfl,q2,q3,q4,q5,q6⟩:=get g x eg;exact⟨2*k,a2,f2,d2.ps,f1 g d2 a2 f2 q1 q2 q3,hr.mono (Nat.le_succ _),q4,q5,q6⟩
theorem U1(O:l4 K mg G T fa fd):∀(k:Nat),(∀(i:Nat) d a f,T.ds[i]?=some d->fa[i]?=some a->fd[i]?=some f->FnOk P w K mg base L2.CX0 (2*k) a f d.ps (spF G (Fk T.fns k) K i))/\
  (∀(i:Nat) d a f,T.ds[i]?=some d->fa[i]?=some a->fd[i]?=some f->FnOk P w K mg base (CX1 P w) (2*k) a f d.ps (spX mg T.cls G (Fk T.fns k) K i))
 | 0=>⟨λi d a f h1 h2 h3=>⟨(λvs H Q E h=>by obtain⟨_,_,_,_,_,_,_,e,_⟩:=h;unfold Fk at e;cases e),(λA outer s H args us vs Q E hr e0 hb r h=>by obtain⟨_,_,_,_,_,_,_,e,_⟩:=h;unfold Fk at e;cases e)⟩,
   λi d a f h1 h2 h3=>⟨(λvs H Q E h=>by obtain⟨_,_,_,_,_,_,_,_,e,_⟩:=h;unfold Fk at e;cases e),(λA outer s H args us vs Q E hr e0 hb r h=>by obtain⟨_,_,_,_,_,_,_,_,e,_⟩:=h;unfold Fk at e;cases e)⟩⟩
 |k+1=>by
  obtain⟨f0,f1⟩:=U1 O k;refine⟨λi d a f h1 h2 h3=>?_,λi d a f h1 h2 h3=>?_⟩
  ·obtain⟨a',f',e1,e2,hF,hS,hm,hB⟩:=O.def_ i d h1;rw[h2]at e1;cases e1;rw[h3]at e2;cases e2;refine hF.ok hS (λvs H Q E h=>?_) (λcdv A outer s H vs Q E hr h=>?_)
   ·obtain⟨φ,h0,ws,v,h',R,r,e,_⟩:=h;rw[<-Paired.length r];exact(qDe h1 e).1
   ·obtain⟨φ,h0,ws,v,h',R,r,e,kk⟩:=h;obtain⟨l1,l2,o,eo,ho⟩:=qDe h1 e;obtain⟨fit,fitx⟩:=qBP O f0 f1 hS L2.CX0 a cdv A outer s H E (λ_ _=>False) hr;refine⟨_,(Jm (G:=G) (F:=Fk T.fns k) 60).2.1 (T.gam d) (L2.defBody d.st) _ fit fitx (λ_=>rfl) rfl,φ,h0,_,o,h',R,?_,eo,λφ' H' x' R'=>?_⟩
    ·unfold L2.start;rw[<-Paired.length r,l1];exact Js r _
    ·rcases ho with⟨σ,rfl,rfl⟩|rfl
     ·exact λσc _=>kk φ' H' .non x' R' trivial
     ·exact λu ru=>kk φ' H' u x' R' ru
  ·obtain⟨a',f',e1,e2,hF,hS,hm,hB⟩:=O.def_ i d h1;rw[h2]at e1;cases e1;rw[h3]at e2;cases e2;obtain⟨oc,od,kV,doc,pm,an,cdv,ct,osl,rfl,lk,hcd⟩:=hF.ex;refine L2.fn_of lk hcd hS (λvs H Q E h=>?_) λA outer s H vs Q E hr h=>?_
   ·obtain⟨φ,h0,ws,c,C,h',R,r,e,_⟩:=h;rw[<-Paired.length r];exact(qAk h1 e).1
   ·obtain⟨φ,h0,ws,c,C,h',R,r,e,ca,kk⟩:=h;obtain⟨l1,l2,cl,eo⟩:=qAk h1 e;obtain⟨fit,fitx⟩:=qBP O f0 f1 hS (CX1 P w) a cdv A outer s H E (L2.cxOf (CX1 P w) P w K mg base d.N d.x (L2.defScope d.st) a cdv A outer s H E).xe hr;refine⟨λ_ σc H1=>tX (L2.cxOf (CX1 P w) P w K mg base d.N d.x (L2.defScope d.st) a cdv A outer s H E) G T.cls (exs (Fk T.fns k) (ZM 60 (T.gam d) (L2.defBody d.st))) σc H1 E,λpins s1 σc H1 D I q=>?_,φ,h0,_,c,C,h',R,?_,eo,ca,kk⟩
    ·refine wpAny_mono ((Jm (G:=G) (F:=Fk T.fns k) 60).2.2.2 (T.gam d) (L2.defBody d.st) _ fit fitx (λ_=>rfl) cl pins s1 σc H1 E I q) (λ_ _ z=>z.elim) λev s' z=>?_;rcases z with⟨σ1,s2,H2,_,I2,ea,C2,H3,rfl,Fy,ec⟩|⟨_,σ1,s2,H2,h2,ea,vs2,C2,I2,mk,rfl,rfl,ec⟩
     ·exact wpAny_mono (S0 I2 rfl rfl rfl Fy) (λ_ s3 z=>⟨ea,C2,H3,rfl,z,ec⟩) λ_ _ z=>z
     ·exact wpAny_mono (G3 I2 rfl rfl rfl mk) (λ_ s3 z=>⟨ea,C2,H2,rfl,z,ec⟩) λ_ _ z=>z
    ·unfold L2.start;rw[<-Paired.length r,l1];exact Js r _
theorem qAR(O:l4 K mg G T fa fd)(k i:Nat)(d:C6)(a:Addr)(f:FuncData)(h1:T.ds[i]?=some d)(h2:fa[i]?=some a)(h3:fd[i]?=some f):FnOk P w K mg base L2.CX0 (2*k) a f d.ps (spF G (Fk T.fns k) K i):=(U1 O k).1 i d a f h1 h2 h3
end
noncomputable def w9(K:PySem.W.Frag):L2.Sp:=λvs H Q _=>∃(a:Addr) (ns:List Int),vs=[.ref a]/\L2.Only H/\SqL K H a (ns.map V.int)/\ns.length<=63/\∀H',Q (.bl true) H'
noncomputable def B6(gs:List O)(ns:List Int):AH:=gs++[.lst true (ns.map V.int)]
def L3(K:PySem.W.Frag):List Addr->List O->Prop
 | [],[]=>True
 |a::as,.tup xs::os=>(SqT K (λ_=>none) a xs/\xs.all flat=true)/\L3 K as os
 |_,_=>False
theorem JX{φ:List Addr}:∀{xs:List V},xs.all flat=true->rvs φ xs xs
 | [],_=>.nil
 |x::xs,h=>by
  simp only[List.all_cons,Bool.and_eq_true]at h;refine .cons ?_ (JX h.2);cases x<;>first|rfl|exact trivial|(cases h.1)
theorem y6{K:PySem.W.Frag}{H:Hp}{a:Addr}{xs:List V}(q:SqT K (λ_=>none) a xs):SqT K H a xs:=by
 rcases q with(h|⟨o,h⟩)|h
 ·cases h
 ·cases h
 ·exact .inr h
theorem ZQ{K:PySem.W.Frag}:∀{as:List Addr}{os:List O},L3 K as os->as.length=os.length/\∀(i:Nat) o a,os[i]?=some o->as[i]?=some a->∃xs,o=.tup xs/\SqT K (λ_=>none) a xs/\xs.all flat=true
 | [],[],_=>⟨rfl,λi o a h=>by simp at h⟩
 | [],_::_,h=>False.elim h
 |_::_,[],h=>False.elim h
 |a::as,.lst _ _::os,h=>False.elim h
 |a::as,.tup xs::os,h=>by
  obtain⟨h1,h2⟩:=h;obtain⟨l,k⟩:=ZQ h2;refine⟨by simp[l],λi o b e1 e2=>?_⟩;cases i with
  |zero=>simp at e1 e2;subst e1 e2;exact⟨xs,rfl,h1⟩
  |succ i=>exact k i o b (by simpa using e1) (by simpa using e2)
theorem Y9{P:Program}{w:World}{K:PySem.W.Frag}{mg:Str->Option Value}{base:Heap}{G:List Addr}{gs:List O}{T:Tbl}{fa:List Addr}{fd:List FuncData}(O:l4 K mg G T fa fd)(hG:L3 K G gs){k i:Nat}{d:C6}{a:Addr}{f:FuncData}
  (h1:T.ds[i]?=some d) (h2:fa[i]?=some a) (h3:fd[i]?=some f) (hp:d.ps=(["_law_script"]:List Str)) (main:∀ns:List Int,ns.length<=63->∃h',Fk T.fns k i [.ref gs.length] (B6 gs ns)=.ok (.bl true,h')):
  FnOk P w K mg base L2.CX0 (2*k) a f (["_law_script"]:List Str) (w9 K):=by
 have F:=qAR (P:=P) (w:=w) (base:=base) O k i d a f h1 h2 h3;rw[hp]at F;refine⟨λvs H Q E h=>by obtain⟨b,ns,rfl,_⟩:=h;rfl,λA outer s H args us vs Q E hr e0 hb r h=>?_⟩;obtain⟨b,ns,rfl,hO,hS,hl,q⟩:=h;obtain⟨h',e⟩:=main ns hl;obtain⟨lg,kg⟩:=ZQ hG;refine F.run A outer s H args us _ Q E hr e0 hb r ⟨G++[b],B6 gs ns,[.ref gs.length],.bl true,h',⟨by unfold B6;simp[lg],⟨[b],rfl⟩,λj o c e1 e2=>?_,λj l xs ys c e1 e2 e3 e4=>?_⟩,.cons (by show (G++[b])[gs.length]?=some b;rw[<-lg];simp) .nil,e,λφ' H' u x' R' ru=>by rw[zV ru];exact q H'⟩
 ·unfold B6 at e1;by_cases hj:j<gs.length
  ·rw[List.getElem?_append_left hj]at e1;rw[List.getElem?_append_left (by omega)]at e2;obtain⟨xs,rfl,h5,h6⟩:=kg j o c e1 e2;exact⟨xs,y6 h5,JX h6⟩
  ·have hj':j=gs.length:=by
    have:=(List.getElem?_eq_some_iff.mp e1).1;simp at this;omega
   subst hj';simp at e1;rw[<-lg]at e2;simp at e2;subst e1 e2;refine⟨ns.map V.int,?_,JX (W4 ns)⟩;rcases hS with(z|⟨ob,z⟩)|z
   ·rcases hO b with y|⟨ob,xs,y⟩<;>(rw[y]at z;cases z)
   ·exact .inl ⟨ob,z⟩
   ·exact .inr (.inr z)
 ·have no:∀{m:Nat}{z:PI.O},z.mu=true->(B6 gs ns)[m]?=some z->False:=λ{m zs} mz em=>by
   unfold B6 at em;by_cases hj:m<gs.length
   ·rw[List.getElem?_append_left hj]at em;obtain⟨xs,ex,_⟩:=kg m _ (G[m]'(by omega)) em (wB (by omega));subst ex;cases mz
   ·have hj':m=gs.length:=by
     have:=(List.getElem?_eq_some_iff.mp em).1;simp at this;omega
    subst hj';simp at em;subst em;cases mz
  exact(no ‹_› ‹_›).elim
open L2
theorem ClsOk.of{K:PySem.W.Frag}{mg:Str->Option Value}{cn:List Str}{Cs:List Addr}(hm:∀(c:Nat) x,cn[c]?=some x->∃C,Cs[c]?=some C/\mg x=some (.ref C)/\PySem.W.nsIn K mainGlobals x=some (some (.ref C)))
  (hx:∀(c:Nat) C,Cs[c]?=some C->T8 K C/\PySem.W.kitOne K (.ref C) (.type "ValueError")=some true)
  (hs:∀(c k:Nat) C D,Cs[c]?=some C->Cs[k]?=some D->PySem.W.kitOne K (.ref C) (.ref D)=some (ZP c k))
  (hr:∀(c:Nat) C D,Cs[c]?=some C->Cs[0]?=some D->PySem.W.exmOne K (.ref C) (.ref D)=some true)
  (hn:cn.Nodup) (h0:cn[0]?=some ("HealError":Str)) (hv:("ValueError":Str)∉cn) (hl:cn.length<999):ClsOk K mg cn:=by
 have up:∀{c:Nat}{C:Addr},CA mg cn c=some C->Cs[c]?=some C:=λ{c C} h=>by
  obtain⟨x,e,em⟩:=j8 h;obtain⟨D,hD,eD,_⟩:=hm c x e;cases em.symm.trans eD;exact hD
 refine⟨λc x h=>by obtain⟨C,hC,e,_⟩:=hm c x h;exact⟨C,e,(hx c C hC).1⟩,λc k C D h1 h2=>hs c k C D (up h1) (up h2),λc C h=>(hx c C (up h)).2,λc C D h1 h2=>hr c C D (up h1) (up h2),⟨λx h=>?_,λx h1 y h2 C D m1 m2=>?_⟩⟩
 ·obtain⟨c,e⟩:=wo.mp h;obtain⟨C,hC,e1,e2⟩:=hm c x e;exact⟨C,e1,e2,(hx c C hC).1,(hx c C hC).2⟩
 ·obtain⟨c,e1⟩:=wo.mp h1;obtain⟨k,e2⟩:=wo.mp h2;obtain⟨C',hC,q1,_⟩:=hm c x e1;obtain⟨D',hD,q2,_⟩:=hm k y e2;rw[m1]at q1;cases q1;rw[m2]at q2;cases q2;rw[hs c k C D hC hD];have one:∀{i j:Nat}{z z':Str},cn[i]?=some z->cn[j]?=some z'->(i=j↔z=z'):=λ{i j z z'} a b=>⟨λh=>by subst h;rw[a]at b;cases b;rfl,λh=>L2.nodup_ix hn a (h ▸ b)⟩
  have lk:=(List.getElem?_eq_some_iff.mp e2).1;have b1:(k==c)=decide (y=x):=by rw[wa];simp[one e2 e1]
  have b2:(k==0)=decide (y="HealError"):=by rw[wa];simp[one e2 h0]
  have b3:(k==999)=false:=by simp;omega
  have b4:decide (y=("ValueError":Str))=false:=by simp;rintro rfl;exact hv h2
  unfold ZP qHe;rw[b1,b2,b3,b4]
structure qAT(K:PySem.W.Frag)(x:Str)(C:Addr):Prop where
 a:PySem.W.nsIn K mainGlobals x=some (some (.ref C))
 b:T8 K C
 j:PySem.W.kitOne K (.ref C) (.type "ValueError")=some true
noncomputable def qBC(K:PySem.W.Frag)(Cs:List Addr):Bool:=Cs.zipIdx.all λp=>Cs.zipIdx.all (λq=>PySem.W.kitOne K (.ref p.1) (.ref q.1)==some (ZP p.2 q.2))&&PySem.W.exmOne K (.ref p.1) (.ref (Cs.getD 0 0))==some true
theorem ClsOk.all{K:PySem.W.Frag}{h:Heap}{mg:Str->Option Value}{cn:List Str}{Cs:List Addr}(X:K.In h)(G:h.Ns mainGlobals mg)(hp:Paired (qAT K) cn Cs)(hc:qBC K Cs=true)(hn:cn.Nodup)(h0:cn[0]?=some ("HealError":Str))(hv:("ValueError":Str)∉cn)(hl:cn.length<999):ClsOk K mg cn:=by
 have got:∀{c:Nat}{C:Addr},Cs[c]?=some C->∃x,cn[c]?=some x/\qAT K x C:=λ{c C} e=>by
  have l:c<cn.length:=by rw[Paired.length hp];exact(List.getElem?_eq_some_iff.mp e).1
  obtain⟨D,e1,q⟩:=qH hp (wB l);rw[e]at e1;cases e1;exact⟨_,wB l,q⟩
 have mz:∀{c:Nat}{C:Addr},Cs[c]?=some C->(C,c)∈Cs.zipIdx:=λ{c C} e=>List.mk_mem_zipIdx_iff_getElem?.mpr e;have ck:∀{c:Nat}{C:Addr},Cs[c]?=some C->(∀(k:Nat) D,Cs[k]?=some D->PySem.W.kitOne K (.ref C) (.ref D)=some (ZP c k))/\PySem.W.exmOne K (.ref C) (.ref (Cs.getD 0 0))=some true:=λ{c C} e=>by
  have:=wH.mp hc _ (mz e);rw[Bool.and_eq_true]at this;exact⟨λk D eD=>beq_iff_eq.mp (wH.mp this.1 _ (mz eD)),beq_iff_eq.mp this.2⟩
 refine ClsOk.of (Cs:=Cs) (λc x e=>?_) (λc C e=>?_) (λc k C D e1 e2=>(ck e1).1 k D e2) (λc C D e1 e2=>?_) hn h0 hv hl
 ·obtain⟨C,e1,q⟩:=qH hp e;exact⟨C,e1,PySem.W.mg_of X G q.a,q.a⟩
 ·obtain⟨x,_,q⟩:=got e;exact⟨q.b,q.j⟩
 ·have:=(ck e1).2;rw[wT,e2]at this;exact this
noncomputable def K3(K:PySem.W.Frag)(x:Str):Bool:=match PySem.W.nsIn K mainGlobals x with
 |some (some (.ref C))=>(PySem.W.clsIn K C).isSome&&(PySem.W.findIn K (.ref C) "__class__"==some (some (.builtin "object.__class__")))&&(PySem.W.mroIn K C (.type "object")==some true)&&(PySem.W.mroIn K C (.type "BaseException")==some true)&&(PySem.W.findIn K (.ref C) "__getattribute__"==some (some (.builtin "BaseException.__getattribute__")))&&(PySem.W.findIn K (.ref C) "__getattr__"==some none)&&PySem.W.excIn K C [.type "ValueError",.type "Exception",.type "BaseException",.type "object"] "ValueError.__new__"&&(PySem.W.kitOne K (.ref C) (.type "ValueError")==some true)
 |_=>false
noncomputable def B8(K:PySem.W.Frag)(x:Str):Addr:=match PySem.W.nsIn K mainGlobals x with
 |some (some (.ref C))=>C
 |_=>0
noncomputable def T9(K:PySem.W.Frag)(cn:List Str):Bool:=cn.all (K3 K)&&qBC K (cn.map (B8 K))
theorem i7{K:PySem.W.Frag}{x:Str}(h:K3 K x=true):qAT K x (B8 K x):=by
 unfold K3 at h;unfold B8;split at h
 ·rename_i C e;simp only[Bool.and_eq_true,beq_iff_eq]at h;obtain⟨⟨⟨⟨⟨⟨⟨h1,h2⟩,h3⟩,h4⟩,h5⟩,h6⟩,h7⟩,h8⟩:=h;obtain⟨cd,h1⟩:=Option.isSome_iff_exists.mp h1;exact⟨e,⟨⟨cd,h1⟩,h2,h3,h4,h5,h6,h7⟩,h8⟩
 ·cases h
theorem ClsOk.rec_{K:PySem.W.Frag}{h:Heap}{mg:Str->Option Value}{cn:List Str}(X:K.In h)(G:h.Ns mainGlobals mg)(hc:T9 K cn=true)(hn:cn.Nodup)(h0:cn[0]?=some ("HealError":Str))(hv:("ValueError":Str)∉cn)(hl:cn.length<999):ClsOk K mg cn:=by
 unfold T9 at hc;rw[Bool.and_eq_true]at hc;refine ClsOk.all (Cs:=cn.map (B8 K)) X G ?_ hc.2 hn h0 hv hl;have go:∀l:List Str,l.all (K3 K)=true->Paired (qAT K) l (l.map (B8 K)):=λl=>by
  induction l with
  |nil=>exact λ_=>.nil
  |cons a r ih=>
   intro h;rw[List.all_cons,Bool.and_eq_true]at h;exact .cons (i7 h.1) (ih h.2)
 exact go cn hc.1
abbrev qEu(K:PySem.W.Frag)(d:C6):Prop:=∃(f:Addr) (oc:Value) (od an:Option Addr) (sl:Array (Option Value)) (kV dc pm cd ct:Value),PySem.W.nsIn K mainGlobals d.x=some (some (.ref f))/\K.lookup f=some ⟨oc,od,.func (PySem.W.fnOf d.x d.x (zd d.st) (defBody d.st) (defScope d.st) .none kV dc pm an cd ct),sl⟩/\PySem.W.codeIn K cd d.x=true/\PySem.W.keepIn K (.ref f)=true
structure qCT(d:C6):Prop where
 sc:zC d.N d.ps (defScope d.st)
 bd:∀(kV doc pm:Value) (an:Option Addr) (cdv ct:Value) (us:List Value),us.length=d.ps.length->bindArgs (PySem.W.fnOf d.x d.x (zd d.st) (defBody d.st) (defScope d.st) .none kV doc pm an cdv ct) ⟨us,[]⟩=pure (d.ps.zip us)
theorem qBA{K:PySem.W.Frag}{h:Heap}{mg:Str->Option Value}(X:K.In h)(G:h.Ns mainGlobals mg):∀(ds:List C6),(∀d∈ds,qEu K d)->(∀d∈ds,qCT d)->∃(fa:List Addr) (fd:List FuncData),∀(i:Nat) d,ds[i]?=some d->∃a f,fa[i]?=some a/\fd[i]?=some f/\Fun K d.x d.x d.st a f/\zC d.N d.ps (L2.defScope d.st)/\mg d.x=some (.ref a)/\Binds K f d.ps []
 | [],_,_=>⟨[],[],λi d h=>by simp at h⟩
 |d::ds,h,hk=>by
  obtain⟨fa,fd,k⟩:=qBA X G ds (λx hx=>h x (by simp[hx])) λx hx=>hk x (by simp[hx]);obtain⟨f,oc,od,an,sl,kV,dc,pm,cd,ct,h1,h2,h3,h4⟩:=h d (by simp);have hd:=hk d (by simp);refine⟨f::fa,PySem.W.fnOf d.x d.x (zd d.st) (defBody d.st) (defScope d.st) .none kV dc pm an cd ct::fd,λi e he=>?_⟩;cases i with
  |zero=>cases he;exact⟨_,_,rfl,rfl,qAh h2 h3 h4,hd.sc,PySem.W.mg_of X G h1,(qAh h2 h3 h4).binds hd.bd⟩
  |succ i=>exact k i e he
theorem qGd{K:PySem.W.Frag}{d:C6}{a:Addr}{f:FuncData}{x:Str}(F:Fun K d.x d.x d.st a f)(h:qCT d)(hp:d.ps=[x])(s:Shared)(v:Value):BindsTo s f ⟨[v],[]⟩ [(x,v)]:=by
 obtain⟨oc,od,kV,doc,pm,an,cdv,ct,osl,rfl,lk,hcd⟩:=F.ex;refine .of_eq ?_;rw[h.bd kV doc pm an cdv ct [v] (by rw[hp];rfl),hp];rfl
inductive T where
 |v (x:V)|cell (n:Nat)|fz (xs:List T)|lst (xs:List T)|tup (xs:List T)|ob (o:Ob)
noncomputable abbrev Mem:=List (List T)
noncomputable abbrev TS:=List (Option T)
inductive PR(α:Type)|ok(a:α)|exc(c:Nat)(M:Mem)|stuck
noncomputable def PR.bind{α β:Type}:PR α->(α->PR β)->PR β
 | .ok a,f=>f a
 | .exc c M,_=>.exc c M
 | .stuck,_=>.stuck
@[simp] theorem PR.bind_ok{α β:Type}(a:α)(f:α->PR β):(PR.ok a).bind f=f a:=Eq.trans rfl rfl
@[simp] theorem PR.bind_stuck{α β:Type}(f:α->PR β):(PR.stuck:PR α).bind f=.stuck:=Eq.trans rfl rfl
noncomputable def PR.nx{α:Type}:PR α->PR α
 | .ok a=>.ok a
 | .exc _ _=>.stuck
 | .stuck=>.stuck
@[simp] theorem PR.nx_ok{α:Type}(a:α):(PR.ok a).nx=.ok a:=Eq.trans rfl rfl
@[simp] theorem PR.nx_stuck{α:Type}:(PR.stuck:PR α).nx=.stuck:=Eq.trans rfl rfl
noncomputable def PR.ofO{α:Type}:Option α->PR α
 |some a=>.ok a
 |none=>.stuck
@[simp] theorem PR.ofO_some{α:Type}(a:α):PR.ofO (some a)=.ok a:=Eq.trans rfl rfl
mutual
noncomputable def T.lf:T->Bool
 | .v _=>true
 | .ob (.exn _)=>true
 | .tup ts=>T.lfs ts
 |_=>false
noncomputable def T.lfs:List T->Bool
 | []=>true
 |t::ts=>T.lf t&&T.lfs ts
end
mutual
noncomputable def T.und(n:Nat):T->Bool
 | .v _=>true
 | .ob _=>true
 | .cell k=>decide (k<n)
 | .fz ts=>T.unds n ts
 | .lst ts=>T.unds n ts
 | .tup ts=>T.unds n ts
noncomputable def T.unds(n:Nat):List T->Bool
 | []=>true
 |t::ts=>T.und n t&&T.unds n ts
end
mutual
noncomputable def T.beq:T->T->Bool
 | .v x,.v y=>decide (x=y)
 | .cell x,.cell y=>decide (x=y)
 | .fz x,.fz y=>T.beqs x y
 | .lst x,.lst y=>T.beqs x y
 | .tup x,.tup y=>T.beqs x y
 | .ob x,.ob y=>decide (x=y)
 |_,_=>false
noncomputable def T.beqs:List T->List T->Bool
 | [],[]=>true
 |x::xs,y::ys=>T.beq x y&&T.beqs xs ys
 |_,_=>false
end
noncomputable abbrev jT:=List (Nat×List T)
noncomputable def qY(d:jT)(M:Mem):Bool:=d.all λp=>match M[p.1]? with|some ts=>T.beqs ts p.2|none=>false
noncomputable def T.its(M:Mem):T->Option (List T)
 | .lst xs=>some xs | .tup xs=>some xs | .fz xs=>some xs | .cell n=>M[n]? | _=>none
noncomputable def T.lis(M:Mem):T->Option (List T)
 | .lst xs=>some xs | .fz xs=>some xs | .cell n=>M[n]? | _=>none
noncomputable def T.mu(M:Mem):T->Option (List T)
 | .lst xs=>some xs | .cell n=>M[n]? | _=>none
noncomputable def zD:List T->Option (List Int)
 | []=>some []
 | .v (.int i)::r=>(zD r).map (i::·)
 |_::_=>none
noncomputable def jZ:List T->Option (List Int)
 | []=>some []
 | .v (.int i)::r=>(jZ r).map (i::·)
 | .v (.bl b)::r=>(jZ r).map ((if b=true then 1 else 0)::·)
 |_=>none
noncomputable def zX:List T->Option (List Bool)
 | []=>some []
 | .v (.bl i)::r=>(zX r).map (i::·)
 |_::_=>none
noncomputable def Zr:List T->Option (List V)
 | []=>some []
 | .v x::r=>(Zr r).map (x::·)
 |_::_=>none
noncomputable def zt(f:T->T->Option Bool):List T->List T->Option (List Bool)
 | [],[]=>some []
 |x::xs,y::ys=>match f x y,zt f xs ys with
  |some b,some bs=>some (b::bs)
  |_,_=>none
 |_,_=>none
noncomputable def T.isV:T->Option V | .v x=>some x|_=>none
noncomputable def eqT(M:Mem):Nat->T->T->Option Bool
 | 0,s,t=>match s.isV,t.isV with|some x,some y=>eqF x y|_,_=>none
 |n+1,s,t=>match s.isV,t.isV with
  |some x,some y=>eqF x y
  |some _,none=>if (t.its M).isSome then some false else none
  |none,some _=>if (s.its M).isSome then some false else none
  |none,none=>match s.lis M,t.lis M with
   |some xs,some ys=>if xs.length=ys.length then (zt (eqT M n) xs ys).map λbs=>bs.all id else some false
   |some _,none=>if (t.its M).isSome then some false else none
   |none,some _=>if (s.its M).isSome then some false else none
   |none,none=>match s.its M,t.its M with
    |some xs,some ys=>if xs.length=ys.length then (zt (eqT M n) xs ys).map λbs=>bs.all id else (zt (eqT M n) (xs.take ys.length) (ys.take xs.length)).map λ_=>false
    |_,_=>none
noncomputable def QQ(xs:List T)(lo hi:Option Int):List T:=(xs.drop (HT.sIx xs.length 0 lo)).take (HT.sIx xs.length xs.length hi-HT.sIx xs.length 0 lo)
noncomputable abbrev TB:=T×Bool
noncomputable def iT(i:Int):TB:=(.v (.int i),true)
noncomputable def bT(b:Bool):TB:=(.v (.bl b),true)
noncomputable def lT(xs:List T):TB:=(.lst xs,T.lfs xs)
noncomputable def Jb(x:T)(xs:List T)(lo hi:Option Int):Option TB:=match x with
 | .tup _=>if HT.sIx xs.length 0 lo=0/\HT.sIx xs.length xs.length hi=xs.length then none else some (.tup (QQ xs lo hi),T.lfs (QQ xs lo hi))
 |_=>some (lT (QQ xs lo hi))
noncomputable def qr(M:Mem)(op:BOp)(x y:T):Option TB:=match x.isV,y.isV with
 |some (.int i),some (.int j)=>match op with
  | .add=>some (iT (i+j))
  | .sub=>some (iT (i-j))
  | .mul=>if QZ i||QZ j||(mid i&&mid j) then some (iT (i*j)) else none
  | .fdiv=>if 0<j/\(j<1073741824\/mid j=true) then some (iT (i / j)) else if j<0/\mid j=true then some (iT (i.fdiv j)) else none
  | .mod=>if 0<j then some (iT (i % j)) else if j<0 then some (iT (i.fmod j)) else none
  | .pow=>if 0<=j/\j<=1000/\i.natAbs<18446744073709551616 then some (iT (i ^ j.toNat)) else none
  | .band=>some (iT (PySem.Builtin.bitAnd i j))
  | .shl=>if 0<=j/\j<=1000/\i.natAbs<18446744073709551616 then some (iT (i*2 ^ j.toNat)) else none
 |none,some (.int k)=>match op with
  | .mul=>(x.mu M).bind λxs=>if 0<=k/\xs.length*k.toNat<=lim/\k<1000000 then some (lT (List.replicate k.toNat xs).flatten) else none
  |_=>none
 |none,none=>match op with
  | .add=>(match x,y with
   | .tup xs,.tup ys=>if xs≠[]/\xs.length+ys.length<=lim then some (.tup (xs++ys),T.lfs (xs++ys)) else none
   |x,y=>(x.mu M).bind λxs=>(y.mu M).bind λys=>if xs.length+ys.length<=lim then some (lT (xs++ys)) else none)
  |_=>none
 |_,_=>none
noncomputable def T.dct:T->Option (List (Int×V))
 | .ob (.dct kvs)=>some kvs
 |_=>none
noncomputable def inT(M:Mem)(x y:T):Option Bool:=match y.dct with
 |some kvs=>(match x with | .v (.int i)=>some (ZK kvs i)|_=>none)
 |none=>x.isV.bind λa=>(y.its M).bind λts=>(Zr ts).map λxs=>xs.any λz=>L2.eqV z a
noncomputable def zO(M:Mem)(op:COp)(x y:T):Option Bool:=match op with
 | .eq=>eqT M 4 x y
 | .ne=>(eqT M 4 x y).map (!·)
 | .inn=>inT M x y
 | .notin=>(inT M x y).map (!·)
 | .is=>match y.isV with|some .non=>some (match x.isV with|some .non=>true|_=>false)|some (.bl d)=>(match x.isV with|some (.bl c)=>some (c==d)|_=>none)|_=>none
 | .isnot=>match y.isV with|some .non=>some (match x.isV with|some .non=>false|_=>true)|some (.bl d)=>(match x.isV with|some (.bl c)=>some (!(c==d))|_=>none)|_=>none
 | .lt=>match x.isV,y.isV with|some (.int i),some (.int j)=>some (decide (i<j))|_,_=>none
 | .le=>match x.isV,y.isV with|some (.int i),some (.int j)=>some (decide (i<=j))|_,_=>none
 | .gt=>match x.isV,y.isV with|some (.int i),some (.int j)=>some (decide (j<i))|_,_=>none
 | .ge=>match x.isV,y.isV with|some (.int i),some (.int j)=>some (decide (j<=i))|_,_=>none
noncomputable def l5(as:List T)(f:T->Option TB):Option TB:=match as with
 | [a]=>f a
 |_=>none
theorem zf{as:List T}{f:T->Option TB}{r:TB}(e:l5 as f=some r):∃a,as=[a]/\f a=some r:=by
 unfold l5 at e;split at e
 ·exact⟨_,rfl,e⟩
 ·cases e
noncomputable def twoT(as:List T)(f:Int->Int->Option TB):Option TB:=match as with
 | [a,b]=>(match a with
  | .v (.int i)=>(match b with | .v (.int j)=>f i j|_=>none)
  |_=>none)
 |_=>none
theorem twoT_inv{as:List T}{f:Int->Int->Option TB}{r:TB}(e:twoT as f=some r):∃i j,as=[.v (.int i),.v (.int j)]/\f i j=some r:=by
 unfold twoT at e;split at e
 ·split at e
  ·split at e
   ·exact⟨_,_,rfl,e⟩
   ·cases e
  ·cases e
 ·cases e
noncomputable def QV(f:T->Option PySem.PyData):List T->Option (List PySem.PyData)
 | []=>some []
 |x::r=>(f x).bind λd=>(QV f r).map λds=>d::ds
noncomputable def L6(M:Mem):Nat->T->Option PySem.PyData
 | 0,t=>match t with | .v x=>qAg x|_=>none
 |n+1,t=>match t with
  | .v x=>qAg x
  | .tup ts=>(QV (L6 M n) ts).map .tuple
  | .lst ts=>(QV (L6 M n) ts).map .list
  | .fz ts=>(QV (L6 M n) ts).map .list
  | .cell k=>(M[k]?).bind λts=>(QV (L6 M n) ts).map .list
  | .ob (.dct [])=>some (.dict [])
  | .ob _=>none
noncomputable def r6(M:Mem)(t:T):Option PySem.PyData:=L6 M 5 t
noncomputable def zg(M:Mem):BF->List T->Option TB
 | .len,as=>l5 as λa=>(a.its M).map λxs=>iT xs.length
 | .sum,as=>l5 as λa=>(a.lis M).bind λxs=>(jZ xs).map λis=>iT is.sum
 | .all,as=>l5 as λa=>(a.lis M).bind λxs=>(zX xs).map λbs=>bT (bs.all id)
 | .any,as=>l5 as λa=>(a.lis M).bind λxs=>(zX xs).map λbs=>bT (bs.any id)
 | .max,as=>twoT as λi j=>some (iT (if j>i then j else i))
 | .min,as=>twoT as λi j=>some (iT (if j<i then j else i))
 | .list,as=>l5 as λa=>(a.its M).map lT
 | .tuple,as=>l5 as λa=>(match a with | .tup xs=>some (.tup xs,T.lfs xs)|a=>(a.lis M).map λxs=>(.tup xs,T.lfs xs))
 | .bits,as=>l5 as λa=>(match a with | .v (.int i)=>some (iT ((PySem.Builtin.Int.intBits i:Nat):Int))|_=>none)
 | .repr,as=>l5 as λa=>((r6 M a).bind P7).map λv=>(.v v,true)
noncomputable def T.isC(n:Nat):T->Bool | .cell k=>decide (k=n)|_=>false
noncomputable def C3:Mt->Nat->List T->Mem->Option (TB×Mem)
 | .popAt,n,[.v (.int i)],M=>(M[n]?).bind λxs=>if xs.length<=lim then (ixN xs.length i).bind λk=>(xs[k]?).map λy=>((y,y.lf),M.set n (xs.eraseIdx k)) else none
 | .ins,n,[.v (.int i),t],M=>(M[n]?).bind λxs=>if 0<=i/\i<=xs.length/\xs.length<lim then some ((.v .non,true),M.set n (xs.take i.toNat++t::xs.drop i.toNat)) else none
 |_,_,_,_=>none
noncomputable def qk(M:Mem):T->Option String
 | .v .non=>some "NoneType"
 | .v (.bl _)=>some "bool"
 | .v (.int _)=>some "int"
 | .v (.str _)=>some "str"
 | .v _=>none
 | .tup _=>some "tuple"
 | .cell n=>(M[n]?).map λ_=>"list"
 | .ob (.dct _)=>some "dict"
 | .ob _=>none
 |_=>some "list"
noncomputable def T.fv:T->Option V
 | .v x=>some x
 |_=>none
noncomputable def T.tx:T->Option PySem.Str
 | .v (.str y)=>some y
 |_=>none
noncomputable def JW:List T->Option (List PySem.Str)
 | []=>some []
 | .v (.str y)::r=>(JW r).map (y::·)
 |_::_=>none
noncomputable def Qb(M:Mem)(x y:T):Option TB:=match y with
 | .v (.int i)=>(x.its M).bind λxs=>(ixN xs.length i).bind λj=>(xs[j]?).map λt=>(t,t.lf)
 |_=>none
noncomputable def qE4:List Nat->List T->TS->Option TS
 | [],[],σ=>some σ
 |i::is,x::xs,σ=>qE4 is xs (σ.set i (some x))
 |_,_,_=>none
noncomputable def zF:Tg->T->TS->Option TS
 | .name i,t,σ=>some (σ.set i (some t))
 | .tup is,.tup ts,σ=>qE4 is ts σ
 | .tup _,_,_=>none
noncomputable def jx(src:List (Option Nat))(σ:TS):TS:=src.map λo=>match o with|none=>none|some j=>(σ[j]?).join
noncomputable def qo(lo:Int)(n:Nat):List T:=(List.range n).map λ(i:Nat)=>.v (.int (lo+(i:Int)))
noncomputable def C5(M:Mem):T->Option (List T×jT)
 | .lst ts=>some (ts,[])
 | .fz ts=>some (ts,[])
 | .tup ts=>some (ts,[])
 | .cell n=>(M[n]?).map λts=>(ts,[(n,ts)])
 |_=>none
noncomputable def C7(M:Mem):T->Option (List T×jT)
 | .lst ts=>some (ts,[])
 | .fz ts=>some (ts,[])
 | .cell n=>(M[n]?).map λts=>(ts,[(n,ts)])
 |_=>none
noncomputable def qP(d:jT)(g:Tg)(c:TS->Mem->PR (Bool×Mem))(e:TS->Mem->PR (TB×Mem)):List T->List T->Bool->TS->Mem->PR (TB×Mem)
 | [],ys,f,_,M=>.ok ((.lst ys,f),M)
 |x::r,ys,f,σ,M=>match zF g x σ with
  |some σ1=>(c σ1 M).bind λ(b,M2)=>
   if b then (e σ1 M2).bind λ(y,M3)=>if ys.length<lim/\qY d M3=true then qP d g c e r (ys++[y.1]) (f&&y.2) σ1 M3 else .stuck
   else if qY d M2=true then qP d g c e r ys f σ1 M2 else .stuck
  |none=>.stuck
noncomputable def pB(r:PR (TB×Mem)):PR (Bool×Mem):=r.bind λ(x,M)=>match x.1 with | .v (.bl b)=>.ok (b,M)|_=>.stuck
section
variable (gl:List T)(P:Nat->List T->Mem->PR (TB×Mem))
mutual
noncomputable def pe:E->TS->Mem->PR (TB×Mem)
 | .var i=>λσ M=>match σ[i]? with|some (some t)=>.ok ((t,t.lf),M)|_=>.stuck
 | .cst v=>λ_ M=>if flat v then .ok ((.v v,true),M) else .stuck
 | .glob g=>λ_ M=>match gl[g]? with|some t=>.ok ((t,t.lf),M)|none=>.stuck
 | .bin op a b=>λσ M=>(pe a σ M).bind λ(x,M1)=>(pe b σ M1).bind λ(y,M2)=>(PR.ofO (qr M2 op x.1 y.1)).bind λr=>.ok (r,M2)
 | .neg a=>λσ M=>(pe a σ M).bind λ(x,M1)=>match x.1 with | .v (.int i)=>.ok (iT (-i),M1)|_=>.stuck
 | .cmp op a b=>λσ M=>(pe a σ M).bind λ(x,M1)=>(pe b σ M1).bind λ(y,M2)=>(PR.ofO (zO M2 op x.1 y.1)).bind λr=>.ok (bT r,M2)
 | .cmp2 o1 o2 a b c=>λσ M=>(pe a σ M).bind λ(x,M1)=>(pe b σ M1).bind λ(y,M2)=>(PR.ofO (zO M2 o1 x.1 y.1)).bind λr=>
  if r then (pe c σ M2).bind λ(z,M3)=>(PR.ofO (zO M3 o2 y.1 z.1)).bind λr=>.ok (bT r,M3) else .ok (bT false,M2)
 | .and a b=>λσ M=>(pB (pe a σ M)).bind λ(x,M1)=>if x then pe b σ M1 else .ok (bT false,M1)
 | .or a b=>λσ M=>(pB (pe a σ M)).bind λ(x,M1)=>if x then .ok (bT true,M1) else pe b σ M1
 | .not a=>λσ M=>(pB (pe a σ M)).bind λ(x,M1)=>.ok (bT (!x),M1)
 | .ite c a b=>λσ M=>(pB (pe c σ M)).bind λ(x,M1)=>if x then pe a σ M1 else pe b σ M1
 | .call f as=>λσ M=>(pes as σ M).bind λ(xs,M1)=>(P f (xs.map (·.1)) M1).nx
 | .blt f as=>λσ M=>(pes as σ M).bind λ(xs,M1)=>(PR.ofO (zg M1 f (xs.map (·.1)))).bind λr=>.ok (r,M1)
 | .isi a ts=>λσ M=>(pe a σ M).bind λ(x,M1)=>(PR.ofO (qk M1 x.1)).bind λt=>.ok (bT (ts.any (zE t)),M1)
 | .idx a b=>λσ M=>(pe a σ M).bind λ(x,M1)=>(pe b σ M1).bind λ(y,M2)=>(PR.ofO (Qb M2 x.1 y.1)).bind λr=>.ok (r,M2)
 | .sl a lo hi=>λσ M=>(pe a σ M).bind λ(x,M1)=>(pes lo σ M1).bind λ(l,M2)=>(pes hi σ M2).bind λ(u,M3)=>
  (PR.ofO (x.1.its M3)).bind λxs=>(PR.ofO (zD (l.map (·.1)))).bind λl=>(PR.ofO (zD (u.map (·.1)))).bind λu=>(PR.ofO (Jb x.1 xs l.head? u.head?)).bind λr=>.ok (r,M3)
 | .lst as=>λσ M=>(pes as σ M).bind λ(xs,M1)=>if xs.length<=lim then .ok ((.lst (xs.map (·.1)),xs.all (·.2)),M1) else .stuck
 | .tup as=>λσ M=>(pes as σ M).bind λ(xs,M1)=>if xs.length<=lim then .ok ((.tup (xs.map (·.1)),xs.all (·.2)),M1) else .stuck
 | .comp it src g c e=>λσ M=>(pei it σ M).bind λ(s,M1)=>qP s.2 g (pec c) (pe e) s.1 [] true (jx src σ) M1
 | .app a b=>λσ M=>(pe a σ M).bind λ(x,M1)=>match x.1 with
  | .cell n=>(pe b σ M1).bind λ(y,M2)=>match M2[n]? with
   |some xs=>if xs.length<lim then .ok ((.v .non,true),M2.set n (xs++[y.1])) else .stuck
   |none=>.stuck
  |_=>.stuck
 | .txu o a=>λσ M=>(pe a σ M).bind λ(x,M1)=>(PR.ofO (x.1.fv.bind (G2 o))).bind λv=>.ok ((.v v,true),M1)
 | .join a=>λσ M=>(pe a σ M).bind λ(x,M1)=>(PR.ofO (x.1.lis M1)).bind λxs=>(PR.ofO (JW xs)).bind λys=>if ys.length<=1000/\(ys.all λy=>decide (y.length<=1000))=true then .ok ((.v (.str (PySem.Txt.join (PySem.Str.ofString "") ys)),true),M1) else .stuck
 | .lrng a=>λσ M=>(pe a σ M).bind λ(x,M1)=>match x.1 with | .v (.int j)=>if -1000000<=j/\j<=100000 then .ok ((.lst (qo 0 j.toNat),true),M1) else .stuck|_=>.stuck
 | .dnew=>λ_ M=>.ok ((.ob (.dct []),true),M)
 | .meth m a as=>λσ M=>(pe a σ M).bind λ(x,M1)=>match x.1 with
  | .cell n=>(pes as σ M1).bind λ(ys,M2)=>PR.ofO (C3 m n (ys.map (·.1)) M2)
  |_=>.stuck
noncomputable def pes:Es->TS->Mem->PR (List TB×Mem)
 | .nil=>λ_ M=>.ok ([],M)
 | .cons a as=>λσ M=>(pe a σ M).bind λ(x,M1)=>(pes as σ M1).bind λ(xs,M2)=>.ok (x::xs,M2)
noncomputable def pec:Es->TS->Mem->PR (Bool×Mem)
 | .nil=>λ_ M=>.ok (true,M)
 | .cons a _=>λσ M=>pB (pe a σ M)
noncomputable def pei:Itr->TS->Mem->PR ((List T×jT)×Mem)
 | .list a=>λσ M=>(pe a σ M).bind λ(x,M1)=>(PR.ofO (C5 M1 x.1)).bind λs=>.ok (s,M1)
 | .rng1 a=>λσ M=>(pe a σ M).bind λ(x,M1)=>match x.1 with | .v (.int j)=>if -1000000<=j/\j<=1000000 then .ok ((qo 0 j.toNat,[]),M1) else .stuck|_=>.stuck
 | .rng2 a b=>λσ M=>(pe a σ M).bind λ(x,M1)=>(pe b σ M1).bind λ(y,M2)=>match x.1,y.1 with
  | .v (.int i),.v (.int j)=>if (-1000000<=i/\i<=1000000)/\-1000000<=j/\j<=1000000 then .ok ((qo i (j-i).toNat,[]),M2) else .stuck
  |_,_=>.stuck
 | .zip a b=>λσ M=>(pe a σ M).bind λ(x,M1)=>(pe b σ M1).bind λ(y,M2)=>(PR.ofO (C7 M2 x.1)).bind λs=>(PR.ofO (C7 M2 y.1)).bind λt=>
  .ok ((List.zipWith (λa b=>T.tup [a,b]) s.1 t.1,s.2++t.2),M2)
 | .revd a=>λσ M=>(pe a σ M).bind λ(x,M1)=>(PR.ofO (C7 M1 x.1)).bind λs=>.ok ((s.1.reverse,s.2),M1)
end
inductive PO|nx(σ:TS)|rt(t:TB)|bk(σ:TS)|ct(σ:TS)
noncomputable abbrev RSt:=PR (PO×Mem)
noncomputable def zQ(d:jT)(g:Tg)(b:TS->Mem->RSt):List T->TS->Mem->RSt
 | [],σ,M=>.ok (.nx σ,M)
 |x::r,σ,M=>match zF g x σ with
  |some σ1=>(b σ1 M).bind λ(o,M2)=>match o with
   | .nx σ2=>if qY d M2=true then zQ d g b r σ2 M2 else .stuck
   | .ct σ2=>if qY d M2=true then zQ d g b r σ2 M2 else .stuck
   | .bk σ2=>.ok (.nx σ2,M2)
   | .rt t=>.ok (.rt t,M2)
  |none=>.stuck
noncomputable def Qa(d:jT)(f x:Nat)(l:T):List T->List (Int×V)->TS->Mem->RSt
 | [],_,σ,M=>.ok (.nx σ,M)
 |t::r,ks,σ,M=>(P f [l,t] M).nx.bind λ(y,M2)=>match y.1 with
  | .v (.bl false)=>.ok (.rt (bT false),M2)
  | .v (.bl true)=>match t with
   | .tup [.v (.int p),.v (.int q)]=>if qY d M2=true/\ks.length+1<lim then (if ZK ks p||ZK ks q then .ok (.rt (bT false),M2) else Qa d f x l r (jv (jv ks p (.bl true)) q (.bl true)) (σ.set x (some t)) M2) else .stuck
   |_=>.stuck
  |_=>.stuck
mutual
noncomputable def thaw(n:Nat):T->T×Mem
 | .lst ts=>let r:=QY n ts;(.cell (n+r.2.length),r.2++[r.1])
 | .tup ts=>let r:=QY n ts;(.tup r.1,r.2)
 |t=>(t,[])
noncomputable def QY(n:Nat):List T->List T×Mem
 | []=>([],[])
 |t::ts=>let r:=thaw n t;let q:=QY (n+r.2.length) ts;(r.1::q.1,r.2++q.2)
end
noncomputable def qDB:E->Bool
 | .bin .add _ _=>true
 | .lst _=>true
 |_=>false
variable (C:List Nat)
mutual
noncomputable def px:S->TS->Mem->RSt
 | .asg g e=>λσ M=>(pe gl P e σ M).bind λ(x,M1)=>match g with
  | .name i=>if C.contains i&&x.2 then .ok (.nx (σ.set i (some (thaw M1.length x.1).1)),M1++(thaw M1.length x.1).2) else if C.contains (i+1000)&&qDB e then (match x.1 with | .lst ts=>.ok (.nx (σ.set i (some (.cell M1.length))),M1++[ts])|_=>.stuck) else .ok (.nx (σ.set i (some x.1)),M1)
  |g=>match zF g x.1 σ with|some σ1=>.ok (.nx σ1,M1)|none=>.stuck
 | .put o i v=>λσ M=>(pe gl P v σ M).bind λ(x,M1)=>(pe gl P o σ M1).bind λ(p,M2)=>(pe gl P i σ M2).bind λ(k,M3)=>match p.1,k.1 with
  | .cell n,.v (.int k)=>match M3[n]? with
   |some xs=>match ixN xs.length k with|some j=>.ok (.nx σ,M3.set n (xs.set j x.1))|none=>.stuck
   |none=>.stuck
  |_,_=>.stuck
 | .expr e=>λσ M=>(pe gl P e σ M).bind λ(_,M1)=>.ok (.nx σ,M1)
 | .ret e=>λσ M=>(pe gl P e σ M).bind λ(x,M1)=>.ok (.rt x,M1)
 | .ifs c t u=>λσ M=>(pB (pe gl P c σ M)).bind λ(x,M1)=>if x then pxs t σ M1 else pxs u σ M1
 | .for_ g it b=>λσ M=>(pei gl P it σ M).bind λ(s,M1)=>zQ s.2 g (pxs b) s.1 σ M1
 | .stop=>λ_ _=>.stuck
 | .xexpr f as=>λσ M=>(pes gl P as σ M).bind λ(xs,M1)=>(P f (xs.map (·.1)) M1).bind λ(_,M2)=>.ok (.nx σ,M2)
 | .nloop u x f i a=>λσ M=>if u=i\/x=i\/u=x\/σ.length<=u\/σ.length<=x then .stuck else (pei gl P (.list a) (σ.set u none) M).bind λ(s,M1)=>match σ[i]? with|some (some l)=>Qa P s.2 f x l s.1 [] (σ.set u none) M1|_=>.stuck
 | .raise c=>λ_ M=>.exc c M
 | .tryK b e i m ks=>λσ M=>match px b σ M with
  | .exc c M1=>if c<m then .ok (.nx ((σ.set i (some (.lst (ks.map λk=>.v (.bl (ZP c k)))))).set e none),M1) else .stuck
  |r=>r
 | .xret f as=>λσ M=>(pes gl P as σ M).bind λ(xs,M1)=>(P f (xs.map (·.1)) M1).bind λ(y,M2)=>.ok (.rt y,M2)
 | .xrn o f as=>λσ M=>(pes gl P as σ M).bind λ(xs,M1)=>(P f (xs.map (·.1)) M1).bind λ(y,M2)=>(PR.ofO (zO M2 o y.1 (.v .non))).bind λr=>.ok (.rt (bT r),M2)
noncomputable def pxs:Ss->TS->Mem->RSt
 | .nil=>λσ M=>.ok (.nx σ,M)
 | .cons s r=>λσ M=>(px s σ M).bind λ(o,M1)=>match o with
  | .nx σ1=>pxs r σ1 M1
  |o=>.ok (o,M1)
end
end
noncomputable def qT(M:Mem)(n0:Nat):Nat->T->Option T
 | 0,t=>if t.und n0 then some t else none
 |d+1,t=>if t.und n0 then some t else match t with
  | .lst ts=>(ts.mapM (qT M n0 d)).map .lst
  | .tup ts=>(ts.mapM (qT M n0 d)).map .tup
  | .cell n=>(M[n]?).bind λts=>(ts.mapM (qT M n0 d)).map .lst
  |_=>none
noncomputable def jU(M:Mem)(n0:Nat):Nat->T->Option (List Nat)
 | 0,t=>if t.lf then some [] else none
 |d+1,t=>if t.lf then some [] else match t with
  | .tup ts=>(ts.mapM (jU M n0 d)).map List.flatten
  | .cell n=>if n0<=n then (M[n]?).bind λts=>(ts.mapM (jU M n0 d)).map λl=>l.flatten++[n] else none
  |_=>none
noncomputable def frR(M:Mem)(n0:Nat)(t:T):Bool:=match jU M n0 6 t with|some l=>decide l.Nodup|none=>false
noncomputable def finish(n0:Nat)(x:TB)(M:Mem):PR (TB×Mem):=
 if M.length=n0 then .ok (x,M) else if (M.take n0).all (T.unds n0) then (PR.ofO (qT M n0 6 x.1)).bind λt=>.ok ((t,x.2||frR M n0 x.1),M.take n0) else .stuck
noncomputable def JB(n0:Nat):RSt->PR (TB×Mem)
 | .ok (.nx _,M1)=>finish n0 (.v .non,true) M1
 | .ok (.rt t,M1)=>finish n0 t M1
 | .ok (_,_)=>.stuck
 | .exc c M1=>if M1.length=n0 then .exc c M1 else if (M1.take n0).all (T.unds n0) then .exc c (M1.take n0) else .stuck
 | .stuck=>.stuck
noncomputable def Pk(gl:List T)(tb:List Fn)(Cs:List (List Nat)):Nat->Nat->List T->Mem->PR (TB×Mem)
 | 0,_,_,_=>.stuck
 |k+1,f,vs,M=>match tb[f]? with
  |some d=>if vs.length=d.npar/\d.npar<=d.nslot then JB M.length (pxs gl (Pk gl tb Cs k) (Cs.getD f []) d.body (vs.map some++List.replicate (d.nslot-d.npar) none) M)
   else .stuck
  |none=>.stuck
def zu{α β:Type}(R:α->β->Prop):List α->List β->Prop
 | [],vs=>vs=[]
 |t::ts,vs=>∃v vs',vs=v::vs'/\R t v/\zu R ts vs'
section
variable{α β:Type}{R:α->β->Prop}
theorem qE:∀{xs:List α}{ys:List β},zu R xs ys->xs.length=ys.length
 | [],_,h=>by cases h;rfl
 |x::xs,_,⟨v,vs,rfl,_,h⟩=>by simp[qE h]
theorem zL:∀{xs:List α}{ys:List β}{i:Nat}{x:α},zu R xs ys->xs[i]?=some x->∃y,ys[i]?=some y/\R x y
 | [],_,i,x,h,e=>by simp at e
 |x::xs,_,0,x',⟨v,vs,rfl,r,h⟩,e=>⟨v,rfl,by simp at e;subst e;exact r⟩
 |x::xs,_,i+1,x',⟨v,vs,rfl,r,h⟩,e=>by
  obtain⟨y,e1,r1⟩:=zL (i:=i) h (by simpa using e);exact⟨y,by simpa using e1,r1⟩
theorem zP:∀{xs:List α}{ys:List β}{xs':List α}{ys':List β},zu R xs ys->zu R xs' ys'->zu R (xs++xs') (ys++ys')
 | [],_,_,_,h,k=>by cases h;exact k
 |x::xs,_,_,_,⟨v,vs,rfl,r,h⟩,k=>⟨v,vs++_,rfl,r,zP h k⟩
theorem zh:∀(n:Nat){xs:List α}{ys:List β},zu R xs ys->zu R (xs.take n) (ys.take n)
 | 0,_,_,_=>by simp[zu]
 |n+1,[],_,h=>by cases h;simp[zu]
 |n+1,x::xs,_,⟨v,vs,rfl,r,h⟩=>⟨v,vs.take n,rfl,r,zh n h⟩
theorem ju:∀(n:Nat){xs:List α}{ys:List β},zu R xs ys->zu R (xs.drop n) (ys.drop n)
 | 0,_,_,h=>h
 |n+1,[],_,h=>by cases h;simp[zu]
 |n+1,x::xs,_,⟨v,vs,rfl,r,h⟩=>ju n h
theorem zN:∀{xs:List α}{ys:List β}(j:Nat){x:α}{y:β},zu R xs ys->R x y->zu R (xs.set j x) (ys.set j y)
 | [],_,j,_,_,h,r=>by cases h;simp[zu]
 |x::xs,_,0,_,_,⟨v,vs,rfl,r0,h⟩,r=>⟨_,vs,rfl,r,h⟩
 |x::xs,_,j+1,_,_,⟨v,vs,rfl,r0,h⟩,r=>⟨v,vs.set j _,rfl,r0,zN j h r⟩
theorem v7(n:Nat){xs:List α}{ys:List β}(h:zu R xs ys):zu R (List.replicate n xs).flatten (List.replicate n ys).flatten:=by
 induction n with
 |zero=>simp[zu]
 |succ n ih=>simp only[List.replicate_succ,List.flatten_cons];exact zP h ih
theorem ZC{S:α->β->Prop}(f:∀x y,R x y->S x y):∀{xs:List α}{ys:List β},zu R xs ys->zu S xs ys
 | [],_,h=>h
 |x::xs,_,⟨v,vs,rfl,r,h⟩=>⟨v,vs,rfl,f _ _ r,ZC f h⟩
end
mutual
def Rep(A X:List Nat)(h:AH):T->V->Prop
 | .v x,w=>w=x/\flat x=true
 | .cell n,w=>∃a:Nat,A[n]?=some a/\w=.ref a
 | .fz ts,w=>∃a vs,w=.ref a/\a∉X/\h[a]?=some (.lst true vs)/\qL A X h ts vs
 | .lst ts,w=>∃a vs,w=.ref a/\a∉X/\h[a]?=some (.lst false vs)/\qL A X h ts vs
 | .tup ts,w=>∃a vs,w=.ref a/\a∉X/\h[a]?=some (.tup vs)/\qL A X h ts vs
 | .ob o,w=>∃a,w=.ref a/\a∉X/\h[a]?=some (.ob o)
def qL(A X:List Nat)(h:AH):List T->List V->Prop
 | [],vs=>vs=[]
 |t::ts,vs=>∃v vs',vs=v::vs'/\Rep A X h t v/\qL A X h ts vs'
end
theorem reps_iff{A X:List Nat}{h:AH}:∀{ts:List T}{vs:List V},qL A X h ts vs↔zu (Rep A X h) ts vs
 | [],vs=>by unfold qL zu;rfl
 |t::ts,vs=>by
  unfold qL zu;constructor
  ·rintro⟨v,vs',e,r,k⟩;exact⟨v,vs',e,r,reps_iff.mp k⟩
  ·rintro⟨v,vs',e,r,k⟩;exact⟨v,vs',e,r,reps_iff.mpr k⟩
mutual
def FP(X:List Nat)(h:AH):T->V->List Nat->Prop
 | .v x,w,fp=>(w=x/\flat x=true)/\fp=[]
 | .lst ts,w,fp=>∃a vs f,w=.ref a/\a∉X/\h[a]?=some (.lst false vs)/\FPs X h ts vs f/\fp=f++[a]
 | .tup ts,w,fp=>∃a vs,w=.ref a/\a∉X/\h[a]?=some (.tup vs)/\FPs X h ts vs fp
 | .ob o,w,fp=>(∃a,w=.ref a/\a∉X/\h[a]?=some (.ob o))/\fp=[]
 | .fz _,_,_=>False
 | .cell _,_,_=>False
def FPs(X:List Nat)(h:AH):List T->List V->List Nat->Prop
 | [],vs,fp=>vs=[]/\fp=[]
 |t::ts,vs,fp=>∃v vs' f1 f2,vs=v::vs'/\FP X h t v f1/\FPs X h ts vs' f2/\fp=f1++f2
end
mutual
theorem qz{A X A' X':List Nat}{h h':AH}(hc:∀(n:Nat) a,A[n]?=some a->A'[n]?=some a)(hn:∀a o,a∉X->h[a]?=some o->a∉X'/\h'[a]?=some o):∀(t:T){w:V},Rep A X h t w->Rep A' X' h' t w
 | .v x,w,r=>by unfold Rep at r ⊢;exact r
 | .cell n,w,r=>by unfold Rep at r ⊢;obtain⟨a,e,q⟩:=r;exact⟨a,hc _ _ e,q⟩
 | .fz ts,w,r=>by unfold Rep at r ⊢;obtain⟨a,vs,e,q1,q2,q3⟩:=r;exact⟨a,vs,e,(hn _ _ q1 q2).1,(hn _ _ q1 q2).2,qR hc hn ts q3⟩
 | .lst ts,w,r=>by unfold Rep at r ⊢;obtain⟨a,vs,e,q1,q2,q3⟩:=r;exact⟨a,vs,e,(hn _ _ q1 q2).1,(hn _ _ q1 q2).2,qR hc hn ts q3⟩
 | .tup ts,w,r=>by unfold Rep at r ⊢;obtain⟨a,vs,e,q1,q2,q3⟩:=r;exact⟨a,vs,e,(hn _ _ q1 q2).1,(hn _ _ q1 q2).2,qR hc hn ts q3⟩
 | .ob o,w,r=>by unfold Rep at r ⊢;obtain⟨a,e,q1,q2⟩:=r;exact⟨a,e,(hn _ _ q1 q2).1,(hn _ _ q1 q2).2⟩
theorem qR{A X A' X':List Nat}{h h':AH}(hc:∀(n:Nat) a,A[n]?=some a->A'[n]?=some a)(hn:∀a o,a∉X->h[a]?=some o->a∉X'/\h'[a]?=some o):∀(ts:List T){ws:List V},qL A X h ts ws->qL A' X' h' ts ws
 | [],w,r=>by unfold qL at r ⊢;exact r
 |t::ts,w,r=>by unfold qL at r ⊢;obtain⟨v,vs,e,q1,q2⟩:=r;exact⟨v,vs,e,qz hc hn t q1,qR hc hn ts q2⟩
end
mutual
theorem Qj{X X':List Nat}{h h':AH}(hn:∀a o,a∉X->h[a]?=some o->a∉X'/\h'[a]?=some o):∀(t:T){w:V}{fp:List Nat},FP X h t w fp->FP X' h' t w fp
 | .v x,w,_,r=>by unfold FP at r ⊢;exact r
 | .cell n,w,_,r=>by unfold FP at r;exact r.elim
 | .fz ts,w,_,r=>by unfold FP at r;exact r.elim
 | .lst ts,w,_,r=>by unfold FP at r ⊢;obtain⟨a,vs,f,e,q1,q2,q3,q4⟩:=r;exact⟨a,vs,f,e,(hn _ _ q1 q2).1,(hn _ _ q1 q2).2,zq hn ts q3,q4⟩
 | .tup ts,w,_,r=>by unfold FP at r ⊢;obtain⟨a,vs,e,q1,q2,q3⟩:=r;exact⟨a,vs,e,(hn _ _ q1 q2).1,(hn _ _ q1 q2).2,zq hn ts q3⟩
 | .ob o,w,_,r=>by unfold FP at r ⊢;obtain⟨⟨a,e,q1,q2⟩,q3⟩:=r;exact⟨⟨a,e,(hn _ _ q1 q2).1,(hn _ _ q1 q2).2⟩,q3⟩
theorem zq{X X':List Nat}{h h':AH}(hn:∀a o,a∉X->h[a]?=some o->a∉X'/\h'[a]?=some o):∀(ts:List T){ws:List V}{fp:List Nat},FPs X h ts ws fp->FPs X' h' ts ws fp
 | [],w,_,r=>by unfold FPs at r ⊢;exact r
 |t::ts,w,_,r=>by unfold FPs at r ⊢;obtain⟨v,vs,f1,f2,e,q1,q2,q3⟩:=r;exact⟨v,vs,f1,f2,e,Qj hn t q1,zq hn ts q2,q3⟩
end
mutual
theorem qED{A X:List Nat}{h:AH}:∀(t:T){w:V}{fp:List Nat},FP X h t w fp->Rep A X h t w
 | .v x,w,_,r=>by unfold FP at r;unfold Rep;exact r.1
 | .cell n,w,_,r=>by unfold FP at r;exact r.elim
 | .fz ts,w,_,r=>by unfold FP at r;exact r.elim
 | .lst ts,w,_,r=>by unfold FP at r;unfold Rep;obtain⟨a,vs,f,e,q1,q2,q3,q4⟩:=r;exact⟨a,vs,e,q1,q2,F6 ts q3⟩
 | .tup ts,w,_,r=>by unfold FP at r;unfold Rep;obtain⟨a,vs,e,q1,q2,q3⟩:=r;exact⟨a,vs,e,q1,q2,F6 ts q3⟩
 | .ob o,w,_,r=>by unfold FP at r;unfold Rep;exact r.1
theorem F6{A X:List Nat}{h:AH}:∀(ts:List T){ws:List V}{fp:List Nat},FPs X h ts ws fp->qL A X h ts ws
 | [],w,_,r=>by unfold FPs at r;unfold qL;exact r.1
 |t::ts,w,_,r=>by unfold FPs at r;unfold qL;obtain⟨v,vs,f1,f2,e,q1,q2,q3⟩:=r;exact⟨v,vs,e,qED t q1,F6 ts q2⟩
end
mutual
theorem qAf{X:List Nat}{h:AH}(n:Nat):∀(t:T){w:V}{fp:List Nat},FP X h t w fp->t.und n=true
 | .v x,w,_,r=>rfl
 | .cell n,w,_,r=>by unfold FP at r;exact r.elim
 | .fz ts,w,_,r=>by unfold FP at r;exact r.elim
 | .lst ts,w,_,r=>by unfold FP at r;obtain⟨a,vs,f,e,q1,q2,q3,q4⟩:=r;exact F4 n ts q3
 | .tup ts,w,_,r=>by unfold FP at r;obtain⟨a,vs,e,q1,q2,q3⟩:=r;exact F4 n ts q3
 | .ob o,w,_,r=>rfl
theorem F4{X:List Nat}{h:AH}(n:Nat):∀(ts:List T){ws:List V}{fp:List Nat},FPs X h ts ws fp->T.unds n ts=true
 | [],w,_,r=>rfl
 |t::ts,w,_,r=>by unfold FPs at r;obtain⟨v,vs,f1,f2,e,q1,q2,q3⟩:=r;unfold T.unds;rw[qAf n t q1,F4 n ts q2];rfl
end
mutual
theorem K0{X:List Nat}{h:AH}:∀(t:T){w:V}{fp:List Nat},FP X h t w fp->∀a∈fp,a∉X/\∃vs,h[a]?=some (.lst false vs)
 | .v x,w,_,r=>by unfold FP at r;obtain⟨_,rfl⟩:=r;intro a ha;simp at ha
 | .cell n,w,_,r=>by unfold FP at r;exact r.elim
 | .fz ts,w,_,r=>by unfold FP at r;exact r.elim
 | .lst ts,w,_,r=>by
  unfold FP at r;obtain⟨a,vs,f,e,q1,q2,q3,rfl⟩:=r;intro b hb;rcases wC.mp hb with hb|hb
  ·exact QC ts q3 b hb
  ·simp at hb;subst hb;exact⟨q1,vs,q2⟩
 | .tup ts,w,_,r=>by unfold FP at r;obtain⟨a,vs,e,q1,q2,q3⟩:=r;exact QC ts q3
 | .ob o,w,_,r=>by unfold FP at r;obtain⟨_,rfl⟩:=r;intro a ha;simp at ha
theorem QC{X:List Nat}{h:AH}:∀(ts:List T){ws:List V}{fp:List Nat},FPs X h ts ws fp->∀a∈fp,a∉X/\∃vs,h[a]?=some (.lst false vs)
 | [],w,_,r=>by unfold FPs at r;obtain⟨_,rfl⟩:=r;intro a ha;simp at ha
 |t::ts,w,_,r=>by
  unfold FPs at r;obtain⟨v,vs,f1,f2,e,q1,q2,rfl⟩:=r;intro b hb;rcases wC.mp hb with hb|hb
  ·exact K0 t q1 b hb
  ·exact QC ts q2 b hb
end
mutual
theorem qCo{A X:List Nat}{h:AH}:∀(t:T){w:V},Rep A X h t w->t.lf=true->FP X h t w []
 | .v x,w,r,l=>by unfold Rep at r;unfold FP;exact⟨r,rfl⟩
 | .cell n,w,r,l=>by unfold T.lf at l;cases l
 | .fz ts,w,r,l=>by unfold T.lf at l;cases l
 | .lst ts,w,r,l=>by unfold T.lf at l;cases l
 | .tup ts,w,r,l=>by unfold Rep at r;unfold FP;obtain⟨a,vs,e,q1,q2,q3⟩:=r;exact⟨a,vs,e,q1,q2,Y6 ts q3 (by unfold T.lf at l;exact l)⟩
 | .ob o,w,r,l=>by unfold Rep at r;unfold FP;exact⟨r,rfl⟩
theorem Y6{A X:List Nat}{h:AH}:∀(ts:List T){ws:List V},qL A X h ts ws->T.lfs ts=true->FPs X h ts ws []
 | [],w,r,l=>by unfold qL at r;unfold FPs;exact⟨r,rfl⟩
 |t::ts,w,r,l=>by
  unfold qL at r;unfold FPs;obtain⟨v,vs,e,q1,q2⟩:=r;unfold T.lfs at l;simp only[Bool.and_eq_true]at l;exact⟨v,vs,[],[],e,qCo t q1 l.1,Y6 ts q2 l.2,rfl⟩
end
mutual
theorem f9{A X A1 X1:List Nat}{h:AH}{n0:Nat}(hc:∀n,n<n0->A1[n]?=A[n]?)(hX:∀a∈X,a∈X1):∀(t:T){w:V},Rep A1 X1 h t w->t.und n0=true->Rep A X h t w
 | .v x,w,r,u=>by unfold Rep at r ⊢;exact r
 | .cell n,w,r,u=>by
  unfold Rep at r ⊢;obtain⟨a,e,q⟩:=r;unfold T.und at u;exact⟨a,(hc n (by simpa using u)).symm.trans e,q⟩
 | .fz ts,w,r,u=>by unfold Rep at r ⊢;obtain⟨a,vs,e,q1,q2,q3⟩:=r;exact⟨a,vs,e,λz=>q1 (hX _ z),q2,jm hc hX ts q3 (by unfold T.und at u;exact u)⟩
 | .lst ts,w,r,u=>by unfold Rep at r ⊢;obtain⟨a,vs,e,q1,q2,q3⟩:=r;exact⟨a,vs,e,λz=>q1 (hX _ z),q2,jm hc hX ts q3 (by unfold T.und at u;exact u)⟩
 | .tup ts,w,r,u=>by unfold Rep at r ⊢;obtain⟨a,vs,e,q1,q2,q3⟩:=r;exact⟨a,vs,e,λz=>q1 (hX _ z),q2,jm hc hX ts q3 (by unfold T.und at u;exact u)⟩
 | .ob o,w,r,u=>by unfold Rep at r ⊢;obtain⟨a,e,q1,q2⟩:=r;exact⟨a,e,λz=>q1 (hX _ z),q2⟩
theorem jm{A X A1 X1:List Nat}{h:AH}{n0:Nat}(hc:∀n,n<n0->A1[n]?=A[n]?)(hX:∀a∈X,a∈X1):∀(ts:List T){ws:List V},qL A1 X1 h ts ws->T.unds n0 ts=true->qL A X h ts ws
 | [],w,r,u=>by unfold qL at r ⊢;exact r
 |t::ts,w,r,u=>by
  unfold qL at r ⊢;obtain⟨v,vs,e,q1,q2⟩:=r;unfold T.unds at u;simp only[Bool.and_eq_true]at u;exact⟨v,vs,e,f9 hc hX t q1 u.1,jm hc hX ts q2 u.2⟩
end
theorem jQ{x:V}{a:Nat}(h:flat x=true)(e:V.ref a=x):False:=by subst e;cases h
mutual
theorem V3{A X:List Nat}{h:AH}(nd:A.Nodup)(hs:∀a∈A,a∈X):∀(s t:T){w:V},Rep A X h s w->Rep A X h t w->s=t
 | .v x,t,w,r,q=>by
  unfold Rep at r;obtain⟨rfl,f⟩:=r;cases t with
  |v y=>unfold Rep at q;obtain⟨rfl,_⟩:=q;rfl
  |cell n=>unfold Rep at q;obtain⟨a,_,e⟩:=q;subst e;cases f
  |fz ts=>unfold Rep at q;obtain⟨a,vs,e,_⟩:=q;subst e;cases f
  |lst ts=>unfold Rep at q;obtain⟨a,vs,e,_⟩:=q;subst e;cases f
  |tup ts=>unfold Rep at q;obtain⟨a,vs,e,_⟩:=q;subst e;cases f
  |ob o=>unfold Rep at q;obtain⟨a,e,_⟩:=q;subst e;cases f
 | .cell n,t,w,r,q=>by
  unfold Rep at r;obtain⟨a,ea,rfl⟩:=r;have am:a∈X:=hs _ (List.mem_of_getElem? ea);cases t with
  |v y=>unfold Rep at q;obtain⟨e,f⟩:=q;exact(jQ f e).elim
  |cell m=>
   unfold Rep at q;obtain⟨b,eb,e⟩:=q;cases e;have:n=m:=(List.getElem?_inj (by exact(List.getElem?_eq_some_iff.mp ea).1) nd).mp (ea.trans eb.symm);rw[this]
  |fz ts=>unfold Rep at q;obtain⟨b,vs,e,k,_⟩:=q;cases e;exact(k am).elim
  |lst ts=>unfold Rep at q;obtain⟨b,vs,e,k,_⟩:=q;cases e;exact(k am).elim
  |tup ts=>unfold Rep at q;obtain⟨b,vs,e,k,_⟩:=q;cases e;exact(k am).elim
  |ob o=>unfold Rep at q;obtain⟨b,e,k,_⟩:=q;cases e;exact(k am).elim
 | .fz ss,t,w,r,q=>by
  unfold Rep at r;obtain⟨a,vs,rfl,k1,k2,k3⟩:=r;cases t with
  |v y=>unfold Rep at q;obtain⟨e,f⟩:=q;exact(jQ f e).elim
  |cell m=>unfold Rep at q;obtain⟨b,eb,e⟩:=q;cases e;exact(k1 (hs _ (List.mem_of_getElem? eb))).elim
  |fz ts=>unfold Rep at q;obtain⟨b,vs',e,z1,z2,z3⟩:=q;cases e;rw[k2]at z2;cases z2;rw[Qh nd hs ss ts k3 z3]
  |lst ts=>unfold Rep at q;obtain⟨b,vs',e,z1,z2,z3⟩:=q;cases e;rw[k2]at z2;cases z2
  |tup ts=>unfold Rep at q;obtain⟨b,vs',e,z1,z2,z3⟩:=q;cases e;rw[k2]at z2;cases z2
  |ob o=>unfold Rep at q;obtain⟨b,e,z1,z2⟩:=q;cases e;rw[k2]at z2;cases z2
 | .lst ss,t,w,r,q=>by
  unfold Rep at r;obtain⟨a,vs,rfl,k1,k2,k3⟩:=r;cases t with
  |v y=>unfold Rep at q;obtain⟨e,f⟩:=q;exact(jQ f e).elim
  |cell m=>unfold Rep at q;obtain⟨b,eb,e⟩:=q;cases e;exact(k1 (hs _ (List.mem_of_getElem? eb))).elim
  |lst ts=>unfold Rep at q;obtain⟨b,vs',e,z1,z2,z3⟩:=q;cases e;rw[k2]at z2;cases z2;rw[Qh nd hs ss ts k3 z3]
  |fz ts=>unfold Rep at q;obtain⟨b,vs',e,z1,z2,z3⟩:=q;cases e;rw[k2]at z2;cases z2
  |tup ts=>unfold Rep at q;obtain⟨b,vs',e,z1,z2,z3⟩:=q;cases e;rw[k2]at z2;cases z2
  |ob o=>unfold Rep at q;obtain⟨b,e,z1,z2⟩:=q;cases e;rw[k2]at z2;cases z2
 | .tup ss,t,w,r,q=>by
  unfold Rep at r;obtain⟨a,vs,rfl,k1,k2,k3⟩:=r;cases t with
  |v y=>unfold Rep at q;obtain⟨e,f⟩:=q;exact(jQ f e).elim
  |cell m=>unfold Rep at q;obtain⟨b,eb,e⟩:=q;cases e;exact(k1 (hs _ (List.mem_of_getElem? eb))).elim
  |tup ts=>unfold Rep at q;obtain⟨b,vs',e,z1,z2,z3⟩:=q;cases e;rw[k2]at z2;cases z2;rw[Qh nd hs ss ts k3 z3]
  |fz ts=>unfold Rep at q;obtain⟨b,vs',e,z1,z2,z3⟩:=q;cases e;rw[k2]at z2;cases z2
  |lst ts=>unfold Rep at q;obtain⟨b,vs',e,z1,z2,z3⟩:=q;cases e;rw[k2]at z2;cases z2
  |ob o=>unfold Rep at q;obtain⟨b,e,z1,z2⟩:=q;cases e;rw[k2]at z2;cases z2
 | .ob o,t,w,r,q=>by
  unfold Rep at r;obtain⟨a,rfl,k1,k2⟩:=r;cases t with
  |v y=>unfold Rep at q;obtain⟨e,f⟩:=q;exact(jQ f e).elim
  |cell m=>unfold Rep at q;obtain⟨b,eb,e⟩:=q;cases e;exact(k1 (hs _ (List.mem_of_getElem? eb))).elim
  |fz ts=>unfold Rep at q;obtain⟨b,vs',e,z1,z2,z3⟩:=q;cases e;rw[k2]at z2;cases z2
  |lst ts=>unfold Rep at q;obtain⟨b,vs',e,z1,z2,z3⟩:=q;cases e;rw[k2]at z2;cases z2
  |tup ts=>unfold Rep at q;obtain⟨b,vs',e,z1,z2,z3⟩:=q;cases e;rw[k2]at z2;cases z2
  |ob o'=>unfold Rep at q;obtain⟨b,e,z1,z2⟩:=q;cases e;rw[k2]at z2;cases z2;rfl
theorem Qh{A X:List Nat}{h:AH}(nd:A.Nodup)(hs:∀a∈A,a∈X):∀(ss ts:List T){ws:List V},qL A X h ss ws->qL A X h ts ws->ss=ts
 | [],[],w,r,q=>rfl
 | [],t::ts,w,r,q=>by unfold qL at r q;obtain⟨v,vs,e,_⟩:=q;subst r;cases e
 |s::ss,[],w,r,q=>by unfold qL at r q;obtain⟨v,vs,e,_⟩:=r;subst q;cases e
 |s::ss,t::ts,w,r,q=>by
  unfold qL at r q;obtain⟨v,vs,rfl,k1,k2⟩:=r;obtain⟨v',vs',e,z1,z2⟩:=q;cases e;rw[V3 nd hs s t k1 z1,Qh nd hs ss ts k2 z2]
end
mutual
theorem qDu:∀(s t:T),T.beq s t=true->s=t
 | .v x,.v y,h=>by unfold T.beq at h;simp at h;rw[h]
 | .cell x,.cell y,h=>by unfold T.beq at h;simp at h;rw[h]
 | .fz x,.fz y,h=>by unfold T.beq at h;rw[QI x y h]
 | .lst x,.lst y,h=>by unfold T.beq at h;rw[QI x y h]
 | .tup x,.tup y,h=>by unfold T.beq at h;rw[QI x y h]
 | .ob x,.ob y,h=>by unfold T.beq at h;simp at h;rw[h]
 | .ob _,.v _,h | .ob _,.cell _,h | .ob _,.fz _,h | .ob _,.lst _,h | .ob _,.tup _,h=>by simp[T.beq]at h
 | .v _,.ob _,h | .cell _,.ob _,h | .fz _,.ob _,h | .lst _,.ob _,h | .tup _,.ob _,h=>by simp[T.beq]at h
 | .v _,.cell _,h | .v _,.fz _,h | .v _,.lst _,h | .v _,.tup _,h=>by simp[T.beq]at h
 | .cell _,.v _,h | .cell _,.fz _,h | .cell _,.lst _,h | .cell _,.tup _,h=>by simp[T.beq]at h
 | .fz _,.v _,h | .fz _,.cell _,h | .fz _,.lst _,h | .fz _,.tup _,h=>by simp[T.beq]at h
 | .lst _,.v _,h | .lst _,.cell _,h | .lst _,.fz _,h | .lst _,.tup _,h=>by simp[T.beq]at h
 | .tup _,.v _,h | .tup _,.cell _,h | .tup _,.fz _,h | .tup _,.lst _,h=>by simp[T.beq]at h
theorem QI:∀(ss ts:List T),T.beqs ss ts=true->ss=ts
 | [],[],h=>rfl
 | [],_::_,h=>by simp[T.beqs]at h
 |_::_,[],h=>by simp[T.beqs]at h
 |s::ss,t::ts,h=>by unfold T.beqs at h;simp only[Bool.and_eq_true]at h;rw[qDu s t h.1,QI ss ts h.2]
end
def Frm(A:List Nat)(h h':AH):Prop:=h.length<=h'.length/\∀j,j<h.length->j∉A->h'[j]?=h[j]?
theorem Frm.refl(A:List Nat)(h:AH):Frm A h h:=⟨Nat.le_refl _,λ_ _ _=>rfl⟩
theorem Frm.trans{A:List Nat}{a b c:AH}(x:Frm A a b)(y:Frm A b c):Frm A a c:=⟨Nat.le_trans x.1 y.1,λj hj hA=>(y.2 j (wD hj x.1) hA).trans (x.2 j hj hA)⟩
theorem Frm.trans2{A B:List Nat}{a b c:AH}(x:Frm A a b)(hB:∀k∈B,a.length<=k)(y:Frm (A++B) b c):Frm A a c:=
 ⟨Nat.le_trans x.1 y.1,λj hj hA=>(y.2 j (wD hj x.1) (by rw[wC];rintro(z|z);exact hA z;have:=hB _ z;omega)).trans (x.2 j hj hA)⟩
theorem Frm.app(A:List Nat)(h e:AH):Frm A h (h++e):=⟨by simp,λj hj _=>by rw[List.getElem?_append_left hj]⟩
theorem Frm.set{A:List Nat}{h h':AH}(f:Frm A h h'){a:Nat}(ha:a∈A\/h.length<=a)(o:O):Frm A h (h'.set a o):=⟨by simpa using f.1,λj hj hA=>by
 rw[List.getElem?_set_ne (by rintro rfl;rcases ha with z|z;exact hA z;omega)];exact f.2 j hj hA⟩
theorem qJ{h:AH}{a:Nat}{o:O}(e:h[a]?=some o):a<h.length:=(List.getElem?_eq_some_iff.mp e).1
structure RelM(gl:List T)(A X:List Nat)(h:AH)(M:Mem):Prop where
 len:A.length=M.length
 nd:A.Nodup
 sub:∀a∈A,a∈X
 lt:∀a∈X,a<h.length
 at_:∀(n:Nat) a,A[n]?=some a->∃ts vs,M[n]?=some ts/\h[a]?=some (.lst false vs)/\qL A X h ts vs
 glo:∀(g:Nat) t,gl[g]?=some t->Rep A X h t (.ref g)
section
variable{gl:List T}{A X:List Nat}{h h':AH}{M:Mem}
theorem RelM.keepN(R:RelM gl A X h M)(f:Frm A h h'):∀a o,a∉X->h[a]?=some o->a∉X/\h'[a]?=some o:=λa o hx e=>⟨hx,(f.2 a (qJ e) λz=>hx (R.sub _ z)).trans e⟩
theorem RelM.keep(R:RelM gl A X h M)(f:Frm A h h'){t:T}{w:V}(r:Rep A X h t w):Rep A X h' t w:=qz (λ_ _ e=>e) (R.keepN f) t r
theorem RelM.keeps(R:RelM gl A X h M)(f:Frm A h h'){t:List T}{w:List V}(r:qL A X h t w):qL A X h' t w:=qR (λ_ _ e=>e) (R.keepN f) t r
theorem RelM.up(R:RelM gl A X h M)(e:AH):RelM gl A X (h++e) M:=by
 have f:Frm A h (h++e):=Frm.app A h e;refine⟨R.len,R.nd,R.sub,λa ha=>wD (R.lt a ha) f.1,λn a ea=>?_,λg t eg=>R.keep f (R.glo g t eg)⟩;obtain⟨ts,vs,e1,e2,e3⟩:=R.at_ n a ea;exact⟨ts,vs,e1,by rw[List.getElem?_append_left (qJ e2)];exact e2,R.keeps f e3⟩
theorem RelM.put(R:RelM gl A X h M){n a:Nat}(ea:A[n]?=some a){ts:List T}{vs:List V}(r:qL A X h ts vs):RelM gl A X (h.set a (.lst false vs)) (M.set n ts)/\Frm A h (h.set a (.lst false vs)):=by
 have am:a∈A:=List.mem_of_getElem? ea;have f:Frm A h (h.set a (.lst false vs)):=(Frm.refl A h).set (.inl am) _;have al:a<h.length:=R.lt a (R.sub a am);refine⟨⟨by simpa using R.len,R.nd,R.sub,λb hb=>by simpa using R.lt b hb,λm b eb=>?_,λg t eg=>R.keep f (R.glo g t eg)⟩,f⟩;by_cases hm:n=m
 ·subst hm;rw[ea]at eb;cases eb;have nl:n<M.length:=by rw[<-R.len];exact(List.getElem?_eq_some_iff.mp ea).1
  exact⟨ts,vs,by rw[List.getElem?_set_self nl],by rw[List.getElem?_set_self al],R.keeps f r⟩
 ·obtain⟨ts',vs',e1,e2,e3⟩:=R.at_ m b eb;have hab:a≠b:=by
   rintro rfl;exact hm ((List.getElem?_inj (List.getElem?_eq_some_iff.mp ea).1 R.nd).mp (ea.trans eb.symm))
  exact⟨ts',vs',by rw[List.getElem?_set_ne hm];exact e1,by rw[List.getElem?_set_ne hab];exact e2,R.keeps f e3⟩
end
def New(gl:List T)(A X:List Nat)(n:Nat)(h:AH)(M:Mem)(t:T)(w:V):Prop:=∀kvs,t=.ob (.dct kvs)->∃a,w=.ref a/\n<=a/\RelM gl A (X++[a]) h M
theorem New.of_lf{gl:List T}{A X:List Nat}{n:Nat}{h:AH}{M:Mem}{t:T}{w:V}(l:t.lf=true):New gl A X n h M t w:=λkvs e=>by subst e;cases l
theorem New.lst{gl:List T}{A X:List Nat}{n:Nat}{h:AH}{M:Mem}{ts:List T}{w:V}:New gl A X n h M (.lst ts) w:=λkvs e=>by cases e
theorem New.tup{gl:List T}{A X:List Nat}{n:Nat}{h:AH}{M:Mem}{ts:List T}{w:V}:New gl A X n h M (.tup ts) w:=λkvs e=>by cases e
def Frs(gl:List T)(A X:List Nat)(n:Nat)(h:AH)(M:Mem)(t:T)(w:V):Prop:=∃fp,FP X h t w fp/\fp.Nodup/\(∀a∈fp,n<=a)/\RelM gl A (X++fp) h M/\New gl A X n h M t w
def Frss(gl:List T)(A X:List Nat)(n:Nat)(h:AH)(M:Mem)(t:List T)(w:List V):Prop:=∃fp,FPs X h t w fp/\fp.Nodup/\(∀a∈fp,n<=a)/\RelM gl A (X++fp) h M
theorem Frs.of_lf{gl:List T}{A X:List Nat}{n:Nat}{h:AH}{M:Mem}{t:T}{w:V}(R:RelM gl A X h M)(r:Rep A X h t w)(l:t.lf=true):Frs gl A X n h M t w:=⟨[],qCo t r l,wl,λa ha=>by simp at ha,by rw[List.append_nil];exact R,New.of_lf l⟩
theorem Frss.of_lf{gl:List T}{A X:List Nat}{n:Nat}{h:AH}{M:Mem}{t:List T}{w:List V}(R:RelM gl A X h M)(r:qL A X h t w)(l:T.lfs t=true):Frss gl A X n h M t w:=⟨[],Y6 t r l,wl,λa ha=>by simp at ha,by rw[List.append_nil];exact R⟩
def Sim{α β:Type}(gl:List T)(A X:List Nat)(h:AH)(Q:α->β->AH->Mem->Prop):PR (α×Mem)->Res (β×AH)->Prop
 | .ok (x,M'),r=>∃y h',r=.ok (y,h')/\Frm A h h'/\RelM gl A X h' M'/\Q x y h' M'
 | .exc c M',r=>∃h',r=.exc c h'/\Frm A h h'/\RelM gl A X h' M'
 | .stuck,_=>True
theorem Sim.bind{α β α2 β2:Type}{gl:List T}{A X:List Nat}{h:AH}{Q:α->β->AH->Mem->Prop}{Q2:α2->β2->AH->Mem->Prop}{r:PR (α×Mem)}{rh:Res (β×AH)}{f:α×Mem->PR (α2×Mem)}{g:β×AH->Res (β2×AH)}
  (s:Sim gl A X h Q r rh) (k:∀x M' y h',Frm A h h'->RelM gl A X h' M'->Q x y h' M'->Sim gl A X h' Q2 (f (x,M')) (g (y,h'))):Sim gl A X h Q2 (r.bind f) (rh.bind g):=by
 cases r with
 |ok p=>
  obtain⟨x,M'⟩:=p;obtain⟨y,h',rfl,f1,R1,q⟩:=s;have:=k x M' y h' f1 R1 q;rw[PR.bind_ok,Res.bind_ok];revert this;generalize f (x,M')=r2;generalize g (y,h')=rh2;intro s2;cases r2 with
  |ok p2=>
   obtain⟨x2,M2⟩:=p2;obtain⟨y2,h2,e2,f2,R2,q2⟩:=s2;exact⟨y2,h2,e2,f1.trans f2,R2,q2⟩
  |exc c M2=>
   obtain⟨h2,e2,f2,R2⟩:=s2;exact⟨h2,e2,f1.trans f2,R2⟩
  |stuck=>trivial
 |exc c M'=>
  obtain⟨h',rfl,f1,R1⟩:=s;exact⟨h',rfl,f1,R1⟩
 |stuck=>trivial
theorem Sim.nx{α β:Type}{gl:List T}{A X:List Nat}{h:AH}{Q:α->β->AH->Mem->Prop}{r:PR (α×Mem)}{rh:Res (β×AH)}(s:Sim gl A X h Q r rh):Sim gl A X h Q r.nx rh.nx:=by
 cases r with
 |ok p=>obtain⟨x,M'⟩:=p;obtain⟨y,h',rfl,a,b,c⟩:=s;exact⟨y,h',rfl,a,b,c⟩
 |exc c M'=>trivial
 |stuck=>trivial
theorem Sim.stuck{α β:Type}{gl:List T}{A X:List Nat}{h:AH}{Q:α->β->AH->Mem->Prop}{r:Res (β×AH)}:Sim gl A X h Q (.stuck:PR (α×Mem)) r:=trivial
theorem Sim.ofO{α β α2:Type}{gl:List T}{A X:List Nat}{h:AH}{Q:α->β->AH->Mem->Prop}{o:Option α2}{f:α2->PR (α×Mem)}{r:Res (β×AH)}(k:∀x,o=some x->Sim gl A X h Q (f x) r):Sim gl A X h Q ((PR.ofO o).bind f) r:=by
 cases o with
 |none=>trivial
 |some x=>exact k x rfl
def QE(gl:List T)(A X:List Nat)(n:Nat):TB->V->AH->Mem->Prop:=λx w h M=>Rep A X h x.1 w/\(x.2=true->Frs gl A X n h M x.1 w)
def QEs(gl:List T)(A X:List Nat)(n:Nat):List TB->List V->AH->Mem->Prop:=λx w h M=>qL A X h (x.map (·.1)) w/\(x.all (·.2)=true->Frss gl A X n h M (x.map (·.1)) w)
theorem QE.le{gl:List T}{A X:List Nat}{n m:Nat}{x:TB}{w:V}{h:AH}{M:Mem}(q:QE gl A X n x w h M)(l:m<=n):QE gl A X m x w h M:=⟨q.1,λe=>by obtain⟨fp,a,b,c,d,nw⟩:=q.2 e;exact⟨fp,a,b,λz hz=>Nat.le_trans l (c z hz),d,λkvs e=>by obtain⟨z,q1,q2,q3⟩:=nw kvs e;exact⟨z,q1,Nat.le_trans l q2,q3⟩⟩⟩
theorem Sim.le{gl:List T}{A X:List Nat}{h:AH}{n m:Nat}{r:PR (TB×Mem)}{rh:RV}(s:Sim gl A X h (QE gl A X n) r rh)(l:m<=n):Sim gl A X h (QE gl A X m) r rh:=by
 cases r with
 |ok p=>obtain⟨y,h',e,f,R,q⟩:=s;exact⟨y,h',e,f,R,q.le l⟩
 |exc c M=>exact s
 |stuck=>trivial
theorem RelM.weak{gl:List T}{A X X':List Nat}{h:AH}{M:Mem}(R:RelM gl A X' h M)(hX:∀a∈X,a∈X')(hA:∀a∈A,a∈X):RelM gl A X h M:=by
 have hn:∀a o,a∉X'->h[a]?=some o->a∉X/\h[a]?=some o:=λa o x y=>⟨λz=>x (hX _ z),y⟩
 refine⟨R.len,R.nd,hA,λa ha=>R.lt a (hX a ha),λn a e=>?_,λg t e=>qz (λ_ _ e=>e) hn t (R.glo g t e)⟩;obtain⟨ts,vs,e1,e2,e3⟩:=R.at_ n a e;exact⟨ts,vs,e1,e2,qR (λ_ _ e=>e) hn ts e3⟩
theorem RelM.addX{gl:List T}{A X X':List Nat}{h:AH}{M:Mem}(R:RelM gl A X h M){o:O}(h1:∀a,a∈X'↔a=h.length\/a∈X):RelM gl A X' (h++[o]) M:=by
 have hn:∀a o',a∉X->h[a]?=some o'->a∉X'/\(h++[o])[a]?=some o':=λa o' x y=>⟨by
  rw[h1];rintro(z|z)
  ·have:=qJ y;omega
  ·exact x z,by rw[List.getElem?_append_left (qJ y)];exact y⟩
 refine⟨R.len,R.nd,λa ha=>(h1 a).mpr (.inr (R.sub a ha)),λa ha=>?_,λn a e=>?_,λg t e=>qz (λ_ _ e=>e) hn t (R.glo g t e)⟩
 ·rcases(h1 a).mp ha with z|z
  ·simp[z]
  ·have:=R.lt a z;simp;omega
 ·obtain⟨ts,vs,e1,e2,e3⟩:=R.at_ n a e;exact⟨ts,vs,e1,by rw[List.getElem?_append_left (qJ e2)];exact e2,qR (λ_ _ e=>e) hn ts e3⟩
section
variable{gl:List T}{A X:List Nat}{h:AH}{M:Mem}
theorem K5(R:RelM gl A X h M){t:T}{w:V}{ts:List T}(r:Rep A X h t w)(e:t.its M=some ts):∃a vs,w=.ref a/\items h a=some vs/\qL A X h ts vs:=by
 cases t with
 |v x=>cases e
 |cell n=>
  unfold Rep at r;obtain⟨a,ea,rfl⟩:=r;obtain⟨ts',vs,e1,e2,e3⟩:=R.at_ n a ea;have:M[n]?=some ts:=e;rw[e1]at this;cases this;exact⟨a,vs,rfl,by unfold items;rw[e2],e3⟩
 |fz xs=>unfold Rep at r;obtain⟨a,vs,rfl,_,q,k⟩:=r;cases e;exact⟨a,vs,rfl,by unfold items;rw[q],k⟩
 |lst xs=>unfold Rep at r;obtain⟨a,vs,rfl,_,q,k⟩:=r;cases e;exact⟨a,vs,rfl,by unfold items;rw[q],k⟩
 |tup xs=>unfold Rep at r;obtain⟨a,vs,rfl,_,q,k⟩:=r;cases e;exact⟨a,vs,rfl,by unfold items;rw[q],k⟩
 |ob o=>cases e
theorem zj(R:RelM gl A X h M){t:T}{w:V}{ts:List T}(r:Rep A X h t w)(e:t.lis M=some ts):∃a vs f,w=.ref a/\h[a]?=some (.lst f vs)/\qL A X h ts vs:=by
 cases t with
 |v x=>cases e
 |cell n=>
  unfold Rep at r;obtain⟨a,ea,rfl⟩:=r;obtain⟨ts',vs,e1,e2,e3⟩:=R.at_ n a ea;have:M[n]?=some ts:=e;rw[e1]at this;cases this;exact⟨a,vs,false,rfl,e2,e3⟩
 |fz xs=>unfold Rep at r;obtain⟨a,vs,rfl,_,q,k⟩:=r;cases e;exact⟨a,vs,true,rfl,q,k⟩
 |lst xs=>unfold Rep at r;obtain⟨a,vs,rfl,_,q,k⟩:=r;cases e;exact⟨a,vs,false,rfl,q,k⟩
 |tup xs=>cases e
 |ob o=>cases e
theorem d8(R:RelM gl A X h M){t:T}{w:V}{ts:List T}(r:Rep A X h t w)(e:t.mu M=some ts):∃a vs,w=.ref a/\qt h a=some vs/\qL A X h ts vs:=by
 cases t with
 |v x=>cases e
 |cell n=>
  unfold Rep at r;obtain⟨a,ea,rfl⟩:=r;obtain⟨ts',vs,e1,e2,e3⟩:=R.at_ n a ea;have:M[n]?=some ts:=e;rw[e1]at this;cases this;exact⟨a,vs,rfl,by unfold qt;rw[e2],e3⟩
 |fz xs=>cases e
 |lst xs=>unfold Rep at r;obtain⟨a,vs,rfl,_,q,k⟩:=r;cases e;exact⟨a,vs,rfl,by unfold qt;rw[q],k⟩
 |tup xs=>cases e
 |ob o=>cases e
theorem qh{t:T}{x:V}(e:t.isV=some x):t=.v x:=by cases t<;>cases e;rfl
theorem ji{t:T}{w:V}(e:t.isV=none)(r:Rep A X h t w):∃a:Nat,w=.ref a:=by
 cases t with
 |v x=>cases e
 |cell n=>unfold Rep at r;obtain⟨a,_,e⟩:=r;exact⟨a,e⟩
 |fz xs=>unfold Rep at r;obtain⟨a,vs,e,_⟩:=r;exact⟨a,e⟩
 |lst xs=>unfold Rep at r;obtain⟨a,vs,e,_⟩:=r;exact⟨a,e⟩
 |tup xs=>unfold Rep at r;obtain⟨a,vs,e,_⟩:=r;exact⟨a,e⟩
 |ob o=>unfold Rep at r;obtain⟨a,e,_⟩:=r;exact⟨a,e⟩
theorem D6(R:RelM gl A X h M){ts:List T}{vs:List V}{n:Nat}{f:Bool}(r:qL A X h ts vs)(hn:n<=h.length)(hf:f=true->Frss gl A X n h M ts vs):Sim gl A X h (QE gl A X n) (.ok ((.lst ts,f),M)) (newL vs h):=by
 have fm:Frm A h (h++[O.lst false vs]):=Frm.app A h _;have hx:h.length∉X:=λz=>Nat.lt_irrefl _ (R.lt _ z);have ha:(h++[O.lst false vs])[h.length]?=some (.lst false vs):=by simp
 refine⟨.ref h.length,_,rfl,fm,R.up _,?_,λe=>?_⟩
 ·show Rep A X _ (.lst ts) _;unfold Rep;exact⟨_,vs,rfl,hx,ha,R.keeps fm r⟩
 ·obtain⟨fp,p,nd,l,R'⟩:=hf e;refine⟨fp++[h.length],?_,?_,?_,R'.addX λa=>by simp only[wC,wM];grind,New.lst⟩
  ·show FP X _ (.lst ts) _ _;unfold FP;exact⟨_,vs,fp,rfl,hx,ha,zq (R.keepN fm) ts p,rfl⟩
  ·rw[wJ];refine⟨nd,by simp,?_⟩;rintro a ha b hb rfl;obtain⟨_,vs',q⟩:=QC ts p a ha;simp at hb;have:=qJ q;omega
  ·intro a ha;rcases wC.mp ha with z|z
   ·exact l a z
   ·simp at z;omega
theorem JY(R:RelM gl A X h M){ts:List T}{vs:List V}{n:Nat}{f:Bool}(r:qL A X h ts vs)(hf:f=true->Frss gl A X n h M ts vs):Sim gl A X h (QE gl A X n) (.ok ((.tup ts,f),M)) (newT vs h):=by
 have fm:Frm A h (h++[O.tup vs]):=Frm.app A h _;have hx:h.length∉X:=λz=>Nat.lt_irrefl _ (R.lt _ z);have ha:(h++[O.tup vs])[h.length]?=some (.tup vs):=by simp
 refine⟨.ref h.length,_,rfl,fm,R.up _,?_,λe=>?_⟩
 ·show Rep A X _ (.tup ts) _;unfold Rep;exact⟨_,vs,rfl,hx,ha,R.keeps fm r⟩
 ·obtain⟨fp,p,nd,l,R'⟩:=hf e;refine⟨fp,?_,nd,l,R'.up _,New.tup⟩;show FP X _ (.tup ts) _ _;unfold FP;exact⟨_,vs,rfl,hx,ha,zq (R.keepN fm) ts p⟩
theorem T2(R:RelM gl A X h M){ts:List T}{vs:List V}(r:qL A X h ts vs):Sim gl A X h (QE gl A X h.length) (.ok (lT ts,M)) (newL vs h):=
 D6 R r (Nat.le_refl _) λe=>Frss.of_lf R r e
theorem qI(R:RelM gl A X h M){x:V}(fx:flat x=true){n:Nat}:Sim gl A X h (QE gl A X n) (.ok ((.v x,true),M)) (.ok (x,h)):=
 have r:Rep A X h (.v x) x:=by unfold Rep;exact⟨rfl,fx⟩
 ⟨x,h,rfl,Frm.refl A h,R,r,λ_=>Frs.of_lf R r rfl⟩
theorem zU{x w:V}(r:Rep A X h (.v x) w):w=x:=by unfold Rep at r;exact r.1
theorem qCy(xs:List T):T.lf (.tup xs)=T.lfs xs:=by rw[T.lf]
theorem qCR(R:RelM gl A X h M){op:BOp}{s t:T}{x y:V}{r:TB}(e:qr M op s t=some r)(r1:Rep A X h s x)(r2:Rep A X h t y):Sim gl A X h (QE gl A X h.length) (.ok (r,M)) (qCw op x y h):=by
 unfold qr at e;split at e
 ·rename_i i j e1 e2;cases qh e1;cases qh e2;cases zU r1;cases zU r2;cases op with
  |add=>cases e;exact qI R rfl
  |sub=>cases e;exact qI R rfl
  |mul=>dsimp only at e;split at e<;>cases e;rename_i c;show Sim _ _ _ _ _ _ (if _ then _ else _);rw[if_pos c];exact qI R rfl
  |fdiv=>
   dsimp only at e;show Sim _ _ _ _ _ _ (if _ then _ else _);split at e
   ·rename_i c;cases e;rw[if_pos c];exact qI R rfl
   ·rename_i c;rw[if_neg c];split at e
    ·rename_i c;cases e;rw[if_pos c];exact qI R rfl
    ·cases e
  |mod=>
   dsimp only at e;show Sim _ _ _ _ _ _ (if _ then _ else _);split at e
   ·rename_i c;cases e;rw[if_pos c];exact qI R rfl
   ·rename_i c;rw[if_neg c];split at e
    ·rename_i c;cases e;rw[if_pos c];exact qI R rfl
    ·cases e
  |pow=>dsimp only at e;split at e<;>cases e;rename_i c;show Sim _ _ _ _ _ _ (if _ then _ else _);rw[if_pos c];exact qI R rfl
  |band=>cases e;exact qI R rfl
  |shl=>dsimp only at e;split at e<;>cases e;rename_i c;show Sim _ _ _ _ _ _ (if _ then _ else _);rw[if_pos c];exact qI R rfl
 ·rename_i k e1 e2;cases qh e2;cases zU r2;obtain⟨a,rfl⟩:=ji e1 r1;cases op<;>first|cases e|skip
  dsimp only at e;cases em:s.mu M with
  |none=>rw[em]at e;cases e
  |some xs=>
   rw[em]at e;dsimp only[Option.bind_some]at e;split at e<;>cases e;rename_i c;obtain⟨a',vs,ea,m,rs⟩:=d8 R r1 em;cases ea;have lv:vs.length=xs.length:=(qE (reps_iff.mp rs)).symm;show Sim _ _ _ _ _ _ (match qt h a with|some xs=>_|none=>_);rw[m];dsimp only;rw[if_pos (by rw[lv];exact c)];exact T2 R (reps_iff.mpr (v7 _ (reps_iff.mp rs)))
 ·rename_i e1 e2;obtain⟨a,rfl⟩:=ji e1 r1;obtain⟨b,rfl⟩:=ji e2 r2;cases op<;>first|cases e|skip
  dsimp only at e;split at e
  ·rename_i xs ys;split at e<;>cases e;rename_i c;unfold Rep at r1 r2;obtain⟨a1,vs,ea,n1,k1,q1⟩:=r1;cases ea;obtain⟨b1,us,eb,n2,k2,q2⟩:=r2;cases eb;have lv:vs.length=xs.length:=(qE (reps_iff.mp q1)).symm;have lu:us.length=ys.length:=(qE (reps_iff.mp q2)).symm;have m1:qt h a=none:=by unfold qt;rw[k1]
   have t1:qc h a=some vs:=by unfold qc;rw[k1]
   have t2:qc h b=some us:=by unfold qc;rw[k2]
   have q3:=reps_iff.mpr (zP (reps_iff.mp q1) (reps_iff.mp q2));show Sim _ _ _ _ _ _ (match qt h a,qt h b with|some xs,some ys=>_|_,_=>_);rw[m1];show Sim _ _ _ _ _ _ (match qc h a,qc h b with|some xs,some ys=>_|_,_=>_);rw[t1,t2];dsimp only;rw[if_pos ⟨λz=>c.1 (by subst z;exact List.length_eq_zero_iff.mp lv.symm),by rw[lv,lu];exact c.2⟩];split
   ·rename_i z;subst z;have y0:ys=[]:=List.length_eq_zero_iff.mp lu.symm;subst y0;have r:Rep A X h (.tup (xs++[])) (.ref a):=by
     rw[List.append_nil];unfold Rep;exact⟨a,vs,rfl,n1,k1,q1⟩
    exact⟨_,h,rfl,Frm.refl A h,R,r,λe=>Frs.of_lf R r (by rw[qCy];exact e)⟩
   ·exact JY R q3 λe=>Frss.of_lf R q3 e
  cases em:s.mu M with
  |none=>rw[em]at e;cases e
  |some xs=>
   rw[em]at e;dsimp only[Option.bind_some]at e;cases en:t.mu M with
   |none=>rw[en]at e;cases e
   |some ys=>
    rw[en]at e;dsimp only[Option.bind_some]at e;split at e<;>cases e;rename_i c;obtain⟨a',vs,ea,m,rs⟩:=d8 R r1 em;cases ea;obtain⟨b',us,eb,m2,rs2⟩:=d8 R r2 en;cases eb;have lv:vs.length=xs.length:=(qE (reps_iff.mp rs)).symm;have lu:us.length=ys.length:=(qE (reps_iff.mp rs2)).symm;show Sim _ _ _ _ _ _ (match qt h a,qt h b with|some xs,some ys=>_|_,_=>_);rw[m,m2];dsimp only;rw[if_pos (by rw[lv,lu];exact c)];exact T2 R (reps_iff.mpr (zP (reps_iff.mp rs) (reps_iff.mp rs2)))
 ·cases e
theorem J0{x:V}{b:Bool}(e:eqF x x=some b):b=true:=by
 cases x with
 |int i=>cases e;exact vJ i
 |bl i=>cases e;exact vJ i
 |str i=>cases e;exact vJ i
 |non=>cases e;rfl
 |_=>cases e
theorem je{f:T->T->Option Bool}(hf:∀t b,f t t=some b->b=true):∀(ts:List T) bs,zt f ts ts=some bs->bs.all id=true
 | [],bs,e=>by cases e;rfl
 |t::ts,bs,e=>by
  unfold zt at e;split at e
  ·rename_i b bs' e1 e2;cases e;rw[List.all_cons,hf t b e1,je hf ts bs' e2];rfl
  ·cases e
theorem JU:∀(n:Nat) (t:T) (b:Bool),eqT M n t t=some b->b=true
 | 0,t,b,e=>by
  unfold eqT at e;split at e
  ·rename_i x y e1 e2;rw[e1]at e2;cases e2;exact J0 e
  ·cases e
 |n+1,t,b,e=>by
  unfold eqT at e;split at e
  ·rename_i x y e1 e2;rw[e1]at e2;cases e2;exact J0 e
  ·rename_i e1 e2;rw[e1]at e2;cases e2
  ·rename_i e1 e2;rw[e1]at e2;cases e2
  ·split at e
   ·rename_i xs ys e1 e2;rw[e1]at e2;cases e2;rw[if_pos rfl]at e;obtain⟨bs,eb,rfl⟩:=Option.map_eq_some_iff.mp e;exact je (JU n) xs bs eb
   ·rename_i e1 e2;rw[e1]at e2;cases e2
   ·rename_i e1 e2;rw[e1]at e2;cases e2
   ·split at e
    ·rename_i xs ys e1 e2;rw[e1]at e2;cases e2;rw[if_pos rfl]at e;obtain⟨bs,eb,rfl⟩:=Option.map_eq_some_iff.mp e;exact je (JU n) xs bs eb
    ·cases e
theorem Qg{f:T->T->Option Bool}{g:V->V->Option Bool}(hf:∀s t x y b,Rep A X h s x->Rep A X h t y->f s t=some b->g x y=some b):∀{ss ts:List T}{xs ys:List V}{bs:List Bool},qL A X h ss xs->qL A X h ts ys->zt f ss ts=some bs->ZO g xs ys=some bs
 | [],[],xs,ys,bs,r1,r2,e=>by unfold qL at r1 r2;subst r1 r2;exact e
 | [],t::ts,xs,ys,bs,r1,r2,e=>by cases e
 |s::ss,[],xs,ys,bs,r1,r2,e=>by cases e
 |s::ss,t::ts,xs,ys,bs,r1,r2,e=>by
  unfold qL at r1 r2;obtain⟨x,xs',rfl,a1,a2⟩:=r1;obtain⟨y,ys',rfl,b1,b2⟩:=r2;unfold zt at e;split at e
  ·rename_i b bs' e1 e2;cases e;unfold ZO;rw[hf s t x y b a1 b1 e1,Qg hf a2 b2 e2]
  ·cases e
theorem QF{x w:V}(r:Rep A X h (.v x) w):flat x=true:=by unfold Rep at r;exact r.2
theorem N5(R:RelM gl A X h M){t:T}{a:Nat}(r:Rep A X h t (.ref a))(hs:(t.its M).isSome=true):(items h a).isSome=true:=by
 cases t with
 |v x=>unfold Rep at r;exact(jQ r.2 r.1).elim
 |cell n=>unfold Rep at r;obtain⟨b,eb,e⟩:=r;cases e;obtain⟨_,_,_,q,_⟩:=R.at_ n _ eb;unfold items;rw[q];rfl
 |fz xs=>unfold Rep at r;obtain⟨b,vs,e,_,q,_⟩:=r;cases e;unfold items;rw[q];rfl
 |lst xs=>unfold Rep at r;obtain⟨b,vs,e,_,q,_⟩:=r;cases e;unfold items;rw[q];rfl
 |tup xs=>unfold Rep at r;obtain⟨b,vs,e,_,q,_⟩:=r;cases e;unfold items;rw[q];rfl
 |ob o=>cases hs
theorem J1{t:T}{w:V}{ts:List T}(r:Rep A X h t w)(e1:t.isV=none)(e2:t.lis M=none)(e:t.its M=some ts):∃a vs,w=.ref a/\h[a]?=some (.tup vs)/\qL A X h ts vs:=by
 cases t with
 |v x=>cases e1
 |cell n=>have z:M[n]?=some ts:=e;have z2:M[n]?=none:=e2;rw[z]at z2;cases z2
 |fz xs=>cases e2
 |lst xs=>cases e2
 |tup xs=>unfold Rep at r;obtain⟨b,vs,e',_,q,k⟩:=r;cases e;exact⟨b,vs,e',q,k⟩
 |ob o=>cases e
theorem y8{n:Nat}{x y:V}(fx:flat x=true)(fy:flat y=true):eqD h (n+1) x y=eqF x y:=by
 cases x<;>cases y<;>first|rfl|(simp[flat]at fx;done)|(simp[flat]at fy;done)
theorem Jv(R:RelM gl A X h M):∀(n:Nat) (s t:T) (x y:V) (b:Bool),Rep A X h s x->Rep A X h t y->eqT M n s t=some b->eqD h n x y=some b
 | 0,s,t,x,y,b,r1,r2,e=>by
  unfold eqT at e;split at e
  ·rename_i x' y' e1 e2;cases qh e1;cases qh e2;cases zU r1;cases zU r2;unfold eqD;exact e
  ·cases e
 |n+1,s,t,x,y,b,r1,r2,e=>by
  unfold eqT at e;split at e
  ·rename_i x' y' e1 e2;cases qh e1;cases qh e2;cases zU r1;cases zU r2;rw[y8 (QF r1) (QF r2)];exact e
  ·rename_i x' e1 e2;cases qh e1;cases zU r1;obtain⟨c,rfl⟩:=ji e2 r2;have fx:=QF r1;split at e<;>cases e;rename_i hz;have:=N5 R r2 hz;cases x<;>first|(unfold eqD;simp[flat,this];done)|(simp[flat]at fx;done)
  ·rename_i y' e1 e2;cases qh e2;cases zU r2;obtain⟨c,rfl⟩:=ji e1 r1;have fx:=QF r2;split at e<;>cases e;rename_i hz;have:=N5 R r1 hz;cases y<;>first|(unfold eqD;simp[flat,this];done)|(simp[flat]at fx;done)
  ·rename_i e1 e2;obtain⟨c,rfl⟩:=ji e1 r1;obtain⟨d,rfl⟩:=ji e2 r2;have same:c=d->b=true:=by
    rintro rfl;have:=V3 R.nd R.sub s t r1 r2;subst this;refine JU (M:=M) (n+1) s b ?_;unfold eqT;rw[e1];exact e
   split at e
   ·rename_i xs ys l1 l2;obtain⟨_,vs,f1,q1,k1,m1⟩:=zj R r1 l1;cases q1;obtain⟨_,us,f2,q2,k2,m2⟩:=zj R r2 l2;cases q2;unfold eqD;rw[k1,k2];dsimp only;by_cases hcd:c=d
    ·rw[if_pos hcd,same hcd]
    ·rw[if_neg hcd,<-qE (reps_iff.mp m1),<-qE (reps_iff.mp m2)];split at e
     ·rename_i hl;rw[if_pos hl];obtain⟨bs,eb,rfl⟩:=Option.map_eq_some_iff.mp e;rw[Qg (λs t x y b a1 a2 a3=>Jv R n s t x y b a1 a2 a3) m1 m2 eb];rfl
     ·rename_i hl;rw[if_neg hl];exact e
   ·rename_i l1 l2;obtain⟨_,vs,f1,q1,k1,m1⟩:=zj R r1 l1;cases q1;split at e<;>cases e;rename_i z;cases ei:t.its M with
    |none=>rw[ei]at z;cases z
    |some ys=>
     obtain⟨_,us,q2,k2,m2⟩:=J1 r2 e2 l2 ei;cases q2;unfold eqD;rw[k1,k2]
   ·rename_i l1 l2;obtain⟨_,vs,f1,q1,k1,m1⟩:=zj R r2 l2;cases q1;split at e<;>cases e;rename_i z;cases ei:s.its M with
    |none=>rw[ei]at z;cases z
    |some ys=>
     obtain⟨_,us,q2,k2,m2⟩:=J1 r1 e1 l1 ei;cases q2;unfold eqD;rw[k1,k2]
   ·rename_i l1 l2;split at e
    ·rename_i xs ys i1 i2;obtain⟨_,vs,q1,k1,m1⟩:=J1 r1 e1 l1 i1;cases q1;obtain⟨_,us,q2,k2,m2⟩:=J1 r2 e2 l2 i2;cases q2;unfold eqD;rw[k1,k2];dsimp only;by_cases hcd:c=d
     ·rw[if_pos hcd,same hcd]
     ·rw[if_neg hcd,<-qE (reps_iff.mp m1),<-qE (reps_iff.mp m2)];split at e
      ·rename_i hl;rw[if_pos hl];obtain⟨bs,eb,rfl⟩:=Option.map_eq_some_iff.mp e;rw[Qg (λs t x y b a1 a2 a3=>Jv R n s t x y b a1 a2 a3) m1 m2 eb];rfl
      ·rename_i hl;rw[if_neg hl];obtain⟨bs,eb,rfl⟩:=Option.map_eq_some_iff.mp e;rw[Qg (λs t x y b a1 a2 a3=>Jv R n s t x y b a1 a2 a3) (reps_iff.mpr (zh _ (reps_iff.mp m1))) (reps_iff.mpr (zh _ (reps_iff.mp m2))) eb];rfl
    ·cases e
theorem M0:∀{ts:List T}{vs xs:List V},qL A X h ts vs->Zr ts=some xs->vs=xs/\xs.all flat=true
 | [],vs,xs,r,e=>by unfold qL at r;subst r;cases e;exact⟨rfl,rfl⟩
 |t::ts,vs,xs,r,e=>by
  unfold qL at r;obtain⟨v,vs',rfl,a,b⟩:=r;cases t with
  |v x=>
   unfold Zr at e;obtain⟨xs',e',rfl⟩:=Option.map_eq_some_iff.mp e;obtain⟨rfl,k⟩:=M0 b e';cases zU a;exact⟨rfl,by rw[List.all_cons,QF a,k];rfl⟩
  |_=>cases e
theorem qB9{t:T}{kvs:List (Int×V)}{w:V}(e:t.dct=some kvs)(r:Rep A X h t w):∃p:Nat,w=.ref p/\p∉X/\h[p]?=some (.ob (.dct kvs)):=by
 cases t with
 |ob o=>
  cases o with
  |dct k=>cases e;unfold Rep at r;exact r
  |exn c=>cases e
 |_=>cases e
theorem qBK(R:RelM gl A X h M){s t:T}{x y:V}{b:Bool}(r1:Rep A X h s x)(r2:Rep A X h t y)(e:inT M s t=some b):O9 .inn x y h=some b/\O9 .notin x y h=some (!b):=by
 unfold inT at e;cases hd:t.dct with
 |some kvs=>
  rw[hd]at e;obtain⟨p,rfl,q1,q2⟩:=qB9 hd r2;have i0:items h p=none:=by unfold items;rw[q2]
  have d0:Qc h p=some kvs:=by unfold Qc;rw[q2]
  dsimp only at e;split at e
  ·cases e;cases zU r1;constructor
   ·dsimp only[O9,qAB];rw[i0];dsimp only;rw[d0]
   ·dsimp only[O9,qAB];rw[i0];dsimp only;rw[d0]
  ·cases e
 |none=>
 rw[hd]at e;dsimp only at e;obtain⟨a,ea,e⟩:=Option.bind_eq_some_iff.mp e;obtain⟨ts,et,e⟩:=Option.bind_eq_some_iff.mp e;obtain⟨xs,ex,rfl⟩:=Option.map_eq_some_iff.mp e;cases qh ea;cases zU r1;obtain⟨p,vs,rfl,q1,q2⟩:=K5 R r2 et;obtain⟨rfl,k⟩:=M0 q2 ex;have fx:=QF r1;constructor
 ·dsimp only[O9,qAB];rw[q1];dsimp only;rw[if_pos (by rw[fx,k];rfl)]
 ·dsimp only[O9,qAB];rw[q1];dsimp only;rw[if_pos (by rw[fx,k];rfl)]
theorem Zw(R:RelM gl A X h M){op:COp}{s t:T}{x y:V}{b:Bool}(r1:Rep A X h s x)(r2:Rep A X h t y)(e:zO M op s t=some b):O9 op x y h=some b:=by
 cases op with
 |eq=>exact Jv R 4 s t x y b r1 r2 e
 |ne=>
  obtain⟨c,ec,rfl⟩:=Option.map_eq_some_iff.mp (show (eqT M 4 s t).map (!·)=some b from e);show (eqD h 4 x y).map (!·)=_;rw[Jv R 4 s t x y c r1 r2 ec];rfl
 |inn=>exact(qBK R r1 r2 e).1
 |notin=>
  obtain⟨c,ec,rfl⟩:=Option.map_eq_some_iff.mp (show (inT M s t).map (!·)=some b from e);exact(qBK R r1 r2 ec).2
 |is=>
  unfold zO at e;dsimp only at e;split at e
  ·rename_i e2;cases qh e2;cases zU r2;cases e;show some (decide (x=V.non))=_;cases hs:s.isV with
   |none=>obtain⟨a,rfl⟩:=ji hs r1;rfl
   |some z=>cases qh hs;cases zU r1;cases x<;>rfl
  ·rename_i e2;cases qh e2;cases zU r2;split at e
   ·rename_i e3;cases qh e3;cases zU r1;exact e
   ·cases e
  ·cases e
 |isnot=>
  unfold zO at e;dsimp only at e;split at e
  ·rename_i e2;cases qh e2;cases zU r2;cases e;show some (!decide (x=V.non))=_;cases hs:s.isV with
   |none=>obtain⟨a,rfl⟩:=ji hs r1;rfl
   |some z=>cases qh hs;cases zU r1;cases x<;>rfl
  ·rename_i e2;cases qh e2;cases zU r2;split at e
   ·rename_i e3;cases qh e3;cases zU r1;exact e
   ·cases e
  ·cases e
 |lt=>unfold zO at e;dsimp only at e;split at e<;>first|(rename_i e1 e2;cases qh e1;cases qh e2;cases zU r1;cases zU r2;exact e)|cases e
 |le=>unfold zO at e;dsimp only at e;split at e<;>first|(rename_i e1 e2;cases qh e1;cases qh e2;cases zU r1;cases zU r2;exact e)|cases e
 |gt=>unfold zO at e;dsimp only at e;split at e<;>first|(rename_i e1 e2;cases qh e1;cases qh e2;cases zU r1;cases zU r2;exact e)|cases e
 |ge=>unfold zO at e;dsimp only at e;split at e<;>first|(rename_i e1 e2;cases qh e1;cases qh e2;cases zU r1;cases zU r2;exact e)|cases e
theorem F2:∀{ts:List T}{vs:List V}{is:List Int},qL A X h ts vs->zD ts=some is->jW vs=some is
 | [],vs,xs,r,e=>by unfold qL at r;subst r;cases e;rfl
 |t::ts,vs,xs,r,e=>by
  unfold qL at r;obtain⟨v,vs',rfl,a,b⟩:=r;unfold zD at e;split at e
  ·rename_i e';cases e'
  ·rename_i e';cases e';obtain⟨xs',e',rfl⟩:=Option.map_eq_some_iff.mp e;cases zU a;show (jW vs').map _=_;rw[F2 b e'];rfl
  ·cases e
theorem F7:∀{ts:List T}{vs:List V}{is:List Int},qL A X h ts vs->jZ ts=some is->jM vs=some is
 | [],vs,xs,r,e=>by unfold qL at r;subst r;cases e;rfl
 |t::ts,vs,xs,r,e=>by
  unfold qL at r;obtain⟨v,vs',rfl,a,b⟩:=r;unfold jZ at e;split at e
  ·rename_i e';cases e'
  ·rename_i e';cases e';obtain⟨xs',e',rfl⟩:=Option.map_eq_some_iff.mp e;cases zU a;show (jM vs').map _=_;rw[F7 b e'];rfl
  ·rename_i e';cases e';obtain⟨xs',e',rfl⟩:=Option.map_eq_some_iff.mp e;cases zU a;show (jM vs').map _=_;rw[F7 b e'];rfl
  ·cases e
theorem JG:∀{ts:List T}{vs:List V}{is:List Bool},qL A X h ts vs->zX ts=some is->jg vs=some is
 | [],vs,xs,r,e=>by unfold qL at r;subst r;cases e;rfl
 |t::ts,vs,xs,r,e=>by
  unfold qL at r;obtain⟨v,vs',rfl,a,b⟩:=r;unfold zX at e;split at e
  ·rename_i e';cases e'
  ·rename_i e';cases e';obtain⟨xs',e',rfl⟩:=Option.map_eq_some_iff.mp e;cases zU a;show (jg vs').map _=_;rw[JG b e'];rfl
  ·cases e
theorem Qz{t:T}{ws:List V}(r:qL A X h [t] ws):∃w,ws=[w]/\Rep A X h t w:=by
 unfold qL at r;obtain⟨v,vs,rfl,a,b⟩:=r;unfold qL at b;subst b;exact⟨v,rfl,a⟩
theorem qDU{s t:T}{ws:List V}(r:qL A X h [s,t] ws):∃w u,ws=[w,u]/\Rep A X h s w/\Rep A X h t u:=by
 unfold qL at r;obtain⟨v,vs,rfl,a,b⟩:=r;obtain⟨u,rfl,c⟩:=Qz b;exact⟨v,u,rfl,a,c⟩
theorem qW{a:Nat}{f:Bool}{vs:List V}(e:h[a]?=some (.lst f vs)):qM h a=some vs:=by unfold qM;rw[e]
theorem JE(R:RelM gl A X h M){t:T}{w:V}{n:Nat}(r:Rep A X h t w):Sim gl A X h (QE gl A X n) (.ok ((t,t.lf),M)) (.ok (w,h)):=
 ⟨w,h,rfl,Frm.refl A h,R,r,λe=>Frs.of_lf R r e⟩
theorem Zz{f:T->Option PySem.PyData}{g:V->Option PySem.PyData}(hf:∀t w d,f t=some d->Rep A X h t w->g w=some d):∀(ts:List T) (ws:List V) (ds:List PySem.PyData),QV f ts=some ds->qL A X h ts ws->Q4 g ws=some ds
 | [],ws,ds,e,r=>by
  unfold qL at r;subst r;exact e
 |t::ts,ws,ds,e,r=>by
  unfold qL at r;obtain⟨w,ws',rfl,r1,r2⟩:=r;unfold QV at e;obtain⟨d,e1,e⟩:=Option.bind_eq_some_iff.mp e;obtain⟨ds',e2,rfl⟩:=Option.map_eq_some_iff.mp e;unfold Q4;rw[hf t w d e1 r1,Option.bind_some,Zz hf ts ws' ds' e2 r2];rfl
theorem O5{h:AH}{n:Nat}{x:V}{d:PySem.PyData}(e:qAg x=some d):dat h n x=some d:=by
 cases n with
 |zero=>exact e
 |succ n=>cases x<;>first|exact e|cases e
theorem F0(R:RelM gl A X h M):∀(n:Nat) (t:T) (w:V) (d:PySem.PyData),L6 M n t=some d->Rep A X h t w->dat h n w=some d
 | 0,t,w,d,e,r=>by
  unfold L6 at e;split at e
  ·cases zU r;exact O5 e
  ·cases e
 |n+1,t,w,d,e,r=>by
  have ls:∀(ts:List T),t.lis M=some ts->(QV (L6 M n) ts).map PySem.PyData.list=some d->dat h (n+1) w=some d:=λts hl e=>by
   obtain⟨ds,e1,rfl⟩:=Option.map_eq_some_iff.mp e;obtain⟨a,vs,f,rfl,q1,q2⟩:=zj R r hl;show (match h[a]? with|some (.lst _ xs)=>(Q4 (dat h n) xs).map PySem.PyData.list|some (.tup xs)=>(Q4 (dat h n) xs).map PySem.PyData.tuple|some (.ob (.dct []))=>some (PySem.PyData.dict [])|_=>none)=_;rw[q1];dsimp only;rw[Zz (F0 R n) ts vs ds e1 q2];rfl
  unfold L6 at e;split at e
  ·cases zU r;exact O5 e
  ·rename_i ts;obtain⟨ds,e1,rfl⟩:=Option.map_eq_some_iff.mp e;unfold Rep at r;obtain⟨a,vs,rfl,q1,q2,q3⟩:=r;show (match h[a]? with|some (.lst _ xs)=>(Q4 (dat h n) xs).map PySem.PyData.list|some (.tup xs)=>(Q4 (dat h n) xs).map PySem.PyData.tuple|some (.ob (.dct []))=>some (PySem.PyData.dict [])|_=>none)=_;rw[q2];dsimp only;rw[Zz (F0 R n) ts vs ds e1 q3];rfl
  ·exact ls _ rfl e
  ·exact ls _ rfl e
  ·obtain⟨ts,e1,e2⟩:=Option.bind_eq_some_iff.mp e;exact ls ts e1 e2
  ·cases e;unfold Rep at r;obtain⟨a,rfl,_,q⟩:=r;show (match h[a]? with|some (.lst _ xs)=>(Q4 (dat h n) xs).map PySem.PyData.list|some (.tup xs)=>(Q4 (dat h n) xs).map PySem.PyData.tuple|some (.ob (.dct []))=>some (PySem.PyData.dict [])|_=>none)=_;rw[q]
  ·cases e
theorem q9(R:RelM gl A X h M)(t:T)(w:V)(d:PySem.PyData)(e:r6 M t=some d)(r:Rep A X h t w):qGk h w=some d:=F0 R 5 t w d e r
theorem qBx(R:RelM gl A X h M){f:BF}{ts:List T}{ws:List V}{r:TB}(rs:qL A X h ts ws)(e:zg M f ts=some r):Sim gl A X h (QE gl A X h.length) (.ok (r,M)) (qFO f ws h):=by
 cases f with
 |len=>
  replace e:=zf e;obtain⟨t0,rfl,e⟩:=e;obtain⟨w,rfl,rw_⟩:=Qz rs;obtain⟨xs,ex,rfl⟩:=Option.map_eq_some_iff.mp e;obtain⟨a,vs,rfl,q1,q2⟩:=K5 R rw_ ex;show Sim _ _ _ _ _ _ (match items h a with|some xs=>_|none=>_);rw[q1,qE (reps_iff.mp q2)];exact qI R rfl
 |sum=>
  replace e:=zf e;obtain⟨t0,rfl,e⟩:=e;obtain⟨w,rfl,rw_⟩:=Qz rs;obtain⟨xs,ex,e⟩:=Option.bind_eq_some_iff.mp e;obtain⟨is,ei,rfl⟩:=Option.map_eq_some_iff.mp e;obtain⟨a,vs,f,rfl,q1,q2⟩:=zj R rw_ ex;show Sim _ _ _ _ _ _ (match qM h a with|some xs=>_|none=>_);rw[qW q1];dsimp only;rw[F7 q2 ei];exact qI R rfl
 |all=>
  replace e:=zf e;obtain⟨t0,rfl,e⟩:=e;obtain⟨w,rfl,rw_⟩:=Qz rs;obtain⟨xs,ex,e⟩:=Option.bind_eq_some_iff.mp e;obtain⟨is,ei,rfl⟩:=Option.map_eq_some_iff.mp e;obtain⟨a,vs,f,rfl,q1,q2⟩:=zj R rw_ ex;show Sim _ _ _ _ _ _ (match qM h a with|some xs=>_|none=>_);rw[qW q1];dsimp only;rw[JG q2 ei];exact qI R rfl
 |any=>
  replace e:=zf e;obtain⟨t0,rfl,e⟩:=e;obtain⟨w,rfl,rw_⟩:=Qz rs;obtain⟨xs,ex,e⟩:=Option.bind_eq_some_iff.mp e;obtain⟨is,ei,rfl⟩:=Option.map_eq_some_iff.mp e;obtain⟨a,vs,f,rfl,q1,q2⟩:=zj R rw_ ex;show Sim _ _ _ _ _ _ (match qM h a with|some xs=>_|none=>_);rw[qW q1];dsimp only;rw[JG q2 ei];exact qI R rfl
 |max=>
  replace e:=twoT_inv e;obtain⟨i,j,rfl,e⟩:=e;obtain⟨w,u,rfl,a,b⟩:=qDU rs;cases zU a;cases zU b;cases e;exact qI R rfl
 |min=>
  replace e:=twoT_inv e;obtain⟨i,j,rfl,e⟩:=e;obtain⟨w,u,rfl,a,b⟩:=qDU rs;cases zU a;cases zU b;cases e;exact qI R rfl
 |bits=>
  replace e:=zf e;obtain⟨t0,rfl,e⟩:=e;split at e
  ·obtain⟨w,rfl,a⟩:=Qz rs;cases zU a;cases e;exact qI R rfl
  ·cases e
 |list=>
  replace e:=zf e;obtain⟨t0,rfl,e⟩:=e;obtain⟨w,rfl,rw_⟩:=Qz rs;obtain⟨xs,ex,rfl⟩:=Option.map_eq_some_iff.mp e;obtain⟨a,vs,rfl,q1,q2⟩:=K5 R rw_ ex;show Sim _ _ _ _ _ _ (match items h a with|some xs=>_|none=>_);rw[q1];exact T2 R q2
 |tuple=>
  replace e:=zf e;obtain⟨t0,rfl,e⟩:=e;obtain⟨w,rfl,rw_⟩:=Qz rs;split at e
  ·cases e;unfold Rep at rw_;obtain⟨a,vs,rfl,q1,q2,q3⟩:=rw_;show Sim _ _ _ _ _ _ (match h[a]? with|some (.lst _ xs)=>_|some (.tup _)=>_|_=>_);rw[q2];exact JE R (by unfold Rep;exact⟨a,vs,rfl,q1,q2,q3⟩)
  ·obtain⟨xs,ex,rfl⟩:=Option.map_eq_some_iff.mp e;obtain⟨a,vs,f,rfl,q1,q2⟩:=zj R rw_ ex;show Sim _ _ _ _ _ _ (match h[a]? with|some (.lst _ xs)=>_|some (.tup _)=>_|_=>_);rw[q1];exact JY R q2 λe=>Frss.of_lf R q2 e
 |repr=>
  replace e:=zf e;obtain⟨t0,rfl,e⟩:=e;obtain⟨w,rfl,rw_⟩:=Qz rs;obtain⟨v,e0,rfl⟩:=Option.map_eq_some_iff.mp e;obtain⟨d,e1,e2⟩:=Option.bind_eq_some_iff.mp e0;have e3:=q9 R t0 w d e1 rw_;show Sim _ _ _ _ _ _ (qDT h w);unfold qDT;rw[e3,Option.bind_some,e2];unfold P7 at e2;split at e2
  ·cases e2;exact qI R rfl
  ·cases e2
theorem m7(R:RelM gl A X h M){t:T}{w:V}{s:String}(r:Rep A X h t w)(e:qk M t=some s):zw h w=some s:=by
 cases t with
 |v x=>cases zU r;cases w<;>first|exact e|(cases e;done)
 |cell n=>unfold Rep at r;obtain⟨a,ea,rfl⟩:=r;obtain⟨ts,vs,e1,e2,_⟩:=R.at_ n a ea;unfold qk at e;dsimp only at e;rw[e1]at e;cases e;unfold zw;dsimp only;rw[e2]
 |fz xs=>unfold Rep at r;obtain⟨a,vs,rfl,_,q,_⟩:=r;cases e;unfold zw;dsimp only;rw[q]
 |lst xs=>unfold Rep at r;obtain⟨a,vs,rfl,_,q,_⟩:=r;cases e;unfold zw;dsimp only;rw[q]
 |tup xs=>unfold Rep at r;obtain⟨a,vs,rfl,_,q,_⟩:=r;cases e;unfold zw;dsimp only;rw[q]
 |ob o=>cases o with
  |dct=>unfold Rep at r;obtain⟨a,rfl,_,q⟩:=r;cases e;unfold zw;dsimp only;rw[q]
  |exn c=>cases e
theorem A8{ts:List T}{vs:List V}{lo hi:Option Int}(r:qL A X h ts vs):qL A X h (QQ ts lo hi) (L2.cutV vs lo hi):=by
 have l:=qE (reps_iff.mp r);unfold QQ L2.cutV;rw[l];exact reps_iff.mpr (zh _ (ju _ (reps_iff.mp r)))
end
def qA8(A X:List Nat)(h:AH):Option T->Option V->Prop
 |none,_=>True
 |some t,some w=>Rep A X h t w
 |some _,none=>False
abbrev jh(A X:List Nat)(h:AH):TS->List (Option V)->Prop:=zu (qA8 A X h)
section
variable{gl:List T}{A X:List Nat}{h h':AH}{M M':Mem}{σ:TS}{σh:List (Option V)}
theorem JA{i:Nat}{t:T}(r:jh A X h σ σh)(e:σ[i]?=some (some t)):∃w,σh[i]?=some (some w)/\Rep A X h t w:=by
 obtain⟨o,e1,q⟩:=zL r e;cases o with
 |none=>exact q.elim
 |some w=>exact⟨w,e1,q⟩
theorem zM{A' X':List Nat}(hc:∀(n:Nat) a,A[n]?=some a->A'[n]?=some a)(hn:∀a o,a∉X->h[a]?=some o->a∉X'/\h'[a]?=some o)(r:jh A X h σ σh):jh A' X' h' σ σh:=
 ZC (λx y q=>by
  cases x with
  |none=>trivial
  |some t=>cases y with
   |none=>exact q.elim
   |some w=>exact qz hc hn t q) r
theorem RelM.keepS(R:RelM gl A X h M)(f:Frm A h h')(r:jh A X h σ σh):jh A X h' σ σh:=zM (λ_ _ e=>e) (R.keepN f) r
theorem QB(r:jh A X h σ σh):∀src:List (Option Nat),jh A X h (jx src σ) (L2.inner src σh)
 | []=>rfl
 |none::src=>⟨none,_,rfl,trivial,QB r src⟩
 |some j::src=>by
  refine⟨(σh[j]?).join,_,rfl,?_,QB r src⟩;show qA8 A X h (σ[j]?).join _;cases hj:σ[j]? with
  |none=>trivial
  |some o=>cases o with
   |none=>trivial
   |some t=>
    obtain⟨w,e1,q⟩:=JA r hj;rw[e1];exact q
theorem j0:∀{is:List Nat}{ts:List T}{ws:List V}{σ σ1:TS}{σh:List (Option V)},qE4 is ts σ=some σ1->qL A X h ts ws->jh A X h σ σh->∃σh1,Za is ws σh=some σh1/\jh A X h σ1 σh1
 | [],[],ws,σ,σ1,σh,e,r,rs=>by unfold qL at r;subst r;cases e;exact⟨σh,rfl,rs⟩
 | [],t::ts,ws,σ,σ1,σh,e,r,rs=>by cases e
 |i::is,[],ws,σ,σ1,σh,e,r,rs=>by cases e
 |i::is,t::ts,ws,σ,σ1,σh,e,r,rs=>by
  unfold qL at r;obtain⟨w,ws',rfl,a,b⟩:=r;exact j0 (is:=is) (show qE4 is ts (σ.set i (some t))=some σ1 from e) b (zN i rs (show qA8 A X h (some t) (some w) from a))
theorem store_ok{g:Tg}{t:T}{w:V}{σ1:TS}(e:zF g t σ=some σ1)(r:Rep A X h t w)(rs:jh A X h σ σh):∃σh1,store g w σh h=some σh1/\jh A X h σ1 σh1:=by
 cases g with
 |name i=>cases e;exact⟨σh.set i (some w),rfl,zN i rs (show qA8 A X h (some t) (some w) from r)⟩
 |tup is=>
  cases t with
  |tup ts=>
   unfold Rep at r;obtain⟨a,vs,rfl,_,q,k⟩:=r;obtain⟨σh1,e1,r1⟩:=j0 (show qE4 is ts σ=some σ1 from e) k rs;refine⟨σh1,?_,r1⟩;show (match qc h a with|some xs=>_|none=>_)=_;rw[show qc h a=some vs by unfold qc;rw[q]];exact e1
  |_=>cases e
inductive QS(A X:List Nat)(h:AH):Src->List T->jT->Prop
 |list (a f vs ts):a∉X->h[a]?=some (.lst f vs)->qL A X h ts vs->QS A X h (.list a) ts []
 |cell (n a vs ts):A[n]?=some a->h[a]?=some (.lst false vs)->qL A X h ts vs->QS A X h (.list a) ts [(n,ts)]
 |tupl (a vs ts):a∉X->h[a]?=some (.tup vs)->qL A X h ts vs->QS A X h (.tupl a) ts []
 |rng (lo n):QS A X h (.rng lo n) (qo lo n) []
 |rvd (a ts d):QS A X h (.list a) ts d->QS A X h (.rvd a ts.length) ts.reverse d
 |zip (a b ts us d1 d2):QS A X h (.list a) ts d1->QS A X h (.list b) us d2->QS A X h (.zip a b) (List.zipWith (λx y=>T.tup [x,y]) ts us) (d1++d2)
theorem jS{d1 d2:jT}(e:qY (d1++d2) M=true):qY d1 M=true/\qY d2 M=true:=by
 unfold qY at e ⊢;rw[List.all_append,Bool.and_eq_true]at e;exact e
theorem Jk{s:Src}{ts:List T}{d:jT}(r:QS A X h s ts d)(hn:∀a o,a∉X->h[a]?=some o->h'[a]?=some o)(R:RelM gl A X h' M')(hd:qY d M'=true):QS A X h' s ts d:=by
 induction r with
 |list a f vs ts q1 q2 q3=>exact .list a f vs ts q1 (hn _ _ q1 q2) (qR (λ_ _ e=>e) (λa o x y=>⟨x,hn a o x y⟩) ts q3)
 |cell n a vs ts q1 q2 q3=>
  obtain⟨ts',vs',e1,e2,e3⟩:=R.at_ n a q1;unfold qY at hd;simp only[List.all_cons,List.all_nil,Bool.and_true]at hd;rw[e1]at hd;have:=QI _ _ hd;subst this;exact .cell n a vs' ts' q1 e2 e3
 |tupl a vs ts q1 q2 q3=>exact .tupl a vs ts q1 (hn _ _ q1 q2) (qR (λ_ _ e=>e) (λa o x y=>⟨x,hn a o x y⟩) ts q3)
 |rng lo n=>exact .rng lo n
 |rvd a ts d _ i1=>exact .rvd a ts d (i1 hd)
 |zip a b ts us d1 d2 _ _ i1 i2=>exact .zip a b ts us d1 d2 (i1 (jS hd).1) (i2 (jS hd).2)
theorem ZT{A' X':List Nat}{s:Src}{ts:List T}{d:jT}(r:QS A X h s ts d)(hn:∀a o,a∉X->h[a]?=some o->a∉X'/\h'[a]?=some o)(R:RelM gl A' X' h' M')(hd:qY d M'=true)(hA:∀(n:Nat) a,A[n]?=some a->A'[n]?=some a:=by exact λ_ _ e=>e):QS A' X' h' s ts d:=by
 induction r with
 |list a f vs ts q1 q2 q3=>exact .list a f vs ts (hn _ _ q1 q2).1 (hn _ _ q1 q2).2 (qR hA hn ts q3)
 |cell n a vs ts q1 q2 q3=>
  obtain⟨ts',vs',e1,e2,e3⟩:=R.at_ n a (hA _ _ q1);unfold qY at hd;simp only[List.all_cons,List.all_nil,Bool.and_true]at hd;rw[e1]at hd;have:=QI _ _ hd;subst this;exact .cell n a vs' ts' (hA _ _ q1) e2 e3
 |tupl a vs ts q1 q2 q3=>exact .tupl a vs ts (hn _ _ q1 q2).1 (hn _ _ q1 q2).2 (qR hA hn ts q3)
 |rng lo n=>exact .rng lo n
 |rvd a ts d _ i1=>exact .rvd a ts d (i1 hd)
 |zip a b ts us d1 d2 _ _ i1 i2=>exact .zip a b ts us d1 d2 (i1 (jS hd).1) (i2 (jS hd).2)
theorem zT{a:Nat}{ts:List T}{d:jT}(r:QS A X h (.list a) ts d):∃vs,qM h a=some vs/\qL A X h ts vs:=by
 cases r with
 |list _ f vs _ q1 q2 q3=>exact⟨vs,qW q2,q3⟩
 |cell n _ vs _ q1 q2 q3=>exact⟨vs,qW q2,q3⟩
theorem JN{s:Src}{ts:List T}{d:jT}(r:QS A X h s ts d):N7 h s=some ts.length:=by
 cases r with
 |list a f vs ts q1 q2 q3=>show (qM h a).map _=_;rw[qW q2,Option.map_some,qE (reps_iff.mp q3)]
 |cell n a vs ts q1 q2 q3=>show (qM h a).map _=_;rw[qW q2,Option.map_some,qE (reps_iff.mp q3)]
 |tupl a vs ts q1 q2 q3=>show (qc h a).map _=_;rw[show qc h a=some vs by unfold qc;rw[q2],Option.map_some,qE (reps_iff.mp q3)]
 |rng lo n=>show some n=_;simp[qo]
 |rvd a ts d r1=>show some _=_;simp
 |zip a b ts us d1 d2 r1 r2=>
  obtain⟨vs,e1,k1⟩:=zT r1;obtain⟨ws,e2,k2⟩:=zT r2;show (match qM h a,qM h b with|some xs,some ys=>_|_,_=>_)=_;rw[e1,e2,List.length_zipWith,qE (reps_iff.mp k1),qE (reps_iff.mp k2)]
theorem Qu{s:Src}{ts:List T}{d:jT}(r:QS A X h s ts d):jX h ts.length s=true:=by
 cases r with
 |list a f vs ts q1 q2 q3=>show (match qM h a with|some xs=>_|none=>_)=_;rw[qW q2,qE (reps_iff.mp q3)];simp
 |cell n a vs ts q1 q2 q3=>show (match qM h a with|some xs=>_|none=>_)=_;rw[qW q2,qE (reps_iff.mp q3)];simp
 |tupl a vs ts q1 q2 q3=>show (match qc h a with|some xs=>_|none=>_)=_;rw[show qc h a=some vs by unfold qc;rw[q2],qE (reps_iff.mp q3)];simp
 |rng lo n=>show decide _=_;simp[qo]
 |rvd a ts d r1=>show decide _=_;simp
 |zip a b ts us d1 d2 r1 r2=>
  obtain⟨vs,e1,k1⟩:=zT r1;obtain⟨ws,e2,k2⟩:=zT r2;show (match qM h a,qM h b with|some xs,some ys=>_|_,_=>_)=_;rw[e1,e2,List.length_zipWith,qE (reps_iff.mp k1),qE (reps_iff.mp k2)];simp;omega
theorem QN(R:RelM gl A X h M){s:Src}{ts:List T}{d:jT}(r:QS A X h s ts d){i:Nat}{t:T}(ei:ts[i]?=some t):
  ∃w e,qy h i s=some (w,h++e)/\Rep A X (h++e) t w:=by
 cases r with
 |list a f vs ts q1 q2 q3=>
  obtain⟨w,ew,q⟩:=zL (reps_iff.mp q3) ei;refine⟨w,[],?_,by rw[List.append_nil];exact q⟩;show (match qM h a with|some xs=>_|none=>_)=_;rw[qW q2];dsimp only;rw[ew,List.append_nil];rfl
 |cell n a vs ts q1 q2 q3=>
  obtain⟨w,ew,q⟩:=zL (reps_iff.mp q3) ei;refine⟨w,[],?_,by rw[List.append_nil];exact q⟩;show (match qM h a with|some xs=>_|none=>_)=_;rw[qW q2];dsimp only;rw[ew,List.append_nil];rfl
 |tupl a vs ts q1 q2 q3=>
  obtain⟨w,ew,q⟩:=zL (reps_iff.mp q3) ei;refine⟨w,[],?_,by rw[List.append_nil];exact q⟩;show (match qc h a with|some xs=>_|none=>_)=_;rw[show qc h a=some vs by unfold qc;rw[q2]];dsimp only;rw[ew,List.append_nil];rfl
 |rng lo n=>
  have hi:i<n:=by have:=(List.getElem?_eq_some_iff.mp ei).1;simpa [qo] using this
  refine⟨.int (lo+(i:Int)),[],?_,?_⟩
  ·show (if i<n then _ else _)=_;rw[if_pos hi,List.append_nil]
  ·have:t=.v (.int (lo+(i:Int))):=by
    simp only[qo,wQ,List.getElem?_range hi,Option.map_some,Option.some.injEq]at ei;exact ei.symm
   rw[this];unfold Rep;exact⟨rfl,rfl⟩
 |rvd a ts d r1=>
  obtain⟨vs,e1,k1⟩:=zT r1;have hi:i<ts.length:=by have:=(List.getElem?_eq_some_iff.mp ei).1;simpa using this
  rw[List.getElem?_reverse hi]at ei;obtain⟨w,ew,q⟩:=zL (reps_iff.mp k1) ei;refine⟨w,[],?_,by rw[List.append_nil];exact q⟩;show (if i<ts.length then _ else _)=_;rw[if_pos hi,e1];dsimp only;rw[ew,List.append_nil];rfl
 |zip a b ts us d1 d2 r1 r2=>
  obtain⟨vs,e1,k1⟩:=zT r1;obtain⟨ws,e2,k2⟩:=zT r2;rw[List.getElem?_zipWith]at ei;cases et:ts[i]? with
  |none=>rw[et]at ei;cases ei
  |some x=>
   cases eu:us[i]? with
   |none=>rw[et,eu]at ei;cases ei
   |some y=>
    rw[et,eu]at ei;cases ei;obtain⟨v,ev,qv⟩:=zL (reps_iff.mp k1) et;obtain⟨w,ew,qw⟩:=zL (reps_iff.mp k2) eu;refine⟨.ref h.length,[.tup [v,w]],?_,?_⟩
    ·show (match qM h a,qM h b with|some xs,some ys=>_|_,_=>_)=_;rw[e1,e2];dsimp only;rw[ev,ew]
    ·have f:=Frm.app A h [O.tup [v,w]];unfold Rep;refine⟨_,[v,w],rfl,λz=>Nat.lt_irrefl _ (R.lt _ z),by simp,?_⟩;unfold qL;refine⟨v,[w],rfl,R.keep f qv,?_⟩;unfold qL;exact⟨w,[],rfl,R.keep f qw,by unfold qL;rfl⟩
theorem Frs.ofD(R:RelM gl A X h M){kvs:List (Int×V)}(r:Rep A X (h++[O.ob (.dct kvs)]) (.ob (.dct kvs)) (.ref h.length)):Frs gl A X h.length (h++[O.ob (.dct kvs)]) M (.ob (.dct kvs)) (.ref h.length):=
 ⟨[],by unfold Rep at r;unfold FP;exact⟨r,rfl⟩,wl,λa ha=>by simp at ha,by rw[List.append_nil];exact R.up _,λ_ _=>⟨h.length,rfl,Nat.le_refl _,R.addX λa=>by simp only[wC,wM];grind⟩⟩
theorem RelM.setX(R:RelM gl A X h M){D:Nat}(hD:D∈X)(hA:D∉A)(o:O):RelM gl A X (h.set D o) M:=by
 have hn:∀a o',a∉X->h[a]?=some o'->a∉X/\(h.set D o)[a]?=some o':=λa o' x y=>⟨x,by rw[List.getElem?_set_ne (by rintro rfl;exact x hD)];exact y⟩
 refine⟨R.len,R.nd,R.sub,λa ha=>by simpa using R.lt a ha,λn a e=>?_,λg t e=>qz (λ_ _ e=>e) hn t (R.glo g t e)⟩;obtain⟨ts,vs,e1,e2,e3⟩:=R.at_ n a e;exact⟨ts,vs,e1,by rw[List.getElem?_set_ne (by rintro rfl;exact hA (List.mem_of_getElem? e))];exact e2,qR (λ_ _ e=>e) hn ts e3⟩
theorem Sim.bindW{α β α2 β2:Type}{X':List Nat}{h1:AH}{Q:α->β->AH->Mem->Prop}{Q2:α2->β2->AH->Mem->Prop}{r:PR (α×Mem)}{rh:Res (β×AH)}{f:α×Mem->PR (α2×Mem)}{g:β×AH->Res (β2×AH)}
  (hX:∀a∈X,a∈X') (hA:∀a∈A,a∈X) (f0:Frm A h1 h)
  (s:Sim gl A X' h Q r rh) (k:∀x M' y h',Frm A h h'->RelM gl A X' h' M'->Q x y h' M'->Sim gl A X h1 Q2 (f (x,M')) (g (y,h'))):Sim gl A X h1 Q2 (r.bind f) (rh.bind g):=by
 cases r with
 |ok p=>
  obtain⟨x,M'⟩:=p;obtain⟨y,h',rfl,f1,R1,q⟩:=s;exact k x M' y h' f1 R1 q
 |exc c M'=>
  obtain⟨h',rfl,f1,R1⟩:=s;exact⟨h',rfl,f0.trans f1,R1.weak hX hA⟩
 |stuck=>trivial
mutual
theorem qEy{X X':List Nat}{h:AH}:∀(t:T){w:V}{f g:List Nat},FP X h t w f->FP X' h t w g->f=g
 | .v x,w,f,g,p,q=>by unfold FP at p q;rw[p.2,q.2]
 | .cell n,w,f,g,p,q=>by unfold FP at p;exact p.elim
 | .fz ts,w,f,g,p,q=>by unfold FP at p;exact p.elim
 | .ob o,w,f,g,p,q=>by unfold FP at p q;rw[p.2,q.2]
 | .lst ts,w,f,g,p,q=>by
  unfold FP at p q;obtain⟨a,vs,f',rfl,_,e1,k1,rfl⟩:=p;obtain⟨b,us,g',e,_,e2,k2,rfl⟩:=q;cases e;rw[e1]at e2;cases e2;rw[Zp ts k1 k2]
 | .tup ts,w,f,g,p,q=>by
  unfold FP at p q;obtain⟨a,vs,rfl,_,e1,k1⟩:=p;obtain⟨b,us,e,_,e2,k2⟩:=q;cases e;rw[e1]at e2;cases e2;exact Zp ts k1 k2
theorem Zp{X X':List Nat}{h:AH}:∀(ts:List T){ws:List V}{f g:List Nat},FPs X h ts ws f->FPs X' h ts ws g->f=g
 | [],w,f,g,p,q=>by unfold FPs at p q;rw[p.2,q.2]
 |t::ts,w,f,g,p,q=>by
  unfold FPs at p q;obtain⟨v,vs,f1,f2,rfl,a,b,rfl⟩:=p;obtain⟨v',vs',g1,g2,e,a',b',rfl⟩:=q;cases e;rw[qEy t a a',Zp ts b b']
end
theorem I0:∀{ts:List T}{ws:List V}{fp f:List Nat}{t:T}{w:V},FPs X h ts ws fp->FP X h t w f->FPs X h (ts++[t]) (ws++[w]) (fp++f)
 | [],ws,fp,f,t,w,p,q=>by
  unfold FPs at p;obtain⟨rfl,rfl⟩:=p;show FPs X h [t] [w] f;unfold FPs;exact⟨w,[],f,[],rfl,q,by unfold FPs;exact⟨rfl,rfl⟩,by simp⟩
 |s::ts,ws,fp,f,t,w,p,q=>by
  unfold FPs at p;obtain⟨v,vs,f1,f2,rfl,a,b,rfl⟩:=p;show FPs X h (s::(ts++[t])) (v::(vs++[w])) _;unfold FPs;exact⟨v,vs++[w],f1,f2++f,rfl,a,I0 b q,by rw[wO]⟩
end
section
variable{gl:List T}{A X:List Nat}
theorem JP{s:Src}{its:List T}{d:jT}{g:Tg}{c:TS->Mem->PR (Bool×Mem)}{c':List (Option V)->AH->Res (Bool×AH)}{e:TS->Mem->PR (TB×Mem)}{e':List (Option V)->AH->RV}{D:Nat}{h1:AH}
  (hc:∀X h M σ σh,RelM gl A X h M->jh A X h σ σh->Sim gl A X h (λb b' _ _=>b=b') (c σ M) (c' σh h))
  (he:∀X h M σ σh,RelM gl A X h M->jh A X h σ σh->Sim gl A X h (QE gl A X h.length) (e σ M) (e' σh h))
  (hD:h1.length<=D) (hDX:D∉X) (hA:∀a∈A,a∈X):∀(r:List T) (i:Nat) (ys:List T) (ws:List V) (f:Bool) (fp:List Nat) (Y:List Nat) (σ:TS) (σh:List (Option V)) (M:Mem) (h:AH),
   its.drop i=r->i<=its.length->Y=D::X++fp->Frm A h1 h->RelM gl A Y h M->QS A Y h s its d->h[D]?=some (.lst false ws)->qL A (D::X) h ys ws ->
   (f=true->FPs (D::X) h ys ws fp/\fp.Nodup/\∀a∈fp,h1.length<=a)->jh A Y h σ σh ->
   Sim gl A X h1 (QE gl A X h1.length) (qP d g c e r ys f σ M) (Qv s g c' e' D r.length i ws σh h)
 | [],i,ys,ws,f,fp,Y,σ,σh,M,h,hr,hi,hY,fm,R,sr,eD,ry,hf,rs=>by
  have hi':i=its.length:=by
   have:=wv.mp hr;omega
  subst hi';have hX:∀a∈X,a∈D::X:=λa z=>List.mem_cons_of_mem _ z;have hXY:∀a∈X,a∈Y:=λa z=>by rw[hY];simp[z]
  have hn:∀a o,a∉D::X->h[a]?=some o->a∉X/\h[a]?=some o:=λa o x y=>⟨λz=>x (hX _ z),y⟩
  refine⟨.ref D,h,?_,fm,R.weak hXY hA,?_,λe=>?_⟩
  ·show (if jX h its.length s then _ else _)=_;rw[if_pos (Qu sr)]
  ·show Rep A X h (.lst ys) _;unfold Rep;exact⟨D,ws,rfl,hDX,eD,qR (λ_ _ e=>e) hn ys ry⟩
  ·obtain⟨p,nd,l⟩:=hf e;refine⟨fp++[D],?_,?_,?_,?_⟩
   ·show FP X h (.lst ys) _ _;unfold FP;exact⟨D,ws,fp,rfl,hDX,eD,zq hn ys p,rfl⟩
   ·rw[wJ];refine⟨nd,by simp,?_⟩;rintro a ha b hb rfl;simp at hb;exact(QC ys p a ha).1 (by rw[hb];exact List.mem_cons_self ..)
   ·intro a ha;rcases wC.mp ha with z|z
    ·exact l a z
    ·simp at z;omega
   ·refine⟨R.weak (λa z=>?_) λa z=>wE _ (hA a z),New.lst⟩;rw[hY];simp only[wC,List.mem_cons,wM]at z ⊢
    grind
 |x::r,i,ys,ws,f,fp,Y,σ,σh,M,h,hr,hi,hY,fm,R,sr,eD,ry,hf,rs=>by
  have hXY:∀a∈X,a∈Y:=λa z=>by rw[hY];simp[z]
  have hDY:D∈Y:=by rw[hY];simp
  have hDXY:∀a∈D::X,a∈Y:=λa z=>by rw[hY];exact wE _ z
  have hDA:D∉A:=λz=>hDX (hA D z);have ex:its[i]?=some x:=by
   have:(its.drop i)[0]?=some x:=by rw[hr];rfl
   rwa [List.getElem?_drop,Nat.add_zero]at this
  have hi2:i+1<=its.length:=(List.getElem?_eq_some_iff.mp ex).1;have hr2:its.drop (i+1)=r:=by
   rw[<-List.drop_drop,hr];rfl
  obtain⟨w,ext,ey,rx⟩:=QN R sr ex;have fy:Frm A h (h++ext):=Frm.app A h ext;rw[List.length_cons];unfold qP Qv;rw[ey];dsimp only;cases es:zF g x σ with
  |none=>exact Sim.stuck
  |some σ1=>
   obtain⟨σh1,esh,rs1⟩:=store_ok es rx (R.keepS fy rs);rw[esh];dsimp only;refine Sim.bindW hXY hA (fm.trans fy) (hc _ _ _ _ _ (R.up ext) rs1) ?_;rintro b M2 b' h2 f2 R2 rfl;have k2:Frm A h h2:=fy.trans f2;have eD2:h2[D]?=some (.lst false ws):=(k2.2 D (qJ eD) hDA).trans eD;have kN:∀{h':AH},Frm A h h'->∀a o,a∉D::X->h[a]?=some o->a∉D::X/\h'[a]?=some o:=λf' a o x y=>⟨x,(f'.2 a (qJ y) λz=>x (List.mem_cons_of_mem _ (hA _ z))).trans y⟩
   cases b with
   |true=>
    simp only[if_true];refine Sim.bindW hXY hA (fm.trans k2) (he _ _ _ _ _ R2 ((R.up ext).keepS f2 rs1)) ?_;intro y M3 w3 h3 f3 R3 q3;have k3:Frm A h h3:=k2.trans f3;have eD3:h3[D]?=some (.lst false ws):=(k3.2 D (qJ eD) hDA).trans eD;have lw:ys.length=ws.length:=qE (reps_iff.mp ry);dsimp only;by_cases hl:ys.length<lim/\qY d M3=true
    ·rw[if_pos hl,if_pos ⟨eD3,by rw[<-lw];exact hl.1⟩];have hs:∀(Z:List Nat),D∈Z->∀a o,a∉Z->h3[a]?=some o->a∉Z/\(h3.set D (.lst false (ws++[w3])))[a]?=some o:=λZ hZ a o x y=>⟨x,by rw[List.getElem?_set_ne (by rintro rfl;exact x hZ)];exact y⟩
     have hnD:∀a o,a∉D::X->h[a]?=some o->a∉D::X/\(h3.set D (.lst false (ws++[w3])))[a]?=some o:=λa o x y=>hs _ (List.mem_cons_self ..) a o x (kN k3 a o x y).2;have ry4:qL A (D::X) (h3.set D (.lst false (ws++[w3]))) (ys++[y.1]) (ws++[w3]):=
      reps_iff.mpr (zP (reps_iff.mp (qR (λ_ _ e=>e) hnD ys ry)) ⟨w3,[],rfl,qz (λ_ _ e=>e) (λa o x y=>hs _ (List.mem_cons_self ..) a o x y) _ (qz (λ_ _ e=>e) (λa o x y=>⟨λz=>x (hDXY _ z),y⟩) _ q3.1),rfl⟩)
     obtain⟨fp2,hp2,R3',hlt2⟩:∃fp2:List Nat,(y.2=true->FP Y h3 y.1 w3 fp2/\fp2.Nodup)/\RelM gl A (Y++fp2) h3 M3/\∀a∈fp2,h2.length<=a:=by
      cases hy2:y.2 with
      |true=>
       obtain⟨fp2,a,b,c,d,_⟩:=q3.2 hy2;exact⟨fp2,λ_=>⟨a,b⟩,d,c⟩
      |false=>exact⟨[],(λz=>by cases z),by rw[List.append_nil];exact R3,λa ha=>by simp at ha⟩
     have old:∀{Z:List Nat}(_:∀a∈Y,a∈Z) (a:Nat) o,a∉Y->h2[a]?=some o->a∉Y++fp2:=λ_ a o x y=>by
      rw[wC];rintro(z|z)
      ·exact x z
      ·have:=hlt2 a z;have:=qJ y;omega
     have R4:=R3'.setX (wE _ hDY) hDA (.lst false (ws++[w3]));have hnY:∀a o,a∉Y->h[a]?=some o->a∉Y++fp2/\(h3.set D (.lst false (ws++[w3])))[a]?=some o:=λa o x y=>⟨old (λ_ z=>z) a o x (R.keepN k2 a o x y).2,(hs Y hDY a o x (R.keepN k3 a o x y).2).2⟩
     have hn2:∀a o,a∉Y->h2[a]?=some o->a∉Y++fp2/\(h3.set D (.lst false (ws++[w3])))[a]?=some o:=λa o x y=>⟨old (λ_ z=>z) a o x y,(hs Y hDY a o x (R2.keepN f3 a o x y).2).2⟩
     refine JP hc he hD hDX hA r (i+1) (ys++[y.1]) (ws++[w3]) (f&&y.2) (fp++fp2) (Y++fp2) σ1 σh1 M3 _ hr2 hi2 (by rw[hY,wO]) ((fm.trans k3).set (.inr hD) _) R4 ?_ ?_ ry4 ?_ ?_
     ·exact ZT sr hnY R4 hl.2
     ·rw[List.getElem?_set_self (qJ eD3)]
     ·intro ef;rw[Bool.and_eq_true]at ef;obtain⟨p1,nd1,l1⟩:=hf ef.1;obtain⟨p2,nd2⟩:=hp2 ef.2;refine⟨I0 (zq hnD ys p1) (Qj (λa o x y=>hs _ (List.mem_cons_self ..) a o x y) _ (Qj (λa o x y=>⟨λz=>x (hDXY _ z),y⟩) _ p2)),?_,?_⟩
      ·rw[wJ];refine⟨nd1,nd2,?_⟩;rintro a ha b hb rfl;exact(K0 y.1 p2 a hb).1 (by rw[hY];exact wG _ ha)
      ·intro a ha;rcases wC.mp ha with z|z
       ·exact l1 a z
       ·have:=hlt2 a z;have:=(fm.trans k2).1;omega
     ·exact zM (λ_ _ e=>e) hn2 ((R.up ext).keepS f2 rs1)
    ·rw[if_neg hl];exact Sim.stuck
   |false=>
    dsimp only;simp only[Bool.false_eq_true,if_false];by_cases hl:qY d M2=true
    ·rw[if_pos hl,if_pos eD2];exact JP hc he hD hDX hA r (i+1) ys ws f fp Y σ1 σh1 M2 h2 hr2 hi2 hY (fm.trans k2) R2 (Jk sr (λa o x y=>(R.keepN k2 a o x y).2) R2 hl) eD2 (qR (λ_ _ e=>e) (kN k2) ys ry)
      (λef=>by obtain⟨a,b,c⟩:=hf ef;exact⟨zq (kN k2) ys a,b,c⟩) ((R.up ext).keepS f2 rs1)
    ·rw[if_neg hl];exact Sim.stuck
end
section
variable{gl:List T}{A X:List Nat}{h h':AH}{M M':Mem}
theorem qAF{X':List Nat}{s:Src}{ts:List T}{d:jT}(r:QS A X h s ts d)(hn:∀a o,a∉X->h[a]?=some o->a∉X'/\h'[a]?=some o)(hc:∀(n:Nat) a o,A[n]?=some a->h[a]?=some o->h'[a]?=some o):QS A X' h' s ts d:=by
 induction r with
 |list a f vs ts q1 q2 q3=>exact .list a f vs ts (hn _ _ q1 q2).1 (hn _ _ q1 q2).2 (qR (λ_ _ e=>e) hn ts q3)
 |cell n a vs ts q1 q2 q3=>exact .cell n a vs ts q1 (hc n a _ q1 q2) (qR (λ_ _ e=>e) hn ts q3)
 |tupl a vs ts q1 q2 q3=>exact .tupl a vs ts (hn _ _ q1 q2).1 (hn _ _ q1 q2).2 (qR (λ_ _ e=>e) hn ts q3)
 |rng lo n=>exact .rng lo n
 |rvd a ts d _ i1=>exact .rvd a ts d i1
 |zip a b ts us d1 d2 _ _ i1 i2=>exact .zip a b ts us d1 d2 i1 i2
theorem T3{n:Nat}{r:PR (TB×Mem)}{rh:RV}(s:Sim gl A X h (QE gl A X n) r rh):Sim gl A X h (λb b' _ _=>b=b') (pB r) (asB rh):=by
 refine Sim.bind s ?_;intro x M1 w h1 f1 R1 q1;obtain⟨t,fr⟩:=x;dsimp only;split
 ·rename_i b;cases zU q1.1;exact⟨_,h1,rfl,Frm.refl A h1,R1,rfl⟩
 ·exact Sim.stuck
theorem A4:∀(xs:List V),T.lfs (xs.map .v)=true
 | []=>rfl
 |x::xs=>by show (T.lf (.v x)&&T.lfs (xs.map .v))=true;rw[A4 xs];rfl
theorem P4(lo:Int)(n:Nat):T.lfs (qo lo n)=true:=by
 have e:qo lo n=(jV lo n).map .v:=by unfold qo jV;rw[wb];rfl
 rw[e];exact A4 _
theorem jp{A X:List Nat}{h:AH}:∀{xs:List V},xs.all flat=true->qL A X h (xs.map .v) xs
 | [],_=>by show qL A X h [] [];unfold qL;rfl
 |x::xs,f=>by
  rw[List.all_cons,Bool.and_eq_true]at f;show qL A X h (.v x::xs.map .v) _;unfold qL;exact⟨x,xs,rfl,by unfold Rep;exact⟨rfl,f.1⟩,jp f.2⟩
theorem S3{α β:Type}{R:α->β->Prop}{xs:List α}{ys:List β}(k:Nat)(h:zu R xs ys):zu R (xs.eraseIdx k) (ys.eraseIdx k):=by
 rw[wW,wW];exact zP (zh _ h) (ju _ h)
theorem L4{α β:Type}{R:α->β->Prop}:∀{xs:List α}{ys:List β},zu R xs ys->zu R xs.reverse ys.reverse
 | [],_,h=>by cases h;rfl
 |x::xs,_,⟨v,vs,rfl,r,h⟩=>by
  rw[wn,wn];exact zP (L4 h) ⟨v,[],rfl,r,rfl⟩
theorem qGS{t:T}{w x:V}(r:Rep A X h t w)(e:t.fv=some x):w=x:=by
 cases t with
 |v y=>cases e;exact zU r
 |_=>cases e
theorem j9:∀{ts:List T}{vs:List V}{ys:List PySem.Str},qL A X h ts vs->JW ts=some ys->Zh vs=some ys
 | [],vs,ys,r,e=>by
  unfold qL at r;subst r;cases e;rfl
 |t::ts,vs,ys,r,e=>by
  unfold qL at r;obtain⟨w,ws,rfl,r1,r2⟩:=r;cases t with
  |v z=>
   cases z with
   |str s=>
    obtain⟨zs,e1,rfl⟩:=Option.map_eq_some_iff.mp (show (JW ts).map (s::·)=some ys from e);cases zU r1;show (Zh ws).map _=_;rw[j9 r2 e1];rfl
   |_=>cases e
  |_=>cases e
theorem l9(R:RelM gl A X h M){m:Mt}{n p:Nat}{ts:List T}{ws:List V}(ep:A[n]?=some p)(rs:qL A X h ts ws):Sim gl A X h (QE gl A X h.length) (PR.ofO (C3 m n ts M)) (D3 m p ws h):=by
 obtain⟨ts2,vs2,g1,g2,g3⟩:=R.at_ n p ep;have hm:qt h p=some vs2:=by unfold qt;rw[g2]
 have l:=qE (reps_iff.mp g3);cases em:C3 m n ts M with
 |none=>exact Sim.stuck
 |some r=>
  unfold C3 at em;split at em
  ·rename_i i;obtain⟨w,rfl,a⟩:=Qz rs;cases zU a;rw[g1]at em;dsimp only[Option.bind_some]at em;split at em
   ·rename_i hl;obtain⟨k,ek,em⟩:=Option.bind_eq_some_iff.mp em;obtain⟨y,ey,rfl⟩:=Option.map_eq_some_iff.mp em;obtain⟨w,ew,rw2⟩:=zL (reps_iff.mp g3) ey;show Sim _ _ _ _ _ _ (match qt h p with|some xs=>_|none=>_);rw[hm];dsimp only;rw[<-l,if_pos hl,ek];dsimp only;rw[ew];obtain⟨R4,f4⟩:=R.put ep (reps_iff.mpr (S3 k (reps_iff.mp g3)));have r:=R.keep f4 rw2;exact⟨w,_,rfl,f4,R4,r,λe=>Frs.of_lf R4 r e⟩
   ·cases em
  ·rename_i i t;unfold qL at rs;obtain⟨w1,wr,rfl,a1,rs⟩:=rs;obtain⟨w2,rfl,a2⟩:=Qz rs;cases zU a1;rw[g1]at em;dsimp only[Option.bind_some]at em;split at em
   ·rename_i hc;cases em;show Sim _ _ _ _ _ _ (match qt h p with|some xs=>_|none=>_);rw[hm];dsimp only;rw[if_pos (by rw[<-l];exact hc)];obtain⟨R4,f4⟩:=R.put ep (reps_iff.mpr (zP (zh i.toNat (reps_iff.mp g3)) (show zu (Rep A X h) (t::ts2.drop i.toNat) (w2::vs2.drop i.toNat) from⟨_,_,rfl,a2,ju i.toNat (reps_iff.mp g3)⟩)));have r:Rep A X (h.set p (.lst false (vs2.take i.toNat++w2::vs2.drop i.toNat))) (.v .non) .non:=by unfold Rep;exact⟨rfl,rfl⟩
    exact⟨_,_,rfl,f4,R4,r,λe=>Frs.of_lf R4 r e⟩
   ·cases em
  ·cases em
theorem qCd(R:RelM gl A X h M){t:T}{w:V}{s:List T×jT}(r:Rep A X h t w)(e:C5 M t=some s):∃p sh,w=.ref p/\(match h[p]? with|some (.lst _ _)=>Res.ok (Src.list p,h)|some (.tup _)=>.ok (.tupl p,h)|_=>.stuck)=.ok (sh,h)/\QS A X h sh s.1 s.2:=by
 cases t with
 |v x=>cases e
 |cell n=>
  unfold Rep at r;obtain⟨a,ea,rfl⟩:=r;obtain⟨ts,vs,e1,e2,e3⟩:=R.at_ n a ea;unfold C5 at e;dsimp only at e;rw[e1]at e;cases e;exact⟨a,_,rfl,by rw[e2],.cell n a vs ts ea e2 e3⟩
 |fz xs=>unfold Rep at r;obtain⟨a,vs,rfl,q,k,z⟩:=r;cases e;exact⟨a,_,rfl,by rw[k],.list a true vs xs q k z⟩
 |lst xs=>unfold Rep at r;obtain⟨a,vs,rfl,q,k,z⟩:=r;cases e;exact⟨a,_,rfl,by rw[k],.list a false vs xs q k z⟩
 |tup xs=>unfold Rep at r;obtain⟨a,vs,rfl,q,k,z⟩:=r;cases e;exact⟨a,_,rfl,by rw[k],.tupl a vs xs q k z⟩
 |ob o=>cases e
theorem F8(R:RelM gl A X h M){t:T}{w:V}{s:List T×jT}(r:Rep A X h t w)(e:C7 M t=some s):∃p vs,w=.ref p/\qM h p=some vs/\QS A X h (.list p) s.1 s.2:=by
 cases t with
 |v x=>cases e
 |cell n=>
  unfold Rep at r;obtain⟨a,ea,rfl⟩:=r;obtain⟨ts,vs,e1,e2,e3⟩:=R.at_ n a ea;unfold C7 at e;dsimp only at e;rw[e1]at e;cases e;exact⟨a,_,rfl,qW e2,.cell n a vs ts ea e2 e3⟩
 |fz xs=>unfold Rep at r;obtain⟨a,vs,rfl,q,k,z⟩:=r;cases e;exact⟨a,_,rfl,qW k,.list a true vs xs q k z⟩
 |lst xs=>unfold Rep at r;obtain⟨a,vs,rfl,q,k,z⟩:=r;cases e;exact⟨a,_,rfl,qW k,.list a false vs xs q k z⟩
 |tup xs=>cases e
 |ob o=>cases e
theorem QEs.len{n:Nat}{xs:List TB}{ws:List V}(q:QEs gl A X n xs ws h M):xs.length=ws.length:=by
 have:=qE (reps_iff.mp q.1);simpa using this
end
section
variable{gl:List T}{P:Nat->List T->Mem->PR (TB×Mem)}{F:Nat->List V->AH->RV}
variable (hF:∀f ts ws A X h M,RelM gl A X h M->qL A X h ts ws->Sim gl A X h (QE gl A X h.length) (P f ts M) (F f ws h))
include hF
mutual
theorem qe:∀(e:E) (A X:List Nat) (h:AH) (M:Mem) (σ:TS) (σh:List (Option V)),RelM gl A X h M->jh A X h σ σh->Sim gl A X h (QE gl A X h.length) (pe gl P e σ M) (ev F e σh h)
 | .var i,A,X,h,M,σ,σh,R,rs=>by
  rw[pe,ev];dsimp only;split
  ·rename_i t e;obtain⟨w,ew,r⟩:=JA rs e;rw[ew];exact JE R r
  ·exact Sim.stuck
 | .dnew,A,X,h,M,σ,σh,R,rs=>by
  unfold pe ev;have r:Rep A X (h++[O.ob (.dct [])]) (.ob (.dct [])) (.ref h.length):=by
   unfold Rep;exact⟨h.length,rfl,λz=>by have:=R.lt _ z;omega,by simp⟩
  exact⟨_,_,rfl,Frm.app A h _,R.up _,r,λ_=>Frs.ofD R r⟩
 | .cst v,A,X,h,M,σ,σh,R,rs=>by
  rw[pe,ev];dsimp only;split
  ·rename_i e;exact qI R e
  ·exact Sim.stuck
 | .glob g,A,X,h,M,σ,σh,R,rs=>by
  rw[pe,ev];dsimp only;split
  ·rename_i t e;exact JE R (R.glo g t e)
  ·exact Sim.stuck
 | .bin op a b,A,X,h,M,σ,σh,R,rs=>by
  rw[pe,ev];dsimp only;refine Sim.bind (qe a A X h M σ σh R rs) ?_;intro x M1 v h1 f1 R1 q1;dsimp only;refine Sim.bind (qe b A X h1 M1 σ σh R1 (R.keepS f1 rs)) ?_;intro y M2 w h2 f2 R2 q2;dsimp only;exact Sim.ofO λr er=>(qCR R2 er (R1.keep f2 q1.1) q2.1).le (Nat.le_trans f1.1 f2.1)
 | .neg a,A,X,h,M,σ,σh,R,rs=>by
  rw[pe,ev];dsimp only;refine Sim.bind (qe a A X h M σ σh R rs) ?_;intro x M1 v h1 f1 R1 q1;dsimp only;obtain⟨t,fr⟩:=x;dsimp only;split
  ·cases zU q1.1;exact qI R1 rfl
  ·exact Sim.stuck
 | .cmp op a b,A,X,h,M,σ,σh,R,rs=>by
  rw[pe,ev];dsimp only;refine Sim.bind (qe a A X h M σ σh R rs) ?_;intro x M1 v h1 f1 R1 q1;dsimp only;refine Sim.bind (qe b A X h1 M1 σ σh R1 (R.keepS f1 rs)) ?_;intro y M2 w h2 f2 R2 q2;dsimp only;refine Sim.ofO λr er=>?_;unfold N2;rw[Zw R2 (R1.keep f2 q1.1) q2.1 er];exact qI R2 rfl
 | .cmp2 o1 o2 a b c,A,X,h,M,σ,σh,R,rs=>by
  rw[pe,ev];dsimp only;refine Sim.bind (qe a A X h M σ σh R rs) ?_;intro x M1 v h1 f1 R1 q1;dsimp only;refine Sim.bind (qe b A X h1 M1 σ σh R1 (R.keepS f1 rs)) ?_;intro y M2 w h2 f2 R2 q2;dsimp only;refine Sim.ofO λr er=>?_;rw[Zw R2 (R1.keep f2 q1.1) q2.1 er];cases r with
  |true=>
   simp only[if_true];refine Sim.bind (qe c A X h2 M2 σ σh R2 (R1.keepS f2 (R.keepS f1 rs))) ?_;intro z M3 u h3 f3 R3 q3;dsimp only;refine Sim.ofO λr er=>?_;unfold N2;rw[Zw R3 (R2.keep f3 q2.1) q3.1 er];exact qI R3 rfl
  |false=>exact qI R2 rfl
 | .and a b,A,X,h,M,σ,σh,R,rs=>by
  rw[pe,ev];dsimp only;refine Sim.bind (T3 (qe a A X h M σ σh R rs)) ?_;rintro x M1 v h1 f1 R1 rfl;dsimp only;cases x with
  |true=>simp only[if_true];exact(qe b A X h1 M1 σ σh R1 (R.keepS f1 rs)).le f1.1
  |false=>exact qI R1 rfl
 | .or a b,A,X,h,M,σ,σh,R,rs=>by
  rw[pe,ev];dsimp only;refine Sim.bind (T3 (qe a A X h M σ σh R rs)) ?_;rintro x M1 v h1 f1 R1 rfl;dsimp only;cases x with
  |false=>simp only[Bool.false_eq_true,if_false];exact(qe b A X h1 M1 σ σh R1 (R.keepS f1 rs)).le f1.1
  |true=>exact qI R1 rfl
 | .not a,A,X,h,M,σ,σh,R,rs=>by
  rw[pe,ev];dsimp only;refine Sim.bind (T3 (qe a A X h M σ σh R rs)) ?_;rintro x M1 v h1 f1 R1 rfl;dsimp only;exact qI R1 rfl
 | .ite c a b,A,X,h,M,σ,σh,R,rs=>by
  rw[pe,ev];dsimp only;refine Sim.bind (T3 (qe c A X h M σ σh R rs)) ?_;rintro x M1 v h1 f1 R1 rfl;dsimp only;cases x with
  |true=>simp only[if_true];exact(qe a A X h1 M1 σ σh R1 (R.keepS f1 rs)).le f1.1
  |false=>simp only[Bool.false_eq_true,if_false];exact(qe b A X h1 M1 σ σh R1 (R.keepS f1 rs)).le f1.1
 | .call f as,A,X,h,M,σ,σh,R,rs=>by
  rw[pe,ev];dsimp only;refine Sim.bind (zr as A X h M σ σh R rs) ?_;intro x M1 v h1 f1 R1 q1;dsimp only;exact(hF f _ _ A X h1 M1 R1 q1.1).nx.le f1.1
 | .blt f as,A,X,h,M,σ,σh,R,rs=>by
  rw[pe,ev];dsimp only;refine Sim.bind (zr as A X h M σ σh R rs) ?_;intro x M1 v h1 f1 R1 q1;dsimp only;exact Sim.ofO λr er=>(qBx R1 q1.1 er).le f1.1
 | .isi a ts,A,X,h,M,σ,σh,R,rs=>by
  rw[pe,ev];dsimp only;refine Sim.bind (qe a A X h M σ σh R rs) ?_;intro x M1 v h1 f1 R1 q1;dsimp only;refine Sim.ofO λr er=>?_;rw[m7 R1 q1.1 er];exact qI R1 rfl
 | .idx a b,A,X,h,M,σ,σh,R,rs=>by
  rw[pe,ev];dsimp only;refine Sim.bind (qe a A X h M σ σh R rs) ?_;intro x M1 v h1 f1 R1 q1;dsimp only;refine Sim.bind (qe b A X h1 M1 σ σh R1 (R.keepS f1 rs)) ?_;intro y M2 w h2 f2 R2 q2;dsimp only;refine Sim.ofO λr er=>?_;obtain⟨ty,fy⟩:=y;unfold Qb at er;dsimp only at er;split at er
  ·rename_i i;cases zU q2.1;obtain⟨xs,e1,er⟩:=Option.bind_eq_some_iff.mp er;obtain⟨j,e2,er⟩:=Option.bind_eq_some_iff.mp er;obtain⟨t,e3,rfl⟩:=Option.map_eq_some_iff.mp er;obtain⟨p,vs,rfl,k1,k2⟩:=K5 R2 (R1.keep f2 q1.1) e1;obtain⟨u,e4,k3⟩:=zL (reps_iff.mp k2) e3;dsimp only;rw[k1];dsimp only;rw[<-qE (reps_iff.mp k2),e2];dsimp only[Option.bind_some];rw[e4];exact JE R2 k3
  ·cases er
 | .sl a lo hi,A,X,h,M,σ,σh,R,rs=>by
  rw[pe,ev];dsimp only;refine Sim.bind (qe a A X h M σ σh R rs) ?_;intro x M1 v h1 f1 R1 q1;dsimp only;refine Sim.bind (zr lo A X h1 M1 σ σh R1 (R.keepS f1 rs)) ?_;intro y M2 w h2 f2 R2 q2;dsimp only;refine Sim.bind (zr hi A X h2 M2 σ σh R2 (R1.keepS f2 (R.keepS f1 rs))) ?_;intro z M3 u h3 f3 R3 q3;dsimp only;refine Sim.ofO λxs ex=>Sim.ofO λl el=>Sim.ofO λm em=>?_;rw[F2 (R2.keeps f3 q2.1) el,F2 q3.1 em];have rp:=R2.keep f3 (R1.keep f2 q1.1);refine Sim.ofO λr er=>?_;refine Sim.le ?_ (Nat.le_trans f1.1 (Nat.le_trans f2.1 f3.1));obtain⟨x1,x2⟩:=x;dsimp only at ex er rp ⊢;cases x1 with
  |v x=>cases ex
  |ob o=>cases ex
  |cell n=>cases er;obtain⟨p,vs,f,rfl,k1,k2⟩:=zj R3 rp ex;dsimp only;rw[qW k1];exact T2 R3 (A8 k2)
  |fz xs=>cases er;obtain⟨p,vs,f,rfl,k1,k2⟩:=zj R3 rp ex;dsimp only;rw[qW k1];exact T2 R3 (A8 k2)
  |lst xs=>cases er;obtain⟨p,vs,f,rfl,k1,k2⟩:=zj R3 rp ex;dsimp only;rw[qW k1];exact T2 R3 (A8 k2)
  |tup ts=>
   cases ex;unfold Rep at rp;obtain⟨a,vs,rfl,_,q,kk⟩:=rp;have ln:=qE (reps_iff.mp kk);dsimp only;rw[show qM h3 a=none by unfold qM;rw[q],show qc h3 a=some vs by unfold qc;rw[q]];dsimp only;unfold Jb at er;dsimp only at er;rw[ln]at er;split at er
   ·cases er
   ·rename_i hw;cases er;rw[if_neg hw];exact JY R3 (A8 kk) λe=>Frss.of_lf R3 (A8 kk) e
 | .lst as,A,X,h,M,σ,σh,R,rs=>by
  rw[pe,ev];dsimp only;refine Sim.bind (zr as A X h M σ σh R rs) ?_;intro x M1 v h1 f1 R1 q1;dsimp only;rw[<-q1.len];split
  ·exact D6 R1 q1.1 f1.1 q1.2
  ·exact Sim.stuck
 | .tup as,A,X,h,M,σ,σh,R,rs=>by
  rw[pe,ev];dsimp only;refine Sim.bind (zr as A X h M σ σh R rs) ?_;intro x M1 v h1 f1 R1 q1;dsimp only;rw[<-q1.len];split
  ·exact JY R1 q1.1 q1.2
  ·exact Sim.stuck
 | .comp it src g c e,A,X,h,M,σ,σh,R,rs=>by
  rw[pe,ev];dsimp only;refine Sim.bind (Y5 it A X h M σ σh R rs) ?_;intro s M1 sh h1 f1 R1 q1;dsimp only;have hn:∀a o,a∉X->h1[a]?=some o->a∉h1.length::X/\(h1++[O.lst false []])[a]?=some o:=λa o x y=>⟨by
   rw[List.mem_cons];rintro(z|z)
   ·have:=qJ y;omega
   ·exact x z,by rw[List.getElem?_append_left (qJ y)];exact y⟩
  have sr:QS A (h1.length::X) (h1++[O.lst false []]) sh s.1 s.2:=qAF q1 hn λn a o _ y=>by rw[List.getElem?_append_left (qJ y)];exact y
  rw[JN sr];dsimp only;refine(JP (its:=s.1) (λX h M σ σh R rs=>qFP c A X h M σ σh R rs) (λX h M σ σh R rs=>qe e A X h M σ σh R rs) (Nat.le_refl h1.length) (λz=>Nat.lt_irrefl _ (R1.lt _ z)) R1.sub s.1 0 [] [] true [] (h1.length::X) _ _ M1 _ rfl (Nat.zero_le _) (by simp) (Frm.app A h1 _) (R1.addX λa=>List.mem_cons) sr (by simp) (by unfold qL;rfl) ?_ ?_).le f1.1
  ·exact λ_=>⟨by unfold FPs;exact⟨rfl,rfl⟩,wl,λa ha=>by simp at ha⟩
  ·exact zM (λ_ _ e=>e) hn (QB (R.keepS f1 rs) src)
 | .app a b,A,X,h,M,σ,σh,R,rs=>by
  rw[pe,ev];dsimp only;refine Sim.bind (qe a A X h M σ σh R rs) ?_;intro x M1 v h1 f1 R1 q1;dsimp only;obtain⟨t,fr⟩:=x;dsimp only;split
  ·rename_i n;have q:=q1.1;unfold Rep at q;obtain⟨p,ep,rfl⟩:=q;obtain⟨ts,vs,e1,e2,e3⟩:=R1.at_ n p ep;dsimp only;rw[qW e2];dsimp only;refine Sim.bind (qe b A X h1 M1 σ σh R1 (R.keepS f1 rs)) ?_;intro y M2 w h2 f2 R2 q2;dsimp only;obtain⟨ts2,vs2,g1,g2,g3⟩:=R2.at_ n p ep;rw[g1,show qt h2 p=some vs2 by unfold qt;rw[g2]];dsimp only;rw[<-qE (reps_iff.mp g3)];split
   ·have r1:zu (Rep A X h2) [y.1] [w]:=⟨w,[],rfl,q2.1,rfl⟩
    obtain⟨R4,f4⟩:=R2.put ep (reps_iff.mpr (zP (reps_iff.mp g3) r1));have r:Rep A X (h2.set p (.lst false (vs2++[w]))) (.v .non) .non:=by unfold Rep;exact⟨rfl,rfl⟩
    exact⟨.non,_,rfl,f4,R4,r,λ_=>Frs.of_lf R4 r rfl⟩
   ·exact Sim.stuck
  ·exact Sim.stuck
 | .txu o a,A,X,h,M,σ,σh,R,rs=>by
  rw[pe,ev];dsimp only;refine Sim.bind (qe a A X h M σ σh R rs) ?_;intro x M1 v h1 f1 R1 q1;dsimp only;refine Sim.ofO λy ey=>?_;obtain⟨u,e1,e2⟩:=Option.bind_eq_some_iff.mp ey;have hv:=qGS q1.1 e1;subst hv;rw[e2];exact qI R1 (Je e2).2
 | .join a,A,X,h,M,σ,σh,R,rs=>by
  rw[pe,ev];dsimp only;refine Sim.bind (qe a A X h M σ σh R rs) ?_;intro x M1 v h1 f1 R1 q1;dsimp only;refine Sim.ofO λxs ex=>Sim.ofO λys ey=>?_;obtain⟨p,us,ff,rfl,el,rl⟩:=zj R1 q1.1 ex;show Sim _ _ _ _ _ _ (match qM h1 p with|some xs=>_|none=>_);rw[qW el];dsimp only;rw[j9 rl ey];dsimp only;by_cases hy:ys.length<=1000/\(ys.all λy=>decide (y.length<=1000))=true
  ·rw[if_pos hy,if_pos hy];exact qI R1 rfl
  ·rw[if_neg hy];exact Sim.stuck
 | .lrng a,A,X,h,M,σ,σh,R,rs=>by
  rw[pe,ev];dsimp only;refine Sim.bind (qe a A X h M σ σh R rs) ?_;intro x M1 v h1 f1 R1 q1;dsimp only;obtain⟨t,fr⟩:=x;dsimp only;split
  ·rename_i j;cases zU q1.1;dsimp only;split
   ·have r:qL A X h1 (qo 0 j.toNat) (jV 0 j.toNat):=by
     have e:qo 0 j.toNat=(jV 0 j.toNat).map .v:=by unfold qo jV;rw[wb];rfl
     rw[e];exact jp (by simp[jV,flat])
    exact(D6 (f:=true) R1 r (Nat.le_refl _) λ_=>Frss.of_lf R1 r (P4 0 _)).le f1.1
   ·exact Sim.stuck
  ·exact Sim.stuck
 | .meth m a as,A,X,h,M,σ,σh,R,rs=>by
  rw[pe,ev];dsimp only;refine Sim.bind (qe a A X h M σ σh R rs) ?_;intro x M1 v h1 f1 R1 q1;dsimp only;obtain⟨t,fr⟩:=x;dsimp only;split
  ·rename_i n;have q:=q1.1;unfold Rep at q;obtain⟨p,ep,rfl⟩:=q;obtain⟨ts,vs,e1,e2,e3⟩:=R1.at_ n p ep;dsimp only;rw[qW e2];dsimp only;refine Sim.bind (zr as A X h1 M1 σ σh R1 (R.keepS f1 rs)) ?_;intro y M2 w h2 f2 R2 q2;dsimp only;exact(l9 R2 ep q2.1).le (Nat.le_trans f1.1 f2.1)
  ·exact Sim.stuck
theorem zr:∀(e:Es) (A X:List Nat) (h:AH) (M:Mem) (σ:TS) (σh:List (Option V)),RelM gl A X h M->jh A X h σ σh->Sim gl A X h (QEs gl A X h.length) (pes gl P e σ M) (evs F e σh h)
 | .nil,A,X,h,M,σ,σh,R,rs=>by
  rw[pes,evs];have r:qL A X h [] []:=by unfold qL;rfl
  exact⟨[],h,rfl,Frm.refl A h,R,r,λ_=>Frss.of_lf R r rfl⟩
 | .cons a as,A,X,h,M,σ,σh,R,rs=>by
  rw[pes,evs];dsimp only;refine Sim.bind (qe a A X h M σ σh R rs) ?_;intro x M1 v h1 f1 R1 q1;dsimp only;obtain⟨fp1,hp1,R1',hlt1⟩:∃fp1:List Nat,(x.2=true->FP X h1 x.1 v fp1/\fp1.Nodup)/\RelM gl A (X++fp1) h1 M1/\∀a∈fp1,h.length<=a:=by
   cases hx2:x.2 with
   |true=>
    obtain⟨fp2,a,b,c,d,_⟩:=q1.2 hx2;exact⟨fp2,λ_=>⟨a,b⟩,d,c⟩
   |false=>exact⟨[],(λz=>by cases z),by rw[List.append_nil];exact R1,λa ha=>by simp at ha⟩
  have hX:∀a∈X,a∈X++fp1:=λa z=>wE _ z;have hn:∀a o,a∉X->h[a]?=some o->a∉X++fp1/\h1[a]?=some o:=λa o x y=>⟨by
   rw[wC];rintro(z|z)
   ·exact x z
   ·have:=hlt1 a z;have:=qJ y;omega,(R.keepN f1 a o x y).2⟩
  refine Sim.bindW hX R.sub (Frm.refl A h1) (zr as A (X++fp1) h1 M1 σ σh R1' (zM (λ_ _ e=>e) hn rs)) ?_;intro y M2 w h2 f2 R2 q2;dsimp only;refine⟨_,h2,rfl,f2,R2.weak hX R.sub,?_,λe=>?_⟩
  ·show qL A X h2 (x.1::y.map (·.1)) (v::w);unfold qL;exact⟨v,w,rfl,R1.keep f2 q1.1,qR (λ_ _ e=>e) (λa o x y=>⟨λz=>x (hX _ z),y⟩) _ q2.1⟩
  ·rw[List.all_cons,Bool.and_eq_true]at e;obtain⟨a1,b1⟩:=hp1 e.1;obtain⟨fp2,a2,b2,c2,d2⟩:=q2.2 e.2;refine⟨fp1++fp2,?_,?_,?_,by rw[<-wO];exact d2⟩
   ·show FPs X h2 (x.1::y.map (·.1)) (v::w) _;unfold FPs;exact⟨v,w,fp1,fp2,rfl,Qj (R1.keepN f2) _ a1,zq (λa o x y=>⟨λz=>x (hX _ z),y⟩) _ a2,rfl⟩
   ·rw[wJ];refine⟨b1,b2,?_⟩;rintro a ha b hb rfl;exact(QC _ a2 a hb).1 (wG _ ha)
   ·intro a ha;rcases wC.mp ha with z|z
    ·exact hlt1 a z
    ·exact Nat.le_trans f1.1 (c2 a z)
theorem qFP:∀(e:Es) (A X:List Nat) (h:AH) (M:Mem) (σ:TS) (σh:List (Option V)),RelM gl A X h M->jh A X h σ σh->Sim gl A X h (λb b' _ _=>b=b') (pec gl P e σ M) (evc F e σh h)
 | .nil,A,X,h,M,σ,σh,R,rs=>by
  rw[pec,evc];exact⟨true,h,rfl,Frm.refl A h,R,rfl⟩
 | .cons a as,A,X,h,M,σ,σh,R,rs=>by
  rw[pec,evc];exact T3 (qe a A X h M σ σh R rs)
theorem Y5:∀(e:Itr) (A X:List Nat) (h:AH) (M:Mem) (σ:TS) (σh:List (Option V)),RelM gl A X h M->jh A X h σ σh->Sim gl A X h (λs sh h' _=>QS A X h' sh s.1 s.2) (pei gl P e σ M) (evi F e σh h)
 | .list a,A,X,h,M,σ,σh,R,rs=>by
  rw[pei,evi];dsimp only;refine Sim.bind (qe a A X h M σ σh R rs) ?_;intro x M1 v h1 f1 R1 q1;dsimp only;refine Sim.ofO λs es=>?_;obtain⟨p,sh,rfl,e1,e2⟩:=qCd R1 q1.1 es;exact⟨sh,h1,e1,Frm.refl A h1,R1,e2⟩
 | .rng1 a,A,X,h,M,σ,σh,R,rs=>by
  rw[pei,evi];dsimp only;refine Sim.bind (qe a A X h M σ σh R rs) ?_;intro x M1 v h1 f1 R1 q1;dsimp only;obtain⟨t,fr⟩:=x;dsimp only;split
  ·cases zU q1.1;dsimp only;split
   ·exact⟨_,h1,rfl,Frm.refl A h1,R1,.rng 0 _⟩
   ·exact Sim.stuck
  ·exact Sim.stuck
 | .rng2 a b,A,X,h,M,σ,σh,R,rs=>by
  rw[pei,evi];dsimp only;refine Sim.bind (qe a A X h M σ σh R rs) ?_;intro x M1 v h1 f1 R1 q1;dsimp only;refine Sim.bind (qe b A X h1 M1 σ σh R1 (R.keepS f1 rs)) ?_;intro y M2 w h2 f2 R2 q2;dsimp only;obtain⟨t,fr⟩:=x;obtain⟨u,fu⟩:=y;dsimp only;split
  ·cases zU q1.1;cases zU q2.1;dsimp only;split
   ·exact⟨_,h2,rfl,Frm.refl A h2,R2,.rng _ _⟩
   ·exact Sim.stuck
  ·exact Sim.stuck
 | .zip a b,A,X,h,M,σ,σh,R,rs=>by
  rw[pei,evi];dsimp only;refine Sim.bind (qe a A X h M σ σh R rs) ?_;intro x M1 v h1 f1 R1 q1;dsimp only;refine Sim.bind (qe b A X h1 M1 σ σh R1 (R.keepS f1 rs)) ?_;intro y M2 w h2 f2 R2 q2;dsimp only;refine Sim.ofO λs es=>Sim.ofO λt et=>?_;obtain⟨p,vs,rfl,e1,e2⟩:=F8 R2 (R1.keep f2 q1.1) es;obtain⟨q,us,rfl,e3,e4⟩:=F8 R2 q2.1 et;dsimp only;rw[e1,e3];exact⟨_,h2,rfl,Frm.refl A h2,R2,.zip p q _ _ _ _ e2 e4⟩
 | .revd a,A,X,h,M,σ,σh,R,rs=>by
  rw[pei,evi];dsimp only;refine Sim.bind (qe a A X h M σ σh R rs) ?_;intro x M1 v h1 f1 R1 q1;dsimp only;refine Sim.ofO λs es=>?_;obtain⟨p,vs,rfl,e1,e2⟩:=F8 R1 q1.1 es;dsimp only;rw[e1];obtain⟨vs',e1',k1'⟩:=zT e2;have hl:vs.length=s.1.length:=by rw[e1]at e1';cases e1';exact(qE (reps_iff.mp k1')).symm
  dsimp only;rw[hl];exact⟨_,h1,rfl,Frm.refl A h1,R1,.rvd p _ _ e2⟩
end
end
mutual
theorem X5{X Af Xf:List Nat}{h:AH}(hX:∀a o,(∀vs,o≠O.lst false vs)->h[a]?=some o->a∉X->a∉Xf):∀(t:T) (n:Nat){w:V}{fp:List Nat},FP X h t w fp->(∀(k:Nat) a,fp[k]?=some a->Af[n+k]?=some a) ->
  (thaw n t).2.length=fp.length/\Rep Af Xf h (thaw n t).1 w/\∀(k:Nat) ts',(thaw n t).2[k]?=some ts'->∃a vs,fp[k]?=some a/\h[a]?=some (.lst false vs)/\qL Af Xf h ts' vs
 | .v x,n,w,fp,p,ha=>by unfold FP at p;obtain⟨p1,rfl⟩:=p;rw[show thaw n (.v x)=(.v x,[]) by simp[thaw]];exact⟨rfl,by unfold Rep;exact p1,λk ts' e=>by simp at e⟩
 | .cell _,n,w,fp,p,ha=>by unfold FP at p;exact p.elim
 | .ob o,n,w,fp,p,ha=>by unfold FP at p;obtain⟨⟨a,rfl,q1,q2⟩,rfl⟩:=p;rw[show thaw n (.ob o)=(.ob o,[]) by simp[thaw]];exact⟨rfl,by unfold Rep;exact⟨a,rfl,hX a _ (by intro _ z;cases z) q2 q1,q2⟩,λk ts' e=>by simp at e⟩
 | .fz _,n,w,fp,p,ha=>by unfold FP at p;exact p.elim
 | .lst ts,n,w,fp,p,ha=>by
  unfold FP at p;obtain⟨a,vs,f,rfl,q1,q2,q3,rfl⟩:=p;obtain⟨l,r,c⟩:=Zy hX ts n q3 (λk a e=>ha k a (by rw[List.getElem?_append_left (List.getElem?_eq_some_iff.mp e).1];exact e));rw[thaw];refine⟨by simp[l],?_,λk ts' e=>?_⟩
  ·show Rep Af Xf h (.cell _) _;unfold Rep;refine⟨a,ha _ a ?_,rfl⟩;rw[l,List.getElem?_append_right (Nat.le_refl _),Nat.sub_self];rfl
  ·dsimp only at e;by_cases hk:k<f.length
   ·rw[List.getElem?_append_left (by rw[l];exact hk)]at e;obtain⟨b,us,e1,e2,e3⟩:=c k ts' e;exact⟨b,us,by rw[List.getElem?_append_left hk];exact e1,e2,e3⟩
   ·rw[List.getElem?_append_right (by rw[l];omega),l]at e;have hk2:k-f.length=0:=by
     have:=(List.getElem?_eq_some_iff.mp e).1;simp at this;omega
    rw[hk2]at e;simp at e;subst e;exact⟨a,vs,by rw[List.getElem?_append_right (by omega),hk2];rfl,q2,r⟩
 | .tup ts,n,w,fp,p,ha=>by
  unfold FP at p;obtain⟨a,vs,rfl,q1,q2,q3⟩:=p;obtain⟨l,r,c⟩:=Zy hX ts n q3 ha;rw[thaw];refine⟨l,?_,c⟩;show Rep Af Xf h (.tup _) _;unfold Rep;exact⟨a,vs,rfl,hX a _ (by intro _ z;cases z) q2 q1,q2,r⟩
theorem Zy{X Af Xf:List Nat}{h:AH}(hX:∀a o,(∀vs,o≠O.lst false vs)->h[a]?=some o->a∉X->a∉Xf):∀(ts:List T) (n:Nat){ws:List V}{fp:List Nat},FPs X h ts ws fp->(∀(k:Nat) a,fp[k]?=some a->Af[n+k]?=some a) ->
  (QY n ts).2.length=fp.length/\qL Af Xf h (QY n ts).1 ws/\∀(k:Nat) ts',(QY n ts).2[k]?=some ts'->∃a vs,fp[k]?=some a/\h[a]?=some (.lst false vs)/\qL Af Xf h ts' vs
 | [],n,ws,fp,p,ha=>by unfold FPs at p;obtain⟨rfl,rfl⟩:=p;rw[QY];exact⟨rfl,by unfold qL;rfl,λk ts' e=>by simp at e⟩
 |t::ts,n,ws,fp,p,ha=>by
  unfold FPs at p;obtain⟨v,vs,f1,f2,rfl,q1,q2,rfl⟩:=p;obtain⟨l1,r1,c1⟩:=X5 hX t n q1 (λk a e=>ha k a (by rw[List.getElem?_append_left (List.getElem?_eq_some_iff.mp e).1];exact e));obtain⟨l2,r2,c2⟩:=Zy hX ts (n+(thaw n t).2.length) q2 (λk a e=>by
   have:=ha (f1.length+k) a (by rw[List.getElem?_append_right (by omega),Nat.add_sub_cancel_left];exact e);rw[l1,Nat.add_assoc];exact this)
  rw[QY];refine⟨by dsimp only;rw[List.length_append,List.length_append,l2,l1],?_,λk ts' e=>?_⟩
  ·show qL Af Xf h (_::_) _;unfold qL;exact⟨v,vs,rfl,r1,r2⟩
  ·dsimp only at e;by_cases hk:k<f1.length
   ·rw[List.getElem?_append_left (by rw[l1];exact hk)]at e;obtain⟨b,us,e1,e2,e3⟩:=c1 k ts' e;exact⟨b,us,by rw[List.getElem?_append_left hk];exact e1,e2,e3⟩
   ·rw[List.getElem?_append_right (by rw[l1];omega)]at e;obtain⟨b,us,e1,e2,e3⟩:=c2 _ ts' e;rw[l1]at e1;exact⟨b,us,by rw[List.getElem?_append_right (by omega)];exact e1,e2,e3⟩
end
theorem RelM.thaw{gl:List T}{A X fp:List Nat}{h:AH}{M:Mem}{t:T}{w:V}(R:RelM gl A (X++fp) h M)(hA:∀a∈A,a∈X)(p:FP X h t w fp)(nd:fp.Nodup):
  RelM gl (A++fp) (X++fp) h (M++(PI.thaw M.length t).2)/\Rep (A++fp) (X++fp) h (PI.thaw M.length t).1 w:=by
 have hX:∀a o,(∀vs,o≠O.lst false vs)->h[a]?=some o->a∉X->a∉X++fp:=λa o hno e x=>by
  rw[wC];rintro(z|z)
  ·exact x z
  ·obtain⟨_,us,e2⟩:=K0 t p a z;rw[e]at e2;cases e2;exact hno _ rfl
 obtain⟨l,r,c⟩:=X5 (Af:=A++fp) hX t M.length p (λk a e=>by rw[<-R.len,List.getElem?_append_right (by omega),Nat.add_sub_cancel_left];exact e);refine⟨⟨by simp[R.len,l],?_,?_,R.lt,λn a e=>?_,λg t e=>?_⟩,r⟩
 ·rw[wJ];exact⟨R.nd,nd,by rintro a ha b hb rfl;exact(K0 t p a hb).1 (hA a ha)⟩
 ·intro a ha;rcases wC.mp ha with z|z
  ·exact wE _ (hA a z)
  ·exact wG _ z
 ·by_cases hn:n<A.length
  ·rw[List.getElem?_append_left hn]at e;obtain⟨ts,vs,e1,e2,e3⟩:=R.at_ n a e;exact⟨ts,vs,by rw[List.getElem?_append_left (by rw[<-R.len];exact hn)];exact e1,e2,qR (λk b eb=>by rw[List.getElem?_append_left (List.getElem?_eq_some_iff.mp eb).1];exact eb) (λa o x y=>⟨x,y⟩) ts e3⟩
  ·rw[List.getElem?_append_right (by omega)]at e;have hk:n-A.length<(PI.thaw M.length t).2.length:=by rw[l];exact(List.getElem?_eq_some_iff.mp e).1
   obtain⟨b,us,e1,e2,e3⟩:=c (n-A.length) _ (wB hk);rw[e]at e1;cases e1;have hnm:n-M.length=n-A.length:=by rw[R.len]
   exact⟨_,us,by rw[List.getElem?_append_right (by rw[<-R.len];omega),hnm];exact wB hk,e2,e3⟩
 ·exact qz (λk b eb=>by rw[List.getElem?_append_left (List.getElem?_eq_some_iff.mp eb).1];exact eb) (λa o x y=>⟨x,y⟩) t (R.glo g t e)
theorem B0{A X:List Nat}{h:AH}(n:Nat):∀{ts:List T}{ws:List V},qL A X h ts ws->jh A X h (ts.map some++List.replicate n none) (ws.map some++List.replicate n none)
 | [],ws,r=>by
  unfold qL at r;subst r;show jh A X h (List.replicate n none) (List.replicate n none)
  induction n with
  |zero=>rfl
  |succ n ih=>exact⟨none,_,rfl,trivial,ih⟩
 |t::ts,ws,r=>by
  unfold qL at r;obtain⟨v,vs,rfl,a,b⟩:=r;exact⟨some v,_,rfl,a,B0 n b⟩
def RelO(gl:List T)(A X:List Nat)(n:Nat)(h:AH)(M:Mem):PO->Out->Prop
 | .nx σ,.nx σh=>jh A X h σ σh
 | .bk σ,.bk σh=>jh A X h σ σh
 | .ct σ,.ct σh=>jh A X h σ σh
 | .rt t,.rt w=>QE gl A X n t w h M
 |_,_=>False
theorem RelO.le{gl:List T}{A X:List Nat}{n m:Nat}{h:AH}{M:Mem}{o:PO}{oh:Out}(r:RelO gl A X n h M o oh)(l:m<=n):RelO gl A X m h M o oh:=by
 cases o<;>cases oh<;>first|exact r|exact QE.le r l
def SimS(gl:List T)(A X:List Nat)(h:AH):RSt->RS->Prop
 | .ok (o,M'),r=>∃oh h' B,r=.ok (oh,h')/\Frm A h h'/\(∀b∈B,h.length<=b)/\RelM gl (A++B) (X++B) h' M'/\RelO gl (A++B) (X++B) h.length h' M' o oh
 | .exc c M',r=>∃h' B,r=.exc c h'/\Frm A h h'/\(∀b∈B,h.length<=b)/\RelM gl (A++B) (X++B) h' M'
 | .stuck,_=>True
theorem SimS.stuck{gl:List T}{A X:List Nat}{h:AH}{r:RS}:SimS gl A X h .stuck r:=trivial
theorem SimS.mk{gl:List T}{A X:List Nat}{h:AH}{M:Mem}{o:PO}{oh:Out}(R:RelM gl A X h M)(ro:RelO gl A X h.length h M o oh):SimS gl A X h (.ok (o,M)) (.ok (oh,h)):=
 ⟨oh,h,[],rfl,Frm.refl A h,λb hb=>by simp at hb,by simpa using R,by simpa using ro⟩
theorem SimS.pre{gl:List T}{A X:List Nat}{h h1:AH}{r:RSt}{rh:RS}(s:SimS gl A X h1 r rh)(f:Frm A h h1):SimS gl A X h r rh:=by
 cases r with
 |ok p=>
  obtain⟨o,M'⟩:=p;obtain⟨oh,h',B,e,f1,hB,R,ro⟩:=s;exact⟨oh,h',B,e,f.trans f1,λb hb=>Nat.le_trans f.1 (hB b hb),R,ro.le f.1⟩
 |exc c M'=>
  obtain⟨h',B,e,f1,hB,R⟩:=s;exact⟨h',B,e,f.trans f1,λb hb=>Nat.le_trans f.1 (hB b hb),R⟩
 |stuck=>trivial
theorem Sim.bindS{α β:Type}{gl:List T}{A X:List Nat}{h:AH}{Q:α->β->AH->Mem->Prop}{r:PR (α×Mem)}{rh:Res (β×AH)}{f:α×Mem->RSt}{g:β×AH->RS}
  (s:Sim gl A X h Q r rh) (k:∀x M' y h',Frm A h h'->RelM gl A X h' M'->Q x y h' M'->SimS gl A X h' (f (x,M')) (g (y,h'))):SimS gl A X h (r.bind f) (rh.bind g):=by
 cases r with
 |ok p=>
  obtain⟨x,M'⟩:=p;obtain⟨y,h',rfl,f1,R1,q⟩:=s;exact(k x M' y h' f1 R1 q).pre f1
 |exc c M'=>
  obtain⟨h',rfl,f1,R1⟩:=s;exact⟨h',[],rfl,f1,λb hb=>by simp at hb,by simpa using R1⟩
 |stuck=>trivial
theorem SimS.bind{gl:List T}{A X:List Nat}{h:AH}{r:RSt}{rh:RS}{f:PO×Mem->RSt}{g:Out×AH->RS}
  (s:SimS gl A X h r rh) (k:∀o M' oh h' B,Frm A h h'->(∀b∈B,h.length<=b)->RelM gl (A++B) (X++B) h' M'->RelO gl (A++B) (X++B) h.length h' M' o oh->SimS gl (A++B) (X++B) h' (f (o,M')) (g (oh,h'))\/(f (o,M')=.ok (o,M')/\g (oh,h')=.ok (oh,h'))):SimS gl A X h (r.bind f) (rh.bind g):=by
 cases r with
 |ok p=>
  obtain⟨o,M'⟩:=p;obtain⟨oh,h',B,rfl,f1,hB,R,ro⟩:=s;rw[PR.bind_ok,Res.bind_ok];rcases k o M' oh h' B f1 hB R ro with s2|⟨e1,e2⟩
  ·revert s2;generalize f (o,M')=r2;generalize g (oh,h')=rh2;intro s2;cases r2 with
   |ok p2=>
    obtain⟨o2,M2⟩:=p2;obtain⟨oh2,h2,B2,rfl,f2,hB2,R2,ro2⟩:=s2;rw[wO,wO]at R2 ro2;exact⟨oh2,h2,B++B2,rfl,f1.trans2 hB f2,λb hb=>by
     rcases wC.mp hb with z|z
     ·exact hB b z
     ·exact Nat.le_trans f1.1 (hB2 b z),R2,ro2.le f1.1⟩
   |exc c M2=>
    obtain⟨h2,B2,rfl,f2,hB2,R2⟩:=s2;rw[wO,wO]at R2;exact⟨h2,B++B2,rfl,f1.trans2 hB f2,λb hb=>by
     rcases wC.mp hb with z|z
     ·exact hB b z
     ·exact Nat.le_trans f1.1 (hB2 b z),R2⟩
   |stuck=>trivial
  ·rw[e1,e2];exact⟨oh,h',B,rfl,f1,hB,R,ro⟩
 |exc c M'=>
  obtain⟨h',B,rfl,f1,hB,R⟩:=s;exact⟨h',B,rfl,f1,hB,R⟩
 |stuck=>trivial
theorem ZU{A X B:List Nat}{h h':AH}(hs:∀a∈A,a∈X)(f:Frm A h h')(hB:∀b∈B,h.length<=b):∀a o,a∉X->h[a]?=some o->a∉X++B/\h'[a]?=some o:=λa o x y=>⟨by
 rw[wC];rintro(z|z)
 ·exact x z
 ·have:=hB a z;have:=qJ y;omega,(f.2 a (qJ y) λz=>x (hs _ z)).trans y⟩
theorem jI{A B:List Nat}:∀(n:Nat) a,A[n]?=some a->(A++B)[n]?=some a:=λn a e=>by rw[List.getElem?_append_left (List.getElem?_eq_some_iff.mp e).1];exact e
theorem U8{gl:List T}{s:Src}{its:List T}{d:jT}{g:Tg}{b:TS->Mem->RSt}{b':List (Option V)->AH->RS}
  (hb:∀A X h M σ σh,RelM gl A X h M->jh A X h σ σh->SimS gl A X h (b σ M) (b' σh h)):∀(r:List T) (i:Nat) (σ:TS) (σh:List (Option V)) (M:Mem) (h:AH) (A X:List Nat),
   its.drop i=r->i<=its.length->RelM gl A X h M->QS A X h s its d->jh A X h σ σh->SimS gl A X h (zQ d g b r σ M) (A0 s g b' r.length i σh h)
 | [],i,σ,σh,M,h,A,X,hr,hi,R,sr,rs=>by
  have hi':i=its.length:=by
   have:=wv.mp hr;omega
  subst hi';show SimS gl A X h (.ok (.nx σ,M)) (if jX h its.length s then _ else _);rw[if_pos (Qu sr)];exact SimS.mk R rs
 |x::r,i,σ,σh,M,h,A,X,hr,hi,R,sr,rs=>by
  have ex:its[i]?=some x:=by
   have:(its.drop i)[0]?=some x:=by rw[hr];rfl
   rwa [List.getElem?_drop,Nat.add_zero]at this
  have hi2:i+1<=its.length:=(List.getElem?_eq_some_iff.mp ex).1;have hr2:its.drop (i+1)=r:=by
   rw[<-List.drop_drop,hr];rfl
  obtain⟨w,ext,ey,rx⟩:=QN R sr ex;have fy:Frm A h (h++ext):=Frm.app A h ext;rw[List.length_cons];unfold zQ A0;rw[ey];dsimp only;cases es:zF g x σ with
  |none=>exact SimS.stuck
  |some σ1=>
   obtain⟨σh1,esh,rs1⟩:=store_ok es rx (R.keepS fy rs);rw[esh];dsimp only;refine SimS.bind ((hb A X _ M σ1 σh1 (R.up ext) rs1).pre fy) ?_;intro o M2 oh h2 B f2 hB R2 ro;have nxt:∀σ2 σh2,jh (A++B) (X++B) h2 σ2 σh2->SimS gl (A++B) (X++B) h2 (if qY d M2=true then zQ d g b r σ2 M2 else .stuck) (A0 s g b' r.length (i+1) σh2 h2):=λσ2 σh2 rs2=>by
    split
    ·rename_i hd;exact U8 hb r (i+1) σ2 σh2 M2 h2 _ _ hr2 hi2 R2 (ZT sr (ZU R.sub f2 hB) R2 hd jI) rs2
    ·exact SimS.stuck
   cases o with
   |nx σ2=>cases oh<;>first|exact .inl (nxt _ _ ro)|exact ro.elim
   |ct σ2=>cases oh<;>first|exact .inl (nxt _ _ ro)|exact ro.elim
   |bk σ2=>cases oh<;>first|exact .inl (SimS.mk R2 ro)|exact ro.elim
   |rt t=>cases oh<;>first|exact .inr ⟨rfl,rfl⟩|exact ro.elim
section
variable{gl:List T}{P:Nat->List T->Mem->PR (TB×Mem)}{F:Nat->List V->AH->RV}(C:List Nat)
variable (hF:∀f ts ws A X h M,RelM gl A X h M->qL A X h ts ws->Sim gl A X h (QE gl A X h.length) (P f ts M) (F f ws h))
include hF
omit hF in
omit hF in
def qIr(gl:List T)(A X:List Nat)(h:AH):PR (TB×Mem)->RV->Prop
 | .ok ((.lst ts,_),M1),r=>∃h1 vs,r=.ok (.ref h1.length,h1++[.lst false vs])/\Frm A h h1/\RelM gl A X h1 M1/\qL A X h1 ts vs
 |_,_=>True
omit hF in
theorem RelM.cellN{gl:List T}{A X:List Nat}{h:AH}{M:Mem}{ts:List T}{vs:List V}(R:RelM gl A X h M)(r:qL A X h ts vs):RelM gl (A++[h.length]) (X++[h.length]) (h++[.lst false vs]) (M++[ts]):=by
 have hn:∀a o,a∉X->h[a]?=some o->a∉X++[h.length]/\(h++[O.lst false vs])[a]?=some o:=ZU R.sub (Frm.app A h _) (λb hb=>by simp at hb;omega);refine⟨by simp[R.len],?_,λa ha=>?_,λa ha=>?_,λn a e=>?_,λg t e=>qz jI hn t (R.glo g t e)⟩
 ·rw[wJ];refine⟨R.nd,by simp,λa ha b hb=>?_⟩;have:=R.lt a (R.sub a ha);simp at hb;omega
 ·rcases wC.mp ha with z|z
  ·exact wE _ (R.sub a z)
  ·exact wG _ z
 ·rcases wC.mp ha with z|z
  ·have:=R.lt a z;simp;omega
  ·simp at z;simp[z]
 ·by_cases hlt:n<A.length
  ·rw[List.getElem?_append_left hlt]at e;obtain⟨us,ws,e1,e2,e3⟩:=R.at_ n a e;exact⟨us,ws,by rw[List.getElem?_append_left (by rw[<-R.len];exact hlt)];exact e1,by rw[List.getElem?_append_left (qJ e2)];exact e2,qR jI hn us e3⟩
  ·have hl:=(List.getElem?_eq_some_iff.mp e).1;have hnn:n=A.length:=by simp at hl;omega
   subst hnn;simp at e;subst e;exact⟨ts,vs,by rw[R.len];simp,by simp,qR jI hn ts r⟩
omit hF in
theorem j3{e:E}(h:qDB e=true):(∃as,e=.lst as)\/∃a b,e=.bin .add a b:=by
 unfold qDB at h;split at h
 ·exact .inr ⟨_,_,rfl⟩
 ·exact .inl ⟨_,rfl⟩
 ·cases h
theorem qBq(e:E)(he:qDB e=true)(A X:List Nat)(h:AH)(M:Mem)(σ:TS)(σh:List (Option V))(R:RelM gl A X h M)(rs:jh A X h σ σh):qIr gl A X h (pe gl P e σ M) (ev F e σh h):=by
 rcases j3 he with⟨as,rfl⟩|⟨a,b,rfl⟩
 ·rw[pe,ev];dsimp only;have s1:=zr hF as A X h M σ σh R rs;revert s1;generalize pes gl P as σ M=r;generalize evs F as σh h=rh;intro s1;cases r with
  |stuck=>trivial
  |exc c M'=>trivial
  |ok p=>
   obtain⟨x,M1⟩:=p;obtain⟨w,h1,rfl,f1,R1,q⟩:=s1;rw[PR.bind_ok,Res.bind_ok];dsimp only;rw[<-q.len];split
   ·exact⟨h1,w,rfl,f1,R1,q.1⟩
   ·trivial
 ·rw[pe,ev];dsimp only;have s1:=qe hF a A X h M σ σh R rs;revert s1;generalize pe gl P a σ M=r;generalize ev F a σh h=rh;intro s1;cases r with
  |stuck=>trivial
  |exc c M'=>trivial
  |ok p=>
   obtain⟨x,M1⟩:=p;obtain⟨v,h1,rfl,f1,R1,q1⟩:=s1;rw[PR.bind_ok,Res.bind_ok];dsimp only;have s2:=qe hF b A X h1 M1 σ σh R1 (R.keepS f1 rs);revert s2;generalize pe gl P b σ M1=r;generalize ev F b σh h1=rh;intro s2;cases r with
   |stuck=>trivial
   |exc c M'=>trivial
   |ok p=>
    obtain⟨y,M2⟩:=p;obtain⟨w,h2,rfl,f2,R2,q2⟩:=s2;rw[PR.bind_ok,Res.bind_ok];dsimp only;have rx:=R1.keep f2 q1.1;cases eb:qr M2 .add x.1 y.1 with
    |none=>trivial
    |some r=>
     rw[PR.ofO_some,PR.bind_ok];unfold qr at eb;split at eb
     ·cases eb;trivial
     ·cases eb
     ·rename_i e1 e2;dsimp only at eb;split at eb
      ·split at eb
       ·cases eb;trivial
       ·cases eb
      rename_i u0 u1 u2;clear u2;obtain⟨xs,m1,eb⟩:=Option.bind_eq_some_iff.mp eb;obtain⟨ys,m2,eb⟩:=Option.bind_eq_some_iff.mp eb;split at eb
      ·rename_i hl;cases eb;obtain⟨a1,vs,rfl,g1,k1⟩:=d8 R2 rx m1;obtain⟨a2,us,rfl,g2,k2⟩:=d8 R2 q2.1 m2;refine⟨h2,vs++us,?_,f1.trans f2,R2,reps_iff.mpr (zP (reps_iff.mp k1) (reps_iff.mp k2))⟩;show (match qt h2 a1,qt h2 a2 with|some xs,some ys=>if xs.length+ys.length<=lim then newL (xs++ys) h2 else .stuck|_,_=>_)=_;rw[g1,g2];dsimp only;rw[<-qE (reps_iff.mp k1),<-qE (reps_iff.mp k2),if_pos hl];rfl
      ·cases eb
     ·cases eb
omit hF in
theorem qAe{σ:List (Option V)}{h:AH}{x a:Nat}{k:Int}{vs:List V}{v:V}(ex:σ[x]?=some (some (.ref a)))(ea:h[a]?=some (.tup vs))(ev':(ixN vs.length k).bind (λj=>vs[j]?)=some v):ev F (.idx (.var x) (.cst (.int k))) σ h=.ok (v,h):=by
 have e0:ev F (.var x) σ h=.ok (.ref a,h):=by
  show (match σ[x]? with|some (some v)=>Res.ok (v,h)|_=>.stuck)=_;rw[ex]
 show (ev F (.var x) σ h).bind (λp=>match p.1,V.int k with
  | .ref p',.int i=>match items p.2 p' with
   |some xs=>match (ixN xs.length i).bind λj=>xs[j]? with|some v=>Res.ok (v,p.2)|none=>.stuck
   |none=>.stuck
  |_,_=>.stuck)=_
 rw[e0,Res.bind_ok];dsimp only;rw[show items h a=some vs by unfold items;rw[ea]];dsimp only;rw[ev']
omit hF in
theorem N9{σ:List (Option V)}{h:AH}{u:Nat}{v:V}(eu:σ[u]?=some (some v)):ev F (.var u) σ h=.ok (v,h):=by
 show (match σ[u]? with|some (some v)=>Res.ok (v,h)|_=>.stuck)=_;rw[eu]
omit hF in
theorem qEZ{σ:List (Option V)}{h:AH}{x u a D:Nat}{k i:Int}{vs:List V}{ks:List (Int×V)}(ex:σ[x]?=some (some (.ref a)))(ea:h[a]?=some (.tup vs))(ev':(ixN vs.length k).bind (λj=>vs[j]?)=some (.int i))(eu:σ[u]?=some (some (.ref D)))(eD:h[D]?=some (.ob (.dct ks))):ev F (.cmp .inn (.idx (.var x) (.cst (.int k))) (.var u)) σ h=.ok (.bl (ZK ks i),h):=by
 show (ev F (.idx (.var x) (.cst (.int k))) σ h).bind (λp=>(ev F (.var u) σ p.2).bind λq=>N2 .inn p.1 q.1 q.2)=_;rw[qAe ex ea ev',Res.bind_ok];dsimp only;rw[N9 eu,Res.bind_ok];unfold N2 O9 qAB;dsimp only;rw[show items h D=none by unfold items;rw[eD]];dsimp only;rw[show Qc h D=some ks by unfold Qc;rw[eD]]
omit hF in
theorem qDl{σ:List (Option V)}{h:AH}{x u a D:Nat}{k i:Int}{vs:List V}{ks:List (Int×V)}(ex:σ[x]?=some (some (.ref a)))(ea:h[a]?=some (.tup vs))(ev':(ixN vs.length k).bind (λj=>vs[j]?)=some (.int i))(eu:σ[u]?=some (some (.ref D)))(eD:h[D]?=some (.ob (.dct ks)))(hl:ks.length<lim):qB3 F u x k σ h=.ok (.nx σ,h.set D (.ob (.dct (jv ks i (.bl true))))):=by
 unfold qB3;rw[show ev F (.cst (.bl true)) σ h=.ok (.bl true,h) from rfl,Res.bind_ok];dsimp only;rw[N9 eu,Res.bind_ok];dsimp only;rw[qAe ex ea ev',Res.bind_ok];dsimp only;rw[show qt h D=none by unfold qt;rw[eD],show Qc h D=some ks by unfold Qc;rw[eD]];dsimp only;rw[if_pos ⟨rfl,hl⟩]
omit hF in
theorem Zo(ks:List (Int×V))(k:Int)(v:V):(jv ks k v).length<=ks.length+1:=by
 unfold jv;split<;>simp
omit hF in
theorem B1{σ:List (Option V)}{h h2:AH}{u x f i:Nat}{lv w:V}{b:Bool}(ei:σ[i]?=some (some lv))(ex:σ[x]?=some (some w))(ef:F f [lv,w] h=.ok (.bl b,h2)):asB (ev F (qHM u x f i) σ h)=if b then asB (ev F (.or (.cmp .inn (.idx (.var x) (.cst (.int 0))) (.var u)) (.cmp .inn (.idx (.var x) (.cst (.int 1))) (.var u))) σ h2) else .ok (true,h2):=by
 show asB ((asB ((asB (((ev F (.var i) σ h).bind λp=>((ev F (.var x) σ p.2).bind λq=>Res.ok ([q.1],q.2)).bind λq=>Res.ok (p.1::q.1,q.2)).bind λp=>(F f p.1 p.2).nx)).bind λp=>Res.ok (V.bl (!p.1),p.2))).bind λp=>if p.1 then Res.ok (V.bl true,p.2) else ev F (.or (.cmp .inn (.idx (.var x) (.cst (.int 0))) (.var u)) (.cmp .inn (.idx (.var x) (.cst (.int 1))) (.var u))) σ p.2)=_;rw[N9 ei,Res.bind_ok];dsimp only;rw[N9 ex,Res.bind_ok,Res.bind_ok,Res.bind_ok,ef];cases b<;>rfl
omit hF in
theorem T1{σ:List (Option V)}{h h2:AH}{u x f i:Nat}{lv w:V}(ei:σ[i]?=some (some lv))(ex:σ[x]?=some (some w))(ef:F f [lv,w] h=.ok (.bl false,h2)):jb F u x f i σ h=.ok (.rt (.bl false),h2):=by
 unfold jb;rw[B1 ei ex ef];rfl
omit hF in
theorem Y7{σ:List (Option V)}{h h2:AH}{u x f i a D:Nat}{lv:V}{p q:Int}{ks:List (Int×V)}(ei:σ[i]?=some (some lv))(ex:σ[x]?=some (some (.ref a)))(ef:F f [lv,.ref a] h=.ok (.bl true,h2))(ea:h2[a]?=some (.tup [.int p,.int q]))(eu:σ[u]?=some (some (.ref D)))(eD:h2[D]?=some (.ob (.dct ks)))(hl:ks.length+1<lim):
  jb F u x f i σ h=if ZK ks p||ZK ks q then .ok (.rt (.bl false),h2) else .ok (.nx σ,h2.set D (.ob (.dct (jv (jv ks p (.bl true)) q (.bl true))))):=by
 have i0:(ixN ([V.int p,V.int q]:List V).length 0).bind (λj=>([V.int p,V.int q]:List V)[j]?)=some (.int p):=rfl;have i1:(ixN ([V.int p,V.int q]:List V).length 1).bind (λj=>([V.int p,V.int q]:List V)[j]?)=some (.int q):=rfl;have c0:=qEZ (F:=F) ex ea i0 eu eD;have c1:=qEZ (F:=F) ex ea i1 eu eD;have ne:a≠D:=by rintro rfl;rw[ea]at eD;cases eD
 have lD:D<h2.length:=qJ eD;have p0:=qDl (F:=F) ex ea i0 eu eD (by omega);have ea':(h2.set D (.ob (.dct (jv ks p (.bl true)))))[a]?=some (.tup [.int p,.int q]):=by rw[List.getElem?_set_ne (Ne.symm ne)];exact ea
 have p1:=qDl (F:=F) ex ea' i1 eu (ks:=jv ks p (.bl true)) (by rw[List.getElem?_set_self lD]) (by have:=Zo ks p (.bl true);omega);unfold jb;rw[B1 ei ex ef,if_pos rfl];rw[show ev F (.or (.cmp .inn (.idx (.var x) (.cst (.int 0))) (.var u)) (.cmp .inn (.idx (.var x) (.cst (.int 1))) (.var u))) σ h2=(asB (ev F (.cmp .inn (.idx (.var x) (.cst (.int 0))) (.var u)) σ h2)).bind λp=>if p.1 then .ok (.bl true,p.2) else ev F (.cmp .inn (.idx (.var x) (.cst (.int 1))) (.var u)) σ p.2 from rfl,c0];cases ZK ks p with
 |true=>rfl
 |false=>
  rw[show (asB (.ok (.bl false,h2))).bind (λp:Bool×AH=>if p.1 then .ok (.bl true,p.2) else ev F (.cmp .inn (.idx (.var x) (.cst (.int 1))) (.var u)) σ p.2)=ev F (.cmp .inn (.idx (.var x) (.cst (.int 1))) (.var u)) σ h2 from rfl,c1];cases ZK ks q with
  |true=>rfl
  |false=>
   show C8 (qB3 F u x 0 σ h2) (λσ h=>C8 (qB3 F u x 1 σ h) λσ h=>Res.ok (Out.nx σ,h))=_;rw[p0];show C8 (qB3 F u x 1 σ (h2.set D (.ob (.dct (jv ks p (.bl true)))))) (λσ h=>Res.ok (Out.nx σ,h))=_;rw[p1,List.set_set];rfl
def SimN(gl:List T)(A X:List Nat)(D n0:Nat)(h:AH):RSt->RS->Prop
 | .ok (o,M'),r=>∃oh h',r=.ok (oh,h')/\Frm (A++[D]) h h'/\RelM gl A X h' M'/\RelO gl A X n0 h' M' o oh
 | .exc _ _,_=>False
 | .stuck,_=>True
omit hF in
theorem SimN.pre{A X:List Nat}{D n0:Nat}{h h1:AH}{r:RSt}{rh:RS}(s:SimN gl A X D n0 h1 r rh)(f:Frm (A++[D]) h h1):SimN gl A X D n0 h r rh:=by
 match r,s with
 | .ok (o,M'),⟨oh,h',e,f1,R,ro⟩=>exact⟨oh,h',e,f.trans f1,R,ro⟩
 | .exc _ _,z=>exact z.elim
 | .stuck,_=>trivial
omit hF in
theorem Frm.more{A:List Nat}{D:Nat}{h h':AH}(f:Frm A h h'):Frm (A++[D]) h h':=⟨f.1,λj hj hA=>f.2 j hj λz=>hA (wE _ z)⟩
theorem X6{A X:List Nat}{s:Src}{its:List T}{d:jT}{u x f i D n0:Nat}{l:T}(hi:u≠i/\x≠i/\u≠x)(hD:D∈X)(hA:D∉A):∀(r:List T) (n:Nat) (ks:List (Int×V)) (σ:TS) (σh:List (Option V)) (M:Mem) (h:AH) (lv:V),
   its.drop n=r->n<=its.length->RelM gl A X h M->QS A X h s its d->jh A X h σ σh->σh[u]?=some (some (.ref D))->h[D]?=some (.ob (.dct ks))->σh[i]?=some (some lv)->Rep A X h l lv->x<σh.length->n0<=h.length->SimN gl A X D n0 h (Qa P d f x l r ks σ M) (A0 s (.name x) (jb F u x f i) r.length n σh h)
 | [],n,ks,σ,σh,M,h,lv,hr,hn,R,sr,rs,eu,eD,ei,rl,hx,h0=>by
  have hi':n=its.length:=by
   have:=wv.mp hr;omega
  subst hi';show SimN gl A X D n0 h (.ok (.nx σ,M)) (if jX h its.length s then _ else _);rw[if_pos (Qu sr)];exact⟨_,h,rfl,Frm.refl _ _,R,rs⟩
 |t::r,n,ks,σ,σh,M,h,lv,hr,hn,R,sr,rs,eu,eD,ei,rl,hx,h0=>by
  have ex:its[n]?=some t:=by
   have:(its.drop n)[0]?=some t:=by rw[hr];rfl
   rwa [List.getElem?_drop,Nat.add_zero]at this
  have hn2:n+1<=its.length:=(List.getElem?_eq_some_iff.mp ex).1;have hr2:its.drop (n+1)=r:=by
   rw[<-List.drop_drop,hr];rfl
  obtain⟨w,ext,ey,rx⟩:=QN R sr ex;have fy:Frm A h (h++ext):=Frm.app A h ext;have R1:=R.up ext;have rl1:=R.keep fy rl;rw[List.length_cons];unfold Qa A0;rw[ey];have st:store (.name x) w σh (h++ext)=some (σh.set x (some w)):=rfl;dsimp only;rw[st];dsimp only;have ei1:(σh.set x (some w))[i]?=some (some lv):=by rw[List.getElem?_set_ne hi.2.1];exact ei
  have eu1:(σh.set x (some w))[u]?=some (some (.ref D)):=by rw[List.getElem?_set_ne (Ne.symm hi.2.2)];exact eu
  have ex1:(σh.set x (some w))[x]?=some (some w):=List.getElem?_set_self hx;have sm:=hF f [l,t] [lv,w] A X (h++ext) M R1 (by unfold qL;exact⟨lv,[w],rfl,rl1,by unfold qL;exact⟨w,[],rfl,rx,by unfold qL;rfl⟩⟩);revert sm;generalize P f [l,t] M=rp;intro sm
  match rp,sm with
  | .stuck,_=>trivial
  | .exc _ _,_=>trivial
  | .ok ((y,fl),M2),⟨yv,h2,ef,f2,R2,q⟩=>
   rw[PR.nx_ok,PR.bind_ok];dsimp only;have rt_ok:RelO gl A X n0 h2 M2 (.rt (bT false)) (.rt (.bl false)):=by
    have rr:Rep A X h2 (.v (.bl false)) (.bl false):=by unfold Rep;exact⟨rfl,rfl⟩
    exact⟨rr,λ_=>Frs.of_lf R2 rr rfl⟩
   have fr2:Frm (A++[D]) h h2:=(fy.trans f2).more;split
   ·rename_i ee;have ry:=q.1;unfold Rep at ry;rw[ry.1]at ef;rw[T1 ei1 ex1 ef];exact⟨_,h2,rfl,fr2,R2,rt_ok⟩
   ·rename_i ee;have ry:=q.1;unfold Rep at ry;rw[ry.1]at ef;split
    ·rename_i p q';have rx2:=R1.keep f2 rx;unfold Rep at rx2;obtain⟨a,vs,rfl,ax,ea,rvs⟩:=rx2;have hvs:vs=[.int p,.int q']:=by
      unfold qL at rvs;obtain⟨v1,vs1,rfl,r1,rvs⟩:=rvs;unfold qL at rvs;obtain⟨v2,vs2,rfl,r2,rvs⟩:=rvs;unfold qL at rvs;unfold Rep at r1 r2;rw[rvs,r1.1,r2.1]
     subst hvs;have eD2:h2[D]?=some (.ob (.dct ks)):=by
      rw[(fy.trans f2).2 D (qJ eD) hA];exact eD
     have lD:D<h2.length:=qJ eD2;split
     ·rename_i hd;rw[Y7 ei1 ex1 ef ea eu1 eD2 hd.2];split
      ·exact⟨_,h2,rfl,fr2,R2,rt_ok⟩
      ·have kp:∀a o,a∉X->h[a]?=some o->a∉X/\(h2.set D (.ob (.dct (jv (jv ks p (.bl true)) q' (.bl true)))))[a]?=some o:=λa o z e=>⟨z,by
        rw[List.getElem?_set_ne (by rintro rfl;exact z hD)];exact((R.keepN (fy.trans f2)) a o z e).2⟩
       have R3:=R2.setX hD hA (.ob (.dct (jv (jv ks p (.bl true)) q' (.bl true))));have kp2:∀a o,a∉X->h2[a]?=some o->a∉X/\(h2.set D (.ob (.dct (jv (jv ks p (.bl true)) q' (.bl true)))))[a]?=some o:=λa o z e=>⟨z,by
        rw[List.getElem?_set_ne (by rintro rfl;exact z hD)];exact e⟩
       have fr3:Frm (A++[D]) h (h2.set D (.ob (.dct (jv (jv ks p (.bl true)) q' (.bl true))))):=fr2.set (.inl (by simp)) _;refine SimN.pre ?_ fr3;exact X6 hi hD hA r (n+1) _ _ _ M2 _ lv hr2 hn2 R3 (Jk sr (λa o z e=>(kp a o z e).2) R3 hd.1) (zN x (zM (λ_ _ e=>e) kp rs) (show qA8 A X _ (some _) (some _) from qz (λ_ _ e=>e) kp2 _ (R1.keep f2 rx))) eu1 (List.getElem?_set_self lD) ei1 (qz (λ_ _ e=>e) kp _ rl) (by simpa using hx) (by have:=fr3.1;omega)
     ·trivial
    ·trivial
   ·trivial
mutual
theorem qEl:∀(s:S) (A X:List Nat) (h:AH) (M:Mem) (σ:TS) (σh:List (Option V)),RelM gl A X h M->jh A X h σ σh->SimS gl A X h (px gl P C s σ M) (ex F s σh h)
 | .asg g e,A,X,h,M,σ,σh,R,rs=>by
  rw[px,ex];dsimp only;have se:=qe hF e A X h M σ σh R rs;have tp:=λhe=>qBq hF e he A X h M σ σh R rs;revert se tp;generalize pe gl P e σ M=r;generalize ev F e σh h=rh;intro se tp;cases r with
  |stuck=>trivial
  |exc c M'=>
   obtain⟨h',rfl,f1,R1⟩:=se;exact⟨h',[],rfl,f1,λb hb=>by simp at hb,by simpa using R1⟩
  |ok p=>
   obtain⟨x,M1⟩:=p;obtain⟨w,h1,rfl,f1,R1,q⟩:=se;rw[PR.bind_ok,Res.bind_ok];dsimp only;have gen:∀{g:Tg}{σ1:TS},zF g x.1 σ=some σ1->SimS gl A X h (.ok (.nx σ1,M1)) (match store g w σh h1 with|some σ1=>.ok (.nx σ1,h1)|none=>.stuck):=λe=>by
    obtain⟨σh1,e2,rs2⟩:=store_ok e q.1 (R.keepS f1 rs);rw[e2];exact(SimS.mk (o:=.nx _) (oh:=.nx _) R1 rs2).pre f1
   cases g with
   |name i=>
    dsimp only;split
    ·rename_i hc;rw[Bool.and_eq_true]at hc;obtain⟨fp,p,nd,l,R',_⟩:=q.2 hc.2;obtain⟨R2,r2⟩:=R'.thaw R.sub p nd;refine⟨.nx (σh.set i (some w)),h1,fp,rfl,f1,l,R2,?_⟩;exact zN i (zM jI (ZU R.sub f1 l) rs) (show qA8 _ _ h1 (some _) (some w) from r2)
    ·split
     ·rename_i hc;rw[Bool.and_eq_true]at hc;have tp:=tp hc.2;obtain⟨x1,x2⟩:=x;dsimp only;split
      ·rename_i ts;obtain⟨h0,vs,e0,f0,R0,r0⟩:=tp;cases e0;refine⟨.nx (σh.set i (some (.ref h0.length))),_,[h0.length],rfl,f0.trans (Frm.app A h0 _),λb hb=>by simp at hb;have:=f0.1;omega,R0.cellN r0,?_⟩;refine zN i (zM jI (ZU R0.sub (Frm.app A h0 _) (λb hb=>by simp at hb;omega)) (R.keepS f0 rs)) (show qA8 _ _ _ (some _) (some _) from ?_);have rc:Rep (A++[h0.length]) (X++[h0.length]) (h0++[O.lst false vs]) (.cell M1.length) (.ref h0.length):=by
        unfold Rep;exact⟨h0.length,by rw[<-R0.len];simp,rfl⟩
       exact rc
      ·exact SimS.stuck
     ·exact gen (g:=.name i) rfl
   |tup is=>
    dsimp only;split
    ·rename_i σ1 e;exact gen e
    ·exact SimS.stuck
 | .put o i v,A,X,h,M,σ,σh,R,rs=>by
  rw[px,ex];dsimp only;refine Sim.bindS (qe hF v A X h M σ σh R rs) ?_;intro x M1 vx h1 f1 R1 q1;dsimp only;refine Sim.bindS (qe hF o A X h1 M1 σ σh R1 (R.keepS f1 rs)) ?_;intro y M2 w h2 f2 R2 q2;dsimp only;refine Sim.bindS (qe hF i A X h2 M2 σ σh R2 (R1.keepS f2 (R.keepS f1 rs))) ?_;intro z M3 u h3 f3 R3 q3;dsimp only;obtain⟨ty,fy⟩:=y;obtain⟨tz,fz⟩:=z;dsimp only;split
  ·rename_i n k;cases zU q3.1;have q:=R2.keep f3 q2.1;unfold Rep at q;obtain⟨p,ep,rfl⟩:=q;obtain⟨ts2,vs2,g1,g2,g3⟩:=R3.at_ n p ep;rw[g1];dsimp only;rw[show qt h3 p=some vs2 by unfold qt;rw[g2]];dsimp only;rw[<-qE (reps_iff.mp g3)];split
   ·rename_i j ej
    try simp only[ej]
    obtain⟨R4,f4⟩:=R3.put ep (reps_iff.mpr (zN j (reps_iff.mp g3) (R2.keep f3 (R1.keep f2 q1.1))));exact(SimS.mk (o:=.nx σ) (oh:=.nx σh) R4 (R3.keepS f4 (R2.keepS f3 (R1.keepS f2 (R.keepS f1 rs))))).pre f4
   ·exact SimS.stuck
  ·exact SimS.stuck
 | .expr e,A,X,h,M,σ,σh,R,rs=>by
  rw[px,ex];dsimp only;refine Sim.bindS (qe hF e A X h M σ σh R rs) ?_;intro x M1 v h1 f1 R1 q1;dsimp only;exact SimS.mk (o:=.nx σ) (oh:=.nx σh) R1 (R.keepS f1 rs)
 | .ret e,A,X,h,M,σ,σh,R,rs=>by
  rw[px,ex];dsimp only;have se:=qe hF e A X h M σ σh R rs;revert se;generalize pe gl P e σ M=r;generalize ev F e σh h=rh;intro se;cases r with
  |stuck=>trivial
  |exc c M'=>
   obtain⟨h',rfl,f1,R1⟩:=se;exact⟨h',[],rfl,f1,λb hb=>by simp at hb,by simpa using R1⟩
  |ok p=>
   obtain⟨x,M1⟩:=p;obtain⟨w,h1,rfl,f1,R1,q⟩:=se;exact⟨.rt w,h1,[],rfl,f1,λb hb=>by simp at hb,by simpa using R1,by simpa using (show RelO gl A X h.length h1 M1 (.rt x) (.rt w) from q)⟩
 | .ifs c t u,A,X,h,M,σ,σh,R,rs=>by
  rw[px,ex];dsimp only;refine Sim.bindS (T3 (qe hF c A X h M σ σh R rs)) ?_;rintro x M1 v h1 f1 R1 rfl;dsimp only;cases x with
  |true=>simp only[if_true];exact Jr t A X h1 M1 σ σh R1 (R.keepS f1 rs)
  |false=>simp only[Bool.false_eq_true,if_false];exact Jr u A X h1 M1 σ σh R1 (R.keepS f1 rs)
 | .for_ g it b,A,X,h,M,σ,σh,R,rs=>by
  rw[px,ex];dsimp only;refine Sim.bindS (Y5 hF it A X h M σ σh R rs) ?_;intro s M1 sh h1 f1 R1 q1;dsimp only;rw[JN q1];exact U8 (λA X h M σ σh R rs=>Jr b A X h M σ σh R rs) s.1 0 σ σh M1 h1 A X rfl (Nat.zero_le _) R1 q1 (R.keepS f1 rs)
 | .xexpr f as,A,X,h,M,σ,σh,R,rs=>by
  rw[px,ex];dsimp only;refine Sim.bindS (zr hF as A X h M σ σh R rs) ?_;intro x M1 v h1 f1 R1 q1;dsimp only;refine Sim.bindS (hF f _ _ A X h1 M1 R1 q1.1) ?_;intro y M2 w h2 f2 R2 q2;dsimp only;exact SimS.mk R2 (R1.keepS f2 (R.keepS f1 rs))
 | .nloop u x f i a,A,X,h,M,σ,σh,R,rs=>by
  rw[px,ex];dsimp only;split
  ·exact SimS.stuck
  ·rename_i hne;have hX:∀b,b∈X++[h.length]↔b=h.length\/b∈X:=λb=>by rw[wC,wM];exact Or.comm
   have R0:=R.addX (o:=.ob (.dct [])) hX;have hn:∀b o,b∉X->h[b]?=some o->b∉X++[h.length]/\(h++[O.ob (.dct [])])[b]?=some o:=ZU R.sub (Frm.app A h _) (λb hb=>by simp at hb;omega);have rs0:jh A (X++[h.length]) (h++[O.ob (.dct [])]) (σ.set u none) (σh.set u (some (.ref h.length))):=zN u (zM (λ_ _ e=>e) hn rs) (show qA8 A _ _ none _ from trivial);have ll:=qE rs;have sp:=Y5 hF (.list a) A (X++[h.length]) _ M _ _ R0 rs0;revert sp;generalize pei gl P (.list a) (σ.set u none) M=rp;generalize evi F (.list a) (σh.set u (some (.ref h.length))) (h++[O.ob (.dct [])])=re;intro sp
   match rp,sp with
   | .stuck,_=>exact SimS.stuck
   | .exc c M1,⟨h1,e,f1,R1⟩=>
    subst e;exact⟨h1,[],rfl,(Frm.app A h _).trans f1,λb hb=>by simp at hb,by simpa using R1.weak (λa ha=>(hX a).mpr (.inr ha)) R.sub⟩
   | .ok (s,M1),⟨sh,h1,e,f1,R1,q1⟩=>
    subst e;rw[PR.bind_ok,Res.bind_ok];dsimp only;rw[JN q1];dsimp only;split
    ·rename_i l el;obtain⟨lv,elv,rl⟩:=JA rs el;have hD:h.length∈X++[h.length]:=by simp
     have hA:h.length∉A:=λz=>by have:=R.lt _ (R.sub _ z);omega
     have e1:h1[h.length]?=some (.ob (.dct [])):=by
      rw[f1.2 h.length (by simp) hA];simp
     have kp:∀b o,b∉X->h[b]?=some o->b∉X++[h.length]/\h1[b]?=some o:=λb o z e=>⟨(hn b o z e).1,((R0.keepN f1) b o (hn b o z e).1 (hn b o z e).2).2⟩
     have sn:=X6 (n0:=h.length) hF (u:=u) (x:=x) (f:=f) (i:=i) (D:=h.length) (l:=l) (s:=sh) (its:=s.1) (d:=s.2) (by omega) hD hA s.1 0 [] (σ.set u none) (σh.set u (some (.ref h.length))) M1 h1 lv rfl (Nat.zero_le _) R1 q1 (R0.keepS f1 rs0) (List.getElem?_set_self (by omega)) e1 (by rw[List.getElem?_set_ne (by omega)];exact elv) (qz (λ_ _ e=>e) kp l rl) (by simp;omega) (by have:=f1.1;simp at this;omega);revert sn;generalize Qa P s.2 f x l s.1 [] (σ.set u none) M1=r2;generalize A0 sh (.name x) (jb F u x f i) s.1.length 0 (σh.set u (some (.ref h.length))) h1=re2;intro sn;have wk:∀(h':AH) (b:Nat) (o:O),b∉X++[h.length]->h'[b]?=some o->b∉X/\h'[b]?=some o:=λh' b o z e=>⟨λy=>z ((hX b).mpr (.inr y)),e⟩
     match r2,sn with
     | .stuck,_=>exact SimS.stuck
     | .exc _ _,z=>exact z.elim
     | .ok (o,M2),⟨oh,h2,e,f2,R2,ro⟩=>
      subst e;have R3:RelM gl A X h2 M2:=R2.weak (λa ha=>(hX a).mpr (.inr ha)) R.sub;refine⟨oh,h2,[],rfl,?_,λb hb=>by simp at hb,by simpa using R3,?_⟩
      ·have g1:=(Frm.app A h [O.ob (.dct [])]).trans f1;refine⟨Nat.le_trans g1.1 f2.1,λj hj hjA=>?_⟩;rw[f2.2 j (wD hj g1.1) (λz=>by
        rcases wC.mp z with z|z
        ·exact hjA z
        ·simp at z;omega),g1.2 j hj hjA]
      ·rw[List.append_nil,List.append_nil];cases o<;>cases oh<;>first|exact ro.elim|exact zM (λ_ _ e=>e) (wk h2) ro|skip
       refine⟨qz (λ_ _ e=>e) (wk h2) _ ro.1,λe=>?_⟩;obtain⟨fp,p1,p2,p3,p4,p5⟩:=ro.2 e;have wkr:∀{Z:List Nat},RelM gl A (X++[h.length]++Z) h2 M2->RelM gl A (X++Z) h2 M2:=λ{Z} q=>q.weak (λa ha=>by
        rcases wC.mp ha with z|z
        ·exact wE _ ((hX a).mpr (.inr z))
        ·exact wG _ z) (λa ha=>wE _ (R.sub a ha))
       exact⟨fp,Qj (wk h2) _ p1,p2,p3,wkr p4,λkvs e=>by obtain⟨a,q1,q2,q3⟩:=p5 kvs e;exact⟨a,q1,q2,wkr q3⟩⟩
    ·exact SimS.stuck
 | .raise c,A,X,h,M,σ,σh,R,rs=>by
  rw[px,ex];exact⟨h,[],rfl,Frm.refl A h,λb hb=>by simp at hb,by simpa using R⟩
 | .tryK b e i m ks,A,X,h,M,σ,σh,R,rs=>by
  rw[px,ex];dsimp only;have sb:=qEl b A X h M σ σh R rs;revert sb;generalize px gl P C b σ M=r;generalize ex F b σh h=rh;intro sb;cases r with
  |stuck=>trivial
  |ok p=>
   obtain⟨o,M'⟩:=p;obtain⟨oh,h',B,rfl,q⟩:=sb;exact⟨oh,h',B,rfl,q⟩
  |exc c M1=>
   obtain⟨h',B,rfl,f1,hB,R1⟩:=sb;dsimp only;by_cases hcm:c<m
   case neg=>rw[if_neg hcm];exact SimS.stuck
   rw[if_pos hcm,if_pos hcm];have rp:Rep (A++B) (X++B) (h'++[O.lst false (ks.map λk=>V.bl (ZP c k))]) (.lst (ks.map λk=>.v (.bl (ZP c k)))) (.ref h'.length):=by
    unfold Rep;refine⟨h'.length,ks.map λk=>V.bl (ZP c k),rfl,λz=>by have:=R1.lt _ z;omega,by simp,?_⟩;have go:∀(l:List Nat) (g:AH),qL (A++B) (X++B) g (l.map λk=>.v (.bl (ZP c k))) (l.map λk=>V.bl (ZP c k)):=λl g=>by
     induction l with
     |nil=>unfold qL;rfl
     |cons a r ih=>
      rw[List.map_cons,List.map_cons];unfold qL;exact⟨_,_,rfl,by unfold Rep;exact⟨rfl,rfl⟩,ih⟩
    exact go ks _
   refine⟨_,_,B,rfl,f1.trans (Frm.app A h' _),hB,R1.up _,?_⟩;refine zN e (zN i (zM jI (ZU R.sub (f1.trans (Frm.app A h' _)) hB) rs) ?_) ?_
   ·exact rp
   ·trivial
 | .xrn o f as,A,X,h,M,σ,σh,R,rs=>by
  rw[px,ex];dsimp only;refine Sim.bindS (zr hF as A X h M σ σh R rs) ?_;intro x M1 v h1 f1 R1 q1;dsimp only;have se:=hF f _ _ A X h1 M1 R1 q1.1;revert se;generalize P f (x.map (·.1)) M1=r;generalize F f v h1=rh;intro se;cases r with
  |stuck=>trivial
  |exc c M'=>
   obtain⟨h',rfl,f1,R1⟩:=se;exact⟨h',[],rfl,f1,λb hb=>by simp at hb,by simpa using R1⟩
  |ok p=>
   obtain⟨x,M2⟩:=p;obtain⟨w,h2,rfl,f2,R2,q⟩:=se;dsimp only[PR.bind];cases ec:zO M2 o x.1 (.v .non) with
   |none=>trivial
   |some b=>
    have e2:O9 o w .non h2=some b:=Zw R2 q.1 (show Rep A X h2 (.v .non) .non by unfold Rep;exact⟨rfl,rfl⟩) ec;have e3:N2 o w .non h2=.ok (.bl b,h2):=by unfold N2;rw[e2]
    refine⟨.rt (.bl b),h2,[],by dsimp only[Res.bind];rw[e3],f2,λb hb=>by simp at hb,by simpa using R2,?_⟩;have rb:Rep A X h2 (.v (.bl b)) (.bl b):=by unfold Rep;exact⟨rfl,rfl⟩
    simpa using (show RelO gl A X h1.length h2 M2 (.rt (bT b)) (.rt (.bl b)) from⟨rb,λ_=>Frs.of_lf R2 rb rfl⟩)
 | .xret f as,A,X,h,M,σ,σh,R,rs=>by
  rw[px,ex];dsimp only;refine Sim.bindS (zr hF as A X h M σ σh R rs) ?_;intro x M1 v h1 f1 R1 q1;dsimp only;have se:=hF f _ _ A X h1 M1 R1 q1.1;revert se;generalize P f (x.map (·.1)) M1=r;generalize F f v h1=rh;intro se;cases r with
  |stuck=>trivial
  |exc c M'=>
   obtain⟨h',rfl,f1,R1⟩:=se;exact⟨h',[],rfl,f1,λb hb=>by simp at hb,by simpa using R1⟩
  |ok p=>
   obtain⟨x,M2⟩:=p;obtain⟨w,h2,rfl,f2,R2,q⟩:=se;exact⟨.rt w,h2,[],rfl,f2,λb hb=>by simp at hb,by simpa using R2,by simpa using (show RelO gl A X h1.length h2 M2 (.rt x) (.rt w) from q)⟩
 | .stop,A,X,h,M,σ,σh,R,rs=>by rw[px,ex];exact SimS.stuck
theorem Jr:∀(s:Ss) (A X:List Nat) (h:AH) (M:Mem) (σ:TS) (σh:List (Option V)),RelM gl A X h M->jh A X h σ σh->SimS gl A X h (pxs gl P C s σ M) (exs F s σh h)
 | .nil,A,X,h,M,σ,σh,R,rs=>by rw[pxs,exs];exact SimS.mk (o:=.nx σ) (oh:=.nx σh) R rs
 | .cons s r,A,X,h,M,σ,σh,R,rs=>by
  rw[pxs,exs];dsimp only;refine SimS.bind (qEl s A X h M σ σh R rs) ?_;intro o M1 oh h1 B f1 hB R1 ro;cases o with
  |nx σ2=>cases oh<;>first|exact .inl (Jr r _ _ h1 M1 _ _ R1 ro)|exact ro.elim
  |ct σ2=>cases oh<;>first|exact .inr ⟨rfl,rfl⟩|exact ro.elim
  |bk σ2=>cases oh<;>first|exact .inr ⟨rfl,rfl⟩|exact ro.elim
  |rt t=>cases oh<;>first|exact .inr ⟨rfl,rfl⟩|exact ro.elim
end
end
section
variable{gl:List T}{A X B:List Nat}{h h':AH}{M M1:Mem}
theorem mapM_cons{α β:Type}{f:α->Option β}{x:α}{xs:List α}{ys:List β}(e:(x::xs).mapM f=some ys):∃y ys',f x=some y/\xs.mapM f=some ys'/\ys=y::ys':=by
 rw[List.mapM_cons]at e;cases hf:f x with
 |none=>rw[hf]at e;cases e
 |some y=>
  rw[hf]at e;cases hg:xs.mapM f with
  |none=>rw[hg]at e;cases e
  |some ys'=>rw[hg]at e;cases e;exact⟨y,ys',rfl,rfl,rfl⟩
theorem mapM_nil{α β:Type}{f:α->Option β}{ys:List β}(e:([]:List α).mapM f=some ys):ys=[]:=by
 rw[List.mapM_nil]at e;cases e;rfl
theorem jt{A1 X1:List Nat}{f:T->Option T}(hf:∀t t' w,f t=some t'->Rep A1 X1 h t w->Rep A X h t' w):∀{ts ts':List T}{vs:List V},ts.mapM f=some ts'->qL A1 X1 h ts vs->qL A X h ts' vs
 | [],ts',vs,e,r=>by cases mapM_nil e;unfold qL at r ⊢;exact r
 |t::ts,ts',vs,e,r=>by
  obtain⟨y,ys,e1,e2,rfl⟩:=mapM_cons e;unfold qL at r ⊢;obtain⟨v,vs',rfl,a,b⟩:=r;exact⟨v,vs',rfl,hf _ _ _ e1 a,jt hf e2 b⟩
theorem Q9(R:RelM gl (A++B) (X++B) h M1)(hB:∀b∈B,b∉X):∀(d:Nat) (t t':T) (w:V),qT M1 A.length d t=some t'->Rep (A++B) (X++B) h t w->Rep A X h t' w:=by
 have hu:∀(t:T) (w:V),t.und A.length=true->Rep (A++B) (X++B) h t w->Rep A X h t w:=λt w u r=>f9 (λn hn=>List.getElem?_append_left hn) (λa ha=>wE _ ha) t r u;have hX:∀a,a∉X++B->a∉X:=λa x z=>x (wE _ z);intro d
 induction d with
 |zero=>
  intro t t' w e r;unfold qT at e;split at e
  ·rename_i u;cases e;exact hu _ w u r
  ·cases e
 |succ d ih=>
  intro t t' w e r;unfold qT at e;split at e
  ·rename_i u;cases e;exact hu _ w u r
  ·rename_i u;cases t with
   |v x=>cases e
   |ob o=>cases e
   |fz ts=>cases e
   |lst ts=>
    obtain⟨ts',e1,rfl⟩:=Option.map_eq_some_iff.mp e;unfold Rep at r ⊢;obtain⟨a,vs,rfl,q1,q2,q3⟩:=r;exact⟨a,vs,rfl,hX a q1,q2,jt ih e1 q3⟩
   |tup ts=>
    obtain⟨ts',e1,rfl⟩:=Option.map_eq_some_iff.mp e;unfold Rep at r ⊢;obtain⟨a,vs,rfl,q1,q2,q3⟩:=r;exact⟨a,vs,rfl,hX a q1,q2,jt ih e1 q3⟩
   |cell n=>
    obtain⟨ts,e0,e⟩:=Option.bind_eq_some_iff.mp (show (M1[n]?).bind _=_ from e);obtain⟨ts',e1,rfl⟩:=Option.map_eq_some_iff.mp e;have hn:A.length<=n:=by
     unfold T.und at u;simpa using u
    unfold Rep at r ⊢;obtain⟨a,ea,rfl⟩:=r;obtain⟨ts2,vs,g1,g2,g3⟩:=R.at_ n a ea;rw[e0]at g1;cases g1;rw[List.getElem?_append_right hn]at ea;exact⟨a,vs,rfl,hB a (List.mem_of_getElem? ea),g2,jt ih e1 g3⟩
mutual
theorem Z4(n:Nat):∀(t:T),t.lf=true->t.und n=true
 | .v x,_=>rfl
 | .cell _,l=>by unfold T.lf at l;cases l
 | .ob _,_=>rfl
 | .fz _,l=>by unfold T.lf at l;cases l
 | .lst _,l=>by unfold T.lf at l;cases l
 | .tup ts,l=>by unfold T.lf at l;unfold T.und;exact JF n ts l
theorem JF(n:Nat):∀(ts:List T),T.lfs ts=true->T.unds n ts=true
 | [],_=>rfl
 |t::ts,l=>by unfold T.lfs at l;rw[Bool.and_eq_true]at l;unfold T.unds;rw[Z4 n t l.1,JF n ts l.2];rfl
end
theorem Y1{n0:Nat}{f:T->Option (List Nat)}(hf:∀t l,f t=some l->t.und n0=true->t.lf=true):∀{ts:List T}{ls:List (List Nat)},ts.mapM f=some ls->T.unds n0 ts=true->T.lfs ts=true
 | [],ls,e,u=>rfl
 |t::ts,ls,e,u=>by
  obtain⟨y,ys,e1,e2,rfl⟩:=mapM_cons e;unfold T.unds at u;rw[Bool.and_eq_true]at u;unfold T.lfs;rw[hf t _ e1 u.1,Y1 hf e2 u.2];rfl
theorem i9{n0:Nat}:∀(d:Nat) (t:T) (l:List Nat),jU M1 n0 d t=some l->t.und n0=true->t.lf=true:=by
 intro d
 induction d with
 |zero=>intro t l e u;unfold jU at e;split at e<;>first|assumption|cases e
 |succ d ih=>
  intro t l e u;unfold jU at e;split at e
  ·assumption
  ·cases t with
   |tup ts=>
    obtain⟨ls,e1,rfl⟩:=Option.map_eq_some_iff.mp e;unfold T.und at u;unfold T.lf;exact Y1 ih e1 u
   |cell n=>
    dsimp only at e;split at e
    ·rename_i hn;unfold T.und at u;simp at u;omega
    ·cases e
   |v x=>cases e
   |ob o=>cases e
   |fz ts=>cases e
   |lst ts=>cases e
theorem Zv{A1 X1:List Nat}{n0:Nat}{f:T->Option (List Nat)}{g:T->Option T}(hf:∀t l t' w,f t=some l->g t=some t'->Rep A1 X1 h t w->∃fp,FP X h t' w fp/\fp.map some=l.map (A1[·]?)/\∀n∈l,n0<=n):
  ∀{ts ts':List T}{ls:List (List Nat)}{vs:List V},ts.mapM f=some ls->ts.mapM g=some ts'->qL A1 X1 h ts vs->∃fp,FPs X h ts' vs fp/\fp.map some=ls.flatten.map (A1[·]?)/\∀n∈ls.flatten,n0<=n
 | [],ts',ls,vs,e,e',r=>by
  cases mapM_nil e;cases mapM_nil e';unfold qL at r;exact⟨[],by unfold FPs;exact⟨r,rfl⟩,rfl,λn hn=>by simp at hn⟩
 |t::ts,ts',ls,vs,e,e',r=>by
  obtain⟨y,ys,e1,e2,rfl⟩:=mapM_cons e;obtain⟨z,zs,e3,e4,rfl⟩:=mapM_cons e';unfold qL at r;obtain⟨v,vs',rfl,a,b⟩:=r;obtain⟨f1,p1,q1,n1⟩:=hf _ _ _ _ e1 e3 a;obtain⟨f2,p2,q2,n2⟩:=Zv hf e2 e4 b;refine⟨f1++f2,by unfold FPs;exact⟨v,vs',f1,f2,rfl,p1,p2,rfl⟩,by simp[q1,q2],λn hn=>?_⟩;rw[List.flatten_cons]at hn;rcases wC.mp hn with z|z
  ·exact n1 n z
  ·exact n2 n z
theorem Qp{n0:Nat}{d:Nat}{t t':T}(u:t.und n0=true)(e:qT M1 n0 d t=some t'):t'=t:=by
 cases d<;>(unfold qT at e;rw[if_pos u]at e;cases e;rfl)
theorem qAa(R:RelM gl (A++B) (X++B) h M1)(hB:∀b∈B,b∉X):∀(d:Nat) (t:T) (l:List Nat) (t':T) (w:V),jU M1 A.length d t=some l->qT M1 A.length d t=some t'->Rep (A++B) (X++B) h t w ->
  ∃fp,FP X h t' w fp/\fp.map some=l.map ((A++B)[·]?)/\∀n∈l,A.length<=n:=by
 have hX:∀a,a∉X++B->a∉X:=λa x z=>x (wE _ z);have lfc:∀{d:Nat}{t t':T}{w:V},t.lf=true->qT M1 A.length d t=some t'->Rep (A++B) (X++B) h t w->∃fp:List Nat,FP X h t' w fp/\fp.map some=([]:List Nat).map ((A++B)[·]?)/\∀n∈([]:List Nat),A.length<=n:=by
  intro d t t' w l e r;cases Qp (Z4 _ t l) e;exact⟨[],Qj (λa o x y=>⟨hX a x,y⟩) _ (qCo _ r l),rfl,λn hn=>by simp at hn⟩
 intro d
 induction d with
 |zero=>
  intro t l t' w e e' r;unfold jU at e;split at e
  ·rename_i hl;cases e;exact lfc hl e' r
  ·cases e
 |succ d ih=>
  intro t l t' w e e' r;unfold jU at e;split at e
  ·rename_i hl;cases e;exact lfc hl e' r
  ·rename_i hl;have hu:t.und A.length≠true:=λu=>hl (i9 (M1:=M1) (d+1) t l (by unfold jU;rw[if_neg hl];exact e) u);unfold qT at e';rw[if_neg hu]at e';cases t with
   |tup ts=>
    obtain⟨ls,e1,rfl⟩:=Option.map_eq_some_iff.mp e;obtain⟨ts',e2,rfl⟩:=Option.map_eq_some_iff.mp e';unfold Rep at r;obtain⟨a,vs,rfl,q1,q2,q3⟩:=r;obtain⟨fp,p1,p2,p3⟩:=Zv ih e1 e2 q3;exact⟨fp,by unfold FP;exact⟨a,vs,rfl,hX a q1,q2,p1⟩,p2,p3⟩
   |cell n=>
    dsimp only at e e';split at e
    ·rename_i hn;obtain⟨ts,e0,e⟩:=Option.bind_eq_some_iff.mp e;obtain⟨ls,e1,rfl⟩:=Option.map_eq_some_iff.mp e;rw[e0]at e';dsimp only[Option.bind_some]at e';obtain⟨ts',e2,rfl⟩:=Option.map_eq_some_iff.mp e';unfold Rep at r;obtain⟨a,ea,rfl⟩:=r;obtain⟨ts2,vs,g1,g2,g3⟩:=R.at_ n a ea;rw[e0]at g1;cases g1;obtain⟨fp,p1,p2,p3⟩:=Zv ih e1 e2 g3;have ea2:=ea;rw[List.getElem?_append_right hn]at ea2;refine⟨fp++[a],by unfold FP;exact⟨a,vs,fp,rfl,hB a (List.mem_of_getElem? ea2),g2,p1,rfl⟩,?_,λm hm=>?_⟩
     ·rw[wd,wd,p2];simp[ea]
     ·rcases wC.mp hm with z|z
      ·exact p3 m z
      ·simp at z;omega
    ·cases e
   |v x=>cases e
   |ob o=>cases e
   |fz ts=>cases e
   |lst ts=>cases e
theorem Zx{X' Y:List Nat}(R:RelM gl (A++B) Y h M1)(hX:∀a∈X',a∈Y)(hA:∀a∈A,a∈X')(hc:(M1.take A.length).all (T.unds A.length)=true)(hg:∀(g:Nat) t,gl[g]?=some t->Rep A X' h t (.ref g)):RelM gl A X' h (M1.take A.length):=by
 have l:=R.len;rw[List.length_append]at l;refine⟨by rw[wP];omega,(wJ.mp R.nd).1,hA,λa ha=>R.lt a (hX a ha),λn a e=>?_,hg⟩;have hn:=(List.getElem?_eq_some_iff.mp e).1;obtain⟨ts,vs,e1,e2,e3⟩:=R.at_ n a (jI n a e);refine⟨ts,vs,by rw[wR hn];exact e1,e2,jm (λn hn=>List.getElem?_append_left hn) hX ts e3 ?_⟩;rw[wH]at hc;refine hc ts (List.mem_of_getElem? (i:=n) ?_);rw[wR hn];exact e1
theorem S5{M:Mem}{n0 d:Nat}{t:T}{o:Ob}(h:qT M n0 d t=some (.ob o)):t=.ob o:=by
 cases d with
 |zero=>
  unfold qT at h;split at h
  ·cases h;rfl
  ·cases h
 |succ d=>
  unfold qT at h;split at h
  ·cases h;rfl
  ·cases t with
   |lst ts=>cases hh:ts.mapM (qT M n0 d)<;>simp[hh]at h
   |tup ts=>cases hh:ts.mapM (qT M n0 d)<;>simp[hh]at h
   |cell n=>
    cases hm:M[n]? with
    |none=>simp[hm]at h
    |some ts=>cases hh:ts.mapM (qT M n0 d)<;>simp[hm,hh]at h
   |_=>cases h
theorem C1(R0:RelM gl A X h M)(f:Frm A h h')(hB:∀b∈B,h.length<=b)(R:RelM gl (A++B) (X++B) h' M1){x:TB}{w:V}(q:QE gl (A++B) (X++B) h.length x w h' M1):Sim gl A X h (QE gl A X h.length) (finish M.length x M1) (.ok (w,h')):=by
 have hBX:∀b∈B,b∉X:=λb z y=>by have:=hB b z;have:=R0.lt b y;omega
 have hX:∀a,a∉X++B->a∉X:=λa x z=>x (wE _ z);have hg:∀{Z:List Nat},(∀a∈Z,h.length<=a)->∀(g:Nat) t,gl[g]?=some t->Rep A (X++Z) h' t (.ref g):=λhZ g t e=>qz (λ_ _ e=>e) (λa o x y=>⟨by
   rw[wC];rintro(z|z)
   ·exact x z
   ·have:=hZ a z;have:=qJ y;omega,(R0.keepN f a o x y).2⟩) t (R0.glo g t e)
 unfold finish;rw[<-R0.len];split
 ·rename_i hl;have hB0:B=[]:=by
   have:=R.len;rw[List.length_append,hl]at this;exact List.length_eq_zero_iff.mp (by omega)
  subst hB0;rw[List.append_nil,List.append_nil]at R q;exact⟨w,h',rfl,f,R,q⟩
 split
 ·rename_i hc;refine Sim.ofO λt' et=>?_;have R':RelM gl A X h' (M1.take A.length):=by
   have:=Zx (X':=X++[]) R (λa ha=>by simp at ha;exact wE _ ha) (λa ha=>by simp;exact R0.sub a ha) hc (hg λa ha=>by simp at ha);simpa using this
  refine⟨w,h',rfl,f,R',Q9 R hBX 6 _ _ _ et q.1,λe=>?_⟩;rw[wm]at e;rcases e with e|e
  ·obtain⟨fp,p,nd,l,Rf,nw⟩:=q.2 e;cases Qp (qAf A.length _ p) et;have cr:∀{Z:List Nat},(∀a∈Z,h.length<=a)->RelM gl (A++B) (X++B++Z) h' M1->RelM gl A (X++Z) h' (M1.take A.length):=λ{Z} hZ q=>Zx q (λa ha=>by
    rcases wC.mp ha with z|z
    ·exact wE _ (wE _ z)
    ·exact wG _ z) (λa ha=>wE _ (R0.sub a ha)) hc (hg hZ)
   exact⟨fp,Qj (λa o x y=>⟨hX a x,y⟩) _ p,nd,l,cr l Rf,λkvs e=>by
    obtain⟨a,q1,q2,q3⟩:=nw kvs e;exact⟨a,q1,q2,cr (λz hz=>by rw[wM.mp hz];exact q2) q3⟩⟩
  ·unfold frR at e;split at e
   ·rename_i l el;have ndl:l.Nodup:=by simpa using e
    obtain⟨fp,p,pm,pn⟩:=qAa R hBX 6 _ _ _ _ el et q.1;have fB:∀a∈fp,a∈B:=λa ha=>by
     have:some a∈fp.map some:=List.mem_map_of_mem ha;rw[pm]at this;obtain⟨n,hn,en⟩:=wS.mp this;rw[List.getElem?_append_right (pn n hn)]at en;exact List.mem_of_getElem? en
    have nd:fp.Nodup:=by
     have:(fp.map some).Nodup:=by
      rw[pm];refine List.pairwise_map.mpr (List.Pairwise.imp_of_mem ?_ ndl);intro n m hn hm hnm e;have:(A++B)[n]?∈fp.map some:=by rw[pm];exact List.mem_map_of_mem hn
      obtain⟨a,_,ea⟩:=wS.mp this;exact hnm ((List.getElem?_inj (List.getElem?_eq_some_iff.mp ea.symm).1 R.nd).mp e)
     exact(List.pairwise_map.mp this).imp λ{a b} z e=>z (by rw[e])
    refine⟨fp,p,nd,λa ha=>hB a (fB a ha),Zx R (λa ha=>?_) (λa ha=>wE _ (R0.sub a ha)) hc (hg λa ha=>hB a (fB a ha)),λkvs e=>by have e:t'=.ob (.dct kvs):=e;subst e;rw[S5 et]at el;simp[jU,T.lf]at el⟩;rcases wC.mp ha with z|z
    ·exact wE _ z
    ·exact wG _ (fB a z)
   ·cases e
 ·exact Sim.stuck
end
theorem qDi(gl:List T)(tb:List Fn)(Cs:List (List Nat)):∀(k f:Nat) (ts:List T) (ws:List V) (A X:List Nat) (h:AH) (M:Mem),RelM gl A X h M->qL A X h ts ws->Sim gl A X h (QE gl A X h.length) (Pk gl tb Cs k f ts M) (Fk tb k f ws h)
 | 0,f,ts,ws,A,X,h,M,R,rs=>Sim.stuck
 |k+1,f,ts,ws,A,X,h,M,R,rs=>by
  unfold Pk Fk;cases ed:tb[f]? with
  |none=>exact Sim.stuck
  |some d=>
   dsimp only;rw[<-qE (reps_iff.mp rs)];split
   ·have s:=Jr (Cs.getD f []) (qDi gl tb Cs k) d.body A X h M _ _ R (B0 (d.nslot-d.npar) rs);revert s;generalize pxs gl (Pk gl tb Cs k) (Cs.getD f []) d.body (ts.map some++List.replicate (d.nslot-d.npar) none) M=r;generalize exs (Fk tb k) d.body (ws.map some++List.replicate (d.nslot-d.npar) none) h=rh;intro s;cases r with
    |stuck=>exact Sim.stuck
    |exc c M1=>
     obtain⟨h',B,rfl,f1,hB,R1⟩:=s;show Sim gl A X h _ (if _ then _ else if _ then _ else _) _;split
     ·rename_i hl;have hB0:B=[]:=by
       have:=R1.len;rw[List.length_append,hl,R.len]at this;exact List.length_eq_zero_iff.mp (by omega)
      subst hB0;rw[List.append_nil,List.append_nil]at R1;exact⟨h',rfl,f1,R1⟩
     split
     ·rename_i hc;refine⟨h',rfl,f1,?_⟩;rw[<-R.len]at hc ⊢;exact Zx R1 (λa ha=>wE _ ha) R.sub hc λg t e=>R.keep f1 (R.glo g t e)
     ·exact Sim.stuck
    |ok p=>
     obtain⟨o,M1⟩:=p;obtain⟨oh,h',B,rfl,f1,hB,R1,ro⟩:=s;rw[Res.bind_ok];cases o with
     |nx σ=>
      cases oh<;>first|exact ro.elim|skip
      have r:Rep (A++B) (X++B) h' (.v .non) .non:=by unfold Rep;exact⟨rfl,rfl⟩
      exact C1 R f1 hB R1 (show QE gl (A++B) (X++B) h.length (.v .non,true) .non h' M1 from⟨r,λ_=>Frs.of_lf R1 r rfl⟩)
     |rt t=>
      cases oh<;>first|exact ro.elim|skip
      exact C1 R f1 hB R1 ro
     |bk σ=>exact Sim.stuck
     |ct σ=>exact Sim.stuck
   ·exact Sim.stuck
noncomputable def glT(gs:List O):List T:=gs.map λo=>match o with | .tup xs=>.tup (xs.map .v) | .lst _ xs=>.fz (xs.map .v) | .ob _=>.v .non
noncomputable def qDM(gs:List O):Bool:=gs.all λo=>match o with | .tup xs=>xs.all flat|_=>false
theorem qEA{gs:List O}{tb:List Fn}{Cs:List (List Nat)}{k i:Nat}{ns:List Int}{b:Bool}{M':Mem}(hg:qDM gs=true)(e:Pk (glT gs) tb Cs k i [.fz (ns.map λn=>.v (.int n))] []=.ok ((.v (.bl true),b),M')):
  ∃h',Fk tb k i [.ref gs.length] (gs++[.lst true (ns.map V.int)])=.ok (.bl true,h'):=by
 have R:RelM (glT gs) [] [] (gs++[.lst true (ns.map V.int)]) []:=by
  refine⟨rfl,wl,λa ha=>by simp at ha,λa ha=>by simp at ha,λn a e=>by simp at e,λg t eg=>?_⟩;unfold glT at eg;rw[wQ]at eg;obtain⟨o,eo,rfl⟩:=Option.map_eq_some_iff.mp eg;unfold qDM at hg;rw[wH]at hg;have ho:=hg o (List.mem_of_getElem? eo);cases o with
  |lst _ _=>cases ho
  |ob _=>cases ho
  |tup xs=>
   dsimp only;unfold Rep;exact⟨g,xs,rfl,by simp,by rw[List.getElem?_append_left (List.getElem?_eq_some_iff.mp eo).1];exact eo,jp ho⟩
 have rs:qL [] [] (gs++[O.lst true (ns.map V.int)]) [.fz (ns.map λn=>.v (.int n))] [.ref gs.length]:=by
  unfold qL;refine⟨_,[],rfl,?_,by unfold qL;rfl⟩;unfold Rep;refine⟨gs.length,ns.map V.int,rfl,by simp,by simp,?_⟩;have:ns.map (λn=>T.v (.int n))=(ns.map V.int).map .v:=by rw[wb];rfl
  rw[this];exact jp (by simp[flat])
 have s:=qDi (glT gs) tb Cs k i _ _ [] [] _ [] R rs;rw[e]at s;obtain⟨w,h',e1,_,_,q⟩:=s;cases zU q.1;exact⟨h',e1⟩
theorem qBJ{tb:List Fn}{j:Nat}{d:Fn}{b:Ss}(e:tb[j]?=some d)(hb:∀F σ h,exs F d.body σ h=exs F b σ h):∀(k f:Nat) (vs:List V) (h:AH),Fk tb k f vs h=Fk (tb.set j ⟨d.npar,d.nslot,b⟩) k f vs h
 | 0,_,_,_=>rfl
 |k+1,f,vs,h=>by
  have ih:Fk tb k=Fk (tb.set j ⟨d.npar,d.nslot,b⟩) k:=by funext f vs h;exact qBJ e hb k f vs h
  unfold Fk;by_cases hf:f=j
  ·subst hf;rw[e,List.getElem?_set_self (List.getElem?_eq_some_iff.mp e).1,ih];dsimp only;rw[hb]
  ·rw[List.getElem?_set_ne (Ne.symm hf),ih]
noncomputable def qHV(t:T):Option TB:=match t with | .v (.int i)=>some (iT (-i))|_=>none
noncomputable def l6(M:Mem)(p k x:T):Option Mem:=match p,k with
 | .cell n,.v (.int j)=>(M[n]?).bind λxs=>(L2.ixN xs.length j).map λj=>M.set n (xs.set j x)
 |_,_=>none
noncomputable def j4(M:Mem)(n:Nat)(x:T):Option Mem:=(M[n]?).bind λxs=>if xs.length<lim then some (M.set n (xs++[x])) else none
noncomputable def i8(t:T):Option (List T):=match t with | .v (.int j)=>if -1000000<=j/\j<=100000 then some (qo 0 j.toNat) else none|_=>none
noncomputable def qBy(t:T):Option (List T):=match t with | .v (.int j)=>if -1000000<=j/\j<=1000000 then some (qo 0 j.toNat) else none|_=>none
noncomputable def S6(s t:T):Option (List T):=match s,t with | .v (.int i),.v (.int j)=>if (-1000000<=i/\i<=1000000)/\-1000000<=j/\j<=1000000 then some (qo i (j-i).toNat) else none|_,_=>none
section
variable{gl:List T}{P:Nat->List T->Mem->PR (TB×Mem)}{C:List Nat}{σ:TS}{M:Mem}{a b c e:E}{as lo hi:Es}
@[simp] theorem pe_var(i:Nat):pe gl P (.var i) σ M=match σ[i]? with|some (some t)=>.ok ((t,t.lf),M)|_=>.stuck:=Eq.trans rfl rfl
@[simp] theorem pe_int(i:Int):pe gl P (.cst (.int i)) σ M=.ok (iT i,M):=Eq.trans rfl rfl
@[simp] theorem pe_bl(i:Bool):pe gl P (.cst (.bl i)) σ M=.ok (bT i,M):=Eq.trans rfl rfl
@[simp] theorem pe_non:pe gl P (.cst .non) σ M=.ok ((.v .non,true),M):=Eq.trans rfl rfl
@[simp] theorem pe_str(s:PySem.Str):pe gl P (.cst (.str s)) σ M=.ok ((.v (.str s),true),M):=Eq.trans rfl rfl
@[simp] theorem pe_glob(g:Nat):pe gl P (.glob g) σ M=match gl[g]? with|some t=>.ok ((t,t.lf),M)|none=>.stuck:=Eq.trans rfl rfl
@[simp] theorem qEp(op:BOp):pe gl P (.bin op a b) σ M=(pe gl P a σ M).bind λp=>(pe gl P b σ p.2).bind λq=>(PR.ofO (qr q.2 op p.1.1 q.1.1)).bind λr=>.ok (r,q.2):=Eq.trans rfl rfl
@[simp] theorem qAt(op:COp):pe gl P (.cmp op a b) σ M=(pe gl P a σ M).bind λp=>(pe gl P b σ p.2).bind λq=>(PR.ofO (zO q.2 op p.1.1 q.1.1)).bind λr=>.ok (bT r,q.2):=Eq.trans rfl rfl
@[simp] theorem Y4(o1 o2:COp):pe gl P (.cmp2 o1 o2 a b c) σ M=(pe gl P a σ M).bind λp=>(pe gl P b σ p.2).bind λq=>(PR.ofO (zO q.2 o1 p.1.1 q.1.1)).bind λr=>
  if r=true then (pe gl P c σ q.2).bind λz=>(PR.ofO (zO z.2 o2 q.1.1 z.1.1)).bind λr=>.ok (bT r,z.2) else .ok (bT false,q.2):=Eq.trans rfl rfl
@[simp] theorem pe_and:pe gl P (.and a b) σ M=(pB (pe gl P a σ M)).bind λp=>if p.1=true then pe gl P b σ p.2 else .ok (bT false,p.2):=Eq.trans rfl rfl
@[simp] theorem pe_or:pe gl P (.or a b) σ M=(pB (pe gl P a σ M)).bind λp=>if p.1=true then .ok (bT true,p.2) else pe gl P b σ p.2:=Eq.trans rfl rfl
@[simp] theorem pe_not:pe gl P (.not a) σ M=(pB (pe gl P a σ M)).bind λp=>.ok (bT (!p.1),p.2):=Eq.trans rfl rfl
@[simp] theorem qH8:pe gl P (.ite c a b) σ M=(pB (pe gl P c σ M)).bind λp=>if p.1=true then pe gl P a σ p.2 else pe gl P b σ p.2:=Eq.trans rfl rfl
@[simp] theorem pe_call(f:Nat):pe gl P (.call f as) σ M=(pes gl P as σ M).bind λp=>(P f (p.1.map (·.1)) p.2).nx:=Eq.trans rfl rfl
@[simp] theorem qDo(f:BF):pe gl P (.blt f as) σ M=(pes gl P as σ M).bind λp=>(PR.ofO (zg p.2 f (p.1.map (·.1)))).bind λr=>.ok (r,p.2):=Eq.trans rfl rfl
@[simp] theorem qEf(ts:List String):pe gl P (.isi a ts) σ M=(pe gl P a σ M).bind λp=>(PR.ofO (qk p.2 p.1.1)).bind λt=>.ok (bT (ts.any (zE t)),p.2):=Eq.trans rfl rfl
@[simp] theorem qD3:pe gl P (.idx a b) σ M=(pe gl P a σ M).bind λp=>(pe gl P b σ p.2).bind λq=>(PR.ofO (Qb q.2 p.1.1 q.1.1)).bind λr=>.ok (r,q.2):=Eq.trans rfl rfl
@[simp] theorem qHL:pe gl P (.sl a lo hi) σ M=(pe gl P a σ M).bind λp=>(pes gl P lo σ p.2).bind λl=>(pes gl P hi σ l.2).bind λu=>
  (PR.ofO (p.1.1.its u.2)).bind λxs=>(PR.ofO (zD (l.1.map (·.1)))).bind λi=>(PR.ofO (zD (u.1.map (·.1)))).bind λj=>(PR.ofO (Jb p.1.1 xs i.head? j.head?)).bind λr=>.ok (r,u.2):=Eq.trans rfl rfl
@[simp] theorem pe_lst:pe gl P (.lst as) σ M=(pes gl P as σ M).bind λp=>if p.1.length<=lim then .ok ((.lst (p.1.map (·.1)),p.1.all (·.2)),p.2) else .stuck:=Eq.trans rfl rfl
@[simp] theorem pe_tup:pe gl P (.tup as) σ M=(pes gl P as σ M).bind λp=>if p.1.length<=lim then .ok ((.tup (p.1.map (·.1)),p.1.all (·.2)),p.2) else .stuck:=Eq.trans rfl rfl
@[simp] theorem pe_comp(it:Itr)(src:List (Option Nat))(g:Tg)(c:Es):pe gl P (.comp it src g c e) σ M=(pei gl P it σ M).bind λp=>qP p.1.2 g (pec gl P c) (pe gl P e) p.1.1 [] true (jx src σ) p.2:=Eq.trans rfl rfl
@[simp] theorem qD6:pe gl P (.app a b) σ M=(pe gl P a σ M).bind λp=>match p.1.1 with
  | .cell n=>(pe gl P b σ p.2).bind λq=>(PR.ofO (j4 q.2 n q.1.1)).bind λM'=>.ok ((.v .non,true),M')
  |_=>.stuck:=by
 show PR.bind _ _=_;dsimp only;congr 1;funext p;obtain⟨⟨p1,p3⟩,p2⟩:=p;dsimp only;cases p1<;>dsimp only;congr 1;funext q;obtain⟨⟨q1,q3⟩,q2⟩:=q;dsimp only;unfold j4;rename_i n;cases h:q2[n]? with
 |none=>rfl
 |some xs=>
  dsimp only[Option.bind_some];split<;>rfl
@[simp] theorem qE6(o:TU):pe gl P (.txu o a) σ M=(pe gl P a σ M).bind λp=>(PR.ofO (p.1.1.fv.bind (G2 o))).bind λv=>.ok ((.v v,true),p.2):=Eq.trans rfl rfl
@[simp] theorem qC0:pe gl P (.join a) σ M=(pe gl P a σ M).bind λp=>(PR.ofO (p.1.1.lis p.2)).bind λxs=>(PR.ofO (JW xs)).bind λys=>if ys.length<=1000/\(ys.all λy=>decide (y.length<=1000))=true then .ok ((.v (.str (PySem.Txt.join (PySem.Str.ofString "") ys)),true),p.2) else .stuck:=Eq.trans rfl rfl
@[simp] theorem qCu:pe gl P (.lrng a) σ M=(pe gl P a σ M).bind λp=>(PR.ofO (i8 p.1.1)).bind λxs=>.ok ((.lst xs,true),p.2):=by
 show PR.bind _ _=_;dsimp only;congr 1;funext p;obtain⟨⟨p1,p3⟩,p2⟩:=p;dsimp only;unfold i8;cases p1<;>first|rfl|skip
 rename_i x;cases x<;>first|rfl|skip
 dsimp only;split<;>rfl
@[simp] theorem qB5(m:Mt):pe gl P (.meth m a as) σ M=(pe gl P a σ M).bind λp=>match p.1.1 with
  | .cell n=>(pes gl P as σ p.2).bind λq=>PR.ofO (C3 m n (q.1.map (·.1)) q.2)
  |_=>.stuck:=Eq.trans rfl rfl
@[simp] theorem qCq:pe gl P .dnew σ M=.ok ((.ob (.dct []),true),M):=Eq.trans rfl rfl
@[simp] theorem qGN:pes gl P .nil σ M=.ok ([],M):=Eq.trans rfl rfl
@[simp] theorem m3:pes gl P (.cons a as) σ M=(pe gl P a σ M).bind λp=>(pes gl P as σ p.2).bind λq=>.ok (p.1::q.1,q.2):=Eq.trans rfl rfl
@[simp] theorem jc:pec gl P .nil σ M=.ok (true,M):=Eq.trans rfl rfl
@[simp] theorem qFg:pec gl P (.cons a as) σ M=pB (pe gl P a σ M):=Eq.trans rfl rfl
@[simp] theorem qAK:pei gl P (.list a) σ M=(pe gl P a σ M).bind λp=>(PR.ofO (C5 p.2 p.1.1)).bind λs=>.ok (s,p.2):=Eq.trans rfl rfl
@[simp] theorem M8:pei gl P (.rng1 a) σ M=(pe gl P a σ M).bind λp=>(PR.ofO (qBy p.1.1)).bind λxs=>.ok ((xs,[]),p.2):=by
 show PR.bind _ _=_;dsimp only;congr 1;funext p;obtain⟨⟨p1,p3⟩,p2⟩:=p;dsimp only;unfold qBy;cases p1<;>first|rfl|skip
 rename_i x;cases x<;>first|rfl|skip
 dsimp only;split<;>rfl
@[simp] theorem y9:pei gl P (.rng2 a b) σ M=(pe gl P a σ M).bind λp=>(pe gl P b σ p.2).bind λq=>(PR.ofO (S6 p.1.1 q.1.1)).bind λxs=>.ok ((xs,[]),q.2):=by
 show PR.bind _ _=_;dsimp only;congr 1;funext p;congr 1;funext q;obtain⟨⟨p1,p3⟩,p2⟩:=p;obtain⟨⟨q1,q3⟩,q2⟩:=q;dsimp only;unfold S6;cases p1<;>first|rfl|skip
 rename_i x;cases x<;>first|rfl|skip
 cases q1<;>first|rfl|skip
 rename_i y;cases y<;>first|rfl|skip
 dsimp only;split<;>rfl
@[simp] theorem qGx:pei gl P (.zip a b) σ M=(pe gl P a σ M).bind λp=>(pe gl P b σ p.2).bind λq=>(PR.ofO (C7 q.2 p.1.1)).bind λs=>(PR.ofO (C7 q.2 q.1.1)).bind λt=>
  .ok ((List.zipWith (λa b=>T.tup [a,b]) s.1 t.1,s.2++t.2),q.2):=Eq.trans rfl rfl
@[simp] theorem q8:pei gl P (.revd a) σ M=(pe gl P a σ M).bind λp=>(PR.ofO (C7 p.2 p.1.1)).bind λs=>.ok ((s.1.reverse,s.2),p.2):=Eq.trans rfl rfl
variable{s:S}{r t u:Ss}
@[simp] theorem F9(i:Nat):px gl P C (.asg (.name i) e) σ M=(pe gl P e σ M).bind λp=>if (C.contains i&&p.1.2)=true then .ok (.nx (σ.set i (some (thaw p.2.length p.1.1).1)),p.2++(thaw p.2.length p.1.1).2) else if (C.contains (i+1000)&&qDB e)=true then (match p.1.1 with | .lst ts=>.ok (.nx (σ.set i (some (.cell p.2.length))),p.2++[ts])|_=>.stuck) else .ok (.nx (σ.set i (some p.1.1)),p.2):=Eq.trans rfl rfl
@[simp] theorem qDZ(is:List Nat):px gl P C (.asg (.tup is) e) σ M=(pe gl P e σ M).bind λp=>match zF (.tup is) p.1.1 σ with|some σ1=>.ok (.nx σ1,p.2)|none=>.stuck:=Eq.trans rfl rfl
@[simp] theorem qFB{o i v:E}:px gl P C (.put o i v) σ M=(pe gl P v σ M).bind λx=>(pe gl P o σ x.2).bind λp=>(pe gl P i σ p.2).bind λk=>(PR.ofO (l6 k.2 p.1.1 k.1.1 x.1.1)).bind λM'=>.ok (.nx σ,M'):=by
 show PR.bind _ _=_;dsimp only;congr 1;funext x;congr 1;funext p;congr 1;funext k;obtain⟨⟨k1,k3⟩,k2⟩:=k;obtain⟨⟨p1,p3⟩,p2⟩:=p;dsimp only;unfold l6;cases p1<;>first|rfl|skip
 rename_i n;cases k1<;>first|rfl|skip
 rename_i y;cases y<;>first|rfl|skip
 rename_i j;dsimp only;cases h:k2[n]? with
 |none=>rfl
 |some xs=>
  dsimp only[Option.bind_some];have hj:PI.ixN xs.length j=L2.ixN xs.length j:=rfl;rw[hj];cases L2.ixN xs.length j with
  |none=>rfl
  |some j=>rfl
@[simp] theorem qBe:px gl P C (.expr e) σ M=(pe gl P e σ M).bind λp=>.ok (.nx σ,p.2):=Eq.trans rfl rfl
@[simp] theorem qBL:px gl P C (.ret e) σ M=(pe gl P e σ M).bind λp=>.ok (.rt p.1,p.2):=Eq.trans rfl rfl
@[simp] theorem qEv:px gl P C (.ifs c t u) σ M=(pB (pe gl P c σ M)).bind λp=>if p.1=true then pxs gl P C t σ p.2 else pxs gl P C u σ p.2:=Eq.trans rfl rfl
@[simp] theorem qDr(g:Tg)(it:Itr):px gl P C (.for_ g it t) σ M=(pei gl P it σ M).bind λp=>zQ p.1.2 g (pxs gl P C t) p.1.1 σ p.2:=Eq.trans rfl rfl
@[simp] theorem Qf(f:Nat):px gl P C (.xexpr f as) σ M=(pes gl P as σ M).bind λp=>(P f (p.1.map (·.1)) p.2).bind λq=>.ok (.nx σ,q.2):=Eq.trans rfl rfl
theorem J7(u x f i:Nat):px gl P C (.nloop u x f i a) σ M=if u=i\/x=i\/u=x\/σ.length<=u\/σ.length<=x then .stuck else (pei gl P (.list a) (σ.set u none) M).bind λp=>match σ[i]? with|some (some l)=>Qa P p.1.2 f x l p.1.1 [] (σ.set u none) p.2|_=>.stuck:=Eq.trans rfl rfl
@[simp] theorem qFW(c:Nat):px gl P C (.raise c) σ M=.exc c M:=Eq.trans rfl rfl
theorem V9(b:S)(j i m:Nat)(ks:List Nat):px gl P C (.tryK b j i m ks) σ M=match px gl P C b σ M with
  | .exc c M1=>if c<m then .ok (.nx ((σ.set i (some (.lst (ks.map λk=>.v (.bl (ZP c k)))))).set j none),M1) else .stuck
  |r=>r:=Eq.trans rfl rfl
@[simp] theorem a7(f:Nat):px gl P C (.xret f as) σ M=(pes gl P as σ M).bind λp=>(P f (p.1.map (·.1)) p.2).bind λq=>.ok (.rt q.1,q.2):=Eq.trans rfl rfl
@[simp] theorem qIC(o:COp)(f:Nat):px gl P C (.xrn o f as) σ M=(pes gl P as σ M).bind λp=>(P f (p.1.map (·.1)) p.2).bind λq=>(PR.ofO (zO q.2 o q.1.1 (.v .non))).bind λr=>.ok (.rt (bT r),q.2):=Eq.trans rfl rfl
@[simp] theorem qGD:px gl P C .stop σ M=.stuck:=Eq.trans rfl rfl
@[simp] theorem qGL:pxs gl P C .nil σ M=.ok (.nx σ,M):=Eq.trans rfl rfl
@[simp] theorem qb:pxs gl P C (.cons s r) σ M=(px gl P C s σ M).bind λp=>match p.1 with
  | .nx σ1=>pxs gl P C r σ1 p.2
  |o=>.ok (o,p.2):=Eq.trans rfl rfl
@[simp] theorem qG5(x:Bool):pB (.ok (bT x,M))=.ok (x,M):=Eq.trans rfl rfl
@[simp] theorem qJU(x f:Bool):pB (.ok ((T.v (.bl x),f),M))=.ok (x,M):=Eq.trans rfl rfl
@[simp] theorem qFU:pB .stuck=.stuck:=Eq.trans rfl rfl
@[simp] theorem bind_exc{α β:Type}(c:Nat)(M:Mem)(f:α->PR β):(PR.exc c M:PR α).bind f=.exc c M:=Eq.trans rfl rfl
end
@[simp] theorem qJF(x:V):T.lf (.v x)=true:=by rw[T.lf]
@[simp] theorem qC8(n:Nat):T.lf (.cell n)=false:=by rw[T.lf]<;>simp
@[simp] theorem qH6(xs:List T):T.lf (.lst xs)=false:=by rw[T.lf]<;>simp
@[simp] theorem qH2(xs:List T):T.lf (.tup xs)=T.lfs xs:=by rw[T.lf]
@[simp] theorem qF5:T.lfs []=true:=by rw[T.lfs]
@[simp] theorem Qd(x:T)(xs:List T):T.lfs (x::xs)=(x.lf&&T.lfs xs):=by rw[T.lfs]
@[simp] theorem iT1(i:Int):(iT i).1=.v (.int i):=rfl
@[simp] theorem iT2(i:Int):(iT i).2=true:=rfl
@[simp] theorem bT1(i:Bool):(bT i).1=.v (.bl i):=rfl
@[simp] theorem bT2(i:Bool):(bT i).2=true:=rfl
@[simp] theorem lT1(xs:List T):(lT xs).1=.lst xs:=rfl
@[simp] theorem lT2(xs:List T):(lT xs).2=T.lfs xs:=rfl
@[simp] theorem qIL(x:V):T.isV (.v x)=some x:=rfl
@[simp] theorem qF4(x:List T):T.isV (.lst x)=none:=rfl
@[simp] theorem qGM(x:List T):T.isV (.tup x)=none:=rfl
@[simp] theorem qFT(x:Nat):T.isV (.cell x)=none:=rfl
section
variable{M:Mem}(i j:Int) (xs ys:List T)
@[simp] theorem qHa:qr M .add (.v (.int i)) (.v (.int j))=some (iT (i+j)):=rfl
@[simp] theorem qHx:qr M .sub (.v (.int i)) (.v (.int j))=some (iT (i-j)):=rfl
@[simp] theorem qBt:qr M .band (.v (.int i)) (.v (.int j))=some (iT (PySem.Builtin.bitAnd i j)):=rfl
theorem qEK{i j:Int}(h:(-18446744073709551616<i/\i<18446744073709551616)\/(-18446744073709551616<j/\j<18446744073709551616)):qr M .mul (.v (.int i)) (.v (.int j))=some (iT (i*j)):=by
 show (if (QZ i||QZ j||(mid i&&mid j))=true then _ else _)=_;rw[if_pos];rcases h with h|h
 ·have:QZ i=true:=by unfold QZ two64;exact vF h
  rw[this];rfl
 ·have:QZ j=true:=by unfold QZ two64;exact vF h
  rw[this,Bool.or_true];rfl
theorem qC3{i j:Int}(h:0<j/\j<1073741824):qr M .fdiv (.v (.int i)) (.v (.int j))=some (iT (i / j)):=by
 show (if 0<j/\(j<1073741824\/mid j=true) then _ else _)=_;rw[if_pos ⟨h.1,.inl h.2⟩]
theorem qAj{i j:Int}(h:0<j):qr M .mod (.v (.int i)) (.v (.int j))=some (iT (i % j)):=by
 show (if 0<j then _ else _)=_;rw[if_pos h]
theorem qA0{i j:Int}(h:0<=j/\j<=1000/\i.natAbs<18446744073709551616):qr M .pow (.v (.int i)) (.v (.int j))=some (iT (i ^ j.toNat)):=by
 show (if 0<=j/\j<=1000/\i.natAbs<18446744073709551616 then _ else _)=_;rw[if_pos h]
theorem qE2{i j:Int}(h:0<=j/\j<=1000/\i.natAbs<18446744073709551616):qr M .shl (.v (.int i)) (.v (.int j))=some (iT (i*2 ^ j.toNat)):=by
 show (if 0<=j/\j<=1000/\i.natAbs<18446744073709551616 then _ else _)=_;rw[if_pos h]
theorem QP{xs ys:List T}(h:xs.length+ys.length<=lim):qr M .add (.lst xs) (.lst ys)=some (lT (xs++ys)):=by
 show (if xs.length+ys.length<=lim then _ else _)=_;rw[if_pos h]
@[simp] theorem qGT:zO M .lt (.v (.int i)) (.v (.int j))=some (decide (i<j)):=rfl
@[simp] theorem qG8:zO M .le (.v (.int i)) (.v (.int j))=some (decide (i<=j)):=rfl
@[simp] theorem qG4:zO M .gt (.v (.int i)) (.v (.int j))=some (decide (j<i)):=rfl
@[simp] theorem qI6:zO M .ge (.v (.int i)) (.v (.int j))=some (decide (j<=i)):=rfl
@[simp] theorem qFn:zO M .eq (.v (.int i)) (.v (.int j))=some (decide (i=j)):=by
 show some (i==j)=_;congr 1
@[simp] theorem qGE:zO M .ne (.v (.int i)) (.v (.int j))=some (!decide (i=j)):=by
 show (some (i==j)).map (!·)=_;rfl
@[simp] theorem qHc:zg M .list [.lst xs]=some (lT xs):=rfl
@[simp] theorem qHo:zg M .list [.tup xs]=some (lT xs):=rfl
@[simp] theorem qEs:zg M .max [.v (.int i),.v (.int j)]=some (iT (if j>i then j else i)):=rfl
@[simp] theorem qD5:zg M .min [.v (.int i),.v (.int j)]=some (iT (if j<i then j else i)):=rfl
@[simp] theorem qJP:qk M (.v (.int i))=some "int":=rfl
@[simp] theorem qJS(b:Bool):qk M (.v (.bl b))=some "bool":=rfl
@[simp] theorem qJM:qk M (.lst xs)=some "list":=rfl
@[simp] theorem qJQ:qk M (.tup xs)=some "tuple":=rfl
@[simp] theorem qJY(kvs:List (Int×V)):qk M (.ob (.dct kvs))=some "dict":=rfl
@[simp] theorem qJI:qk M (.v .non)=some "NoneType":=rfl
@[simp] theorem qAd:C5 M (.lst xs)=some (xs,[]):=rfl
@[simp] theorem qHQ:C5 M (.tup xs)=some (xs,[]):=rfl
@[simp] theorem qIG:C5 M (.fz xs)=some (xs,[]):=rfl
@[simp] theorem qHT:C7 M (.lst xs)=some (xs,[]):=rfl
end
@[simp] theorem lk0{α:Type}(x0:α)(l:List α):(x0::l)[0]?=some x0:=rfl
@[simp] theorem st0{α:Type}(x0 y:α)(l:List α):(x0::l).set 0 y=y::l:=rfl
@[simp] theorem lk1{α:Type}(x0 x1:α)(l:List α):(x0::x1::l)[1]?=some x1:=rfl
@[simp] theorem st1{α:Type}(x0 x1 y:α)(l:List α):(x0::x1::l).set 1 y=x0::y::l:=rfl
@[simp] theorem lk2{α:Type}(x0 x1 x2:α)(l:List α):(x0::x1::x2::l)[2]?=some x2:=rfl
@[simp] theorem st2{α:Type}(x0 x1 x2 y:α)(l:List α):(x0::x1::x2::l).set 2 y=x0::x1::y::l:=rfl
@[simp] theorem lk3{α:Type}(x0 x1 x2 x3:α)(l:List α):(x0::x1::x2::x3::l)[3]?=some x3:=rfl
@[simp] theorem st3{α:Type}(x0 x1 x2 x3 y:α)(l:List α):(x0::x1::x2::x3::l).set 3 y=x0::x1::x2::y::l:=rfl
@[simp] theorem lk4{α:Type}(x0 x1 x2 x3 x4:α)(l:List α):(x0::x1::x2::x3::x4::l)[4]?=some x4:=rfl
@[simp] theorem st4{α:Type}(x0 x1 x2 x3 x4 y:α)(l:List α):(x0::x1::x2::x3::x4::l).set 4 y=x0::x1::x2::x3::y::l:=rfl
@[simp] theorem lk5{α:Type}(x0 x1 x2 x3 x4 x5:α)(l:List α):(x0::x1::x2::x3::x4::x5::l)[5]?=some x5:=rfl
@[simp] theorem st5{α:Type}(x0 x1 x2 x3 x4 x5 y:α)(l:List α):(x0::x1::x2::x3::x4::x5::l).set 5 y=x0::x1::x2::x3::x4::y::l:=rfl
@[simp] theorem lk6{α:Type}(x0 x1 x2 x3 x4 x5 x6:α)(l:List α):(x0::x1::x2::x3::x4::x5::x6::l)[6]?=some x6:=rfl
@[simp] theorem st6{α:Type}(x0 x1 x2 x3 x4 x5 x6 y:α)(l:List α):(x0::x1::x2::x3::x4::x5::x6::l).set 6 y=x0::x1::x2::x3::x4::x5::y::l:=rfl
@[simp] theorem lk7{α:Type}(x0 x1 x2 x3 x4 x5 x6 x7:α)(l:List α):(x0::x1::x2::x3::x4::x5::x6::x7::l)[7]?=some x7:=rfl
@[simp] theorem st7{α:Type}(x0 x1 x2 x3 x4 x5 x6 x7 y:α)(l:List α):(x0::x1::x2::x3::x4::x5::x6::x7::l).set 7 y=x0::x1::x2::x3::x4::x5::x6::y::l:=rfl
@[simp] theorem lk8{α:Type}(x0 x1 x2 x3 x4 x5 x6 x7 x8:α)(l:List α):(x0::x1::x2::x3::x4::x5::x6::x7::x8::l)[8]?=some x8:=rfl
@[simp] theorem st8{α:Type}(x0 x1 x2 x3 x4 x5 x6 x7 x8 y:α)(l:List α):(x0::x1::x2::x3::x4::x5::x6::x7::x8::l).set 8 y=x0::x1::x2::x3::x4::x5::x6::x7::y::l:=rfl
@[simp] theorem lk9{α:Type}(x0 x1 x2 x3 x4 x5 x6 x7 x8 x9:α)(l:List α):(x0::x1::x2::x3::x4::x5::x6::x7::x8::x9::l)[9]?=some x9:=rfl
@[simp] theorem st9{α:Type}(x0 x1 x2 x3 x4 x5 x6 x7 x8 x9 y:α)(l:List α):(x0::x1::x2::x3::x4::x5::x6::x7::x8::x9::l).set 9 y=x0::x1::x2::x3::x4::x5::x6::x7::x8::y::l:=rfl
@[simp] theorem qJV{α:Type}(x0 x1 x2 x3 x4 x5 x6 x7 x8 x9 x10:α)(l:List α):(x0::x1::x2::x3::x4::x5::x6::x7::x8::x9::x10::l)[10]?=some x10:=rfl
@[simp] theorem qJG{α:Type}(x0 x1 x2 x3 x4 x5 x6 x7 x8 x9 x10 y:α)(l:List α):(x0::x1::x2::x3::x4::x5::x6::x7::x8::x9::x10::l).set 10 y=x0::x1::x2::x3::x4::x5::x6::x7::x8::x9::y::l:=rfl
@[simp] theorem qJX{α:Type}(x0 x1 x2 x3 x4 x5 x6 x7 x8 x9 x10 x11:α)(l:List α):(x0::x1::x2::x3::x4::x5::x6::x7::x8::x9::x10::x11::l)[11]?=some x11:=rfl
@[simp] theorem qJD{α:Type}(x0 x1 x2 x3 x4 x5 x6 x7 x8 x9 x10 x11 y:α)(l:List α):(x0::x1::x2::x3::x4::x5::x6::x7::x8::x9::x10::x11::l).set 11 y=x0::x1::x2::x3::x4::x5::x6::x7::x8::x9::x10::y::l:=rfl
@[simp] theorem qJT{α:Type}(x0 x1 x2 x3 x4 x5 x6 x7 x8 x9 x10 x11 x12:α)(l:List α):(x0::x1::x2::x3::x4::x5::x6::x7::x8::x9::x10::x11::x12::l)[12]?=some x12:=rfl
@[simp] theorem qJH{α:Type}(x0 x1 x2 x3 x4 x5 x6 x7 x8 x9 x10 x11 x12 y:α)(l:List α):(x0::x1::x2::x3::x4::x5::x6::x7::x8::x9::x10::x11::x12::l).set 12 y=x0::x1::x2::x3::x4::x5::x6::x7::x8::x9::x10::x11::y::l:=rfl
@[simp] theorem qJJ{α:Type}(x0 x1 x2 x3 x4 x5 x6 x7 x8 x9 x10 x11 x12 x13:α)(l:List α):(x0::x1::x2::x3::x4::x5::x6::x7::x8::x9::x10::x11::x12::x13::l)[13]?=some x13:=rfl
@[simp] theorem qJL{α:Type}(x0 x1 x2 x3 x4 x5 x6 x7 x8 x9 x10 x11 x12 x13 y:α)(l:List α):(x0::x1::x2::x3::x4::x5::x6::x7::x8::x9::x10::x11::x12::x13::l).set 13 y=x0::x1::x2::x3::x4::x5::x6::x7::x8::x9::x10::x11::x12::y::l:=rfl
@[simp] theorem qJW{α:Type}(x0 x1 x2 x3 x4 x5 x6 x7 x8 x9 x10 x11 x12 x13 x14:α)(l:List α):(x0::x1::x2::x3::x4::x5::x6::x7::x8::x9::x10::x11::x12::x13::x14::l)[14]?=some x14:=rfl
@[simp] theorem qJO{α:Type}(x0 x1 x2 x3 x4 x5 x6 x7 x8 x9 x10 x11 x12 x13 x14 y:α)(l:List α):(x0::x1::x2::x3::x4::x5::x6::x7::x8::x9::x10::x11::x12::x13::x14::l).set 14 y=x0::x1::x2::x3::x4::x5::x6::x7::x8::x9::x10::x11::x12::x13::y::l:=rfl
@[simp] theorem qJR{α:Type}(x0 x1 x2 x3 x4 x5 x6 x7 x8 x9 x10 x11 x12 x13 x14 x15:α)(l:List α):(x0::x1::x2::x3::x4::x5::x6::x7::x8::x9::x10::x11::x12::x13::x14::x15::l)[15]?=some x15:=rfl
@[simp] theorem qJE{α:Type}(x0 x1 x2 x3 x4 x5 x6 x7 x8 x9 x10 x11 x12 x13 x14 x15 y:α)(l:List α):(x0::x1::x2::x3::x4::x5::x6::x7::x8::x9::x10::x11::x12::x13::x14::x15::l).set 15 y=x0::x1::x2::x3::x4::x5::x6::x7::x8::x9::x10::x11::x12::x13::x14::y::l:=rfl
theorem qm{gl:List T}{tb:List Fn}{Cs:List (List Nat)}{k f:Nat}{vs:List T}{M:Mem}{np ns:Nat}{b:Ss}(ht:tb[f]?=some ⟨np,ns,b⟩)(hl:vs.length=np/\np<=ns)(hk:1<=k):
  Pk gl tb Cs k f vs M=JB M.length (pxs gl (Pk gl tb Cs (k-1)) (Cs.getD f []) b (vs.map some++List.replicate (ns-np) none) M):=by
 obtain⟨k,rfl⟩:∃j,k=j+1:=⟨k-1,by omega⟩
 rw[Pk,ht];dsimp only;rw[if_pos hl];rfl
theorem qA{M M1:Mem}{t:TB}(h:M1.length=M.length):JB M.length (.ok (.rt t,M1))=.ok (t,M1):=by
 show finish M.length t M1=_;unfold finish;rw[if_pos h]
theorem O2{M M1:Mem}{σ:TS}(h:M1.length=M.length):JB M.length (.ok (.nx σ,M1))=.ok ((.v .non,true),M1):=by
 show finish M.length _ M1=_;unfold finish;rw[if_pos h]
noncomputable def N(n:Nat):T:=.v (.int (n:Int))
noncomputable def NL(L:List Nat):T:=.lst (L.map N)
theorem G8(n:Nat):qo 0 n=(List.range n).map N:=by
 unfold qo N;simp
theorem G5(L:List Nat):T.lfs (L.map N)=true:=by
 induction L with
 |nil=>rfl
 |cons x L ih=>rw[List.map_cons,Qd,ih];rfl
theorem qIc(n:Nat):(N n).lf=true:=by unfold N;rfl
theorem L9{M:Mem}{d:Nat}:∀(L K:List Nat),L.length=K.length->zt (eqT M d) (L.map N) (K.map N)=some (List.zipWith (λ(a b:Nat)=>decide (a=b)) L K)
 | [],[],_=>rfl
 | [],_::_,h=>by simp at h
 |_::_,[],h=>by simp at h
 |a::L,b::K,h=>by
  have e:eqT M d (N a) (N b)=some (decide (a=b)):=by
   have:eqF (.int (a:Int)) (.int (b:Int))=some (decide (a=b)):=by
    show some ((a:Int)==(b:Int))=_;congr 1;rw[wa,beq_iff_eq,vG];omega
   cases d<;>(unfold eqT;exact this)
  rw[List.map_cons,List.map_cons,zt,e,L9 L K (by simpa using h)];rfl
theorem k9:∀(L K:List Nat),L.length=K.length->((List.zipWith (λ(a b:Nat)=>decide (a=b)) L K).all id=decide (L=K))
 | [],[],_=>rfl
 | [],_::_,h=>by simp at h
 |_::_,[],h=>by simp at h
 |a::L,b::K,h=>by
  rw[List.zipWith_cons_cons,List.all_cons,k9 L K (by simpa using h)];by_cases h1:a=b<;>by_cases h2:L=K<;>simp[h1,h2]
theorem qDy{M:Mem}{d:Nat}(L K:List Nat):eqT M (d+1) (NL L) (NL K)=some (decide (L=K)):=by
 unfold eqT;show (if (L.map N).length=(K.map N).length then (zt (eqT M d) (L.map N) (K.map N)).map (λbs=>bs.all id) else some false)=_;rw[wL,wL];by_cases h:L.length=K.length
 ·rw[if_pos h,L9 L K h,Option.map_some,k9 L K h]
 ·rw[if_neg h];congr 1;symm;exact vE (λe=>h (by rw[e]))
theorem qHJ{M:Mem}{L K:List Nat}(h:L.length+K.length<=lim):qr M .add (NL L) (NL K)=some (NL (L++K),true):=by
 unfold NL;rw[QP (by simpa using h)];show some (T.lst (L.map N++K.map N),T.lfs (L.map N++K.map N))=_;rw[<-wd,G5]
@[simp] theorem qDk{d:jT}{g:Tg}{b:TS->Mem->RSt}{σ:TS}{M:Mem}:zQ d g b [] σ M=.ok (.nx σ,M):=rfl
@[simp] theorem zl{i:Nat}{b:TS->Mem->RSt}{x:T}{r:List T}{σ:TS}{M:Mem}:zQ [] (.name i) b (x::r) σ M=(b (σ.set i (some x)) M).bind λp=>match p.1 with
   | .nx σ2=>zQ [] (.name i) b r σ2 p.2
   | .ct σ2=>zQ [] (.name i) b r σ2 p.2
   | .bk σ2=>.ok (.nx σ2,p.2)
   | .rt t=>.ok (.rt t,p.2):=rfl
theorem ZA{c:TS->Mem->PR (Bool×Mem)}{e:TS->Mem->PR (TB×Mem)}{M:Mem}{σ:TS}(p:Nat->Bool)(f:Nat->T)(fr:Nat->Bool):∀(its:List Nat) (ys:List T) (b:Bool) (o:Option T),ys.length+its.length<=lim ->
  (∀x∈its,c (some (N x)::σ) M=.ok (p x,M))->(∀x∈its,p x=true->e (some (N x)::σ) M=.ok ((f x,fr x),M)) ->
  qP [] (.name 0) c e (its.map N) ys b (o::σ) M=.ok ((.lst (ys++(its.filter p).map f),b&&(its.filter p).all fr),M)
 | [],ys,b,o,hl,hc,he=>by simp[qP]
 |x::r,ys,b,o,hl,hc,he=>by
  rw[List.map_cons];unfold qP;rw[show zF (.name 0) (N x) (o::σ)=some (some (N x)::σ) from rfl];dsimp only;rw[hc x (List.mem_cons_self ..)];rw[PR.bind_ok];dsimp only;cases hp:p x with
  |true=>
   rw[if_pos rfl,he x (List.mem_cons_self ..) hp,PR.bind_ok];dsimp only;rw[if_pos ⟨by simp at hl;omega,rfl⟩];rw[ZA p f fr r (ys++[f x]) (b&&fr x) (some (N x)) (by simp at hl ⊢;omega) (λy hy=>hc y (List.mem_cons_of_mem _ hy)) (λy hy=>he y (List.mem_cons_of_mem _ hy))];rw[List.filter_cons_of_pos hp];simp[Bool.and_assoc]
  |false=>
   rw[if_neg (by decide),if_pos (show qY [] M=true from rfl)];rw[ZA p f fr r ys b (some (N x)) (by simp at hl ⊢;omega) (λy hy=>hc y (List.mem_cons_of_mem _ hy)) (λy hy=>he y (List.mem_cons_of_mem _ hy))];rw[List.filter_cons_of_neg (by rw[hp];decide)]
theorem qBf{c:TS->Mem->PR (Bool×Mem)}{e:TS->Mem->PR (TB×Mem)}{M:Mem}{σ:TS}{o:Option T}{its:List Nat}(p:Nat->Bool)(g:Nat->Nat)(hl:its.length<=lim)
  (hc:∀x∈its,c (some (N x)::σ) M=.ok (p x,M)) (he:∀x∈its,p x=true->e (some (N x)::σ) M=.ok ((N (g x),true),M)):
  qP [] (.name 0) c e (its.map N) [] true (o::σ) M=.ok ((NL ((its.filter p).map g),true),M):=by
 rw[ZA p (λx=>N (g x)) (λ_=>true) its [] true o (by simpa using hl) hc he];unfold NL;simp
 all_goals rfl
@[simp] theorem QT{M:Mem}(a b:Nat):qr M .add (N a) (N b)=some (N (a+b),true):=by unfold N;simp[iT]
theorem qDv(L:List Nat):T.lf (NL L)=false:=by unfold NL;simp
noncomputable def nE(n:Nat):E:=.cst (.int (n:Int))
@[simp] theorem qGQ{gl:List T}{P:Nat->List T->Mem->PR (TB×Mem)}{σ:TS}{M:Mem}(n:Nat):pe gl P (nE n) σ M=.ok ((N n,true),M):=by unfold nE;rw[pe_int];rfl
section
variable{M:Mem}(a b:Nat) (xs:List T)
@[simp] theorem lfN:(N a).lf=true:=qIc a
@[simp] theorem qIg:(N a).isV=some (.int (a:Int)):=rfl
@[simp] theorem qJN:qk M (N a)=some "int":=rfl
@[simp] theorem qI2(L:List Nat):qk M (NL L)=some "list":=rfl
theorem W6{a b:Nat}(h:a<18446744073709551616\/b<18446744073709551616):qr M .mul (N a) (N b)=some (N (a*b),true):=by
 unfold N;rw[qEK (by omega)];unfold iT;simp
theorem Qr{a b:Nat}(h:0<b/\b<1073741824):qr M .fdiv (N a) (N b)=some (N (a / b),true):=by
 unfold N;rw[qC3 (by omega)];unfold iT;simp
theorem ZF{a b:Nat}(h:0<b):qr M .mod (N a) (N b)=some (N (a % b),true):=by
 unfold N;rw[qAj (by omega)];unfold iT;simp
theorem qBR{a b:Nat}(h:b<=1000/\a<1000000):qr M .pow (N a) (N b)=some (N (a ^ b),true):=by
 unfold N;rw[qA0 (by omega)];unfold iT;simp
theorem K2{a b:Nat}(h:b<=1000/\a<1000000):qr M .shl (N a) (N b)=some (N (a*2 ^ b),true):=by
 unfold N;rw[qE2 (by omega)];unfold iT;simp
@[simp] theorem qBm:zO M .lt (N a) (N b)=some (decide (a<b)):=by unfold N;rw[qGT];simp
@[simp] theorem qIP:zO M .le (N a) (N b)=some (decide (a<=b)):=by unfold N;rw[qG8];simp
@[simp] theorem Qs:zO M .gt (N a) (N b)=some (decide (b<a)):=by unfold N;rw[qG4];simp
@[simp] theorem Zq:zO M .eq (N a) (N b)=some (decide (a=b)):=by unfold N;rw[qFn];congr 1;rw[wa,vG,vG];omega
@[simp] theorem qAC:zO M .ne (N a) (N b)=some (!decide (a=b)):=by
 show ((eqT M 4 (N a) (N b)).map (!·))=_;rw[show eqT M 4 (N a) (N b)=some (decide (a=b)) from Zq (M:=M) a b];rfl
@[simp] theorem Jz:Qb M (.lst xs) (N a)=(xs[a]?).map λt=>(t,t.lf):=by
 show ((L2.ixN xs.length (a:Int)).bind λj=>(xs[j]?).map λt=>(t,t.lf))=_;unfold L2.ixN;rw[if_pos (by omega)];split
 ·simp
 ·rw[wf (by omega)];rfl
@[simp] theorem Z1:Qb M (.tup xs) (N a)=(xs[a]?).map λt=>(t,t.lf):=by
 show ((L2.ixN xs.length (a:Int)).bind λj=>(xs[j]?).map λt=>(t,t.lf))=_;unfold L2.ixN;rw[if_pos (by omega)];split
 ·simp
 ·rw[wf (by omega)];rfl
theorem qBQ{n:Nat}{xs:List T}(h:M[n]?=some xs):Qb M (.cell n) (N a)=(xs[a]?).map λt=>(t,t.lf):=by
 show ((M[n]?).bind λxs=>(L2.ixN xs.length (a:Int)).bind λj=>(xs[j]?).map λt=>(t,t.lf))=_;rw[h];exact Jz (M:=M) a xs
@[simp] theorem qHt:zg M .len [.lst xs]=some (N xs.length,true):=rfl
@[simp] theorem qHs:zg M .len [.tup xs]=some (N xs.length,true):=rfl
@[simp] theorem qHh:zg M .len [.fz xs]=some (N xs.length,true):=rfl
@[simp] theorem qH4:zg M .max [N a,N b]=some (N (max a b),true):=by
 unfold N;rw[qEs];unfold iT;congr 4;split<;>omega
@[simp] theorem qHr:zg M .min [N a,N b]=some (N (min a b),true):=by
 unfold N;rw[qD5];unfold iT;congr 4;split<;>omega
@[simp] theorem qHk:zg M .bits [N a]=some (N (PySem.Builtin.Int.intBits (a:Int)),true):=rfl
theorem qCO:qr M .band (N a) (N b)=some (N (a&&& b),true):=by
 unfold N;rw[qBt];unfold iT;rfl
end
theorem jr{n:Nat}(hn:n<=1000000):qBy (N n)=some ((List.range n).map N):=by
 show (if -1000000<=(n:Int)/\(n:Int)<=1000000 then some (qo 0 (n:Int).toNat) else none)=_;rw[if_pos (by omega),wg,G8]
theorem qB4{n:Nat}(hn:n<=100000):i8 (N n)=some ((List.range n).map N):=by
 show (if -1000000<=(n:Int)/\(n:Int)<=100000 then some (qo 0 (n:Int).toNat) else none)=_;rw[if_pos (by omega),wg,G8]
theorem qBi{a b:Nat}(hn:a<=b/\b<=1000000):S6 (N a) (N b)=some ((List.range' a (b-a)).map N):=by
 show (if _ then some (qo (a:Int) ((b:Int)-(a:Int)).toNat) else none)=_;rw[if_pos (by omega),show ((b:Int)-(a:Int)).toNat=b-a by omega];unfold qo;rw[List.range'_eq_map_range,wb];congr 1
theorem qEg{M:Mem}{n j:Nat}{xs:List T}{x:T}(h:M[n]?=some xs)(hj:j<xs.length):l6 M (.cell n) (N j) x=some (M.set n (xs.set j x)):=by
 show ((M[n]?).bind λxs=>(L2.ixN xs.length (j:Int)).map λj=>M.set n (xs.set j x))=_;rw[h];show (L2.ixN xs.length (j:Int)).map _=_;unfold L2.ixN;rw[if_pos (by omega),if_pos (by omega)];simp
theorem qAP{M:Mem}{n:Nat}{xs:List T}{x:T}(h:M[n]?=some xs)(hl:xs.length<lim):j4 M n x=some (M.set n (xs++[x])):=by
 unfold j4;rw[h];show (if xs.length<lim then _ else _)=_;rw[if_pos hl]
@[simp] theorem qDN(n a:Nat):thaw n (N a)=(N a,[]):=by unfold N;simp[thaw]
@[simp] theorem qH1{M:Mem}(L:List Nat):C5 M (NL L)=some (L.map N,[]):=rfl
@[simp] theorem qH0{M:Mem}(x f:Bool):pB (PR.ok ((T.v (V.bl x),f),M))=.ok (x,M):=Eq.trans rfl rfl
theorem zH{α:Type}:∀l:List α,l.filter (λ_=>true)=l
 | []=>rfl
 |x::l=>by rw[List.filter_cons_of_pos rfl,zH l]
theorem h9{gl:List T}{P:Nat->List T->Mem->PR (TB×Mem)}{e:TS->Mem->PR (TB×Mem)}{M:Mem}{σ:TS}{o:Option T}{its:List Nat}(g:Nat->Nat)(hl:its.length<=lim)
  (he:∀x∈its,e (some (N x)::σ) M=.ok ((N (g x),true),M)):qP [] (.name 0) (pec gl P .nil) e (its.map N) [] true (o::σ) M=.ok ((NL (its.map g),true),M):=
 (qBf (λ_=>true) g hl (λx _=>by simp) (λx hx _=>he x hx)).trans (by rw[zH])
@[simp] theorem qDG{M:Mem}{n a:Nat}:Qb M (.cell n) (N a)=(M[n]?).bind λxs=>(xs[a]?).map λt=>(t,t.lf):=by
 show ((M[n]?).bind λxs=>(L2.ixN xs.length (a:Int)).bind λj=>(xs[j]?).map λt=>(t,t.lf))=_;congr 1
 funext xs
 exact Jz (M:=M) a xs
@[simp] theorem qHP(a:Nat):qHV (N a)=some (iT (-(a:Int))):=rfl
@[simp] theorem qHO(a:Int):qHV (.v (.int a))=some (iT (-a)):=rfl
@[simp] theorem qIy(a:Nat):zD [N a]=some [(a:Int)]:=rfl
@[simp] theorem qIN:zD []=some []:=rfl
@[simp] theorem qI1{M:Mem}(xs:List T):T.its M (.lst xs)=some xs:=rfl
@[simp] theorem qIo{M:Mem}(xs:List T):T.its M (.fz xs)=some xs:=rfl
@[simp] theorem qIn{M:Mem}(xs:List T):T.its M (.tup xs)=some xs:=rfl
@[simp] theorem qIX{M:Mem}(L:List Nat):T.its M (NL L)=some (L.map N):=rfl
@[simp] theorem qHY(ys xs:List T)(lo hi:Option Int):Jb (.lst ys) xs lo hi=some (lT (QQ xs lo hi)):=rfl
@[simp] theorem qIH(ys xs:List T)(lo hi:Option Int):Jb (.fz ys) xs lo hi=some (lT (QQ xs lo hi)):=rfl
@[simp] theorem qHf(L:List Nat)(xs:List T)(lo hi:Option Int):Jb (NL L) xs lo hi=some (lT (QQ xs lo hi)):=rfl
@[simp] theorem qHu(n:Nat)(xs:List T)(lo hi:Option Int):Jb (.cell n) xs lo hi=some (lT (QQ xs lo hi)):=rfl
@[simp] theorem qIm{M:Mem}(xs:List T):T.lis M (.lst xs)=some xs:=rfl
@[simp] theorem qI9{M:Mem}(xs:List T):T.lis M (.fz xs)=some xs:=rfl
@[simp] theorem qIJ{M:Mem}(L:List Nat):T.lis M (NL L)=some (L.map N):=rfl
@[simp] theorem qFf(i j:Nat)(a b:T)(σ:TS):zF (.tup [i,j]) (.tup [a,b]) σ=some ((σ.set i (some a)).set j (some b)):=rfl
@[simp] theorem P9(σ:TS):jx [] σ=[]:=rfl
@[simp] theorem G1(r:List (Option Nat))(σ:TS):jx (none::r) σ=none::jx r σ:=rfl
@[simp] theorem F3(j:Nat)(r:List (Option Nat))(σ:TS):jx (some j::r) σ=(σ[j]?).join::jx r σ:=rfl
theorem g7(x:V)(f:Bool)(M1:Mem):∃b M2,JB ([]:Mem).length (.ok (.rt (.v x,f),M1))=.ok ((.v x,b),M2):=by
 show ∃b M2,finish 0 (.v x,f) M1=_;unfold finish;by_cases h:M1.length=0
 ·rw[if_pos h];exact⟨f,M1,rfl⟩
 ·rw[if_neg h,if_pos (by simp)];rw[show qT M1 0 6 (T.v x)=some (.v x) by unfold qT;rw[if_pos (by unfold T.und;rfl)]];exact⟨_,_,rfl⟩
mutual
theorem qAW:∀t:T,T.beq t t=true
 | .v x=>by unfold T.beq;simp
 | .cell x=>by unfold T.beq;simp
 | .ob x=>by unfold T.beq;simp
 | .fz xs=>by unfold T.beq;exact jD xs
 | .lst xs=>by unfold T.beq;exact jD xs
 | .tup xs=>by unfold T.beq;exact jD xs
theorem jD:∀ts:List T,T.beqs ts ts=true
 | []=>rfl
 |t::ts=>by unfold T.beqs;rw[qAW t,jD ts];rfl
end
mutual
theorem N1{a b:Nat}(h:a<=b):∀t:T,t.und a=true->t.und b=true
 | .v x,_=>rfl
 | .cell k,e=>by unfold T.und at e ⊢;simp at e ⊢;omega
 | .ob x,_=>rfl
 | .fz xs,e=>by unfold T.und at e ⊢;exact zZ h xs e
 | .lst xs,e=>by unfold T.und at e ⊢;exact zZ h xs e
 | .tup xs,e=>by unfold T.und at e ⊢;exact zZ h xs e
theorem zZ{a b:Nat}(h:a<=b):∀ts:List T,T.unds a ts=true->T.unds b ts=true
 | [],_=>rfl
 |t::ts,e=>by unfold T.unds at e ⊢;rw[Bool.and_eq_true]at e;rw[N1 h t e.1,zZ h ts e.2];rfl
end
def FlatM(M:Mem):Prop:=∀c∈M,T.unds 0 c=true
theorem FlatM.all{M:Mem}(h:FlatM M)(n:Nat):M.all (T.unds n)=true:=by
 rw[wH];exact λc hc=>zZ (Nat.zero_le _) c (h c hc)
theorem FlatM.app{A B:Mem}(h:FlatM A)(k:FlatM B):FlatM (A++B):=λc hc=>by
 rcases wC.mp hc with z|z
 ·exact h c z
 ·exact k c z
theorem qFk(n a:Nat):(N a).und n=true:=by unfold N T.und;rfl
theorem qBH(n:Nat):∀L:List Nat,T.unds n (L.map N)=true
 | []=>rfl
 |x::L=>by rw[List.map_cons];unfold T.unds;rw[qFk,qBH n L];rfl
theorem JZ{d:jT}{c:TS->Mem->PR (Bool×Mem)}{e:TS->Mem->PR (TB×Mem)}{M:Mem}{σ:TS}(p:Nat->Bool)(f:Nat->T)(fr:Nat->Bool):∀(its:List Nat) (ys:List T) (b:Bool) (o:Option T),qY d M=true->ys.length+its.length<=lim ->
  (∀x∈its,c (some (N x)::σ) M=.ok (p x,M))->(∀x∈its,p x=true->e (some (N x)::σ) M=.ok ((f x,fr x),M)) ->
  qP d (.name 0) c e (its.map N) ys b (o::σ) M=.ok ((.lst (ys++(its.filter p).map f),b&&(its.filter p).all fr),M)
 | [],ys,b,o,hd,hl,hc,he=>by simp[qP]
 |x::r,ys,b,o,hd,hl,hc,he=>by
  rw[List.map_cons];unfold qP;rw[show zF (.name 0) (N x) (o::σ)=some (some (N x)::σ) from rfl];dsimp only;rw[hc x (List.mem_cons_self ..)];rw[PR.bind_ok];dsimp only;cases hp:p x with
  |true=>
   rw[if_pos rfl,he x (List.mem_cons_self ..) hp,PR.bind_ok];dsimp only;rw[if_pos ⟨by simp at hl;omega,hd⟩];rw[JZ p f fr r (ys++[f x]) (b&&fr x) (some (N x)) hd (by simp at hl ⊢;omega) (λy hy=>hc y (List.mem_cons_of_mem _ hy)) (λy hy=>he y (List.mem_cons_of_mem _ hy))];rw[List.filter_cons_of_pos hp];simp[Bool.and_assoc]
  |false=>
   rw[if_neg (by decide),if_pos hd];rw[JZ p f fr r ys b (some (N x)) hd (by simp at hl ⊢;omega) (λy hy=>hc y (List.mem_cons_of_mem _ hy)) (λy hy=>he y (List.mem_cons_of_mem _ hy))];rw[List.filter_cons_of_neg (by rw[hp];decide)]
theorem W1(n:Nat):∀L:List Nat,QY n (L.map N)=(L.map N,[])
 | []=>by simp[QY]
 |x::L=>by
  rw[List.map_cons,QY,qDN];dsimp only;rw[List.length_nil,Nat.add_zero,W1 n L];rfl
@[simp] theorem E7(n:Nat)(L:List Nat):thaw n (NL L)=(.cell n,[L.map N]):=by
 unfold NL;rw[thaw,W1];rfl
theorem Jn{M:Mem}{n:Nat}{ts:List T}(h:M[n]?=some ts):qY [(n,ts)] M=true:=by
 unfold qY;simp[h,jD]
theorem Qy{M:Mem}{n:Nat}{ts:List T}(h:M[n]?=some ts):C5 M (.cell n)=some (ts,[(n,ts)]):=by
 unfold C5;dsimp only;rw[h];rfl
theorem qHw{M:Mem}{n:Nat}{ts:List T}(h:M[n]?=some ts):qk M (.cell n)=some "list":=by
 unfold qk;dsimp only;rw[h];rfl
structure IsL(M:Mem)(t:T)(L:List Nat):Prop where
 its:t.its M=some (L.map N)
 lis:t.lis M=some (L.map N)
 ty:qk M t=some "list"
 src:∃d,C5 M t=some (L.map N,d)/\C7 M t=some (L.map N,d)/\qY d M=true
 nv:t.isV=none
theorem IsL.nl(M:Mem)(L:List Nat):IsL M (NL L) L:=⟨rfl,rfl,rfl,⟨[],rfl,rfl,rfl⟩,rfl⟩
theorem IsL.cell{M:Mem}{n:Nat}{L:List Nat}(h:M[n]?=some (L.map N)):IsL M (.cell n) L:=⟨h,h,qHw h,⟨_,Qy h,Qy h,Jn h⟩,rfl⟩
section
variable{M:Mem}{t u:T}{L K:List Nat}
theorem IsL.len(h:IsL M t L):zg M .len [t]=some (N L.length,true):=by
 show (t.its M).map _=_;rw[h.its,Option.map_some,wL];rfl
theorem IsL.list(h:IsL M t L):zg M .list [t]=some (NL L,true):=by
 show (t.its M).map lT=_;rw[h.its,Option.map_some];show some (T.lst (L.map N),T.lfs (L.map N))=_;rw[G5];rfl
theorem qA6:∀L:List Nat,jZ (L.map N)=some (L.map λ(n:Nat)=>(n:Int))
 | []=>rfl
 |x::L=>by
  show (jZ (L.map N)).map _=_;rw[qA6 L];rfl
theorem M9:∀L:List Nat,(L.map λ(n:Nat)=>(n:Int)).sum=((L.sum:Nat):Int)
 | []=>rfl
 |x::L=>by rw[List.map_cons,List.sum_cons,M9 L,List.sum_cons];simp
theorem IsL.sum(h:IsL M t L):zg M .sum [t]=some (N L.sum,true):=by
 show (t.lis M).bind _=_;rw[h.lis,Option.bind_some,qA6,Option.map_some,M9];rfl
theorem IsL.idx(h:IsL M t L){i:Nat}{x:Nat}(e:L[i]?=some x):Qb M t (N i)=some (N x,true):=by
 show ((t.its M).bind λxs=>(L2.ixN xs.length (i:Int)).bind λj=>(xs[j]?).map λt=>(t,t.lf))=_;rw[h.its,Option.bind_some];have:=Jz (M:=M) i (L.map N);rw[show Qb M (.lst (L.map N)) (N i)=((L2.ixN (L.map N).length (i:Int)).bind λj=>((L.map N)[j]?).map λt=>(t,t.lf)) from rfl]at this;rw[this,wQ,e];simp
theorem IsL.eq(h:IsL M t L)(k:IsL M u K):eqT M 4 t u=some (decide (L=K)):=by
 have:=qDy (M:=M) (d:=3) L K;unfold eqT at this ⊢;rw[h.nv,k.nv,h.lis,k.lis];exact this
theorem IsL.cne(h:IsL M t L)(k:IsL M u K):zO M .ne t u=some (!decide (L=K)):=by
 show (eqT M 4 t u).map (!·)=_;rw[h.eq k];rfl
end
theorem l0{xs:List T}{m:Nat}(h:m<=xs.length):QQ xs none (some (m:Int))=xs.take m:=by
 unfold QQ;rw[HT.sIx_none,HT.sIx_nat,Nat.min_eq_left h,List.drop_zero,Nat.sub_zero]
theorem Jx{xs:List T}{m:Nat}(h:m<=xs.length):QQ xs (some (m:Int)) none=xs.drop m:=by
 unfold QQ;rw[HT.sIx_none,HT.sIx_nat,Nat.min_eq_left h];exact List.take_of_length_le (by simp)
theorem N6{gl:List T}{P:Nat->List T->Mem->PR (TB×Mem)}{e:TS->Mem->PR (TB×Mem)}{σ:TS}{I:Mem->Prop}{R:Nat->Prop}:∀(its ys:List Nat) (b:Bool) (o:Option T) (M:Mem),ys.length+its.length<=lim->I M ->
  (∀x∈its,∀M,I M->∃y M',e (some (N x)::σ) M=.ok ((N y,true),M')/\I M'/\R y) ->
  ∃K M',qP [] (.name 0) (pec gl P .nil) e (its.map N) (ys.map N) b (o::σ) M=.ok ((NL (ys++K),b),M')/\I M'/\K.length=its.length/\∀y∈K,R y
 | [],ys,b,o,M,hl,hI,he=>⟨[],M,by simp[qP,NL],hI,rfl,λy hy=>by simp at hy⟩
 |x::r,ys,b,o,M,hl,hI,he=>by
  obtain⟨y,M1,e1,i1,r1⟩:=he x (List.mem_cons_self ..) M hI;rw[List.map_cons];unfold qP;rw[show zF (.name 0) (N x) (o::σ)=some (some (N x)::σ) from rfl];dsimp only;rw[jc,PR.bind_ok];dsimp only;rw[if_pos rfl,e1,PR.bind_ok];dsimp only;rw[if_pos ⟨by simp at hl ⊢;omega,rfl⟩];obtain⟨K,M2,e2,i2,l2,r2⟩:=N6 (gl:=gl) (P:=P) (I:=I) (R:=R) r (ys++[y]) b (some (N x)) M1 (by simp at hl ⊢;omega) i1 (λy hy=>he y (List.mem_cons_of_mem _ hy));refine⟨y::K,M2,?_,i2,by simp[l2],λz hz=>?_⟩
  ·rw[show ys.map N++[N y]=(ys++[y]).map N by simp,Bool.and_true,e2];simp
  ·rcases List.mem_cons.mp hz with h1|h1
   ·rw[h1];exact r1
   ·exact r2 z h1
theorem N8{gl:List T}{P:Nat->List T->Mem->PR (TB×Mem)}{d:jT}{e:TS->Mem->PR (TB×Mem)}{M:Mem}(f:Nat->Nat->Nat)(hd:qY d M=true):∀(A B ys:List Nat) (b:Bool) (o1 o2:Option T),ys.length+A.length<=lim ->
  (∀x y,x∈A->y∈B->e [some (N x),some (N y)] M=.ok ((N (f x y),true),M)) ->
  qP d (.tup [0,1]) (pec gl P .nil) e (List.zipWith (λa b=>T.tup [a,b]) (A.map N) (B.map N)) (ys.map N) b [o1,o2] M=.ok ((NL (ys++List.zipWith f A B),b),M)
 | [],B,ys,b,o1,o2,hl,he=>by simp[qP,NL]
 |x::A,[],ys,b,o1,o2,hl,he=>by simp[qP,NL]
 |x::A,y::B,ys,b,o1,o2,hl,he=>by
  rw[List.map_cons,List.map_cons,List.zipWith_cons_cons];unfold qP;rw[show zF (.tup [0,1]) (.tup [N x,N y]) [o1,o2]=some [some (N x),some (N y)] from rfl];dsimp only;rw[jc,PR.bind_ok];dsimp only;rw[if_pos rfl,he x y (List.mem_cons_self ..) (List.mem_cons_self ..),PR.bind_ok];dsimp only;rw[if_pos ⟨by simp at hl ⊢;omega,hd⟩];rw[show ys.map N++[N (f x y)]=(ys++[f x y]).map N by simp,Bool.and_true];rw[N8 f hd A B (ys++[f x y]) b _ _ (by simp at hl ⊢;omega) (λu v hu hv=>he u v (List.mem_cons_of_mem _ hu) (List.mem_cons_of_mem _ hv))];simp
theorem G9{α:Type}(p:α->Bool):∀L:List α,zX (L.map λx=>T.v (.bl (p x)))=some (L.map p)
 | []=>rfl
 |x::L=>by
  show (zX (L.map λx=>T.v (.bl (p x)))).map _=_;rw[G9 p L];rfl
theorem qAL{M:Mem}{α:Type}(p:α->Bool)(L:List α):zg M .all [.lst (L.map λx=>T.v (.bl (p x)))]=some (bT (L.all p)):=by
 show (zX _).map _=_;rw[G9,Option.map_some,List.all_map];rfl
theorem qFs{M:Mem}{α:Type}(p:α->Bool)(L:List α):zg M .any [.lst (L.map λx=>T.v (.bl (p x)))]=some (bT (L.any p)):=by
 show (zX _).map _=_;rw[G9,Option.map_some,List.any_map];rfl
theorem qIk(K:List Nat):lT (K.map N)=(NL K,true):=by unfold lT;rw[G5];rfl
theorem getD_some{L:List Nat}{i:Nat}(h:i<L.length):L[i]?=some (L.getD i 0):=by
 rw[wT,wB h];rfl
def IsS(M:Mem)(t:T)(ts:List T):Prop:=t=.lst ts\/∃m,t=.cell m/\M[m]?=some ts
section
variable{M C:Mem}{t:T}{ts:List T}
theorem IsS.app(h:IsS M t ts):IsS (M++C) t ts:=by
 rcases h with h|⟨m,h,e⟩
 ·exact .inl h
 ·exact .inr ⟨m,h,by rw[List.getElem?_append_left (List.getElem?_eq_some_iff.mp e).1];exact e⟩
theorem IsS.its(h:IsS M t ts):t.its M=some ts:=by rcases h with rfl|⟨m,rfl,e⟩;rfl;exact e
theorem IsS.lis(h:IsS M t ts):t.lis M=some ts:=by rcases h with rfl|⟨m,rfl,e⟩;rfl;exact e
theorem IsS.ty(h:IsS M t ts):qk M t=some "list":=by rcases h with rfl|⟨m,rfl,e⟩;rfl;exact qHw e
theorem IsS.nv(h:IsS M t ts):t.isV=none:=by rcases h with rfl|⟨m,rfl,e⟩<;>rfl
theorem IsS.lf(h:IsS M t ts):t.lf=false:=by rcases h with rfl|⟨m,rfl,e⟩<;>simp
theorem IsS.src(h:IsS M t ts):∃d,C5 M t=some (ts,d)/\C7 M t=some (ts,d)/\∀C,qY d (M++C)=true:=by
 rcases h with rfl|⟨m,rfl,e⟩
 ·exact⟨[],rfl,rfl,λ_=>rfl⟩
 ·exact⟨_,Qy e,Qy e,λC=>Jn (by rw[List.getElem?_append_left (List.getElem?_eq_some_iff.mp e).1];exact e)⟩
theorem IsS.len(h:IsS M t ts):zg M .len [t]=some (N ts.length,true):=by
 show (t.its M).map _=_;rw[h.its,Option.map_some];rfl
theorem IsS.idx(h:IsS M t ts)(i:Nat):Qb M t (N i)=(ts[i]?).map λt=>(t,t.lf):=by
 have a:Qb M t (N i)=Qb M (.lst ts) (N i):=by
  show (t.its M).bind _=_;rw[h.its];rfl
 rw[a,Jz]
theorem IsS.list(h:IsS M t ts):zg M .list [t]=some (lT ts):=by
 show (t.its M).map lT=_;rw[h.its];rfl
theorem IsS.eqT{u:T}{us:List T}{d:Nat}{bs:List Bool}(h:IsS M t ts)(k:IsS M u us)(hl:ts.length=us.length)(e:zt (eqT M d) ts us=some bs):PI.eqT M (d+1) t u=some (bs.all id):=by
 unfold PI.eqT;rw[h.nv,k.nv,h.lis,k.lis];dsimp only;rw[if_pos hl,e];rfl
end
def WfM(M:Mem):Prop:=M.all (T.unds M.length)=true
theorem WfM.app{M C:Mem}(h:WfM M)(hC:∀c∈C,T.unds (M++C).length c=true):WfM (M++C):=by
 unfold WfM at *;rw[wH]at h ⊢;intro c hc;rcases wC.mp hc with z|z
 ·exact zZ (by simp) c (h c z)
 ·exact hC c z
theorem WfM.one{M:Mem}(h:WfM M){ts:List T}(l:T.lfs ts=true):WfM (M++[ts]):=h.app λc hc=>by rw[wM.mp hc];exact JF _ _ l
theorem Qx{M:Mem}{n0 d:Nat}:∀ts:List T,T.lfs ts=true->ts.mapM (qT M n0 d)=some ts
 | [],_=>rfl
 |t::ts,h=>by
  rw[Qd,Bool.and_eq_true]at h;have e:qT M n0 d t=some t:=by cases d<;>(unfold qT;rw[if_pos (Z4 n0 t h.1)])
  rw[List.mapM_cons,e,Qx ts h.2];rfl
theorem K4{M:Mem}{n0 d:Nat}:∀ts:List T,T.lfs ts=true->ts.mapM (jU M n0 d)=some (ts.map λ_=>[])
 | [],_=>rfl
 |t::ts,h=>by
  rw[Qd,Bool.and_eq_true]at h;have e:jU M n0 d t=some []:=by cases d<;>(unfold jU;rw[if_pos h.1])
  rw[List.mapM_cons,e,K4 ts h.2];rfl
theorem P3(L:List T):(L.map λ_=>([]:List Nat)).flatten=[]:=by
 induction L with
 |nil=>rfl
 |cons x L ih=>rw[List.map_cons,List.flatten_cons,ih];rfl
theorem ZX{M A C:Mem}{c:Nat}{ts:List T}(hA:A.length=M.length)(hW:WfM A)(hc:(A++C)[c]?=some ts)(hn:A.length<=c)(hl:T.lfs ts=true)(f:Bool):JB M.length (.ok (.rt (.cell c,f),A++C))=.ok ((.lst ts,true),A):=by
 show finish M.length _ _=_;unfold finish;have hlt:=(List.getElem?_eq_some_iff.mp hc).1;rw[List.length_append]at hlt;rw[<-hA,if_neg (by rw[List.length_append];omega),List.take_left' rfl,if_pos (show A.all (T.unds A.length)=true from hW)];have r:qT (A++C) A.length 6 (.cell c)=some (.lst ts):=by
  unfold qT;rw[if_neg (by unfold T.und;simp;omega)];dsimp only;rw[hc,Option.bind_some,Qx _ hl];rfl
 have i:frR (A++C) A.length (.cell c)=true:=by
  unfold frR;rw[show jU (A++C) A.length 6 (.cell c)=some [c] by
   unfold jU;rw[if_neg (by rw[qC8];decide)];dsimp only;rw[if_pos hn,hc,Option.bind_some,K4 _ hl,Option.map_some,P3];rfl]
  simp
 dsimp only;rw[r,PR.ofO_some,PR.bind_ok,i,Bool.or_true]
theorem qA4{d:jT}{gl:List T}{P:Nat->List T->Mem->PR (TB×Mem)}{e:TS->Mem->PR (TB×Mem)}{σ:TS}{J:Mem->Prop}{Pr:T->T->Prop}:∀(its ys:List T) (b:Bool) (o:Option T) (M:Mem),ys.length+its.length<=lim->J M->(∀M',J M'->qY d M'=true) ->
  (∀x∈its,∀M',J M'->∃z M'',e (some x::σ) M'=.ok ((z,true),M'')/\J M''/\Pr x z) ->
  ∃zs M',qP d (.name 0) (pec gl P .nil) e its ys b (o::σ) M=.ok ((.lst (ys++zs),b),M')/\J M'/\zu Pr its zs
 | [],ys,b,o,M,_,hJ,_,_=>⟨[],M,by simp[qP],hJ,rfl⟩
 |x::r,ys,b,o,M,hl,hJ,hd,he=>by
  obtain⟨z,M1,e1,j1,p1⟩:=he x (by simp) M hJ;obtain⟨zs,M2,e2,j2,p2⟩:=qA4 (d:=d) (gl:=gl) (P:=P) (σ:=σ) r (ys++[z]) b (some x) M1 (by simp at hl ⊢;omega) j1 hd λy hy=>he y (by simp[hy]);refine⟨z::zs,M2,?_,j2,⟨z,zs,rfl,p1,p2⟩⟩;rw[qP,show zF (.name 0) x (o::σ)=some (some x::σ) from rfl];dsimp only;rw[jc,PR.bind_ok];dsimp only;rw[if_pos rfl,e1,PR.bind_ok];dsimp only;rw[if_pos ⟨by simp at hl;omega,hd M1 j1⟩,Bool.and_true,e2];simp
theorem Jj{d:jT}{gl:List T}{P:Nat->List T->Mem->PR (TB×Mem)}{e:TS->Mem->PR (TB×Mem)}{σ:TS}{M:Mem}(f:T->T)(fr:T->Bool)(hd:qY d M=true):∀(its ys:List T) (b:Bool) (o:Option T),ys.length+its.length<=lim ->
  (∀x∈its,e (some x::σ) M=.ok ((f x,fr x),M)) ->
  qP d (.name 0) (pec gl P .nil) e its ys b (o::σ) M=.ok ((.lst (ys++its.map f),b&&its.all fr),M)
 | [],ys,b,o,_,_=>by simp[qP]
 |x::r,ys,b,o,hl,he=>by
  rw[qP,show zF (.name 0) x (o::σ)=some (some x::σ) from rfl];dsimp only;rw[jc,PR.bind_ok];dsimp only;rw[if_pos rfl,he x (by simp),PR.bind_ok];dsimp only;rw[if_pos ⟨by simp at hl;omega,hd⟩,Jj f fr hd r (ys++[f x]) (b&&fr x) (some x) (by simp at hl ⊢;omega) λy hy=>he y (by simp[hy])];simp[Bool.and_assoc]
section
variable{gl:List T}{P:Nat->List T->Mem->PR (TB×Mem)}{M:Mem}{t:T}{l:TS}
@[simp high] theorem qS:pe gl P (.var 0) (some t::l) M=.ok ((t,t.lf),M):=Eq.trans rfl rfl
@[simp high] theorem qd{x0:Option T}:pe gl P (.var 1) (x0::some t::l) M=.ok ((t,t.lf),M):=Eq.trans rfl rfl
@[simp high] theorem zS{x0 x1:Option T}:pe gl P (.var 2) (x0::x1::some t::l) M=.ok ((t,t.lf),M):=Eq.trans rfl rfl
@[simp high] theorem zz{x0 x1 x2:Option T}:pe gl P (.var 3) (x0::x1::x2::some t::l) M=.ok ((t,t.lf),M):=Eq.trans rfl rfl
@[simp high] theorem ZE{x0 x1 x2 x3:Option T}:pe gl P (.var 4) (x0::x1::x2::x3::some t::l) M=.ok ((t,t.lf),M):=Eq.trans rfl rfl
@[simp high] theorem S8{x0 x1 x2 x3 x4:Option T}:pe gl P (.var 5) (x0::x1::x2::x3::x4::some t::l) M=.ok ((t,t.lf),M):=Eq.trans rfl rfl
@[simp high] theorem qCa{x0 x1 x2 x3 x4 x5:Option T}:pe gl P (.var 6) (x0::x1::x2::x3::x4::x5::some t::l) M=.ok ((t,t.lf),M):=Eq.trans rfl rfl
@[simp high] theorem qF9{x0 x1 x2 x3 x4 x5 x6:Option T}:pe gl P (.var 7) (x0::x1::x2::x3::x4::x5::x6::some t::l) M=.ok ((t,t.lf),M):=Eq.trans rfl rfl
@[simp high] theorem qGh{x0 x1 x2 x3 x4 x5 x6 x7:Option T}:pe gl P (.var 8) (x0::x1::x2::x3::x4::x5::x6::x7::some t::l) M=.ok ((t,t.lf),M):=Eq.trans rfl rfl
@[simp high] theorem qGK{x0 x1 x2 x3 x4 x5 x6 x7 x8:Option T}:pe gl P (.var 9) (x0::x1::x2::x3::x4::x5::x6::x7::x8::some t::l) M=.ok ((t,t.lf),M):=Eq.trans rfl rfl
@[simp high] theorem qDQ{x0 x1 x2 x3 x4 x5 x6 x7 x8 x9:Option T}:pe gl P (.var 10) (x0::x1::x2::x3::x4::x5::x6::x7::x8::x9::some t::l) M=.ok ((t,t.lf),M):=Eq.trans rfl rfl
@[simp high] theorem qEd{x0 x1 x2 x3 x4 x5 x6 x7 x8 x9 x10:Option T}:pe gl P (.var 11) (x0::x1::x2::x3::x4::x5::x6::x7::x8::x9::x10::some t::l) M=.ok ((t,t.lf),M):=Eq.trans rfl rfl
@[simp high] theorem qHy{x0 x1 x2 x3 x4 x5 x6 x7 x8 x9 x10 x11:Option T}:pe gl P (.var 12) (x0::x1::x2::x3::x4::x5::x6::x7::x8::x9::x10::x11::some t::l) M=.ok ((t,t.lf),M):=Eq.trans rfl rfl
@[simp high] theorem qHN{x0 x1 x2 x3 x4 x5 x6 x7 x8 x9 x10 x11 x12:Option T}:pe gl P (.var 13) (x0::x1::x2::x3::x4::x5::x6::x7::x8::x9::x10::x11::x12::some t::l) M=.ok ((t,t.lf),M):=Eq.trans rfl rfl
@[simp high] theorem qH5{y z:Option T}:(y::l:TS).set 0 z=z::l:=Eq.trans rfl rfl
@[simp high] theorem U6{x0 y z:Option T}:(x0::y::l:TS).set 1 z=x0::z::l:=Eq.trans rfl rfl
@[simp high] theorem zi{x0 x1 y z:Option T}:(x0::x1::y::l:TS).set 2 z=x0::x1::z::l:=Eq.trans rfl rfl
@[simp high] theorem jJ{x0 x1 x2 y z:Option T}:(x0::x1::x2::y::l:TS).set 3 z=x0::x1::x2::z::l:=Eq.trans rfl rfl
@[simp high] theorem QU{x0 x1 x2 x3 y z:Option T}:(x0::x1::x2::x3::y::l:TS).set 4 z=x0::x1::x2::x3::z::l:=Eq.trans rfl rfl
@[simp high] theorem K8{x0 x1 x2 x3 x4 y z:Option T}:(x0::x1::x2::x3::x4::y::l:TS).set 5 z=x0::x1::x2::x3::x4::z::l:=Eq.trans rfl rfl
@[simp high] theorem qAp{x0 x1 x2 x3 x4 x5 y z:Option T}:(x0::x1::x2::x3::x4::x5::y::l:TS).set 6 z=x0::x1::x2::x3::x4::x5::z::l:=Eq.trans rfl rfl
@[simp high] theorem qDJ{x0 x1 x2 x3 x4 x5 x6 y z:Option T}:(x0::x1::x2::x3::x4::x5::x6::y::l:TS).set 7 z=x0::x1::x2::x3::x4::x5::x6::z::l:=Eq.trans rfl rfl
@[simp high] theorem qEk{x0 x1 x2 x3 x4 x5 x6 x7 y z:Option T}:(x0::x1::x2::x3::x4::x5::x6::x7::y::l:TS).set 8 z=x0::x1::x2::x3::x4::x5::x6::x7::z::l:=Eq.trans rfl rfl
@[simp high] theorem qFL{x0 x1 x2 x3 x4 x5 x6 x7 x8 y z:Option T}:(x0::x1::x2::x3::x4::x5::x6::x7::x8::y::l:TS).set 9 z=x0::x1::x2::x3::x4::x5::x6::x7::x8::z::l:=Eq.trans rfl rfl
@[simp high] theorem qB2{x0 x1 x2 x3 x4 x5 x6 x7 x8 x9 y z:Option T}:(x0::x1::x2::x3::x4::x5::x6::x7::x8::x9::y::l:TS).set 10 z=x0::x1::x2::x3::x4::x5::x6::x7::x8::x9::z::l:=Eq.trans rfl rfl
@[simp high] theorem qBn{x0 x1 x2 x3 x4 x5 x6 x7 x8 x9 x10 y z:Option T}:(x0::x1::x2::x3::x4::x5::x6::x7::x8::x9::x10::y::l:TS).set 11 z=x0::x1::x2::x3::x4::x5::x6::x7::x8::x9::x10::z::l:=Eq.trans rfl rfl
@[simp high] theorem qHE{x0 x1 x2 x3 x4 x5 x6 x7 x8 x9 x10 x11 y z:Option T}:(x0::x1::x2::x3::x4::x5::x6::x7::x8::x9::x10::x11::y::l:TS).set 12 z=x0::x1::x2::x3::x4::x5::x6::x7::x8::x9::x10::x11::z::l:=Eq.trans rfl rfl
@[simp high] theorem qF8{x0 x1 x2 x3 x4 x5 x6 x7 x8 x9 x10 x11 x12 y z:Option T}:(x0::x1::x2::x3::x4::x5::x6::x7::x8::x9::x10::x11::x12::y::l:TS).set 13 z=x0::x1::x2::x3::x4::x5::x6::x7::x8::x9::x10::x11::x12::z::l:=Eq.trans rfl rfl
variable{σ:TS}{C:List Nat}{e:E}{i:Nat}
theorem qDS(h:(C.contains i||C.contains (i+1000))=false):px gl P C (.asg (.name i) e) σ M=(pe gl P e σ M).bind λp=>.ok (.nx (σ.set i (some p.1.1)),p.2):=by
 rw[Bool.or_eq_false_iff]at h;rw[F9,h.1,h.2];rfl
@[simp high] theorem qHp:px gl P [] (.asg (.name i) e) σ M=(pe gl P e σ M).bind λp=>.ok (.nx (σ.set i (some p.1.1)),p.2):=qDS rfl
variable{s:S}{r t0 u0:Ss}{σ':TS}{M':Mem}{c:E}{b:Bool}
theorem Zn(e:px gl P C s σ M=.ok (.nx σ',M')):pxs gl P C (.cons s r) σ M=pxs gl P C r σ' M':=by rw[qb,e];rfl
theorem qBc:pxs gl P C (.cons s .nil) σ M=px gl P C s σ M:=by
 rw[qb];cases px gl P C s σ M with
 |ok p=>obtain⟨o,M'⟩:=p;cases o<;>rfl
 |_=>rfl
section
variable{i f:Nat}{a b d z:E}{u v w:T}{fa fb fc fd:Bool}{M1 M2 M3 M4:Mem}{r:TB}
theorem zx(ha:pe gl P a σ M=.ok ((t,fa),M1))(hb:pe gl P b σ M1=.ok ((u,fb),M2))(h:Qb M2 t u=some r):pe gl P (.idx a b) σ M=.ok (r,M2):=by
 rw[qD3,ha,PR.bind_ok,hb,PR.bind_ok,h];rfl
theorem zm{op:BOp}(ha:pe gl P a σ M=.ok ((t,fa),M1))(hb:pe gl P b σ M1=.ok ((u,fb),M2))(h:qr M2 op t u=some r):pe gl P (.bin op a b) σ M=.ok (r,M2):=by
 rw[qEp,ha,PR.bind_ok,hb,PR.bind_ok,h];rfl
theorem zG{op:COp}{x:Bool}(ha:pe gl P a σ M=.ok ((t,fa),M1))(hb:pe gl P b σ M1=.ok ((u,fb),M2))(h:zO M2 op t u=some x):pe gl P (.cmp op a b) σ M=.ok (bT x,M2):=by
 rw[qAt,ha,PR.bind_ok,hb,PR.bind_ok,h];rfl
theorem qGF(h:pe gl P a σ M=.ok ((t,fa),M1))(hC:(C.contains i||C.contains (i+1000))=false):px gl P C (.asg (.name i) a) σ M=.ok (.nx (σ.set i (some t)),M1):=by
 rw[qDS hC,h];rfl
theorem qHA{n:Nat}(ha:pe gl P a σ M=.ok ((.cell n,fa),M1))(hb:pe gl P b σ M1=.ok ((u,fb),M2))(h:j4 M2 n u=some M3):px gl P C (.expr (.app a b)) σ M=.ok (.nx σ,M3):=by
 rw[qBe,qD6,ha,PR.bind_ok];show ((pe gl P b σ M1).bind _).bind _=_;rw[hb,PR.bind_ok];show ((PR.ofO (j4 M2 n u)).bind _).bind _=_;rw[h];rfl
end
end
noncomputable def apS:Ss->Ss->Ss
 | .nil,r=>r
 | .cons s t,r=>.cons s (apS t r)
def Cnd{α:Type}(y:Bool)(A B q:PR α):Prop:=(if y=true then A else B)=q/\True
theorem cT{α:Type}{A B q:PR α}(h:A=q):Cnd true A B q:=⟨h,trivial⟩
theorem cF{α:Type}{A B q:PR α}(h:B=q):Cnd false A B q:=⟨h,trivial⟩
theorem ll0:([]:List T).length<=lim:=(by decide:0<=lim)
theorem ll1{x0:T}:[x0].length<=lim:=(by decide:1<=lim)
theorem ll2{x0 x1:T}:[x0,x1].length<=lim:=(by decide:2<=lim)
theorem ll3{x0 x1 x2:T}:[x0,x1,x2].length<=lim:=(by decide:3<=lim)
theorem ll4{x0 x1 x2 x3:T}:[x0,x1,x2,x3].length<=lim:=(by decide:4<=lim)
theorem ll5{x0 x1 x2 x3 x4:T}:[x0,x1,x2,x3,x4].length<=lim:=(by decide:5<=lim)
theorem ll6{x0 x1 x2 x3 x4 x5:T}:[x0,x1,x2,x3,x4,x5].length<=lim:=(by decide:6<=lim)
theorem ll7{x0 x1 x2 x3 x4 x5 x6:T}:[x0,x1,x2,x3,x4,x5,x6].length<=lim:=(by decide:7<=lim)
theorem ll8{x0 x1 x2 x3 x4 x5 x6 x7:T}:[x0,x1,x2,x3,x4,x5,x6,x7].length<=lim:=(by decide:8<=lim)
theorem qIb{x0 x1 x2 x3 x4 x5 x6 x7 x8 x9:T}:[x0,x1,x2,x3,x4,x5,x6,x7,x8,x9].length<=lim:=(by decide:10<=lim)
theorem isT:true=true:=rfl
theorem isF:false=false:=rfl
theorem dT{p:Prop}{h:Decidable p}(hp:p):decide p=true:=vF hp
theorem dF{p:Prop}{h:Decidable p}(hp:¬ p):decide p=false:=vE hp
theorem nT{x:Bool}(h:x=false):(!x)=true:=by rw[h];rfl
theorem nF{x:Bool}(h:x=true):(!x)=false:=by rw[h];rfl
section
variable{gl:List T}{P:Nat->List T->Mem->PR (TB×Mem)}{C:List Nat}{σ σ':TS}{M M1 M2 M3 M4:Mem}
def PL(gl:List T)(P:Nat->List T->Mem->PR (TB×Mem))(as:Es)(σ:TS)(M:Mem)(ts:List T)(f:Bool)(M1:Mem):Prop:=∃xs,pes gl P as σ M=.ok (xs,M1)/\xs.map (·.1)=ts/\xs.all (·.2)=f/\xs.length=ts.length
variable{i f g:Nat}{a b c e:E}{as:Es}{t u v:T}{fa fb fc x y:Bool}{ts us:List T}{r:TB}{s:S}{rs t0 u0:Ss}{q:PR (PO×Mem)}
theorem qO:PL gl P .nil σ M [] true M:=⟨[],rfl,rfl,rfl,rfl⟩
theorem qD(ha:pe gl P a σ M=.ok ((t,fa),M1))(hb:PL gl P as σ M1 ts fb M2):PL gl P (.cons a as) σ M (t::ts) (fa&&fb) M2:=by
 obtain⟨xs,e,rfl,rfl,h⟩:=hb;refine⟨(t,fa)::xs,?_,rfl,rfl,congrArg (· + 1) h⟩;rw[m3,ha,PR.bind_ok,e];rfl
theorem jK{n:Nat}:pe gl P (nE n) σ M=.ok ((N n,true),M):=qGQ n
theorem S4{x:Bool}:pe gl P (.cst (.bl x)) σ M=.ok ((.v (.bl x),true),M):=rfl
theorem F5:pe gl P (.cst .non) σ M=.ok ((.v .non,true),M):=rfl
theorem R9{s:PySem.Str}:pe gl P (.cst (.str s)) σ M=.ok ((.v (.str s),true),M):=rfl
theorem qX(h:PL gl P as σ M ts fa M1)(hp:P f ts M1=.ok (r,M2)):pe gl P (.call f as) σ M=.ok (r,M2):=by
 obtain⟨xs,e,rfl,rfl,_⟩:=h;rw[pe_call,e,PR.bind_ok];show (P f (xs.map (·.1)) M1).nx=_;rw[hp];rfl
theorem zb{o:BF}(h:PL gl P as σ M ts fa M1)(hp:zg M1 o ts=some r):pe gl P (.blt o as) σ M=.ok (r,M1):=by
 obtain⟨xs,e,rfl,rfl,_⟩:=h;rw[qDo,e,PR.bind_ok];show (PR.ofO (zg M1 o (xs.map (·.1)))).bind _=_;rw[hp];rfl
theorem zo(h:PL gl P as σ M ts fa M1)(hl:ts.length<=lim):pe gl P (.lst as) σ M=.ok ((.lst ts,fa),M1):=by
 obtain⟨xs,e,rfl,rfl,hh⟩:=h;rw[pe_lst,e,PR.bind_ok];show (if xs.length<=lim then _ else _)=_;rw[hh,if_pos hl]
theorem Ji(h:PL gl P as σ M ts fa M1)(hl:ts.length<=lim):pe gl P (.tup as) σ M=.ok ((.tup ts,fa),M1):=by
 obtain⟨xs,e,rfl,rfl,hh⟩:=h;rw[pe_tup,e,PR.bind_ok];show (if xs.length<=lim then _ else _)=_;rw[hh,if_pos hl]
theorem qu{it:Itr}{src:List (Option Nat)}{tg:Tg}{cs:Es}{d:jT}(h:pei gl P it σ M=.ok ((us,d),M1))(hc:qP d tg (pec gl P cs) (pe gl P e) us [] true (jx src σ) M1=.ok (r,M2)):pe gl P (.comp it src tg cs e) σ M=.ok (r,M2):=by
 rw[pe_comp,h];exact hc
theorem JQ(h:pe gl P a σ M=.ok (bT x,M1)):pe gl P (.not a) σ M=.ok (bT (!x),M1):=by rw[pe_not,h];rfl
theorem QL{q:PR (TB×Mem)}(h:pe gl P a σ M=.ok (bT x,M1))(hx:x=y)(hq:Cnd y (pe gl P b σ M1) (.ok (bT false,M1)) q):pe gl P (.and a b) σ M=q:=by subst hx;rw[pe_and,h];exact hq.1
theorem qA2{q:PR (TB×Mem)}(h:pe gl P a σ M=.ok (bT x,M1))(hx:x=y)(hq:Cnd y (.ok (bT true,M1)) (pe gl P b σ M1) q):pe gl P (.or a b) σ M=q:=by subst hx;rw[pe_or,h];exact hq.1
theorem qHK{n:Nat}{ty:Mt}{r:TB}(h:pe gl P a σ M=.ok ((.cell n,fa),M1))(hs:PL gl P as σ M1 ts fb M2)(hm:C3 ty n ts M2=some (r,M3)):pe gl P (.meth ty a as) σ M=.ok (r,M3):=by
 obtain⟨xs,e,rfl,rfl,_⟩:=hs;rw[qB5,h,PR.bind_ok];show (pes gl P as σ M1).bind _=_;rw[e,PR.bind_ok];show PR.ofO (C3 ty n (xs.map (·.1)) M2)=_;rw[hm];rfl
theorem qFQ(h:pe gl P a σ M=.ok ((t,fa),M1))(hl:i8 t=some us):pe gl P (.lrng a) σ M=.ok ((.lst us,true),M1):=by
 rw[qCu,h,PR.bind_ok];show (PR.ofO (i8 t)).bind _=_;rw[hl];rfl
theorem qCC{lo hi:Es}{l h':List T}{is js:List Int}(h:pe gl P a σ M=.ok ((t,fa),M1))(h1:PL gl P lo σ M1 l fb M2)(h2:PL gl P hi σ M2 h' fc M3)(hi':t.its M3=some us)(e1:zD l=some is)(e2:zD h'=some js)(hr:Jb t us is.head? js.head?=some r):pe gl P (.sl a lo hi) σ M=.ok (r,M3):=by
 obtain⟨xs,e,rfl,rfl,_⟩:=h1;obtain⟨ys,e',rfl,rfl,_⟩:=h2;rw[qHL,h,PR.bind_ok];show (pes gl P lo σ M1).bind _=_;rw[e,PR.bind_ok];show (pes gl P hi σ M2).bind _=_;rw[e',PR.bind_ok];show (PR.ofO (t.its M3)).bind _=_;rw[hi',PR.ofO_some,PR.bind_ok];show (PR.ofO (zD (xs.map (·.1)))).bind _=_;rw[e1,PR.ofO_some,PR.bind_ok];show (PR.ofO (zD (ys.map (·.1)))).bind _=_;rw[e2,PR.ofO_some,PR.bind_ok];show (PR.ofO (Jb t us is.head? js.head?)).bind _=_;rw[hr];rfl
theorem ZN{ks:List String}{n:String}(h:pe gl P a σ M=.ok ((t,fa),M1))(ht:qk M1 t=some n):pe gl P (.isi a ks) σ M=.ok (bT (ks.any (zE n)),M1):=by
 rw[qEf,h,PR.bind_ok];show (PR.ofO (qk M1 t)).bind _=_;rw[ht];rfl
theorem qGW{o:TU}{v:L2.V}(h:pe gl P a σ M=.ok ((t,fa),M1))(hv:t.fv.bind (G2 o)=some v):pe gl P (.txu o a) σ M=.ok ((.v v,true),M1):=by
 rw[qE6,h,PR.bind_ok];show (PR.ofO (t.fv.bind (G2 o))).bind _=_;rw[hv];rfl
theorem qDV{ys:List PySem.Str}(h:pe gl P a σ M=.ok ((t,fa),M1))(hl:t.lis M1=some us)(hs:JW us=some ys)(hc:ys.length<=1000/\(ys.all λy=>decide (y.length<=1000))=true):pe gl P (.join a) σ M=.ok ((.v (.str (PySem.Txt.join (PySem.Str.ofString "") ys)),true),M1):=by
 rw[qC0,h,PR.bind_ok];show (PR.ofO (t.lis M1)).bind _=_;rw[hl,PR.ofO_some,PR.bind_ok,hs,PR.ofO_some,PR.bind_ok,if_pos hc]
theorem zW{d:jT}(h:pe gl P a σ M=.ok ((t,fa),M1))(hs:C5 M1 t=some (us,d)):pei gl P (.list a) σ M=.ok ((us,d),M1):=by
 rw[qAK,h,PR.bind_ok];show (PR.ofO (C5 M1 t)).bind _=_;rw[hs];rfl
theorem Zs(h:pe gl P a σ M=.ok ((t,fa),M1))(hs:qBy t=some us):pei gl P (.rng1 a) σ M=.ok ((us,[]),M1):=by
 rw[M8,h,PR.bind_ok];show (PR.ofO (qBy t)).bind _=_;rw[hs];rfl
theorem qFG{d:jT}(h:pe gl P a σ M=.ok ((t,fa),M1))(hs:C7 M1 t=some (us,d)):pei gl P (.revd a) σ M=.ok ((us.reverse,d),M1):=by
 rw[q8,h,PR.bind_ok];show (PR.ofO (C7 M1 t)).bind _=_;rw[hs];rfl
theorem qEh(ha:pe gl P a σ M=.ok ((t,fa),M1))(hb:pe gl P b σ M1=.ok ((u,fb),M2))(hs:S6 t u=some us):pei gl P (.rng2 a b) σ M=.ok ((us,[]),M2):=by
 rw[y9,ha,PR.bind_ok];show ((pe gl P b σ M1).bind _)=_;rw[hb,PR.bind_ok];show (PR.ofO (S6 t u)).bind _=_;rw[hs];rfl
theorem E6:pxs gl P C .nil σ M=.ok (.nx σ,M):=rfl
theorem E4:∀(t0 rs:Ss) (σ:TS) (M:Mem),pxs gl P C (apS t0 rs) σ M=(pxs gl P C t0 σ M).bind λp=>match p.1 with
  | .nx σ1=>pxs gl P C rs σ1 p.2
  |o=>.ok (o,p.2)
 | .nil,rs,σ,M=>rfl
 | .cons s t,rs,σ,M=>by
  show pxs gl P C (.cons s (apS t rs)) σ M=_;rw[qb,qb];cases px gl P C s σ M with
  |ok p=>
   obtain⟨o,M'⟩:=p;cases o with
   |nx σ1=>exact E4 t rs σ1 M'
   |_=>rfl
  |_=>rfl
def Ifs(gl:List T)(P:Nat->List T->Mem->PR (TB×Mem))(C:List Nat)(y:Bool)(t u r:Ss)(σ:TS)(M:Mem)(q:PR (PO×Mem)):Prop:=(if y=true then pxs gl P C (apS t r) σ M else pxs gl P C (apS u r) σ M)=q/\True
section
variable{s1 s2 s3 s4:S}
theorem t_1(h:pxs gl P C (.cons s1 rs) σ M=q):Ifs gl P C true (.cons s1 .nil) u0 rs σ M q:=⟨h,trivial⟩
theorem t_3(h:pxs gl P C (.cons s1 (.cons s2 (.cons s3 rs))) σ M=q):Ifs gl P C true (.cons s1 (.cons s2 (.cons s3 .nil))) u0 rs σ M q:=⟨h,trivial⟩
theorem f_0(h:pxs gl P C rs σ M=q):Ifs gl P C false t0 .nil rs σ M q:=⟨h,trivial⟩
end
theorem QH(h:pe gl P c σ M=.ok (bT x,M1))(hx:x=y)(hq:Ifs gl P C y t0 u0 rs σ M1 q):pxs gl P C (.cons (.ifs c t0 u0) rs) σ M=q:=by
 subst hx;rw[qb,qEv,h,qG5,PR.bind_ok];have hq:=hq.1;rw[E4,E4]at hq;cases x<;>exact hq
theorem jL(hC:(C.contains i||C.contains (i+1000))=false)(h:pe gl P e σ M=.ok ((t,fa),M1))(hs:σ.set i (some t)=σ')(hr:pxs gl P C rs σ' M1=q):pxs gl P C (.cons (.asg (.name i) e) rs) σ M=q:=by
 rw[Zn (qGF h hC),hs];exact hr
theorem Z3{B:Mem}(hC:C.contains i=true)(h:pe gl P e σ M=.ok ((t,true),M1))(ht:thaw M1.length t=(u,B))(hs:σ.set i (some u)=σ')(hr:pxs gl P C rs σ' (M1++B)=q):pxs gl P C (.cons (.asg (.name i) e) rs) σ M=q:=by
 rw[qb,F9,h,PR.bind_ok];show ((if (C.contains i&&true)=true then PR.ok (.nx (σ.set i (some (thaw M1.length t).1)),M1++(thaw M1.length t).2) else _:PR (PO×Mem)).bind _)=_;rw[hC,if_pos (show (true&&true)=true from rfl),ht,PR.bind_ok,hs];exact hr
theorem D7{ts:List T}(h0:(!C.contains i&&(C.contains (i+1000)&&qDB e))=true)(h:pe gl P e σ M=.ok ((.lst ts,fa),M1))(hs:σ.set i (some (.cell M1.length))=σ')(hr:pxs gl P C rs σ' (M1++[ts])=q):pxs gl P C (.cons (.asg (.name i) e) rs) σ M=q:=by
 obtain⟨h0,hC⟩:=Bool.and_eq_true_iff.mp h0;have h0:C.contains i=false:=by cases hc:C.contains i<;>simp_all
 rw[qb,F9,h,PR.bind_ok];dsimp only;rw[h0,if_neg (by simp),if_pos hC,PR.bind_ok,hs];exact hr
theorem qEw{j:Nat}{σ1:TS}(h:pe gl P e σ M=.ok ((.tup [t,u],fa),M1))(h1:σ.set i (some t)=σ1)(h2:σ1.set j (some u)=σ')(hr:pxs gl P C rs σ' M1=q):pxs gl P C (.cons (.asg (.tup [i,j]) e) rs) σ M=q:=by
 rw[qb,qDZ,h,PR.bind_ok];subst h1;subst h2;exact hr
theorem qBr{o k a:E}{p n z:T}(ha:pe gl P a σ M=.ok ((z,fa),M1))(ho:pe gl P o σ M1=.ok ((p,fb),M2))(hk:pe gl P k σ M2=.ok ((n,fc),M3))(hp:l6 M3 p n z=some M4)(hr:pxs gl P C rs σ M4=q):pxs gl P C (.cons (.put o k a) rs) σ M=q:=by
 rw[qb,qFB,ha,PR.bind_ok];show ((pe gl P o σ M1).bind _).bind _=_;rw[ho,PR.bind_ok];show ((pe gl P k σ M2).bind _).bind _=_;rw[hk,PR.bind_ok];show ((PR.ofO (l6 M3 p n z)).bind _).bind _=_;rw[hp];exact hr
theorem U9{n:Nat}(ha:pe gl P a σ M=.ok ((.cell n,fa),M1))(hb:pe gl P b σ M1=.ok ((u,fb),M2))(h:j4 M2 n u=some M3)(hr:pxs gl P C rs σ M3=q):pxs gl P C (.cons (.expr (.app a b)) rs) σ M=q:=by
 rw[Zn (qHA ha hb h)];exact hr
theorem qCt(h:pe gl P e σ M=.ok (r,M1)):pxs gl P C (.cons (.ret e) rs) σ M=.ok (.rt r,M1):=by
 rw[qb,qBL,h];rfl
theorem qQ{r':TB}(h:pe gl P e σ M=.ok (r,M1))(hr:r=r'):pxs gl P C (.cons (.ret e) rs) σ M=.ok (.rt r',M1):=by rw[qCt h,hr]
theorem Q7{it:Itr}{tg:Tg}{d:jT}{σ2:TS}(h:pei gl P it σ M=.ok ((us,d),M1))(hf:zQ d tg (pxs gl P C t0) us σ M1=.ok (.nx σ2,M2))(hr:pxs gl P C rs σ2 M2=q):pxs gl P C (.cons (.for_ tg it t0) rs) σ M=q:=by
 rw[qb,qDr,h,PR.bind_ok];dsimp only;rw[hf];exact hr
theorem qIO(h:px gl P C s σ M=.ok (.nx σ',M1))(hr:pxs gl P C rs σ' M1=q):pxs gl P C (.cons s rs) σ M=q:=by rw[Zn h];exact hr
theorem qHC{j m:Nat}{ks:List Nat}(h:PL gl P as σ M ts fa M1)(hp:P f ts M1=.ok (r,M2))(hr:pxs gl P C rs σ M2=q):pxs gl P C (.cons (.tryK (.xexpr f as) j i m ks) rs) σ M=q:=by
 obtain⟨xs,e,rfl,rfl,_⟩:=h;rw[qb,V9,Qf,e,PR.bind_ok];dsimp only;rw[hp];exact hr
theorem qGv{j m c:Nat}{ks:List Nat}(h:PL gl P as σ M ts fa M1)(hp:P f ts M1=.exc c M2)(hc:c<m)(hr:pxs gl P C rs ((σ.set i (some (.lst (ks.map λk=>.v (.bl (ZP c k)))))).set j none) M2=q):pxs gl P C (.cons (.tryK (.xexpr f as) j i m ks) rs) σ M=q:=by
 obtain⟨xs,e,rfl,rfl,_⟩:=h;rw[qb,V9,Qf,e,PR.bind_ok];dsimp only;rw[hp];show (if c<m then _ else _:PR (PO×Mem)).bind _=_;rw[if_pos hc];exact hr
theorem l8(h:PL gl P as σ M ts fa M1)(hp:P f ts M1=.ok (r,M2))(hr:pxs gl P C rs σ M2=q):pxs gl P C (.cons (.xexpr f as) rs) σ M=q:=by
 obtain⟨xs,e,rfl,rfl,_⟩:=h;rw[qb,Qf,e,PR.bind_ok];dsimp only;rw[hp];exact hr
theorem qE9{c:Nat}(h:PL gl P as σ M ts fa M1)(hp:P f ts M1=.exc c M2):pxs gl P C (.cons (.xexpr f as) rs) σ M=.exc c M2:=by
 obtain⟨xs,e,rfl,rfl,_⟩:=h;rw[qb,Qf,e,PR.bind_ok];dsimp only;rw[hp];rfl
theorem qIV(h:PL gl P as σ M ts fa M1)(hp:P f ts M1=.ok (r,M2)):pxs gl P C (.cons (.xret f as) rs) σ M=.ok (.rt r,M2):=by
 obtain⟨xs,e,rfl,rfl,_⟩:=h;rw[qb,a7,e,PR.bind_ok];dsimp only;rw[hp];rfl
theorem qIz{c:Nat}(h:PL gl P as σ M ts fa M1)(hp:P f ts M1=.exc c M2):pxs gl P C (.cons (.xret f as) rs) σ M=.exc c M2:=by
 obtain⟨xs,e,rfl,rfl,_⟩:=h;rw[qb,a7,e,PR.bind_ok];dsimp only;rw[hp];rfl
theorem qBX{c:Nat}:pxs gl P C (.cons (.raise c) rs) σ M=.exc c M:=rfl
theorem U2{o1 o2:COp}(ha:pe gl P a σ M=.ok ((t,fa),M1))(hb:pe gl P b σ M1=.ok ((u,fb),M2))(h1:zO M2 o1 t u=some false):pe gl P (.cmp2 o1 o2 a b c) σ M=.ok (bT false,M2):=by
 rw[Y4,ha,PR.bind_ok];show ((pe gl P b σ M1).bind _)=_;rw[hb,PR.bind_ok];show ((PR.ofO (zO M2 o1 t u)).bind _)=_;rw[h1];rfl
theorem W5{o1 o2:COp}(ha:pe gl P a σ M=.ok ((t,fa),M1))(hb:pe gl P b σ M1=.ok ((u,fb),M2))(h1:zO M2 o1 t u=some true)(hc:pe gl P c σ M2=.ok ((v,fc),M3))(h2:zO M3 o2 u v=some x):pe gl P (.cmp2 o1 o2 a b c) σ M=.ok (bT x,M3):=by
 rw[Y4,ha,PR.bind_ok];show ((pe gl P b σ M1).bind _)=_;rw[hb,PR.bind_ok];show ((PR.ofO (zO M2 o1 t u)).bind _)=_;rw[h1];show ((pe gl P c σ M2).bind _)=_;rw[hc,PR.bind_ok];show ((PR.ofO (zO M3 o2 u v)).bind _)=_;rw[h2];rfl
theorem qV{tb:List Fn}{Cs:List (List Nat)}{k np ns:Nat}{b:Ss}{vs:List T}{q:PR (PO×Mem)}{z:PR (TB×Mem)}(ht:tb[f]?=some ⟨np,ns,b⟩)(hl:vs.length=np/\np<=ns)(hk:1<=k)(hC:Cs.getD f []=C)(hs:vs.map some++List.replicate (ns-np) none=σ)(h:pxs gl (Pk gl tb Cs (k-1)) C b σ M=q)(hv:JB M.length q=z):Pk gl tb Cs k f vs M=z:=by
 rw[qm ht hl hk,hC,hs,h];exact hv
theorem qER{L:List Nat}{w m:Nat}(hw:w<L.length)(hL:∀x∈L,x<m):∃d,d<m/\(L.map N)[w]?=some (N d):=⟨L[w],hL _ (List.getElem_mem hw),by rw[wQ,wB hw];rfl⟩
theorem qG9{n:Nat}{x z:T}(h:M[n]?=some (x::us)):l6 M (.cell n) (N 0) z=some (M.set n (z::us)):=by
 show ((M[n]?).bind λxs=>(L2.ixN xs.length 0).map λj=>M.set n (xs.set j z))=_;rw[h,Option.bind_some];show ((L2.ixN (us.length+1) 0).map _)=_;unfold L2.ixN;rw[if_pos (by decide),if_pos (by simp)];rfl
theorem qGs{n:Nat}{x y z:T}(h:M[n]?=some (x::y::us)):l6 M (.cell n) (N 1) z=some (M.set n (x::z::us)):=by
 show ((M[n]?).bind λxs=>(L2.ixN xs.length 1).map λj=>M.set n (xs.set j z))=_;rw[h,Option.bind_some];show ((L2.ixN (us.length+1+1) 1).map _)=_;unfold L2.ixN;rw[if_pos (by decide),if_pos (by simp;omega)];rfl
theorem cN{C:List Nat}{i:Nat}(h:(C.contains i||C.contains (i+1000))=false):(C.contains i||C.contains (i+1000))=false:=h
theorem qFe{n:Nat}(h:us[n]?=some t):Qb M (.lst us) (N n)=some (t,t.lf):=by rw[Jz,h];rfl
theorem qFY{n:Nat}(h:us[n]?=some t):Qb M (.tup us) (N n)=some (t,t.lf):=by rw[Z1,h];rfl
theorem qHn{n m:Nat}(h0:M[m]?=some us)(h:us[n]?=some t):Qb M (.cell m) (N n)=some (t,t.lf):=by rw[qDG,h0,Option.bind_some,h];rfl
end
end PI
namespace Nt
noncomputable abbrev Stp:=Nat×Nat
noncomputable def one(x:List Nat)(p:Stp):List Nat:=x.set p.1 ((x.getD p.1 0+x.getD p.2 0) % 2)
noncomputable def row(x:List Nat)(L:List Stp):List Nat:=L.foldl one x
noncomputable def net(x:List Nat)(Ns:List (List Stp)):List Nat:=Ns.foldl row x
def Sg(n:Nat)(x:List Nat):Prop:=x.length=n/\∀v∈x,v<2
def OkS(n:Nat)(p:Stp):Prop:=p.1<n/\p.2<n/\p.1≠p.2
noncomputable def qx(L:List Stp):List Nat:=L.flatMap λp=>[p.1,p.2]
structure OkR(n:Nat)(L:List Stp):Prop where
 st:∀p∈L,OkS n p
 nd:(qx L).Nodup
 le:L.length<=100
noncomputable def add(x y:List Nat):List Nat:=(List.range x.length).map λk=>(x.getD k 0+y.getD k 0) % 2
theorem qCk(x:List Nat)(p:Stp):(one x p).length=x.length:=by simp[one]
theorem one_sg{n:Nat}{x:List Nat}(h:Sg n x)(p:Stp):Sg n (one x p):=by
 refine⟨by rw[qCk];exact h.1,λv hv=>?_⟩;rcases List.mem_or_eq_of_mem_set hv with hv|rfl
 ·exact h.2 v hv
 ·omega
theorem row_sg{n:Nat}:∀(L:List Stp){x:List Nat},Sg n x->Sg n (row x L)
 | [],x,h=>h
 |p::L,x,h=>row_sg L (one_sg h p)
theorem spots_app(A B:List Stp):qx (A++B)=qx A++qx B:=by unfold qx;rw[List.flatMap_append]
noncomputable def unit(n j:Nat):List Nat:=(List.range n).map λi=>if i=j then 1 else 0
theorem unit_sg(n j:Nat):Sg n (unit n j):=⟨by simp[unit],λv hv=>by
 obtain⟨i,_,rfl⟩:=wS.mp hv;split<;>decide⟩
noncomputable def pre(x:List Nat)(m:Nat):List Nat:=(List.range x.length).map λi=>if i<m then x.getD i 0 else 0
noncomputable def hr(n f:Nat):List Stp:=((List.range n).filter λa=>decide (a&&& f=0)).map λa=>(a,a+f)
noncomputable def hn(s:Nat):List (List Stp):=(List.range s).map λr=>hr (2 ^ s) (2 ^ r)
end Nt
namespace PI
open PySem
noncomputable def tx(cs:List Nat):Str:=⟨cs.toArray⟩
theorem qAr(cs:List Nat):(tx cs).length=cs.length:=by show cs.toArray.size=_;simp
theorem qBE(a b:List Nat):tx a++tx b=tx (a++b):=by
 show (⟨a.toArray++b.toArray⟩:Str)=⟨(a++b).toArray⟩;simp
theorem qBw:∀cs:List Nat,Txt.join (Str.ofString "") (cs.map λc=>tx [c])=tx cs:=by
 intro cs;unfold Txt.join;rw[StrLaws.glued_eq_join]
 induction cs with
 |nil=>rfl
 |cons c cs ih=>
  cases cs with
  |nil=>rfl
  |cons d ds=>
   rw[List.map_cons]at ih;rw[List.map_cons,List.map_cons];show tx [c]++Str.ofString ""++Str.join (Str.ofString "") (tx [d]::_)=_;rw[ih,show Str.ofString ""=tx [] from rfl,qBE,qBE];rfl
end PI
namespace My
open PySem PySem.Spec PyProof.Rows L2 PI
noncomputable def top(i:Nat):Stmt:=PySem.Challenge.pw_healhalves_k13_nets_refused.main.body.getD i (.Pass ⟨0,0,0,0⟩)
noncomputable def Tb:Tbl:=⟨[⟨"is_whole",top 8,["thing"],["thing"]⟩,
 ⟨"is_number_below",top 9,["thing","end"],["thing","end"]⟩,
 ⟨"length_of",top 10,["size"],["size"]⟩,
 ⟨"is_size",top 11,["thing"],["thing"]⟩,
 ⟨"check_size",top 12,["size"],["size"]⟩,
 ⟨"is_sign",top 14,["thing"],["thing"]⟩,
 ⟨"is_row",top 15,["thing","length"],["thing","length"]⟩,
 ⟨"sum_of",top 16,["signs"],["signs"]⟩,
 ⟨"added",top 17,["one","other"],["one","other"]⟩,
 ⟨"is_net",top 20,["size","thing"],["size","thing"]⟩,
 ⟨"is_net_round",top 21,["length","thing"],["length","thing","used","step"]⟩,
 ⟨"is_net_step",top 22,["length","thing"],["length","thing"]⟩,
 ⟨"check_net",top 23,["size","net"],["size","net"]⟩,
 ⟨"run",top 24,["size","net","row"],["size","net","row"]⟩,
 ⟨"run_steps",top 25,["net","row"],["net","row","signs","steps","step"]⟩,
 ⟨"turned_net",top 26,["size","net"],["size","net"]⟩,
 ⟨"halving_net",top 27,["size"],["size","length"]⟩,
 ⟨"halving_round",top 28,["length","figure"],["length","figure"]⟩,
 ⟨"word_of",top 30,["core"],["core"]⟩,
 ⟨"is_core",top 31,["thing"],["thing"]⟩,
 ⟨"halved_word",top 32,["row"],["row","half","first","second"]⟩,
 ⟨"makes_words",top 34,["size","net"],["size","net"]⟩,
 ⟨"unlike_core",top 35,["size","net"],["size","net","length","place","core"]⟩,
 ⟨"single_core",top 36,["length","place"],["length","place"]⟩,
 ⟨"_law_bag",top 38,["_law_script","_law_k"],["_law_script","_law_k","_law_cell","_law_great"]⟩,
 ⟨"_law_out",top 39,["_law_bag_here","_law_many"],["_law_bag_here","_law_many","_law_found"]⟩,
 ⟨"_law_round",top 40,["_law_bag_here","_law_size"],["_law_bag_here","_law_size","_law_spots","_law_row","_law_k","_law_one","_law_other"]⟩,
 ⟨"_law_net",top 41,["_law_bag_here","_law_size"],["_law_bag_here","_law_size"]⟩,
 ⟨"_law_size_by",top 42,["_law_bag_here","_law_size"],["_law_bag_here","_law_size"]⟩,
 ⟨"_law_net_by",top 43,["_law_bag_here","_law_size"],["_law_bag_here","_law_size","_law_net_here","_law_top","_law_spot","_law_some","_law_odd"]⟩,
 ⟨"_law_row_by",top 44,["_law_bag_here","_law_size"],["_law_bag_here","_law_size","_law_row","_law_at","_law_some","_law_odd"]⟩,
 ⟨"_law_call",top 45,["_law_door","_law_size","_law_net_here","_law_row"],["_law_door","_law_size","_law_net_here","_law_row"]⟩,
 ⟨"_law_kinds",top 46,["_law_door","_law_size","_law_net_here","_law_row"],["_law_door","_law_size","_law_net_here","_law_row","_law_kinds_here","e"]⟩,
 ⟨"_law_due",top 47,["_law_door","_law_truths"],["_law_door","_law_truths"]⟩,
 ⟨"law",top 48,["_law_script"],["_law_script","_law_k","_law_bag_here","_law_door","_law_real","_law_size","_law_first","_law_net_here","_law_second","_law_row","_law_third","_law_kept"]⟩],
 [("LENGTHS",E.glob 0),("GREATEST_SIZE",E.cst (.int 5)),("MOST_ROUNDS",E.cst (.int 40))],
 ["len","sum","all","any","max","min","list","int","tuple","range","zip","isinstance","bool","str","reversed","repr","ValueError"],["HealError","NoSize","NoCore","NoNet"],["makes_words","_law_call"]⟩
noncomputable def gs:List O:=[O.tup [V.int 1,V.int 2,V.int 4,V.int 8,V.int 16,V.int 32]]
end My
namespace My
open PySem PySem.Spec PI
open L2 (V)
open Nt (Stp Sg OkS OkR qx)
noncomputable def b0:Ss:=(.cons (.ret (.and (.isi (.var 0) ["int"]) (.not (.isi (.var 0) ["bool"])))) .nil)
noncomputable def b1:Ss:=(.cons (.ret (.and (.call 0 (.cons (.var 0) .nil)) (.cmp2 .le .lt (nE 0) (.var 0) (.var 1)))) .nil)
noncomputable def b2:Ss:=(.cons (.ret (.idx (.glob 0) (.var 0))) .nil)
noncomputable def b3:Ss:=(.cons (.ret (.and (.call 0 (.cons (.var 0) .nil)) (.cmp2 .le .le (nE 1) (.var 0) (nE 5)))) .nil)
noncomputable def b4:Ss:=(.cons (.ifs (.not (.call 3 (.cons (.var 0) .nil))) (.cons (.raise 1) .nil) .nil) .nil)
noncomputable def b5:Ss:=(.cons (.ret (.call 1 (.cons (.var 0) (.cons (nE 2) .nil)))) .nil)
noncomputable def b6:Ss:=(.cons (.ret (.and (.isi (.var 0) ["list"]) (.and (.cmp .eq (.blt .len (.cons (.var 0) .nil)) (.var 1)) (.blt .all (.cons (.comp (.list (.var 0)) [none] (.name 0) .nil (.call 5 (.cons (.var 0) .nil))) .nil))))) .nil)
noncomputable def b7:Ss:=(.cons (.ret (.bin .mod (.blt .sum (.cons (.var 0) .nil)) (nE 2))) .nil)
noncomputable def b8:Ss:=(.cons (.ret (.comp (.zip (.var 0) (.var 1)) [none,none] (.tup [0,1]) .nil (.call 7 (.cons (.lst (.cons (.var 0) (.cons (.var 1) .nil))) .nil)))) .nil)
noncomputable def b9:Ss:=(.cons (.xexpr 4 (.cons (.var 0) .nil)) (.cons (.ifs (.or (.not (.isi (.var 1) ["list"])) (.cmp .gt (.blt .len (.cons (.var 1) .nil)) (nE 40))) (.cons (.ret (.cst (V.bl false))) .nil) .nil) (.cons (.ret (.blt .all (.cons (.comp (.list (.var 1)) [none,some 0] (.name 0) .nil (.call 10 (.cons (.call 2 (.cons (.var 1) .nil)) (.cons (.var 0) .nil)))) .nil))) .nil)))
noncomputable def qGy:Ss:=(.cons (.ifs (.or (.not (.call 11 (.cons (.var 0) (.cons (.var 3) .nil)))) (.or (.cmp .inn (.idx (.var 3) (nE 0)) (.var 2)) (.cmp .inn (.idx (.var 3) (nE 1)) (.var 2)))) (.cons (.ret (.cst (V.bl false))) .nil) .nil) (.cons (.put (.var 2) (.idx (.var 3) (nE 0)) (.cst (V.bl true))) (.cons (.put (.var 2) (.idx (.var 3) (nE 1)) (.cst (V.bl true))) .nil)))
noncomputable def qHd:Ss:=(.cons (.ifs (.not (.isi (.var 1) ["list"])) (.cons (.ret (.cst (V.bl false))) .nil) .nil) (.cons (.asg (.name 2) .dnew) (.cons (.for_ (.name 3) (.list (.var 1)) qGy) (.cons (.ret (.cst (V.bl true))) .nil))))
theorem qI3:Tb.fns[10]?=some ⟨2,4,qHd⟩:=by kernel_rfl
noncomputable def b10:Ss:=(.cons (.ifs (.not (.isi (.var 1) ["list"])) (.cons (.ret (.cst (V.bl false))) .nil) .nil) (.cons (.nloop 2 3 11 0 (.var 1)) (.cons (.ret (.cst (V.bl true))) .nil)))
noncomputable def b11:Ss:=(.cons (.ifs (.or (.not (.isi (.var 1) ["tuple"])) (.cmp .ne (.blt .len (.cons (.var 1) .nil)) (nE 2))) (.cons (.ret (.cst (V.bl false))) .nil) .nil) (.cons (.ret (.and (.blt .all (.cons (.comp (.list (.var 1)) [none,some 0] (.name 0) .nil (.call 1 (.cons (.var 0) (.cons (.var 1) .nil)))) .nil)) (.cmp .ne (.idx (.var 1) (nE 0)) (.idx (.var 1) (nE 1))))) .nil))
noncomputable def b12:Ss:=(.cons (.ifs (.not (.call 9 (.cons (.var 0) (.cons (.var 1) .nil)))) (.cons (.raise 3) .nil) .nil) .nil)
noncomputable def b13:Ss:=(.cons (.xexpr 4 (.cons (.var 0) .nil)) (.cons (.xexpr 12 (.cons (.var 0) (.cons (.var 1) .nil))) (.cons (.ifs (.not (.call 6 (.cons (.var 2) (.cons (.call 2 (.cons (.var 0) .nil)) .nil)))) (.cons (.raise 2) .nil) .nil) (.cons (.ret (.call 14 (.cons (.var 1) (.cons (.var 2) .nil)))) .nil))))
noncomputable def qCY:Ss:=(.cons (.put (.var 2) (.idx (.var 4) (nE 0)) (.call 7 (.cons (.lst (.cons (.idx (.var 2) (.idx (.var 4) (nE 0))) (.cons (.idx (.var 2) (.idx (.var 4) (nE 1))) .nil))) .nil))) .nil)
noncomputable def z8:Ss:=(.cons (.for_ (.name 4) (.list (.var 3)) qCY) .nil)
noncomputable def b14:Ss:=(.cons (.asg (.name 2) (.blt .list (.cons (.var 1) .nil))) (.cons (.for_ (.name 3) (.list (.var 0)) z8) (.cons (.ret (.var 2)) .nil)))
noncomputable def b15:Ss:=(.cons (.xexpr 4 (.cons (.var 0) .nil)) (.cons (.xexpr 12 (.cons (.var 0) (.cons (.var 1) .nil))) (.cons (.ret (.comp (.revd (.var 1)) [none] (.name 0) .nil (.blt .list (.cons (.var 0) .nil)))) .nil)))
noncomputable def b16:Ss:=(.cons (.xexpr 4 (.cons (.var 0) .nil)) (.cons (.asg (.name 1) (.call 2 (.cons (.var 0) .nil))) (.cons (.ret (.comp (.rng1 (.var 0)) [none,some 1] (.name 0) .nil (.call 17 (.cons (.var 1) (.cons (.call 2 (.cons (.var 0) .nil)) .nil))))) .nil)))
noncomputable def b17:Ss:=(.cons (.ret (.comp (.rng1 (.var 0)) [none,some 1] (.name 0) (.cons (.cmp .eq (.bin .band (.var 0) (.var 1)) (nE 0)) .nil) (.tup (.cons (.var 0) (.cons (.bin .add (.var 0) (.var 1)) .nil))))) .nil)
noncomputable def b18:Ss:=(.cons (.ifs (.not (.call 19 (.cons (.var 0) .nil))) (.cons (.raise 2) .nil) .nil) (.cons (.ret (.call 20 (.cons (.var 0) .nil))) .nil))
noncomputable def b19:Ss:=(.cons (.ret (.blt .any (.cons (.comp (.rng2 (nE 1) (.bin .add (nE 5) (nE 1))) [none,some 0] (.name 0) .nil (.call 6 (.cons (.var 1) (.cons (.call 2 (.cons (.var 0) .nil)) .nil)))) .nil))) .nil)
noncomputable def b20:Ss:=(.cons (.ifs (.cmp .eq (.blt .len (.cons (.var 0) .nil)) (nE 1)) (.cons (.ret (.blt .list (.cons (.var 0) .nil))) .nil) .nil) (.cons (.asg (.name 1) (.bin .fdiv (.blt .len (.cons (.var 0) .nil)) (nE 2))) (.cons (.asg (.name 2) (.call 20 (.cons (.sl (.var 0) .nil (.cons (.var 1) .nil)) .nil))) (.cons (.asg (.name 3) (.call 20 (.cons (.sl (.var 0) (.cons (.var 1) .nil) .nil) .nil))) (.cons (.ret (.bin .add (.call 8 (.cons (.var 2) (.cons (.var 3) .nil))) (.var 3))) .nil)))))
noncomputable def b21:Ss:=(.cons (.xrn .is 22 (.cons (.var 0) (.cons (.var 1) .nil))) .nil)
noncomputable def qAA:Ss:=(.cons (.asg (.name 4) (.call 23 (.cons (.var 2) (.cons (.var 3) .nil)))) (.cons (.ifs (.cmp .ne (.call 14 (.cons (.var 1) (.cons (.var 4) .nil))) (.call 18 (.cons (.var 4) .nil))) (.cons (.ret (.var 4)) .nil) .nil) .nil))
noncomputable def b22:Ss:=(.cons (.xexpr 4 (.cons (.var 0) .nil)) (.cons (.xexpr 12 (.cons (.var 0) (.cons (.var 1) .nil))) (.cons (.asg (.name 2) (.call 2 (.cons (.var 0) .nil))) (.cons (.for_ (.name 3) (.rng1 (.var 2)) qAA) (.cons (.ret (.cst V.non)) .nil)))))
noncomputable def b23:Ss:=(.cons (.ret (.comp (.rng1 (.var 0)) [none,some 1] (.name 0) .nil (.ite (.cmp .eq (.var 0) (.var 1)) (nE 1) (nE 0)))) .nil)
noncomputable def b24:Ss:=(.cons (.asg (.name 2) (nE 0)) (.cons (.ifs (.cmp .lt (.var 1) (.blt .len (.cons (.var 0) .nil))) (.cons (.asg (.name 2) (.idx (.var 0) (.var 1))) .nil) .nil) (.cons (.asg (.name 3) (nE 0)) (.cons (.ifs (.cmp .ge (.var 2) (.bin .pow (nE 10) (nE 18))) (.cons (.asg (.name 3) (.var 2)) .nil) .nil) (.cons (.ret (.lst (.cons (.var 3) (.cons (.bin .mod (.bin .pow (.bin .add (.bin .add (.bin .mod (.var 2) (nE 998244353)) (.bin .mul (nE 7368787) (.var 1))) (nE 17)) (nE 3)) (nE 2147483629)) .nil)))) .nil)))))
noncomputable def b25:Ss:=(.cons (.ifs (.cmp .gt (.idx (.var 0) (nE 0)) (nE 0)) (.cons (.asg (.name 2) (.bin .mod (.idx (.var 0) (nE 0)) (.var 1))) (.cons (.put (.var 0) (nE 0) (.bin .fdiv (.idx (.var 0) (nE 0)) (.var 1))) (.cons (.ret (.var 2)) .nil))) .nil) (.cons (.put (.var 0) (nE 1) (.bin .mod (.bin .add (.bin .mul (.idx (.var 0) (nE 1)) (nE 40692)) (nE 12345)) (nE 2147483399))) (.cons (.ret (.bin .mod (.bin .fdiv (.bin .mod (.bin .mul (.idx (.var 0) (nE 1)) (.bin .add (.bin .fdiv (.idx (.var 0) (nE 1)) (nE 1024)) (nE 7))) (nE 2147483647)) (nE 32)) (.var 1))) .nil)))
noncomputable def u9:Ss:=(.cons (.asg (.name 5) (.meth .popAt (.var 2) (.cons (.call 25 (.cons (.var 0) (.cons (.blt .len (.cons (.var 2) .nil)) .nil))) .nil))) (.cons (.asg (.name 6) (.meth .popAt (.var 2) (.cons (.call 25 (.cons (.var 0) (.cons (.blt .len (.cons (.var 2) .nil)) .nil))) .nil))) (.cons (.expr (.app (.var 3) (.tup (.cons (.var 5) (.cons (.var 6) .nil))))) .nil)))
noncomputable def b26:Ss:=(.cons (.asg (.name 2) (.lrng (.bin .shl (nE 1) (.var 1)))) (.cons (.asg (.name 3) (.lst .nil)) (.cons (.for_ (.name 4) (.rng1 (.call 25 (.cons (.var 0) (.cons (.bin .add (.bin .fdiv (.bin .shl (nE 1) (.var 1)) (nE 2)) (nE 1)) .nil)))) u9) (.cons (.ret (.var 3)) .nil))))
noncomputable def b27:Ss:=(.cons (.ret (.comp (.rng1 (.idx (.lst (.cons (nE 0) (.cons (nE 1) (.cons (nE 2) (.cons (nE 3) (.cons (nE 5) (.cons (nE 40) .nil))))))) (.call 25 (.cons (.var 0) (.cons (nE 6) .nil))))) [none,some 0,some 1] (.name 0) .nil (.call 26 (.cons (.var 1) (.cons (.var 2) .nil))))) .nil)
noncomputable def b28:Ss:=(.cons (.ifs (.cmp .gt (.call 25 (.cons (.var 0) (.cons (nE 3) .nil))) (nE 0)) (.cons (.ret (.tup (.cons (.var 1) (.cons (.cst (V.bl true)) .nil)))) .nil) .nil) (.cons (.ret (.tup (.cons (.idx (.lst (.cons (nE 0) (.cons (nE 6) (.cons (.bin .sub (nE 0) (nE 1)) (.cons (.cst (V.bl true)) (.cons (.cst V.non) (.cons (.cst (V.str "2")) (.cons (.lst (.cons (nE 2) .nil)) (.cons (.bin .pow (nE 10) (nE 30)) .nil))))))))) (.call 25 (.cons (.var 0) (.cons (nE 8) .nil)))) (.cons (.cst (V.bl false)) .nil)))) .nil))
noncomputable def n9:Ss:=(.cons (.expr (.app (.var 5) (.bin .add (.sl (.var 2) .nil (.cons (nE 39) .nil)) (.lst (.cons (.var 6) .nil))))) .nil)
noncomputable def qFC:Ss:=(.cons (.expr (.app (.var 5) (.bin .add (.sl (.var 2) .nil (.cons (nE 39) .nil)) (.lst (.cons (.var 6) .nil))))) .nil)
noncomputable def b29:Ss:=(.cons (.asg (.name 2) (.call 27 (.cons (.var 0) (.cons (.var 1) .nil)))) (.cons (.ifs (.cmp .gt (.call 25 (.cons (.var 0) (.cons (nE 3) .nil))) (nE 0)) (.cons (.ret (.tup (.cons (.var 2) (.cons (.cst (V.bl true)) .nil)))) .nil) .nil) (.cons (.asg (.name 3) (.bin .shl (nE 1) (.var 1))) (.cons (.asg (.name 4) (.call 25 (.cons (.var 0) (.cons (.var 3) .nil)))) (.cons (.asg (.name 5) (.lst (.cons (.blt .tuple (.cons (.var 2) .nil)) (.cons (.cst V.non) (.cons (.bin .add (.var 2) (.comp (.rng1 (.bin .sub (nE 41) (.blt .len (.cons (.var 2) .nil)))) [none] (.name 0) .nil (.lst .nil))) (.cons (.bin .add (.sl (.var 2) .nil (.cons (nE 39) .nil)) (.lst (.cons (.tup (.cons (.tup (.cons (nE 0) (.cons (nE 1) .nil))) .nil)) .nil))) .nil)))))) (.cons (.for_ (.name 6) (.list (.lst (.cons (.lst (.cons (.tup (.cons (.var 4) (.cons (.var 4) .nil))) .nil)) (.cons (.lst (.cons (.tup (.cons (.var 4) (.cons (.var 3) .nil))) .nil)) (.cons (.lst (.cons (.tup (.cons (nE 0) (.cons (nE 1) .nil))) (.cons (.tup (.cons (nE 1) (.cons (nE 0) .nil))) .nil))) (.cons (.lst (.cons (.tup (.cons (nE 0) (.cons (.cst (V.bl true)) .nil))) .nil)) .nil)))))) qFC) (.cons (.for_ (.name 6) (.list (.lst (.cons (.cst V.non) (.cons (nE 7) (.cons (.lst (.cons (.cst V.non) .nil)) (.cons (.lst (.cons (.lst (.cons (nE 0) (.cons (nE 1) .nil))) .nil)) (.cons (.lst (.cons (.tup (.cons (nE 0) .nil)) .nil)) (.cons (.lst (.cons (.tup (.cons (nE 0) (.cons (nE 1) (.cons (nE 0) .nil)))) .nil)) (.cons (.lst (.cons (.tup (.cons (.bin .sub (nE 0) (nE 1)) (.cons (nE 0) .nil))) .nil)) (.cons (.lst (.cons (.tup (.cons (.cst (V.str "0")) (.cons (nE 1) .nil))) .nil)) (.cons (.lst (.cons (.tup (.cons (.lst (.cons (nE 0) .nil)) (.cons (nE 1) .nil))) .nil)) (.cons (.lst (.cons (.tup (.cons (nE 1) (.cons .dnew .nil))) .nil)) .nil)))))))))))) n9) (.cons (.ret (.tup (.cons (.idx (.var 5) (.call 25 (.cons (.var 0) (.cons (nE 18) .nil)))) (.cons (.cst (V.bl false)) .nil)))) .nil))))))))
noncomputable def n6:Ss:=(.cons (.expr (.app (.var 4) (.bin .add (.bin .add (.sl (.var 2) .nil (.cons (.var 3) .nil)) (.lst (.cons (.var 5) .nil))) (.sl (.var 2) (.cons (.bin .add (.var 3) (nE 1)) .nil) .nil)))) .nil)
noncomputable def b30:Ss:=(.cons (.asg (.name 2) (.comp (.rng1 (.bin .shl (nE 1) (.var 1))) [none,some 0] (.name 0) .nil (.call 25 (.cons (.var 1) (.cons (nE 2) .nil))))) (.cons (.ifs (.cmp .gt (.call 25 (.cons (.var 0) (.cons (nE 3) .nil))) (nE 0)) (.cons (.ret (.tup (.cons (.var 2) (.cons (.cst (V.bl true)) .nil)))) .nil) .nil) (.cons (.asg (.name 3) (.call 25 (.cons (.var 0) (.cons (.blt .len (.cons (.var 2) .nil)) .nil)))) (.cons (.asg (.name 4) (.lst (.cons (.blt .tuple (.cons (.var 2) .nil)) (.cons (.cst V.non) (.cons (.join (.comp (.list (.var 2)) [none] (.name 0) .nil (.txu .str (.var 0)))) (.cons (.sl (.var 2) (.cons (nE 1) .nil) .nil) (.cons (.bin .add (.var 2) (.lst (.cons (nE 0) .nil))) .nil))))))) (.cons (.expr (.app (.var 4) (.bin .add (.var 2) (.var 2)))) (.cons (.for_ (.name 5) (.list (.lst (.cons (nE 2) (.cons (.cst (V.bl true)) (.cons (.cst V.non) (.cons (.bin .sub (nE 0) (nE 1)) (.cons (.cst (V.str "1")) (.cons (.lst (.cons (nE 0) .nil)) .nil)))))))) n6) (.cons (.ret (.tup (.cons (.idx (.var 4) (.call 25 (.cons (.var 0) (.cons (nE 12) .nil)))) (.cons (.cst (V.bl false)) .nil)))) .nil)))))))
noncomputable def b31:Ss:=(.cons (.ifs (.cmp .eq (.var 0) (nE 0)) (.cons (.xret 9 (.cons (.var 1) (.cons (.var 2) .nil))) .nil) .nil) (.cons (.ifs (.cmp .eq (.var 0) (nE 1)) (.cons (.xret 13 (.cons (.var 1) (.cons (.var 2) (.cons (.var 3) .nil)))) .nil) .nil) (.cons (.ifs (.cmp .eq (.var 0) (nE 2)) (.cons (.xret 15 (.cons (.var 1) (.cons (.var 2) .nil))) .nil) .nil) (.cons (.ifs (.cmp .eq (.var 0) (nE 3)) (.cons (.xret 16 (.cons (.var 1) .nil)) .nil) .nil) (.cons (.ifs (.cmp .eq (.var 0) (nE 4)) (.cons (.xret 21 (.cons (.var 1) (.cons (.var 2) .nil))) .nil) .nil) (.cons (.xret 22 (.cons (.var 1) (.cons (.var 2) .nil))) .nil))))))
noncomputable def b32:Ss:=(.cons (.asg (.name 4) (.lst .nil)) (.cons (.tryK (.xexpr 31 (.cons (.var 0) (.cons (.var 1) (.cons (.var 2) (.cons (.var 3) .nil))))) 5 4 4 [1,3,2,999]) (.cons (.ret (.var 4)) .nil)))
noncomputable def b33:Ss:=(.cons (.ifs (.not (.idx (.var 1) (nE 0))) (.cons (.ret (.lst (.cons (.cst (V.bl true)) (.cons (.cst (V.bl false)) (.cons (.cst (V.bl false)) (.cons (.cst (V.bl true)) .nil)))))) .nil) .nil) (.cons (.ifs (.and (.not (.idx (.var 1) (nE 1))) (.cmp .notin (.var 0) (.tup (.cons (nE 0) (.cons (nE 3) .nil))))) (.cons (.ret (.lst (.cons (.cst (V.bl false)) (.cons (.cst (V.bl true)) (.cons (.cst (V.bl false)) (.cons (.cst (V.bl true)) .nil)))))) .nil) .nil) (.cons (.ifs (.and (.not (.idx (.var 1) (nE 2))) (.cmp .eq (.var 0) (nE 1))) (.cons (.ret (.lst (.cons (.cst (V.bl false)) (.cons (.cst (V.bl false)) (.cons (.cst (V.bl true)) (.cons (.cst (V.bl true)) .nil)))))) .nil) .nil) (.cons (.ret (.lst .nil)) .nil))))
noncomputable def qAI:Ss:=(.cons (.asg (.name 2) (.call 24 (.cons (.var 0) (.cons (.var 1) .nil)))) (.cons (.asg (.name 3) (.idx (.lst (.cons (nE 0) (.cons (nE 1) (.cons (nE 1) (.cons (nE 2) (.cons (nE 3) (.cons (nE 4) (.cons (nE 5) .nil)))))))) (.call 25 (.cons (.var 2) (.cons (nE 7) .nil))))) (.cons (.asg (.name 4) (.bin .add (nE 1) (.call 25 (.cons (.var 2) (.cons (.idx (.lst (.cons (nE 2) (.cons (nE 5) .nil))) (.call 25 (.cons (.var 2) (.cons (nE 2) .nil)))) .nil))))) (.cons (.asg (.tup [5,6]) (.call 28 (.cons (.var 2) (.cons (.var 4) .nil)))) (.cons (.asg (.tup [7,8]) (.call 29 (.cons (.var 2) (.cons (.var 4) .nil)))) (.cons (.asg (.tup [9,10]) (.call 30 (.cons (.var 2) (.cons (.var 4) .nil)))) (.cons (.asg (.name 11) (.blt .repr (.cons (.lst (.cons (.var 5) (.cons (.var 7) (.cons (.var 9) .nil)))) .nil))) (.cons (.ifs (.cmp .ne (.call 32 (.cons (.var 3) (.cons (.var 5) (.cons (.var 7) (.cons (.var 9) .nil))))) (.call 33 (.cons (.var 3) (.cons (.lst (.cons (.var 6) (.cons (.var 8) (.cons (.var 10) .nil)))) .nil)))) (.cons (.ret (.cst (V.bl false))) .nil) .nil) (.cons (.ifs (.or (.cmp .ne (.call 32 (.cons (nE 1) (.cons (.var 4) (.cons (.lst (.cons (.lst (.cons (.tup (.cons (nE 0) (.cons (nE 1) .nil))) .nil)) .nil)) (.cons (.comp (.rng1 (.bin .shl (nE 1) (.var 4))) [none] (.name 0) .nil (nE 1)) .nil))))) (.lst .nil)) (.cmp .ne (.blt .repr (.cons (.lst (.cons (.var 5) (.cons (.var 7) (.cons (.var 9) .nil)))) .nil)) (.var 11))) (.cons (.ret (.cst (V.bl false))) .nil) .nil) .nil)))))))))
noncomputable def b34:Ss:=(.cons (.for_ (.name 1) (.rng1 (.blt .max (.cons (nE 1) (.cons (.blt .min (.cons (.blt .len (.cons (.var 0) .nil)) (.cons (nE 60) .nil))) .nil)))) qAI) (.cons (.ret (.cst (V.bl true))) .nil))
noncomputable def Fs:List Fn:=Tb.fns.set 10 ⟨2,4,b10⟩
theorem t0:Fs[0]?=some ⟨1,1,b0⟩:=by kernel_rfl
theorem t1:Fs[1]?=some ⟨2,2,b1⟩:=by kernel_rfl
theorem t2:Fs[2]?=some ⟨1,1,b2⟩:=by kernel_rfl
theorem t3:Fs[3]?=some ⟨1,1,b3⟩:=by kernel_rfl
theorem t4:Fs[4]?=some ⟨1,1,b4⟩:=by kernel_rfl
theorem t5:Fs[5]?=some ⟨1,1,b5⟩:=by kernel_rfl
theorem t6:Fs[6]?=some ⟨2,2,b6⟩:=by kernel_rfl
theorem t7:Fs[7]?=some ⟨1,1,b7⟩:=by kernel_rfl
theorem t8:Fs[8]?=some ⟨2,2,b8⟩:=by kernel_rfl
theorem t9:Fs[9]?=some ⟨2,2,b9⟩:=by kernel_rfl
theorem t11:Fs[11]?=some ⟨2,2,b11⟩:=by kernel_rfl
theorem t12:Fs[12]?=some ⟨2,2,b12⟩:=by kernel_rfl
theorem t13:Fs[13]?=some ⟨3,3,b13⟩:=by kernel_rfl
theorem t14:Fs[14]?=some ⟨2,5,b14⟩:=by kernel_rfl
theorem t15:Fs[15]?=some ⟨2,2,b15⟩:=by kernel_rfl
theorem t16:Fs[16]?=some ⟨1,2,b16⟩:=by kernel_rfl
theorem t17:Fs[17]?=some ⟨2,2,b17⟩:=by kernel_rfl
theorem t18:Fs[18]?=some ⟨1,1,b18⟩:=by kernel_rfl
theorem t19:Fs[19]?=some ⟨1,1,b19⟩:=by kernel_rfl
theorem t20:Fs[20]?=some ⟨1,4,b20⟩:=by kernel_rfl
theorem t21:Fs[21]?=some ⟨2,2,b21⟩:=by kernel_rfl
theorem t22:Fs[22]?=some ⟨2,5,b22⟩:=by kernel_rfl
theorem t23:Fs[23]?=some ⟨2,2,b23⟩:=by kernel_rfl
theorem t24:Fs[24]?=some ⟨2,4,b24⟩:=by kernel_rfl
theorem t25:Fs[25]?=some ⟨2,3,b25⟩:=by kernel_rfl
theorem t26:Fs[26]?=some ⟨2,7,b26⟩:=by kernel_rfl
theorem t27:Fs[27]?=some ⟨2,2,b27⟩:=by kernel_rfl
theorem t28:Fs[28]?=some ⟨2,2,b28⟩:=by kernel_rfl
theorem t29:Fs[29]?=some ⟨2,7,b29⟩:=by kernel_rfl
theorem t30:Fs[30]?=some ⟨2,6,b30⟩:=by kernel_rfl
theorem t31:Fs[31]?=some ⟨4,4,b31⟩:=by kernel_rfl
theorem t32:Fs[32]?=some ⟨4,6,b32⟩:=by kernel_rfl
theorem t33:Fs[33]?=some ⟨2,2,b33⟩:=by kernel_rfl
theorem t34:Fs[34]?=some ⟨1,12,b34⟩:=by kernel_rfl
theorem t10:Fs[10]?=some ⟨2,4,b10⟩:=by kernel_rfl
theorem qII(k f:Nat)(vs:List V)(h:AH):Fk Tb.fns k f vs h=Fk Fs k f vs h:=qBJ (d:=⟨2,4,qHd⟩) (b:=b10) qI3 (λ_ _ _=>rfl) k f vs h
noncomputable def Cs:List (List Nat):=[[],[],[],[],[],[],[],[],[],[],[],[],[],[],[2],[],[],[],[],[],[],[],[],[],[],[],[2,3],[],[],[1005],[1004],[],[],[],[2]]
noncomputable abbrev I(x:Int):T:=.v (.int x)
theorem qg{M:Mem}(c:Nat):JB M.length (.exc c M)=.exc c M:=by
 show (if M.length=M.length then _ else _)=_;rw[if_pos rfl]
section
variable{k:Nat}
noncomputable def stT(g s:Nat):List T:=[N g,N s]
def Q3(M:Mem)(n:Nat):Prop:=∃g s,M[n]?=some (stT g s)/\s<2147483648
structure Kept(n:Nat)(M M':Mem):Prop where
 good:Q3 M' n
 len:M'.length=M.length
 oth:∀j,j≠n->M'[j]?=M[j]?
theorem Kept.trans{n:Nat}{A B C:Mem}(x:Kept n A B)(y:Kept n B C):Kept n A C:=⟨y.good,y.len.trans x.len,λj hj=>(y.oth j hj).trans (x.oth j hj)⟩
theorem qIK(hk:1<=k){M:Mem}{n m g s:Nat}(hm:0<m/\m<=1000000)(hg:0<g)(e:M[n]?=some [N g,N s])(e':∀y,(M.set n y)[n]?=some y):
  Pk (glT gs) Fs Cs k 25 [.cell n,N m] M=.ok ((N (g % m),true),M.set n [N (g / m),N s]):=by
 have z:pxs (glT gs) (Pk (glT gs) Fs Cs (k-1)) [] b25 [some (.cell n),some (N m),none] M=.ok (.rt (N (g % m),true),M.set n [N (g / m),N s]):=by
  have md:=ZF (M:=M) (a:=g) hm.1;have fd:=Qr (M:=M) (a:=g) (b:=m) ⟨hm.1,Nat.lt_of_le_of_lt hm.2 (by decide)⟩;have pt:l6 M (.cell n) (N 0) (N (g / m))=some (M.set n [N (g / m),N s]):=qG9 e
  change pxs _ _ _ (.cons _ _) [some _,some _,none] _=_
  repeat' first|with_reducible (first|exact md|exact fd|exact pt|exact e|exact lk0 .. | exact qS|exact qd|exact zS|exact jK|exact zi|exact Qs .. | assumption|apply zx|apply zm|apply zG|apply t_3|apply QH|apply qBr|apply qQ|apply qHn)|((with_reducible apply jL);exact cN rfl)|assumption|exact dT hg|rfl
 exact qV t25 ⟨rfl,by decide⟩ hk rfl rfl z (qA (by simp))
theorem qIq(hk:1<=k){M:Mem}{n m s:Nat}(hm:0<m/\m<=1000000)(e:M[n]?=some [N 0,N s])(e':∀y,(M.set n y)[n]?=some y){s':Nat}(hs':(s*40692+12345) % 2147483399=s')(hq:s'<2147483399):
  Pk (glT gs) Fs Cs k 25 [.cell n,N m] M=.ok ((N (s' * (s' / 1024+7) % 2147483647 / 32 % m),true),M.set n [N 0,N s']):=by
 have ml1:∀{M:Mem}(x:Nat),qr M .mul (N x) (N 40692)=some (N (x*40692),true):=λ{M} x=>W6 (.inr (by decide));have ml3:∀{M:Mem}(y:Nat),qr M .mul (N s') (N y)=some (N (s' * y),true):=λ{M} y=>W6 (.inl (wX hq (by decide)));have md1:∀{M:Mem}(x:Nat),qr M .mod (N x) (N 2147483399)=some (N (x % 2147483399),true):=λ{M} x=>ZF (by decide);have md2:∀{M:Mem}(x:Nat),qr M .mod (N x) (N 2147483647)=some (N (x % 2147483647),true):=λ{M} x=>ZF (by decide);have md3:∀{M:Mem}(x:Nat),qr M .mod (N x) (N m)=some (N (x % m),true):=λ{M} x=>ZF hm.1;have fd1:∀{M:Mem}(x:Nat),qr M .fdiv (N x) (N 1024)=some (N (x / 1024),true):=λ{M} x=>Qr (by decide);have fd2:∀{M:Mem}(x:Nat),qr M .fdiv (N x) (N 32)=some (N (x / 32),true):=λ{M} x=>Qr (by decide);have m5:qr M .mul (N s) (N 40692)=some (N (s*40692),true):=ml1 s;have m6:qr M .mod (N (s*40692+12345)) (N 2147483399)=some (N s',true):=by rw[md1,hs']
 have pt:l6 M (.cell n) (N 1) (N s')=some (M.set n [N 0,N s']):=qGs e;have e1:=e' [N 0,N s'];have z:pxs (glT gs) (Pk (glT gs) Fs Cs (k-1)) [] b25 [some (.cell n),some (N m),none] M=.ok (.rt (N (s' * (s' / 1024+7) % 2147483647 / 32 % m),true),M.set n [N 0,N s']):=by
  change pxs _ _ _ (.cons _ _) [some _,some _,none] _=_
  repeat' first|with_reducible (first|exact m5|exact m6|exact pt|exact e|exact e1|exact lk0 .. | exact lk1 .. | exact ml3 _|exact md2 _|exact md3 _|exact fd1 _|exact fd2 _|exact qS|exact qd|exact jK|exact QT .. | exact Qs .. | assumption|apply zx|apply zm|apply zG|apply f_0|apply QH|apply qBr|apply qQ|apply qHn)|exact dF (Nat.lt_irrefl 0)|(with_reducible rfl)
 exact qV t25 ⟨rfl,by decide⟩ hk rfl rfl z (qA (by simp))
theorem out(hk:1<=k){M:Mem}{n m:Nat}(g:Q3 M n)(hm:0<m/\m<=1000000):∃d M',Pk (glT gs) Fs Cs k 25 [.cell n,N m] M=.ok ((N d,true),M')/\d<m/\Kept n M M':=by
 obtain⟨a,s,e,hb⟩:=g;have hn:n<M.length:=(List.getElem?_eq_some_iff.mp e).1;have e':∀y,(M.set n y)[n]?=some y:=λy=>List.getElem?_set_self hn;rcases Nat.eq_zero_or_pos a with rfl|hp
 ·have hq:(s*40692+12345) % 2147483399<2147483399:=Nat.mod_lt _ (by decide);exact⟨_,_,qIq hk hm e e' rfl hq,Nat.mod_lt _ hm.1,⟨⟨0,_,e' _,wX hq (by decide)⟩,by simp,λj hj=>by rw[List.getElem?_set_ne (Ne.symm hj)]⟩⟩
 ·exact⟨_,_,qIK hk hm hp e e',Nat.mod_lt _ hm.1,⟨⟨a / m,s,e' _,hb⟩,by simp,λj hj=>by rw[List.getElem?_set_ne (Ne.symm hj)]⟩⟩
theorem qGf{M:Mem}:qr M .pow (N 10) (N 18)=some (N 1000000000000000000,true):=by rw[qBR (by decide)]
theorem qHS(hk:1<=k){S:List T}{kk:Nat}(hkk:kk<=63)(M:Mem){cl:Int}(hc:(kk<S.length/\S[kk]?=some (I cl))\/(S.length<=kk/\cl=0)):∃g s,Pk (glT gs) Fs Cs k 24 [.fz S,N kk] M=.ok ((.lst (stT g s),true),M)/\s<2147483648:=by
 obtain⟨c,hcc⟩:∃c:Nat,cl % 998244353=(c:Int):=⟨(cl % 998244353).toNat,by omega⟩
 have cb:c<998244353:=by omega
 have md:∀{M:Mem},qr M .mod (I cl) (N 998244353)=some (N c,true):=λ{M}=>by
  show qr M .mod (.v (.int cl)) (.v (.int 998244353))=_;rw[qAj (by decide)];unfold iT;rw[hcc];rfl
 have m1:∀{M:Mem},qr M .mul (N 7368787) (N kk)=some (N (7368787*kk),true):=λ{M}=>W6 (.inl (by decide));have pw:∀{M:Mem},qr M .pow (N (c+7368787*kk+17)) (N 3)=some (N ((c+7368787*kk+17) ^ 3),true):=λ{M}=>by
  unfold N;rw[qA0 (by omega)];unfold iT;simp
 have md2:∀{M:Mem}(x:Nat),qr M .mod (N x) (N 2147483629)=some (N (x % 2147483629),true):=λ{M} x=>ZF (by decide);have hs:(c+7368787*kk+17) ^ 3 % 2147483629<2147483648:=wX (Nat.mod_lt _ (by decide)) (by decide);generalize (c+7368787*kk+17) ^ 3=q at pw hs;have ge:∀{M:Mem},zO M .ge (I cl) (N 1000000000000000000)=some (decide (1000000000000000000<=cl)):=λ{M}=>rfl;rcases hc with⟨h1,h2⟩|⟨h1,rfl⟩
 ·by_cases hg:(1000000000000000000:Int)<=cl
  ·obtain⟨gn,rfl⟩:∃gn:Nat,cl=(gn:Int):=⟨cl.toNat,by omega⟩
   refine⟨gn,q % 2147483629,?_,hs⟩;rw[vF hg]at ge;have ix:∀{M:Mem},Qb M (.fz S) (N kk)=some (I gn,true):=λ{M}=>by
    show ((some S).bind λxs=>(L2.ixN xs.length (kk:Int)).bind λj=>(xs[j]?).map λt=>(t,t.lf))=_;rw[Option.bind_some];unfold L2.ixN;rw[if_pos (by omega),if_pos (by omega),Option.bind_some,wg,h2];rfl
   have ln:zg M .len [.fz S]=some (N S.length,true):=rfl;have z:pxs (glT gs) (Pk (glT gs) Fs Cs (k-1)) [] b24 [some (.fz S),some (N kk),none,none] M=.ok (.rt (.lst (stT gn (q % 2147483629)),true),M):=by
    change pxs _ _ _ (.cons _ _) [some _,some _,none,none] _=_
    repeat' first|with_reducible (first|exact ln|exact md|exact m1|exact pw|exact md2 _|exact qGf|exact ge|exact ix|exact qS|exact qd|exact zS|exact zz|exact jK|exact qO|exact isT|exact isF|exact ll2|exact zi|exact jJ|exact QT .. | exact qBm .. | assumption|apply qD|apply zx|apply zm|apply zG|apply zb|apply zo|apply t_1|apply f_0|apply QH|apply qQ)|((with_reducible apply jL);exact cN rfl)|assumption|exact dT h1|rfl
   exact qV t24 ⟨rfl,by decide⟩ hk rfl rfl z (qA rfl)
  ·refine⟨0,q % 2147483629,?_,hs⟩;rw[vE hg]at ge;have ix:∀{M:Mem},Qb M (.fz S) (N kk)=some (I cl,true):=λ{M}=>by
    show ((some S).bind λxs=>(L2.ixN xs.length (kk:Int)).bind λj=>(xs[j]?).map λt=>(t,t.lf))=_;rw[Option.bind_some];unfold L2.ixN;rw[if_pos (by omega),if_pos (by omega),Option.bind_some,wg,h2];rfl
   have ln:zg M .len [.fz S]=some (N S.length,true):=rfl;have z:pxs (glT gs) (Pk (glT gs) Fs Cs (k-1)) [] b24 [some (.fz S),some (N kk),none,none] M=.ok (.rt (.lst (stT 0 (q % 2147483629)),true),M):=by
    change pxs _ _ _ (.cons _ _) [some _,some _,none,none] _=_
    repeat' first|with_reducible (first|exact ln|exact md|exact m1|exact pw|exact md2 _|exact qGf|exact ge|exact ix|exact qS|exact qd|exact zS|exact zz|exact jK|exact qO|exact isT|exact isF|exact ll2|exact zi|exact jJ|exact QT .. | exact qBm .. | assumption|apply qD|apply zx|apply zm|apply zG|apply zb|apply zo|apply t_1|apply f_0|apply QH|apply qQ)|((with_reducible apply jL);exact cN rfl)|assumption|exact dT h1|rfl
   exact qV t24 ⟨rfl,by decide⟩ hk rfl rfl z (qA rfl)
 ·refine⟨0,q % 2147483629,?_,hs⟩;have md0:qr M .mod (N 0) (N 998244353)=some (N c,true):=md;have ge0:zO M .ge (N 0) (N 1000000000000000000)=some false:=rfl;have ln:zg M .len [.fz S]=some (N S.length,true):=rfl;have z:pxs (glT gs) (Pk (glT gs) Fs Cs (k-1)) [] b24 [some (.fz S),some (N kk),none,none] M=.ok (.rt (.lst (stT 0 (q % 2147483629)),true),M):=by
   change pxs _ _ _ (.cons _ _) [some _,some _,none,none] _=_
   repeat' first|with_reducible (first|exact ln|exact md0|exact m1|exact pw|exact md2 _|exact qGf|exact ge0|exact qS|exact qd|exact zS|exact zz|exact jK|exact qO|exact isT|exact isF|exact ll2|exact zi|exact jJ|exact QT .. | exact qBm .. | assumption|apply qD|apply zx|apply zm|apply zG|apply zb|apply zo|apply t_1|apply f_0|apply QH|apply qQ)|((with_reducible apply jL);exact cN rfl)|assumption|exact dF (wu h1)|rfl
  exact qV t24 ⟨rfl,by decide⟩ hk rfl rfl z (qA rfl)
theorem bag(hk:1<=k)(ns:List Int){kk:Nat}(hkk:kk<=63)(M:Mem):∃g s,Pk (glT gs) Fs Cs k 24 [.fz (ns.map λn=>.v (.int n)),N kk] M=.ok ((.lst (stT g s),true),M)/\s<2147483648:=by
 by_cases h:kk<ns.length
 ·exact qHS hk hkk M (cl:=ns[kk]) (.inl ⟨by simpa using h,by rw[wQ,wB h];rfl⟩)
 ·exact qHS hk hkk M (cl:=0) (.inr ⟨by simp;omega,rfl⟩)
theorem f0(hk:1<=k)(x:Int)(M:Mem):Pk (glT gs) Fs Cs k 0 [I x] M=.ok (bT true,M):=by
 rw[qm t0 ⟨rfl,by decide⟩ hk];simp[b0,zE,qA]
theorem f0N(hk:1<=k)(i:Nat)(M:Mem):Pk (glT gs) Fs Cs k 0 [N i] M=.ok (bT true,M):=f0 hk (i:Int) M
theorem f1(hk:2<=k)(i e:Nat)(M:Mem):Pk (glT gs) Fs Cs k 1 [N i,N e] M=.ok (bT (decide (i<e)),M):=by
 rw[qm t1 ⟨rfl,by decide⟩ (by omega)];simp(disch:=omega) [b1,f0N,qA]
theorem f2(hk:1<=k){s:Nat}(hs:s<=5)(M:Mem):Pk (glT gs) Fs Cs k 2 [N s] M=.ok ((N (2 ^ s),true),M):=by
 have z:pxs (glT gs) (Pk (glT gs) Fs Cs (k-1)) [] b2 [some (N s)] M=.ok (.rt (N (2 ^ s),true),M):=by
  rcases s with _|_|_|_|_|_|s
  all_goals first|exact absurd hs (Nat.not_le_of_lt (vA 6 s))|rfl
 exact qV t2 ⟨rfl,by decide⟩ hk rfl rfl z (qA rfl)
theorem f3(hk:2<=k){s:Nat}(h1:1<=s)(hs:s<=5)(M:Mem):Pk (glT gs) Fs Cs k 3 [N s] M=.ok (bT true,M):=by
 rw[qm t3 ⟨rfl,by decide⟩ (by omega)];simp(disch:=omega) [b3,f0N,h1,hs,qA]
theorem f4(hk:3<=k){s:Nat}(h1:1<=s)(hs:s<=5)(M:Mem):Pk (glT gs) Fs Cs k 4 [N s] M=.ok ((.v .non,true),M):=by
 rw[qm t4 ⟨rfl,by decide⟩ (by omega)];simp(disch:=omega) [b4,f3,O2,h1,hs]
theorem p5{s:Nat}(h:s<=5):2 ^ s<=32:=Nat.le_trans (Nat.pow_le_pow_right (by decide) h) (by decide)
end
theorem qBh(a b:Nat):T.unds 0 (stT a b)=true:=qBH 0 [a,b]
theorem jw{M:Mem}{n:Nat}{C:Mem}(g:Q3 M n):Q3 (M++C) n:=by
 obtain⟨a,b,e,h⟩:=g;exact⟨a,b,by rw[List.getElem?_append_left (List.getElem?_eq_some_iff.mp e).1];exact e,h⟩
theorem zk{M C M':Mem}{n:Nat}(hn:n<M.length)(h:Kept n (M++C) M'):∃M1,M'=M1++C/\Kept n M M1:=by
 have hl:=h.len;rw[List.length_append]at hl;refine⟨M'.take M.length,?_,?_⟩
 ·apply List.ext_getElem?;intro i;by_cases hi:i<M.length
  ·rw[List.getElem?_append_left (by rw[wP];omega),wR hi]
  ·rw[List.getElem?_append_right (by rw[wP];omega),h.oth i (by omega),List.getElem?_append_right (by omega),wP,Nat.min_eq_left (by omega)]
 ·obtain⟨a,b,e,hb⟩:=h.good;refine⟨⟨a,b,by rw[wR hn];exact e,hb⟩,by rw[wP];omega,λj hj=>?_⟩;by_cases hi:j<M.length
  ·rw[wR hi,h.oth j hj,List.getElem?_append_left hi]
  ·rw[wf (by rw[wP];omega),wf (by omega)]
def Kn(t:T):Prop:=∃ty,∀M:Mem,qk M t=some ty
noncomputable def isI:T->Bool | .v (.int _)=>true|_=>false
noncomputable def blw(e:Int):T->Bool | .v (.int i)=>decide (0<=i)&&decide (i<e)|_=>false
theorem qEx{t:T}(h:∀M:Mem,qk M t=some "int"):∃i,t=.v (.int i):=by
 have h0:=h [];cases t with
 |v x=>cases x<;>first|exact⟨_,rfl⟩|(simp[qk]at h0)
 |cell n=>simp[qk]at h0
 |fz xs=>simp[qk]at h0
 |lst xs=>simp[qk]at h0
 |tup xs=>simp[qk]at h0
 |ob o=>cases o<;>simp[qk]at h0
theorem qDW{t:T}{ty:String}(h:∀M:Mem,qk M t=some ty):isI t=decide (ty="int"):=by
 by_cases hi:ty="int"
 ·subst hi;obtain⟨i,rfl⟩:=qEx h;rfl
 ·rw[vE hi];unfold isI;split
  ·have:=h [];simp[qk]at this;exact absurd this.symm hi
  ·rfl
section
variable{k:Nat}
theorem w0(hk:1<=k){t:T}(h:Kn t)(M:Mem):Pk (glT gs) Fs Cs k 0 [t] M=.ok (bT (isI t),M):=by
 obtain⟨ty,e⟩:=h;rw[qm t0 ⟨rfl,by decide⟩ hk,b0,qDW e];by_cases h1:ty="int"
 ·subst h1;simp[e,zE,qA]
 ·by_cases h2:ty="bool"
  ·subst h2;simp[e,zE,qA]
  ·simp[e,zE,qA,h1,h2]
theorem n1(hk:2<=k){t:T}(h:Kn t)(e:Int)(M:Mem):Pk (glT gs) Fs Cs k 1 [t,.v (.int e)] M=.ok (bT (blw e t),M):=by
 have e0:=w0 (k:=k-1) (by omega) h M;cases hi:isI t with
 |false=>
  rw[hi]at e0;have:blw e t=false:=by
   unfold isI at hi;unfold blw;split at hi
   ·cases hi
   ·rfl
  rw[this];refine qV (σ:=[some t,some (.v (.int e))]) (q:=.ok (.rt (bT false),M)) t1 ⟨rfl,by decide⟩ (by omega) rfl rfl ?_ (qA rfl)
  change pxs _ _ _ (.cons _ _) _ _=_
  repeat' first|with_reducible (first|exact e0|exact qS|exact qd|exact jK|exact qO|exact isT|exact isF|assumption|apply qD|apply qX|apply QL|apply cT|apply cF|apply qQ)|assumption|rfl
 |true=>
  rw[hi]at e0;unfold isI at hi;split at hi
  ·rename_i i;have c1:∀{M:Mem},zO M .le (N 0) (.v (.int i))=some (decide (0<=i)):=λ{M}=>rfl;have c2:∀{M:Mem},zO M .lt (.v (.int i)) (.v (.int e))=some (decide (i<e)):=λ{M}=>rfl;by_cases h0:0<=i
   ·have c1:zO M .le (N 0) (.v (.int i))=some true:=by rw[c1,vF h0]
    have sz:blw e (.v (.int i))=decide (i<e):=by show (decide (0<=i)&&decide (i<e))=_;rw[vF h0];rfl
    rw[sz];refine qV (σ:=[some (.v (.int i)),some (.v (.int e))]) (q:=.ok (.rt (bT (decide (i<e))),M)) t1 ⟨rfl,by decide⟩ (by omega) rfl rfl ?_ (qA rfl)
    change pxs _ _ _ (.cons _ _) _ _=_
    repeat' first|with_reducible (first|exact e0|exact c1|exact c2|exact qS|exact qd|exact jK|exact qO|exact isT|exact isF|assumption|apply qD|apply qX|apply QL|apply cT|apply cF|apply qQ|apply W5)|assumption|rfl
   ·have c1:zO M .le (N 0) (.v (.int i))=some false:=by rw[c1,vE h0]
    have sz:blw e (.v (.int i))=false:=by show (decide (0<=i)&&decide (i<e))=_;rw[vE h0];rfl
    rw[sz];refine qV (σ:=[some (.v (.int i)),some (.v (.int e))]) (q:=.ok (.rt (bT false),M)) t1 ⟨rfl,by decide⟩ (by omega) rfl rfl ?_ (qA rfl)
    change pxs _ _ _ (.cons _ _) _ _=_
    repeat' first|with_reducible (first|exact e0|exact c1|exact qS|exact qd|exact jK|exact qO|exact isT|exact isF|assumption|apply qD|apply qX|apply QL|apply cT|apply cF|apply qQ|apply U2)|assumption|rfl
  ·cases hi
end
section
variable{k:Nat}
noncomputable def szT:T->Bool | .v (.int i)=>decide (1<=i)&&decide (i<=5)|_=>false
theorem z3(hk:2<=k){t:T}(h:Kn t)(M:Mem):Pk (glT gs) Fs Cs k 3 [t] M=.ok (bT (szT t),M):=by
 have e0:=w0 (k:=k-1) (by omega) h M;cases hi:isI t with
 |false=>
  rw[hi]at e0;have:szT t=false:=by
   unfold szT;split
   ·rename_i i;exact absurd hi (by simp[isI])
   ·rfl
  rw[this];refine qV (σ:=[some t]) (q:=.ok (.rt (bT false),M)) t3 ⟨rfl,by decide⟩ (by omega) rfl rfl ?_ (qA rfl)
  change pxs _ _ _ (.cons _ _) _ _=_
  repeat' first|with_reducible (first|exact e0|exact qS|exact jK|exact qO|exact isT|exact isF|assumption|apply qD|apply qX|apply QL|apply cT|apply cF|apply qQ)|assumption|rfl
 |true=>
  rw[hi]at e0;unfold isI at hi;split at hi
  ·rename_i i;have c1:∀{M:Mem},zO M .le (N 1) (.v (.int i))=some (decide (1<=i)):=λ{M}=>rfl;have c2:∀{M:Mem},zO M .le (.v (.int i)) (N 5)=some (decide (i<=5)):=λ{M}=>rfl;by_cases h0:1<=i
   ·have c1:zO M .le (N 1) (.v (.int i))=some true:=by rw[c1,vF h0]
    have sz:szT (.v (.int i))=decide (i<=5):=by show (decide (1<=i)&&decide (i<=5))=_;rw[vF h0];rfl
    rw[sz];refine qV (σ:=[some (.v (.int i))]) (q:=.ok (.rt (bT (decide (i<=5))),M)) t3 ⟨rfl,by decide⟩ (by omega) rfl rfl ?_ (qA rfl)
    change pxs _ _ _ (.cons _ _) _ _=_
    repeat' first|with_reducible (first|exact e0|exact c1|exact c2|exact qS|exact jK|exact qO|exact isT|exact isF|assumption|apply qD|apply qX|apply QL|apply cT|apply cF|apply qQ|apply W5)|assumption|rfl
   ·have c1:zO M .le (N 1) (.v (.int i))=some false:=by rw[c1,vE h0]
    have sz:szT (.v (.int i))=false:=by show (decide (1<=i)&&decide (i<=5))=_;rw[vE h0];rfl
    rw[sz];refine qV (σ:=[some (.v (.int i))]) (q:=.ok (.rt (bT false),M)) t3 ⟨rfl,by decide⟩ (by omega) rfl rfl ?_ (qA rfl)
    change pxs _ _ _ (.cons _ _) _ _=_
    repeat' first|with_reducible (first|exact e0|exact c1|exact qS|exact jK|exact qO|exact isT|exact isF|assumption|apply qD|apply qX|apply QL|apply cT|apply cF|apply qQ|apply U2)|assumption|rfl
  ·cases hi
theorem z4(hk:3<=k){t:T}(h:Kn t)(hs:szT t=false)(M:Mem):Pk (glT gs) Fs Cs k 4 [t] M=.exc 1 M:=by
 rw[qm t4 ⟨rfl,by decide⟩ (by omega),b4,show Cs.getD 4 []=[] from rfl];have e:=z3 (k:=k-1) (by omega) h M;rw[hs]at e;simp[e,bind_exc,qg]
end
end My
namespace My
open PySem PySem.Spec PI
open L2 (V)
open Nt (Stp Sg OkS OkR qx)
noncomputable def sp(p:Stp):T:=.tup [N p.1,N p.2]
noncomputable def SL(L:List Stp):List T:=L.map sp
theorem qGu(p:Stp):(sp p).lf=true:=by unfold sp;simp
theorem qAE:∀L:List Stp,T.lfs (SL L)=true
 | []=>by unfold SL;simp
 |p::L=>by
  show T.lfs (sp p::SL L)=true;rw[Qd,qGu,qAE L];rfl
theorem i6(L:List Stp):(SL L).length=L.length:=by simp[SL]
def IsN(M:Mem)(t:T)(Ns:List (List Stp)):Prop:=∃ts,IsS M t ts/\zu (λt L=>IsS M t (SL L)) ts Ns
theorem IsN.app{M C:Mem}{t:T}{Ns:List (List Stp)}(h:IsN M t Ns):IsN (M++C) t Ns:=by
 obtain⟨ts,a,b⟩:=h;exact⟨ts,a.app,ZC (λ_ _ z=>z.app) b⟩
theorem Jq(M:Mem):∀Ns:List (List Stp),zu (λt L=>IsS M t (SL L)) (Ns.map λL=>T.lst (SL L)) Ns
 | []=>rfl
 |L::Ns=>⟨L,Ns,rfl,.inl rfl,Jq M Ns⟩
theorem IsN.lst(M:Mem)(Ns:List (List Stp)):IsN M (.lst (Ns.map λL=>.lst (SL L))) Ns:=⟨_,.inl rfl,Jq M Ns⟩
theorem Jl(ks:List (Int×V))(k j:Int)(v:V):ZK (jv ks k v) j=(ZK ks j||decide (j=k)):=by
 unfold jv;split
 ·rename_i h;unfold ZK at h ⊢;rw[List.any_map];have e:((λp:Int×V=>decide (p.1=j))∘λp=>if p.1=k then (p.1,v) else p)=λp=>decide (p.1=j):=by
   funext p
   show decide ((if p.1=k then (p.1,v) else p).1=j)=_;split<;>rfl
  rw[e];by_cases z:j=k
  ·subst z;rw[h];simp
  ·rw[vE z,Bool.or_false]
 ·unfold ZK;rw[List.any_append];congr 1;simp;exact eq_comm
noncomputable def neI:T->T->Bool
 | .v (.int i),.v (.int j)=>!decide (i=j)
 |_,_=>true
noncomputable def sv(n:Int):T->Bool
 | .tup [a,b]=>blw n a&&blw n b&&neI a b
 |_=>false
inductive Ks:T->Prop
 |pair (a b:T):Kn a->Kn b->Ks (.tup [a,b])
 |len (ts:List T):ts.length≠2->Ks (.tup ts)
 |oth (t:T) (ty:String):(∀M:Mem,qk M t=some ty)->ty≠"tuple" -> Ks t
theorem qDj{n:Int}{ts:List T}(h:ts.length≠2):sv n (.tup ts)=false:=by
 unfold sv;split
 ·rename_i a b e;cases e;exact absurd rfl h
 ·rfl
theorem qFD{n:Int}{t:T}{ty:String}(h:∀M:Mem,qk M t=some ty)(hn:ty≠"tuple"):sv n t=false:=by
 unfold sv;split
 ·have:=h [];simp[qk]at this;exact absurd this.symm hn
 ·rfl
theorem y7{n:Int}{a:T}(h:blw n a=true):∃i:Int,a=.v (.int i)/\0<=i/\i<n:=by
 unfold blw at h;split at h
 ·rename_i i;rw[Bool.and_eq_true,vG,vG]at h;exact⟨i,rfl,h.1,h.2⟩
 ·cases h
theorem U0{n:Int}{t:T}(h:sv n t=true):∃p q:Int,t=.tup [.v (.int p),.v (.int q)]/\0<=p/\p<n/\0<=q/\q<n/\p≠q:=by
 unfold sv at h;split at h
 ·rename_i a b;rw[Bool.and_eq_true,Bool.and_eq_true]at h;obtain⟨p,rfl,p0,p1⟩:=y7 h.1.1;obtain⟨q,rfl,q0,q1⟩:=y7 h.1.2;have hn:(!decide (p=q))=true:=h.2;exact⟨p,q,rfl,p0,p1,q0,q1,by simpa using hn⟩
 ·cases h
theorem qGC{n:Nat}{p:Stp}(h:OkS n p):sv (n:Int) (sp p)=true:=by
 show (blw (n:Int) (N p.1)&&blw (n:Int) (N p.2)&&!decide ((p.1:Int)=(p.2:Int)))=true;have a:blw (n:Int) (N p.1)=true:=by
  show (decide (0<=(p.1:Int))&&decide ((p.1:Int)<(n:Int)))=true;have:=h.1;rw[vF (by omega),vF (by omega)];rfl
 have b:blw (n:Int) (N p.2)=true:=by
  show (decide (0<=(p.2:Int))&&decide ((p.2:Int)<(n:Int)))=true;have:=h.2.1;rw[vF (by omega),vF (by omega)];rfl
 have:=h.2.2;rw[a,b,vE (by omega)];rfl
theorem Zl(x:Nat):Kn (N x):=⟨"int",λ_=>rfl⟩
theorem qGz(p:Stp):Ks (sp p):=.pair _ _ (Zl _) (Zl _)
section
variable{k:Nat}
theorem qFm(hk:3<=k){t:T}(h:Ks t)(n:Nat)(M:Mem):Pk (glT gs) Fs Cs k 11 [N n,t] M=.ok (bT (sv (n:Int) t),M):=by
 have tt:∀{ts:List T},qk M (.tup ts)=some "tuple":=λ{ts}=>rfl;cases h with
 |oth _ ty e hn=>
  rw[qFD e hn];have n1:(!["tuple"].any (zE ty))=true:=by simp[zE,hn]
  have e:=e M;have z:pxs (glT gs) (Pk (glT gs) Fs Cs (k-1)) [] b11 [some (N n),some t] M=.ok (.rt (.v (.bl false),true),M):=by
   change pxs _ _ _ (.cons _ _) [some _,some _] _=_
   repeat' first|with_reducible (first|exact n1|exact e|exact qS|exact qd|exact jK|exact S4|exact qO|exact isT|exact isF|exact qAC .. | assumption|apply qD|apply qX|apply zx|apply zG|apply zb|apply qu|apply JQ|apply QL|apply qA2|apply zW|apply cT|apply cF|apply t_1|apply f_0|apply QH|apply qQ|apply ZN|apply qFY)|assumption|rfl
  exact qV t11 ⟨rfl,by decide⟩ (by omega) rfl rfl z (qA rfl)
 |len ts hl=>
  rw[qDj hl];have l:zg M .len [.tup ts]=some (N ts.length,true):=rfl;have n1:(!["tuple"].any (zE "tuple"))=false:=by decide
  have z:pxs (glT gs) (Pk (glT gs) Fs Cs (k-1)) [] b11 [some (N n),some (.tup ts)] M=.ok (.rt (.v (.bl false),true),M):=by
   change pxs _ _ _ (.cons _ _) [some _,some _] _=_
   repeat' first|with_reducible (first|exact n1|exact l|exact tt|exact qS|exact qd|exact jK|exact S4|exact qO|exact isT|exact isF|exact qAC .. | assumption|apply qD|apply qX|apply zx|apply zG|apply zb|apply qu|apply JQ|apply QL|apply qA2|apply zW|apply cT|apply cF|apply t_1|apply f_0|apply QH|apply qQ|apply ZN|apply qFY)|assumption|exact nT (dF hl)|rfl
  exact qV t11 ⟨rfl,by decide⟩ (by omega) rfl rfl z (qA rfl)
 |pair a b ha hb=>
  have c:=Jj (d:=[]) (gl:=glT gs) (P:=Pk (glT gs) Fs Cs (k-1)) (e:=pe (glT gs) (Pk (glT gs) Fs Cs (k-1)) (.call 1 (.cons (.var 0) (.cons (.var 1) .nil)))) (σ:=[some (N n)]) (M:=M) (λu=>T.v (.bl (blw (n:Int) u))) (λ_=>true) rfl [a,b] [] true none (by simp[lim]) (λu hu=>by
   have e:Pk (glT gs) Fs Cs (k-1) 1 [u,N n] M=.ok (bT (blw (n:Int) u),M):=n1 (k:=k-1) (by omega) (by
    simp only[List.mem_cons,wI,or_false]at hu;rcases hu with rfl|rfl
    ·exact ha
    ·exact hb) n M
   exact qX (qD qS (qD qd qO)) e)
  simp only[List.nil_append,List.map_cons,List.map_nil,List.all_cons,List.all_nil,we]at c;have al:∀{M:Mem},zg M .all [.lst [T.v (.bl (blw (n:Int) a)),T.v (.bl (blw (n:Int) b))]]=some (bT (blw (n:Int) a&&blw (n:Int) b)):=λ{M}=>by
   show some (bT (blw (n:Int) a&&(blw (n:Int) b&&true)))=_;rw[Bool.and_true]
  have n1:(!["tuple"].any (zE "tuple"))=false:=by decide
  have l:zg M .len [.tup [a,b]]=some (N 2,true):=rfl;have n2:zO M .ne (N 2) (N 2)=some false:=rfl;have st:C5 M (.tup [a,b])=some ([a,b],[]):=rfl;cases hv:(blw (n:Int) a&&blw (n:Int) b) with
  |false=>
   rw[hv]at al;have al:zg M .all [.lst [T.v (.bl (blw (n:Int) a)),T.v (.bl (blw (n:Int) b))]]=some (bT false):=al;have r:sv (n:Int) (.tup [a,b])=false:=by show (blw (n:Int) a&&blw (n:Int) b&&neI a b)=false;rw[hv];rfl
   rw[r];have z:pxs (glT gs) (Pk (glT gs) Fs Cs (k-1)) [] b11 [some (N n),some (.tup [a,b])] M=.ok (.rt (.v (.bl false),true),M):=by
    change pxs _ _ _ (.cons _ _) [some _,some _] _=_
    repeat' first|with_reducible (first|exact n1|exact l|exact n2|exact tt|exact st|exact c|exact al|exact qS|exact qd|exact jK|exact S4|exact qO|exact isT|exact isF|exact qAC .. | assumption|apply qD|apply qX|apply zx|apply zG|apply zb|apply qu|apply JQ|apply QL|apply qA2|apply zW|apply cT|apply cF|apply t_1|apply f_0|apply QH|apply qQ|apply ZN|apply qFY)|assumption|rfl
   exact qV t11 ⟨rfl,by decide⟩ (by omega) rfl rfl z (qA rfl)
  |true=>
   rw[hv]at al;have al:zg M .all [.lst [T.v (.bl (blw (n:Int) a)),T.v (.bl (blw (n:Int) b))]]=some (bT true):=al;rw[Bool.and_eq_true]at hv;obtain⟨p,rfl,_,_⟩:=y7 hv.1;obtain⟨q,rfl,_,_⟩:=y7 hv.2;have r:sv (n:Int) (.tup [.v (.int p),.v (.int q)])=!decide (p=q):=by show (blw (n:Int) (.v (.int p))&&blw (n:Int) (.v (.int q))&&!decide (p=q))=_;rw[hv.1,hv.2];rfl
   rw[r];have z:pxs (glT gs) (Pk (glT gs) Fs Cs (k-1)) [] b11 [some (N n),some (.tup [.v (.int p),.v (.int q)])] M=.ok (.rt (.v (.bl (!decide (p=q))),true),M):=by
    change pxs _ _ _ (.cons _ _) [some _,some _] _=_
    repeat' first|with_reducible (first|exact n1|exact l|exact n2|exact tt|exact st|exact c|exact al|exact qGE .. | exact lk0 .. | exact lk1 .. | exact qS|exact qd|exact jK|exact S4|exact qO|exact isT|exact isF|exact qAC .. | assumption|apply qD|apply qX|apply zx|apply zG|apply zb|apply qu|apply JQ|apply QL|apply qA2|apply zW|apply cT|apply cF|apply t_1|apply f_0|apply QH|apply qQ|apply ZN|apply qFY)|assumption|rfl
   exact qV t11 ⟨rfl,by decide⟩ (by omega) rfl rfl z (qA rfl)
end
noncomputable def spI:List T->List Int
 | .tup [.v (.int p),.v (.int q)]::ts=>p::q::spI ts
 |_::ts=>spI ts
 | []=>[]
noncomputable def gd(n:Int):List Int->List T->Bool
 |_,[]=>true
 |U,t::ts=>match t with
  | .tup [.v (.int p),.v (.int q)]=>sv n t&&!(decide (p∈U)||decide (q∈U))&&gd n (U++[p,q]) ts
  |_=>false
theorem qBa{n:Int}:∀(ts:List T) (U:List Int),U.Nodup->gd n U ts=(ts.all (sv n)&&decide ((U++spI ts).Nodup))
 | [],U,h=>by simp[gd,spI,h]
 |t::ts,U,h=>by
  cases hs:sv n t with
  |false=>
   have e:gd n U (t::ts)=false:=by
    unfold gd;split
    ·rw[hs];rfl
    ·rfl
   rw[e,List.all_cons,hs];rfl
  |true=>
   obtain⟨p,q,rfl,_,_,_,_,hpq⟩:=U0 hs;rw[List.all_cons,hs,Bool.true_and];show (sv n (.tup [.v (.int p),.v (.int q)])&&!(decide (p∈U)||decide (q∈U))&&gd n (U++[p,q]) ts)=(ts.all (sv n)&&decide ((U++(p::q::spI ts)).Nodup));rw[hs,Bool.true_and,show U++(p::q::spI ts)=U++[p,q]++spI ts by simp];by_cases hp:p∈U
   ·have:¬ (U++[p,q]++spI ts).Nodup:=λz=>by
     have:=(wJ.mp (wJ.mp z).1).2.2 p hp p (by simp);exact this rfl
    rw[vF hp,vE this,wj];rfl
   ·by_cases hq:q∈U
    ·have:¬ (U++[p,q]++spI ts).Nodup:=λz=>by
      have:=(wJ.mp (wJ.mp z).1).2.2 q hq q (by simp);exact this rfl
     rw[vF hq,vE this,Bool.or_true,wj];rfl
    ·rw[vE hp,vE hq];have hU:(U++[p,q]).Nodup:=by
      rw[wJ];refine⟨h,by simp[hpq],λa ha b hb=>?_⟩;simp only[List.mem_cons,wI,or_false]at hb;rcases hb with rfl|rfl
      ·rintro rfl;exact hp ha
      ·rintro rfl;exact hq ha
     rw[show (!(false||false)&&gd n (U++[p,q]) ts)=gd n (U++[p,q]) ts from rfl,qBa ts _ hU]
section
variable{k:Nat}
theorem qHq(hk:3<=k){M:Mem}{d:jT}(hd:qY d M=true){n:Nat}:∀(ts:List T) (U:List Int) (ks:List (Int×V)) (σ:TS),(∀t∈ts,Ks t)->(∀v:Int,ZK ks v=decide (v∈U))->ks.length+2*ts.length<=1000->(gd (n:Int) U ts=true->∃σ',Qa (Pk (glT gs) Fs Cs k) d 11 3 (N n) ts ks σ M=.ok (.nx σ',M))/\(gd (n:Int) U ts=false->Qa (Pk (glT gs) Fs Cs k) d 11 3 (N n) ts ks σ M=.ok (.rt (bT false),M))
 | [],U,ks,σ,_,_,_=>⟨λ_=>⟨σ,rfl⟩,λh=>by cases h⟩
 |t::ts,U,ks,σ,h,hk2,hl=>by
  have e:=qFm hk (h t (by simp)) n M;simp at hl;cases hs:sv (n:Int) t with
  |false=>
   rw[hs]at e;have g:gd (n:Int) U (t::ts)=false:=by
    unfold gd;split
    ·rw[hs];rfl
    ·rfl
   refine⟨λz=>(by rw[g]at z;cases z),λ_=>?_⟩;unfold Qa;rw[e,PR.nx_ok,PR.bind_ok];rfl
  |true=>
   rw[hs]at e;obtain⟨p,q,rfl,_,_,_,_,hpq⟩:=U0 hs;have g:gd (n:Int) U (.tup [.v (.int p),.v (.int q)]::ts)=(!(decide (p∈U)||decide (q∈U))&&gd (n:Int) (U++[p,q]) ts):=by
    show (sv (n:Int) (.tup [.v (.int p),.v (.int q)])&&!(decide (p∈U)||decide (q∈U))&&gd (n:Int) (U++[p,q]) ts)=_;rw[hs,Bool.true_and]
   have l1:=Zo ks p (.bl true);have l2:=Zo (jv ks p (.bl true)) q (.bl true);have ih:=qHq hk hd (n:=n) ts (U++[p,q]) (jv (jv ks p (.bl true)) q (.bl true)) (σ.set 3 (some (.tup [.v (.int p),.v (.int q)]))) (λt ht=>h t (by simp[ht])) (λv=>by
    rw[Jl,Jl,hk2 v,wa];simp only[wm,vG,wC,List.mem_cons,wI,or_false,or_assoc]) (by omega)
   have st:Qa (Pk (glT gs) Fs Cs k) d 11 3 (N n) (.tup [.v (.int p),.v (.int q)]::ts) ks σ M=if ZK ks p||ZK ks q then .ok (.rt (bT false),M) else Qa (Pk (glT gs) Fs Cs k) d 11 3 (N n) ts (jv (jv ks p (.bl true)) q (.bl true)) (σ.set 3 (some (.tup [.v (.int p),.v (.int q)]))) M:=by
    rw[Qa,e,PR.nx_ok,PR.bind_ok];show (if qY d M=true/\ks.length+1<lim then (if ZK ks p||ZK ks q then _ else _) else _)=_;rw[if_pos ⟨hd,wD (show ks.length+1<2000 by omega) (by decide)⟩]
   rw[st,g,hk2,hk2];cases hc:(decide (p∈U)||decide (q∈U)) with
   |true=>exact⟨λz=>(by cases z),λ_=>(by rw[if_pos rfl])⟩
   |false=>
    rw[if_neg (by decide)];exact ih
theorem qDt(hk:4<=k){M:Mem}{t:T}{ts:List T}(i:IsS M t ts)(h:∀u∈ts,Ks u)(hl:ts.length<=300)(n:Nat):Pk (glT gs) Fs Cs k 10 [N n,t] M=.ok (bT (gd (n:Int) [] ts),M):=by
 rw[qm t10 ⟨rfl,by decide⟩ (by omega),b10,show Cs.getD 10 []=[] from rfl];obtain⟨d,s1,_,s2⟩:=i.src;have s2':=s2 [];rw[List.append_nil]at s2';have e:=qHq (k:=k-1) (by omega) s2' (n:=n) ts [] [] [some (N n),some t,none,none] h (λv=>rfl) (by simp;omega);cases hg:gd (n:Int) [] ts with
 |true=>
  obtain⟨σ',e⟩:=e.1 hg;simp[zE,i.ty,i.lf,J7,s1,e,qA]
 |false=>
  have e:=e.2 hg;simp[zE,i.ty,i.lf,J7,s1,e,qA]
theorem qC9(hk:1<=k){t:T}{ty:String}{M:Mem}(e:qk M t=some ty)(hn:ty≠"list")(n:Nat):Pk (glT gs) Fs Cs k 10 [N n,t] M=.ok (bT false,M):=by
 rw[qm t10 ⟨rfl,by decide⟩ (by omega),b10,show Cs.getD 10 []=[] from rfl];simp[e,zE,hn,qA]
end
def RB(M:Mem)(n:Nat)(t:T)(b:Bool):Prop:=∀k,4<=k->Pk (glT gs) Fs Cs k 10 [N n,t] M=.ok (bT b,M)
theorem RB.lst{M:Mem}{n:Nat}{t:T}{ts:List T}(i:IsS M t ts)(h:∀u∈ts,Ks u)(hl:ts.length<=300):RB M n t (gd (n:Int) [] ts):=λk hk=>qDt hk i h hl n
theorem RB.oth{M:Mem}{n:Nat}{t:T}{ty:String}(e:qk M t=some ty)(hn:ty≠"list"):RB M n t false:=λk hk=>qC9 (by omega) e hn n
theorem qAz:∀L:List Stp,spI (SL L)=(qx L).map λ(x:Nat)=>(x:Int)
 | []=>rfl
 |p::L=>by
  show (p.1:Int)::(p.2:Int)::spI (SL L)=((p.1::p.2::qx L).map λ(x:Nat)=>(x:Int));rw[qAz L];rfl
theorem qCb{n:Nat}{L:List Stp}(h:OkR n L):gd (n:Int) [] (SL L)=true:=by
 rw[qBa _ _ (by simp),List.nil_append,qAz];have a:(SL L).all (sv (n:Int))=true:=wH.mpr λt ht=>by
  obtain⟨p,hp,rfl⟩:=wS.mp ht;exact qGC (h.st p hp)
 have b:((qx L).map λ(x:Nat)=>(x:Int)).Nodup:=by
  have:=h.nd;rw[List.nodup_iff_pairwise_ne]at this ⊢;exact List.Pairwise.map _ (λa b z=>by omega) this
 rw[a,vF b];rfl
theorem RB.good{M:Mem}{n:Nat}{t:T}{L:List Stp}(i:IsS M t (SL L))(h:OkR n L):RB M n t true:=by
 have:=RB.lst (n:=n) i (λu hu=>by obtain⟨p,_,rfl⟩:=wS.mp hu;exact qGz p) (by rw[i6];have:=h.le;omega);rw[qCb h]at this;exact this
section
variable{k:Nat}
theorem qFc(hk:6<=k){M:Mem}{t:T}{s:Nat}(h1:1<=s)(h5:s<=5){ts:List T}(i:IsS M t ts)(hl:ts.length<=100){f:T->Bool}(h:∀u∈ts,RB M (2 ^ s) u (f u)):Pk (glT gs) Fs Cs k 9 [N s,t] M=.ok (bT (decide (ts.length<=40)&&ts.all f),M):=by
 obtain⟨d,s1,_,s2⟩:=i.src;have s2':=s2 [];rw[List.append_nil]at s2';have e4:=f4 (k:=k-1) (by omega) h1 h5 M;have gt:∀{M:Mem},zO M .gt (N ts.length) (N 40)=some (!decide (ts.length<=40)):=λ{M}=>by rw[Qs];congr 1;by_cases q:ts.length<=40<;>simp[q]<;>omega
 have n1:(!["list"].any (zE "list"))=false:=by decide
 have ln:=i.len;have ty:=i.ty;cases hq:decide (ts.length<=40) with
 |false=>
  rw[hq]at gt;have gt:zO M .gt (N ts.length) (N 40)=some true:=gt;refine qV (σ:=[some (N s),some t]) (q:=.ok (.rt (bT (false&&ts.all f)),M)) t9 ⟨rfl,by decide⟩ (by omega) rfl rfl ?_ (qA rfl)
  change pxs _ _ _ (.cons _ _) _ _=_
  repeat' first|with_reducible (first|exact e4|exact ty|exact ln|exact n1|exact gt|exact qS|exact qd|exact jK|exact S4|exact qO|exact isT|exact isF|exact Qs .. | assumption|apply qD|apply qX|apply zG|apply zb|apply qu|apply JQ|apply qA2|apply zW|apply cF|apply t_1|apply f_0|apply QH|apply qQ|apply l8|apply ZN)|assumption|rfl
 |true=>
  rw[hq]at gt;have c:=Jj (d:=d) (gl:=glT gs) (P:=Pk (glT gs) Fs Cs (k-1)) (e:=pe (glT gs) (Pk (glT gs) Fs Cs (k-1)) (.call 10 (.cons (.call 2 (.cons (.var 1) .nil)) (.cons (.var 0) .nil)))) (σ:=[some (N s)]) (M:=M) (λu=>T.v (.bl (f u))) (λ_=>true) s2' ts [] true none (by simp[lim];omega) (λu hu=>qX (qD (qX (qD qd qO) (f2 (k:=k-1) (by omega) h5 M)) (qD qS qO)) (h u hu (k-1) (by omega)));rw[List.nil_append,show (ts.all λ_=>true)=true from wH.mpr λ_ _=>rfl,we]at c;have al:∀{M:Mem},zg M .all [.lst (ts.map λu=>T.v (.bl (f u)))]=some (bT (ts.all f)):=λ{M}=>qAL _ ts;generalize (ts.map λu=>T.v (.bl (f u)))=B at *;have gt:zO M .gt (N ts.length) (N 40)=some false:=gt;refine qV (σ:=[some (N s),some t]) (q:=.ok (.rt (bT (true&&ts.all f)),M)) t9 ⟨rfl,by decide⟩ (by omega) rfl rfl ?_ (qA rfl)
  change pxs _ _ _ (.cons _ _) _ _=_
  repeat' first|with_reducible (first|exact e4|exact ty|exact ln|exact n1|exact gt|exact s1|exact c|exact al|exact qS|exact qd|exact jK|exact S4|exact qO|exact isT|exact isF|exact Qs .. | assumption|apply qD|apply qX|apply zG|apply zb|apply qu|apply JQ|apply qA2|apply zW|apply cF|apply t_1|apply f_0|apply QH|apply qQ|apply l8|apply ZN)|assumption|rfl
theorem qGe(hk:6<=k){M:Mem}{t:T}{s:Nat}(h1:1<=s)(h5:s<=5){ty:String}(e:qk M t=some ty)(hn:ty≠"list"):Pk (glT gs) Fs Cs k 9 [N s,t] M=.ok (bT false,M):=by
 have e4:=f4 (k:=k-1) (by omega) h1 h5 M;have n1:(!["list"].any (zE ty))=true:=by simp[zE,hn]
 refine qV (σ:=[some (N s),some t]) (q:=.ok (.rt (bT false),M)) t9 ⟨rfl,by decide⟩ (by omega) rfl rfl ?_ (qA rfl)
 change pxs _ _ _ (.cons _ _) _ _=_
 repeat' first|with_reducible (first|exact n1|exact e4|exact e|exact qS|exact qd|exact S4|exact qO|exact isT|assumption|apply qD|apply JQ|apply qA2|apply cT|apply t_1|apply QH|apply qQ|apply l8|apply ZN)|assumption|rfl
theorem f5(hk:3<=k)(i:Nat)(M:Mem):Pk (glT gs) Fs Cs k 5 [N i] M=.ok (bT (decide (i<2)),M):=by
 rw[qm t5 ⟨rfl,by decide⟩ (by omega),b5,show Cs.getD 5 []=[] from rfl];simp[f1 (k:=k-1) (by omega),qA]
theorem qIw(hk:4<=k){M:Mem}{t:T}{n:Nat}{x:List Nat}(i:IsS M t (x.map N))(h:Sg n x)(hn:n<=1000):Pk (glT gs) Fs Cs k 6 [t,N n] M=.ok (bT true,M):=by
 obtain⟨d,s1,_,s2⟩:=i.src;have s2':=s2 [];rw[List.append_nil]at s2';have c:qP d (.name 0) (pec (glT gs) (Pk (glT gs) Fs Cs (k-1)) .nil) (pe (glT gs) (Pk (glT gs) Fs Cs (k-1)) (.call 5 (.cons (.var 0) .nil))) (x.map N) [] true [none] M=.ok ((.lst (x.map λv=>T.v (.bl (decide (v<2)))),true),M):=by
  have:=JZ (d:=d) (c:=pec (glT gs) (Pk (glT gs) Fs Cs (k-1)) .nil) (e:=pe (glT gs) (Pk (glT gs) Fs Cs (k-1)) (.call 5 (.cons (.var 0) .nil))) (M:=M) (σ:=[]) (λ_=>true) (λv=>T.v (.bl (decide (v<2)))) (λ_=>true) x [] true none s2' (by simp[h.1];exact Nat.le_trans hn (by decide)) (λv _=>by simp) (λv _ _=>by simp[f5 (k:=k-1) (by omega),bT]);rw[zH,show (x.all λ_=>true)=true from wH.mpr λ_ _=>rfl]at this;simpa using this
 have al:∀{M:Mem},zg M .all [.lst (x.map λv=>T.v (.bl (decide (v<2))))]=some (bT true):=λ{M}=>by
  rw[qAL (λv=>decide (v<2))];congr 2;rw[wH];exact λv hv=>vF (h.2 v hv)
 have ln:zg M .len [t]=some (N n,true):=by rw[i.len,wL,h.1]
 have n1:(["list"].any (zE "list"))=true:=by decide
 have ty:=i.ty;refine qV (σ:=[some t,some (N n)]) (q:=.ok (.rt (bT true),M)) t6 ⟨rfl,by decide⟩ (by omega) rfl rfl ?_ (qA rfl)
 change pxs _ _ _ (.cons _ _) _ _=_
 repeat' first|with_reducible (first|exact n1|exact ty|exact ln|exact s1|exact c|exact al|exact qS|exact qd|exact qO|exact Zq .. | assumption|apply qD|apply zG|apply zb|apply qu|apply QL|apply zW|apply cT|apply qQ|apply ZN)|assumption|exact dT rfl|rfl
theorem qIY(hk:1<=k)(a b:Nat)(M:Mem):Pk (glT gs) Fs Cs k 7 [.lst [N a,N b]] M=.ok ((N ((a+b) % 2),true),M):=by
 rw[qm t7 ⟨rfl,by decide⟩ hk,b7,show Cs.getD 7 []=[] from rfl];have s:∀{M:Mem},zg M .sum [.lst [N a,N b]]=some (N (a+b),true):=λ{M}=>by
  show zg M .sum [NL [a,b]]=_;rw[(IsL.nl M [a,b]).sum];simp
 simp(disch:=omega) [s,ZF,qA]
theorem qGg{x:List Nat}{i:Nat}(h:i<x.length):(x.map N)[i]?=some (N (x.getD i 0)):=by
 rw[wQ,wB h,wT,wB h];rfl
theorem qH9(hk:1<=k){M:Mem}{n:Nat}{d:jT}(hd:∀C,qY d (M++C)=true){a0 a1 a3:Option T}:∀(L:List Stp) (x:List Nat) (o:Option T),(∀p∈L,OkS n p)->Sg n x ->
  ∃o',zQ d (.name 4) (pxs (glT gs) (Pk (glT gs) Fs Cs k) [2] qCY) (SL L) [a0,a1,some (.cell M.length),a3,o] (M++[x.map N])=.ok (.nx [a0,a1,some (.cell M.length),a3,o'],M++[(Nt.row x L).map N])
 | [],x,o,_,_=>⟨o,rfl⟩
 |p::L,x,o,h,hx=>by
  obtain⟨o',e⟩:=qH9 hk hd (a0:=a0) (a1:=a1) (a3:=a3) L (Nt.one x p) (some (sp p)) (λq hq=>h q (by simp[hq])) (Nt.one_sg hx p);refine⟨o',?_⟩;have hp:=h p (by simp);have h1:=qGg (x:=x) (i:=p.1) (by rw[hx.1];exact hp.1);have h2:=qGg (x:=x) (i:=p.2) (by rw[hx.1];exact hp.2.1);have g0:(M++[x.map N])[M.length]?=some (x.map N):=by simp
  have i0:∀j:Nat,Qb (M++[x.map N]) (.cell M.length) (N j)=((x.map N)[j]?).map λt=>(t,t.lf):=λj=>by rw[qDG,g0];rfl
  have x0:∀{M:Mem},Qb M (sp p) (N 0)=some (N p.1,true):=λ{M}=>by unfold sp;rw[Z1];simp
  have x1:∀{M:Mem},Qb M (sp p) (N 1)=some (N p.2,true):=λ{M}=>by unfold sp;rw[Z1];simp
  have st:(x.map N).set p.1 (N ((x.getD p.1 0+x.getD p.2 0) % 2))=(Nt.one x p).map N:=by unfold Nt.one;rw[List.map_set]
  have pt:l6 (M++[x.map N]) (.cell M.length) (N p.1) (N ((x.getD p.1 0+x.getD p.2 0) % 2))=some (M++[(Nt.one x p).map N]):=by
   rw[qEg g0 (by rw[wL,hx.1];exact hp.1),st,wp _ _ (by omega)];simp
  clear st;generalize x.getD p.1 0=va at h1 pt;generalize x.getD p.2 0=vb at h2 pt;have body:pxs (glT gs) (Pk (glT gs) Fs Cs k) [2] qCY [a0,a1,some (.cell M.length),a3,some (sp p)] (M++[x.map N])=.ok (.nx [a0,a1,some (.cell M.length),a3,some (sp p)],M++[(Nt.one x p).map N]):=by
   have y1:Qb (M++[x.map N]) (.cell M.length) (N p.1)=some (N va,true):=by rw[i0,h1];rfl
   have y2:Qb (M++[x.map N]) (.cell M.length) (N p.2)=some (N vb,true):=by rw[i0,h2];rfl
   have sm:=qIY hk va vb (M++[x.map N])
   change pxs _ _ _ (.cons _ _) _ _=_
   repeat' first|with_reducible (first|exact x0|exact x1|exact y1|exact y2|exact sm|exact pt|exact zS|exact ZE|exact jK|exact qO|exact E6|exact ll2|assumption|apply qD|apply qX|apply zx|apply zo|apply qBr)|assumption
  show zQ d (.name 4) _ (sp p::SL L) _ _=_;rw[zQ];rw[show zF (.name 4) (sp p) [a0,a1,some (.cell M.length),a3,o]=some [a0,a1,some (.cell M.length),a3,some (sp p)] from rfl];dsimp only;rw[body,PR.bind_ok];dsimp only;rw[if_pos (hd _)];exact e
theorem qHl(hk:1<=k){M:Mem}{n:Nat}{d:jT}(hd:∀C,qY d (M++C)=true){a0 a1:Option T}:∀(ts:List T) (Ns:List (List Stp)) (x:List Nat) (o3 o4:Option T),zu (λt L=>IsS M t (SL L)) ts Ns->(∀L∈Ns,OkR n L)->Sg n x ->
  ∃p3 p4,zQ d (.name 3) (pxs (glT gs) (Pk (glT gs) Fs Cs k) [2] z8) ts [a0,a1,some (.cell M.length),o3,o4] (M++[x.map N])=.ok (.nx [a0,a1,some (.cell M.length),p3,p4],M++[(Nt.net x Ns).map N])
 | [],Ns,x,o3,o4,r,_,_=>by
  cases (show Ns=[] from r);exact⟨o3,o4,rfl⟩
 |t::ts,_,x,o3,o4,⟨L,Ns,rfl,r,rs⟩,h,hx=>by
  obtain⟨d',s1,_,s2⟩:=(r.app (C:=[x.map N])).src;have s2'':∀C,qY d' (M++C)=true:=by
   rcases r with rfl|⟨m,rfl,e⟩
   ·cases s1;exact λ_=>rfl
   ·have e':(M++[x.map N])[m]?=some (SL L):=by rw[List.getElem?_append_left (List.getElem?_eq_some_iff.mp e).1];exact e
    rw[Qy e']at s1;cases s1;exact λC=>Jn (by rw[List.getElem?_append_left (List.getElem?_eq_some_iff.mp e).1];exact e)
  obtain⟨o',e1⟩:=qH9 hk s2'' (a0:=a0) (a1:=a1) (a3:=some t) L x o4 (h L (by simp)).st hx;obtain⟨p3,p4,e2⟩:=qHl hk hd (a0:=a0) (a1:=a1) ts Ns (Nt.row x L) (some t) o' rs (λK hK=>h K (by simp[hK])) (Nt.row_sg L hx);refine⟨p3,p4,?_⟩;rw[zQ,show zF (.name 3) t [a0,a1,some (.cell M.length),o3,o4]=some [a0,a1,some (.cell M.length),some t,o4] from rfl];have body:pxs (glT gs) (Pk (glT gs) Fs Cs k) [2] z8 [a0,a1,some (.cell M.length),some t,o4] (M++[x.map N])=.ok (.nx [a0,a1,some (.cell M.length),some t,o'],M++[(Nt.row x L).map N]):=by
   rw[z8];simp[r.lf,s1,e1]
  dsimp only;rw[body,PR.bind_ok];dsimp only;rw[if_pos (hd _)];exact e2
theorem qH3(hk:2<=k){M:Mem}(hW:WfM M){t r:T}{n:Nat}{Ns:List (List Stp)}(i:IsN M t Ns)(h:∀L∈Ns,OkR n L){x:List Nat}(j:IsS M r (x.map N))(hx:Sg n x):Pk (glT gs) Fs Cs k 14 [t,r] M=.ok ((NL (Nt.net x Ns),true),M):=by
 obtain⟨ts,i1,i2⟩:=i;obtain⟨d,s1,_,s2⟩:=(i1.app (C:=[x.map N])).src;have s2'':∀C,qY d (M++C)=true:=by
  rcases i1 with rfl|⟨m,rfl,e⟩
  ·cases s1;exact λ_=>rfl
  ·have e':(M++[x.map N])[m]?=some ts:=by rw[List.getElem?_append_left (List.getElem?_eq_some_iff.mp e).1];exact e
   rw[Qy e']at s1;cases s1;exact λC=>Jn (by rw[List.getElem?_append_left (List.getElem?_eq_some_iff.mp e).1];exact e)
 obtain⟨p3,p4,e⟩:=qHl (k:=k-1) (by omega) s2'' (a0:=some t) (a1:=some r) ts Ns x none none i2 h hx;have th:thaw M.length (NL x)=(.cell M.length,[x.map N]):=E7 M.length x;have z:pxs (glT gs) (Pk (glT gs) Fs Cs (k-1)) [2] b14 [some t,some r,none,none,none] M=.ok (.rt (.cell M.length,false),M++[(Nt.net x Ns).map N]):=by
  have jl:zg M .list [r]=some (NL x,true):=by rw[j.list,qIk]
  change pxs _ _ _ (.cons _ _) _ _=_
  repeat' first|with_reducible (first|exact jl|exact th|exact s1|exact e|exact qS|exact qd|exact zS|exact qO|exact zi|assumption|apply qD|apply zb|apply zW|apply Q7|apply qQ)|((with_reducible apply Z3);exact rfl)|assumption|rfl
 refine qV t14 ⟨rfl,by decide⟩ (by omega) rfl rfl z ?_;exact ZX rfl hW (by simp) (Nat.le_refl _) (G5 _) _
end
end My
namespace My
open PySem PySem.Spec PI
open L2 (V)
open Nt (Stp Sg OkS OkR qx)
theorem jG{n:Nat}{M M':Mem}(h:WfM M)(k:Kept n M M'):WfM M':=by
 unfold WfM at *;rw[wH]at h ⊢;intro c hc;rw[k.len];obtain⟨j,hj⟩:=List.getElem?_of_mem hc;by_cases e:j=n
 ·subst e;obtain⟨g,s,e1,_⟩:=k.good;rw[e1]at hj;cases hj;exact zZ (Nat.zero_le _) _ (qBh g s)
 ·rw[k.oth j e]at hj;exact h c (List.mem_of_getElem? hj)
theorem qAn:∀(S:List Nat) (d:Nat),(S.map N).eraseIdx d=(S.eraseIdx d).map N
 | [],d=>by simp
 |x::S,0=>rfl
 |x::S,d+1=>by
  show N x::(S.map N).eraseIdx d=N x::(S.eraseIdx d).map N;rw[qAn S d]
theorem qES{M:Mem}{c d:Nat}{S:List Nat}(h:M[c]?=some (S.map N))(hd:d<S.length)(hl:S.length<=1000):C3 .popAt c [N d] M=some ((N (S.getD d 0),true),M.set c ((S.eraseIdx d).map N)):=by
 show ((M[c]?).bind λxs=>if xs.length<=lim then (ixN xs.length (d:Int)).bind λk=>(xs[k]?).map λy=>((y,y.lf),M.set c (xs.eraseIdx k)) else none)=_;have ix:ixN (S.map N).length (d:Int)=some d:=by
  unfold ixN L2.ixN;simp;omega
 rw[h,Option.bind_some,if_pos (by rw[wL];exact Nat.le_trans hl (by decide)),ix,Option.bind_some,qGg hd,Option.map_some,lfN,qAn]
theorem L5:∀{L:List Stp},(qx L).Nodup->∀p∈L,p.1≠p.2
 |q::L,h,p,hp=>by
  have h':([q.1,q.2]++qx L).Nodup:=h;rw[wJ]at h';rcases List.mem_cons.mp hp with rfl|hp
  ·have:=h'.1;simp at this;exact this
  ·exact L5 h'.2.1 p hp
theorem Jf{L:List Stp}{p:Stp}(h:p∈L):p.1∈qx L/\p.2∈qx L:=by
 unfold qx;exact⟨List.mem_flatMap.mpr ⟨p,h,by simp⟩,List.mem_flatMap.mpr ⟨p,h,by simp⟩⟩
theorem QM:∀{S:List Nat}{d:Nat},d<S.length->(S.getD d 0::S.eraseIdx d).Perm S
 | [],d,h=>by simp at h
 |x::S,0,h=>.refl _
 |x::S,d+1,h=>by
  have:=QM (S:=S) (d:=d) (by simpa using h);show (S.getD d 0::x::S.eraseIdx d).Perm (x::S);exact(List.Perm.swap x _ _).trans (this.cons x)
section
variable{k:Nat}
def qIW(k n nb c:Nat)(a1:Option T)(m i:Nat)(S:List Nat)(L:List Stp)(A:Mem)(o4 o5 o6:Option T):Prop:=∃L' S' A' p4 p5 p6,zQ [] (.name 4) (pxs (glT gs) (Pk (glT gs) Fs Cs k) [2,3] u9) ((List.range' i m).map N) [some (.cell nb),a1,some (.cell c),some (.cell (c+1)),o4,o5,o6] (A++[S.map N,SL L])=.ok (.nx [some (.cell nb),a1,some (.cell c),some (.cell (c+1)),p4,p5,p6],A'++[S'.map N,SL L'])/\Kept nb A A'/\(qx L'++S').Nodup/\(∀v∈qx L'++S',v<n)/\L'.length<=100
theorem qBG(hk:1<=k){n nb c:Nat}{a1:Option T}:∀(m i:Nat) (S:List Nat) (L:List Stp) (A:Mem) (o4 o5 o6:Option T),A.length=c->Q3 A nb->2*m<=S.length->S.length<=100->(qx L++S).Nodup->(∀v∈qx L++S,v<n)->L.length+m<=100 ->
  qIW k n nb c a1 m i S L A o4 o5 o6
 | 0,i,S,L,A,o4,o5,o6,hc,g,hm,hS,nd,lt,hl=>⟨L,S,A,o4,o5,o6,rfl,⟨g,rfl,λ_ _=>rfl⟩,nd,lt,by omega⟩
 |m+1,i,S,L,A,o4,o5,o6,hc,g,hm,hS,nd,lt,hl=>by
  have hb:∀{B:Mem},Q3 B nb->nb<B.length:=λ{B} z=>by
   obtain⟨a,s,e,_⟩:=z;exact(List.getElem?_eq_some_iff.mp e).1
  obtain⟨d1,M1,e1,h1,k1⟩:=out (k:=k) hk (jw (C:=[S.map N,SL L]) g) (m:=S.length) (by omega);obtain⟨A1,rfl,kk1⟩:=zk (hb g) k1;obtain⟨S1,hS1⟩:∃S1,S1=S.eraseIdx d1:=⟨_,rfl⟩
  have lS1:S1.length=S.length-1:=by rw[hS1,List.length_eraseIdx_of_lt h1]
  obtain⟨d2,M2,e2,h2,k2⟩:=out (k:=k) hk (jw (C:=[S1.map N,SL L]) kk1.good) (m:=S1.length) (by omega);obtain⟨A2,rfl,kk2⟩:=zk (hb kk1.good) k2;obtain⟨S2,hS2⟩:∃S2,S2=S1.eraseIdx d2:=⟨_,rfl⟩
  have lS2:S2.length=S1.length-1:=by rw[hS2,List.length_eraseIdx_of_lt h2]
  have c1:A1.length=c:=kk1.len.trans hc;have c2:A2.length=c:=kk2.len.trans c1;have pr1:=QM h1;have pr2:=QM h2;rw[<-hS1]at pr1;rw[<-hS2]at pr2;have g0:∀{B:Mem}(X Y:List T),B.length=c->(B++[X,Y])[c]?=some X:=λ{B} X Y z=>by rw[<-z];simp
  have g1:∀{B:Mem}(X Y:List T),B.length=c->(B++[X,Y])[c+1]?=some Y:=λ{B} X Y z=>by rw[<-z,List.getElem?_append_right (by omega)];simp
  have s0:∀{B:Mem}(X Y Z:List T),B.length=c->(B++[X,Y]).set c Z=B++[Z,Y]:=λ{B} X Y Z z=>by rw[<-z,wp _ _ (by omega)];simp
  have s1:∀{B:Mem}(X Y Z:List T),B.length=c->(B++[X,Y]).set (c+1) Z=B++[X,Z]:=λ{B} X Y Z z=>by rw[<-z,wp _ _ (by omega)];simp
  have p1:=qES (M:=A1++[S.map N,SL L]) (c:=c) (d:=d1) (S:=S) (g0 _ _ c1) h1 (by omega);rw[s0 _ _ _ c1,<-hS1]at p1;have p2:=qES (M:=A2++[S1.map N,SL L]) (c:=c) (d:=d2) (S:=S1) (g0 _ _ c2) h2 (by omega);rw[s0 _ _ _ c2,<-hS2]at p2;generalize S.getD d1 0=va at p1 pr1;generalize S1.getD d2 0=vb at p2 pr2;have perm:(qx (L++[(va,vb)])++S2).Perm (qx L++S):=by
   rw[Nt.spots_app,wO];refine List.Perm.append_left _ ?_;show (va::vb::S2).Perm S;exact(pr2.cons va).trans pr1
  have ap:j4 (A2++[S2.map N,SL L]) (c+1) (sp (va,vb))=some (A2++[S2.map N,SL (L++[(va,vb)])]):=by
   rw[qAP (g1 _ _ c2) (by rw[i6];exact wD (show L.length<200 by omega) (by decide)),s1 _ _ _ c2];unfold SL;rw[wd];rfl
  have ln:∀{B:Mem}(X:List Nat) (Y:List T),B.length=c->zg (B++[X.map N,Y]) .len [.cell c]=some (N X.length,true):=λ{B} X Y z=>(IsL.cell (g0 _ _ z)).len;obtain⟨L',S',A',p4,p5,p6,e,kk,n',l',z'⟩:=qBG hk (a1:=a1) m (i+1) S2 (L++[(va,vb)]) A2 (some (N i)) (some (N va)) (some (N vb)) c2 kk2.good (by omega) (by omega) (perm.nodup_iff.mpr nd) (λv hv=>lt v (perm.mem_iff.mp hv)) (by simp;omega);refine⟨L',S',A',p4,p5,p6,?_,(kk1.trans kk2).trans kk,n',l',z'⟩;have body:pxs (glT gs) (Pk (glT gs) Fs Cs k) [2,3] u9 [some (.cell nb),a1,some (.cell c),some (.cell (c+1)),some (N i),o5,o6] (A++[S.map N,SL L])=.ok (.nx [some (.cell nb),a1,some (.cell c),some (.cell (c+1)),some (N i),some (N va),some (N vb)],A2++[S2.map N,SL (L++[(va,vb)])]):=by
   have l1:=ln S (SL L) hc;have l1':=ln S1 (SL L) c1
   change pxs _ _ _ (.cons _ _) [_,_,_,_,_,_,_] _=_
   repeat' first|with_reducible (first|exact l1|exact l1' | exact e1|exact e2|exact p1|exact p2|exact qS|exact zS|exact zz|exact S8|exact qCa|exact qO|exact E6|exact ll2|exact K8|exact qAp|assumption|apply qD|apply qX|apply zb|apply Ji|apply qHK|apply U9)|((with_reducible apply jL);exact cN rfl)|assumption
  rw[List.range'_succ,List.map_cons,zl,show ([some (.cell nb),a1,some (.cell c),some (.cell (c+1)),o4,o5,o6]:TS).set 4 (some (N i))=[some (.cell nb),a1,some (.cell c),some (.cell (c+1)),some (N i),o5,o6] from rfl,body,PR.bind_ok];exact e
theorem qFl(hk:2<=k){M:Mem}{nb s:Nat}(hs:s<=5)(hW:WfM M)(g:Q3 M nb):∃L M',Pk (glT gs) Fs Cs k 26 [.cell nb,N s] M=.ok ((.lst (SL L),true),M')/\OkR (2 ^ s) L/\Kept nb M M':=by
 have n5:=p5 hs;have sl:∀{M:Mem},qr M .shl (N 1) (N s)=some (N (2 ^ s),true):=λ{M}=>by rw[K2 (by omega),Nat.one_mul]
 generalize 2 ^ s=n at *;have hb:nb<M.length:=by
  obtain⟨a,s,e,_⟩:=g;exact(List.getElem?_eq_some_iff.mp e).1
 obtain⟨d,M1,e1,h1,k1⟩:=out (k:=k-1) (by omega) (jw (C:=[(List.range (n)).map N,[]]) g) (m:=n / 2+1) (by omega);obtain⟨A1,rfl,kk1⟩:=zk hb k1;obtain⟨L,S,A,p4,p5,p6,e,kk,nd,lt,ll⟩:=qBG (k:=k-1) (by omega) (n:=n) (nb:=nb) (c:=M.length) (a1:=some (N s)) d 0 (List.range (n)) [] A1 none none none kk1.len kk1.good (by simp;omega) (by simp;omega) (by simpa [qx] using List.nodup_range) (λv hv=>by simpa [qx] using hv) (by simp;omega);rw[<-wx]at e;have kt:=kk1.trans kk;refine⟨L,A,?_,⟨λp hp=>⟨lt _ (wE _ (Jf hp).1),lt _ (wE _ (Jf hp).2),L5 (wJ.mp nd).1 p hp⟩,(wJ.mp nd).1,ll⟩,kt⟩;have fd:∀{M:Mem},qr M .fdiv (N (n)) (N 2)=some (N (n / 2),true):=λ{M}=>Qr (by decide);have lr:=qB4 (n:=n) (by omega);have th:thaw M.length (.lst ((List.range (n)).map N))=(.cell M.length,[(List.range (n)).map N]):=E7 M.length _;have th0:thaw (M++[(List.range n).map N]).length (.lst [])=(.cell (M.length+1),[[]]):=by simp[thaw,QY]
 have rg:=jr (n:=d) (by omega);have e:zQ [] (.name 4) (pxs (glT gs) (Pk (glT gs) Fs Cs (k-1)) [2,3] u9) ((List.range d).map N) [some (.cell nb),some (N s),some (.cell M.length),some (.cell (M.length+1)),none,none,none] (A1++[(List.range (n)).map N,[]])=.ok (.nx [some (.cell nb),some (N s),some (.cell M.length),some (.cell (M.length+1)),p4,p5,p6],A++[S.map N,SL L]):=e;have z:pxs (glT gs) (Pk (glT gs) Fs Cs (k-1)) [2,3] b26 [some (.cell nb),some (N s),none,none,none,none,none] M=.ok (.rt (.cell (M.length+1),false),A++[S.map N,SL L]):=by
  have e1:Pk (glT gs) Fs Cs (k-1) 25 [.cell nb,N (n / 2+1)] (M++[(List.range n).map N]++[[]])=.ok ((N d,true),A1++[(List.range n).map N,[]]):=by rw[wO];exact e1
  change pxs _ _ _ (.cons _ _) [some _,some _,none,none,none,none,none] _=_
  repeat' first|with_reducible (first|exact sl|exact fd|exact lr|exact th|exact th0|exact rg|exact e|exact qS|exact qd|exact zz|exact jK|exact qO|exact ll0|exact zi|exact jJ|exact QT .. | assumption|apply qD|apply qX|apply zm|apply zo|apply qFQ|apply Zs|apply Q7|apply qQ)|((with_reducible apply Z3);exact rfl)|assumption|rfl
 exact qV t26 ⟨rfl,by decide⟩ (by omega) rfl rfl z (ZX (c:=M.length+1) kt.len (jG hW kt) (by rw[<-kt.len,List.getElem?_append_right (by omega)];simp) (by rw[kt.len];omega) (qAE L) _)
theorem V1{its zs:List T}{n:Nat}:zu (λ_ z=>∃L,z=T.lst (SL L)/\OkR n L) its zs->∃Ns:List (List Stp),zs=Ns.map (λL=>T.lst (SL L))/\(∀L∈Ns,OkR n L)/\Ns.length=its.length:=by
 induction its generalizing zs with
 |nil=>intro h;cases (show zs=[] from h);exact⟨[],rfl,by simp,rfl⟩
 |cons x r ih=>
  rintro⟨z,zs',rfl,⟨L,rfl,hL⟩,h⟩;obtain⟨Ns,rfl,a,b⟩:=ih h;exact⟨L::Ns,rfl,λK hK=>by
   rcases List.mem_cons.mp hK with rfl|hK
   ·exact hL
   ·exact a K hK,by simp[b]⟩
theorem net(hk:3<=k){M:Mem}{nb s:Nat}(hs:s<=5)(hW:WfM M)(g:Q3 M nb):∃(Ns:List (List Stp)) (M':Mem),Pk (glT gs) Fs Cs k 27 [.cell nb,N s] M=.ok ((.lst (Ns.map λL=>.lst (SL L)),true),M')/\(∀L∈Ns,OkR (2 ^ s) L)/\Ns.length<=40/\Kept nb M M':=by
 obtain⟨d,M1,e1,h1,k1⟩:=out (k:=k-1) (by omega) g (m:=6) (by decide);obtain⟨w,hw,ew⟩:=qER (L:=[0,1,2,3,5,40]) (m:=41) h1 (by decide);have hw:w<=40:=Nat.le_of_lt_succ hw;obtain⟨zs,M2,e2,j2,p2⟩:=qA4 (d:=[]) (gl:=glT gs) (P:=Pk (glT gs) Fs Cs (k-1)) (e:=pe (glT gs) (Pk (glT gs) Fs Cs (k-1)) (.call 26 (.cons (.var 1) (.cons (.var 2) .nil)))) (σ:=[some (.cell nb),some (N s)]) (J:=λM'=>Kept nb M M') (Pr:=λ_ z=>∃L,z=T.lst (SL L)/\OkR (2 ^ s) L) ((List.range w).map N) [] true none M1 (by simp[lim];omega) k1 (λ_ _=>rfl) (λx _ M' hJ=>by
  obtain⟨L,M'',e,o,kk⟩:=qFl (k:=k-1) (by omega) hs (jG hW hJ) hJ.good;exact⟨.lst (SL L),M'',by simp[e],hJ.trans kk,L,rfl,o⟩)
 obtain⟨Ns,rfl,a,b⟩:=V1 p2;refine⟨Ns,M2,?_,a,by rw[b];simp;exact hw,j2⟩;have rg:=jr (n:=w) (by omega);have e2:qP [] (.name 0) (pec (glT gs) (Pk (glT gs) Fs Cs (k-1)) .nil) (pe (glT gs) (Pk (glT gs) Fs Cs (k-1)) (.call 26 (.cons (.var 1) (.cons (.var 2) .nil)))) ((List.range w).map N) [] true [none,some (.cell nb),some (N s)] M1=.ok ((.lst (Ns.map λL=>.lst (SL L)),true),M2):=by simpa using e2
 have z:pxs (glT gs) (Pk (glT gs) Fs Cs (k-1)) [] b27 [some (.cell nb),some (N s)] M=.ok (.rt (.lst (Ns.map λL=>.lst (SL L)),true),M2):=by
  change pxs _ _ _ (.cons _ _) [some _,some _] _=_
  repeat' first|with_reducible (first|exact ll6|exact ew|exact rg|exact e2|exact qS|exact qd|exact jK|exact qO|assumption|apply qD|apply qX|apply zx|apply zo|apply qu|apply Zs|apply qQ|apply qFe)|assumption|rfl
 exact qV t27 ⟨rfl,by decide⟩ (by omega) rfl rfl z (qA j2.len)
end
end My
namespace My
open PySem PySem.Spec PI
open L2 (V)
open Nt (Stp Sg OkS OkR qx)
theorem JR{α β:Type}{R:α->β->Prop}:∀{xs:List α}{ys:List β},zu R xs ys->∀x∈xs,∃y∈ys,R x y
 | [],_,_,x,hx=>by cases hx
 |a::xs,_,⟨b,ys,rfl,r,h⟩,x,hx=>by
  rcases List.mem_cons.mp hx with rfl|hx
  ·exact⟨b,by simp,r⟩
  ·obtain⟨y,hy,q⟩:=JR h x hx;exact⟨y,by simp[hy],q⟩
section
variable{k:Nat}
theorem slm{M:Mem}{t:T}{L:List Nat}(h:IsL M t L)(xs:List T)(lo hi:Option Int):Jb t xs lo hi=some (lT (QQ xs lo hi)):=by
 cases t with
 |tup ts=>exact absurd h.ty (by show some "tuple"≠some "list";decide)
 |_=>rfl
theorem f6(hk:4<=k){M:Mem}{t:T}{L:List Nat}(h:IsL M t L)(hl:L.length<=1000)(m:Nat):Pk (glT gs) Fs Cs k 6 [t,N m] M=.ok (bT (decide (L.length=m)&&L.all λx=>decide (x<2)),M):=by
 obtain⟨d,s1,_,s2⟩:=h.src;have c:=JZ (d:=d) (c:=pec (glT gs) (Pk (glT gs) Fs Cs (k-1)) .nil) (e:=pe (glT gs) (Pk (glT gs) Fs Cs (k-1)) (.call 5 (.cons (.var 0) .nil))) (M:=M) (σ:=[]) (λ_=>true) (λx=>.v (.bl (decide (x<2)))) (λ_=>true) L [] true none s2 (by simp[lim];omega) (λx _=>by simp) (λx _ _=>by simp(disch:=omega) [f5,bT]);rw[zH,List.nil_append]at c;have n1:(["list"].any (zE "list"))=true:=by decide
 have ty:=h.ty;have al:=qAL (M:=M) (λx=>decide (x<2)) L;by_cases hm:L.length=m
 ·rw[vF hm];refine qV (σ:=[some t,some (N m)]) (q:=.ok (.rt (bT (true&&L.all λx=>decide (x<2))),M)) t6 ⟨rfl,by decide⟩ (by omega) rfl rfl ?_ (qA rfl)
  change pxs _ _ _ (.cons _ _) _ _=_
  repeat' first|with_reducible (first|exact n1|exact ty|exact h.len|exact s1|exact c|exact al|exact qS|exact qd|exact qO|exact Zq .. | assumption|apply qD|apply zG|apply zb|apply qu|apply QL|apply zW|apply cT|apply cF|apply qQ|apply ZN)|assumption|exact dT hm|rfl
 ·rw[vE hm];refine qV (σ:=[some t,some (N m)]) (q:=.ok (.rt (bT (false&&L.all λx=>decide (x<2))),M)) t6 ⟨rfl,by decide⟩ (by omega) rfl rfl ?_ (qA rfl)
  change pxs _ _ _ (.cons _ _) _ _=_
  repeat' first|with_reducible (first|exact n1|exact ty|exact h.len|exact qS|exact qd|exact qO|exact Zq .. | assumption|apply qD|apply zG|apply zb|apply qu|apply QL|apply zW|apply cT|apply cF|apply qQ|apply ZN)|assumption|exact dF hm|rfl
noncomputable def xr(x y:Nat):Nat:=(x+y) % 2
theorem f7(hk:1<=k)(x y:Nat)(M:Mem):Pk (glT gs) Fs Cs k 7 [NL [x,y]] M=.ok ((N (xr x y),true),M):=by
 rw[qm t7 ⟨rfl,by decide⟩ hk];have:=(IsL.nl M [x,y]).sum;simp(disch:=omega) [b7,this,ZF,qA,xr,qDv]
theorem f8(hk:2<=k){A B:List Nat}(hl:A.length<=1000)(M:Mem):Pk (glT gs) Fs Cs k 8 [NL A,NL B] M=.ok ((NL (List.zipWith xr A B),true),M):=by
 rw[qm t8 ⟨rfl,by decide⟩ (by omega),b8];have c:=N8 (gl:=glT gs) (P:=Pk (glT gs) Fs Cs (k-1)) (d:=[]) (e:=pe (glT gs) (Pk (glT gs) Fs Cs (k-1)) (.call 7 (.cons (.lst (.cons (.var 0) (.cons (.var 1) .nil))) .nil))) (M:=M) xr rfl A B [] true none none (by simp[lim];omega) (λx y _ _=>by
  have:=f7 (k:=k-1) (by omega) x y M;simp[NL]at this;simp[lim,this])
 simp at c;simp[qDv,C7,NL];simp[NL]at c;rw[c,PR.bind_ok,PR.bind_ok];simp[qA]
noncomputable def wrd:Nat->List Nat->List Nat
 | 0,L=>L
 |s+1,L=>List.zipWith xr (wrd s (L.take (2 ^ s))) (wrd s (L.drop (2 ^ s)))++wrd s (L.drop (2 ^ s))
theorem JK:∀(s:Nat) (L:List Nat),L.length=2 ^ s->(wrd s L).length=2 ^ s
 | 0,L,h=>h
 |s+1,L,h=>by
  have h':L.length=2 ^ s+2 ^ s:=by rw[h,Nat.pow_succ];omega
  have l1:=JK s (L.take (2 ^ s)) (by rw[wP];omega);have l2:=JK s (L.drop (2 ^ s)) (by rw[wY];omega);show (List.zipWith xr _ _++wrd s _).length=_;rw[List.length_append,List.length_zipWith,l1,l2,Nat.pow_succ];omega
theorem f20:∀(s:Nat){k:Nat}(hk:s+3<=k) (hs:s<=5){M:Mem}{t:T}{L:List Nat}(h:IsL M t L) (hl:L.length=2 ^ s),Pk (glT gs) Fs Cs k 20 [t] M=.ok ((NL (wrd s L),true),M)
 | 0,k,hk,hs,M,t,L,h,hl=>by
  have h1:L.length=1:=hl;have z:pxs (glT gs) (Pk (glT gs) Fs Cs (k-1)) [] b20 [some t,none,none,none] M=.ok (.rt (NL L,true),M):=by
   change pxs _ _ _ (.cons _ _) [some _,none,none,none] _=_
   repeat' first|with_reducible (first|exact h.len|exact h.list|exact qS|exact qd|exact zS|exact zz|exact jK|exact qO|exact U6|exact zi|exact jJ|exact Zq .. | assumption|apply qD|apply qX|apply zm|apply zG|apply zb|apply qCC|apply t_1|apply f_0|apply QH|apply qQ)|((with_reducible apply jL);exact cN rfl)|assumption|exact dT h1|rfl
  exact qV t20 ⟨rfl,by decide⟩ (by omega) rfl rfl z (qA rfl)
 |s+1,k,hk,hs,M,t,L,h,hl=>by
  have h5:=p5 (show s<=5 by omega);have hp:0<2 ^ s:=Nat.pow_pos (by decide);have hl':L.length=2 ^ s+2 ^ s:=by rw[hl,Nat.pow_succ];omega
  have i1:=f20 s (k:=k-1) (by omega) (by omega) (IsL.nl M (L.take (2 ^ s))) (by rw[wP];omega);have i2:=f20 s (k:=k-1) (by omega) (by omega) (IsL.nl M (L.drop (2 ^ s))) (by rw[wY];omega);have l1:=JK s (L.take (2 ^ s)) (by rw[wP];omega);have l2:=JK s (L.drop (2 ^ s)) (by rw[wY];omega);have n1:¬ (L.length=1):=by omega
  have fd:qr M .fdiv (N L.length) (N 2)=some (N (2 ^ s),true):=by rw[Qr (by decide),show L.length / 2=2 ^ s by omega]
  have y1:Jb t (L.map N) none (some ((2 ^ s:Nat):Int))=some (NL (L.take (2 ^ s)),true):=by rw[slm h,l0 (by simp;omega),<-List.map_take];unfold lT;rw[G5];rfl
  have y2:Jb t (L.map N) (some ((2 ^ s:Nat):Int)) none=some (NL (L.drop (2 ^ s)),true):=by rw[slm h,Jx (by simp;omega),<-List.map_drop];unfold lT;rw[G5];rfl
  have e8:=f8 (k:=k-1) (by omega) (A:=wrd s (L.take (2 ^ s))) (B:=wrd s (L.drop (2 ^ s))) (by omega) M;have ad:=qHJ (M:=M) (L:=List.zipWith xr (wrd s (L.take (2 ^ s))) (wrd s (L.drop (2 ^ s)))) (K:=wrd s (L.drop (2 ^ s))) (by simp[l1,l2,lim];omega);have z:pxs (glT gs) (Pk (glT gs) Fs Cs (k-1)) [] b20 [some t,none,none,none] M=.ok (.rt (NL (wrd (s+1) L),true),M):=by
   change pxs _ _ _ (.cons _ _) [some _,none,none,none] _=_
   repeat' first|with_reducible (first|exact h.len|exact h.its|exact fd|exact i1|exact i2|exact e8|exact ad|exact qS|exact qd|exact zS|exact zz|exact jK|exact qO|exact U6|exact zi|exact jJ|exact Zq .. | assumption|apply qD|apply qX|apply zm|apply zG|apply zb|apply qCC|apply t_1|apply f_0|apply QH|apply qQ)|((with_reducible apply jL);exact cN rfl)|assumption|exact dF n1|exact y1|exact y2|rfl
  exact qV t20 ⟨rfl,by decide⟩ (by omega) rfl rfl z (qA rfl)
theorem f19(hk:5<=k){M:Mem}{t:T}{L:List Nat}(h:IsL M t L){s:Nat}(h1:1<=s)(hs:s<=5)(hl:L.length=2 ^ s)(hb:∀x∈L,x<2):Pk (glT gs) Fs Cs k 19 [t] M=.ok (bT true,M):=by
 have h5:=p5 hs;have ha:(L.all λx=>decide (x<2))=true:=by rw[wH];exact λx hx=>vF (hb x hx)
 have c:=ZA (c:=pec (glT gs) (Pk (glT gs) Fs Cs (k-1)) .nil) (e:=pe (glT gs) (Pk (glT gs) Fs Cs (k-1)) (.call 6 (.cons (.var 1) (.cons (.call 2 (.cons (.var 0) .nil)) .nil)))) (M:=M) (σ:=[some t]) (λ_=>true) (λx=>.v (.bl (decide (L.length=2 ^ x)))) (λ_=>true) (List.range' 1 5) [] true none (by simp[lim]) (λx _=>by simp) (λx hx _=>by
  have hx:x<=5:=by simp[List.mem_range']at hx;omega
  have:=f6 (k:=k-1) (by omega) h (by omega) (2 ^ x);simp(disch:=omega) [f2,hx,this,ha,bT])
 rw[zH,List.nil_append]at c;have an:=qFs (M:=M) (λx=>decide (L.length=2 ^ x)) (List.range' 1 5);have tr:((List.range' 1 5).any λx=>decide (L.length=2 ^ x))=true:=List.any_eq_true.mpr ⟨s,List.mem_range'_1.mpr ⟨h1,Nat.lt_succ_of_le hs⟩,by rw[hl];exact vF rfl⟩;rw[tr]at an;have rg:S6 (N 1) (N (5+1))=some ((List.range' 1 5).map N):=qBi ⟨by decide,by decide⟩;refine qV (σ:=[some t]) (q:=.ok (.rt (bT true),M)) t19 ⟨rfl,by decide⟩ (by omega) rfl rfl ?_ (qA rfl)
 change pxs _ _ _ (.cons _ _) _ _=_
 repeat' first|with_reducible (first|exact rg|exact c|exact an|exact qS|exact jK|exact qO|exact QT .. | assumption|apply qD|apply zm|apply zb|apply qu|apply qQ|apply qEh)|assumption|rfl
theorem f18(hk:10<=k){M:Mem}{t:T}{L:List Nat}(h:IsL M t L){s:Nat}(h1:1<=s)(hs:s<=5)(hl:L.length=2 ^ s)(hb:∀x∈L,x<2):Pk (glT gs) Fs Cs k 18 [t] M=.ok ((NL (wrd s L),true),M):=by
 rw[qm t18 ⟨rfl,by decide⟩ (by omega),b18];have e8:=f19 (k:=k-1) (by omega) h h1 hs hl hb;have e9:=f20 s (k:=k-1) (by omega) hs h hl;simp[e8,e9,qA]
theorem qEe(hk:1<=k){n j:Nat}(hn:n<=32)(M:Mem):Pk (glT gs) Fs Cs k 23 [N n,N j] M=.ok ((NL (Nt.unit n j),true),M):=by
 have rg:=jr (n:=n) (by omega);have c:qP [] (.name 0) (pec (glT gs) (Pk (glT gs) Fs Cs (k-1)) .nil) (pe (glT gs) (Pk (glT gs) Fs Cs (k-1)) (.ite (.cmp .eq (.var 0) (.var 1)) (nE 1) (nE 0))) ((List.range n).map N) [] true [none,some (N j)] M=.ok ((NL (Nt.unit n j),true),M):=by
  refine(h9 (λq=>if q=j then 1 else 0) (by simp[lim];omega) λq _=>?_).trans rfl;by_cases z:q=j
  ·simp[z]
  ·simp[z]
 rw[qm t23 ⟨rfl,by decide⟩ (by omega),b23,show Cs.getD 23 []=[] from rfl];simp only[qb,qBL,pe_comp,M8,pe_var,G1,F3,P9];simp[rg,c,qA,-jc]
theorem chk(hk:7<=k){M:Mem}{t:T}{s:Nat}(h1:1<=s)(h5:s<=5){ts:List T}(i:IsS M t ts)(hl:ts.length<=40)(h:∀u∈ts,RB M (2 ^ s) u true):Pk (glT gs) Fs Cs k 12 [N s,t] M=.ok ((.v .non,true),M):=by
 rw[qm t12 ⟨rfl,by decide⟩ (by omega),b12,show Cs.getD 12 []=[] from rfl];have e:=qFc (k:=k-1) (by omega) h1 h5 i (by omega) (f:=λ_=>true) h;rw[vF hl,show (ts.all λ_=>true)=true from wH.mpr λ_ _=>rfl,we]at e;simp[e,i.lf,O2]
theorem qFX(hk:7<=k){M:Mem}{t:T}{s:Nat}(h1:1<=s)(h5:s<=5){Ns:List (List Stp)}(i:IsN M t Ns)(h:∀L∈Ns,OkR (2 ^ s) L)(hl:Ns.length<=40):Pk (glT gs) Fs Cs k 12 [N s,t] M=.ok ((.v .non,true),M):=by
 obtain⟨ts,i1,i2⟩:=i;refine chk hk h1 h5 i1 (by rw[qE i2];exact hl) λu hu=>?_;obtain⟨L,hL,iu⟩:=JR i2 u hu;exact RB.good iu (h L hL)
theorem qF7(hk:7<=k){M:Mem}{t:T}{s:Nat}(e:∀k,6<=k->Pk (glT gs) Fs Cs k 9 [N s,t] M=.ok (bT false,M)):Pk (glT gs) Fs Cs k 12 [N s,t] M=.exc 3 M:=by
 rw[qm t12 ⟨rfl,by decide⟩ (by omega),b12,show Cs.getD 12 []=[] from rfl];simp[e (k-1) (by omega),bind_exc,qg]
theorem unL(hk:11<=k){M:Mem}(hW:WfM M){t:T}{s:Nat}(h1:1<=s)(h5:s<=5){Ns:List (List Stp)}(i:IsN M t Ns)(h:∀L∈Ns,OkR (2 ^ s) L):∀(m j:Nat) (o3 o4:Option T),(∃σ,zQ [] (.name 3) (pxs (glT gs) (Pk (glT gs) Fs Cs k) [] qAA) ((List.range' j m).map N) [some (N s),some t,some (N (2 ^ s)),o3,o4] M=.ok (.nx σ,M))\/∃x,zQ [] (.name 3) (pxs (glT gs) (Pk (glT gs) Fs Cs k) [] qAA) ((List.range' j m).map N) [some (N s),some t,some (N (2 ^ s)),o3,o4] M=.ok (.rt (NL x,false),M)
 | 0,j,o3,o4=>.inl ⟨_,rfl⟩
 |m+1,j,o3,o4=>by
  have n5:=p5 h5;obtain⟨U,hU⟩:∃U,U=Nt.unit (2 ^ s) j:=⟨_,rfl⟩
  have usg:Sg (2 ^ s) U:=by rw[hU];exact Nt.unit_sg _ _
  have e1:=qH3 (k:=k) (by omega) hW i h (r:=NL U) (.inl rfl) usg;have e2:=f18 (k:=k) (by omega) (IsL.nl M U) h1 h5 usg.1 usg.2;have e3:=qEe (k:=k) (by omega) (n:=2 ^ s) (j:=j) n5 M;rw[<-hU]at e3;have cn:=(IsL.nl M (Nt.net U Ns)).cne (IsL.nl M (wrd s U));obtain⟨ts,i1,_⟩:=id i;have body:pxs (glT gs) (Pk (glT gs) Fs Cs k) [] qAA [some (N s),some t,some (N (2 ^ s)),some (N j),o4] M=if (!decide (Nt.net U Ns=wrd s U))=true then .ok (.rt (NL U,false),M) else .ok (.nx [some (N s),some t,some (N (2 ^ s)),some (N j),some (NL U)],M):=by
   cases hq:(!decide (Nt.net U Ns=wrd s U)) with
   |true=>
    rw[hq]at cn
    change pxs _ _ _ (.cons _ _) _ _=.ok (.rt (NL U,false),M)
    repeat' first|with_reducible (first|exact e1|exact e2|exact e3|exact cn|exact qd|exact zS|exact zz|exact ZE|exact qO|exact E6|exact isT|exact isF|exact QU|assumption|apply qD|apply qX|apply zG|apply t_1|apply f_0|apply QH|apply qQ)|((with_reducible apply jL);exact cN rfl)|assumption|rfl
   |false=>
    rw[hq]at cn
    change pxs _ _ _ (.cons _ _) _ _=.ok (.nx [some (N s),some t,some (N (2 ^ s)),some (N j),some (NL U)],M)
    repeat' first|with_reducible (first|exact e1|exact e2|exact e3|exact cn|exact qd|exact zS|exact zz|exact ZE|exact qO|exact E6|exact isT|exact isF|exact QU|assumption|apply qD|apply qX|apply zG|apply t_1|apply f_0|apply QH)|((with_reducible apply jL);exact cN rfl)|assumption
  rw[List.range'_succ,List.map_cons,zl,show ([some (N s),some t,some (N (2 ^ s)),o3,o4]:TS).set 3 (some (N j))=[some (N s),some t,some (N (2 ^ s)),some (N j),o4] from rfl,body];cases hq:(!decide (Nt.net U Ns=wrd s U)) with
  |true=>exact .inr ⟨U,rfl⟩
  |false=>exact unL hk hW h1 h5 i h m (j+1) (some (N j)) (some (NL U))
theorem qAv(hk:12<=k){M:Mem}(hW:WfM M){t:T}{s:Nat}(h1:1<=s)(h5:s<=5){Ns:List (List Stp)}(i:IsN M t Ns)(h:∀L∈Ns,OkR (2 ^ s) L)(hl:Ns.length<=40):Pk (glT gs) Fs Cs k 22 [N s,t] M=.ok ((.v .non,true),M)\/∃x f,Pk (glT gs) Fs Cs k 22 [N s,t] M=.ok ((NL x,f),M):=by
 have n5:=p5 h5;have e1:=f4 (k:=k-1) (by omega) h1 h5 M;have e2:=qFX (k:=k-1) (by omega) h1 h5 i h hl;have e3:=f2 (k:=k-1) (by omega) h5 M;have rg:=jr (n:=2 ^ s) (by omega);obtain⟨ts,i1,_⟩:=id i;rw[qm t22 ⟨rfl,by decide⟩ (by omega),b22,show Cs.getD 22 []=[] from rfl];have un:=unL (k:=k-1) (by omega) hW h1 h5 i h (2 ^ s) 0 none none;rw[<-wx]at un;rcases un with⟨σ,e⟩|⟨x,e⟩
 ·left;generalize 2 ^ s=nn at *;simp[i1.lf,e1,e2,e3,rg,e,qA]
 ·right;refine⟨x,false,?_⟩;generalize 2 ^ s=nn at *;simp[i1.lf,e1,e2,e3,rg,e,qA]
theorem qDY(hk:13<=k){M:Mem}(hW:WfM M){t:T}{s:Nat}(h1:1<=s)(h5:s<=5){Ns:List (List Stp)}(i:IsN M t Ns)(h:∀L∈Ns,OkR (2 ^ s) L)(hl:Ns.length<=40):∃b,Pk (glT gs) Fs Cs k 21 [N s,t] M=.ok (bT b,M):=by
 obtain⟨ts,i1,_⟩:=id i;rw[qm t21 ⟨rfl,by decide⟩ (by omega),b21,show Cs.getD 21 []=[] from rfl];rcases qAv (k:=k-1) (by omega) hW h1 h5 i h hl with e|⟨x,f,e⟩
 ·have ci:∀{M:Mem},zO M .is (.v .non) (.v .non)=some true:=λ{M}=>rfl;exact⟨true,by simp[i1.lf,e,ci,qA]⟩
 ·have ci:∀{M:Mem},zO M .is (NL x) (.v .non)=some false:=λ{M}=>rfl;exact⟨false,by simp[i1.lf,e,ci,qA]⟩
theorem qD7{k:Nat}{M:Mem}{d:jT}(hd:qY d M=true):∀(ts:List T) (Ns:List (List Stp)) (ys:List T) (b:Bool) (o:Option T),zu (λt L=>IsS M t (SL L)) ts Ns->ys.length+ts.length<=lim->qP d (.name 0) (pec (glT gs) (Pk (glT gs) Fs Cs k) .nil) (pe (glT gs) (Pk (glT gs) Fs Cs k) (.blt .list (.cons (.var 0) .nil))) ts ys b [o] M=.ok ((.lst (ys++Ns.map λL=>.lst (SL L)),b),M)
 | [],Ns,ys,b,o,r,_=>by cases (show Ns=[] from r);simp[qP]
 |t::ts,_,ys,b,o,⟨L,Ns,rfl,r,rs⟩,hl=>by
  have e:pe (glT gs) (Pk (glT gs) Fs Cs k) (.blt .list (.cons (.var 0) .nil)) [some t] M=.ok ((.lst (SL L),true),M):=by
   simp[r.list,lT,qAE]
  rw[qP,show zF (.name 0) t [o]=some [some t] from rfl];dsimp only;rw[jc,PR.bind_ok];dsimp only;rw[if_pos rfl,e,PR.bind_ok];dsimp only;rw[if_pos ⟨by simp at hl;omega,hd⟩,Bool.and_true,qD7 (k:=k) hd ts Ns (ys++[T.lst (SL L)]) b (some t) rs (by simp at hl ⊢;omega)];simp
theorem qEF{M:Mem}{t:T}{ts:List T}(r:IsS M t ts):∃d,C7 M t=some (ts,d)/\qY d M=true:=by
 rcases r with rfl|⟨m,rfl,e⟩
 ·exact⟨[],rfl,rfl⟩
 ·exact⟨_,Qy e,Jn e⟩
theorem turned(hk:8<=k){M:Mem}{t:T}{s:Nat}(h1:1<=s)(h5:s<=5){Ns:List (List Stp)}(i:IsN M t Ns)(h:∀L∈Ns,OkR (2 ^ s) L)(hl:Ns.length<=40):Pk (glT gs) Fs Cs k 15 [N s,t] M=.ok ((.lst (Ns.reverse.map λL=>.lst (SL L)),true),M):=by
 have e1:=qFX (k:=k-1) (by omega) h1 h5 i h hl;obtain⟨ts,i1,i2⟩:=i;obtain⟨d,s1,s2⟩:=qEF i1;have ll:=qE i2;have c:=qD7 (k:=k-1) s2 ts.reverse Ns.reverse [] true none (L4 i2) (by simp[lim];omega);rw[List.nil_append]at c;have e4:=f4 (k:=k-1) (by omega) h1 h5 M;refine qV (σ:=[some (N s),some t]) (q:=.ok (.rt (.lst (Ns.reverse.map λL=>.lst (SL L)),true),M)) t15 ⟨rfl,by decide⟩ (by omega) rfl rfl ?_ (qA rfl)
 change pxs _ _ _ (.cons _ _) _ _=_
 repeat' first|with_reducible (first|exact e4|exact e1|exact s1|exact c|exact qS|exact qd|exact qO|assumption|apply qD|apply qu|apply qQ|apply l8|apply qFG)|assumption|rfl
theorem qE8(hk:1<=k){n f:Nat}(hn:n<=32)(M:Mem):Pk (glT gs) Fs Cs k 17 [N n,N f] M=.ok ((.lst (SL (Nt.hr n f)),true),M):=by
 have c:qP [] (.name 0) (pec (glT gs) (Pk (glT gs) Fs Cs (k-1)) (.cons (.cmp .eq (.bin .band (.var 0) (.var 1)) (nE 0)) .nil)) (pe (glT gs) (Pk (glT gs) Fs Cs (k-1)) (.tup (.cons (.var 0) (.cons (.bin .add (.var 0) (.var 1)) .nil)))) ((List.range n).map N) [] true [none,some (N f)] M=.ok ((.lst (SL (Nt.hr n f)),true),M):=by
  have:=ZA (c:=pec (glT gs) (Pk (glT gs) Fs Cs (k-1)) (.cons (.cmp .eq (.bin .band (.var 0) (.var 1)) (nE 0)) .nil)) (e:=pe (glT gs) (Pk (glT gs) Fs Cs (k-1)) (.tup (.cons (.var 0) (.cons (.bin .add (.var 0) (.var 1)) .nil)))) (M:=M) (σ:=[some (N f)]) (λa=>decide (a&&& f=0)) (λa=>sp (a,a+f)) (λ_=>true) (List.range n) [] true none (by simp[lim];omega) (λa _=>by simp[qCO]) (λa _ _=>by simp[lim,sp]);rw[show (((List.range n).filter λa=>decide (a&&& f=0)).all λ_=>true)=true from wH.mpr λ_ _=>rfl]at this;rw[this];unfold SL Nt.hr;rw[wb];rfl
 have rg:=jr (n:=n) (by omega);refine qV (σ:=[some (N n),some (N f)]) (q:=.ok (.rt (.lst (SL (Nt.hr n f)),true),M)) t17 ⟨rfl,by decide⟩ (by omega) rfl rfl ?_ (qA rfl)
 change pxs _ _ _ (.cons _ _) _ _=_
 repeat' first|with_reducible (first|exact rg|exact c|exact qS|exact qd|exact QT .. | exact Zq .. | assumption|apply qu|apply Zs|apply qQ)|assumption|rfl
theorem qHb(hk:4<=k){s:Nat}(h1:1<=s)(h5:s<=5)(M:Mem):Pk (glT gs) Fs Cs k 16 [N s] M=.ok ((.lst ((Nt.hn s).map λL=>.lst (SL L)),true),M):=by
 have n5:=p5 h5;have c:qP [] (.name 0) (pec (glT gs) (Pk (glT gs) Fs Cs (k-1)) .nil) (pe (glT gs) (Pk (glT gs) Fs Cs (k-1)) (.call 17 (.cons (.var 1) (.cons (.call 2 (.cons (.var 0) .nil)) .nil)))) ((List.range s).map N) [] true [none,some (N (2 ^ s))] M=.ok ((.lst ((Nt.hn s).map λL=>.lst (SL L)),true),M):=by
  have:=ZA (c:=pec (glT gs) (Pk (glT gs) Fs Cs (k-1)) .nil) (e:=pe (glT gs) (Pk (glT gs) Fs Cs (k-1)) (.call 17 (.cons (.var 1) (.cons (.call 2 (.cons (.var 0) .nil)) .nil)))) (M:=M) (σ:=[some (N (2 ^ s))]) (λ_=>true) (λr=>.lst (SL (Nt.hr (2 ^ s) (2 ^ r)))) (λ_=>true) (List.range s) [] true none (by simp[lim];omega) (λa _=>by simp) (λa ha _=>by
   have ha:=vB.mp ha;simp[f2 (k:=k-1) (by omega) (show a<=5 by omega),qE8 (k:=k-1) (by omega) n5])
  rw[zH,show ((List.range s).all λ_=>true)=true from wH.mpr λ_ _=>rfl]at this;rw[this];unfold Nt.hn;rw[wb];rfl
 have rg:=jr (n:=s) (by omega);have e4:=f4 (k:=k-1) (by omega) h1 h5 M;have e2:=f2 (k:=k-1) (by omega) h5 M;refine qV (σ:=[some (N s),none]) (q:=.ok (.rt (.lst ((Nt.hn s).map λL=>.lst (SL L)),true),M)) t16 ⟨rfl,by decide⟩ (by omega) rfl rfl ?_ (qA rfl)
 change pxs _ _ _ (.cons _ _) _ _=_
 repeat' first|with_reducible (first|exact e4|exact e2|exact rg|exact c|exact qS|exact qd|exact qO|exact U6|assumption|apply qD|apply qX|apply qu|apply Zs|apply qQ|apply l8)|((with_reducible apply jL);exact cN rfl)|assumption|rfl
end
end My
namespace My
open PySem PySem.Spec PI
open L2 (V)
open Nt (Stp Sg OkS OkR qx)
section
variable{k:Nat}
theorem qIu(hk:4<=k){M:Mem}{t:T}{ts:List T}(i:IsS M t ts)(h:∀u∈ts,Kn u)(hl:ts.length<=1000)(n:Nat):Pk (glT gs) Fs Cs k 6 [t,N n] M=.ok (bT (decide (ts.length=n)&&ts.all (blw 2)),M):=by
 rw[qm t6 ⟨rfl,by decide⟩ (by omega),b6,show Cs.getD 6 []=[] from rfl];obtain⟨d,s1,_,s2⟩:=i.src;have s2':=s2 [];rw[List.append_nil]at s2';have sg:∀u∈ts,Pk (glT gs) Fs Cs (k-1) 5 [u] M=.ok (bT (blw 2 u),M):=λu hu=>by
  have e:=n1 (k:=k-1-1) (by omega) (h u hu) 2 M;have e:Pk (glT gs) Fs Cs (k-1-1) 1 [u,N 2] M=.ok (bT (blw 2 u),M):=e;rw[qm t5 ⟨rfl,by decide⟩ (by omega),b5,show Cs.getD 5 []=[] from rfl];simp[e,qA]
 have c:=Jj (d:=d) (gl:=glT gs) (P:=Pk (glT gs) Fs Cs (k-1)) (e:=pe (glT gs) (Pk (glT gs) Fs Cs (k-1)) (.call 5 (.cons (.var 0) .nil))) (σ:=[]) (M:=M) (λu=>T.v (.bl (blw 2 u))) (λ_=>true) s2' ts [] true none (by simp[lim];omega) (λu hu=>by simp[sg u hu,bT]);rw[List.nil_append,show (ts.all λ_=>true)=true from wH.mpr λ_ _=>rfl,we]at c;have al:∀{M:Mem},zg M .all [.lst (ts.map λu=>T.v (.bl (blw 2 u)))]=some (bT (ts.all (blw 2))):=λ{M}=>qAL _ ts;by_cases hm:ts.length=n
 ·generalize (ts.map λu=>T.v (.bl (blw 2 u)))=B at *;simp[i.ty,zE,i.len,hm,s1,c,al,qA,-jc]
 ·simp[i.ty,zE,i.len,hm,qA]
theorem qGo(hk:1<=k){t:T}{ty:String}{M:Mem}(e:qk M t=some ty)(hn:ty≠"list")(n:Nat):Pk (glT gs) Fs Cs k 6 [t,N n] M=.ok (bT false,M):=by
 rw[qm t6 ⟨rfl,by decide⟩ (by omega),b6,show Cs.getD 6 []=[] from rfl];simp[e,zE,hn,qA]
def NoN(s:Nat)(t:T):Prop:=∀(M:Mem) (k:Nat),6<=k->Pk (glT gs) Fs Cs k 9 [N s,t] M=.ok (bT false,M)
def NoR(n:Nat)(t:T):Prop:=∀(M:Mem) (k:Nat),4<=k->Pk (glT gs) Fs Cs k 6 [t,N n] M=.ok (bT false,M)
theorem qC6{s:Nat}(h1:1<=s)(h5:s<=5){ts:List T}(hl:ts.length<=100)(h:∀M,∀u∈ts,RB M (2 ^ s) u true\/RB M (2 ^ s) u false)(hx:∀M,∃u∈ts,RB M (2 ^ s) u false):NoN s (.lst ts):=λM k hk=>by
 classical
 have e:=qFc (k:=k) hk h1 h5 (t:=.lst ts) (M:=M) (.inl rfl) hl (f:=λu=>decide (RB M (2 ^ s) u true)) (λu hu=>by
  by_cases q:RB M (2 ^ s) u true
  ·rw[vF q];exact q
  ·rw[vE q];rcases h M u hu with z|z
   ·exact absurd z q
   ·exact z)
 obtain⟨u,hu,z⟩:=hx M;have:(ts.all λu=>decide (RB M (2 ^ s) u true))=false:=by
  rw[List.all_eq_false];refine⟨u,hu,?_⟩;rw[vG];intro q;have a:=q 4 (Nat.le_refl _);rw[z 4 (Nat.le_refl _)]at a;cases a
 rw[e,this,wj]
theorem m9{s:Nat}(h1:1<=s)(h5:s<=5){ts:List T}(hl:ts.length<=100)(h4:40<ts.length)(h:∀M,∀u∈ts,RB M (2 ^ s) u true):NoN s (.lst ts):=λM k hk=>by
 rw[qFc (k:=k) hk h1 h5 (t:=.lst ts) (M:=M) (.inl rfl) hl (f:=λ_=>true) (h M),vE (by omega)];rfl
theorem X4{s:Nat}(h1:1<=s)(h5:s<=5){t:T}{ty:String}(e:∀M:Mem,qk M t=some ty)(hn:ty≠"list"):NoN s t:=λM k hk=>qGe hk h1 h5 (e M) hn
theorem E3{n:Nat}{t:T}{ty:String}(e:∀M:Mem,qk M t=some ty)(hn:ty≠"list"):NoR n t:=λM k hk=>qGo (by omega) (e M) hn n
theorem qFy{n:Nat}{ts:List T}(h:∀u∈ts,Kn u)(hl:ts.length<=1000)(hb:ts.length≠n\/∃u∈ts,blw 2 u=false):NoR n (.lst ts):=λM k hk=>by
 rw[qIu hk (t:=.lst ts) (.inl rfl) h hl n];rcases hb with z|⟨u,hu,z⟩
 ·rw[vE z];rfl
 ·rw[show ts.all (blw 2)=false from List.all_eq_false.mpr ⟨u,hu,by simp[z]⟩,wj]
theorem qDp(hk:8<=k){M:Mem}(hW:WfM M){t:T}{s:Nat}(h1:1<=s)(h5:s<=5){Ns:List (List Stp)}(i:IsN M t Ns)(h:∀L∈Ns,OkR (2 ^ s) L)(hl:Ns.length<=40){x:List Nat}(hx:Sg (2 ^ s) x):Pk (glT gs) Fs Cs k 13 [N s,t,NL x] M=.ok ((NL (Nt.net x Ns),true),M):=by
 have e1:=f4 (k:=k-1) (by omega) h1 h5 M;have e2:=qFX (k:=k-1) (by omega) h1 h5 i h hl;have e3:=f2 (k:=k-1) (by omega) h5 M;have n5:=p5 h5;have e4:=qIw (k:=k-1) (by omega) (t:=NL x) (M:=M) (.inl rfl) hx (by omega);have e5:=qH3 (k:=k-1) (by omega) hW i h (r:=NL x) (.inl rfl) hx;obtain⟨ts,i1,_⟩:=id i;refine qV (σ:=[some (N s),some t,some (NL x)]) (q:=.ok (.rt (NL (Nt.net x Ns),true),M)) t13 ⟨rfl,by decide⟩ (by omega) rfl rfl ?_ (qA rfl)
 change pxs _ _ _ (.cons _ _) _ _=_
 repeat' first|with_reducible (first|exact e1|exact e2|exact e3|exact e4|exact e5|exact nF isT|exact qS|exact qd|exact zS|exact qO|exact isT|assumption|apply qD|apply qX|apply JQ|apply f_0|apply QH|apply l8|apply qQ)|assumption|rfl
theorem qCg(hk:8<=k){M:Mem}{t r:T}{s:Nat}(h1:1<=s)(h5:s<=5){Ns:List (List Stp)}(i:IsN M t Ns)(h:∀L∈Ns,OkR (2 ^ s) L)(hl:Ns.length<=40)(hr:NoR (2 ^ s) r):Pk (glT gs) Fs Cs k 13 [N s,t,r] M=.exc 2 M:=by
 have e1:=f4 (k:=k-1) (by omega) h1 h5 M;have e2:=qFX (k:=k-1) (by omega) h1 h5 i h hl;have e3:=f2 (k:=k-1) (by omega) h5 M;have e4:=hr M (k-1) (by omega);obtain⟨ts,i1,_⟩:=id i;refine qV (σ:=[some (N s),some t,some r]) (q:=.exc 2 M) t13 ⟨rfl,by decide⟩ (by omega) rfl rfl ?_ (qg 2)
 change pxs _ _ _ (.cons _ _) _ _=_
 repeat' first|with_reducible (first|exact e1|exact e2|exact e3|exact e4|exact nT isF|exact qBX|exact qS|exact qd|exact zS|exact qO|exact isF|assumption|apply qD|apply qX|apply JQ|apply t_1|apply QH|apply l8)|assumption|rfl
theorem qCI(hk:8<=k){M:Mem}{t r:T}{s:Nat}(h1:1<=s)(h5:s<=5)(ht:NoN s t):Pk (glT gs) Fs Cs k 13 [N s,t,r] M=.exc 3 M:=by
 have e1:=f4 (k:=k-1) (by omega) h1 h5 M;have e2:=qF7 (k:=k-1) (by omega) (ht M);refine qV (σ:=[some (N s),some t,some r]) (q:=.exc 3 M) t13 ⟨rfl,by decide⟩ (by omega) rfl rfl ?_ (qg 3)
 change pxs _ _ _ (.cons _ _) _ _=_
 exact l8 (qD qS qO) e1 (qE9 (qD qS (qD qd qO)) e2)
theorem S7(hk:8<=k){M:Mem}{t:T}{s:Nat}(h1:1<=s)(h5:s<=5)(ht:NoN s t):Pk (glT gs) Fs Cs k 15 [N s,t] M=.exc 3 M:=by
 have e1:=f4 (k:=k-1) (by omega) h1 h5 M;have e2:=qF7 (k:=k-1) (by omega) (ht M);refine qV (σ:=[some (N s),some t]) (q:=.exc 3 M) t15 ⟨rfl,by decide⟩ (by omega) rfl rfl ?_ (qg 3)
 change pxs _ _ _ (.cons _ _) _ _=_
 exact l8 (qD qS qO) e1 (qE9 (qD qS (qD qd qO)) e2)
theorem ZZ(hk:8<=k){M:Mem}{t:T}{s:Nat}(h1:1<=s)(h5:s<=5)(ht:NoN s t):Pk (glT gs) Fs Cs k 22 [N s,t] M=.exc 3 M:=by
 have e1:=f4 (k:=k-1) (by omega) h1 h5 M;have e2:=qF7 (k:=k-1) (by omega) (ht M);refine qV (σ:=[some (N s),some t,none,none,none]) (q:=.exc 3 M) t22 ⟨rfl,by decide⟩ (by omega) rfl rfl ?_ (qg 3)
 change pxs _ _ _ (.cons _ _) _ _=_
 exact l8 (qD qS qO) e1 (qE9 (qD qS (qD qd qO)) e2)
theorem Jp(hk:1<=k){M:Mem}{a t:T}{c:Nat}(e:Pk (glT gs) Fs Cs (k-1) 22 [a,t] M=.exc c M):Pk (glT gs) Fs Cs k 21 [a,t] M=.exc c M:=by
 rw[qm t21 ⟨rfl,by decide⟩ (by omega),b21,show Cs.getD 21 []=[] from rfl];simp[e,bind_exc,qg]
theorem noS(hk:5<=k){a:T}(h:Kn a)(hs:szT a=false)(t r:T)(M:Mem):Pk (glT gs) Fs Cs k 9 [a,t] M=.exc 1 M/\Pk (glT gs) Fs Cs k 13 [a,t,r] M=.exc 1 M/\Pk (glT gs) Fs Cs k 15 [a,t] M=.exc 1 M/\Pk (glT gs) Fs Cs k 16 [a] M=.exc 1 M/\Pk (glT gs) Fs Cs k 21 [a,t] M=.exc 1 M/\Pk (glT gs) Fs Cs k 22 [a,t] M=.exc 1 M:=by
 have e:=z4 (k:=k-1) (by omega) h hs M;have u:∀k,4<=k->Pk (glT gs) Fs Cs k 22 [a,t] M=.exc 1 M:=λk hk=>by
  have e:=z4 (k:=k-1) (by omega) h hs M;refine qV (σ:=[some a,some t,none,none,none]) (q:=.exc 1 M) t22 ⟨rfl,by decide⟩ (by omega) rfl rfl ?_ (qg 1)
  change pxs _ _ _ (.cons _ _) _ _=_
  repeat' first|with_reducible (first|exact qS|exact qO|assumption|apply qD|apply qE9)|assumption
 refine⟨qV (σ:=[some a,some t]) (q:=.exc 1 M) t9 ⟨rfl,by decide⟩ (by omega) rfl rfl ?_ (qg 1),qV (σ:=[some a,some t,some r]) (q:=.exc 1 M) t13 ⟨rfl,by decide⟩ (by omega) rfl rfl ?_ (qg 1),qV (σ:=[some a,some t]) (q:=.exc 1 M) t15 ⟨rfl,by decide⟩ (by omega) rfl rfl ?_ (qg 1),qV (σ:=[some a,none]) (q:=.exc 1 M) t16 ⟨rfl,by decide⟩ (by omega) rfl rfl ?_ (qg 1),Jp (by omega) (u (k-1) (by omega)),u k (by omega)⟩
 all_goals
  change pxs _ _ _ (.cons _ _) _ _=_
  repeat' first|with_reducible (first|exact qS|exact qO|assumption|apply qD|apply qE9)|assumption
end
end My
namespace My
open PySem PySem.Spec PI
open L2 (V)
open Nt (Stp Sg OkS OkR qx)
def Rt(R:PR (TB×Mem))(M:Mem):Option Nat->Prop
 |none=>∃v f,R=.ok ((v,f),M)
 |some c=>R=.exc c M
section
variable{k:Nat}
theorem Q5(hk:1<=k){a t r:T}{M:Mem}{o:Option Nat}{d f:Nat}{ts:List T}(hc:(d=0/\f=9/\ts=[a,t])\/(d=1/\f=13/\ts=[a,t,r])\/(d=2/\f=15/\ts=[a,t])\/(d=3/\f=16/\ts=[a])\/(d=4/\f=21/\ts=[a,t])\/(d=5/\f=22/\ts=[a,t]))(h:Rt (Pk (glT gs) Fs Cs (k-1) f ts M) M o):Rt (Pk (glT gs) Fs Cs k 31 [N d,a,t,r] M) M o:=by
 cases o with
 |none=>
  obtain⟨v,g,e⟩:=h;refine⟨v,g,qV (σ:=[some (N d),some a,some t,some r]) (q:=.ok (.rt (v,g),M)) t31 ⟨rfl,by decide⟩ (by omega) rfl rfl ?_ (qA rfl)⟩;rcases hc with⟨rfl,rfl,rfl⟩|⟨rfl,rfl,rfl⟩|⟨rfl,rfl,rfl⟩|⟨rfl,rfl,rfl⟩|⟨rfl,rfl,rfl⟩|⟨rfl,rfl,rfl⟩
  all_goals
   change pxs _ _ _ (.cons _ _) _ _=_
   repeat' first|with_reducible (first|exact qS|exact qd|exact zS|exact zz|exact jK|exact qO|exact Zq .. | assumption|apply qD|apply zG|apply t_1|apply f_0|apply QH|apply qIV)|assumption|exact dT rfl|exact dF (by decide)
 |some c=>
  refine qV (σ:=[some (N d),some a,some t,some r]) (q:=.exc c M) t31 ⟨rfl,by decide⟩ (by omega) rfl rfl ?_ (qg c);have e:Pk (glT gs) Fs Cs (k-1) f ts M=.exc c M:=h;rcases hc with⟨rfl,rfl,rfl⟩|⟨rfl,rfl,rfl⟩|⟨rfl,rfl,rfl⟩|⟨rfl,rfl,rfl⟩|⟨rfl,rfl,rfl⟩|⟨rfl,rfl,rfl⟩
  all_goals
   change pxs _ _ _ (.cons _ _) _ _=_
   repeat' first|with_reducible (first|exact qS|exact qd|exact zS|exact zz|exact jK|exact qO|exact Zq .. | assumption|apply qD|apply zG|apply t_1|apply f_0|apply QH|apply qIz)|assumption|exact dT rfl|exact dF (by decide)
theorem qBp(hk:1<=k){a t r:T}{M:Mem}{o:Option Nat}(h:Rt (Pk (glT gs) Fs Cs (k-1) 9 [a,t] M) M o):Rt (Pk (glT gs) Fs Cs k 31 [N 0,a,t,r] M) M o:=Q5 hk (.inl ⟨rfl,rfl,rfl⟩) h
theorem qCS(hk:1<=k){a t r:T}{M:Mem}{o:Option Nat}(h:Rt (Pk (glT gs) Fs Cs (k-1) 13 [a,t,r] M) M o):Rt (Pk (glT gs) Fs Cs k 31 [N 1,a,t,r] M) M o:=Q5 hk (.inr (.inl ⟨rfl,rfl,rfl⟩)) h
theorem qCL(hk:1<=k){a t r:T}{M:Mem}{o:Option Nat}(h:Rt (Pk (glT gs) Fs Cs (k-1) 15 [a,t] M) M o):Rt (Pk (glT gs) Fs Cs k 31 [N 2,a,t,r] M) M o:=Q5 hk (.inr (.inr (.inl ⟨rfl,rfl,rfl⟩))) h
theorem qCV(hk:1<=k){a t r:T}{M:Mem}{o:Option Nat}(h:Rt (Pk (glT gs) Fs Cs (k-1) 16 [a] M) M o):Rt (Pk (glT gs) Fs Cs k 31 [N 3,a,t,r] M) M o:=Q5 hk (.inr (.inr (.inr (.inl ⟨rfl,rfl,rfl⟩)))) h
theorem qCU(hk:1<=k){a t r:T}{M:Mem}{o:Option Nat}(h:Rt (Pk (glT gs) Fs Cs (k-1) 21 [a,t] M) M o):Rt (Pk (glT gs) Fs Cs k 31 [N 4,a,t,r] M) M o:=Q5 hk (.inr (.inr (.inr (.inr (.inl ⟨rfl,rfl,rfl⟩))))) h
theorem qC4(hk:1<=k){a t r:T}{M:Mem}{o:Option Nat}(h:Rt (Pk (glT gs) Fs Cs (k-1) 22 [a,t] M) M o):Rt (Pk (glT gs) Fs Cs k 31 [N 5,a,t,r] M) M o:=Q5 hk (.inr (.inr (.inr (.inr (.inr (⟨rfl,rfl,rfl⟩)))))) h
noncomputable def kd:Option Nat->List T
 |none=>[]
 |some c=>[.v (.bl (decide (c=1))),.v (.bl (decide (c=3))),.v (.bl (decide (c=2))),.v (.bl true)]
theorem qE0(hk:2<=k){d:Nat}{a t r:T}{M:Mem}{o:Option Nat}(ho:o=none\/o=some 1\/o=some 3\/o=some 2)(h:Rt (Pk (glT gs) Fs Cs (k-1) 31 [N d,a,t,r] M) M o):Pk (glT gs) Fs Cs k 32 [N d,a,t,r] M=.ok ((.lst (kd o),false),M):=by
 rcases ho with rfl|rfl|rfl|rfl
 ·obtain⟨v,f,e⟩:=h;refine qV (q:=.ok (.rt (.lst (kd none),false),M)) t32 ⟨rfl,by decide⟩ (by omega) rfl rfl ?_ (qA rfl)
  change pxs _ _ _ (.cons _ _) [some _,some _,some _,some _,none,none] _=_
  repeat' first|with_reducible (first|exact qS|exact qd|exact zS|exact zz|exact ZE|exact qO|exact ll0|exact QU|assumption|apply qD|apply zo|apply qHC|apply qQ)|((with_reducible apply jL);exact cN rfl)|assumption|exact(Nat.zero_le _)|rfl
 all_goals
  refine qV (q:=.ok (.rt (.lst (kd (some _)),false),M)) t32 ⟨rfl,by decide⟩ (by omega) rfl rfl ?_ (qA rfl)
  change pxs _ _ _ (.cons _ _) [some _,some _,some _,some _,none,none] _=_
  repeat' first|with_reducible (first|exact qS|exact qd|exact zS|exact zz|exact ZE|exact qO|exact ll0|exact QU|assumption|apply qD|apply zo|apply qGv|apply qQ)|((with_reducible apply jL);exact cN rfl)|assumption|exact h|exact(Nat.zero_le _)|exact(by decide)|rfl
noncomputable def du(d:Nat)(a b c:Bool):Option Nat:=if a=false then some 1 else if b=false/\d≠0/\d≠3 then some 3 else if c=false/\d=1 then some 2 else none
theorem due(hk:1<=k){d:Nat}(hd:d<6)(a b c:Bool)(M:Mem):Pk (glT gs) Fs Cs k 33 [N d,.lst [.v (.bl a),.v (.bl b),.v (.bl c)]] M=.ok ((.lst (kd (du d a b c)),true),M):=by
 have key:pxs (glT gs) (Pk (glT gs) Fs Cs (k-1)) [] b33 [some (N d),some (.lst [.v (.bl a),.v (.bl b),.v (.bl c)])] M=.ok (.rt (.lst (kd (du d a b c)),true),M):=by
  rcases d with _|_|_|_|_|_|d
  all_goals first|exact absurd hd (wu (vA 6 d))|(cases a<;>cases b<;>cases c<;>rfl)
 exact qV t33 ⟨rfl,by decide⟩ (by omega) rfl rfl key (qA rfl)
structure Gv(s:Nat)(a t r:T)(b1 b2 b3:Bool):Prop where
 sz:(b1=true/\a=N s)\/(b1=false/\Kn a/\szT a=false)
 nt:(b2=true/\∃Ns:List (List Stp),t=.lst (Ns.map λL=>.lst (SL L))/\(∀L∈Ns,OkR (2 ^ s) L)/\Ns.length<=40)\/(b2=false/\NoN s t)
 rw:(b3=true/\∃x,r=NL x/\Sg (2 ^ s) x)\/(b3=false/\NoR (2 ^ s) r)
theorem qHi(hk:15<=k){s d:Nat}(h1:1<=s)(h5:s<=5)(hd:d<6){a t r:T}{b1 b2 b3:Bool}(g:Gv s a t r b1 b2 b3){M:Mem}(hW:WfM M):Rt (Pk (glT gs) Fs Cs k 31 [N d,a,t,r] M) M (du d b1 b2 b3):=by
 have hc:d=0\/d=1\/d=2\/d=3\/d=4\/d=5:=by
  rcases d with _|_|_|_|_|_|d
  ·exact .inl rfl
  ·exact .inr (.inl rfl)
  ·exact .inr (.inr (.inl rfl))
  ·exact .inr (.inr (.inr (.inl rfl)))
  ·exact .inr (.inr (.inr (.inr (.inl rfl))))
  ·exact .inr (.inr (.inr (.inr (.inr rfl))))
  ·exact absurd hd (wu (vA 6 d))
 rcases g.sz with⟨rfl,rfl⟩|⟨rfl,ka,za⟩
 ·rcases g.nt with⟨rfl,Ns,rfl,hN,lN⟩|⟨rfl,hn⟩
  ·have i:IsN M (.lst (Ns.map λL=>.lst (SL L))) Ns:=IsN.lst M Ns;rcases hc with rfl|rfl|rfl|rfl|rfl|rfl
   ·refine qBp (by omega) ?_;rw[show du 0 true true b3=none by unfold du;simp];obtain⟨ts,i1,i2⟩:=i;exact⟨_,_,qFc (k:=k-1) (by omega) h1 h5 i1 (by rw[qE i2];omega) (f:=λ_=>true) λu hu=>by
     obtain⟨L,hL,iu⟩:=JR i2 u hu;exact RB.good iu (hN L hL)⟩
   ·refine qCS (by omega) ?_;rcases g.rw with⟨rfl,x,rfl,hx⟩|⟨rfl,hr⟩
    ·rw[show du 1 true true true=none by unfold du;simp];exact⟨_,_,qDp (k:=k-1) (by omega) hW h1 h5 i hN lN hx⟩
    ·rw[show du 1 true true false=some 2 by unfold du;simp];exact qCg (k:=k-1) (by omega) h1 h5 i hN lN hr
   ·refine qCL (by omega) ?_;rw[show du 2 true true b3=none by unfold du;simp];exact⟨_,_,turned (k:=k-1) (by omega) h1 h5 i hN lN⟩
   ·refine qCV (by omega) ?_;rw[show du 3 true true b3=none by unfold du;simp];exact⟨_,_,qHb (k:=k-1) (by omega) h1 h5 M⟩
   ·refine qCU (by omega) ?_;rw[show du 4 true true b3=none by unfold du;simp];obtain⟨b,e⟩:=qDY (k:=k-1) (by omega) hW h1 h5 i hN lN;exact⟨_,_,e⟩
   ·refine qC4 (by omega) ?_;rw[show du 5 true true b3=none by unfold du;simp];rcases qAv (k:=k-1) (by omega) hW h1 h5 i hN lN with e|⟨x,f,e⟩
    ·exact⟨_,_,e⟩
    ·exact⟨_,_,e⟩
  ·rcases hc with rfl|rfl|rfl|rfl|rfl|rfl
   ·refine qBp (by omega) ?_;rw[show du 0 true false b3=none by unfold du;simp];exact⟨_,_,hn M (k-1) (by omega)⟩
   ·refine qCS (by omega) ?_;rw[show du 1 true false b3=some 3 by unfold du;simp];exact qCI (k:=k-1) (by omega) h1 h5 hn
   ·refine qCL (by omega) ?_;rw[show du 2 true false b3=some 3 by unfold du;simp];exact S7 (k:=k-1) (by omega) h1 h5 hn
   ·refine qCV (by omega) ?_;rw[show du 3 true false b3=none by unfold du;simp];exact⟨_,_,qHb (k:=k-1) (by omega) h1 h5 M⟩
   ·refine qCU (by omega) ?_;rw[show du 4 true false b3=some 3 by unfold du;simp];exact Jp (k:=k-1) (by omega) (ZZ (k:=k-1-1) (by omega) h1 h5 hn)
   ·refine qC4 (by omega) ?_;rw[show du 5 true false b3=some 3 by unfold du;simp];exact ZZ (k:=k-1) (by omega) h1 h5 hn
 ·obtain⟨x0,x1,x2,x3,x4,x5⟩:=noS (k:=k-1) (by omega) ka za t r M;rw[show du d false b2 b3=some 1 by unfold du;simp];rcases hc with rfl|rfl|rfl|rfl|rfl|rfl
  ·exact qBp (by omega) x0
  ·exact qCS (by omega) x1
  ·exact qCL (by omega) x2
  ·exact qCV (by omega) x3
  ·exact qCU (by omega) x4
  ·exact qC4 (by omega) x5
theorem K6(d:Nat)(a b c:Bool):du d a b c=none\/du d a b c=some 1\/du d a b c=some 3\/du d a b c=some 2:=by
 unfold du;split
 ·simp
 ·split
  ·simp
  ·split<;>simp
end
end My
namespace My
open PySem PySem.Spec PI
open L2 (V)
open Nt (Stp Sg OkS OkR qx)
def Bd(i:Int):Prop:=i.natAbs<2 ^ 110
theorem Bd.log{i:Int}(h:Bd i):i.natAbs.log2<120:=by
 rcases Nat.eq_zero_or_pos i.natAbs with z|z
 ·rw[z];decide
 ·have:=(Nat.log2_lt (by omega)).mpr h;omega
theorem Bd.len{i:Int}(h:Bd i):(Str.ofString (toString i)).length<=121:=by
 rw[ofString_length];exact int_text_length_le (by decide) h.log
def Fit(d:PyData)(n:Nat):Prop:=d.showable=true/\d.shown.length<=n
theorem qAV(ts:List Str):(tupleText ts).length<=piled ts+3:=by
 unfold tupleText;rw[Str.length_append,Str.length_append];have e1:(("(":String):Str).length=1:=rfl;have e2:((if ts.length==1 then ",)" else ")":String):Str).length<=2:=by split<;>decide
 cases ts with
 |nil=>
  have:(Str.join ", " []).length=0:=rfl;omega
 |cons t r=>
  have:=join_length_add (t::r) (by simp);omega
theorem d9:∀(ts:List Str) (k:Nat) (acc:Str),(textFrom k acc ts).length<=acc.length+piled ts
 | [],k,acc=>by show acc.length<=_;rw[piled_nil];omega
 |t::r,k,acc=>by
  have:=d9 r (k+1) (acc++(if k>0 then ", " else "":String)++t);show (textFrom (k+1) (acc++(if k>0 then ", " else "":String)++t) r).length<=_;rw[Str.length_append,Str.length_append]at this;rw[piled_cons];have e:((if k>0 then ", " else "":String):Str).length<=2:=by split<;>decide
  omega
theorem JV:∀{ds:List PyData}{n:Nat},(∀d∈ds,Fit d n)->PyData.showableAll ds=true/\piled (PyData.shownAll ds)<=ds.length*(n+2)
 | [],n,h=>⟨rfl,Nat.zero_le _⟩
 |d::r,n,h=>by
  obtain⟨a,b⟩:=JV (ds:=r) λx hx=>h x (by simp[hx]);obtain⟨c,e⟩:=h d (by simp);refine⟨by show (d.showable&&PyData.showableAll r)=true;rw[c,a];rfl,?_⟩;show piled (d.shown::PyData.shownAll r)<=_;rw[piled_cons,List.length_cons,Nat.succ_mul];omega
theorem qBW{ds:List PyData}{n m:Nat}(h:∀d∈ds,Fit d n)(hm:ds.length*(n+2)+3<=m):Fit (.tuple ds) m:=by
 obtain⟨a,b⟩:=JV h;refine⟨a,?_⟩;show (tupleText (PyData.shownAll ds)).length<=_;have c:=qAV (PyData.shownAll ds);omega
theorem qCA{ds:List PyData}{n m:Nat}(h:∀d∈ds,Fit d n)(hm:ds.length*(n+2)+3<=m):Fit (.list ds) m:=by
 obtain⟨a,b⟩:=JV h;refine⟨a,?_⟩;show (listText (PyData.shownAll ds)).length<=_;unfold listText;rw[Str.length_append];have c:=d9 (PyData.shownAll ds) 0 "[";have e1:(("[":String):Str).length=1:=rfl;have e2:(("]":String):Str).length=1:=rfl;omega
theorem qCn{i:Int}(h:Bd i):Fit (.int i) 200:=⟨vF (by have:=h.log;omega),Nat.le_trans h.len (by decide)⟩
theorem Fit.mono{d:PyData}{n m:Nat}(h:Fit d n)(l:n<=m):Fit d m:=⟨h.1,Nat.le_trans h.2 l⟩
theorem D5{f:Mem->T->Option PyData}{n:Nat}:∀{ts:List T},(∀t∈ts,∃d,(∀M:Mem,f M t=some d)/\Fit d n)->∃ds,(∀M:Mem,QV (f M) ts=some ds)/\ds.length=ts.length/\∀d∈ds,Fit d n
 | [],_=>⟨[],λ_=>rfl,rfl,λd hd=>by simp at hd⟩
 |t::ts,h=>by
  obtain⟨d,e1,f1⟩:=h t (by simp);obtain⟨ds,e2,l2,f2⟩:=D5 (ts:=ts) λt ht=>h t (by simp[ht]);refine⟨d::ds,λM=>?_,by simp[l2],λx hx=>?_⟩
  ·rw[QV,e1 M,Option.bind_some,e2 M];rfl
  ·rcases List.mem_cons.mp hx with rfl|hx
   ·exact f1
   ·exact f2 x hx
def Sh(n m:Nat)(t:T):Prop:=∃d,(∀M:Mem,L6 M n t=some d)/\Fit d m
theorem Sh.lst{n m m':Nat}{ts:List T}(h:∀t∈ts,Sh n m t)(hm:ts.length*(m+2)+3<=m'):Sh (n+1) m' (.lst ts):=by
 obtain⟨ds,e,l,f⟩:=D5 (f:=λM=>L6 M n) h;exact⟨.list ds,λM=>by show (QV (L6 M n) ts).map _=_;rw[e M];rfl,qCA f (by rw[l];exact hm)⟩
theorem Sh.tup{n m m':Nat}{ts:List T}(h:∀t∈ts,Sh n m t)(hm:ts.length*(m+2)+3<=m'):Sh (n+1) m' (.tup ts):=by
 obtain⟨ds,e,l,f⟩:=D5 (f:=λM=>L6 M n) h;exact⟨.tuple ds,λM=>by show (QV (L6 M n) ts).map _=_;rw[e M];rfl,qBW f (by rw[l];exact hm)⟩
theorem Sh.mono{n m m':Nat}{t:T}(h:Sh n m t)(l:m<=m'):Sh n m' t:=by obtain⟨d,e,f⟩:=h;exact⟨d,e,f.mono l⟩
theorem qDC{x:V}{d:PyData}(e:qAg x=some d){m:Nat}(f:Fit d m)(n:Nat):Sh n m (.v x):=⟨d,λM=>by cases n<;>exact e,f⟩
theorem qIj{x:Nat}(h:x<=1000):Bd (x:Int):=Nat.lt_of_le_of_lt (by simpa using h) (by decide)
theorem qEz{i:Int}(h:Bd i)(n:Nat):Sh n 200 (.v (.int i)):=qDC rfl (qCn h) n
theorem A7{x:Nat}(h:x<=1000)(n:Nat):Sh n 200 (N x):=qEz (qIj h) n
theorem Zj(n:Nat):Sh n 200 (.v .non):=qDC rfl ⟨rfl,by decide⟩ n
theorem qGA(b:Bool)(n:Nat):Sh n 200 (.v (.bl b)):=qDC rfl ⟨rfl,by cases b<;>decide⟩ n
theorem qI5(n:Nat):Sh (n+1) 200 (.ob (.dct [])):=⟨.dict [],λ_=>rfl,rfl,by decide +kernel⟩
theorem qIB{y:Str}(h:y.length<=100)(hy:∀c∈y.cps.toList,c<16 ^ 8)(n:Nat):Sh n 1100 (.v (.str y)):=qDC (d:=.str y) rfl ⟨rfl,by
 show (reprText y).length<=_;have:=StrLaws.reprText_len y hy;omega⟩ n
theorem r9{p:T->Prop}{a:T}(h1:p a):∀t∈[a],p t:=λt ht=>by rw[wM.mp ht];exact h1
theorem qFE{p:T->Prop}{a b:T}(h1:p a)(h2:p b):∀t∈[a,b],p t:=λt ht=>by
 simp only[List.mem_cons,wI,or_false]at ht;rcases ht with rfl|rfl;exact h1;exact h2
theorem qHg{p:T->Prop}{a b c:T}(h1:p a)(h2:p b)(h3:p c):∀t∈[a,b,c],p t:=λt ht=>by
 simp only[List.mem_cons,wI,or_false]at ht;rcases ht with rfl|rfl|rfl;exact h1;exact h2;exact h3
theorem qGj{M:Mem}{t:T}{n:Nat}(h:Sh 5 n t)(hn:n<=16000000):∃x:Str,∀M:Mem,zg M .repr [t]=some (.v (.str x),true):=by
 obtain⟨d,e,f⟩:=h;refine⟨d.shown,λM=>?_⟩;show ((r6 M t).bind P7).map _=_;rw[show r6 M t=some d from e M,Option.bind_some];unfold P7;rw[if_pos ⟨f.1,Nat.le_trans f.2 (by rw[sizeLine_eq];omega)⟩];rfl
theorem qGY(b:Bool):Kn (.v (.bl b)):=⟨"bool",λ_=>rfl⟩
theorem qID:Kn (.v .non):=⟨"NoneType",λ_=>rfl⟩
theorem qGa(x:Str):Kn (.v (.str x)):=⟨"str",λ_=>rfl⟩
theorem qGI(i:Int):Kn (.v (.int i)):=⟨"int",λ_=>rfl⟩
theorem qFo(ts:List T):Kn (.lst ts):=⟨"list",λ_=>rfl⟩
theorem qI0:Kn (.ob (.dct [])):=⟨"dict",λ_=>rfl⟩
noncomputable def szs:List T:=[N 0,N 6,.v (.int (-1)),.v (.bl true),.v .non,.v (.str "2"),.lst [N 2],N 1000000000000000000000000000000]
theorem qC1:∀t∈szs,Kn t/\szT t=false/\Sh 4 1100 t:=by
 intro t ht;simp only[szs,List.mem_cons,wI,or_false]at ht;rcases ht with rfl|rfl|rfl|rfl|rfl|rfl|rfl|rfl
 ·exact⟨Zl _,rfl,(A7 (by decide) _).mono (by decide)⟩
 ·exact⟨Zl _,rfl,(A7 (by decide) _).mono (by decide)⟩
 ·exact⟨qGI _,rfl,(qEz (show (-1:Int).natAbs<2 ^ 110 by decide) _).mono (by decide)⟩
 ·exact⟨qGY _,rfl,(qGA _ _).mono (by decide)⟩
 ·exact⟨qID,rfl,(Zj _).mono (by decide)⟩
 ·exact⟨qGa _,rfl,qIB (by decide +kernel) (by decide +kernel) _⟩
 ·exact⟨qFo _,rfl,Sh.lst (r9 (A7 (by decide) _)) (by decide)⟩
 ·exact⟨Zl _,rfl,(qEz (show ((1000000000000000000000000000000:Nat):Int).natAbs<2 ^ 110 by decide) _).mono (by decide)⟩
section
variable{k:Nat}
def qIh(k nb s:Nat)(M:Mem):Prop:=∃a b f M',Pk (glT gs) Fs Cs k 28 [.cell nb,N s] M=.ok ((.tup [a,.v (.bl b)],f),M')/\Kept nb M M'/\Sh 4 1100 a/\((b=true/\a=N s)\/(b=false/\Kn a/\szT a=false))
theorem qEP(hk:2<=k){M:Mem}{nb s:Nat}(g:Q3 M nb)(h1:1<=s)(h5:s<=5):qIh k nb s M:=by
 obtain⟨w,M1,e1,hw,k1⟩:=out (k:=k-1) (by omega) g (m:=3) (by decide);by_cases hz:0<w
 ·have z:pxs (glT gs) (Pk (glT gs) Fs Cs (k-1)) [] b28 [some (.cell nb),some (N s)] M=.ok (.rt (.tup [N s,.v (.bl true)],true),M1):=by
   change pxs _ _ _ (.cons _ _) [some _,some _] _=_
   repeat' first|with_reducible (first|exact qS|exact qd|exact jK|exact S4|exact F5|exact R9|exact qO|exact ll1|exact ll2|exact Qs .. | assumption|apply qD|apply qX|apply zx|apply zm|apply zG|apply zo|apply Ji|apply t_1|apply f_0|apply QH|apply qQ|apply qFe)|assumption|exact dT hz|rfl
  exact⟨N s,true,true,M1,qV t28 ⟨rfl,by decide⟩ (by omega) rfl rfl z (qA k1.len),k1,(A7 (by omega) _).mono (by decide),.inl ⟨rfl,rfl⟩⟩
 ·obtain⟨d,M2,e2,hd,k2⟩:=out (k:=k-1) (by omega) k1.good (m:=8) (by decide);have ht:szs[d]?=some szs[d]:=wB (show d<szs.length from hd);obtain⟨kt,st,sh⟩:=qC1 szs[d] (List.mem_of_getElem? ht);have kk:=k1.trans k2;have z:pxs (glT gs) (Pk (glT gs) Fs Cs (k-1)) [] b28 [some (.cell nb),some (N s)] M=.ok (.rt (.tup [szs[d],.v (.bl false)],(szs[d]).lf&&true),M2):=by
   have sb:qr M1 .sub (N 0) (N 1)=some (.v (.int (-1)),true):=rfl;have pw:qr M1 .pow (N 10) (N 30)=some (N 1000000000000000000000000000000,true):=by rw[qBR (by decide)]
   generalize szs[d]=t at *
   change pxs _ _ _ (.cons _ _) [some _,some _] _=_
   repeat' first|with_reducible (first|exact ll8|exact qS|exact qd|exact jK|exact S4|exact F5|exact R9|exact qO|exact ll1|exact ll2|exact Qs .. | assumption|apply qD|apply qX|apply zx|apply zm|apply zG|apply zo|apply Ji|apply t_1|apply f_0|apply QH|apply qQ|apply qFe)|assumption|exact dF hz|exact ht|rfl
  exact⟨szs[d],false,_,M2,qV t28 ⟨rfl,by decide⟩ (by omega) rfl rfl z (qA kk.len),kk,sh,.inr ⟨rfl,kt,st⟩⟩
end
end My
namespace My
open PySem PySem.Spec PI
open L2 (V)
open Nt (Stp Sg OkS OkR qx)
noncomputable abbrev qHI:S:=(.asg (.name 2) (.call 27 (.cons (.var 0) (.cons (.var 1) .nil))))
noncomputable abbrev qF2:S:=(.ifs (.cmp .gt (.call 25 (.cons (.var 0) (.cons (nE 3) .nil))) (nE 0)) (.cons (.ret (.tup (.cons (.var 2) (.cons (.cst (V.bl true)) .nil)))) .nil) .nil)
noncomputable abbrev qFz:S:=(.asg (.name 3) (.bin .shl (nE 1) (.var 1)))
noncomputable abbrev qG1:S:=(.asg (.name 4) (.call 25 (.cons (.var 0) (.cons (.var 3) .nil))))
noncomputable abbrev qGb:S:=(.asg (.name 5) (.lst (.cons (.blt .tuple (.cons (.var 2) .nil)) (.cons (.cst V.non) (.cons (.bin .add (.var 2) (.comp (.rng1 (.bin .sub (nE 41) (.blt .len (.cons (.var 2) .nil)))) [none] (.name 0) .nil (.lst .nil))) (.cons (.bin .add (.sl (.var 2) .nil (.cons (nE 39) .nil)) (.lst (.cons (.tup (.cons (.tup (.cons (nE 0) (.cons (nE 1) .nil))) .nil)) .nil))) .nil))))))
noncomputable abbrev qGZ:S:=(.for_ (.name 6) (.list (.lst (.cons (.lst (.cons (.tup (.cons (.var 4) (.cons (.var 4) .nil))) .nil)) (.cons (.lst (.cons (.tup (.cons (.var 4) (.cons (.var 3) .nil))) .nil)) (.cons (.lst (.cons (.tup (.cons (nE 0) (.cons (nE 1) .nil))) (.cons (.tup (.cons (nE 1) (.cons (nE 0) .nil))) .nil))) (.cons (.lst (.cons (.tup (.cons (nE 0) (.cons (.cst (V.bl true)) .nil))) .nil)) .nil)))))) qFC)
noncomputable abbrev qG3:S:=(.for_ (.name 6) (.list (.lst (.cons (.cst V.non) (.cons (nE 7) (.cons (.lst (.cons (.cst V.non) .nil)) (.cons (.lst (.cons (.lst (.cons (nE 0) (.cons (nE 1) .nil))) .nil)) (.cons (.lst (.cons (.tup (.cons (nE 0) .nil)) .nil)) (.cons (.lst (.cons (.tup (.cons (nE 0) (.cons (nE 1) (.cons (nE 0) .nil)))) .nil)) (.cons (.lst (.cons (.tup (.cons (.bin .sub (nE 0) (nE 1)) (.cons (nE 0) .nil))) .nil)) (.cons (.lst (.cons (.tup (.cons (.cst (V.str "0")) (.cons (nE 1) .nil))) .nil)) (.cons (.lst (.cons (.tup (.cons (.lst (.cons (nE 0) .nil)) (.cons (nE 1) .nil))) .nil)) (.cons (.lst (.cons (.tup (.cons (nE 1) (.cons .dnew .nil))) .nil)) .nil)))))))))))) n9)
noncomputable abbrev qGU:S:=(.ret (.tup (.cons (.idx (.var 5) (.call 25 (.cons (.var 0) (.cons (nE 18) .nil)))) (.cons (.cst (V.bl false)) .nil))))
theorem qAs:b29=(.cons qHI (.cons qF2 (.cons qFz (.cons qG1 (.cons qGb (.cons qGZ (.cons qG3 (.cons qGU .nil)))))))):=rfl
theorem V7(n:Nat):OkR n []:=⟨λp hp=>(by cases hp),wl,Nat.zero_le _⟩
theorem QG{n:Nat}:∀{ts:List T},(∀t∈ts,t.und n=true)->T.unds n ts=true
 | [],_=>by rw[T.unds]
 |t::ts,h=>by rw[T.unds,h t (by simp),QG λx hx=>h x (by simp[hx])];rfl
theorem qJC{M:Mem}(a b:Nat):qr M .sub (N a) (N b)=some (.v (.int ((a:Int)-b)),true):=rfl
theorem qCf{M:Mem}(a b:Nat)(ha:a<=1000)(hb:b<=1000):qBy (.v (.int ((a:Int)-b)))=some ((List.range (a-b)).map N):=by
 unfold qBy;dsimp only;rw[if_pos (by omega),show ((a:Int)-b).toNat=a-b by omega,G8]
theorem qEN{n:Int}:∀(ts:List T) (U:List Int) (x:T),sv n x=false->gd n U (ts++[x])=false:=by
 intro ts U x h;cases e:gd n U (ts++[x]) with
 |false=>rfl
 |true=>
  exfalso
  induction ts generalizing U with
  |nil=>
   rw[List.nil_append]at e;unfold gd at e;split at e
   ·rw[h]at e;cases e
   ·cases e
  |cons t ts ih=>
   rw[List.cons_append]at e;unfold gd at e;split at e
   ·rw[Bool.and_eq_true]at e;exact ih _ e.2
   ·cases e
theorem qEO(n:Nat)(L:List Stp):(T.lst (SL L)).und n=true:=by rw[T.und];exact JF _ _ (qAE L)
theorem B7{M A C:Mem}{t:T}{f:Bool}(hA:A.length=M.length)(hW:WfM A)(ht:t.und 0=true):∃f',JB M.length (.ok (.rt (t,f),A++C))=.ok ((t,f'),A):=by
 show ∃f',PI.finish M.length _ _=_;unfold PI.finish;rw[<-hA];by_cases hb:(A++C).length=A.length
 ·have:C=[]:=List.length_eq_zero_iff.mp (by simp at hb;simp[hb]);subst this;rw[if_pos hb,List.append_nil];exact⟨_,rfl⟩
 ·rw[if_neg hb,List.take_left' rfl,if_pos (show A.all (T.unds A.length)=true from hW)];dsimp only;rw[show qT (A++C) A.length 6 t=some t by unfold qT;rw[if_pos (N1 (Nat.zero_le _) t ht)]];exact⟨_,rfl⟩
structure Rd(n:Nat)(u:T):Prop where
 rb:(∀M,RB M n u true)\/∀M,RB M n u false
 sh:Sh 3 42000 u
 un:u.und 0=true
def Rx(n:Nat)(u:T):Prop:=(∀M,RB M n u false)/\Rd n u
theorem qG2{n:Nat}(hn:n<=100){p:Stp}(h:OkS n p):Sh 2 409 (sp p):=by
 have:=h.1;have:=h.2.1;exact Sh.tup (qFE (A7 (by omega) _) (A7 (by omega) _)) (by simp)
theorem Y8{n:Nat}{L:List Stp}(h:OkR n L)(M:Mem):RB M n (.lst (SL L)) true:=RB.good (.inl rfl) h
theorem qAx{n:Nat}(hn:n<=100){L:List Stp}(h:OkR n L):Rd n (.lst (SL L)):=⟨.inl (Y8 h),Sh.lst (n:=2) (m:=409) (λt ht=>by obtain⟨p,hp,rfl⟩:=wS.mp ht;exact qG2 hn (h.st p hp)) (by rw[i6];have:=h.le;omega),qEO 0 L⟩
theorem U4{n:Nat}{o:T}(hk:Ks o)(hs:sv (n:Int) o=false)(sh:Sh 2 1100 o)(un:o.und 0=true):Rx n (.lst [o]):=by
 have b:∀M,RB M n (.lst [o]) false:=λM=>by
  have:=RB.lst (n:=n) (M:=M) (t:=.lst [o]) (.inl rfl) (r9 hk) (by simp);rw[show gd (n:Int) [] [o]=false from qEN [] [] o hs]at this;exact this
 exact⟨b,.inr b,(Sh.lst (r9 sh) (m':=42000) (by simp)),by rw[T.und,T.unds,un,T.unds];rfl⟩
theorem qGG{n:Nat}{o:T}{ty:String}(e:∀M:Mem,qk M o=some ty)(hn:ty≠"list")(sh:Sh 3 42000 o)(un:o.und 0=true):Rx n o:=by
 have b:∀M,RB M n o false:=λM=>RB.oth (e M) hn;exact⟨b,.inr b,sh,un⟩
theorem u2{a b:T}(ha:a.und 0=true)(hb:b.und 0=true):(T.tup [a,b]).und 0=true:=by rw[T.und,T.unds,ha,T.unds,hb,T.unds];rfl
theorem uv(x:V):(T.v x).und 0=true:=by rw[T.und]
theorem uN(x:Nat):(N x).und 0=true:=uv _
theorem p2{a b:T}(ka:Kn a)(kb:Kn b):Ks (.tup [a,b]):=.pair a b ka kb
theorem s2{a b:T}(ha:Sh 1 207 a)(hb:Sh 1 207 b):Sh 2 1100 (.tup [a,b]):=Sh.tup (qFE ha hb) (by simp)
theorem sN{x:Nat}(h:x<=1000):Sh 1 207 (N x):=(A7 h 1).mono (by decide)
noncomputable def qAc(a n:Nat):List T:=[.lst [.tup [N a,N a]],.lst [.tup [N a,N n]],.lst [.tup [N 0,N 1],.tup [N 1,N 0]],.lst [.tup [N 0,.v (.bl true)]]]
noncomputable def odd2:List T:=[.v .non,N 7,.lst [.v .non],.lst [.lst [N 0,N 1]],.lst [.tup [N 0]],.lst [.tup [N 0,N 1,N 0]],.lst [.tup [.v (.int (-1)),N 0]],.lst [.tup [.v (.str "0"),N 1]],.lst [.tup [.lst [N 0],N 1]],.lst [.tup [N 1,.ob (.dct [])]]]
theorem qEn{a n:Nat}(ha:a<n)(hn:n<=100):∀o∈qAc a n,Rx n o:=by
 intro o ho;simp only[qAc,List.mem_cons,wI,or_false]at ho;rcases ho with rfl|rfl|rfl|rfl
 ·exact U4 (p2 (Zl _) (Zl _)) (by simp[sv,neI,N]) (s2 (sN (by omega)) (sN (by omega))) (u2 (uN _) (uN _))
 ·exact U4 (p2 (Zl _) (Zl _)) (by simp[sv,blw,N]) (s2 (sN (by omega)) (sN (by omega))) (u2 (uN _) (uN _))
 ·have b:∀M,RB M n (.lst [.tup [N 0,N 1],.tup [N 1,N 0]]) false:=λM=>by
   have:=RB.lst (n:=n) (M:=M) (t:=.lst [.tup [N 0,N 1],.tup [N 1,N 0]]) (.inl rfl) (qFE (p2 (Zl _) (Zl _)) (p2 (Zl _) (Zl _))) (by simp);rw[qBa _ _ (by simp),show decide (([]++spI [.tup [N 0,N 1],.tup [N 1,N 0]]:List Int).Nodup)=false from rfl,wj]at this;exact this
  exact⟨b,.inr b,Sh.lst (qFE (s2 (sN (by decide)) (sN (by decide))) (s2 (sN (by decide)) (sN (by decide)))) (by simp),by rw[T.und,T.unds,u2 (uN _) (uN _),T.unds,u2 (uN _) (uN _),T.unds];rfl⟩
 ·exact U4 (p2 (Zl _) (qGY _)) (by simp[sv,blw]) (s2 (sN (by omega)) ((qGA _ _).mono (by decide))) (u2 (uN _) (uv _))
theorem qEH(n:Nat):∀o∈odd2,Rx n o:=by
 intro o ho;simp only[odd2,List.mem_cons,wI,or_false]at ho;rcases ho with rfl|rfl|rfl|rfl|rfl|rfl|rfl|rfl|rfl|rfl
 ·exact qGG (ty:="NoneType") (λ_=>rfl) (by decide) ((Zj _).mono (by decide)) (uv _)
 ·exact qGG (ty:="int") (λ_=>rfl) (by decide) ((A7 (by decide) _).mono (by decide)) (uN _)
 ·exact U4 (.oth _ "NoneType" (λ_=>rfl) (by decide)) rfl ((Zj _).mono (by decide)) (uv _)
 ·exact U4 (.oth _ "list" (λ_=>rfl) (by decide)) rfl (Sh.lst (qFE (A7 (by decide) 1) (A7 (by decide) 1)) (by simp)) (by rw[T.und,T.unds,uN,T.unds,uN,T.unds];rfl)
 ·exact U4 (.len _ (by simp)) rfl (Sh.tup (r9 (A7 (by decide) 1)) (by simp)) (by rw[T.und,T.unds,uN,T.unds];rfl)
 ·exact U4 (.len _ (by simp)) rfl (Sh.tup (qHg (A7 (by decide) 1) (A7 (by decide) 1) (A7 (by decide) 1)) (by simp)) (by rw[T.und,T.unds,uN,T.unds,uN,T.unds,uN,T.unds];rfl)
 ·exact U4 (p2 (qGI _) (Zl _)) rfl (s2 ((qEz (show (-1:Int).natAbs<2 ^ 110 by decide) _).mono (by decide)) (sN (by decide))) (u2 (uv _) (uN _))
 ·exact U4 (p2 (qGa _) (Zl _)) rfl (s2 (qDC (d:=.str "0") rfl ⟨rfl,by decide +kernel⟩ 1) (sN (by decide))) (u2 (uv _) (uN _))
 ·exact U4 (p2 (qFo _) (Zl _)) rfl (s2 (Sh.lst (n:=0) (m:=200) (r9 (A7 (by decide) _)) (by simp)) (sN (by decide))) (u2 (by rw[T.und,T.unds,uN,T.unds];rfl) (uN _))
 ·exact U4 (p2 (Zl _) qI0) (by simp[sv,blw]) (s2 (sN (by decide)) ((qI5 0).mono (by decide))) (u2 (uN _) (by rw[T.und]))
structure Bn(s:Nat)(t:T):Prop where
 no:NoN s t
 sh:Sh 4 1800000 t
 un:t.und 0=true
theorem G4{n:Nat}{ts:List T}(h:∀u∈ts,Rd n u)(hl:ts.length<=41):Sh 4 1800000 (.lst ts):=Sh.lst (λu hu=>(h u hu).sh) (by omega)
theorem qFv{s:Nat}(h1:1<=s)(h5:s<=5){X:List T}(hX:∀u∈X,Rd (2 ^ s) u)(hl:X.length<=40){o:T}(ho:Rx (2 ^ s) o):Bn s (.lst (X++[o])):=by
 have hA:∀u∈X++[o],Rd (2 ^ s) u:=λu hu=>by
  rcases wC.mp hu with z|z
  ·exact hX u z
  ·rw[wM.mp z];exact ho.2
 exact⟨qC6 h1 h5 (by simp;omega) (λM u hu=>(hA u hu).rb.imp (λz=>z M) (λz=>z M)) (λM=>⟨o,by simp,ho.1 M⟩),G4 hA (by simp;omega),by rw[T.und];exact QG λu hu=>(hA u hu).un⟩
section
variable{k:Nat}
theorem apL{A:Mem}{c0 c1 c3 c4:Option T}{rows X:List T}(hX:X=QQ rows none (some 39))(hl:X.length<=100):∀(os P:List T) (o6:Option T),P.length+os.length<=100->∃p6,zQ [] (.name 6) (pxs (glT gs) (Pk (glT gs) Fs Cs k) [1005] n9) os [c0,c1,some (.lst rows),c3,c4,some (.cell A.length),o6] (A++[P])=.ok (.nx [c0,c1,some (.lst rows),c3,c4,some (.cell A.length),p6],A++[P++os.map λo=>.lst (X++[o])])
 | [],P,o6,h=>⟨o6,by rw[List.map_nil,List.append_nil];rfl⟩
 |o::os,P,o6,h=>by
  have sm:Jb (.lst rows) rows none (some 39)=some (.lst X,T.lfs X):=by rw[hX];rfl
  have ad:∀{M:Mem},qr M .add (.lst X) (.lst [o])=some (lT (X++[o])):=λ{M}=>QP (by simp[lim];omega);have ap:j4 (A++[P]) A.length (.lst (X++[o]))=some (A++[P++[.lst (X++[o])]]):=by
   rw[qAP (xs:=P) (by simp) (by simp at h;simp[lim];omega)];simp
  obtain⟨p6,e⟩:=apL (A:=A) (c0:=c0) (c1:=c1) (c3:=c3) (c4:=c4) hX hl os (P++[.lst (X++[o])]) (some o) (by simp at h ⊢;omega);refine⟨p6,?_⟩;rw[zl,show ([c0,c1,some (.lst rows),c3,c4,some (.cell A.length),o6]:TS).set 6 (some o)=[c0,c1,some (.lst rows),c3,c4,some (.cell A.length),some o] from rfl];have body:pxs (glT gs) (Pk (glT gs) Fs Cs k) [1005] n9 [c0,c1,some (.lst rows),c3,c4,some (.cell A.length),some o] (A++[P])=.ok (.nx [c0,c1,some (.lst rows),c3,c4,some (.cell A.length),some o],A++[P++[.lst (X++[o])]]):=by
   change pxs _ _ _ (.cons _ _) [_,_,_,_,_,_,_] _=_
   repeat' first|with_reducible (first|exact ll1|exact zS|exact S8|exact qCa|exact jK|exact qO|exact E6|exact ll1|assumption|apply qD|apply zm|apply zo|apply qCC|apply U9)|assumption|exact sm|exact ad|exact ap|rfl
  rw[body];show zQ _ _ _ _ _ _=_;rw[e,wO];rfl
end
end My
namespace My
open PySem PySem.Spec PI
open L2 (V)
open Nt (Stp Sg OkS OkR qx)
section
variable{k:Nat}
noncomputable def E8(R E X:List T):List T:=[.tup R,.v .non,.lst (R++E),.lst (X++[.tup [.tup [N 0,N 1]]])]
noncomputable def l7(R E X:List T)(a n:Nat):List T:=E8 R E X++((qAc a n).map λo=>.lst (X++[o]))++odd2.map λo=>.lst (X++[o])
theorem qCc{s:Nat}(h1:1<=s)(h5:s<=5){a:Nat}(ha:a<2 ^ s){R E X:List T}(hR:∀u∈R,Rd (2 ^ s) u/\∀M,RB M (2 ^ s) u true)(lR:R.length<=40)(hE:E=((List.range (41-R.length)).map N).map λ_=>T.lst [])(hX:∀u∈X,u∈R)(lX:X.length<=40):∀t∈l7 R E X a (2 ^ s),Bn s t:=by
 have n5:=p5 h5;have xd:∀u∈X,Rd (2 ^ s) u:=λu hu=>(hR u (hX u hu)).1;have lE:E.length=41-R.length:=by rw[hE];simp
 have mE:∀u∈E,u=T.lst (SL []):=λu hu=>by rw[hE]at hu;obtain⟨_,_,rfl⟩:=wS.mp hu;rfl
 intro t ht;unfold l7 at ht;rcases wC.mp ht with ht|ht
 ·rcases wC.mp ht with ht|ht
  ·simp only[E8,List.mem_cons,wI,or_false]at ht;rcases ht with rfl|rfl|rfl|rfl
   ·exact⟨X4 h1 h5 (ty:="tuple") (λ_=>rfl) (by decide),Sh.tup (λu hu=>(hR u hu).1.sh) (by omega),by rw[T.und];exact QG λu hu=>(hR u hu).1.un⟩
   ·exact⟨X4 h1 h5 (ty:="NoneType") (λ_=>rfl) (by decide),(Zj _).mono (by decide),uv _⟩
   ·have hA:∀u∈R++E,Rd (2 ^ s) u/\∀M,RB M (2 ^ s) u true:=λu hu=>by
     rcases wC.mp hu with z|z
     ·exact hR u z
     ·rw[mE u z];exact⟨qAx (by omega) (V7 _),Y8 (V7 _)⟩
    exact⟨m9 h1 h5 (by rw[List.length_append];omega) (by rw[List.length_append];omega) (λM u hu=>(hA u hu).2 M),G4 (λu hu=>(hA u hu).1) (by rw[List.length_append];omega),by rw[T.und];exact QG λu hu=>(hA u hu).1.un⟩
   ·exact qFv h1 h5 xd lX (qGG (ty:="tuple") (λ_=>rfl) (by decide) (Sh.tup (n:=2) (m:=1100) (r9 (s2 (sN (by decide)) (sN (by decide)))) (by simp)) (by rw[T.und,T.unds,u2 (uN _) (uN _),T.unds];rfl))
  ·obtain⟨o,ho,rfl⟩:=wS.mp ht;exact qFv h1 h5 xd lX (qEn ha (by omega) o ho)
 ·obtain⟨o,ho,rfl⟩:=wS.mp ht;exact qFv h1 h5 xd lX (qEH _ o ho)
def qGn(k nb s:Nat)(M:Mem):Prop:=∃t b f M',Pk (glT gs) Fs Cs k 29 [.cell nb,N s] M=.ok ((.tup [t,.v (.bl b)],f),M')/\Kept nb M M'/\Sh 4 1800000 t/\((b=true/\∃Ns:List (List Stp),t=.lst (Ns.map λL=>.lst (SL L))/\(∀L∈Ns,OkR (2 ^ s) L)/\Ns.length<=40)\/(b=false/\NoN s t))
theorem qF6(hk:4<=k){M:Mem}{nb s:Nat}(h1:1<=s)(h5:s<=5)(hW:WfM M)(g:Q3 M nb):qGn k nb s M:=by
 have n5:=p5 h5;obtain⟨Ns,M1,e1,hN,lN,k1⟩:=net (k:=k-1) (by omega) (s:=s) h5 hW g;obtain⟨w,M2,e2,hw,k2⟩:=out (k:=k-1) (by omega) k1.good (m:=3) (by decide);have kA:=k1.trans k2;obtain⟨R,eR⟩:∃R,R=Ns.map λL=>T.lst (SL L):=⟨_,rfl⟩
 have lR:R.length<=40:=by rw[eR];simpa using lN
 have hR:∀u∈R,Rd (2 ^ s) u/\∀M,RB M (2 ^ s) u true:=λu hu=>by
  rw[eR]at hu;obtain⟨L,hL,rfl⟩:=wS.mp hu;exact⟨qAx (by omega) (hN L hL),Y8 (hN L hL)⟩
 have sh:Sh 4 1800000 (.lst R):=G4 (λu hu=>(hR u hu).1) (by omega);rw[<-eR]at e1;by_cases hz:0<w
 ·have z:pxs (glT gs) (Pk (glT gs) Fs Cs (k-1)) [1005] b29 [some (.cell nb),some (N s),none,none,none,none,none] M=.ok (.rt (.tup [.lst R,.v (.bl true)],false),M2):=by
   rw[qAs]
   repeat' first|with_reducible (first|exact qS|exact qd|exact zS|exact zz|exact ZE|exact S8|exact jK|exact S4|exact F5|exact R9|exact qO|exact ll0|exact ll1|exact ll2|exact ll3|exact ll4|exact zi|exact jJ|exact QU|exact K8|exact Qs .. | assumption|apply qD|apply qX|apply zx|apply zm|apply zG|apply zb|apply zo|apply Ji|apply qu|apply qCC|apply zW|apply Zs|apply t_1|apply f_0|apply QH|apply Q7|apply qQ)|((with_reducible apply jL);exact cN rfl)|((with_reducible apply D7);exact rfl)|assumption|exact dT hz|rfl
  exact⟨.lst R,true,false,M2,qV t29 ⟨rfl,by decide⟩ (by omega) rfl rfl z (qA kA.len),kA,sh,.inl ⟨rfl,Ns,by rw[eR],hN,lN⟩⟩
 ·have sl:∀{M:Mem},qr M .shl (N 1) (N s)=some (N (2 ^ s),true):=λ{M}=>by rw[K2 (by omega),Nat.one_mul]
  obtain⟨a,A,e3,ha,k3⟩:=out (k:=k-1) (by omega) kA.good (m:=2 ^ s) ⟨Nat.pow_pos (by decide),by omega⟩;have kB:=kA.trans k3;obtain⟨X,hX⟩:∃X,X=QQ R none (some 39):=⟨_,rfl⟩
  have lX:X.length<=40:=by
   rw[hX];unfold QQ;exact Nat.le_trans (List.length_take_le' _ _) (by simp;omega)
  have mX:∀u∈X,u∈R:=λu hu=>by
   rw[hX]at hu;unfold QQ at hu;exact wy (List.mem_of_mem_take hu)
  obtain⟨E,hE⟩:∃E,E=((List.range (41-R.length)).map N).map λ_=>T.lst []:=⟨_,rfl⟩
  have bn:=qCc h1 h5 ha hR lR hE mX lX;have mb:=qJC (M:=A) 41 R.length;have rg:=qCf (M:=A) 41 R.length (by omega) (by omega);have c:=Jj (d:=[]) (gl:=glT gs) (P:=Pk (glT gs) Fs Cs (k-1)) (e:=pe (glT gs) (Pk (glT gs) Fs Cs (k-1)) (.lst .nil)) (σ:=[]) (M:=A) (λ_=>T.lst []) (λ_=>true) rfl ((List.range (41-R.length)).map N) [] true none (by simp[lim];omega) (λu hu=>zo qO ll0);rw[List.nil_append,show (((List.range (41-R.length)).map N).all λ_=>true)=true from wH.mpr λ_ _=>rfl,we,<-hE]at c;have lE:E.length=41-R.length:=by rw[hE];simp
  have ad:=QP (M:=A) (xs:=R) (ys:=E) (by simp[lim];omega);have ad2:=QP (M:=A) (xs:=X) (ys:=[.tup [.tup [N 0,N 1]]]) (by simp[lim];omega);have tp:zg A .tuple [.lst R]=some (.tup R,T.lfs R):=rfl;have ln:zg A .len [.lst R]=some (N R.length,true):=rfl;have sm:Jb (.lst R) R none (some 39)=some (.lst X,T.lfs X):=by rw[hX];rfl
  obtain⟨p5',q5⟩:=apL (k:=k-1) (A:=A) (c0:=some (.cell nb)) (c1:=some (N s)) (c3:=some (N (2 ^ s))) (c4:=some (N a)) hX (by omega) (qAc a (2 ^ s)) (E8 R E X) none (by simp[E8,qAc]);obtain⟨p6',q6⟩:=apL (k:=k-1) (A:=A) (c0:=some (.cell nb)) (c1:=some (N s)) (c3:=some (N (2 ^ s))) (c4:=some (N a)) hX (by omega) odd2 (E8 R E X++(qAc a (2 ^ s)).map λo=>.lst (X++[o])) p5' (by simp[E8,qAc,odd2]);have hb:nb<A.length:=by
   obtain⟨x,y,e,_⟩:=kB.good;exact(List.getElem?_eq_some_iff.mp e).1
  obtain⟨d,M3,e7,hd,k7⟩:=out (k:=k-1) (by omega) (jw (C:=[l7 R E X a (2 ^ s)]) kB.good) (m:=18) (by decide);obtain⟨A',rfl,k8⟩:=zk hb k7;have kC:=kB.trans k8;obtain⟨t,ht⟩:∃t,(l7 R E X a (2 ^ s))[d]?=some t:=⟨_,wB (by simpa [l7,E8,qAc,odd2] using hd)⟩
  have bt:=bn t (List.mem_of_getElem? ht);have gc:(A'++[l7 R E X a (2 ^ s)])[A.length]?=some (l7 R E X a (2 ^ s)):=by rw[<-k8.len];simp
  have ix:Qb (A'++[l7 R E X a (2 ^ s)]) (.cell A.length) (N d)=some (t,t.lf):=by rw[qBQ _ gc,ht];rfl
  have sb:∀{M:Mem},qr M .sub (N 0) (N 1)=some (.v (.int (-1)),true):=λ{M}=>rfl;have z:pxs (glT gs) (Pk (glT gs) Fs Cs (k-1)) [1005] b29 [some (.cell nb),some (N s),none,none,none,none,none] M=.ok (.rt (.tup [t,.v (.bl false)],t.lf&&(true&&true)),A'++[l7 R E X a (2 ^ s)]):=by
   rw[qAs]
   repeat' first|with_reducible (first|exact qIb|exact sl|exact sb|exact qAd .. | exact qCq|exact mb|exact rg|exact c|exact ad|exact ad2|exact tp|exact ln|exact sm|exact qS|exact qd|exact zS|exact zz|exact ZE|exact S8|exact jK|exact S4|exact F5|exact R9|exact qO|exact ll0|exact ll1|exact ll2|exact ll3|exact ll4|exact zi|exact jJ|exact QU|exact K8|exact Qs .. | assumption|apply qD|apply qX|apply zx|apply zm|apply zG|apply zb|apply zo|apply Ji|apply qu|apply qCC|apply zW|apply Zs|apply t_1|apply f_0|apply qCt|apply QH|apply Q7)|((with_reducible apply jL);exact cN rfl)|((with_reducible apply D7);exact rfl)|assumption|exact dF hz|exact sm|exact rfl
  obtain⟨f',el⟩:=B7 (M:=M) (A:=A') (C:=[l7 R E X a (2 ^ s)]) (t:=.tup [t,.v (.bl false)]) (f:=t.lf&&(true&&true)) kC.len (jG hW kC) (u2 bt.un (uv _));exact⟨t,false,f',A',qV t29 ⟨rfl,by decide⟩ (by omega) rfl rfl z el,kC,bt.sh,.inr ⟨rfl,bt.no⟩⟩
end
end My
namespace My
open PySem PySem.Spec PI
open L2 (V)
open Nt (Stp Sg OkS OkR qx)
noncomputable abbrev qFh:S:=(.asg (.name 2) (.comp (.rng1 (.bin .shl (nE 1) (.var 1))) [none,some 0] (.name 0) .nil (.call 25 (.cons (.var 1) (.cons (nE 2) .nil)))))
noncomputable abbrev qHH:S:=(.ifs (.cmp .gt (.call 25 (.cons (.var 0) (.cons (nE 3) .nil))) (nE 0)) (.cons (.ret (.tup (.cons (.var 2) (.cons (.cst (V.bl true)) .nil)))) .nil) .nil)
noncomputable abbrev qGr:S:=(.asg (.name 3) (.call 25 (.cons (.var 0) (.cons (.blt .len (.cons (.var 2) .nil)) .nil))))
noncomputable def qEV:S:=(.asg (.name 4) (.lst (.cons (.blt .tuple (.cons (.var 2) .nil)) (.cons (.cst V.non) (.cons (.join (.comp (.list (.var 2)) [none] (.name 0) .nil (.txu .str (.var 0)))) (.cons (.sl (.var 2) (.cons (nE 1) .nil) .nil) (.cons (.bin .add (.var 2) (.lst (.cons (nE 0) .nil))) .nil)))))))
noncomputable abbrev qFi:S:=(.expr (.app (.var 4) (.bin .add (.var 2) (.var 2))))
noncomputable abbrev qGp:S:=(.for_ (.name 5) (.list (.lst (.cons (nE 2) (.cons (.cst (V.bl true)) (.cons (.cst V.non) (.cons (.bin .sub (nE 0) (nE 1)) (.cons (.cst (V.str "1")) (.cons (.lst (.cons (nE 0) .nil)) .nil)))))))) n6)
noncomputable abbrev qFr:S:=(.ret (.tup (.cons (.idx (.var 4) (.call 25 (.cons (.var 0) (.cons (nE 12) .nil)))) (.cons (.cst (V.bl false)) .nil))))
theorem qAo:b30=(.cons qFh (.cons qHH (.cons qGr (.cons qEV (.cons qFi (.cons qGp (.cons qFr .nil))))))):=rfl
theorem qBk(l:List Nat):JW (l.map λc=>T.v (.str (tx [c])))=some (l.map λc=>tx [c]):=by
 induction l with
 |nil=>rfl
 |cons c l ih=>rw[List.map_cons,List.map_cons];show (JW _).map _=_;rw[ih];rfl
theorem qCr(l:List Nat)(h:l.length<=1000):(l.map λc=>tx [c]).length<=1000/\((l.map λc=>tx [c]).all λy=>decide (y.length<=1000))=true:=by
 refine⟨by simpa using h,wH.mpr λy hy=>?_⟩;obtain⟨c,_,rfl⟩:=wS.mp hy;rw[qAr];simp
theorem qF1{c:Nat}(h:c<2):G2 .str (.int (c:Int))=some (.str (tx [48+c])):=by
 match c,h with
 | 0,_=>rfl
 | 1,_=>rfl
structure Br(n:Nat)(t:T):Prop where
 no:NoR n t
 sh:Sh 4 1800000 t
 un:t.und 0=true
noncomputable def sgT(x:List Nat):T:=.v (.str (tx (x.map (48 + ·))))
structure El(u:T):Prop where
 kn:Kn u
 sh:Sh 3 1100 u
 un:u.und 0=true
theorem qGP{v:Nat}(h:v<=1000):El (N v):=⟨Zl _,(A7 h _).mono (by decide),uN _⟩
theorem qHZ{n:Nat}{x:List Nat}(h:Sg n x):∀u∈x.map N,El u:=λu hu=>by
 obtain⟨v,hv,rfl⟩:=wS.mp hu;have:=h.2 v hv;exact qGP (by omega)
theorem J5{xs ys:List T}(h1:∀u∈xs,El u)(h2:∀u∈ys,El u):∀u∈xs++ys,El u:=λu hu=>(wC.mp hu).elim (h1 u) (h2 u)
theorem qFZ{n:Nat}{ts:List T}(h:∀u∈ts,El u)(hl:ts.length<=200)(hb:ts.length≠n\/∃u∈ts,blw 2 u=false):Br n (.lst ts):=⟨qFy (λu hu=>(h u hu).kn) (by omega) hb,Sh.lst (λu hu=>(h u hu).sh) (by omega),by rw[T.und];exact QG λu hu=>(h u hu).un⟩
noncomputable def oddR:List T:=[N 2,.v (.bl true),.v .non,.v (.int (-1)),.v (.str "1"),.lst [N 0]]
theorem qDw:∀o∈oddR,El o/\blw 2 o=false:=by
 intro o ho;simp only[oddR,List.mem_cons,wI,or_false]at ho;rcases ho with rfl|rfl|rfl|rfl|rfl|rfl
 ·exact⟨qGP (by decide),rfl⟩
 ·exact⟨⟨qGY _,(qGA _ _).mono (by decide),uv _⟩,rfl⟩
 ·exact⟨⟨qID,(Zj _).mono (by decide),uv _⟩,rfl⟩
 ·exact⟨⟨qGI _,(qEz (show (-1:Int).natAbs<2 ^ 110 by decide) _).mono (by decide),uv _⟩,rfl⟩
 ·exact⟨⟨qGa _,qDC (d:=.str "1") rfl ⟨rfl,by decide +kernel⟩ 3,uv _⟩,rfl⟩
 ·exact⟨⟨qFo _,Sh.lst (r9 (A7 (by decide) _)) (by simp),by rw[T.und,T.unds,uN,T.unds];rfl⟩,rfl⟩
noncomputable def rp0(x:List Nat):List T:=[.tup (x.map N),.v .non,sgT x,.lst ((x.map N).drop 1),.lst (x.map N++[N 0])]
noncomputable def rp(x:List Nat)(X1 X2:List T):List T:=(rp0 x++[.lst (x.map N++x.map N)])++oddR.map λo=>.lst (X1++[o]++X2)
theorem qFq{n:Nat}(h1:1<=n)(h5:n<=32){x:List Nat}(hx:Sg n x){X1 X2:List T}(m1:∀u∈X1,u∈x.map N)(m2:∀u∈X2,u∈x.map N)(l1:X1.length<=32)(l2:X2.length<=32):∀t∈rp x X1 X2,Br n t:=by
 have er:=qHZ hx;have lx:(x.map N).length=n:=by simp[hx.1]
 intro t ht;unfold rp at ht;rcases wC.mp ht with ht|ht
 ·simp only[rp0,wC,List.mem_cons,wI,or_false]at ht;rcases ht with(rfl|rfl|rfl|rfl|rfl)|rfl
  ·exact⟨E3 (ty:="tuple") (λ_=>rfl) (by decide),Sh.tup (λu hu=>(er u hu).sh) (by omega),by rw[T.und];exact QG λu hu=>(er u hu).un⟩
  ·exact⟨E3 (ty:="NoneType") (λ_=>rfl) (by decide),(Zj _).mono (by decide),uv _⟩
  ·exact⟨E3 (ty:="str") (λ_=>rfl) (by decide),(qIB (by rw[qAr,wL,hx.1];omega) (λc hc=>by
    have hc:c∈x.map (48 + ·):=by simpa [tx] using hc
    obtain⟨v,hv,rfl⟩:=wS.mp hc;have:=hx.2 v hv;show 48+v<_;omega) _).mono (by decide),uv _⟩
  ·exact qFZ (λu hu=>er u (wy hu)) (by rw[wY];omega) (.inl (by rw[wY];omega))
  ·exact qFZ (J5 er (r9 (qGP (by decide)))) (by simp[hx.1];omega) (.inl (by simp[hx.1]))
  ·exact qFZ (J5 er er) (by simp[hx.1];omega) (.inl (by simp[hx.1];omega))
 ·obtain⟨o,ho,rfl⟩:=wS.mp ht;obtain⟨eo,bo⟩:=qDw o ho;exact qFZ (J5 (J5 (λu hu=>er u (m1 u hu)) (r9 eo)) λu hu=>er u (m2 u hu)) (by simp;omega) (.inr ⟨o,by simp,bo⟩)
section
variable{k:Nat}
theorem drawn(hk:1<=k){M:Mem}{nb n:Nat}(hn:n<=1000)(g:Q3 M nb)(o:Option T):∃x M',qP [] (.name 0) (pec (glT gs) (Pk (glT gs) Fs Cs k) .nil) (pe (glT gs) (Pk (glT gs) Fs Cs k) (.call 25 (.cons (.var 1) (.cons (nE 2) .nil)))) ((List.range n).map N) [] true [o,some (.cell nb)] M=.ok ((NL x,true),M')/\Sg n x/\Kept nb M M':=by
 obtain⟨K,M',e,i,l,r⟩:=N6 (gl:=glT gs) (P:=Pk (glT gs) Fs Cs k) (e:=pe (glT gs) (Pk (glT gs) Fs Cs k) (.call 25 (.cons (.var 1) (.cons (nE 2) .nil)))) (σ:=[some (.cell nb)]) (I:=λM'=>Kept nb M M') (R:=λy=>y<2) (List.range n) [] true o M (by simp;exact Nat.le_trans hn (by decide)) ⟨g,rfl,λ_ _=>rfl⟩ (λx _ M' hI=>by
  obtain⟨d,M'',e,hd,kk⟩:=out (k:=k) hk hI.good (m:=2) (by decide);exact⟨d,M'',by simp[e],hI.trans kk,hd⟩)
 exact⟨K,M',by simpa using e,⟨by simpa using l,r⟩,i⟩
theorem qIE{A:Mem}{c0 c1:Option T}{q:Nat}{R X1 X2:List T}(h1:QQ R none (some (q:Int))=X1)(h2:QQ R (some ((q:Int)+1)) none=X2)(l1:X1.length<=100)(l2:X2.length<=100)(hq:q<=100):∀(os P:List T) (o5:Option T),P.length+os.length<=100->∃p5,zQ [] (.name 5) (pxs (glT gs) (Pk (glT gs) Fs Cs k) [1004] n6) os [c0,c1,some (.lst R),some (N q),some (.cell A.length),o5] (A++[P])=.ok (.nx [c0,c1,some (.lst R),some (N q),some (.cell A.length),p5],A++[P++os.map λo=>.lst (X1++[o]++X2)])
 | [],P,o5,h=>⟨o5,by rw[List.map_nil,List.append_nil];rfl⟩
 |o::os,P,o5,h=>by
  have ad:∀{M:Mem},qr M .add (.lst X1) (.lst [o])=some (lT (X1++[o])):=λ{M}=>QP (by simp[lim];omega);have ad2:∀{M:Mem},qr M .add (.lst (X1++[o])) (.lst X2)=some (lT (X1++[o]++X2)):=λ{M}=>QP (by simp[lim];omega);have ap:j4 (A++[P]) A.length (.lst (X1++[o]++X2))=some (A++[P++[.lst (X1++[o]++X2)]]):=by
   rw[qAP (xs:=P) (by simp) (by simp at h;simp[lim];omega)];simp
  obtain⟨p5,e⟩:=qIE (A:=A) (c0:=c0) (c1:=c1) h1 h2 l1 l2 hq os (P++[.lst (X1++[o]++X2)]) (some o) (by simp at h ⊢;omega);refine⟨p5,?_⟩;rw[zl,show ([c0,c1,some (.lst R),some (N q),some (.cell A.length),o5]:TS).set 5 (some o)=[c0,c1,some (.lst R),some (N q),some (.cell A.length),some o] from rfl];have body:pxs (glT gs) (Pk (glT gs) Fs Cs k) [1004] n6 [c0,c1,some (.lst R),some (N q),some (.cell A.length),some o] (A++[P])=.ok (.nx [c0,c1,some (.lst R),some (N q),some (.cell A.length),some o],A++[P++[.lst (X1++[o]++X2)]]):=by
   have aq:∀{M:Mem},qr M .add (N q) (N 1)=some (.v (.int ((q:Int)+1)),true):=λ{M}=>rfl;have ad:∀{M:Mem},qr M .add (.lst X1) (.lst [o])=some (.lst (X1++[o]),T.lfs (X1++[o])):=ad;have ad2:∀{M:Mem},qr M .add (.lst (X1++[o])) (.lst X2)=some (.lst (X1++[o]++X2),T.lfs (X1++[o]++X2)):=ad2;have s1:Jb (.lst R) R none (some (q:Int))=some (.lst X1,T.lfs X1):=by rw[<-h1];rfl
   have s2:Jb (.lst R) R (some ((q:Int)+1)) none=some (.lst X2,T.lfs X2):=by rw[<-h2];rfl
   change pxs _ _ _ (.cons _ _) [_,_,_,_,_,_] _=_
   repeat' first|with_reducible (first|exact ll1|exact aq|exact ad|exact ad2|exact ap|exact zS|exact zz|exact ZE|exact S8|exact jK|exact qO|exact E6|exact ll1|assumption|apply qD|apply zm|apply zo|apply qCC|apply U9)|assumption|exact s1|exact s2|rfl
  rw[body];show zQ _ _ _ _ _ _=_;rw[e,wO];rfl
theorem qG7{M:Mem}{nb s q n:Nat}{x:List Nat}(hx:Sg n x)(hn:n<=32)(h1:1<=n):px (glT gs) (Pk (glT gs) Fs Cs k) [1004] qEV [some (.cell nb),some (N s),some (NL x),some (N q),none,none] M=.ok (.nx [some (.cell nb),some (N s),some (NL x),some (N q),some (.cell M.length),none],M++[rp0 x]):=by
 have cc:=ZA (c:=pec (glT gs) (Pk (glT gs) Fs Cs k) .nil) (e:=pe (glT gs) (Pk (glT gs) Fs Cs k) (.txu .str (.var 0))) (M:=M) (σ:=[]) (λ_=>true) (λc=>T.v (.str (tx [48+c]))) (λ_=>true) x [] true none (by simp[lim,hx.1];omega) (λc _=>rfl) (λc hc _=>qGW qS (show (N c).fv.bind (G2 .str)=_ from qF1 (hx.2 c hc)));rw[zH,show (x.all λ_=>true)=true from wH.mpr λ_ _=>rfl,we,List.nil_append]at cc;have jo:=qCr (x.map (48 + ·)) (by simp[hx.1];omega);have sx:JW (x.map λc=>T.v (.str (tx [48+c])))=some ((x.map (48 + ·)).map λc=>tx [c]):=by
  have:=qBk (x.map (48 + ·));rw[wb]at this;exact this
 have tj:=qBw (x.map (48 + ·));have lx:(x.map N).length=n:=by simp[hx.1]
 have ad:∀{M:Mem},qr M .add (NL x) (.lst [N 0])=some (lT (x.map N++[N 0])):=λ{M}=>QP (by rw[lx];simp[lim];omega);have tp:∀{M:Mem},zg M .tuple [NL x]=some (.tup (x.map N),T.lfs (x.map N)):=λ{M}=>rfl;have it:∀{M:Mem},(NL x).its M=some (x.map N):=λ{M}=>rfl;have sr:∀{M:Mem},C7 M (NL x)=some (x.map N,[]):=λ{M}=>rfl;have ct:QQ (x.map N) (some 1) none=(x.map N).drop 1:=Jx (m:=1) (by rw[lx];exact h1);have i1:zD [N 1]=some [1]:=rfl;have li:∀{M:Mem}{Y:List T},(T.lst Y).lis M=some Y:=λ{M Y}=>rfl;have jk:((x.map (48 + ·)).map λc=>tx [c]).length<=1000/\(((x.map (48 + ·)).map λc=>tx [c]).all λy=>decide (y.length<=1000))=true:=jo;have sm:Jb (NL x) (x.map N) (some 1) none=some (.lst ((x.map N).drop 1),T.lfs ((x.map N).drop 1)):=by rw[<-ct];rfl
 have ad:qr M .add (NL x) (.lst [N 0])=some (.lst (x.map N++[N 0]),T.lfs (x.map N++[N 0])):=ad;have sr:C5 M (NL x)=some (x.map N,[]):=rfl;have jn:pe (glT gs) (Pk (glT gs) Fs Cs k) (.join (.comp (.list (.var 2)) [none] (.name 0) .nil (.txu .str (.var 0)))) [some (.cell nb),some (N s),some (NL x),some (N q),none,none] M=.ok ((sgT x,true),M):=by
  rw[qDV (qu (zW zS sr) cc) rfl sx jk,tj];rfl
 rw[<-qBc]
 change pxs _ _ _ (.cons (.asg (.name _) (.lst _)) .nil) _ _=_
 repeat' first|with_reducible (first|exact ll5|exact tp|exact jn|exact sm|exact ad|exact it|exact qS|exact zS|exact jK|exact F5|exact qO|exact ll1|exact QU|assumption|apply qD|apply zm|apply zb|apply zo|apply qu|apply qCC|apply zW)|((with_reducible apply D7);exact rfl)|assumption|rfl
def qGc(k nb s:Nat)(M:Mem):Prop:=∃t b f M',Pk (glT gs) Fs Cs k 30 [.cell nb,N s] M=.ok ((.tup [t,.v (.bl b)],f),M')/\Kept nb M M'/\Sh 4 1800000 t/\((b=true/\∃x,t=NL x/\Sg (2 ^ s) x)\/(b=false/\NoR (2 ^ s) t))
theorem qF3(hk:2<=k){M:Mem}{nb s:Nat}(h1:1<=s)(h5:s<=5)(hW:WfM M)(g:Q3 M nb):qGc k nb s M:=by
 have n5:=p5 h5;have n1:1<=2 ^ s:=Nat.pow_pos (by decide);have sl:∀{M:Mem},qr M .shl (N 1) (N s)=some (N (2 ^ s),true):=λ{M}=>by rw[K2 (by omega),Nat.one_mul]
 obtain⟨x,M1,e1,hx,k1⟩:=drawn (k:=k-1) (by omega) (n:=2 ^ s) (by omega) g none;obtain⟨w,M2,e2,hw,k2⟩:=out (k:=k-1) (by omega) k1.good (m:=3) (by decide);have kA:=k1.trans k2;have sh:Sh 4 1800000 (NL x):=Sh.lst (λu hu=>(qHZ hx u hu).sh) (by simp[hx.1];omega);have rg:=jr (n:=2 ^ s) (by omega);by_cases hz:0<w
 ·have z:pxs (glT gs) (Pk (glT gs) Fs Cs (k-1)) [1004] b30 [some (.cell nb),some (N s),none,none,none,none] M=.ok (.rt (.tup [NL x,.v (.bl true)],false),M2):=by
   rw[qAo]
   repeat' first|with_reducible (first|exact rg|exact sl|exact e1|exact qS|exact qd|exact zS|exact ZE|exact jK|exact S4|exact F5|exact R9|exact qO|exact ll1|exact ll2|exact zi|exact jJ|exact Qs .. | assumption|apply qD|apply qX|apply zx|apply zm|apply zG|apply zb|apply zo|apply Ji|apply qu|apply zW|apply Zs|apply t_1|apply f_0|apply QH|apply U9|apply Q7|apply qQ)|((with_reducible apply jL);exact cN rfl)|assumption|exact dT hz|rfl
  exact⟨NL x,true,false,M2,qV t30 ⟨rfl,by decide⟩ (by omega) rfl rfl z (qA kA.len),kA,sh,.inl ⟨rfl,x,rfl,hx⟩⟩
 ·obtain⟨q,A,e3,hq,k3⟩:=out (k:=k-1) (by omega) kA.good (m:=2 ^ s) ⟨n1,by omega⟩;have kB:=kA.trans k3;have ln:∀{M:Mem},zg M .len [NL x]=some (N (2 ^ s),true):=λ{M}=>by
   show some (N (x.map N).length,true)=_;rw[wL,hx.1]
  have q3:=qG7 (k:=k-1) (M:=A) (nb:=nb) (s:=s) (q:=q) hx n5 n1;have ad:∀{M:Mem},qr M .add (NL x) (NL x)=some (lT (x.map N++x.map N)):=λ{M}=>QP (by simp[lim,hx.1];omega);have ap:j4 (A++[rp0 x]) A.length (.lst (x.map N++x.map N))=some (A++[rp0 x++[.lst (x.map N++x.map N)]]):=by
   rw[qAP (xs:=rp0 x) (by simp) (by simp[lim,rp0])];simp
  obtain⟨X1,hX1⟩:∃X,QQ (x.map N) none (some (q:Int))=X:=⟨_,rfl⟩
  obtain⟨X2,hX2⟩:∃X,QQ (x.map N) (some ((q:Int)+1)) none=X:=⟨_,rfl⟩
  have cl:∀lo hi,(QQ (x.map N) lo hi).length<=32/\∀u∈QQ (x.map N) lo hi,u∈x.map N:=λlo hi=>by
   unfold QQ;refine⟨Nat.le_trans (List.length_take_le' _ _) (by simp[hx.1];omega),λu hu=>wy (List.mem_of_mem_take hu)⟩
  have br:=qFq n1 n5 hx (X1:=X1) (X2:=X2) (by rw[<-hX1];exact(cl _ _).2) (by rw[<-hX2];exact(cl _ _).2) (by rw[<-hX1];exact(cl _ _).1) (by rw[<-hX2];exact(cl _ _).1);obtain⟨p5',q5⟩:=qIE (k:=k-1) (A:=A) (c0:=some (.cell nb)) (c1:=some (N s)) (R:=x.map N) hX1 hX2 (by rw[<-hX1];exact Nat.le_trans (cl _ _).1 (by decide)) (by rw[<-hX2];exact Nat.le_trans (cl _ _).1 (by decide)) (by omega) oddR (rp0 x++[.lst (x.map N++x.map N)]) none (by simp[rp0,oddR]);have hb:nb<A.length:=by
   obtain⟨x,y,e,_⟩:=kB.good;exact(List.getElem?_eq_some_iff.mp e).1
  have lP:(rp x X1 X2).length=12:=by simp[rp,rp0,oddR]
  obtain⟨d,M3,e7,hd,k7⟩:=out (k:=k-1) (by omega) (jw (C:=[rp x X1 X2]) kB.good) (m:=12) (by decide);obtain⟨A',rfl,k8⟩:=zk hb k7;have kC:=kB.trans k8;obtain⟨t,ht⟩:∃t,(rp x X1 X2)[d]?=some t:=⟨_,wB (by rw[lP];exact hd)⟩
  have bt:=br t (List.mem_of_getElem? ht);have gc:(A'++[rp x X1 X2])[A.length]?=some (rp x X1 X2):=by rw[<-k8.len];simp
  have ix:Qb (A'++[rp x X1 X2]) (.cell A.length) (N d)=some (t,t.lf):=by rw[qBQ _ gc,ht];rfl
  have sb:∀{M:Mem},qr M .sub (N 0) (N 1)=some (.v (.int (-1)),true):=λ{M}=>rfl;have ad:qr (A++[rp0 x]) .add (NL x) (NL x)=some (.lst (x.map N++x.map N),T.lfs (x.map N++x.map N)):=ad;have z:pxs (glT gs) (Pk (glT gs) Fs Cs (k-1)) [1004] b30 [some (.cell nb),some (N s),none,none,none,none] M=.ok (.rt (.tup [t,.v (.bl false)],t.lf&&(true&&true)),A'++[rp x X1 X2]):=by
   rw[qAo]
   repeat' first|with_reducible (first|exact ll6|exact sl|exact sb|exact qAd .. | exact ln|exact rg|exact e1|exact ad|exact ap|exact qS|exact qd|exact zS|exact ZE|exact jK|exact S4|exact F5|exact R9|exact qO|exact ll1|exact ll2|exact zi|exact jJ|exact Qs .. | assumption|apply qD|apply qX|apply zx|apply zm|apply zG|apply zb|apply zo|apply Ji|apply qu|apply zW|apply Zs|apply t_1|apply f_0|apply qCt|apply QH|apply U9|apply Q7)|((with_reducible apply jL);exact cN rfl)|assumption|exact dF hz|((with_reducible apply qIO);with_reducible assumption)
  obtain⟨f',el⟩:=B7 (M:=M) (A:=A') (C:=[rp x X1 X2]) (t:=.tup [t,.v (.bl false)]) (f:=t.lf&&(true&&true)) kC.len (jG hW kC) (u2 bt.un (uv _));exact⟨t,false,f',A',qV t30 ⟨rfl,by decide⟩ (by omega) rfl rfl z el,kC,bt.sh,.inr ⟨rfl,bt.no⟩⟩
end
end My
namespace My
open PySem PySem.Spec PI
open L2 (V)
open Nt (Stp Sg OkS OkR qx)
noncomputable abbrev d_0:S:=(.asg (.name 2) (.call 24 (.cons (.var 0) (.cons (.var 1) .nil))))
noncomputable abbrev d_1:S:=(.asg (.name 3) (.idx (.lst (.cons (nE 0) (.cons (nE 1) (.cons (nE 1) (.cons (nE 2) (.cons (nE 3) (.cons (nE 4) (.cons (nE 5) .nil)))))))) (.call 25 (.cons (.var 2) (.cons (nE 7) .nil)))))
noncomputable abbrev d_2:S:=(.asg (.name 4) (.bin .add (nE 1) (.call 25 (.cons (.var 2) (.cons (.idx (.lst (.cons (nE 2) (.cons (nE 5) .nil))) (.call 25 (.cons (.var 2) (.cons (nE 2) .nil)))) .nil)))))
noncomputable abbrev d_3:S:=(.asg (.tup [5,6]) (.call 28 (.cons (.var 2) (.cons (.var 4) .nil))))
noncomputable abbrev d_4:S:=(.asg (.tup [7,8]) (.call 29 (.cons (.var 2) (.cons (.var 4) .nil))))
noncomputable abbrev d_5:S:=(.asg (.tup [9,10]) (.call 30 (.cons (.var 2) (.cons (.var 4) .nil))))
noncomputable abbrev d_6:S:=(.asg (.name 11) (.blt .repr (.cons (.lst (.cons (.var 5) (.cons (.var 7) (.cons (.var 9) .nil)))) .nil)))
noncomputable abbrev d_7:S:=(.ifs (.cmp .ne (.call 32 (.cons (.var 3) (.cons (.var 5) (.cons (.var 7) (.cons (.var 9) .nil))))) (.call 33 (.cons (.var 3) (.cons (.lst (.cons (.var 6) (.cons (.var 8) (.cons (.var 10) .nil)))) .nil)))) (.cons (.ret (.cst (V.bl false))) .nil) .nil)
noncomputable abbrev d_8:S:=(.ifs (.or (.cmp .ne (.call 32 (.cons (nE 1) (.cons (.var 4) (.cons (.lst (.cons (.lst (.cons (.tup (.cons (nE 0) (.cons (nE 1) .nil))) .nil)) .nil)) (.cons (.comp (.rng1 (.bin .shl (nE 1) (.var 4))) [none] (.name 0) .nil (nE 1)) .nil))))) (.lst .nil)) (.cmp .ne (.blt .repr (.cons (.lst (.cons (.var 5) (.cons (.var 7) (.cons (.var 9) .nil)))) .nil)) (.var 11))) (.cons (.ret (.cst (V.bl false))) .nil) .nil)
theorem qId:qAI=(.cons d_0 (.cons d_1 (.cons d_2 (.cons d_3 (.cons d_4 (.cons d_5 (.cons d_6 (.cons d_7 (.cons d_8 .nil))))))))):=rfl
theorem qGq{M:Mem}{o:Option Nat}(ho:o=none\/o=some 1\/o=some 3\/o=some 2):zO M .ne (.lst (kd o)) (.lst (kd o))=some false:=by
 rcases ho with rfl|rfl|rfl|rfl<;>rfl
theorem qDh{M:Mem}(x:Str):zO M .ne (.v (.str x)) (.v (.str x))=some false:=by
 show ((eqT M 4 (.v (.str x)) (.v (.str x))).map (!·))=_;rw[show eqT M 4 (.v (.str x)) (.v (.str x))=some (decide (x=x)) from rfl];simp
section
variable{k:Nat}
theorem agn(hk:16<=k){s:Nat}(h1:1<=s)(h5:s<=5){M:Mem}(hW:WfM M){x:List Nat}(hx:Sg (2 ^ s) x):Pk (glT gs) Fs Cs k 32 [N 1,N s,.lst [.lst [.tup [N 0,N 1]]],NL x] M=.ok ((.lst [],false),M):=by
 have n2:2<=2 ^ s:=by
  have:=Nat.pow_le_pow_right (show 0<2 by decide) h1;simpa using this
 have g:Gv s (N s) (.lst [.lst [.tup [N 0,N 1]]]) (NL x) true true true:=⟨.inl ⟨rfl,rfl⟩,.inl ⟨rfl,[[(0,1)]],rfl,λL hL=>by
  rw[wM.mp hL];exact⟨λp hp=>by rw[wM.mp hp];exact⟨by show 0<_;omega,by show 1<_;omega,by decide⟩,by decide,by decide⟩,by decide⟩,.inl ⟨rfl,x,rfl,hx⟩⟩
 have d:=qHi (k:=k-1) (by omega) h1 h5 (d:=1) (by decide) g hW;rw[show du 1 true true true=none by unfold du;simp]at d;exact qE0 (by omega) (.inl rfl) d
def Zi(k:Nat)(F:List T)(i:Nat)(M:Mem)(o2 o3 o4 o5 o6 o7 o8 o9 o10 o11:Option T):Prop:=∃p2 p3 p4 p5 p6 p7 p8 p9 p10 p11 M',pxs (glT gs) (Pk (glT gs) Fs Cs k) [2] qAI [some (.fz F),some (N i),o2,o3,o4,o5,o6,o7,o8,o9,o10,o11] M=.ok (.nx [some (.fz F),some (N i),p2,p3,p4,p5,p6,p7,p8,p9,p10,p11],M')/\WfM M'
theorem qEC(hk:16<=k)(ns:List Int){i:Nat}(hi:i<=62){M:Mem}(hM:WfM M){o2 o3 o4 o5 o6 o7 o8 o9 o10 o11:Option T}:Zi k (ns.map λn=>.v (.int n)) i M o2 o3 o4 o5 o6 o7 o8 o9 o10 o11:=by
 obtain⟨g0,s0,e0,hb0⟩:=bag (k:=k) (by omega) ns (kk:=i) (by omega) M;have gd:Q3 (M++[stT g0 s0]) M.length:=⟨g0,s0,by simp,hb0⟩
 have hM0:WfM (M++[stT g0 s0]):=hM.one (G5 [g0,s0]);obtain⟨w,M1,e1,hw,k1⟩:=out (k:=k) (by omega) gd (m:=7) (by decide);obtain⟨d,hd,ed⟩:=qER (L:=[0,1,1,2,3,4,5]) (m:=6) hw (by decide);obtain⟨v,M2,e2,hv,k2⟩:=out (k:=k) (by omega) k1.good (m:=2) (by decide);obtain⟨b,hb,eb⟩:∃b,(0<b/\b<=5)/\([N 2,N 5]:List T)[v]?=some (N b):=by
  rcases v with _|_|v
  ·exact⟨2,by decide,rfl⟩
  ·exact⟨5,by decide,rfl⟩
  ·exact absurd hv (wu (vA 2 v))
 obtain⟨z,M3,e3,hz,k3⟩:=out (k:=k) (by omega) k2.good (m:=b) ⟨hb.1,by omega⟩;have h1:1<=1+z:=by omega
 have h5:1+z<=5:=by omega
 have n5:=p5 h5;have kA:=(k1.trans k2).trans k3;have wA:=jG hM0 kA;obtain⟨a,b1,f1,M4,e4,k4,sa,ga⟩:=qEP (k:=k) (by omega) kA.good h1 h5;have w4:=jG wA k4;obtain⟨t,b2,f2,M5,e5,k5,st,gt⟩:=qF6 (k:=k) (by omega) h1 h5 w4 k4.good;have w5:=jG w4 k5;obtain⟨r,b3,f3,M6,e6,k6,sr,gr⟩:=qF3 (k:=k) (by omega) h1 h5 w5 k5.good;have w6:=jG w5 k6;have g:Gv (1+z) a t r b1 b2 b3:=⟨ga,gt,gr⟩
 obtain⟨y,ey⟩:=qGj (M:=M6) (t:=.lst [a,t,r]) (n:=5500000) (Sh.lst (n:=4) (m:=1800000) (qHg (sa.mono (by decide)) st sr) (by simp)) (by decide);have eK:=qE0 (k:=k) (by omega) (K6 d b1 b2 b3) (qHi (k:=k-1) (by omega) h1 h5 hd g w6);have eD:=due (k:=k) (by omega) hd b1 b2 b3 M6;have nK:=qGq (M:=M6) (K6 d b1 b2 b3);have hx:Sg (2 ^ (1+z)) ((List.range (2 ^ (1+z))).map λ_=>1):=⟨by simp,λv hv=>by obtain⟨_,_,rfl⟩:=wS.mp hv;decide⟩
 have eA:=agn (k:=k) hk h1 h5 w6 hx;have c:qP [] (.name 0) (pec (glT gs) (Pk (glT gs) Fs Cs k) .nil) (pe (glT gs) (Pk (glT gs) Fs Cs k) (nE 1)) ((List.range (2 ^ (1+z))).map N) [] true [none] M6=.ok ((NL ((List.range (2 ^ (1+z))).map λ_=>1),true),M6):=(h9 (λ_=>1) (by simp[lim];omega) λq _=>by simp).trans rfl;have rg:=jr (n:=2 ^ (1+z)) (by omega);have sl:∀{M:Mem},qr M .shl (N 1) (N (1+z))=some (N (2 ^ (1+z)),true):=λ{M}=>by rw[K2 (by omega),Nat.one_mul]
 have ne0:∀{M:Mem},zO M .ne (.lst []) (.lst [])=some false:=λ{M}=>rfl;have th:thaw M.length (.lst (stT g0 s0))=(.cell M.length,[stT g0 s0]):=E7 M.length [g0,s0];have nS:=qDh (M:=M6) y;refine⟨some (.cell M.length),some (N d),some (N (1+z)),some a,some (.v (.bl b1)),some t,some (.v (.bl b2)),some r,some (.v (.bl b3)),some (.v (.str y)),M6,?_,w6⟩;rw[qId]
 repeat' first|with_reducible (first|exact ll7|exact ed|exact eb|exact sl|exact rg|exact c|exact ne0|exact th|exact ey _|exact qS|exact qd|exact zS|exact zz|exact ZE|exact S8|exact qCa|exact qF9|exact qGh|exact qGK|exact qDQ|exact qEd|exact jK|exact qO|exact E6|exact isF|exact ll0|exact ll1|exact ll2|exact ll3|exact zi|exact jJ|exact QU|exact K8|exact qAp|exact qDJ|exact qEk|exact qFL|exact qB2|exact qBn|exact QT .. | assumption|apply qD|apply qX|apply zx|apply zm|apply zG|apply zb|apply zo|apply Ji|apply qu|apply qA2|apply Zs|apply cF|apply f_0|apply QH|apply qEw|apply qFe)|((with_reducible apply jL);exact cN rfl)|((with_reducible apply Z3);exact rfl)|assumption
theorem qHW(hk:16<=k)(ns:List Int):∀(m i:Nat) (M:Mem) (o1 o2 o3 o4 o5 o6 o7 o8 o9 o10 o11:Option T),i+m<=63->WfM M->∃σ' M',zQ [] (.name 1) (pxs (glT gs) (Pk (glT gs) Fs Cs k) [2] qAI) ((List.range' i m).map N) [some (.fz (ns.map λn=>.v (.int n))),o1,o2,o3,o4,o5,o6,o7,o8,o9,o10,o11] M=.ok (.nx σ',M')
 | 0,i,M,o1,o2,o3,o4,o5,o6,o7,o8,o9,o10,o11,h,_=>⟨_,M,rfl⟩
 |m+1,i,M,o1,o2,o3,o4,o5,o6,o7,o8,o9,o10,o11,h,hF=>by
  obtain⟨p2,p3,p4,p5,p6,p7,p8,p9,p10,p11,M1,e,F1⟩:=qEC hk ns (i:=i) (by omega) hF (o2:=o2) (o3:=o3) (o4:=o4) (o5:=o5) (o6:=o6) (o7:=o7) (o8:=o8) (o9:=o9) (o10:=o10) (o11:=o11);obtain⟨σ',M',e'⟩:=qHW hk ns m (i+1) M1 (some (N i)) p2 p3 p4 p5 p6 p7 p8 p9 p10 p11 (by omega) F1;refine⟨σ',M',?_⟩;rw[List.range'_succ,List.map_cons,zl,show ([some (.fz (ns.map λn=>.v (.int n))),o1,o2,o3,o4,o5,o6,o7,o8,o9,o10,o11]:TS).set 1 (some (N i))=[some (.fz (ns.map λn=>.v (.int n))),some (N i),o2,o3,o4,o5,o6,o7,o8,o9,o10,o11] from rfl,e,PR.bind_ok];exact e'
end
theorem main:∀ns:List Int,ns.length<=63->∃h',Fk Tb.fns 30 34 [.ref gs.length] (B6 gs ns)=.ok (.bl true,h'):=by
 intro ns hn;rw[qII];obtain⟨σ',M',e⟩:=qHW (k:=29) (by omega) ns (max 1 (min ns.length 60)) 0 [] none none none none none none none none none none none (by omega) rfl;rw[<-wx]at e;have key:∃b M2,Pk (glT gs) Fs Cs 30 34 [.fz (ns.map λn=>.v (.int n))] []=.ok ((.v (.bl true),b),M2):=by
  rw[qm t34 ⟨rfl,by decide⟩ (by omega),show Cs.getD 34 []=[2] from rfl];clear hn;have ex:pxs (glT gs) (Pk (glT gs) Fs Cs (30-1)) [2] b34 ([T.fz (ns.map λn=>.v (.int n))].map some++List.replicate (12-1) none) []=.ok (.rt (bT true),M'):=by
   rw[b34];simp(disch:=omega) [jr,e]
  rw[ex];exact g7 _ _ _
 obtain⟨b,M2,e2⟩:=key;exact qEA rfl e2
end My
namespace PySem.W.Fast
theorem tw17642553515311032901:True:=trivial
theorem tw450902982018207385:True:=trivial
theorem tw2669222785030454202:True:=trivial
theorem tw4558731896348973270:True:=trivial
theorem tw6614346958048599664:True:=trivial
theorem tw5160176633356708795:True:=trivial
theorem tw1930674981055799115:True:=trivial
theorem tw13544493888350622134:True:=trivial
theorem tw14584354668080551036:True:=trivial
theorem tw11345506379369782734:True:=trivial
theorem tw3069111227990545421:True:=trivial
theorem tw11182193670540277147:True:=trivial
theorem tw1753610307352764044:True:=trivial
theorem tw13824738403297310602:True:=trivial
theorem tw14715733889065315517:True:=trivial
theorem tw2509823656826225858:True:=trivial
theorem tw4117369467624271321:True:=trivial
theorem tw8622601086449196001:True:=trivial
theorem tw13242908944235844314:True:=trivial
theorem tw16964704128014102967:True:=trivial
theorem tw4999454245632579832:True:=trivial
theorem tw13364068301206756324:True:=trivial
theorem tw9508720004950526220:True:=trivial
theorem tw8957325537019949907:True:=trivial
theorem tw6595692363109164384:True:=trivial
theorem tw8486252640826052882:True:=trivial
theorem tw9165915981420265737:True:=trivial
theorem tw3393492441328175623:True:=trivial
theorem tw2012592443160975609:True:=trivial
theorem tw15851704247068435320:True:=trivial
theorem tw9253544986126784117:True:=trivial
theorem tw11252391728402000664:True:=trivial
theorem tw23641863318996718:True:=trivial
theorem tw1592976095951392560:True:=trivial
theorem tw6621116347980458251:True:=trivial
theorem tw13805932579446085841:True:=trivial
theorem tw10065949564501359843:True:=trivial
theorem tw5398478605739268677:True:=trivial
theorem tw257134733922975550:True:=trivial
theorem tw10396437810804174468:True:=trivial
theorem tw16657607344840496548:True:=trivial
theorem tw11802336712889067936:True:=trivial
theorem tw16762488686067829833:True:=trivial
theorem tw18441926621779673716:True:=trivial
theorem tw12775234484015003523:True:=trivial
theorem tw18013437810170221807:True:=trivial
theorem tw15206364142425189151:True:=trivial
theorem tw6422939371627029782:True:=trivial
theorem tw15949422756125504017:True:=trivial
theorem tw10338356716611627425:True:=trivial
theorem tw12264936493036190936:True:=trivial
theorem tw9409350361026486830:True:=trivial
theorem tw3990001000638842736:True:=trivial
theorem tw4405291605300396051:True:=trivial
theorem tw12357203647128514985:True:=trivial
theorem tw11539219820200797678:True:=trivial
theorem tw9055201787246455165:True:=trivial
theorem tw10786673565484810245:True:=trivial
theorem tw15087662725798060183:True:=trivial
theorem tw12045026888673601561:True:=trivial
theorem tw3645798545432469942:True:=trivial
theorem tw4687119199595376369:True:=trivial
theorem tw10564668253776137408:True:=trivial
theorem tw2268044825482663054:True:=trivial
theorem tw6542255987012654401:True:=trivial
theorem tw12653782396220875037:True:=trivial
theorem tw18619543669699943:True:=trivial
theorem tw2630643440836188320:True:=trivial
theorem tw17986546236085695906:True:=trivial
theorem tw4288317561519591374:True:=trivial
theorem tw6652925351935662323:True:=trivial
theorem tw9848467430857991637:True:=trivial
theorem tw5313376918949021413:True:=trivial
theorem tw13316536653677268203:True:=trivial
theorem tw6470438848236123799:True:=trivial
theorem tw12591399741508701577:True:=trivial
theorem tw15851985852219962185:True:=trivial
theorem tw10969365312913112948:True:=trivial
theorem tw5466179551546615892:True:=trivial
theorem tw7883559565074971695:True:=trivial
theorem tw210437220141294383:True:=trivial
theorem tw977152787432103035:True:=trivial
theorem tw13077500204688266300:True:=trivial
theorem tw9818225983633281193:True:=trivial
theorem tw12807649570598671250:True:=trivial
theorem tw8166171555189151642:True:=trivial
theorem tw2312709825887110797:True:=trivial
theorem tw12945699569270013723:True:=trivial
theorem tw16948045492995291683:True:=trivial
theorem tw11162914203595688370:True:=trivial
theorem tw11169158521514167541:True:=trivial
theorem tw11494621265977398954:True:=trivial
theorem tw240839661342811783:True:=trivial
theorem tw11762668621830876895:True:=trivial
theorem tw18026406276395709461:True:=trivial
theorem tw12856265569214817120:True:=trivial
theorem tw17533299145934857894:True:=trivial
theorem tw14660491825755082155:True:=trivial
theorem tw17330963680658762759:True:=trivial
theorem tw51733487032407193:True:=trivial
theorem tw8022585331452226334:True:=trivial
theorem tw5803653342712013921:True:=trivial
theorem tw14761914437766272950:True:=trivial
theorem tw15977960871263177495:True:=trivial
theorem tw5428891880555746451:True:=trivial
theorem tw15535322232554755272:True:=trivial
theorem tw16593197949595073078:True:=trivial
theorem tw14317264944151362976:True:=trivial
theorem tw7062506588489527033:True:=trivial
theorem tw12606207290979769673:True:=trivial
theorem tw7125555957787416414:True:=trivial
theorem tw9698470146358290320:True:=trivial
theorem tw15741263744083022022:True:=trivial
theorem tw14111460404727257409:True:=trivial
theorem tw14866283331539891038:True:=trivial
theorem tw9244946289638356498:True:=trivial
theorem tw1874835634238651217:True:=trivial
theorem tw11464583092143515944:True:=trivial
theorem tw2021687737937360034:True:=trivial
theorem tw13940742163543208830:True:=trivial
theorem tw208491468929942500:True:=trivial
theorem tw3111169352169108929:True:=trivial
theorem tw129137436393813566:True:=trivial
theorem tw11272316101015736524:True:=trivial
theorem tw7460684105815201678:True:=trivial
theorem tw14061444268012926215:True:=trivial
theorem tw10261794999766997154:True:=trivial
theorem tw15708687907620408451:True:=trivial
theorem tw15757954063947865834:True:=trivial
theorem tw1200146128604172968:True:=trivial
theorem tw1087123362770132042:True:=trivial
theorem tw8236931899348401694:True:=trivial
theorem tw3615458539618220987:True:=trivial
theorem tw12619713100753089861:True:=trivial
theorem tw5939046817763142365:True:=trivial
theorem tw17065389295835568133:True:=trivial
theorem tw9252882460614132628:True:=trivial
theorem tw15964286062119049270:True:=trivial
theorem tw4569541929654834023:True:=trivial
theorem tw3576444124818550099:True:=trivial
theorem tw13805132367375702451:True:=trivial
theorem tw17597322905165852887:True:=trivial
theorem tw4861423094554541715:True:=trivial
theorem tw7487683575020416525:True:=trivial
theorem tw8671458441898227931:True:=trivial
theorem tw5833407999937670161:True:=trivial
theorem tw16686587710369262401:True:=trivial
theorem tw3807286199068116239:True:=trivial
theorem tw10676291191127681231:True:=trivial
theorem tw5619354636734892863:True:=trivial
theorem tw15718071530486509006:True:=trivial
theorem tw16724215064782778998:True:=trivial
theorem tw18077642821224340047:True:=trivial
theorem tw1215725584903446917:True:=trivial
theorem tw5395224444618407640:True:=trivial
theorem tw9442347738104056858:True:=trivial
theorem tw15516187928832370370:True:=trivial
theorem tw8334688337120043797:True:=trivial
theorem tw15054070874969429160:True:=trivial
theorem tw15216277583693525681:True:=trivial
theorem tw3764901483449267351:True:=trivial
theorem tw12178450814920827075:True:=trivial
theorem tw4631302477390737146:True:=trivial
theorem tw10676663847233479333:True:=trivial
theorem tw3192527391423767755:True:=trivial
theorem tw16224504549893871118:True:=trivial
theorem tw15161857358094157270:True:=trivial
theorem tw11754734158080268402:True:=trivial
theorem tw4379330294947518574:True:=trivial
theorem tw14102444012722278028:True:=trivial
theorem tw17759667604959865619:True:=trivial
theorem tw1522820455157336880:True:=trivial
theorem tw4141670629629483596:True:=trivial
theorem tw15288838539711432294:True:=trivial
theorem tw8090194139886196558:True:=trivial
theorem tw7012157779842874504:True:=trivial
theorem tw13302041900585145474:True:=trivial
theorem tw3779760523559315586:True:=trivial
theorem tw14798516882684879376:True:=trivial
theorem tw7873171854650693576:True:=trivial
theorem tw7494276996905686075:True:=trivial
theorem tw13785891510761591110:True:=trivial
theorem tw16224060510243448571:True:=trivial
theorem tw7000225735166900646:True:=trivial
theorem tw8100661545552677322:True:=trivial
theorem tw16323756220437764495:True:=trivial
theorem tw12336594666993607917:True:=trivial
theorem tw15007748827137485466:True:=trivial
theorem tw16817642027657982016:True:=trivial
theorem tw2567212456903039712:True:=trivial
theorem tw11656524685671111764:True:=trivial
theorem tw1746307648111537289:True:=trivial
theorem tw18173678698839251234:True:=trivial
theorem tw16666526323128029902:True:=trivial
theorem tw14204988609051709372:True:=trivial
theorem tw15890840500464511347:True:=trivial
theorem tw4321642659744629112:True:=trivial
theorem tw6110475867097497210:True:=trivial
theorem tw5645207821113994233:True:=trivial
theorem tw11437143199950878818:True:=trivial
theorem tw16954253861194124145:True:=trivial
theorem tw225822604611960801:True:=trivial
theorem tw556306561711886440:True:=trivial
theorem tw2374600595192629257:True:=trivial
theorem tw1696651599003401791:True:=trivial
theorem tw5771974268631473914:True:=trivial
theorem tw17520219046862403925:True:=trivial
theorem tw3107125333154196800:True:=trivial
theorem tw7789096609752747348:True:=trivial
theorem tw4638561907883449396:True:=trivial
theorem tw7047144950323272534:True:=trivial
theorem tw6519611422572068625:True:=trivial
theorem tw10318270932207390259:True:=trivial
theorem tw9155679478109567892:True:=trivial
theorem tw3261593582609485280:True:=trivial
theorem tw1624336302544429682:True:=trivial
theorem tw9964378263925962945:True:=trivial
theorem tw17298570385419398185:True:=trivial
theorem tw9120468231458509113:True:=trivial
theorem tw1653214955272036160:True:=trivial
theorem tw137307026881923799:True:=trivial
theorem tw2970202335633922382:True:=trivial
theorem tw2317911226006122212:True:=trivial
theorem tw13942669645182163429:True:=trivial
theorem tw7201725952106215285:True:=trivial
theorem tw3513909215605561314:True:=trivial
theorem tw13656078286191410162:True:=trivial
theorem tw11082035680850396312:True:=trivial
theorem tw10467977703311481128:True:=trivial
theorem tw7922031341286674839:True:=trivial
theorem tw18073912358669587156:True:=trivial
theorem tw10717435968921998917:True:=trivial
theorem tw967526107817201349:True:=trivial
theorem tw10069310570573564457:True:=trivial
theorem tw5173412127837790131:True:=trivial
theorem tw15589885118175725624:True:=trivial
theorem tw14857620435485148937:True:=trivial
theorem tw16895907670076841871:True:=trivial
theorem tw3582636865268364109:True:=trivial
theorem tw8455827104629828376:True:=trivial
theorem tw5506947622717159333:True:=trivial
theorem tw5481721665814049896:True:=trivial
theorem tw11305759153552192111:True:=trivial
theorem tw2581817949835648312:True:=trivial
theorem tw11501668997229590594:True:=trivial
theorem tw6571801505685229046:True:=trivial
theorem tw13541756886703474391:True:=trivial
theorem tw13665543344923625041:True:=trivial
theorem tw8790661232204373592:True:=trivial
theorem tw12248440977583060262:True:=trivial
theorem tw6632215177044480416:True:=trivial
theorem tw9599830511556347861:True:=trivial
theorem tw15437827474363350528:True:=trivial
theorem tw509317753419367988:True:=trivial
theorem tw1825035536940345706:True:=trivial
theorem tw2090566720975826005:True:=trivial
theorem tw10748381525955381325:True:=trivial
theorem tw10728233177960905440:True:=trivial
theorem tw8539279351578522433:True:=trivial
theorem tw1574292247961449319:True:=trivial
theorem tw6530873710668314609:True:=trivial
theorem tw12844699209719316765:True:=trivial
theorem tw8434567689536130420:True:=trivial
theorem tw3397023901601540640:True:=trivial
theorem tw3684233185197614005:True:=trivial
end PySem.W.Fast
namespace My
open PySem PySem.Spec PyProof.Rows L2 PI
theorem dk1{d:C6}(h:d.ps.length=1)(sc:zC d.N d.ps (defScope d.st))(b:∀(kV doc pm:Value) (an:Option Addr) (cdv ct:Value),∀u0:Value,bindArgs (PySem.W.fnOf d.x d.x (zd d.st) (defBody d.st) (defScope d.st) .none kV doc pm an cdv ct) ⟨[u0],[]⟩=pure (d.ps.zip [u0])):qCT d:=⟨sc,λ_ _ _ _ _ _ us hl=>by
 rw[h]at hl;obtain⟨_,rfl⟩:=PI.len1 hl;exact b _ _ _ _ _ _ _⟩
theorem dk2{d:C6}(h:d.ps.length=2)(sc:zC d.N d.ps (defScope d.st))(b:∀(kV doc pm:Value) (an:Option Addr) (cdv ct:Value),∀u0 u1:Value,bindArgs (PySem.W.fnOf d.x d.x (zd d.st) (defBody d.st) (defScope d.st) .none kV doc pm an cdv ct) ⟨[u0,u1],[]⟩=pure (d.ps.zip [u0,u1])):qCT d:=⟨sc,λ_ _ _ _ _ _ us hl=>by
 rw[h]at hl;obtain⟨_,_,rfl⟩:=PI.len2 hl;exact b _ _ _ _ _ _ _ _⟩
theorem dk3{d:C6}(h:d.ps.length=3)(sc:zC d.N d.ps (defScope d.st))(b:∀(kV doc pm:Value) (an:Option Addr) (cdv ct:Value),∀u0 u1 u2:Value,bindArgs (PySem.W.fnOf d.x d.x (zd d.st) (defBody d.st) (defScope d.st) .none kV doc pm an cdv ct) ⟨[u0,u1,u2],[]⟩=pure (d.ps.zip [u0,u1,u2])):qCT d:=⟨sc,λ_ _ _ _ _ _ us hl=>by
 rw[h]at hl;obtain⟨_,_,_,rfl⟩:=PI.len3 hl;exact b _ _ _ _ _ _ _ _ _⟩
theorem dk4{d:C6}(h:d.ps.length=4)(sc:zC d.N d.ps (defScope d.st))(b:∀(kV doc pm:Value) (an:Option Addr) (cdv ct:Value),∀u0 u1 u2 u3:Value,bindArgs (PySem.W.fnOf d.x d.x (zd d.st) (defBody d.st) (defScope d.st) .none kV doc pm an cdv ct) ⟨[u0,u1,u2,u3],[]⟩=pure (d.ps.zip [u0,u1,u2,u3])):qCT d:=⟨sc,λ_ _ _ _ _ _ us hl=>by
 rw[h]at hl;obtain⟨_,_,_,_,rfl⟩:=PI.len4 hl;exact b _ _ _ _ _ _ _ _ _ _⟩
theorem dks:∀d∈Tb.ds,qCT d:=by
 unfold Tb;dsimp only
 repeat' (refine wN.2 ⟨?_,?_⟩;first|exact dk1 rfl ⟨rfl,rfl,rfl,by decide +kernel,rfl,by decide +kernel,by decide +kernel⟩ λ_ _ _ _ _ _ _=>rfl|exact dk2 rfl ⟨rfl,rfl,rfl,by decide +kernel,rfl,by decide +kernel,by decide +kernel⟩ λ_ _ _ _ _ _ _ _=>rfl|exact dk3 rfl ⟨rfl,rfl,rfl,by decide +kernel,rfl,by decide +kernel,by decide +kernel⟩ λ_ _ _ _ _ _ _ _ _=>rfl|exact dk4 rfl ⟨rfl,rfl,rfl,by decide +kernel,rfl,by decide +kernel,by decide +kernel⟩ λ_ _ _ _ _ _ _ _ _ _=>rfl)
 exact λ_ h=>nomatch h
theorem all_mk{l:PySem.W.OpenLaw}{w:World}{K:PySem.W.Frag}{h:Heap}{mg:Str->Option Value}{fa:Addr}(X:K.In h)(G:h.Ns mainGlobals mg)(hfa:mg "law"=some (.ref fa))
  (hds:∀d∈Tb.ds,qEu K d)
  {ga0:Addr}{gn0:Nat}{gsl0:Array (Option Value)}{u0_0 u0_1 u0_2 u0_3 u0_4 u0_5:Tok}(g_LENGTHS:PySem.W.nsIn K mainGlobals "LENGTHS"=some (some (.ref ga0))) (m0:K.lookup ga0=some ⟨.type "tuple",none,.seq #[.int 1 u0_0,.int 2 u0_1,.int 4 u0_2,.int 8 u0_3,.int 16 u0_4,.int 32 u0_5] gn0,gsl0⟩)
  {tg_GREATEST_SIZE:Tok}(g_GREATEST_SIZE:PySem.W.nsIn K mainGlobals "GREATEST_SIZE"=some (some (.int 5 tg_GREATEST_SIZE)))
  {tg_MOST_ROUNDS:Tok}(g_MOST_ROUNDS:PySem.W.nsIn K mainGlobals "MOST_ROUNDS"=some (some (.int 40 tg_MOST_ROUNDS)))
  (hcs:T9 K (["HealError","NoSize","NoCore","NoNet"]:List Str)=true)
  (z_len:PySem.W.nsIn K mainGlobals "len"=some none)
  (z_sum:PySem.W.nsIn K mainGlobals "sum"=some none)
  (z_all:PySem.W.nsIn K mainGlobals "all"=some none)
  (z_any:PySem.W.nsIn K mainGlobals "any"=some none)
  (z_max:PySem.W.nsIn K mainGlobals "max"=some none)
  (z_min:PySem.W.nsIn K mainGlobals "min"=some none)
  (z_list:PySem.W.nsIn K mainGlobals "list"=some none)
  (z_int:PySem.W.nsIn K mainGlobals "int"=some none)
  (z_tuple:PySem.W.nsIn K mainGlobals "tuple"=some none)
  (z_range:PySem.W.nsIn K mainGlobals "range"=some none)
  (z_zip:PySem.W.nsIn K mainGlobals "zip"=some none)
  (z_isinstance:PySem.W.nsIn K mainGlobals "isinstance"=some none)
  (z_bool:PySem.W.nsIn K mainGlobals "bool"=some none)
  (z_str:PySem.W.nsIn K mainGlobals "str"=some none)
  (z_reversed:PySem.W.nsIn K mainGlobals "reversed"=some none)
  (z_repr:PySem.W.nsIn K mainGlobals "repr"=some none)
  (z_ValueError:PySem.W.nsIn K mainGlobals "ValueError"=some none)
  (main:∀ns:List Int,ns.length<=63->∃h',Fk Tb.fns 30 34 [.ref gs.length] (B6 gs ns)=.ok (.bl true,h')):
  ∃fd:FuncData,(∀(s:Shared) (v:Value),BindsTo s fd ⟨[v],[]⟩ [("_law_script",v)])/\∀base:Heap,K.In base->base.Ns mainGlobals mg->FnOk l.prog w K mg base CX0 60 fa fd ["_law_script"] (w9 K):=by
 obtain⟨fas,fds,hT⟩:=qBA X G Tb.ds hds dks;have O:l4 K mg [ga0] Tb fas fds:=by
  refine⟨hT,λx e hx=>?_,λx hx=>?_,ClsOk.rec_ X G hcs (by decide +kernel) rfl (by decide +kernel) (by decide),λa ha=>(List.mem_cons.mp ha).elim (λz=>by subst z;exact⟨_,m0,rfl,rfl⟩) λha=>nomatch ha⟩
  ·have hx2:List.lookup x ([("LENGTHS",E.glob 0),("GREATEST_SIZE",E.cst (.int 5)),("MOST_ROUNDS",E.cst (.int 40))]:List (Str×E))=some e:=hx;simp only[List.lookup_cons,List.lookup_nil]at hx2;split at hx2
   ·rename_i hq;have hq2:x="LENGTHS":=by simpa using hq
    subst hq2;cases hx2;exact .inr ⟨_,_,rfl,PySem.W.mg_of X G g_LENGTHS,rfl⟩
   split at hx2
   ·rename_i hq;have hq2:x="GREATEST_SIZE":=by simpa using hq
    subst hq2;cases hx2;exact .inl ⟨_,_,rfl,PySem.W.mg_of X G g_GREATEST_SIZE,⟨_,rfl⟩,λ_=>rfl⟩
   split at hx2
   ·rename_i hq;have hq2:x="MOST_ROUNDS":=by simpa using hq
    subst hq2;cases hx2;exact .inl ⟨_,_,rfl,PySem.W.mg_of X G g_MOST_ROUNDS,⟨_,rfl⟩,λ_=>rfl⟩
   cases hx2
  ·have hx2:x∈(["len","sum","all","any","max","min","list","int","tuple","range","zip","isinstance","bool","str","reversed","repr","ValueError"]:List Str):=List.contains_iff_mem.mp hx;simp only[List.mem_cons,wI,or_false]at hx2;rcases hx2 with rfl|rfl|rfl|rfl|rfl|rfl|rfl|rfl|rfl|rfl|rfl|rfl|rfl|rfl|rfl|rfl|rfl
   ·exact PySem.W.mg_none_of X G z_len
   ·exact PySem.W.mg_none_of X G z_sum
   ·exact PySem.W.mg_none_of X G z_all
   ·exact PySem.W.mg_none_of X G z_any
   ·exact PySem.W.mg_none_of X G z_max
   ·exact PySem.W.mg_none_of X G z_min
   ·exact PySem.W.mg_none_of X G z_list
   ·exact PySem.W.mg_none_of X G z_int
   ·exact PySem.W.mg_none_of X G z_tuple
   ·exact PySem.W.mg_none_of X G z_range
   ·exact PySem.W.mg_none_of X G z_zip
   ·exact PySem.W.mg_none_of X G z_isinstance
   ·exact PySem.W.mg_none_of X G z_bool
   ·exact PySem.W.mg_none_of X G z_str
   ·exact PySem.W.mg_none_of X G z_reversed
   ·exact PySem.W.mg_none_of X G z_repr
   ·exact PySem.W.mg_none_of X G z_ValueError
 have hG:L3 K [ga0] gs:=⟨⟨.inr ⟨_,_,_,m0,rfl,rfl,by show 6<=sizeLine;decide,.cons ⟨_,rfl⟩ (.cons ⟨_,rfl⟩ (.cons ⟨_,rfl⟩ (.cons ⟨_,rfl⟩ (.cons ⟨_,rfl⟩ (.cons ⟨_,rfl⟩ (.nil))))))⟩,rfl⟩,True.intro⟩
 obtain⟨a,f,e1,e2,F,_,em,_⟩:=hT 34 _ rfl;have e:=hfa.symm.trans em;cases e;exact⟨f,qGd F (dks _ (List.mem_of_getElem? (i:=34) rfl)) rfl,λbase _ _=>Y9 O hG (i:=34) rfl e1 e2 rfl main⟩
theorem walk{l:PySem.W.OpenLaw}{q:Program}{loose:List Str}{XP:(Str->Option Value)->Heap->Prop}{YP:World->Heap->Prop}{d:DefRec}{K:Params->PySem.W.Frag}(hn:l.most=some 63)(hdf:d.params.defaults=[])
  (hY:∀(w:World) (h:Heap),YP w h->(K w.params).In h)
  (F:∀(w:World) (mg:Str->Option Value) (fa:Addr) (h:Heap),(K w.params).In h->h.Ns mainGlobals mg->mg d.name=some (.ref fa) ->
   ∃fd:FuncData,(∀(s:Shared) (u:Value),BindsTo s fd ⟨[u],[]⟩ [("_law_script",u)])/\∀base:Heap,(K w.params).In base->base.Ns mainGlobals mg->FnOk l.prog w (K w.params) mg base CX0 60 fa fd ["_law_script"] (w9 (K w.params))):
  PySem.W.WalkO q loose XP YP l.row.toRowW d [] (λf vs=>PySem.call f vs):=
 L2.walk_of (n:=63) (k:=60) (x:="_law_script") (CX:=λ_=>CX0) (sp:=λw=>w9 (K w.params)) hn (by decide) hdf ⟨rfl,by decide,by decide,rfl⟩ hY F (λ_ _ a ns hl hO hS=>⟨a,ns,rfl,hO,hS,hl,λ_=>rfl⟩) λ_ _ _ _ _ z=>z
end My
open PySem PySem.W PyProof.Rows
set_option maxRecDepth 100000 in
set_option maxHeartbeats 0 in
theorem PySem.Challenge.cw_healhalves_k13_nets_refused_holds : PySem.Challenge.rw_healhalves_k13_nets_refused.Holds := by
 w_on;o_law;k_head;(case hw=>w_witness2)
 k_fill
 refine My.walk (l:=PySem.Challenge.rw_healhalves_k13_nets_refused) rfl rfl (λw h Y=>PySem.W.kIn_of Y) ?F
 case F=>
  intro w mg fa h KX G hmg
  refine' My.all_mk KX G hmg ?ds ?g_LENGTHS ?m0 ?g_GREATEST_SIZE ?g_MOST_ROUNDS ?hcs ?z_len ?z_sum ?z_all ?z_any ?z_max ?z_min ?z_list ?z_int ?z_tuple ?z_range ?z_zip ?z_isinstance ?z_bool ?z_str ?z_reversed ?z_repr ?z_ValueError My.main
  case ds=>
   unfold My.Tb;dsimp only
   repeat' (refine wN.2 ⟨⟨_,_,_,_,_,_,_,_,_,_,by k_is,by k_is,by k_is,by k_is⟩,?_⟩)
   exact λ_ h=>nomatch h
  case hcs=>kernel_rfl
  all_goals (try k_is)
