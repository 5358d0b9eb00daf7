import PyProof.Rows.All
import Wide.All
import OpenK.AllK
import Wide.FinOn
import Lean
import PyProof.EqAt
import PyProof.EqKinds
import PyProof.TupleCall
import PyProof.NeKinds
import PyProof.ZipIter
import PyProof.ReprRoads
import KE.KRevIter
import PyProof.EnumMake
import PyProof.EnumFor
import PyProof.WalksEnum
import PyProof.Rows.EnumRows
import PyProof.FactsAll.range_2
import PyProof.AutoRange
import PySem.Challenge.RW_healhalves_k01_signs_and_sums
set_option bootstrap.genMatcherCode false
set_option compiler.extract_closed false
set_option genSizeOf false
set_option genSizeOfSpec false
set_option Elab.async false
set_option linter.all false
set_option maxRecDepth 100000
namespace L2
open PySem PySem.Spec PyProof.Rows
noncomputable abbrev Key:=Sum Int Str
noncomputable def qE3:Key -> Value -> Bool
 | .inl k,v=>Value.isInt k v
 | .inr x,v=>Value.isStrOf x v
noncomputable def qMJ (w:World):Key -> Int
 | .inl k=>hashInt k
 | .inr x=>hashStr w x
theorem qAZ:∀ {k:Key} {v:Value},qE3 k v=true -> (∃ i t,k=Sum.inl i/\v=Value.int i t)\/(∃ x t,k=Sum.inr x/\v=Value.str x t)
 | .inl i,v,h=>by
  obtain ⟨t,e⟩:=Value.isInt_shape (k:=i) (v:=v) h
  exact .inl ⟨i,t,rfl,e⟩
 | .inr x,v,h=>by
  obtain ⟨t,e⟩:=Value.isStrOf_shape (x:=x) (v:=v) h
  exact .inr ⟨x,t,rfl,e⟩
theorem qGA (i:Int) (t:Tok):qE3 (.inl i) (.int i t)=true:=by simp [qE3,Value.isInt]
theorem qGH (x:Str) (t:Tok):qE3 (.inr x) (.str x t)=true:=by simp [qE3,Value.isStrOf]
theorem qIf (a b:Int):decide ((Sum.inl a:Key)=Sum.inl b)=(a==b):=by
 by_cases e:a=b
 ·subst e;simp
 ·have h:¬ (Sum.inl a:Key)=Sum.inl b:=fun q=>e (Sum.inl.inj q)
  rw [decide_eq_false h]
  exact (beq_eq_false_iff_ne.mpr e).symm
theorem qJk (a b:Str):decide ((Sum.inr a:Key)=Sum.inr b)=decide (a=b):=by
 by_cases e:a=b
 ·subst e;simp
 ·have h:¬ (Sum.inr a:Key)=Sum.inr b:=fun q=>e (Sum.inr.inj q)
  rw [decide_eq_false h,decide_eq_false e]
theorem qJe (a:Int) (b:Str):decide ((Sum.inl a:Key)=Sum.inr b)=false:=decide_eq_false (fun q=>nomatch q)
theorem qIl (a:Str) (b:Int):decide ((Sum.inr a:Key)=Sum.inl b)=false:=decide_eq_false (fun q=>nomatch q)
noncomputable def qAl (prog:Program) (w:World):PySem.KeyKind prog w Key where
 is:=qE3
 hash:=qMJ w
 inj:=fun v a b ha hb=>by
  rcases qAZ ha with ⟨i,t,rfl,rfl⟩ | ⟨x,t,rfl,rfl⟩
  ·rcases qAZ hb with ⟨j,u,rfl,e⟩ | ⟨y,u,rfl,e⟩
   ·injection e with e1 _;rw [e1]
   ·exact nomatch e
  ·rcases qAZ hb with ⟨j,u,rfl,e⟩ | ⟨y,u,rfl,e⟩
   ·exact nomatch e
   ·injection e with e1 _;rw [e1]
 byValue:=fun k v h=>by
  rcases qAZ h with ⟨i,t,rfl,rfl⟩ | ⟨x,t,rfl,rfl⟩<;>rfl
 pyHash:=fun hv h=>by
  rcases qAZ hv with ⟨i,t,rfl,rfl⟩ | ⟨x,t,rfl,rfl⟩
  ·exact wpAny_pyHash_int h
  ·exact wpAny_pyHash_str h
 eqBool:=fun hu hv h=>by
  rcases qAZ hu with ⟨i,t,rfl,rfl⟩ | ⟨x,t,rfl,rfl⟩
  ·rcases qAZ hv with ⟨j,u,rfl,rfl⟩ | ⟨y,u,rfl,rfl⟩
   ·rw [qIf] at h;exact wpAny_eqBool_int h
   ·rw [qJe] at h;exact SeqAt.EqAt.int_str i t y u _ _ _ _ h
  ·rcases qAZ hv with ⟨j,u,rfl,rfl⟩ | ⟨y,u,rfl,rfl⟩
   ·rw [qIl] at h;exact SeqAt.EqAt.str_int x t j u _ _ _ _ h
   ·rw [qJk] at h;exact wpAny_eqBool_str h
 «strs»:=fun k x t v h=>by
  rcases qAZ h with ⟨i,u,rfl,e⟩ | ⟨y,u,rfl,e⟩
  ·exact nomatch e
  ·injection e with e1 _
   subst e1
   cases v<;>rfl
theorem qEE (prog:Program) (w:World) (i:Int) (t:Tok):(qAl prog w).is (.inl i) (.int i t)=true:=qGA i t
theorem qD0 (prog:Program) (w:World) (x:Str) (t:Tok):(qAl prog w).is (.inr x) (.str x t)=true:=qGH x t
open PySem PySem.Spec PyProof.Rows
inductive V where
 | non | bl (b:Bool) | int (i:Int) | str (x:Str) | byt (b:Array UInt8) | flt (b:UInt64) | ref (a:Addr) | ty (n:String)
 deriving DecidableEq
noncomputable def RelV:V -> Value -> Prop
 | .non,u=>u=Value.none
 | .bl b,u=>u=Value.bool b
 | .int i,u=>∃ t,u=Value.int i t
 | .str x,u=>∃ t,u=Value.str x t
 | .byt b,u=>∃ t,u=Value.bytes b t
 | .flt b,u=>∃ t,u=Value.float b t
 | .ref a,u=>u=Value.ref a
 | .ty n,u=>u=Value.type n
noncomputable abbrev Vals:List V -> List Value -> Prop:=Paired RelV
theorem Vals.length {xs:List V} {us:List Value} (r:Vals xs us):xs.length=us.length:=Paired.length r
theorem Vals.get:∀ {xs:List V} {us:List Value} {i:Nat} {x:V},Vals xs us -> xs[i]?=some x -> ∃ u,us[i]?=some u/\RelV x u
 | _,_,_,_,.nil,e=>by simp at e
 | _,_,0,_,.cons r _,e=>by simp at e;subst e;exact ⟨_,rfl,r⟩
 | _,_,i + 1,x,.cons _ t,e=>by
  obtain ⟨u,h1,h2⟩:=Vals.get (i:=i) (x:=x) t (by simpa using e)
  exact ⟨u,by simpa using h1,h2⟩
theorem Vals.set {x:V} {u:Value} (r:RelV x u):∀ {xs:List V} {us:List Value} (i:Nat),Vals xs us -> Vals (xs.set i x) (us.set i u)
 | _,_,_,.nil=>.nil
 | _,_,0,.cons _ t=>.cons r t
 | _,_,i + 1,.cons q t=>.cons q (Vals.set r i t)
theorem Vals.append:∀ {xs ys:List V} {us ws:List Value},Vals xs us -> Vals ys ws -> Vals (xs++ys) (us++ws)
 | _,_,_,_,.nil,s=>s
 | _,_,_,_,.cons r t,s=>.cons r (Vals.append t s)
theorem Vals.take:∀ {xs:List V} {us:List Value} (n:Nat),Vals xs us -> Vals (xs.take n) (us.take n)
 | _,_,0,_=>.nil
 | _,_,_ + 1,.nil=>.nil
 | _,_,n + 1,.cons r t=>.cons r (Vals.take n t)
theorem Vals.drop:∀ {xs:List V} {us:List Value} (n:Nat),Vals xs us -> Vals (xs.drop n) (us.drop n)
 | _,_,0,r=>r
 | _,_,_ + 1,.nil=>.nil
 | _,_,n + 1,.cons _ t=>Vals.drop n t
noncomputable def RelO:Option V -> Option Value -> Prop
 | some v,some u=>RelV v u
 | none,none=>True
 | _,_=>False
noncomputable def KV {κ:Type}:List (κ×V) -> List (κ×Value) -> Prop:=Paired fun (p:κ×V) (q:κ×Value)=>p.1=q.1/\RelV p.2 q.2
noncomputable def kV:Key -> V
 | .inl i=>.int i
 | .inr x=>.str x
inductive HO where
 | lst (xs:List V)
 | tup (xs:List V)
 | dK (kvs:List (Key×V)) | dT (kvs:List (List Key×V))
 | set (S:Int -> Bool) (n:Nat)
 | ins (C dx:Addr) (fs:List (Str×V))
 | own (x:Addr)
 | xd (fs:List (Str×V))
 | met (f x:Addr)
 | rng (lo hi:Int)
 | frz (o:Obj) (u:HO)
 | tbl (ps:Array Value)
 | ext (φ:Heap -> Prop)
noncomputable abbrev Hp:=Addr -> Option HO
noncomputable def upd (H:Hp) (a:Addr) (o:HO):Hp:=fun b=>if b=a then some o else H b
theorem qAI {H:Hp} {a:Addr} {o:HO}:upd H a o a=some o:=by unfold upd;rw [if_pos rfl]
theorem qAH {H:Hp} {a b:Addr} {o:HO} (h:b≠a):upd H a o b=H b:=by unfold upd;rw [if_neg h]
theorem qKZ {H:Hp} {a b:Addr} {o u:HO} (h:H a=some o) (h':H b=some u) (d:o≠u):a≠b:=by
 intro e;subst e;rw [h] at h';exact d (Option.some.inj h')
theorem ne_of_none {H:Hp} {a b:Addr} {o:HO} (h:H a=some o) (h':H b=none):a≠b:=by
 intro e;subst e;rw [h] at h';cases h'
section
variable (P:Program) (w:World)
noncomputable def ObjOk (H:Hp) (h:Heap) (a:Addr):HO -> Prop
 | .lst xs=>xs.length<=sizeLine/\∃ (its:List Value) (n:Nat),Vals xs its/\h.get? a=some { cls:=.type "list",data:=.seq its.toArray n }
 | .tup xs=>xs.length<=sizeLine/\∃ its:List Value,Vals xs its/\IsTup h a its.toArray
 | .dK kvs=>kvs.length<=sizeLine/\(a==sysModules)=false/\∃ vs,KV kvs vs/\h.DictOf (qAl P w) a vs
 | .dT kvs=>kvs.length<=sizeLine/\(a==sysModules)=false/\∃ xs:List (List Key×Addr×Value),
   Paired (fun (p:List Key×V) (q:List Key×Addr×Value)=>p.1=q.1/\H q.2.1=some (.tup (p.1.map kV))/\RelV p.2 q.2.2) kvs xs/\
   ∃ o es ep,h.get? a=some o/\o.ExactDict/\o.data=.dict es ep/\es.toList=xs.map (entryOfKey (tupleKind (qAl P w)))/\(xs.map (·.1)).Nodup
 | .set S n=>h.SetOf (intKind P w) a S n
 | .ins C dx fs=>H dx=some (.own a)/\fs.length<=1000/\dx≠a/\h.get? a=some (PySem.W.instObj C dx)/\
   ∃ mA,h.Ns1 dx mA/\(∀ f,RelO (fs.lookup f) (mA f))/\PySem.Within mA (fs.map (·.1))
 | .own _=>∃ o,h.get? a=some o
 | .xd fs=>∃ mA,h.Ns1 a mA/\∀ f,RelO (fs.lookup f) (mA f)
 | .rng lo hi=>∃ t u v,h.get? a=some { cls:=.type "range",data:=.fields #[.int lo t,.int hi u,.int 1 v] }
 | .frz o u=>h.get? a=some o/\ObjOk H h a u
 | .tbl ps=>h.get? a=some { cls:=.none,data:=.fields ps }
 | .met f x=>h.get? a=some (PySem.W.methodObj (.ref f) (.ref x))
 | .ext φ=>φ h/\(∃ o,h.get? a=some o)/\∀ h1 h2:Heap,φ h1 -> (∀ o,h1.get? a=some o -> h2.get? a=some o) -> φ h2
noncomputable def HOk (H:Hp) (h:Heap):Prop:=∀ a o,H a=some o -> ObjOk P w H h a o
end
section
variable {P:Program} {w:World} {H H':Hp} {h h':Heap} {a:Addr} {o:HO}
theorem ObjOk.lt (x:ObjOk P w H h a o):a < h.objs.size:=by
 cases o with
 | lst xs=>obtain ⟨_,_,_,_,e⟩:=x;exact Heap.lt_size e
 | tup xs=>obtain ⟨_,_,_,p⟩:=x;exact p.lt
 | dK kvs=>obtain ⟨_,_,_,_,o,_,_,e,_⟩:=x;exact Heap.lt_size e
 | dT kvs=>obtain ⟨_,_,_,_,o,_,_,e,_⟩:=x;exact Heap.lt_size e
 | set S n=>obtain ⟨o,_,_,_,e,_⟩:=x;exact Heap.lt_size e
 | ins C dx fs=>obtain ⟨_,_,_,e,_⟩:=x;exact Heap.lt_size e
 | own y=>obtain ⟨_,e⟩:=x;exact Heap.lt_size e
 | xd fs=>obtain ⟨_,⟨_,_,_,e,_⟩,_⟩:=x;exact Heap.lt_size e
 | rng lo hi=>obtain ⟨_,_,_,e⟩:=x;exact Heap.lt_size e
 | frz ob u=>obtain ⟨e,_⟩:=x;exact Heap.lt_size e
 | tbl ps=>exact Heap.lt_size (show h.get? a=some _ from x)
 | met f y=>exact Heap.lt_size (show h.get? a=some _ from x)
 | ext φ=>obtain ⟨_,⟨_,e⟩,_⟩:=x;exact Heap.lt_size e
theorem Paired.mapP {α β:Type} {F G:α -> β -> Prop}:∀ {l₁:List α} {l₂:List β},Paired F l₁ l₂ -> (∀ a b,F a b -> G a b) -> Paired G l₁ l₂
 | _,_,.nil,_=>.nil
 | _,_,.cons r t,f=>.cons (f _ _ r) (Paired.mapP t f)
theorem ObjOk.stay (x:ObjOk P w H h a o) (k:∀ b u,(b=a\/H b=some (.own a)) -> h.get? b=some u -> h'.get? b=some u)
  (ho:∀ b,H b=some (.own a) -> H' b=some (.own a)) (ht:∀ b xs,H b=some (.tup xs) -> H' b=some (.tup xs)):ObjOk P w H' h' a o:=by
 induction o with
 | lst xs=>obtain ⟨z,its,n,r,e⟩:=x;exact ⟨z,its,n,r,k _ _ (.inl rfl) e⟩
 | tup xs=>obtain ⟨z,its,r,ob,e,c⟩:=x;exact ⟨z,its,r,ob,k _ _ (.inl rfl) e,c⟩
 | dK kvs=>obtain ⟨z,y,vs,r,ob,es,ep,e,c⟩:=x;exact ⟨z,y,vs,r,ob,es,ep,k _ _ (.inl rfl) e,c⟩
 | dT kvs=>
  obtain ⟨z,y,xs,r,ob,es,ep,e,c⟩:=x
  exact ⟨z,y,xs,Paired.mapP r fun p q z=>⟨z.1,ht _ _ z.2.1,z.2.2⟩,ob,es,ep,k _ _ (.inl rfl) e,c⟩
 | set S n=>obtain ⟨ob,es,ep,t,e,c⟩:=x;exact ⟨ob,es,ep,t,k _ _ (.inl rfl) e,c⟩
 | ins C dx fs=>
  obtain ⟨d,z,ne,e,mA,⟨od,es,ep,e2,c⟩,r⟩:=x
  exact ⟨ho _ d,z,ne,k _ _ (.inl rfl) e,mA,⟨od,es,ep,k _ _ (.inr d) e2,c⟩,r⟩
 | own y=>obtain ⟨ob,e⟩:=x;exact ⟨ob,k _ _ (.inl rfl) e⟩
 | xd fs=>obtain ⟨mA,⟨od,es,ep,e,c⟩,r⟩:=x;exact ⟨mA,⟨od,es,ep,k _ _ (.inl rfl) e,c⟩,r⟩
 | rng lo hi=>obtain ⟨t,u,v,e⟩:=x;exact ⟨t,u,v,k _ _ (.inl rfl) e⟩
 | frz ob u ih=>obtain ⟨e,q⟩:=x;exact ⟨k _ _ (.inl rfl) e,ih q⟩
 | tbl ps=>
  have e:h.get? a=some { cls:=.none,data:=.fields ps }:=x
  show h'.get? a=some { cls:=.none,data:=.fields ps }
  exact k a _ (.inl rfl) e
 | met f y=>
  have e:h.get? a=some (PySem.W.methodObj (.ref f) (.ref y)):=x
  show h'.get? a=some (PySem.W.methodObj (.ref f) (.ref y))
  exact k a _ (.inl rfl) e
 | ext φ=>obtain ⟨p,⟨o,e⟩,st⟩:=x;exact ⟨st _ _ p fun o q=>k _ _ (.inl rfl) q,⟨o,k _ _ (.inl rfl) e⟩,st⟩
theorem HOk.lt (x:HOk P w H h) (e:H a=some o):a < h.objs.size:=(x a o e).lt
theorem HOk.fresh (x:HOk P w H h) (e:h.objs.size<=a):H a=none:=by
 cases q:H a with
 | none=>rfl
 | some u=>exact absurd (Nat.lt_of_lt_of_le (x.lt q) e) (Nat.lt_irrefl _)
theorem HOk.kept (x:HOk P w H h) (k:∀ b u,h.get? b=some u -> h'.get? b=some u):HOk P w H h':=fun a o e=>
 (x a o e).stay (fun b u _ q=>k b u q) (fun _ q=>q) fun _ _ q=>q
theorem HOk.laid (x:HOk P w H h) (k:∀ b u,h.get? b=some u -> h'.get? b=some u) (hp:h.objs.size<=a) (new:ObjOk P w (upd H a o) h' a o):HOk P w (upd H a o) h':=fun b u e=>by
 have hn:=x.fresh hp
 by_cases hb:b=a
 ·subst hb;rw [qAI] at e;cases e;exact new
 ·rw [qAH hb] at e
  exact (x b u e).stay (fun c v _ q=>k c v q) (fun c q=>by rw [qAH (ne_of_none q hn)];exact q) fun c xs q=>by rw [qAH (ne_of_none q hn)];exact q
end
noncomputable def Rd (H:Hp) (a:Addr) (u:HO):Prop:=H a=some u\/∃ o,H a=some (.frz o u)
theorem Rd.ok {P:Program} {w:World} {H:Hp} {h:Heap} {a:Addr} {u:HO} (r:Rd H a u) (x:HOk P w H h):ObjOk P w H h a u:=by
 rcases r with r | ⟨o,r⟩
 ·exact x a u r
 ·obtain ⟨_,q⟩:=x a _ r
  exact q
noncomputable def Mut:Option HO -> Prop
 | some (.lst _)=>True
 | some (.dK _)=>True
 | some (.dT _)=>True
 | some (.set _ _)=>True
 | some (.ins _ _ _)=>True
 | some (.ext _)=>True
 | _=>False
section
variable {P:Program} {w:World} {H:Hp} {h h':Heap} {x e:Addr} {o':HO}
theorem HOk.write (ok:HOk P w H h) (mu:Mut (H x)) (he:e=x\/H e=some (.own x)) (k:∀ b u,b≠e -> h.get? b=some u -> h'.get? b=some u) (heo:∃ u,h'.get? e=some u)
  (new:ObjOk P w (upd H x o') h' x o'):HOk P w (upd H x o') h':=fun b u q=>by
 have nown:∀ c y,H c=some (.own y) -> c≠x:=fun c y r z=>by subst z;rw [r] at mu;exact mu
 have ntup:∀ c xs,H c=some (.tup xs) -> c≠x:=fun c xs r z=>by subst z;rw [r] at mu;exact mu
 by_cases hb:b=x
 ·subst hb;rw [qAI] at q;cases q;exact new
 ·rw [qAH hb] at q
  by_cases hbe:b=e
  ·have q':H b=some (.own x):=by
    rcases he with z | z
    ·exact absurd (hbe.trans z) hb
    ·rw [hbe];exact z
   rw [q] at q';cases q'
   obtain ⟨v,hv⟩:=heo
   exact ⟨v,by rw [hbe];exact hv⟩
  ·refine (ok b u q).stay (fun c v hc r=>k c v ?_ r) (fun c r=>by rw [qAH (nown c b r)];exact r) fun c xs r=>by rw [qAH (ntup c xs r)];exact r
   rcases hc with rfl | hc
   ·exact hbe
   ·rintro rfl
    rcases he with z | z
    ·exact nown c b hc z
    ·rw [hc] at z;cases z;exact hb rfl
end
structure Un (fs ex:List Addr) (H H':Hp) (h h':Heap):Prop where
 keep:∀ b o,h.get? b=some o -> H b=none -> b∉fs -> b∉ex -> h'.get? b=some o
 slot:∀ b o,h.get? b=some o -> H b=none -> b∈fs -> b∉ex -> ∃ sl,h'.get? b=some { o with slots:=sl }
 free:∀ b o,h.get? b=some o -> H b=none -> b∉ex -> H' b=none
 there:∀ b o,h.get? b=some o -> b∉ex -> ∃ o',h'.get? b=some o'
 tups:∀ b xs,H b=some (.tup xs) -> H' b=some (.tup xs)
 frzs:∀ b o u,H b=some (.frz o u) -> H' b=some (.frz o u)
 tbls:∀ b ps,H b=some (.tbl ps) -> ∃ more,H' b=some (.tbl (ps++more))
section
variable {fs fs' ex ex':List Addr} {H H1 H2:Hp} {h h1 h2 h':Heap} {a x e:Addr} {o:HO}
theorem Un.any (u:Un fs ex H H1 h h1) {b:Addr} {ob:Obj} (q:h.get? b=some ob) (n:H b=none) (hx:b∉ex):∃ sl,h1.get? b=some { ob with slots:=sl }:=by
 by_cases hb:b∈fs
 ·exact u.slot b ob q n hb hx
 ·exact ⟨ob.slots,u.keep b ob q n hb hx⟩
theorem Un.kept (k:∀ b u,h.get? b=some u -> h'.get? b=some u):Un fs ex H H h h':=
 ⟨fun b ob q _ _ _=>k b ob q,fun b ob q _ _ _=>⟨ob.slots,k b ob q⟩,fun _ _ _ n _=>n,fun b ob q _=>⟨ob,k b ob q⟩,fun _ _ q=>q,fun _ _ _ q=>q,fun _ ps q=>⟨#[],by rw [q];simp⟩⟩
theorem Un.refl:Un fs ex H H h h:=Un.kept fun _ _ q=>q
theorem Un.laid (k:∀ b u,h.get? b=some u -> h'.get? b=some u) (hp:h.objs.size<=a) (hn:H a=none):Un fs ex H (upd H a o) h h' where
 keep:=fun b u q _ _ _=>k b u q
 slot:=fun b u q _ _ _=>⟨u.slots,k b u q⟩
 free:=fun b u q n _=>by rw [qAH (Nat.ne_of_lt (Nat.lt_of_lt_of_le (Heap.lt_size q) hp))];exact n
 there:=fun b u q _=>⟨u,k b u q⟩
 tups:=fun b xs q=>by rw [qAH (ne_of_none q hn)];exact q
 frzs:=fun b u xs q=>by rw [qAH (ne_of_none q hn)];exact q
 tbls:=fun b ps q=>⟨#[],by rw [qAH (ne_of_none q hn),q];simp⟩
theorem Un.write (mu:Mut (H x)) (he:e=x\/H e=some (.own x)) (k:∀ b u,b≠e -> h.get? b=some u -> h'.get? b=some u) (heo:∃ u,h'.get? e=some u):Un fs ex H (upd H x o) h h':=by
 have hx:∀ b,H b=none -> b≠x:=fun b n z=>by subst z;rw [n] at mu;exact mu
 have hb:∀ b,H b=none -> b≠e:=fun b n z=>by
  subst z
  rcases he with r | r
  ·exact hx b n r
  ·rw [n] at r;cases r
 have hm:∀ b u,H b=some u -> ¬ Mut (some u) -> b≠x:=fun b u q nm z=>by subst z;rw [q] at mu;exact nm mu
 refine ⟨fun b u q n _ _=>k b u (hb b n) q,fun b u q n _ _=>⟨u.slots,k b u (hb b n) q⟩,fun b u q n _=>by rw [qAH (hx b n)];exact n,fun b u q _=>?_,
  fun b xs q=>by rw [qAH (hm b _ q fun z=>z)];exact q,fun b u xs q=>by rw [qAH (hm b _ q fun z=>z)];exact q,fun b ps q=>⟨#[],by rw [qAH (hm b _ q fun z=>z),q];simp⟩⟩
 by_cases hbe:b=e
 ·subst hbe;exact heo
 ·exact ⟨u,k b u hbe q⟩
end
noncomputable def trk (h:Heap) (H:Hp):List Addr:=(List.range h.objs.size).filter fun a=>(H a).isSome
noncomputable def qGX (h:Heap) (H:Hp):Heap:=PySem.W.hideAll h (trk h H)
theorem qFX (h:Heap) (H:Hp):(qGX h H).objs.size=h.objs.size:=PySem.W.hideAll_size _ _
theorem qGt {h:Heap} {H:Hp} {b:Addr} {o:Obj} (e:h.get? b=some o) (n:H b=none):(qGX h H).get? b=some o:=
 PySem.W.hideAll_get _ e fun hm=>by
  have q:(H b).isSome=true:=(List.mem_filter.mp hm).2
  rw [n] at q;simp at q
theorem qHg {h:Heap} {H:Hp} {b:Addr} {o:Obj} (e:(qGX h H).get? b=some o):h.get? b=some o/\H b=none:=by
 have e':h.get? b=some o:=PySem.W.of_hideAll (trk h H) e
 refine ⟨e',?_⟩
 cases q:H b with
 | none=>rfl
 | some x=>
  have hm:b∈trk h H:=List.mem_filter.mpr ⟨List.mem_range.mpr (Heap.lt_size e'),by simp [q]⟩
  have z:(qGX h H).get? b=none:=PySem.W.hideAll_none (trk h H) hm
  rw [z] at e;cases e
noncomputable def qHu (g h:Heap) (L:Addr):List (Addr×Obj):=(List.range h.objs.size).filterMap fun a=>if a=L\/(g.get? a).isSome=true then none else (h.get? a).map fun o=>(a,o)
noncomputable def qCA (g h:Heap) (L d:Addr):List (Addr×Obj):=(qHu g h L).filter fun p=>decide (p.1≠d)
open PySem PySem.Spec PyProof.Rows
structure Mod (K:PySem.W.Frag) (mg:Str -> Option Value) (base:Heap):Prop where
 kin:K.In base
 glob:base.Ns mainGlobals mg
 blt:∃ mb,base.Ns builtinsNs mb/\∀ x:Str,x≠"__name__" -> mb x=bootBuiltins x
 nolimit:base.NoLimit
structure Cx where
 prog:Program
 w:World
 K:PySem.W.Frag
 mg:Str -> Option Value
 base:Heap
 A:Around
 N:List Str
 s₀:Shared
 H₀:Hp
 env:Env
 outer:List Env
 stack:List Env
 ex:List Addr
 fn:Str -> Bool
 calm:Bool
 pn:List (Addr×Obj)
 xe:Value -> Shared -> Prop
noncomputable def frs (l:List Env):List Addr:=l.filterMap (·.frame)
noncomputable abbrev Cx.fs (X:Cx):List Addr:=frs X.outer
noncomputable def Vis (sc:Scope) (x:Str):Prop:=sc.names.lookup x=some .local\/sc.names.lookup x=some .cell\/sc.names.lookup x=some .free
noncomputable def Loc (sc:Scope) (x:Str):Prop:=sc.names.lookup x=some .local\/sc.names.lookup x=some .cell
noncomputable def qMg (env:Env) (h:Heap) (m:Str -> Option Value) (x:Str) (u:Value):Prop:=
 (env.kindOf x=some .local/\m x=some u)\/((env.kindOf x=some .cell\/env.kindOf x=some .free)/\∃ c,env.cells.lookup x=some c/\h.IsCell c (some u))
structure Cx.Ok (X:Cx):Prop where
 mod:Mod X.K X.mg X.base
 kind:X.env.scope.kind=.function
 glob:X.env.globals=mainGlobals
 blt:X.env.builtins=builtinsNs
 above:X.s₀.heap.objs.size<=X.env.locals
 inj:∀ x y c,X.env.cells.lookup x=some c -> X.env.cells.lookup y=some c -> x=y
 has:∀ x,(X.env.kindOf x=some .cell\/X.env.kindOf x=some .free) -> ∃ c,X.env.cells.lookup x=some c
 cab:∀ x c,X.fn x=true -> X.env.cells.lookup x=some c -> X.s₀.heap.objs.size<=c
 hd:X.calm=true -> X.A.handled=none
 frames:X.A.frames=some X.stack
 stk:X.stack=X.outer\/(X.stack=X.env::X.outer/\X.env.frame=some X.env.locals)
 exf:∀ b∈X.ex,b≠X.env.locals/\∀ x c,X.env.cells.lookup x=some c -> c≠b
 bs:∀ b o,X.base.get? b=some o -> X.s₀.heap.get? b=some o/\X.H₀ b=none
 bsz:X.base.objs.size<=X.s₀.heap.objs.size
 noex:∀ b o,X.base.get? b=some o -> b∉X.ex
 exfs:∀ b∈X.ex,b∉X.fs
 funs:X.s₀.heap.FunFrames X.base X.outer
 frf:∀ b∈X.fs,X.H₀ b=none
structure Inv (X:Cx) (pins:List (Addr×Obj)) (σ:List (Option V)) (H:Hp) (s:Shared):Prop where
 ok:X.Ok
 os:s.os=X.s₀.os
 bare:AllBare s.gens
 base:Un X.fs X.ex X.H₀ H X.s₀.heap s.heap
 loc:∃ m,s.heap.Ns X.env.locals m/\∀ (i:Nat) (x:Str) (v:V),X.N[i]?=some x -> σ[i]?=some (some v) -> Vis X.env.scope x -> ∃ u,RelV v u/\qMg X.env s.heap m x u
 cell:∀ x c,X.env.cells.lookup x=some c -> ∃ v,s.heap.IsCell c v
 free:H X.env.locals=none
 freeC:∀ x c,X.env.cells.lookup x=some c -> H c=none
 pin:∀ p∈X.pn++pins,s.heap.get? p.1=some p.2/\H p.1=none/\p.1≠X.env.locals/\p.1∉X.fs/\∀ v,p.2.data≠.cell v
 hok:HOk X.prog X.w H s.heap
 len:σ.length=X.N.length
section
variable {X:Cx} {pins:List (Addr×Obj)} {σ:List (Option V)} {H H':Hp} {s:Shared} {h':Heap}
theorem Cx.Ok.nofr (ok:X.Ok) {b:Addr} {o:Obj} (e:X.base.get? b=some o):b∉X.fs:=fun hb=>by
 have:=(ok.funs.mem hb).1
 rw [e] at this;cases this
theorem Inv.bs (I:Inv X pins σ H s):∀ b o,X.base.get? b=some o -> s.heap.get? b=some o/\H b=none:=fun b o e=>
 ⟨I.base.keep b o (I.ok.bs b o e).1 (I.ok.bs b o e).2 (I.ok.nofr e) (I.ok.noex b o e),I.base.free b o (I.ok.bs b o e).1 (I.ok.bs b o e).2 (I.ok.noex b o e)⟩
theorem Inv.bk (I:Inv X pins σ H s):∀ b o,X.base.get? b=some o -> s.heap.get? b=some o:=fun b o e=>(I.bs b o e).1
theorem Inv.mod (I:Inv X pins σ H s):Mod X.K X.mg X.base:=I.ok.mod
theorem Inv.kIn (I:Inv X pins σ H s):X.K.In s.heap:=I.ok.mod.kin.keeps I.bk
theorem Inv.lt (I:Inv X pins σ H s):X.env.locals < s.heap.objs.size:=let ⟨_,hn,_⟩:=I.loc;hn.lt
theorem Inv.sz (I:Inv X pins σ H s):X.s₀.heap.objs.size<=s.heap.objs.size:=Nat.le_trans I.ok.above (Nat.le_of_lt I.lt)
theorem Inv.nofs (I:Inv X pins σ H s) {a:Addr} (h:s.heap.objs.size<=a):a∉X.fs:=fun hb=>by
 obtain ⟨_,o,ho,_⟩:=I.ok.funs.mem hb
 exact absurd (Nat.lt_of_lt_of_le (Heap.lt_size ho) (Nat.le_trans I.sz h)) (Nat.lt_irrefl _)
theorem Inv.cne (I:Inv X pins σ H s):∀ x c,X.env.cells.lookup x=some c -> c≠X.env.locals:=fun x c e z=>by
 obtain ⟨v,o,ho,hd⟩:=I.cell x c e
 obtain ⟨m,⟨o',es,ep,ho',hd',_⟩,_⟩:=I.loc
 rw [z,ho'] at ho;cases ho;rw [hd'] at hd;cases hd
theorem Inv.funs (I:Inv X pins σ H s):s.heap.FunFrames X.base X.outer:=by
 have all:∀ (l:List Env),(∀ b∈frs l,b∈X.fs) -> X.s₀.heap.FunFrames X.base l -> s.heap.FunFrames X.base l:=by
  intro l
  induction l with
  | nil=>intro _ _;trivial
  | cons env r ih=>
   intro hs hl
   obtain ⟨hk,⟨L,o,hf,hn,ho,hd⟩,hr⟩:=hl
   have hL:L∈X.fs:=hs L (by unfold frs;rw [List.filterMap_cons,hf];exact List.mem_cons_self)
   obtain ⟨sl,e⟩:=I.base.slot L o ho (I.ok.frf L hL) hL fun z=>I.ok.exfs L z hL
   exact ⟨hk,⟨L,_,hf,hn,e,hd⟩,ih (fun b hb=>hs b (by unfold frs;rw [List.filterMap_cons,hf];exact List.mem_cons_of_mem _ hb)) hr⟩
 exact all X.outer (fun _ hb=>hb) I.ok.funs
theorem Inv.stack (I:Inv X pins σ H s):s.heap.FunFrames X.base X.stack:=by
 rcases I.ok.stk with e | ⟨e,hf⟩
 ·rw [e];exact I.funs
 ·rw [e]
  obtain ⟨m,hn,_⟩:=I.loc
  refine .cons (by rw [I.ok.kind];decide) hf hn ?_ I.funs
  exact Heap.get?_none_of_le (Nat.le_trans I.ok.bsz I.ok.above)
theorem Inv.stkSub (I:Inv X pins σ H s):∀ b∈frs X.stack,b∈X.env.locals::X.fs:=fun b hb=>by
 rcases I.ok.stk with e | ⟨e,hf⟩
 ·rw [e] at hb;exact List.mem_cons_of_mem _ hb
 ·rw [e] at hb
  unfold frs at hb
  rw [List.filterMap_cons,hf] at hb
  exact hb
theorem Inv.stkFree (I:Inv X pins σ H s):∀ b∈frs X.stack,H b=none:=fun b hb=>by
 rcases List.mem_cons.mp (I.stkSub b hb) with e | hb
 ·rw [e];exact I.free
 ·obtain ⟨_,o,ho,_⟩:=I.ok.funs.mem hb
  exact I.base.free b o ho (I.ok.frf b hb) fun z=>I.ok.exfs b z hb
theorem Inv.step {g':Array GenState} {t':Nat} {d':Drawn} {ch:List Addr} (I:Inv X pins σ H s)
  (hch:∀ b∈ch,(b∈X.ex\/X.s₀.heap.objs.size<=b)/\b≠X.env.locals/\(∀ x c,X.env.cells.lookup x=some c -> c≠b)/\∀ p∈X.pn++pins,p.1≠b)
  (keep:∀ b o,b≠X.env.locals -> b∉X.fs -> b∉ch -> s.heap.get? b=some o -> H b=none -> h'.get? b=some o)
  (slot:∀ b o,b≠X.env.locals -> b∈X.fs -> b∉ch -> s.heap.get? b=some o -> H b=none -> ∃ sl,h'.get? b=some { o with slots:=sl }) (free:∀ b o,b∉ch -> s.heap.get? b=some o -> H b=none -> H' b=none)
  (there:∀ b o,b∉ch -> s.heap.get? b=some o -> ∃ o',h'.get? b=some o')
  (tups:∀ b xs,H b=some (.tup xs) -> H' b=some (.tup xs)) (frzs:∀ b o u,H b=some (.frz o u) -> H' b=some (.frz o u)) (tbls:∀ b ps,H b=some (.tbl ps) -> ∃ more,H' b=some (.tbl (ps++more)))
  (ns:∀ m,s.heap.Ns X.env.locals m -> h'.Ns X.env.locals m) (hok:HOk X.prog X.w H' h') (hg:AllBare g'):
  Inv X pins σ H' { s with heap:=h',gens:=g',drawn:=d',toks:=t' }:=by
 have neL:∀ b o,X.s₀.heap.get? b=some o -> b≠X.env.locals:=fun b o e=>Nat.ne_of_lt (Nat.lt_of_lt_of_le (Heap.lt_size e) I.ok.above)
 have neC:∀ b o,X.s₀.heap.get? b=some o -> b∉X.ex -> b∉ch:=fun b o e hx hb=>by
  rcases (hch b hb).1 with z | z
  ·exact hx z
  ·exact absurd (Nat.lt_of_lt_of_le (Heap.lt_size e) z) (Nat.lt_irrefl _)
 have cellK:∀ x c,X.env.cells.lookup x=some c -> ∀ v,s.heap.IsCell c v -> h'.IsCell c v:=fun x c e v ⟨o,ho,hd⟩=>by
  have nch:c∉ch:=fun z=>(hch c z).2.2.1 x c e rfl
  by_cases hc:c∈X.fs
  ·obtain ⟨sl,q⟩:=slot c o (I.cne x c e) hc nch ho (I.freeC x c e)
   exact ⟨_,q,hd⟩
  ·exact ⟨o,keep c o (I.cne x c e) hc nch ho (I.freeC x c e),hd⟩
 refine ⟨I.ok,I.os,hg,⟨fun b o e n hb hx=>?_,fun b o e n hb hx=>?_,fun b o e n hx=>?_,fun b o e hx=>?_,fun b xs e=>tups b xs (I.base.tups b xs e),fun b o xs e=>frzs b o xs (I.base.frzs b o xs e),fun b ps e=>?_⟩,?_,fun x c e=>?_,?_,fun x c e=>?_,fun p hp=>?_,hok,I.len⟩
 ·exact keep b o (neL b o e) hb (neC b o e hx) (I.base.keep b o e n hb hx) (I.base.free b o e n hx)
 ·obtain ⟨sl,e1⟩:=I.base.slot b o e n hb hx
  obtain ⟨sl',e2⟩:=slot b _ (neL b o e) hb (neC b o e hx) e1 (I.base.free b o e n hx)
  exact ⟨sl',e2⟩
 ·obtain ⟨o',e1⟩:=I.base.there b o e hx
  exact free b o' (neC b o e hx) e1 (I.base.free b o e n hx)
 ·obtain ⟨o',e1⟩:=I.base.there b o e hx
  exact there b o' (neC b o e hx) e1
 ·obtain ⟨m1,e1⟩:=I.base.tbls b ps e
  obtain ⟨m2,e2⟩:=tbls b _ e1
  exact ⟨m1++m2,by rw [e2,Array.append_assoc]⟩
 ·obtain ⟨m,hn,hl⟩:=I.loc
  refine ⟨m,ns m hn,fun i x v e1 e2 e3=>?_⟩
  obtain ⟨u,r,l⟩:=hl i x v e1 e2 e3
  refine ⟨u,r,?_⟩
  rcases l with l | ⟨k,c,e,z⟩
  ·exact .inl l
  ·exact .inr ⟨k,c,e,cellK x c e _ z⟩
 ·obtain ⟨v,z⟩:=I.cell x c e
  exact ⟨v,cellK x c e v z⟩
 ·obtain ⟨m,⟨o,_,_,ho,_⟩,_⟩:=I.loc
  exact free _ o (fun z=>(hch _ z).2.1 rfl) ho I.free
 ·obtain ⟨v,o,ho,hd⟩:=I.cell x c e
  exact free c o (fun z=>(hch c z).2.2.1 x c e rfl) ho (I.freeC x c e)
 ·obtain ⟨e,n,ne,nf,d⟩:=I.pin p hp
  have nch:p.1∉ch:=fun z=>(hch p.1 z).2.2.2 p hp rfl
  exact ⟨keep p.1 p.2 ne nf nch e n,free p.1 p.2 nch e n,ne,nf,d⟩
theorem Inv.un {t':Nat} (I:Inv X pins σ H s) (u:Un X.fs [] H H' s.heap h') (hok:HOk X.prog X.w H' h'):Inv X pins σ H' { s with heap:=h',toks:=t' }:=by
 obtain ⟨m,⟨o,es,ep,ho,r⟩,_⟩:=id I.loc
 obtain ⟨sl,hL⟩:=u.any ho I.free (by simp)
 exact I.step (g':=s.gens) (d':=s.drawn) (ch:=[]) (fun _ z=>nomatch z) (fun b o _ hb _ e n=>u.keep b o e n hb (by simp)) (fun b o _ hb _ e n=>u.slot b o e n hb (by simp)) (fun b o _ e n=>u.free b o e n (by simp)) (fun b o _ e=>u.there b o e (by simp)) u.tups u.frzs u.tbls (fun m' hm=>by
  obtain ⟨o',es',ep',ho',r'⟩:=hm
  rw [ho] at ho';cases ho'
  exact ⟨_,es',ep',hL,r'⟩) hok I.bare
theorem Inv.call {g':Array GenState} {t':Nat} {d':Drawn} {ch:List Addr} (I:Inv X pins σ H s) (u:Un (frs X.stack) ch H H' s.heap h') (hok:HOk X.prog X.w H' h') (hg:AllBare g')
  (hch:∀ b∈ch,(b∈X.ex\/X.s₀.heap.objs.size<=b)/\b≠X.env.locals/\(∀ x c,X.env.cells.lookup x=some c -> c≠b)/\∀ p∈X.pn++pins,p.1≠b):
  Inv X pins σ H' { s with heap:=h',gens:=g',drawn:=d',toks:=t' }:=by
 obtain ⟨m,⟨o,es,ep,ho,r⟩,_⟩:=id I.loc
 obtain ⟨sl,hL⟩:=u.any ho I.free fun z=>(hch _ z).2.1 rfl
 exact I.step (ch:=ch) hch (fun b o hL hb hc e n=>u.keep b o e n (fun z=>(List.mem_cons.mp (I.stkSub b z)).elim hL hb) hc) (fun b o _ _ hc e n=>u.any e n hc) (fun b o hc e n=>u.free b o e n hc) (fun b o hc e=>u.there b o e hc) u.tups u.frzs u.tbls (fun m' hm=>by
  obtain ⟨o',es',ep',ho',r'⟩:=hm
  rw [ho] at ho';cases ho'
  exact ⟨_,es',ep',hL,r'⟩) hok hg
theorem Inv.turned {t':Nat} {it:Addr} (I:Inv X pins σ H s) (k:∀ b o,b≠it -> s.heap.get? b=some o -> h'.get? b=some o) (hn:H it=none) (hL:it≠X.env.locals)
  (h1:it∈X.ex\/X.s₀.heap.objs.size<=it) (h2:∀ x c,X.env.cells.lookup x=some c -> c≠it) (h3:∀ p∈X.pn++pins,p.1≠it):Inv X pins σ H { s with heap:=h',toks:=t' }:=by
 have nit:∀ b u,H b=some u -> b≠it:=fun b u e z=>by rw [z,hn] at e;cases e
 refine I.step (g':=s.gens) (d':=s.drawn) (ch:=[it]) (fun b hb=>?_) (fun b o _ _ hc e _=>k b o (fun z=>hc (by simp [z])) e) (fun b o _ _ hc e _=>⟨o.slots,k b o (fun z=>hc (by simp [z])) e⟩) (fun _ _ _ _ n=>n)
  (fun b o hc e=>⟨o,k b o (fun z=>hc (by simp [z])) e⟩) (fun _ _ e=>e) (fun _ _ _ e=>e) (fun b ps e=>⟨#[],by rw [e];simp⟩) (fun m hm=>?_) (fun b u e=>?_) I.bare
 ·have e:b=it:=by simpa using hb
  subst e
  exact ⟨h1,hL,h2,h3⟩
 ·obtain ⟨o,es,ep,ho,r⟩:=hm
  exact ⟨o,es,ep,k _ o (Ne.symm hL) ho,r⟩
 ·refine (I.hok b u e).stay (fun c v hc q=>k c v ?_ q) (fun _ q=>q) fun _ _ q=>q
  rcases hc with z | z
  ·rw [z];exact nit b u e
  ·exact nit c _ z
theorem Inv.tok (I:Inv X pins σ H s) (t:Nat):Inv X pins σ H { s with toks:=t }:=I.un (h':=s.heap) (t':=t) Un.refl I.hok
theorem Inv.kept {t':Nat} (I:Inv X pins σ H s) (k:∀ b u,s.heap.get? b=some u -> h'.get? b=some u):Inv X pins σ H { s with heap:=h',toks:=t' }:=I.un (Un.kept k) (I.hok.kept k)
theorem Inv.laid {a:Addr} {o:HO} {t':Nat} (I:Inv X pins σ H s) (k:∀ b u,s.heap.get? b=some u -> h'.get? b=some u) (hp:s.heap.objs.size<=a) (new:ObjOk X.prog X.w (upd H a o) h' a o):
  Inv X pins σ (upd H a o) { s with heap:=h',toks:=t' }:=I.un (Un.laid k hp (I.hok.fresh hp)) (I.hok.laid k hp new)
theorem Inv.write {x e:Addr} {o:HO} {t':Nat} (I:Inv X pins σ H s) (mu:Mut (H x)) (he:e=x\/H e=some (.own x)) (k:∀ b u,b≠e -> s.heap.get? b=some u -> h'.get? b=some u) (heo:∃ u,h'.get? e=some u)
  (new:ObjOk X.prog X.w (upd H x o) h' x o):Inv X pins σ (upd H x o) { s with heap:=h',toks:=t' }:=I.un (Un.write mu he k heo) (I.hok.write mu he k heo new)
theorem Inv.pins_of {pins':List (Addr×Obj)} (I:Inv X pins σ H s) (h:∀ p∈pins',s.heap.get? p.1=some p.2/\H p.1=none/\p.1≠X.env.locals/\p.1∉X.fs/\∀ v,p.2.data≠.cell v):Inv X pins' σ H s:=
 ⟨I.ok,I.os,I.bare,I.base,I.loc,I.cell,I.free,I.freeC,fun p hp=>(List.mem_append.mp hp).elim (fun z=>I.pin p (List.mem_append_left _ z)) (h p),I.hok,I.len⟩
theorem qEj {N:List Str} (hN:N.Nodup) {i j:Nat} {x:Str} (a:N[i]?=some x) (b:N[j]?=some x):i=j:=by
 obtain ⟨h1,e1⟩:=List.getElem?_eq_some_iff.mp a
 obtain ⟨h2,e2⟩:=List.getElem?_eq_some_iff.mp b
 exact (List.getElem_inj hN).mp (e1.trans e2.symm)
theorem qDl {M:Model} {A:Around} {E:Value -> Shared -> Prop} {i:Nat} {x:Str} {v:V} {u:Value} {Q:Unit -> Shared -> Prop} (I:Inv X pins σ H s) (hN:X.N.Nodup) (hi:X.N[i]?=some x) (hx:Loc X.env.scope x) (r:RelV v u)
  (h:∀ s',Inv X pins (σ.set i (some v)) H s' -> (∃ a,Heap.SameBut a s.heap s'.heap/\(a=X.env.locals\/X.env.cells.lookup x=some a)) -> Q () s') (hf:X.fn x=true\/X.env.scope.names.lookup x=some .local:=by first | exact .inl rfl | exact .inr rfl | assumption):wpAny M A (storeName X.env x u) Q E s:=by
 obtain ⟨m,hn,hl⟩:=id I.loc
 have hcls:(X.env.scope.kind==.class||(X.env.scope.kind==.module&&X.env.locals != X.env.globals))=false:=by rw [I.ok.kind];rfl
 have hiσ:i < σ.length:=by rw [I.len];exact (List.getElem?_eq_some_iff.mp hi).1
 have cne:=I.cne
 have tracked:∀ {a:Addr} {h':Heap},(∃ o,s.heap.get? a=some o/\H a=none) -> Heap.SameBut a s.heap h' -> HOk X.prog X.w H h':=fun {a h'} ha hs b ob e=>by
  obtain ⟨_,_,hfree⟩:=ha
  refine (I.hok b ob e).stay (fun c w' hc q=>(hs.2 c ?_).trans q) (fun _ q=>q) fun _ _ q=>q
  rintro rfl
  rcases hc with rfl | hc
  ·rw [hfree] at e;cases e
  ·rw [hfree] at hc;cases hc
 rcases hx with hk | hk
 ·refine wpAny_storeName_local hk hn (fun h' hn' hs=>?_) hcls
  obtain ⟨oL,_,_,hoL,_⟩:=id hn
  refine h _ ⟨I.ok,I.os,I.bare,⟨fun b o e n hb hx=>?_,fun b o e n hb hx=>?_,I.base.free,fun b o e hx=>?_,I.base.tups,I.base.frzs,I.base.tbls⟩,⟨_,hn',fun j y v' e1 e2 e3=>?_⟩,fun y c e=>?_,I.free,I.freeC,fun p hp=>?_,tracked ⟨oL,hoL,I.free⟩ hs,by simpa using I.len⟩ ⟨_,hs,.inl rfl⟩
  ·exact (hs.2 b (Nat.ne_of_lt (Nat.lt_of_lt_of_le (Heap.lt_size e) I.ok.above))).trans (I.base.keep b o e n hb hx)
  ·obtain ⟨sl,e1⟩:=I.base.slot b o e n hb hx
   exact ⟨sl,(hs.2 b (Nat.ne_of_lt (Nat.lt_of_lt_of_le (Heap.lt_size e) I.ok.above))).trans e1⟩
  ·obtain ⟨o',e1⟩:=I.base.there b o e hx
   exact ⟨o',(hs.2 b (Nat.ne_of_lt (Nat.lt_of_lt_of_le (Heap.lt_size e) I.ok.above))).trans e1⟩
  ·by_cases hj:j=i
   ·subst hj
    rw [hi] at e1;cases e1
    rw [List.getElem?_set_self hiσ] at e2
    cases e2
    exact ⟨u,r,.inl ⟨hk,by simp⟩⟩
   ·rw [List.getElem?_set_ne (Ne.symm hj)] at e2
    obtain ⟨u',r',q⟩:=hl j y v' e1 e2 e3
    refine ⟨u',r',?_⟩
    rcases q with ⟨k,e⟩ | ⟨k,c,e,z⟩
    ·refine .inl ⟨k,?_⟩
     have:y≠x:=fun e=>hj (qEj hN e1 (e ▸ hi))
     simp [this,e]
    ·exact .inr ⟨k,c,e,z.sameBut hs (cne y c e)⟩
  ·obtain ⟨w',z⟩:=I.cell y c e
   exact ⟨w',z.sameBut hs (cne y c e)⟩
  ·obtain ⟨e,n,ne,nf,d⟩:=I.pin p hp
   exact ⟨(hs.2 p.1 ne).trans e,n,ne,nf,d⟩
 ·have hfn:X.fn x=true:=by
   rcases hf with z | z
   ·exact z
   ·rw [z] at hk;cases hk
  obtain ⟨c,hc⟩:=I.ok.has x (.inl hk)
  obtain ⟨w',z⟩:=I.cell x c hc
  refine wpAny_storeName_cell I.ok.kind hk hc z (fun h' hc' hs=>?_)
  obtain ⟨oc,hoc,hocd⟩:=id z
  refine h { s with heap:=h' } ⟨I.ok,I.os,I.bare,⟨fun b o e n hb hx=>?_,fun b o e n hb hx=>?_,I.base.free,fun b o e hx=>?_,I.base.tups,I.base.frzs,I.base.tbls⟩,⟨m,hn.sameBut hs (Ne.symm (cne x c hc)),fun j y v' e1 e2 e3=>?_⟩,fun y c' e=>?_,I.free,I.freeC,fun p hp=>?_,tracked ⟨oc,hoc,I.freeC x c hc⟩ hs,by simpa using I.len⟩ ⟨c,hs,.inr hc⟩
  ·exact (hs.2 b (Nat.ne_of_lt (Nat.lt_of_lt_of_le (Heap.lt_size e) (I.ok.cab x c hfn hc)))).trans (I.base.keep b o e n hb hx)
  ·obtain ⟨sl,e1⟩:=I.base.slot b o e n hb hx
   exact ⟨sl,(hs.2 b (Nat.ne_of_lt (Nat.lt_of_lt_of_le (Heap.lt_size e) (I.ok.cab x c hfn hc)))).trans e1⟩
  ·obtain ⟨o',e1⟩:=I.base.there b o e hx
   exact ⟨o',(hs.2 b (Nat.ne_of_lt (Nat.lt_of_lt_of_le (Heap.lt_size e) (I.ok.cab x c hfn hc)))).trans e1⟩
  ·by_cases hj:j=i
   ·subst hj
    rw [hi] at e1;cases e1
    rw [List.getElem?_set_self hiσ] at e2
    cases e2
    exact ⟨u,r,.inr ⟨.inl hk,c,hc,hc'⟩⟩
   ·rw [List.getElem?_set_ne (Ne.symm hj)] at e2
    obtain ⟨u',r',q⟩:=hl j y v' e1 e2 e3
    refine ⟨u',r',?_⟩
    rcases q with q | ⟨k,c',e,z'⟩
    ·exact .inl q
    ·refine .inr ⟨k,c',e,z'.sameBut hs ?_⟩
     rintro rfl
     exact hj (qEj hN e1 (I.ok.inj _ _ _ e hc ▸ hi))
  ·by_cases hcc:c'=c
   ·subst hcc;exact ⟨_,hc'⟩
   ·obtain ⟨w2,z2⟩:=I.cell y c' e
    exact ⟨w2,z2.sameBut hs hcc⟩
  ·obtain ⟨e,n,ne,nf,d⟩:=I.pin p hp
   refine ⟨(hs.2 p.1 ?_).trans e,n,ne,nf,d⟩
   intro q
   rw [q,hoc] at e
   have q':oc=p.2:=Option.some.inj e
   exact d w' (by rw [<- q'];exact hocd)
theorem qA7 {M:Model} {A:Around} {E:Value -> Shared -> Prop} {i:Nat} {x:Str} {v:V} {u:Value} {Q:Unit -> Shared -> Prop} (I:Inv X pins σ H s) (hN:X.N.Nodup) (hi:X.N[i]?=some x) (hx:Loc X.env.scope x) (r:RelV v u)
  (h:∀ s',Inv X pins (σ.set i (some v)) H s' -> Q () s') (hf:X.fn x=true\/X.env.scope.names.lookup x=some .local:=by first | exact .inl rfl | exact .inr rfl | assumption):wpAny M A (storeName X.env x u) Q E s:=
 qDl I hN hi hx r (fun s' I' _=>h s' I') hf
theorem Inv.call' {s':Shared} {ch:List Addr} (I:Inv X pins σ H s) (ho:s'.os=s.os) (u:Un (frs X.stack) ch H H' s.heap s'.heap) (hok:HOk X.prog X.w H' s'.heap) (hg:AllBare s'.gens)
  (hch:∀ b∈ch,(b∈X.ex\/X.s₀.heap.objs.size<=b)/\b≠X.env.locals/\(∀ x c,X.env.cells.lookup x=some c -> c≠b)/\∀ p∈X.pn++pins,p.1≠b):Inv X pins σ H' s':=by
 obtain ⟨h',g',d',t',o'⟩:=s'
 have e:o'=s.os:=ho
 subst e
 exact I.call (g':=g') (t':=t') (d':=d') u hok hg hch
end
noncomputable abbrev XK:=Value -> Option Addr -> Hp -> Prop
noncomputable abbrev St:=List (Option V)
noncomputable abbrev VK:=V -> Hp -> Prop
noncomputable abbrev TE:=St -> Hp -> VK -> Prop
noncomputable abbrev TT:=St -> Hp -> (Bool -> Hp -> Prop) -> Prop
noncomputable abbrev TA:=St -> Hp -> (List V -> Hp -> Prop) -> Prop
structure qFc where
 nx:St -> Hp -> Prop
 rt:VK
 bk:St -> Hp -> Prop:=fun _ _=>False
 ct:St -> Hp -> Prop:=fun _ _=>False
noncomputable abbrev TS:=qFc -> St -> Hp -> Prop
noncomputable def EP (X:Cx) (pins:List (Addr×Obj)) (σ:St) (Q:VK) (u:Value) (s':Shared):Prop:=∃ v H',Inv X pins σ H' s'/\RelV v u/\Q v H'
noncomputable def TP (X:Cx) (pins:List (Addr×Obj)) (σ:St) (Q:Bool -> Hp -> Prop) (b:Bool) (s':Shared):Prop:=∃ H',Inv X pins σ H' s'/\Q b H'
noncomputable def AP (X:Cx) (pins:List (Addr×Obj)) (σ:St) (Q:List V -> Hp -> Prop) (us:List Value) (s':Shared):Prop:=∃ vs H',Inv X pins σ H' s'/\Vals vs us/\Q vs H'
noncomputable def SP (X:Cx) (pins:List (Addr×Obj)) (D:qFc) (f:Flow) (s':Shared):Prop:=
 match f with
 | .next=>∃ σ' H',Inv X pins σ' H' s'/\D.nx σ' H'
 | .brk=>∃ σ' H',Inv X pins σ' H' s'/\D.bk σ' H'
 | .cont=>∃ σ' H',Inv X pins σ' H' s'/\D.ct σ' H'
 | .ret u=>∃ v σ' H',Inv X pins σ' H' s'/\RelV v u/\D.rt v H'
noncomputable def PE (X:Cx) (e:Expr) (t:TE):Prop:=
 ∀ (pins:List (Addr×Obj)) (s:Shared) (σ:St) (H:Hp) (Q:VK),Inv X pins σ H s -> t σ H Q -> wpAny (model X.prog X.w) X.A (eval e X.env) (EP X pins σ Q) X.xe s
noncomputable def PT (X:Cx) (e:Expr) (t:TT):Prop:=
 ∀ (pins:List (Addr×Obj)) (s:Shared) (σ:St) (H:Hp) (Q:Bool -> Hp -> Prop),Inv X pins σ H s -> t σ H Q -> wpAny (model X.prog X.w) X.A (isTrue e X.env (eval e X.env)) (TP X pins σ Q) X.xe s
noncomputable def PW (X:Cx) (e:Expr) (t:TT):Prop:=
 ∀ (whole:Sem Value) (pins:List (Addr×Obj)) (s:Shared) (σ:St) (H:Hp) (Q:Bool -> Hp -> Prop),Inv X pins σ H s -> t σ H Q -> wpAny (model X.prog X.w) X.A (isTrue e X.env whole) (TP X pins σ Q) X.xe s
theorem PW.pt {X:Cx} {e:Expr} {t:TT} (h:PW X e t):PT X e t:=h _
noncomputable def PA (X:Cx) (es:List Expr) (t:TA):Prop:=
 ∀ (pos:Pos) (pins:List (Addr×Obj)) (s:Shared) (σ:St) (H:Hp) (Q:List V -> Hp -> Prop),Inv X pins σ H s -> t σ H Q -> wpAny (model X.prog X.w) X.A (spliced (backTo pos (starEach es X.env))) (AP X pins σ Q) X.xe s
noncomputable def PS (X:Cx) (st:Stmt) (t:TS):Prop:=
 ∀ (pins:List (Addr×Obj)) (s:Shared) (σ:St) (H:Hp) (D:qFc),Inv X pins σ H s -> t D σ H -> wpAny (model X.prog X.w) X.A (exec st X.env) (SP X pins D) X.xe s
noncomputable def PSs (X:Cx) (st:List Stmt) (t:TS):Prop:=
 ∀ (pins:List (Addr×Obj)) (s:Shared) (σ:St) (H:Hp) (D:qFc),Inv X pins σ H s -> t D σ H -> wpAny (model X.prog X.w) X.A (execs st X.env) (SP X pins D) X.xe s
theorem thn {α:Type} {t:Sem α} {Q Q':α -> Shared -> Prop} {M:Model} {A:Around} {E:Value -> Shared -> Prop} {s:Shared} (h:wpAny M A t Q E s) (hQ:∀ a s,Q a s -> Q' a s):wpAny M A t Q' E s:=wpAny_mono h hQ fun _ _ x=>x
open PySem PySem.Spec PyProof.Rows
section
variable {X:Cx}
theorem bin {a b:Expr} {ta tb:TE} (ha:PE X a ta) (hb:PE X b tb) {pins:List (Addr×Obj)} {s:Shared} {σ:St} {H:Hp} {R:V -> V -> Hp -> Prop} (I:Inv X pins σ H s) (h:ta σ H fun x H1=>tb σ H1 fun y H2=>R x y H2)
  {α:Type} {Q:α -> Shared -> Prop} {f:Value -> Value -> Sem α}
  (hf:∀ v u s2 x y H2,Inv X pins σ H2 s2 -> RelV x v -> RelV y u -> R x y H2 -> wpAny (model X.prog X.w) X.A (f v u) Q X.xe s2):
  wpAny (model X.prog X.w) X.A (eval a X.env) (fun v s₁=>wpAny (model X.prog X.w) X.A (eval b X.env) (fun u s₂=>wpAny (model X.prog X.w) X.A (f v u) Q X.xe s₂) X.xe s₁) X.xe s:=by
 refine thn (ha pins s σ H _ I h) fun v s1 ⟨x,H1,I1,r1,q1⟩=>?_
 refine thn (hb pins s1 σ H1 _ I1 q1) fun u s2 ⟨y,H2,I2,r2,q2⟩=>?_
 exact hf v u s2 x y H2 I2 r1 r2 q2
noncomputable def qMB (i:Nat):TE:=fun σ H Q=>∃ v,σ[i]?=some (some v)/\Q v H
noncomputable def tC (v:V):TE:=fun _ H Q=>Q v H
theorem pe_var {i:Nat} {x:Str} {pos:Pos} (hN:X.N[i]?=some x) (hv:Vis X.env.scope x) (hd:(x==("__debug__":Str))=false:=by decide) (hcd:(x==("__classdict__":Str))=false:=by decide):PE X (.Name x pos) (qMB i):=by
 intro pins s σ H Q I h
 obtain ⟨v,e,h⟩:=h
 obtain ⟨m,hn,hl⟩:=I.loc
 obtain ⟨u,r,l⟩:=hl i x v hN e hv
 have fin:EP X pins σ Q u s:=⟨v,H,I,r,h⟩
 rcases l with ⟨hk,hm⟩ | ⟨hk,c,hc,hcell⟩
 ·exact wpAny_Name (wpAny_loadName_local I.ok.kind hk hn hm fin) hd
 ·rcases hk with hk | hk
  ·exact wpAny_Name (wpAny_loadName_cell I.ok.kind hk hc hcell fin) hd
  ·exact wpAny_Name (wpAny_loadName_free I.ok.kind hk hc hcell fin hcd) hd
theorem pe_int {i j pos}:PE X (.Constant (.int i) j pos) (tC (.int i)):=fun _ _ _ H _ I h=>wpAny_Constant_int ⟨.int i,H,I.tok _,⟨_,rfl⟩,h⟩
theorem pe_bl {b j pos}:PE X (.Constant (.bool b) j pos) (tC (.bl b)):=fun _ _ _ H _ I h=>Constant_bool ⟨.bl b,H,I,rfl,h⟩
theorem pe_non {j pos}:PE X (.Constant .none j pos) (tC .non):=fun _ _ _ H _ I h=>Constant_none ⟨.non,H,I,rfl,h⟩
theorem pe_str {x j pos}:PE X (.Constant (.str x) j pos) (tC (.str x)):=fun _ _ _ H _ I h=>Calls.Constant_str ⟨.str x,H,I.tok _,⟨_,rfl⟩,h⟩
noncomputable def Gl (X:Cx) (x:Str):Prop:=X.env.kindOf x=some .globalImplicit
theorem qED {E:Value -> Shared -> Prop} {pins:List (Addr×Obj)} {s:Shared} {σ:St} {H:Hp} {x:Str} {u:Value} {pos:Pos} {Q:Value -> Shared -> Prop} (I:Inv X pins σ H s) (hg:Gl X x) (hm:X.mg x=some u) (h:Q u s)
  (hd:(x==("__debug__":Str))=false:=by decide):wpAny (model X.prog X.w) X.A (eval (.Name x pos) X.env) Q E s:=
 Calls.Name_function_global I.ok.kind hg (Calls.loadGlobal_global (by rw [I.ok.glob];exact I.mod.glob.keeps I.bk) hm h) hd
theorem ld_blt {E:Value -> Shared -> Prop} {pins:List (Addr×Obj)} {s:Shared} {σ:St} {H:Hp} {x:Str} {u:Value} {pos:Pos} {Q:Value -> Shared -> Prop} (I:Inv X pins σ H s) (hg:Gl X x) (hm:X.mg x=none) (hv:bootBuiltins x=some u) (h:Q u s)
  (hn:x≠"__name__":=by decide) (hd:(x==("__debug__":Str))=false:=by decide):wpAny (model X.prog X.w) X.A (eval (.Name x pos) X.env) Q E s:=by
 obtain ⟨mb,h1,h2⟩:=I.mod.blt
 exact Calls.Name_function_global I.ok.kind hg (Calls.loadGlobal_builtin (by rw [I.ok.glob];exact I.mod.glob.keeps I.bk) hm (by rw [I.ok.blt];exact h1.keeps I.bk) ((h2 x hn).trans hv) h) hd
theorem pe_glob {x:Str} {v:V} {u:Value} {pos:Pos} (hg:Gl X x) (hm:X.mg x=some u) (r:RelV v u) (hd:(x==("__debug__":Str))=false:=by decide):PE X (.Name x pos) (tC v):=
 fun _ _ _ H _ I h=>qED I hg hm ⟨v,H,I,r,h⟩ hd
theorem pe_bltn {x:Str} {v:V} {u:Value} {pos:Pos} (hg:Gl X x) (hm:X.mg x=none) (hv:bootBuiltins x=some u) (r:RelV v u) (hn:x≠"__name__":=by decide) (hd:(x==("__debug__":Str))=false:=by decide):PE X (.Name x pos) (tC v):=
 fun _ _ _ H _ I h=>ld_blt I hg hm hv ⟨v,H,I,r,h⟩ hn hd
variable {a b:Expr} {ta tb:TE} {pos:Pos}
noncomputable def tB (t:TE):TT:=fun σ H Q=>t σ H fun x H1=>∃ c,x=.bl c/\Q c H1
theorem pt_val {e:Expr} {t:TE} (h:PE X e t) (he:∀ whole,isTrue e X.env whole=(do let v <- whole;standAt e.pos;holding [v] (truthy v)):=by intro _;rfl):PT X e (tB t):=by
 intro pins s σ H Q I hw
 refine isTrue_plain (thn (h pins s σ H _ I hw) fun v s1 ⟨x,H1,I1,r1,q1⟩=>?_) (he _)
 obtain ⟨d,rfl,q⟩:=q1
 cases r1
 exact wpAny_truthy_bool ⟨H1,I1,q⟩
variable {tA tB':TT} {qCA:List Expr}
noncomputable def tAnd (t u:TT):TT:=fun σ H Q=>t σ H fun c H1=>if c=true then u σ H1 Q else Q false H1
noncomputable def tOr (t u:TT):TT:=fun σ H Q=>t σ H fun c H1=>if c=true then Q true H1 else u σ H1 Q
noncomputable def qMF (t:TT):TT:=fun σ H Q=>t σ H fun c H1=>Q (!c) H1
theorem pw_and1 (ha:PT X a tA):PW X (.BoolOp .And [a] pos) tA:=by
 intro wh pins s σ H Q I h
 refine isTrue_and (thn (ha pins s σ H Q I h) fun c s1 e=>?_)
 cases c with
 | true=>exact isTrue_and_nil e
 | false=>exact e
theorem pw_or1 (ha:PT X a tA):PW X (.BoolOp .Or [a] pos) tA:=by
 intro wh pins s σ H Q I h
 refine isTrue_or (thn (ha pins s σ H Q I h) fun c s1 e=>?_)
 cases c with
 | false=>exact isTrue_or_nil e
 | true=>exact e
theorem pw_and (ha:PT X a tA) (hb:PW X (.BoolOp .And (b::qCA) pos) tB'):PW X (.BoolOp .And (a::b::qCA) pos) (tAnd tA tB'):=by
 intro wh pins s σ H Q I h
 refine isTrue_and (thn (ha pins s σ H _ I h) fun c s1 ⟨H1,I1,q1⟩=>?_)
 cases c with
 | true=>exact hb wh pins s1 σ H1 Q I1 q1
 | false=>exact ⟨H1,I1,q1⟩
theorem pw_or (ha:PT X a tA) (hb:PW X (.BoolOp .Or (b::qCA) pos) tB'):PW X (.BoolOp .Or (a::b::qCA) pos) (tOr tA tB'):=by
 intro wh pins s σ H Q I h
 refine isTrue_or (thn (ha pins s σ H _ I h) fun c s1 ⟨H1,I1,q1⟩=>?_)
 cases c with
 | true=>exact ⟨H1,I1,q1⟩
 | false=>exact hb wh pins s1 σ H1 Q I1 q1
theorem pt_not (ha:PT X a tA):PT X (.UnaryOp .Not a pos) (qMF tA):=by
 intro pins s σ H Q I h
 exact isTrue_not (ha pins s σ H (fun c H1=>Q (!c) H1) I h)
noncomputable def tAndV (ta tb:TE):TE:=fun σ H Q=>ta σ H fun x H1=>∃ c,x=.bl c/\if c=true then tb σ H1 Q else Q (.bl false) H1
noncomputable def tOrV (ta tb:TE):TE:=fun σ H Q=>ta σ H fun x H1=>∃ c,x=.bl c/\if c=true then Q (.bl true) H1 else tb σ H1 Q
noncomputable def qKX (ta:TE):TE:=fun σ H Q=>ta σ H fun x H1=>∃ c,x=.bl c/\Q (.bl (!c)) H1
theorem pe_one {op} {t:TE} (h:PE X a t):PE X (.BoolOp op [a] pos) t:=fun pins s σ H Q I hw=>BoolOp_one (h pins s σ H Q I hw)
theorem pe_and (ha:PE X a ta) (hb:PE X (.BoolOp .And (b::qCA) pos) tb):PE X (.BoolOp .And (a::b::qCA) pos) (tAndV ta tb):=by
 intro pins s σ H Q I h
 refine BoolOp_and (thn (ha pins s σ H _ I h) fun v s1 ⟨x,H1,I1,r1,q1⟩=>?_)
 obtain ⟨c,rfl,q1⟩:=q1
 cases r1
 refine wpAny_truthy_bool ?_
 cases c with
 | true=>exact hb pins s1 σ H1 Q I1 q1
 | false=>exact ⟨.bl false,H1,I1,rfl,q1⟩
theorem pe_or (ha:PE X a ta) (hb:PE X (.BoolOp .Or (b::qCA) pos) tb):PE X (.BoolOp .Or (a::b::qCA) pos) (tOrV ta tb):=by
 intro pins s σ H Q I h
 refine BoolOp_or (thn (ha pins s σ H _ I h) fun v s1 ⟨x,H1,I1,r1,q1⟩=>?_)
 obtain ⟨c,rfl,q1⟩:=q1
 cases r1
 refine wpAny_truthy_bool ?_
 cases c with
 | false=>exact hb pins s1 σ H1 Q I1 q1
 | true=>exact ⟨.bl true,H1,I1,rfl,q1⟩
theorem pe_not (ha:PE X a ta):PE X (.UnaryOp .Not a pos) (qKX ta):=by
 intro pins s σ H Q I h
 refine UnaryOp_ (thn (ha pins s σ H _ I h) fun v s1 ⟨x,H1,I1,r1,q1⟩=>?_)
 obtain ⟨c,rfl,q1⟩:=q1
 cases r1
 exact not_of (wpAny_truthy_bool ⟨.bl (!c),H1,I1,rfl,q1⟩)
noncomputable def tIf (t:TT) (ta tb:TE):TE:=fun σ H Q=>t σ H fun c H1=>if c=true then ta σ H1 Q else tb σ H1 Q
theorem pe_ifExp {c:Expr} (hc:PT X c tA) (ha:PE X a ta) (hb:PE X b tb):PE X (.IfExp c a b pos) (tIf tA ta tb):=by
 intro pins s σ H Q I h
 refine wpAny_IfExp (thn (hc pins s σ H _ I h) fun d s1 ⟨H1,I1,q1⟩=>?_)
 cases d with
 | true=>exact ha pins s1 σ H1 Q I1 q1
 | false=>exact hb pins s1 σ H1 Q I1 q1
end
open PySem PySem.Spec PyProof.Rows
noncomputable def SqL (K:PySem.W.Frag) (H:Hp) (a:Addr) (xs:List V):Prop:=
 Rd H a (.lst xs)\/
  ∃ (o:Obj) (its:Array Value) (n:Nat),K.lookup a=some o/\o.cls=.type "list"/\o.dict=none/\o.data=.seq its n/\its.size<=sizeLine/\Vals xs its.toList
noncomputable def SqT (K:PySem.W.Frag) (H:Hp) (a:Addr) (xs:List V):Prop:=
 Rd H a (.tup xs)\/
  ∃ (o:Obj) (its:Array Value) (n:Nat),K.lookup a=some o/\o.cls=.type "tuple"/\o.data=.seq its n/\its.size<=sizeLine/\Vals xs its.toList
noncomputable def qMS:Value -> Option V
 | .none=>some .non
 | .bool b=>some (.bl b)
 | .int i _=>some (.int i)
 | .str x _=>some (.str x)
 | .bytes b _=>some (.byt b)
 | .float b _=>some (.flt b)
 | .ref a=>some (.ref a)
 | .type n=>some (.ty n)
 | _=>none
theorem RelV.abs {x:V} {u:Value} (r:RelV x u):qMS u=some x:=by
 cases x with
 | non=>cases r;rfl
 | bl _=>cases r;rfl
 | int _=>obtain ⟨t,rfl⟩:=r;rfl
 | str _=>obtain ⟨t,rfl⟩:=r;rfl
 | byt _=>obtain ⟨t,rfl⟩:=r;rfl
 | flt _=>obtain ⟨t,rfl⟩:=r;rfl
 | ref _=>cases r;rfl
 | ty _=>cases r;rfl
theorem RelV.inj {x y:V} {u:Value} (r:RelV x u) (q:RelV y u):x=y:=Option.some.inj (r.abs.symm.trans q.abs)
theorem Vals.inj:∀ {xs ys:List V} {us:List Value},Vals xs us -> Vals ys us -> xs=ys
 | _,_,_,.nil,.nil=>rfl
 | _,_,_,.cons r t,.cons r' t'=>by rw [r.inj r',Vals.inj t t']
section
variable {X:Cx} {pins:List (Addr×Obj)} {σ:St} {H:Hp} {s:Shared} {a:Addr} {xs ys:List V}
theorem Inv.list (I:Inv X pins σ H s) (h:SqL X.K H a xs):∃ its:List Value,Vals xs its/\PlainL s.heap a its.toArray/\xs.length<=sizeLine:=by
 rcases h with h | ⟨o,its,n,hk,hc,hd,hs,hz,r⟩
 ·obtain ⟨z,its,n,r,e⟩:=h.ok I.hok
  exact ⟨its,r,⟨_,n,e,rfl,rfl,rfl⟩,z⟩
 ·refine ⟨its.toList,r,⟨o,n,I.kIn a o hk,hc,hd,by simpa using hs⟩,?_⟩
  have e:=r.length
  simp only [Array.length_toList] at e
  omega
theorem Inv.tuple (I:Inv X pins σ H s) (h:SqT X.K H a xs):∃ its:List Value,Vals xs its/\IsTup s.heap a its.toArray/\xs.length<=sizeLine:=by
 rcases h with h | ⟨o,its,n,hk,hc,hs,hz,r⟩
 ·obtain ⟨z,its,r,p⟩:=h.ok I.hok
  exact ⟨its,r,p,z⟩
 ·refine ⟨its.toList,r,⟨o,I.kIn a o hk,hc,n,by simpa using hs⟩,?_⟩
  have e:=r.length
  simp only [Array.length_toList] at e
  omega
theorem Inv.list_inj (I:Inv X pins σ H s) (h:SqL X.K H a xs) (h':SqL X.K H a ys):xs=ys:=by
 obtain ⟨its,r,⟨o,n,e,_,_,d⟩,_⟩:=I.list h
 obtain ⟨its',r',⟨o',n',e',_,_,d'⟩,_⟩:=I.list h'
 rw [e] at e';cases e'
 rw [d] at d'
 injection d' with d1 _
 have:its=its':=by simpa using congrArg Array.toList d1
 subst this
 exact r.inj r'
theorem Inv.tuple_inj (I:Inv X pins σ H s) (h:SqT X.K H a xs) (h':SqT X.K H a ys):xs=ys:=by
 obtain ⟨its,r,⟨o,e,_,n,d⟩,_⟩:=I.tuple h
 obtain ⟨its',r',⟨o',e',_,n',d'⟩,_⟩:=I.tuple h'
 rw [e] at e';cases e'
 rw [d] at d'
 injection d' with d1 _
 have:its=its':=by simpa using congrArg Array.toList d1
 subst this
 exact r.inj r'
end
noncomputable abbrev Cx.wish (X:Cx) (E:Value -> Shared -> Prop):Cx:={ X with xe:=E }
noncomputable abbrev Cx.nox (X:Cx):Cx:=X.wish fun _ _=>False
theorem Cx.Ok.wish {X:Cx} (ok:X.Ok) (E:Value -> Shared -> Prop):(X.wish E).Ok:=
 ⟨ok.mod,ok.kind,ok.glob,ok.blt,ok.above,ok.inj,ok.has,ok.cab,ok.hd,ok.frames,ok.stk,ok.exf,ok.bs,ok.bsz,ok.noex,ok.exfs,ok.funs,ok.frf⟩
theorem Cx.Ok.unwish {X:Cx} {E:Value -> Shared -> Prop} (ok:(X.wish E).Ok):X.Ok:=
 ⟨ok.mod,ok.kind,ok.glob,ok.blt,ok.above,ok.inj,ok.has,ok.cab,ok.hd,ok.frames,ok.stk,ok.exf,ok.bs,ok.bsz,ok.noex,ok.exfs,ok.funs,ok.frf⟩
section
variable {X:Cx} {pins:List (Addr×Obj)} {σ:St} {H:Hp} {s:Shared} {E:Value -> Shared -> Prop}
theorem Inv.wish (I:Inv X pins σ H s) (E:Value -> Shared -> Prop):Inv (X.wish E) pins σ H s:=⟨I.ok.wish E,I.os,I.bare,I.base,I.loc,I.cell,I.free,I.freeC,I.pin,I.hok,I.len⟩
theorem Inv.unwish (I:Inv (X.wish E) pins σ H s):Inv X pins σ H s:=⟨I.ok.unwish,I.os,I.bare,I.base,I.loc,I.cell,I.free,I.freeC,I.pin,I.hok,I.len⟩
theorem SP.unwish {D:qFc} {f:Flow} {s':Shared} (h:SP (X.wish E) pins D f s'):SP X pins D f s':=by
 cases f with
 | next=>obtain ⟨σ',H',I,q⟩:=h;exact ⟨σ',H',I.unwish,q⟩
 | brk=>obtain ⟨σ',H',I,q⟩:=h;exact ⟨σ',H',I.unwish,q⟩
 | cont=>obtain ⟨σ',H',I,q⟩:=h;exact ⟨σ',H',I.unwish,q⟩
 | ret u=>obtain ⟨v,σ',H',I,r,q⟩:=h;exact ⟨v,σ',H',I.unwish,r,q⟩
theorem PSs.nox {st:List Stmt} {t:TS} (h:PSs X.nox st t):PSs X st t:=fun pins s σ H D I hw=>
 wpAny_mono (h pins s σ H D (I.wish _) hw) (fun _ _ q=>q.unwish) fun _ _ z=>False.elim z
end
section
variable {X:Cx} {st:Stmt} {qCA:List Stmt} {t u:TS} {e:Expr} {te:TE} {pos:Pos}
noncomputable def qKP:TS:=fun D σ H=>D.nx σ H
noncomputable def qMW (t u:TS):TS:=fun D σ H=>t { D with nx:=u D } σ H
theorem pss_nil:PSs X [] qKP:=fun _ _ σ H _ I h=>wpAny_execs_nil ⟨σ,H,I,h⟩
theorem pss_cons (h1:PS X st t) (h2:PSs X qCA u):PSs X (st::qCA) (qMW t u):=by
 intro pins s σ H D I h
 refine wpAny_execs_cons (thn (h1 pins s σ H { D with nx:=u D } I h) fun f s1 q=>?_)
 cases f with
 | next=>
  obtain ⟨σ',H',I',q⟩:=q
  exact h2 pins s1 σ' H' D I' q
 | ret v=>exact q
 | brk=>exact q
 | cont=>exact q
theorem Inv.quiet {pins:List (Addr×Obj)} {σ:St} {H:Hp} {s:Shared} (I:Inv X pins σ H s):interactive X.env=false:=by simp [interactive,I.ok.kind]
noncomputable def qKe (te:TE):TS:=fun D σ H=>te σ H fun _ H1=>D.nx σ H1
theorem ps_expr (he:PE X e te) (hs:swapsWith e none pos.line X.env=pure false:=by rfl):PS X (.Expr e pos) (qKe te):=by
 intro pins s σ H D I h
 exact wpAny_Expr_any (thn (he pins s σ H _ I h) fun v s1 ⟨x,H1,I1,r1,q1⟩=>⟨σ,H1,I1,q1⟩) I.quiet hs
noncomputable def qMm (te:TE):TS:=fun D σ H=>te σ H D.rt
theorem ps_ret (he:PE X e te):PS X (.Return (some e) pos) (qMm te):=by
 intro pins s σ H D I h
 exact wpAny_Return_some (thn (he pins s σ H _ I h) fun v s1 ⟨x,H1,I1,r1,q1⟩=>⟨x,σ,H1,I1,r1,q1⟩)
noncomputable def qMT (c:TT) (t u:TS):TS:=fun D σ H=>c σ H fun b H1=>if b=true then t D σ H1 else u D σ H1
theorem ps_if {c:Expr} {a b:List Stmt} {tc:TT} (hc:PT X c tc) (ha:PSs X a t) (hb:PSs X b u):PS X (.If c a b pos) (qMT tc t u):=by
 intro pins s σ H D I h
 refine wpAny_If (thn (hc pins s σ H _ I h) fun d s1 ⟨H1,I1,q1⟩=>?_)
 cases d with
 | true=>exact ha pins s1 σ H1 D I1 q1
 | false=>exact hb pins s1 σ H1 D I1 q1
end
noncomputable abbrev TG:=V -> St -> Hp -> (St -> Hp -> Prop) -> Prop
noncomputable abbrev TGs:=List V -> St -> Hp -> (St -> Hp -> Prop) -> Prop
noncomputable def PG (X:Cx) (target:Expr) (t:TG):Prop:=
 ∀ (pins:List (Addr×Obj)) (s:Shared) (σ:St) (H:Hp) (v:V) (u:Value) (Q:St -> Hp -> Prop),Inv X pins σ H s -> RelV v u -> t v σ H Q ->
  wpAny (model X.prog X.w) X.A (assign target X.env u) (fun _ s'=>∃ σ' H',Inv X pins σ' H' s'/\Q σ' H') X.xe s
noncomputable def PGs (X:Cx) (ts:List Expr) (t:TGs):Prop:=
 ∀ (pins:List (Addr×Obj)) (s:Shared) (σ:St) (H:Hp) (vs:List V) (us:List Value) (Q:St -> Hp -> Prop),Inv X pins σ H s -> Vals vs us -> t vs σ H Q ->
  wpAny (model X.prog X.w) X.A (assignInOrder ((assignEach ts X.env).map (·.2)) us) (fun _ s'=>∃ σ' H',Inv X pins σ' H' s'/\Q σ' H') X.xe s
noncomputable abbrev TSet:=V -> V -> V -> Hp -> (Hp -> Prop) -> Prop
noncomputable def PSet (X:Cx) (t:TSet):Prop:=
 ∀ (pins:List (Addr×Obj)) (s:Shared) (σ:St) (H:Hp) (o i v:V) (ov iv u:Value) (Q:Hp -> Prop),Inv X pins σ H s -> RelV o ov -> RelV i iv -> RelV v u -> t o i v H Q ->
  wpAny (model X.prog X.w) X.A (setItem ov iv u) (fun _ s'=>∃ H',Inv X pins σ H' s'/\Q H') X.xe s
section
variable {X:Cx} {pos:Pos}
noncomputable def qIr (i:Nat):TG:=fun v σ H Q=>Q (σ.set i (some v)) H
theorem pg_name {i:Nat} {x:Str} (hN:X.N.Nodup) (hi:X.N[i]?=some x) (hx:Loc X.env.scope x) (hf:X.fn x=true\/X.env.scope.names.lookup x=some .local:=by first | exact .inl rfl | exact .inr rfl | assumption):PG X (.Name x pos) (qIr i):=by
 intro pins s σ H v u Q I r h
 exact wpAny_assign_Name (qA7 I hN hi hx r (fun s' I'=>⟨_,H,I',h⟩) hf)
noncomputable def qL2:TGs:=fun vs σ H Q=>vs=[]/\Q σ H
noncomputable def qKg (t:TG) (u:TGs):TGs:=fun vs σ H Q=>∃ v r,vs=v::r/\t v σ H fun σ' H'=>u r σ' H' Q
theorem pgs_nil:PGs X [] qL2:=by
 intro pins s σ H vs us Q I r h
 obtain ⟨e,h⟩:=h
 subst e
 cases r
 exact assignInOrder_nil ⟨σ,H,I,h⟩
theorem pgs_cons {e:Expr} {es:List Expr} {t:TG} {u:TGs} (h1:PG X e t) (h2:PGs X es u)
  (hs:(assignEach (e::es) X.env).map (·.2)=assign e X.env::(assignEach es X.env).map (·.2):=by rfl):PGs X (e::es) (qKg t u):=by
 intro pins s σ H vs us Q I r h
 obtain ⟨v,vr,e1,h⟩:=h
 subst e1
 cases r with
 | cons r rr=>
  rw [hs]
  refine assignInOrder_cons (thn (h1 pins s σ H _ _ _ I r h) fun _ s1 ⟨σ1,H1,I1,q1⟩=>?_)
  exact h2 pins s1 σ1 H1 _ _ Q I1 rr q1
noncomputable def qMb (K:PySem.W.Frag) (n:Nat) (t:TGs):TG:=fun v σ H Q=>∃ a xs,v=.ref a/\SqT K H a xs/\xs.length=n/\t xs σ H Q
theorem pg_tup {es:List Expr} {k:Nat} {t:TGs} {n:Nat} (hc:X.calm=true) (h:PGs X es t)
  (hn:(assignEach es X.env).length=n:=by rfl) (hst:(assignEach es X.env).findIdx? (·.1)=none:=by rfl):PG X (.Tuple es k pos) (qMb X.K n t):=by
 intro pins s σ H v u Q I r hw
 obtain ⟨a,xs,e1,hq,hl,hw⟩:=hw
 subst e1
 cases r
 obtain ⟨its,rv,ht,hz⟩:=I.tuple hq
 refine assign_Tuple_tuple (I.ok.hd hc) ht (by simp [hn,<- hl,rv.length]) hst fun h' hx=>?_
 have I1:Inv X pins σ H { s with heap:=h' }:=I.kept (t':=s.toks) fun b o e=>hx b o (Nat.ne_of_lt (Heap.lt_size e)) e
 exact h pins _ σ H xs _ Q I1 (by simpa using rv) hw
noncomputable def qMG (to ti:TE) (t:TSet):TG:=fun v σ H Q=>to σ H fun o H1=>ti σ H1 fun i H2=>t o i v H2 fun H3=>Q σ H3
theorem pg_sub {o i:Expr} {to ti:TE} {t:TSet} (ho:PE X o to) (hi:PE X i ti) (hs:PSet X t)
  (ha:∀ v,assign (.Subscript o i pos) X.env v=(do
   let ov <- holding [v] (eval o X.env)
   let iv <- holding [v,ov] (eval i X.env)
   standAt pos
   holding [v,ov,iv] (setItem ov iv v)
   release [v,ov,iv] []):=by intro _;rfl):PG X (.Subscript o i pos) (qMG to ti t):=by
 intro pins s σ H v u Q I r h
 rw [ha]
 refine wpAny_bind (wpAny_holding (thn (ho pins s σ H _ I h) fun ov s1 ⟨x,H1,I1,r1,q1⟩=>?_))
 refine wpAny_bind (wpAny_holding (thn (hi pins s1 σ H1 _ I1 q1) fun iv s2 ⟨y,H2,I2,r2,q2⟩=>?_))
 refine wpAny_bind (wpAny_standAt (wpAny_bind (wpAny_holding (thn (hs pins s2 σ H2 x y v ov iv u _ I2 r1 r2 r q2) fun _ s3 ⟨H3,I3,q3⟩=>?_))))
 exact wpAny_release ⟨σ,H3,I3,q3⟩
noncomputable def tAsg (te:TE) (g:TG):TS:=fun D σ H=>te σ H fun x H1=>g x σ H1 D.nx
theorem ps_asg {tg e:Expr} {te:TE} {g:TG} (he:PE X e te) (hg:PG X tg g) (hs:swapsWithSole [tg] e pos.line X.env=pure false:=by rfl) (hw:swappedStores [tg] e X.env=pure none:=by rfl)
  (h1:(assignEach [tg] X.env).map (·.2)=[assign tg X.env]:=by rfl):PS X (.Assign [tg] e pos) (tAsg te g):=by
 intro pins s σ H D I h
 refine wpAny_Assign_stores (thn (he pins s σ H _ I h) fun v s1 ⟨x,H1,I1,r1,q1⟩=>?_) hs hw
 rw [h1]
 exact thn (hg pins s1 σ H1 x v _ I1 r1 q1) fun _ s2 q=>q
noncomputable def qMR (i j:Nat) (ta:TA):TS:=fun D σ H=>ta σ H fun vs H1=>∃ v w,vs=[v,w]/\D.nx ((σ.set i (some v)).set j (some w)) H1
theorem ps_par {i j:Nat} {x y:Str} {a b:Expr} {ta:TA} {px py pt:Pos} {kt k2 pt2} (hc:X.calm=true) (hN:X.N.Nodup) (hi:X.N[i]?=some x) (hj:X.N[j]?=some y) (hij:i≠j)
  (hx:X.env.scope.names.lookup x=some .local) (hy:X.env.scope.names.lookup y=some .local) (ha:PA X [a,b] ta)
  (hw:swappedStores [.Tuple [.Name x px,.Name y py] kt pt] (.Tuple [a,b] k2 pt2) X.env=pure (some [x,y]))
  (hs:swapsWithSole [.Tuple [.Name x px,.Name y py] kt pt] (.Tuple [a,b] k2 pt2) pos.line X.env=pure false:=by rfl):
  PS X (.Assign [.Tuple [.Name x px,.Name y py] kt pt] (.Tuple [a,b] k2 pt2) pos) (qMR i j ta):=by
 intro pins s σ H D I h
 rw [exec_Assign_arm]
 refine wpAny_bind (wpAny_standAt ?_)
 rw [hs]
 refine wpAny_bind (wpAny_pure ?_)
 rw [if_neg (by decide)]
 refine wpAny_bind (Tuple_ (thn (ha _ pins s σ H _ I h) fun us s1 ⟨vs,H1,I1,r1,q1⟩=>?_))
 obtain ⟨v,w,e1,q1⟩:=q1
 subst e1
 obtain ⟨u1,u2,rfl,rv,rw'⟩:∃ u1 u2,us=[u1,u2]/\RelV v u1/\RelV w u2:=by
  cases r1 with
  | cons p q=>
   cases q with
   | cons p' q'=>
    cases q'
    exact ⟨_,_,rfl,p,p'⟩
 refine wpAny_newObj_type ?_ (by show 2<=sizeLine;decide)
 have I2:Inv X pins σ H1 { s1 with heap:=s1.heap.push { cls:=.type "tuple",data:=.seq [u1,u2].toArray } }:=I1.kept (t':=s1.toks) fun b o e=>Heap.get?_push_of_some _ e
 rw [hw]
 refine wpAny_bind (wpAny_pure ?_)
 show wpAny (model X.prog X.w) X.A (do rule "assign.swapped-stores";let items <- unpackItems (.ref s1.heap.objs.size) 2 none;assignInOrder [fun v=>bindName X.env y v,fun v=>bindName X.env x v] items.reverse;pure Flow.next) _ _ _
 refine wpAny_bind (wpAny_rule (wpAny_bind (unpackItems_tuple (items:=#[u1,u2]) (I.ok.hd hc) (IsTup.new s1.heap _) fun h' hx'=>?_)))
 have I3:=I2.kept (h':=h') (t':=s1.toks) fun b o e=>hx' b o (Nat.ne_of_lt (Heap.lt_size e)) e
 show wpAny _ _ (assignInOrder [fun v=>bindName X.env y v,fun v=>bindName X.env x v] [u2,u1] >>=fun _=>pure Flow.next) _ _ _
 refine wpAny_bind (assignInOrder_cons (wpAny_bindName (qA7 I3 hN hj (.inl hy) rw' (fun s2 I4=>?_) (.inr hy))))
 refine assignInOrder_cons (wpAny_bindName (qA7 I4 hN hi (.inl hx) rv (fun s3 I5=>assignInOrder_nil (wpAny_pure ?_)) (.inr hx)))
 rw [List.set_comm _ _ (Ne.symm hij)] at I5
 exact ⟨_,H1,I5,q1⟩
end
section
variable {X:Cx} {pos:Pos}
noncomputable def qI7 (c:TT) (tb:TS):TS:=fun D σ H=>∃ W:Nat -> St -> Hp -> Prop,(∃ m,W m σ H)/\∀ m σ H,W m σ H ->
 c σ H fun b H1=>if b=true then ∃ N:St -> Hp -> Prop,(∀ σ' H',N σ' H' -> ∃ m',m' < m/\W m' σ' H')/\tb { D with nx:=N,ct:=N,bk:=D.nx } σ H1 else D.nx σ H1
theorem ps_while {c:Expr} {body:List Stmt} {tc:TT} {tb:TS} (hp:PassesOwn (model X.prog X.w) X.A X.env X.xe) (hc:PT X c tc) (hb:PSs X body tb):PS X (.While c body [] pos) (qI7 tc tb):=by
 intro pins s σ H D I h
 obtain ⟨W,⟨m0,w0⟩,qHw⟩:=h
 refine wpAny_While (codeAny_whileLoop (fun n s'=>∃ σ' H',Inv X pins σ' H' s'/\W n σ' H') ?_ m0 ⟨σ,H,I,w0⟩)
 rintro n s1 ⟨σ1,H1,I1,w1⟩
 refine wpAny_passesOwn hp (thn (hc pins s1 σ1 H1 _ I1 (qHw n σ1 H1 w1)) fun b s2 ⟨H2,I2,q2⟩=>?_)
 cases b with
 | true=>
  obtain ⟨N,hN,q2⟩:=q2
  rw [if_pos rfl]
  refine wpAny_passesOwn hp (thn (hb pins s2 σ1 H2 _ I2 q2) fun f s3 q3=>?_)
  cases f with
  | next=>
   obtain ⟨σ3,H3,I3,n3⟩:=q3
   obtain ⟨m',hm,w3⟩:=hN σ3 H3 n3
   exact ⟨m',hm,σ3,H3,I3,w3⟩
  | cont=>
   obtain ⟨σ3,H3,I3,n3⟩:=q3
   obtain ⟨m',hm,w3⟩:=hN σ3 H3 n3
   exact ⟨m',hm,σ3,H3,I3,w3⟩
  | brk=>exact q3
  | ret v=>exact q3
 | false=>
  rw [if_neg Bool.false_ne_true]
  exact wpAny_execs_nil ⟨σ1,H2,I2,q2⟩
end
structure It where
 go:Nat -> Hp -> Prop
 yld:Nat -> Hp -> V -> Hp -> Prop
 stop:Nat -> Hp -> Prop
noncomputable def qDP (X:Cx) (pins:List (Addr×Obj)) (H:Hp) (b:Addr):Prop:=
 H b=none/\b≠X.env.locals/\b∉X.fs/\(b∈X.ex\/X.s₀.heap.objs.size<=b)/\(∀ x c,X.env.cells.lookup x=some c -> c≠b)/\∀ p∈X.pn++pins,p.1≠b
theorem Inv.fpOk {X:Cx} {pins:List (Addr×Obj)} {σ:St} {H H':Hp} {s:Shared} {b:Addr} (I:Inv X pins σ H s) (hb:s.heap.objs.size<=b) (hn:H' b=none):qDP X pins H' b:=by
 refine ⟨hn,Nat.ne_of_gt (Nat.lt_of_lt_of_le I.lt hb),I.nofs hb,.inr (Nat.le_trans I.sz hb),fun x c e z=>?_,fun p hp z=>?_⟩
 ·obtain ⟨v,q⟩:=I.cell x c e
  exact absurd (Nat.lt_of_lt_of_le q.lt (by rw [z];exact hb)) (Nat.lt_irrefl _)
 ·exact absurd (Nat.lt_of_lt_of_le (Heap.lt_size (I.pin p hp).1) (by rw [z];exact hb)) (Nat.lt_irrefl _)
structure qDu (P:Program) (w:World) (K:PySem.W.Frag) (tg:Expr) (J:It) (fp:List Addr) (it:Addr) (tn:Nat -> Heap -> Prop):Prop where
 mem:it∈fp
 obj:∀ i h,tn i h -> ∀ b∈fp,∃ o,h.get? b=some o/\∀ v,o.data≠.cell v
 keep:∀ i h h',tn i h -> (∀ b∈fp,∀ o,h.get? b=some o -> h'.get? b=some o) -> tn i h'
 item:∀ (X:Cx),X.prog=P -> X.w=w -> X.K=K -> X.calm=true -> ∀ (i:Nat) (pins:List (Addr×Obj)) (s:Shared) (σ:St) (H:Hp) (E:Value -> Shared -> Prop),Inv X pins σ H s -> (∀ b∈fp,qDP X pins H b) -> tn i s.heap -> J.go i H ->
  wpAny (model P w) X.A (pyNext (.ref it)) (fun r s1=>∃ u,r=some u/\
   wpAny (model P w) X.A (letOwnedTupleGo tg (.ref it) u) (fun _ s2=>∃ x H',Inv X pins σ H' s2/\RelV x u/\J.yld i H x H'/\tn (i + 1) s2.heap/\∀ b∈fp,H' b=none) E s1) E s
 done:∀ (X:Cx),X.prog=P -> X.w=w -> X.K=K -> X.calm=true -> ∀ (i:Nat) (pins:List (Addr×Obj)) (s:Shared) (σ:St) (H:Hp) (E:Value -> Shared -> Prop),Inv X pins σ H s -> (∀ b∈fp,qDP X pins H b) -> tn i s.heap -> J.stop i H ->
  wpAny (model P w) X.A (pyNext (.ref it)) (fun r s1=>r=none/\Inv X pins σ H s1) E s
 self:∀ (A:Around) (i:Nat) (s:Shared) (Q:Value -> Shared -> Prop) (E:Value -> Shared -> Prop),tn i s.heap -> Q (.ref it) s -> wpAny (model P w) A (pyIter (.ref it)) Q E s
noncomputable abbrev TI:=St -> Hp -> (It -> Hp -> Prop) -> Prop
noncomputable def PIE (X:Cx) (pins:List (Addr×Obj)) (σ:St) (tg:Expr) (R:It -> Hp -> Prop) (itv:Value) (s2:Shared):Prop:=
 ∃ (it:Addr) (fp:List Addr) (tn:Nat -> Heap -> Prop) (J:It) (H':Hp),itv=.ref it/\Inv X pins σ H' s2/\qDu X.prog X.w X.K tg J fp it tn/\tn 0 s2.heap/\(∀ b∈fp,qDP X pins H' b)/\R J H'
noncomputable def PI (X:Cx) (tg iter:Expr) (wi:TI):Prop:=
 ∀ (pins:List (Addr×Obj)) (s:Shared) (σ:St) (H:Hp) (R:It -> Hp -> Prop),Inv X pins σ H s -> wi σ H R ->
  wpAny (model X.prog X.w) X.A (eval iter X.env) (fun v s1=>wpAny (model X.prog X.w) X.A (pyIter v) (PIE X pins σ tg R) X.xe s1) X.xe s
theorem go_of {M:Model} {A:Around} {E:Value -> Shared -> Prop} {s:Shared} {tg:Expr} {it:Addr} {u:Value} {o:Obj} {n:String} {vs:Array Value} {Q:Unit -> Shared -> Prop} (ho:s.heap.get? it=some o) (hc:o.cls=.type n) (hd:o.data=.fields vs)
  (hn:["enumerate","zip","dict_itemiterator","dict_reverseitemiterator","odict_iterator","itertools.zip_longest","itertools.pairwise"].contains n=false) (hQ:Q () s):wpAny M A (letOwnedTupleGo tg (.ref it) u) Q E s:=by
 unfold letOwnedTupleGo
 cases tg<;>first
  | exact wpAny_pure hQ
  | (cases u<;>first
    | exact wpAny_pure hQ
    | (refine wpAny_bind (wpAny_load ho ?_)
       rw [hc,hd]
       show wpAny M A (if (["enumerate","zip","dict_itemiterator","dict_reverseitemiterator","odict_iterator","itertools.zip_longest","itertools.pairwise"].contains n&&vs[0]?==some (rawInt _))=true then _ else _) Q E s
       rw [if_neg (by intro h;rw [hn,Bool.false_and] at h;cases h)]
       exact wpAny_pure hQ))
noncomputable def Itl (K:PySem.W.Frag) (a:Addr):It:=
 ⟨fun i H=>∃ xs x,SqL K H a xs/\xs[i]?=some x,fun i H x H'=>H'=H/\∀ xs,SqL K H a xs -> xs[i]?=some x,fun i H=>∃ xs,SqL K H a xs/\xs.length<=i⟩
noncomputable def Itt (K:PySem.W.Frag) (a:Addr):It:=
 ⟨fun i H=>∃ xs x,SqT K H a xs/\xs[i]?=some x,fun i H x H'=>H'=H/\∀ xs,SqT K H a xs -> xs[i]?=some x,fun i H=>∃ xs,SqT K H a xs/\xs.length<=i⟩
noncomputable def Itr (lo:Int) (n:Nat):It:=⟨fun i _=>i < n,fun i H x H'=>H'=H/\x=.int (lo + i),fun i _=>n<=i⟩
theorem turn_list {P:Program} {w:World} {K:PySem.W.Frag} {tg:Expr} (a it:Addr):qDu P w K tg (Itl K a) [it] it (fun i h=>h.IsListIter it a i) where
 mem:=by simp
 obj:=fun i h st b hb=>by
  have e:b=it:=by simpa using hb
  subst e
  obtain ⟨o,e,c,d⟩:=st
  exact ⟨o,e,fun v z=>by rw [d] at z;cases z⟩
 keep:=fun i h h' st k=>st.at fun o e=>k it (by simp) o e
 item:=by
  intro X hP hw hK hc i pins s σ H E I hf st hg
  subst hP hw hK
  obtain ⟨xs,x,hq,hx⟩:=hg
  obtain ⟨its,rv,p,hz⟩:=I.list hq
  obtain ⟨u,hu,ru⟩:=rv.get hx
  obtain ⟨f0,f1,f2,f3,f4,f5⟩:=hf it (by simp)
  refine wpAny_pyNext_list_item st p.isList (x:=u) (by simpa using hu) fun h' st' sb=>?_
  have I1:Inv X pins σ H { s with heap:=h' }:=I.turned (t':=s.toks) (fun b o hb e=>(sb.2 b hb).trans e) f0 f1 f3 f4 f5
  obtain ⟨o,e,c,d⟩:=id st'
  exact ⟨u,rfl,go_of (s:={ s with heap:=h' }) e c d (by decide) ⟨x,H,I1,ru,⟨rfl,fun ys hy=>by rw [I.list_inj hy hq];exact hx⟩,st',fun b hb=>(hf b hb).1⟩⟩
 done:=by
  intro X hP hw hK hc i pins s σ H E I hf st hg
  subst hP hw hK
  obtain ⟨xs,hq,hx⟩:=hg
  obtain ⟨its,rv,p,hz⟩:=I.list hq
  obtain ⟨f0,f1,f2,f3,f4,f5⟩:=hf it (by simp)
  have hl:=rv.length
  exact wpAny_pyNext_list_end (I.ok.hd hc) st p.isList (by simp;omega) fun h' eb=>⟨rfl,I.turned (t':=s.toks) (fun b o hb e=>eb b o hb e) f0 f1 f3 f4 f5⟩
 self:=fun _ _ _ _ _ st h=>wpAny_pyIter_listiter st h
theorem turn_tuple {P:Program} {w:World} {K:PySem.W.Frag} {tg:Expr} (a it:Addr):qDu P w K tg (Itt K a) [it] it (fun i h=>h.IsTupleIter it a i) where
 mem:=by simp
 obj:=fun i h st b hb=>by
  have e:b=it:=by simpa using hb
  subst e
  obtain ⟨o,e,c,d⟩:=st
  exact ⟨o,e,fun v z=>by rw [d] at z;cases z⟩
 keep:=fun i h h' st k=>st.at fun o e=>k it (by simp) o e
 item:=by
  intro X hP hw hK hc i pins s σ H E I hf st hg
  subst hP hw hK
  obtain ⟨xs,x,hq,hx⟩:=hg
  obtain ⟨its,rv,p,hz⟩:=I.tuple hq
  obtain ⟨u,hu,ru⟩:=rv.get hx
  obtain ⟨f0,f1,f2,f3,f4,f5⟩:=hf it (by simp)
  refine wpAny_pyNext_tuple_item st (show s.heap.IsTuple a its.toArray from p) (x:=u) (by simpa using hu) fun h' st' sb=>?_
  have I1:Inv X pins σ H { s with heap:=h' }:=I.turned (t':=s.toks) (fun b o hb e=>(sb.2 b hb).trans e) f0 f1 f3 f4 f5
  obtain ⟨o,e,c,d⟩:=id st'
  exact ⟨u,rfl,go_of (s:={ s with heap:=h' }) e c d (by decide) ⟨x,H,I1,ru,⟨rfl,fun ys hy=>by rw [I.tuple_inj hy hq];exact hx⟩,st',fun b hb=>(hf b hb).1⟩⟩
 done:=by
  intro X hP hw hK hc i pins s σ H E I hf st hg
  subst hP hw hK
  obtain ⟨xs,hq,hx⟩:=hg
  obtain ⟨its,rv,p,hz⟩:=I.tuple hq
  obtain ⟨f0,f1,f2,f3,f4,f5⟩:=hf it (by simp)
  have hl:=rv.length
  exact wpAny_pyNext_tuple_end (I.ok.hd hc) st (show s.heap.IsTuple a its.toArray from p) (by simp;omega) fun h' eb=>⟨rfl,I.turned (t':=s.toks) (fun b o hb e=>eb b o hb e) f0 f1 f3 f4 f5⟩
 self:=fun _ _ _ _ _ st h=>wpAny_pyIter_tupleiter st h
theorem qEx {P:Program} {w:World} {K:PySem.W.Frag} {tg:Expr} (it:Addr) (lo:Int) (n:Nat):qDu P w K tg (Itr lo n) [it] it (fun i h=>IsRangeIter h it (lo + (i:Nat) * 1) ((n:Int) - (i:Nat)) 1) where
 mem:=by simp
 obj:=fun i h st b hb=>by
  have e:b=it:=by simpa using hb
  subst e
  exact ⟨_,st,fun v z=>by
   have z':Data.fields _=Data.cell v:=z
   cases z'⟩
 keep:=fun i h h' st k=>k it (by simp) _ st
 item:=by
  intro X hP hw hK hc i pins s σ H E I hf st hg
  subst hP hw hK
  obtain ⟨f0,f1,f2,f3,f4,f5⟩:=hf it (by simp)
  have W:=Walks.range (prog:=X.prog) (w:=X.w) (I.ok.hd hc) it lo 1 n
  refine W.item i s _ _ hg st fun v h' tk hv st' kk=>?_
  obtain ⟨t,rfl⟩:=hv
  have I1:Inv X pins σ H { s with heap:=h',toks:=tk }:=I.turned (fun b o hb e=>kk b o (by simpa using hb) e) f0 f1 f3 f4 f5
  refine ⟨_,rfl,go_of (s:={ s with heap:=h',toks:=tk }) (n:="range_iterator") st' rfl rfl (by decide) ⟨.int (lo + i),H,I1,⟨t,?_⟩,⟨rfl,rfl⟩,st',fun b hb=>(hf b hb).1⟩⟩
  rw [Int.mul_one]
 done:=by
  intro X hP hw hK hc i pins s σ H E I hf st hg
  subst hP hw hK
  obtain ⟨f0,f1,f2,f3,f4,f5⟩:=hf it (by simp)
  exact wpAny_pyNext_range_end (I.ok.hd hc) st (by have:n<=i:=hg;omega) fun h' eb=>⟨rfl,I.turned (t':=s.toks) (fun b o hb e=>eb b o hb e) f0 f1 f3 f4 f5⟩
 self:=fun _ _ _ _ _ st h=>wpAny_pyIter_rangeiter st h
open PySem PySem.Spec PyProof.Rows
section
variable {X:Cx} {tg:Expr}
theorem qEs {pins:List (Addr×Obj)} {σ:St} {H:Hp} {s:Shared} {R:It -> Hp -> Prop} {E:Value -> Shared -> Prop} {lo hi:Int} {t u v:Tok} {tk:Nat} (I:Inv X pins σ H s) (h1:-(2 ^ 62)<=lo) (h2:lo < 2 ^ 62) (h3:-(2 ^ 62)<=hi) (h4:hi < 2 ^ 62)
  (q:R (Itr lo (hi - lo).toNat) H):wpAny (model X.prog X.w) X.A (pyIter (.ref s.heap.objs.size)) (PIE X pins σ tg R) E { s with heap:=s.heap.push { cls:=.type "range",data:=.fields #[.int lo t,.int hi u,.int 1 v] },toks:=tk }:=by
 refine wpAny_pyIter_range (IsRange.new ..) (small_one h1 h2 h3 h4) ?_
 have I1:Inv X pins σ H { s with heap:=s.heap.push { cls:=.type "range",data:=.fields #[.int lo t,.int hi u,.int 1 v] },toks:=tk }:=I.kept fun b o e=>Heap.get?_push_of_some _ e
 refine ⟨(s.heap.push { cls:=.type "range",data:=.fields #[.int lo t,.int hi u,.int 1 v] }).objs.size,[(s.heap.push { cls:=.type "range",data:=.fields #[.int lo t,.int hi u,.int 1 v] }).objs.size],_,_,H,rfl,
  I1.kept (t':=tk) fun b o e=>Heap.get?_push_of_some _ e,qEx _ lo (hi - lo).toNat,?_,fun b hb=>?_,q⟩
 ·have e1:lo + ((0:Nat):Int) * 1=lo:=by simp
  have e2:(((hi - lo).toNat:Nat):Int) - ((0:Nat):Int)=Builtin.Range.rangeSize lo hi 1:=by rw [rangeSize_one];split<;>omega
  show IsRangeIter _ _ (lo + ((0:Nat):Int) * 1) ((((hi - lo).toNat:Nat):Int) - ((0:Nat):Int)) 1
  rw [e1,e2]
  exact Heap.get?_push_size _ rfl
 ·have e:b=(s.heap.push { cls:=.type "range",data:=.fields #[.int lo t,.int hi u,.int 1 v] }).objs.size:=by simpa using hb
  subst e
  exact I1.fpOk (Nat.le_refl _) (I1.hok.fresh (Nat.le_refl _))
noncomputable def qKd (ta:TA):TI:=fun σ H R=>ta σ H fun vs H1=>∃ j:Int,vs=[.int j]/\-(2 ^ 62)<=j/\j < 2 ^ 62/\R (Itr 0 j.toNat) H1
noncomputable def qKh (ta:TA):TI:=fun σ H R=>ta σ H fun vs H1=>∃ i j:Int,vs=[.int i,.int j]/\(-(2 ^ 62)<=i/\i < 2 ^ 62/\-(2 ^ 62)<=j/\j < 2 ^ 62)/\R (Itr i (j - i).toNat) H1
theorem pi_range1 {a:Expr} {ta:TA} {p pos:Pos} (hg:Gl X "range") (hm:X.mg "range"=none) (ha:PA X [a] ta) (hs:starEach [a] X.env=[(false,eval a X.env)]:=by rfl):PI X tg (.Call (.Name "range" p) [a] [] pos) (qKd ta):=by
 intro pins s σ H R I h
 refine Call_ (ld_blt I hg hm boot_range (PyProof.Rows.callWith_type1 (thn (ha pos pins s σ H _ I h) fun us s1 ⟨vs,H1,I1,r1,q1⟩=>?_) hs rfl))
 obtain ⟨j,e,q1,q2,q⟩:=q1
 subst e
 cases r1 with
 | cons r rr=>
  cases rr
  obtain ⟨t,rfl⟩:=r
  exact call_range_1 (qEs I1 (by omega) (by omega) q1 q2 (by simpa using q))
theorem pi_range2 {a b:Expr} {ta:TA} {p pos:Pos} (hg:Gl X "range") (hm:X.mg "range"=none) (ha:PA X [a,b] ta) (hs:starEach [a,b] X.env=[(false,eval a X.env),(false,eval b X.env)]:=by rfl) (hs2:starEach [b] X.env=[(false,eval b X.env)]:=by rfl):
  PI X tg (.Call (.Name "range" p) [a,b] [] pos) (qKh ta):=by
 intro pins s σ H R I h
 refine Call_ (ld_blt I hg hm boot_range (PyProof.Rows.callWith_type1 (thn (ha pos pins s σ H _ I h) fun us s1 ⟨vs,H1,I1,r1,q1⟩=>?_) (by rw [hs,hs2]) (by rw [hs2];rfl)))
 obtain ⟨i,j,e,⟨q1,q2,q3,q4⟩,q⟩:=q1
 subst e
 cases r1 with
 | cons r rr=>
  cases rr with
  | cons r' rr=>
   cases rr
   obtain ⟨t,rfl⟩:=r
   obtain ⟨t',rfl⟩:=r'
   exact call_range_2 (qEs I1 q1 q2 q3 q4 q)
noncomputable def qMH (wi:TI) (g:TG) (tb:TS):TS:=fun D σ H=>wi σ H fun J H1=>∃ W:Nat -> Nat -> St -> Hp -> Prop,(∃ m,W 0 m σ H1)/\∀ i m σ H,W i m σ H ->
 (J.stop i H/\D.nx σ H)\/(J.go i H/\∃ N:St -> Hp -> Prop,(∀ σ' H',N σ' H' -> ∃ m',m' < m/\W (i + 1) m' σ' H')/\∀ x H',J.yld i H x H' -> g x σ H' fun σ2 H2=>tb { D with nx:=N,ct:=N,bk:=D.nx } σ2 H2)
noncomputable def qDt (fp:List Addr) (h:Heap):List (Addr×Obj):=fp.filterMap fun b=>(h.get? b).map fun o=>(b,o)
theorem qBQ {fp:List Addr} {h:Heap} {b:Addr} {o:Obj} (hb:b∈fp) (e:h.get? b=some o):(b,o)∈qDt fp h:=List.mem_filterMap.mpr ⟨b,hb,by rw [e];rfl⟩
theorem qFn {fp:List Addr} {h:Heap} {p:Addr×Obj} (hp:p∈qDt fp h):p.1∈fp/\h.get? p.1=some p.2:=by
 obtain ⟨b,hb,e⟩:=List.mem_filterMap.mp hp
 cases q:h.get? b with
 | none=>rw [q] at e;cases e
 | some o=>
  rw [q] at e
  have e':(b,o)=p:=Option.some.inj e
  subst e'
  exact ⟨hb,q⟩
theorem Inv.pinned {pins:List (Addr×Obj)} {σ:St} {H:Hp} {s:Shared} {fp:List Addr} (I:Inv X pins σ H s) (hf:∀ b∈fp,qDP X pins H b) (ho:∀ b∈fp,∃ o,s.heap.get? b=some o/\∀ v,o.data≠.cell v):Inv X (pins++qDt fp s.heap) σ H s:=
 I.pins_of fun p hp=>(List.mem_append.mp hp).elim (fun z=>I.pin p (List.mem_append_right _ z)) fun z=>by
  obtain ⟨hb,e⟩:=qFn z
  obtain ⟨f0,f1,f2,_⟩:=hf p.1 hb
  obtain ⟨o,e',d⟩:=ho p.1 hb
  rw [e] at e';cases e'
  exact ⟨e,f0,f1,f2,d⟩
theorem Inv.unpinned {pins pl:List (Addr×Obj)} {σ:St} {H:Hp} {s:Shared} (I:Inv X (pins++pl) σ H s):Inv X pins σ H s:=I.pins_of fun p hp=>I.pin p (List.mem_append_right _ (List.mem_append_left _ hp))
theorem ps_for {iter:Expr} {body:List Stmt} {wi:TI} {g:TG} {tb:TS} {pos:Pos} (hp:PassesOwn (model X.prog X.w) X.A X.env X.xe) (hc:X.calm=true) (hi:PI X tg iter wi) (hg:PG X tg g) (hb:PSs X body tb)
  (hs:∀ x,foldedSetIterable iter X.env x=pure x:=by intro _;rfl):PS X (.For tg iter body [] pos) (qMH wi g tb):=by
 intro pins s σ H D I h
 refine wpAny_For (thn (hi pins s σ H _ I h) fun v s1 h1=>thn h1 fun itv s2 h2=>?_) hs
 obtain ⟨it,fp,tn,J,H2,e,I2,T,st2,f2,W,⟨m0,w0⟩,qHw⟩:=h2
 subst e
 have stat:∀ {H':Hp},(∀ b∈fp,H' b=none) -> ∀ b∈fp,qDP X pins H' b:=fun hn b hb=>⟨hn b hb,(f2 b hb).2⟩
 refine codeAny_forLoop_any (fun n s'=>∃ i σ' H',Inv X pins σ' H' s'/\tn i s'.heap/\(∀ b∈fp,H' b=none)/\W i n σ' H') ?_ m0 ⟨0,σ,H2,I2,st2,fun b hb=>(f2 b hb).1,w0⟩
 rintro n s3 ⟨i,σ3,H3,I3,st3,fr3,w3⟩
 rcases qHw i n σ3 H3 w3 with ⟨stop,qn⟩ | ⟨go,N,hN,step⟩
 ·refine wpAny_passesOwn hp (thn (T.done X rfl rfl rfl hc i pins s3 σ3 H3 X.xe I3 (stat fr3) st3 stop) fun r s4 ⟨hr,I4⟩=>?_)
  subst hr
  exact wpAny_execs_nil ⟨σ3,H3,I4,qn⟩
 ·refine wpAny_passesOwn hp (thn (T.item X rfl rfl rfl hc i pins s3 σ3 H3 X.xe I3 (stat fr3) st3 go) fun r s4 ⟨u,hr,h4⟩=>?_)
  subst hr
  refine wpAny_passesOwn hp (thn h4 fun _ s5 ⟨x,H5,I5,r5,y5,st5,fr5⟩=>?_)
  have I5':=I5.pinned (stat fr5) (T.obj _ _ st5)
  refine wpAny_passesOwn hp (thn (hg _ s5 σ3 H5 x u _ I5' r5 (step x H5 y5)) fun _ s6 ⟨σ6,H6,I6,q6⟩=>?_)
  refine wpAny_passesOwn hp (thn (hb _ s6 σ6 H6 _ I6 q6) fun f s7 q7=>?_)
  have again:∀ {σ7:St} {H7:Hp},Inv X (pins++qDt fp s5.heap) σ7 H7 s7 -> N σ7 H7 -> ∃ m,m < n/\∃ i σ' H',Inv X pins σ' H' s7/\tn i s7.heap/\(∀ b∈fp,H' b=none)/\W i m σ' H':=fun {σ7 H7} I7 n7=>by
   obtain ⟨m',hm,w7⟩:=hN σ7 H7 n7
   refine ⟨m',hm,i + 1,σ7,H7,I7.unpinned,T.keep _ _ _ st5 fun b hb o e=>(I7.pin (b,o) (List.mem_append_right _ (List.mem_append_right _ (qBQ hb e)))).1,fun b hb=>?_,w7⟩
   obtain ⟨o,e,d⟩:=T.obj _ _ st5 b hb
   exact (I7.pin (b,o) (List.mem_append_right _ (List.mem_append_right _ (qBQ hb e)))).2.1
  cases f with
  | next=>obtain ⟨σ7,H7,I7,n7⟩:=q7;exact again I7 n7
  | cont=>obtain ⟨σ7,H7,I7,n7⟩:=q7;exact again I7 n7
  | brk=>obtain ⟨σ7,H7,I7,q7⟩:=q7;exact ⟨σ7,H7,I7.unpinned,q7⟩
  | ret v=>obtain ⟨x7,σ7,H7,I7,r7,q7⟩:=q7;exact ⟨x7,σ7,H7,I7.unpinned,r7,q7⟩
end
open PySem PySem.Spec PyProof.Rows
noncomputable abbrev R2:=V -> V -> Hp -> VK -> Prop
noncomputable def OpR (X:Cx) (f:Value -> Value -> Sem Value) (r:R2):Prop:=
 ∀ (pins:List (Addr×Obj)) (s:Shared) (σ:St) (H:Hp) (x y:V) (v u:Value) (Q:VK),Inv X pins σ H s -> RelV x v -> RelV y u -> r x y H Q ->
  wpAny (model X.prog X.w) X.A (f v u) (EP X pins σ Q) X.xe s
noncomputable def UnR (X:Cx) (f:Value -> Sem Value) (r:V -> Hp -> VK -> Prop):Prop:=
 ∀ (pins:List (Addr×Obj)) (s:Shared) (σ:St) (H:Hp) (x:V) (v:Value) (Q:VK),Inv X pins σ H s -> RelV x v -> r x H Q ->
  wpAny (model X.prog X.w) X.A (f v) (EP X pins σ Q) X.xe s
noncomputable def qAq (X:Cx) (f:Value) (r:List V -> Hp -> VK -> Prop):Prop:=
 ∀ (pins:List (Addr×Obj)) (s:Shared) (σ:St) (H:Hp) (xs:List V) (us:List Value) (Q:VK),Inv X pins σ H s -> Vals xs us -> r xs H Q ->
  wpAny (model X.prog X.w) X.A (call f us) (EP X pins σ Q) X.xe s
noncomputable def tOp (r:R2) (ta tb:TE):TE:=fun σ H Q=>ta σ H fun x H1=>tb σ H1 fun y H2=>r x y H2 Q
noncomputable def tUn (r:V -> Hp -> VK -> Prop) (ta:TE):TE:=fun σ H Q=>ta σ H fun x H1=>r x H1 Q
noncomputable def rI (C:Int -> Int -> Prop) (g:Int -> Int -> V):R2:=fun x y H Q=>∃ i j,x=.int i/\y=.int j/\C i j/\Q (g i j) H
noncomputable def rI0 (g:Int -> Int -> V):R2:=fun x y H Q=>∃ i j,x=.int i/\y=.int j/\Q (g i j) H
noncomputable def rU (g:Int -> V):V -> Hp -> VK -> Prop:=fun x H Q=>∃ i,x=.int i/\Q (g i) H
section
variable {X:Cx} {a b c:Expr} {ta tb tc:TE} {pos:Pos}
theorem qA4 (ha:PE X a ta) (hb:PE X b tb) {pins:List (Addr×Obj)} {s:Shared} {σ:St} {H:Hp} {R:V -> V -> Hp -> Prop} (I:Inv X pins σ H s)
  (h:ta σ H fun x H1=>tb σ H1 fun y H2=>R x y H2) {Q:Value -> Shared -> Prop} {f:Value -> Value -> Sem Value}
  (hf:∀ v u s2 x y H2,Inv X pins σ H2 s2 -> RelV x v -> RelV y u -> R x y H2 -> wpAny (model X.prog X.w) X.A (f v u) Q X.xe s2):
  wpAny (model X.prog X.w) X.A (eval a X.env) (fun v s₁=>wpAny (model X.prog X.w) X.A (eval b X.env) (fun u s₂=>wpAny (model X.prog X.w) X.A (f v u) Q X.xe s₂) X.xe s₁) X.xe s:=by
 refine thn (ha pins s σ H _ I h) fun v s1 ⟨x,H1,I1,r1,q1⟩=>?_
 refine thn (hb pins s1 σ H1 _ I1 q1) fun u s2 ⟨y,H2,I2,r2,q2⟩=>?_
 exact hf v u s2 x y H2 I2 r1 r2 q2
theorem pe_op {op:Operator} {r:R2} (ho:OpR X (binaryOp op) r) (ha:PE X a ta) (hb:PE X b tb):PE X (.BinOp a op b pos) (tOp r ta tb):=by
 intro pins s σ H Q I h
 exact wpAny_BinOp (qA4 ha hb I h fun v u s2 x y H2 I2 rx ry q=>ho pins s2 σ H2 x y v u Q I2 rx ry q)
theorem pe_un {op:UnaryOp} {r:V -> Hp -> VK -> Prop} (ho:UnR X (unaryOp op) r) (ha:PE X a ta):PE X (.UnaryOp op a pos) (tUn r ta):=by
 intro pins s σ H Q I h
 exact UnaryOp_ (thn (ha pins s σ H _ I h) fun v s1 ⟨x,H1,I1,r1,q1⟩=>ho pins s1 σ H1 x v Q I1 r1 q1)
theorem opI {f:Value -> Value -> Sem Value} {C:Int -> Int -> Prop} {g:Int -> Int -> Int}
  (rule:∀ (i j:Int) (t u:Tok) (s:Shared) (Q:Value -> Shared -> Prop) (E:Value -> Shared -> Prop),C i j -> Q (.int (g i j) s.toks) { s with toks:=s.toks + 1 } -> wpAny (model X.prog X.w) X.A (f (.int i t) (.int j u)) Q E s):
  OpR X f (rI C fun i j=>.int (g i j)):=by
 intro pins s σ H x y v u Q I rx ry h
 obtain ⟨i,j,rfl,rfl,hc,q⟩:=h
 obtain ⟨t,rfl⟩:=rx
 obtain ⟨t',rfl⟩:=ry
 exact rule i j t t' s _ _ hc ⟨.int (g i j),H,I.tok _,⟨_,rfl⟩,q⟩
theorem qLC {f:Value -> Value -> Sem Value} {g:Int -> Int -> Int}
  (rule:∀ (i j:Int) (t u:Tok) (s:Shared) (Q:Value -> Shared -> Prop) (E:Value -> Shared -> Prop),Q (.int (g i j) s.toks) { s with toks:=s.toks + 1 } -> wpAny (model X.prog X.w) X.A (f (.int i t) (.int j u)) Q E s):
  OpR X f (rI0 fun i j=>.int (g i j)):=by
 intro pins s σ H x y v u Q I rx ry h
 obtain ⟨i,j,rfl,rfl,q⟩:=h
 obtain ⟨t,rfl⟩:=rx
 obtain ⟨t',rfl⟩:=ry
 exact rule i j t t' s _ _ ⟨.int (g i j),H,I.tok _,⟨_,rfl⟩,q⟩
theorem qJ6 {f:Value -> Value -> Sem Value} {g:Int -> Int -> Bool}
  (rule:∀ (i j:Int) (t u:Tok) (s:Shared) (Q:Value -> Shared -> Prop) (E:Value -> Shared -> Prop),Q (.bool (g i j)) s -> wpAny (model X.prog X.w) X.A (f (.int i t) (.int j u)) Q E s):
  OpR X f (rI0 fun i j=>.bl (g i j)):=by
 intro pins s σ H x y v u Q I rx ry h
 obtain ⟨i,j,rfl,rfl,q⟩:=h
 obtain ⟨t,rfl⟩:=rx
 obtain ⟨t',rfl⟩:=ry
 exact rule i j t t' s _ _ ⟨.bl (g i j),H,I,rfl,q⟩
noncomputable def CDiv (i j:Int):Prop:=0 < j/\j < 1073741824
noncomputable def CPow (i j:Int):Prop:=0<=j/\j<=1000000/\i.natAbs < 2 ^ 64
noncomputable def CMul (i j:Int):Prop:=(-(2 ^ 64) < i/\i < 2 ^ 64)\/(-(2 ^ 64) < j/\j < 2 ^ 64)
theorem CMul.ok {i j:Int} (h:CMul i j):IntMulOk i j:=by
 rcases h with ⟨h1,h2⟩ | ⟨h1,h2⟩
 ·exact .of_left (intBits_le_64 h1 h2)
 ·exact .of_right (intBits_le_64 h1 h2)
theorem op_add:OpR X (binaryOp .Add) (rI0 fun i j=>.int (i + j)):=qLC fun _ _ _ _ _ _ _ q=>add_int q
theorem op_sub:OpR X (binaryOp .Sub) (rI0 fun i j=>.int (i - j)):=qLC fun _ _ _ _ _ _ _ q=>sub_int q
theorem op_mul:OpR X (binaryOp .Mult) (rI CMul fun i j=>.int (i * j)):=opI fun _ _ _ _ _ _ _ hc q=>mul_int q hc.ok
theorem op_fdiv:OpR X (binaryOp .FloorDiv) (rI CDiv fun i j=>.int (i / j)):=opI fun i j _ _ _ _ _ hc q=>by
 have h1:(0:Int) < j:=hc.1
 have h2:j < 1073741824:=hc.2
 exact floordiv_int (by omega) (by rw [Int.fdiv_eq_ediv_of_nonneg i (by omega)];exact q) (.inl (PyProof.noPylong_small (by omega)))
theorem op_mod:OpR X (binaryOp .Mod) (rI (fun _ j=>0 < j) fun i j=>.int (i % j)):=opI fun i j _ _ _ _ _ hc q=>by
 have h1:(0:Int) < j:=hc
 exact mod_int' (by omega) (by rw [Int.fmod_eq_emod_of_nonneg i (by omega)];exact q)
theorem op_modN:OpR X (binaryOp .Mod) (rI (fun _ j=>j≠0) fun i j=>.int (i.fmod j)):=opI fun _ _ _ _ _ _ _ hc q=>mod_int' hc q
theorem op_pow:OpR X (binaryOp .Pow) (rI CPow fun i j=>.int (i ^ j.toNat)):=opI fun _ _ _ _ _ _ _ hc q=>pow_int_small hc.1 hc.2.1 hc.2.2 q
theorem unI {f:Value -> Sem Value} {g:Int -> Int}
  (rule:∀ (i:Int) (t:Tok) (s:Shared) (Q:Value -> Shared -> Prop) (E:Value -> Shared -> Prop),Q (.int (g i) s.toks) { s with toks:=s.toks + 1 } -> wpAny (model X.prog X.w) X.A (f (.int i t)) Q E s):
  UnR X f (rU fun i=>.int (g i)):=by
 intro pins s σ H x v Q I rx h
 obtain ⟨i,rfl,q⟩:=h
 obtain ⟨t,rfl⟩:=rx
 exact rule i t s _ _ ⟨.int (g i),H,I.tok _,⟨_,rfl⟩,q⟩
theorem un_neg:UnR X (unaryOp .USub) (rU fun i=>.int (-i)):=unI fun _ _ _ _ _ q=>neg_int q
end
section
variable {X:Cx} {a b c:Expr} {ta tb tc:TE} {pos:Pos}
theorem qHE {pins:List (Addr×Obj)} {σ:St} {H:Hp} {s:Shared} {Q:VK} {k k':Bool} (I:Inv X pins σ H s) (q:Q (.bl k) H) (e:k=k'):EP X pins σ Q (.bool k') s:=by
 subst e
 exact ⟨.bl k,H,I,rfl,q⟩
theorem op_lt:OpR X (compareOp .Lt) (rI0 fun i j=>.bl (decide (i < j))):=qJ6 fun _ _ _ _ _ _ _ q=>lt_int q
theorem op_le:OpR X (compareOp .LtE) (rI0 fun i j=>.bl (decide (i<=j))):=qJ6 fun _ _ _ _ _ _ _ q=>le_int q
theorem op_gt:OpR X (compareOp .Gt) (rI0 fun i j=>.bl (decide (j < i))):=qJ6 fun _ _ _ _ _ _ _ q=>gt_int q
theorem op_ge:OpR X (compareOp .GtE) (rI0 fun i j=>.bl (decide (j<=i))):=qJ6 fun _ _ _ _ _ _ _ q=>ge_int q
theorem op_isN:OpR X (compareOp .Is) (fun x y H Q=>y=.non/\Q (.bl (decide (x=.non))) H):=by
 intro pins s σ H x y v u Q I rx ry h
 obtain ⟨rfl,q⟩:=h
 cases ry
 refine is_none_gen (qHE I q ?_)
 cases x<;>first
  | (cases rx;rfl)
  | (obtain ⟨t,rfl⟩:=rx;rfl)
theorem op_notN:OpR X (compareOp .IsNot) (fun x y H Q=>y=.non/\Q (.bl (!decide (x=.non))) H):=by
 intro pins s σ H x y v u Q I rx ry h
 obtain ⟨rfl,q⟩:=h
 cases ry
 refine isnot_none_gen (qHE I q ?_)
 cases x<;>first
  | (cases rx;rfl)
  | (obtain ⟨t,rfl⟩:=rx;rfl)
theorem OpR.or {f:Value -> Value -> Sem Value} {r r':R2} (h:OpR X f r) (h':OpR X f r'):OpR X f (fun x y H Q=>r x y H Q\/r' x y H Q):=by
 intro pins s σ H x y v u Q I rx ry q
 rcases q with q | q
 ·exact h pins s σ H x y v u Q I rx ry q
 ·exact h' pins s σ H x y v u Q I rx ry q
theorem pe_cmpR {op:CmpOp} {r:R2} (ho:OpR X (compareOp op) r) (ha:PE X a ta) (hb:PE X b tb) (hm:behindInMarks op b=false):PE X (.Compare a [op] [b] pos) (tOp r ta tb):=by
 intro pins s σ H Q I h
 exact wpAny_Compare1 (qA4 ha hb I h fun v u s2 x y H2 I2 rx ry q=>ho pins s2 σ H2 x y v u Q I2 rx ry q) hm
noncomputable def qHi (t:TE):TT:=fun σ H Q=>t σ H fun x H'=>∃ k,x=.bl k/\Q k H'
theorem pt_cmpR {op:CmpOp} {r:R2} (ho:OpR X (compareOp op) r) (ha:PE X a ta) (hb:PE X b tb) (hm:behindInMarks op b=false):PT X (.Compare a [op] [b] pos) (qHi (tOp r ta tb)):=by
 intro pins s σ H Q I h
 refine wpAny_isTrue_Compare1 (thn (ha pins s σ H _ I h) fun v s1 ⟨x,H1,I1,r1,q1⟩=>thn (hb pins s1 σ H1 _ I1 q1) fun u s2 ⟨y,H2,I2,r2,q2⟩=>
  thn (ho pins s2 σ H2 x y v u _ I2 r1 r2 q2) fun c s3 ⟨z,H3,I3,r3,k,e,q3⟩=>?_) hm
 subst e
 cases r3
 exact wpAny_truthy_bool ⟨H3,I3,q3⟩
noncomputable def tChain (r r':R2) (ta tb tc:TE):TE:=fun σ H Q=>ta σ H fun x H1=>tb σ H1 fun y H2=>r x y H2 fun z H3=>∃ k,z=.bl k/\
 (if k=true then tc σ H3 fun w' H4=>r' y w' H4 Q else Q (.bl false) H3)
theorem pe_chain {op op':CmpOp} {r r':R2} (ho:OpR X (compareOp op) r) (ho':OpR X (compareOp op') r') (ha:PE X a ta) (hb:PE X b tb) (hc:PE X c tc)
  (hm:lastMarks [op,op'] [b,c]=false:=by with_unfolding_all rfl):PE X (.Compare a [op,op'] [b,c] pos) (tChain r r' ta tb tc):=by
 intro pins s σ H Q I h
 refine Compare_chain (thn (ha pins s σ H _ I h) fun v s1 ⟨x,H1,I1,r1,q1⟩=>chain_link (thn (hb pins s1 σ H1 _ I1 q1) fun u s2 ⟨y,H2,I2,r2,q2⟩=>
  thn (ho pins s2 σ H2 x y v u _ I2 r1 r2 q2) fun d s3 ⟨z,H3,I3,r3,k,e,q3⟩=>?_)) hm
 subst e
 cases r3
 refine wpAny_truthy_bool ?_
 cases k with
 | false=>exact ite_ff ⟨.bl false,H3,I3,rfl,q3⟩
 | true=>exact ite_tt (chain_last (thn (hc pins s3 σ H3 _ I3 q3) fun w' s4 ⟨z',H4,I4,r4,q4⟩=>ho' pins s4 σ H4 y z' u w' Q I4 r2 r4 q4))
theorem pt_chain {op op':CmpOp} {r r':R2} (ho:OpR X (compareOp op) r) (ho':OpR X (compareOp op') r') (ha:PE X a ta) (hb:PE X b tb) (hc:PE X c tc)
  (hm:lastMarks [op,op'] [b,c]=false:=by with_unfolding_all rfl):PT X (.Compare a [op,op'] [b,c] pos) (qHi (tChain r r' ta tb tc)):=by
 intro pins s σ H Q I h
 refine isTrue_chain (thn (ha pins s σ H _ I h) fun v s1 ⟨x,H1,I1,r1,q1⟩=>test_link (thn (hb pins s1 σ H1 _ I1 q1) fun u s2 ⟨y,H2,I2,r2,q2⟩=>
  thn (ho pins s2 σ H2 x y v u _ I2 r1 r2 q2) fun d s3 ⟨z,H3,I3,r3,k,e,q3⟩=>?_)) hm
 subst e
 cases r3
 refine wpAny_truthy_bool ?_
 cases k with
 | false=>
  obtain ⟨k',e',q'⟩:=q3
  cases e'
  exact ite_ff ⟨H3,I3,q'⟩
 | true=>
  refine ite_tt (test_last (thn (hc pins s3 σ H3 _ I3 q3) fun w' s4 ⟨z',H4,I4,r4,q4⟩=>thn (ho' pins s4 σ H4 y z' u w' _ I4 r2 r4 q4) fun d' s5 ⟨z2,H5,I5,r5,k2,e2,q5⟩=>?_))
  subst e2
  cases r5
  exact wpAny_truthy_bool ⟨H5,I5,q5⟩
theorem qEG:(sizeLine:Nat) < 2 ^ 63:=by rw [sizeLine_eq];decide
theorem vals1 {x:V} {us:List Value} (r:Vals [x] us):∃ u,us=[u]/\RelV x u:=by
 cases r with
 | cons r1 r2=>cases r2;exact ⟨_,rfl,r1⟩
theorem vals2 {x y:V} {us:List Value} (r:Vals [x,y] us):∃ u w',us=[u,w']/\RelV x u/\RelV y w':=by
 cases r with
 | cons r1 r2=>
  cases r2 with
  | cons r3 r4=>cases r4;exact ⟨_,_,rfl,r1,r3⟩
theorem call_abs:qAq X (.builtin "abs") (fun xs H Q=>∃ i,xs=[.int i]/\Q (.int (if i < 0 then -i else i)) H):=by
 intro pins s σ H xs us Q I r h
 obtain ⟨i,rfl,q⟩:=h
 obtain ⟨u,rfl,t,rfl⟩:=vals1 r
 exact call_abs_int fun u tk=>⟨.int (if i < 0 then -i else i),H,I.tok _,⟨_,rfl⟩,q⟩
theorem call_max2 (hc:X.calm=true):qAq X (.builtin "max") (fun xs H Q=>∃ i j,xs=[.int i,.int j]/\Q (.int (if j > i then j else i)) H):=by
 intro pins s σ H xs us Q I r h
 obtain ⟨i,j,rfl,q⟩:=h
 obtain ⟨u,w',rfl,⟨t,rfl⟩,⟨t',rfl⟩⟩:=vals2 r
 refine max_two_ints (I.ok.hd hc) fun h' tk k=>⟨_,H,I.kept k,?_,q⟩
 by_cases hj:j > i
 ·rw [if_pos hj,if_pos hj];exact ⟨_,rfl⟩
 ·rw [if_neg hj,if_neg hj];exact ⟨_,rfl⟩
theorem call_min2 (hc:X.calm=true):qAq X (.builtin "min") (fun xs H Q=>∃ i j,xs=[.int i,.int j]/\Q (.int (if j < i then j else i)) H):=by
 intro pins s σ H xs us Q I r h
 obtain ⟨i,j,rfl,q⟩:=h
 obtain ⟨u,w',rfl,⟨t,rfl⟩,⟨t',rfl⟩⟩:=vals2 r
 refine min_two_ints (I.ok.hd hc) fun h' tk k=>⟨_,H,I.kept k,?_,q⟩
 by_cases hj:j < i
 ·rw [if_pos hj,if_pos hj];exact ⟨_,rfl⟩
 ·rw [if_neg hj,if_neg hj];exact ⟨_,rfl⟩
theorem call_int1:qAq X (.type "int") (fun xs H Q=>(∃ i,xs=[.int i]/\Q (.int i) H)\/∃ k,xs=[.bl k]/\Q (.int (if k then 1 else 0)) H):=by
 intro pins s σ H xs us Q I r h
 rcases h with ⟨i,rfl,q⟩ | ⟨k,rfl,q⟩
 ·obtain ⟨u,rfl,t,rfl⟩:=vals1 r
  exact call_int_int ⟨.int i,H,I,⟨_,rfl⟩,q⟩
 ·obtain ⟨u,rfl,r1⟩:=vals1 r
  cases r1
  exact call_int_bool ⟨.int (if k then 1 else 0),H,I.tok _,⟨_,rfl⟩,q⟩
end
open PySem PySem.Spec PyProof.Rows
section
variable {prog:Program} {w:World} {A:Around} {E:Value -> Shared -> Prop} {s:Shared} {K:PySem.W.Frag} {x dx C f:Addr} {mA:Str -> Option Value} {name:Str} {v:Value}
end
section
variable {P:Program} {w:World} {H H':Hp} {h h':Heap} {a C dx:Addr} {fs fs':List (Str×V)}
end
section
variable {X:Cx} {pins:List (Addr×Obj)} {σ:St} {H:Hp} {s:Shared} {a C dx:Addr} {fs:List (Str×V)} {f:Str} {v:V} {A:Around} {E:Value -> Shared -> Prop}
end
section
variable {X:Cx} {o e value:Expr} {f:Str} {pos pos' tpos:Pos} {ta tv:TE}
end
section
variable {X:Cx} {pins:List (Addr×Obj)} {σ:St} {H:Hp} {s:Shared} {A:Around} {E:Value -> Shared -> Prop} {Q:Value -> Shared -> Prop} {c:Value} {b:Bool}
end
open PySem PySem.Spec PyProof.Rows
structure Room (k:Nat) (A:Around):Prop where
 hd:A.handled=none
 dp:A.depth + 3 * k + 5 < recursionLimit
 un:A.units + 16 * k + 200 < cLine
 gd:A.guards=some []
theorem Room.deeper {k:Nat} {A:Around} (r:Room (k + 1) A) (env:Env):Room k (A.deeper env):=
 ⟨r.hd,by have:=r.dp;show A.depth + 1 + 3 * k + 5 < _;omega,by have:=r.un;show A.units + 3 + 16 * k + 200 < _;omega,r.gd⟩
theorem Room.depth {k:Nat} {A:Around} (r:Room k A):A.depth < recursionLimit:=by have:=r.dp;omega
theorem Room.units {k:Nat} {A:Around} (r:Room k A):A.units + 64 < cLine:=by have:=r.un;omega
noncomputable def qLB:TA:=fun _ H Q=>Q [] H
noncomputable def qKR (ta:TE) (tr:TA):TA:=fun σ H Q=>ta σ H fun x H1=>tr σ H1 fun xs H2=>Q (x::xs) H2
section
variable {X:Cx} {e:Expr} {es:List Expr} {te:TE} {t:TA} {pos:Pos}
theorem pa_nil:PA X [] qLB:=fun _ _ _ _ H Q I h=>Calls.spliced_nil ⟨[],H,I,.nil,h⟩
theorem pa_cons (ha:PE X e te) (hr:PA X es t) (hs:starEach (e::es) X.env=(false,eval e X.env)::starEach es X.env:=by rfl):PA X (e::es) (qKR te t):=by
 intro pos pins s σ H Q I h
 rw [hs]
 show wpAny _ _ (spliced ((false,eval e X.env)::backTo pos (starEach es X.env))) _ _ s
 refine Calls.spliced_cons (thn (ha pins s σ H _ I h) fun u s1 ⟨x,H1,I1,r1,q1⟩=>?_)
 exact thn (hr pos pins s1 σ H1 _ I1 q1) fun us s2 ⟨xs,H2,I2,r2,q2⟩=>⟨x::xs,H2,I2,.cons r1 r2,q2⟩
noncomputable def qMj (t:TA):TE:=fun σ H Q=>t σ H fun xs H1=>xs.length<=sizeLine/\∀ p,H1 p=none -> Q (.ref p) (upd H1 p (.tup xs))
noncomputable def qMY (t:TA):TE:=fun σ H Q=>t σ H fun xs H1=>xs.length<=sizeLine/\∀ p,H1 p=none -> Q (.ref p) (upd H1 p (.lst xs))
theorem pe_tup {x1} (h:PA X es t):PE X (.Tuple es x1 pos) (qMj t):=by
 intro pins s σ H Q I hq
 refine wpAny_Tuple_spliced (thn (h pos pins s σ H _ I hq) fun us s1 ⟨xs,H1,I1,r,z,q⟩=>⟨by rw [<- r.length];exact z,?_⟩)
 have hf:H1 s1.heap.objs.size=none:=I1.hok.fresh (Nat.le_refl _)
 refine ⟨.ref s1.heap.objs.size,upd H1 s1.heap.objs.size (.tup xs),I1.laid (t':=s1.toks) (fun b u e=>Heap.get?_push_of_some _ e) (Nat.le_refl _) ?_,rfl,q _ hf⟩
 exact ⟨z,us,r,⟨_,Heap.get?_push_size _ rfl,rfl,_,rfl⟩⟩
theorem pe_lst (h:PA X es t):PE X (.List es pos) (qMY t):=by
 intro pins s σ H Q I hq
 refine wpAny_List_spliced (thn (h pos pins s σ H _ I hq) fun us s1 ⟨xs,H1,I1,r,z,q⟩=>⟨by rw [<- r.length];exact z,?_⟩)
 have hf:H1 s1.heap.objs.size=none:=I1.hok.fresh (Nat.le_refl _)
 refine ⟨.ref s1.heap.objs.size,upd H1 s1.heap.objs.size (.lst xs),I1.laid (t':=s1.toks) (fun b u e=>Heap.get?_push_of_some _ e) (Nat.le_refl _) ?_,rfl,q _ hf⟩
 exact ⟨z,us,0,r,Heap.get?_push_size _ rfl⟩
end
noncomputable abbrev Sp:=List V -> Hp -> VK -> XK -> Prop
noncomputable abbrev CXT:=List Env -> Hp -> Shared -> XK -> Value -> Shared -> Prop
structure qJ2 (P:Program) (w:World) (K:PySem.W.Frag) (mg:Str -> Option Value) (base:Heap) (A:Around) (outer:List Env) (s:Shared) (H:Hp):Prop where
 frames:A.frames=some outer
 mod:Mod K mg base
 bs:∀ b o,base.get? b=some o -> s.heap.get? b=some o/\H b=none
 bsz:base.objs.size<=s.heap.objs.size
 funs:s.heap.FunFrames base outer
 frf:∀ b∈frs outer,H b=none
 hok:HOk P w H s.heap
 bare:AllBare s.gens
noncomputable def CE (outer:List Env) (P:Program) (w:World) (H:Hp) (s:Shared) (Q:VK) (u:Value) (s':Shared):Prop:=
 ∃ v H',s'.os=s.os/\AllBare s'.gens/\Un (frs outer) [] H H' s.heap s'.heap/\HOk P w H' s'.heap/\RelV v u/\Q v H'
noncomputable def CR (CX:CXT) (outer:List Env) (P:Program) (w:World) (H:Hp) (s:Shared) (Q:VK) (E:XK) (r:Result) (s':Shared):Prop:=
 match r with
 | .ok (.ret u)=>CE outer P w H s Q u s'
 | .ok _=>False
 | .error e=>CX outer H s E e s'
structure FnOk (P:Program) (w:World) (K:PySem.W.Frag) (mg:Str -> Option Value) (base:Heap) (CX:CXT) (k:Nat) (f:Addr) (fd:FuncData) (ps:List Str) (sp:Sp):Prop where
 len:∀ vs H Q E,sp vs H Q E -> vs.length=ps.length
 run:∀ (A:Around) (outer:List Env) (s:Shared) (H:Hp) (args:Args) (us:List Value) (vs:List V) (Q:VK) (E:XK),Room k A -> qJ2 P w K mg base A outer s H -> BindsTo s fd args (ps.zip us) -> Vals vs us -> sp vs H Q E ->
  codeAny (model P w) A (.call (.ref f) args) (CR CX outer P w H s Q E) s
section
variable {X:Cx} {pins:List (Addr×Obj)} {σ:St} {H:Hp} {s s':Shared}
theorem Inv.env0 (I:Inv X pins σ H s):qJ2 X.prog X.w X.K X.mg X.base X.A X.stack s H:=
 ⟨I.ok.frames,I.ok.mod,I.bs,Nat.le_trans I.ok.bsz I.sz,I.stack,I.stkFree,I.hok,I.bare⟩
theorem Inv.after {Q:VK} {u:Value} (I:Inv X pins σ H s) (h:CE X.stack X.prog X.w H s Q u s'):EP X pins σ Q u s':=by
 obtain ⟨v,H',os,bare,un,hok,r,q⟩:=h
 obtain ⟨hh,g,d,t,os'⟩:=s'
 obtain rfl:os'=s.os:=os
 exact ⟨v,H',I.call (h':=hh) (g':=g) (d':=d) (t':=t) (ch:=[]) un hok bare (fun b z=>absurd z (by simp)),r,q⟩
end
noncomputable def tCall (sp:Sp) (dvs:List V) (E:XK) (t:TA):TE:=fun σ H Q=>t σ H fun vs H1=>sp (vs++dvs) H1 Q E
noncomputable def Binds (K:PySem.W.Frag) (fd:FuncData) (ps:List Str) (ds:List Value):Prop:=
 ∀ (s:Shared) (us:List Value),K.In s.heap -> (us++ds).length=ps.length -> BindsTo s fd ⟨us,[]⟩ (ps.zip (us++ds))
theorem Binds.all {K:PySem.W.Frag} {fd:FuncData} {ps:List Str} (h:∀ us:List Value,us.length=ps.length -> bindArgs fd ⟨us,[]⟩=pure (ps.zip us)):Binds K fd ps []:=fun s us _ hl=>by
 rw [List.append_nil] at hl ⊢
 exact .of_eq (h us hl)
noncomputable def qEp (CX:CXT) (X:Cx) (E:XK):Prop:=∀ (pins:List (Addr×Obj)) (σ:St) (H:Hp) (s:Shared) (e:Value) (s':Shared),Inv X pins σ H s -> CX X.stack H s E e s' -> X.xe e s'
section
variable {X:Cx} {CX:CXT} {k:Nat} {f C:Addr} {fd:FuncData} {ps:List Str} {sp:Sp} {dvs:List V} {ds:List Value} {E:XK} {x m:Str} {p pos apos:Pos} {e o:Expr} {es:List Expr} {ta:TE} {t:TA}
theorem qHB {pins:List (Addr×Obj)} {σ:St} {H:Hp} {s:Shared} {Q:VK} {us:List Value} {vs:List V} (F:FnOk X.prog X.w X.K X.mg X.base CX k f fd ps sp) (hr:Room k X.A) (hb:Binds X.K fd ps ds) (hd:Vals dvs ds) (hx:qEp CX X E)
  (I:Inv X pins σ H s) (r:Vals vs us) (h:sp (vs++dvs) H Q E):wpAny (model X.prog X.w) X.A (call (.ref f) us) (EP X pins σ Q) X.xe s:=by
 have r2:Vals (vs++dvs) (us++ds):=r.append hd
 have hl:(us++ds).length=ps.length:=by rw [<- r2.length];exact F.len _ _ _ _ h
 refine wpAny_call (codeAny_mono (F.run X.A X.stack s H ⟨us,[]⟩ (us++ds) (vs++dvs) Q E hr I.env0 (hb s us I.kIn hl) r2 h) fun r s' hq=>?_)
 cases r with
 | error e=>exact hx pins σ H s e s' I hq
 | ok fl=>
  cases fl with
  | ret u=>exact I.after hq
  | next=>exact False.elim hq
  | brk=>exact False.elim hq
  | cont=>exact False.elim hq
theorem pe_call (F:FnOk X.prog X.w X.K X.mg X.base CX k f fd ps sp) (hr:Room k X.A) (hg:Gl X x) (hm:X.mg x=some (.ref f)) (hk:PySem.W.keepIn X.K (.ref f)=true) (hb:Binds X.K fd ps ds) (hd:Vals dvs ds) (hx:qEp CX X E)
  (ha:PA X (e::es) t) (hdb:(x==("__debug__":Str))=false:=by decide) (he:starEach (e::es) X.env=(false,eval e X.env)::starEach es X.env:=by rfl) (hpl:(backTo pos (starEach es X.env)).any (·.1)=false:=by rfl):
  PE X (.Call (.Name x p) (e::es) [] pos) (tCall sp dvs E t):=by
 intro pins s σ H Q I h
 refine wpAny_Call_Name_kw (qED I hg hm ?_ hdb)
 refine PySem.W.callWith_K (h₀:=X.base) I.ok.mod.kin hk (thn (ha pos pins s σ H _ I h) fun us s1 ⟨vs,H1,I1,r,q⟩=>⟨I1.kIn,?_⟩) he hpl
 exact qHB F hr hb hd hx I1 r q
theorem pe_call0 (F:FnOk X.prog X.w X.K X.mg X.base CX k f fd ps sp) (hr:Room k X.A) (hg:Gl X x) (hm:X.mg x=some (.ref f)) (hk:PySem.W.keepIn X.K (.ref f)=true) (hb:Binds X.K fd ps ds) (hd:Vals dvs ds) (hx:qEp CX X E)
  (hdb:(x==("__debug__":Str))=false:=by decide):PE X (.Call (.Name x p) [] [] pos) (tCall sp dvs E qLB):=by
 intro pins s σ H Q I h
 refine wpAny_Call_Name_kw (qED I hg hm ?_ hdb)
 exact PySem.W.callWith_K0 I.kIn hk (qHB (us:=[]) F hr hb hd hx I .nil h)
end
section
variable {X:Cx} {CX:CXT} {k:Nat} {f C:Addr} {fd:FuncData} {ps ks:List Str} {sp:Sp} {E:XK} {x m:Str} {p pos apos kpos:Pos} {e o:Expr} {es:List Expr} {kws:List Keyword} {te ta:TE} {t tk:TA} {nm:Option Str}
variable {g:List Value -> List Value -> List Value} {gV:List V -> List V -> List V}
end
structure qBG (N P:List Str) (sc:Scope):Prop where
 kind:sc.kind=.function
 co:sc.isCoroutine=false
 gen:sc.isGenerator=false
 nd:N.Nodup
 pre:N.take P.length=P
 par:∀ x∈P,sc.names.lookup x=some .local\/sc.names.lookup x=some .cell
 nofree:∀ y∈sc.names,y.2≠.free
theorem qDs {kindOf:Str -> Option NameKind} {x:Str}:∀ {binds:List (Str×Value)} {m:Str -> Option Value},(∀ v,(x,v)∉binds) -> bindL kindOf binds m x=m x
 | [],_,_=>rfl
 | (n,v)::r,m,h=>by
  unfold bindL
  rw [qDs fun w hw=>h w (List.mem_cons_of_mem _ hw)]
  split
  ·have:x≠n:=by rintro rfl;exact h v List.mem_cons_self
   simp [this]
  ·rfl
theorem qDY {kindOf:Str -> Option NameKind} {x:Str}:∀ {binds:List (Str×Value)} {m:Str -> Option Value},(∀ v,(x,v)∉binds) -> bindC kindOf binds m x=m x
 | [],_,_=>rfl
 | (n,v)::r,m,h=>by
  unfold bindC
  rw [qDY fun w hw=>h w (List.mem_cons_of_mem _ hw)]
  split
  ·rfl
  ·have:x≠n:=by rintro rfl;exact h v List.mem_cons_self
   simp [this]
theorem qDR {kindOf:Str -> Option NameKind} {x:Str} {v:Value}:∀ {P:List Str} {vs:List Value} {i:Nat} {m:Str -> Option Value},P.Nodup -> P[i]?=some x -> vs[i]?=some v -> kindOf x=some .local ->
  bindL kindOf (P.zip vs) m x=some v
 | [],_,_,_,_,h,_,_=>by simp at h
 | _::_,[],_,_,_,_,h,_=>by simp at h
 | p::P,w::vs,0,m,nd,h1,h2,hk=>by
  simp at h1 h2;subst h1;subst h2
  show bindL kindOf ((p,w)::P.zip vs) m p=_
  unfold bindL
  rw [qDs fun v hv=>(List.nodup_cons.mp nd).1 (List.of_mem_zip hv).1,if_pos hk]
  simp
 | p::P,w::vs,i + 1,m,nd,h1,h2,hk=>by
  show bindL kindOf ((p,w)::P.zip vs) m x=_
  unfold bindL
  exact qDR (i:=i) (List.nodup_cons.mp nd).2 (by simpa using h1) (by simpa using h2) hk
theorem qDV {kindOf:Str -> Option NameKind} {x:Str} {v:Value}:∀ {P:List Str} {vs:List Value} {i:Nat} {m:Str -> Option Value},P.Nodup -> P[i]?=some x -> vs[i]?=some v -> kindOf x≠some .local ->
  bindC kindOf (P.zip vs) m x=some v
 | [],_,_,_,_,h,_,_=>by simp at h
 | _::_,[],_,_,_,_,h,_=>by simp at h
 | p::P,w::vs,0,m,nd,h1,h2,hk=>by
  simp at h1 h2;subst h1;subst h2
  show bindC kindOf ((p,w)::P.zip vs) m p=_
  unfold bindC
  rw [qDY fun v hv=>(List.nodup_cons.mp nd).1 (List.of_mem_zip hv).1,if_neg hk]
  simp
 | p::P,w::vs,i + 1,m,nd,h1,h2,hk=>by
  show bindC kindOf ((p,w)::P.zip vs) m x=_
  unfold bindC
  exact qDV (i:=i) (List.nodup_cons.mp nd).2 (by simpa using h1) (by simpa using h2) hk
noncomputable def start (N:List Str) (vs:List V):St:=vs.map some++List.replicate (N.length - vs.length) none
noncomputable def cxOf (CX:CXT) (P:Program) (w:World) (K:PySem.W.Frag) (mg:Str -> Option Value) (base:Heap) (N:List Str) (qual:Str) (scope:Scope) (f:Addr) (cd:Value) (A:Around) (outer:List Env) (s:Shared) (H:Hp) (E:XK):Cx where
 prog:=P
 w:=w
 K:=K
 mg:=mg
 base:=base
 A:=A.deeper (envOfC qual scope s.heap.objs.size f cd)
 N:=N
 s₀:=s
 H₀:=H
 env:=envOfC qual scope s.heap.objs.size f cd
 outer:=outer
 stack:=envOfC qual scope s.heap.objs.size f cd::outer
 ex:=[]
 calm:=true
 fn:=fun _=>true
 pn:=[]
 xe:=fun e s'=>wpAny (model P w) (A.deeper (envOfC qual scope s.heap.objs.size f cd)) (leaving (envOfC qual scope s.heap.objs.size f cd) e) (fun _ s''=>CX outer H s E e s'') (fun e' s''=>CX outer H s E e' s'') s'
theorem qEM {sc:Scope} {n:Nat} {x:Str} (h:sc.names.lookup x=some .cell):∃ c,(cellsFrom n sc.names []).lookup x=some c:=by
 have q:=PySem.W.cellsFrom_some sc.names n [] (.inl h)
 exact Option.isSome_iff_exists.mp q
theorem qFy {CX:CXT} {P:Program} {w:World} {K:PySem.W.Frag} {mg:Str -> Option Value} {base:Heap} {N ps:List Str} {qual:Str} {scope:Scope} {f:Addr} {cd:Value} {A:Around} {outer:List Env} {s s1:Shared} {H:Hp} {E:XK} {us:List Value} {vs:List V}
  (S:qBG N ps scope) (hd:A.handled=none) (e0:qJ2 P w K mg base A outer s H) (hl:vs.length=ps.length) (r:Vals vs us)
  (x:InCallC s s.heap.objs.size (bindL (envOfC qual scope s.heap.objs.size f cd).kindOf (ps.zip us) fun _=>none) (cellsFrom (s.heap.objs.size + 1) scope.names []) (bindC (envOfC qual scope s.heap.objs.size f cd).kindOf (ps.zip us) fun _=>none) s1):
  Inv (cxOf CX P w K mg base N qual scope f cd A outer s H E) [] (start N vs) H s1:=by
 have hpl:ps.length<=N.length:=by have:=congrArg List.length S.pre;rw [List.length_take] at this;omega
 obtain ⟨h1,tk,rfl,hk⟩:=x.done
 have noA:∀ b:Addr,b∉(cxOf CX P w K mg base N qual scope f cd A outer s H E).ex:=fun b z=>absurd (show b∈([]:List Addr) from z) (by simp)
 refine ⟨⟨e0.mod,S.kind,rfl,rfl,Nat.le_refl _,fun y z c h1 h2=>?_,fun y hy=>?_,fun y c _ h=>?_,fun _=>hd,Around.frames_deeper e0.frames,.inr ⟨rfl,rfl⟩,fun b z=>absurd z (noA b),e0.bs,e0.bsz,fun b _ _=>noA b,fun b z=>absurd z (noA b),e0.funs,e0.frf⟩,
  rfl,e0.bare,Un.kept hk,⟨_,x.toInCall.ns,fun i y v h1 h2 h3=>?_⟩,fun y c h=>⟨_,x.cell y c h⟩,e0.hok.fresh (Nat.le_refl _),fun y c h=>?_,fun p hp=>absurd (show p∈([]:List (Addr×Obj)) from hp) (by simp),e0.hok.kept hk,?_⟩
 ·exact name_of_addr x.apart (PySem.mem_of_lookup h1) (PySem.mem_of_lookup h2)
 ·have hy:scope.names.lookup y=some .cell\/scope.names.lookup y=some .free:=hy
  rcases hy with hy | hy
  ·exact qEM hy
  ·exact absurd rfl (S.nofree _ (PySem.mem_of_lookup hy))
 ·exact Nat.le_of_lt (x.above y c (PySem.mem_of_lookup h))
 ·have hi:i < vs.length:=by
   unfold start at h2
   by_cases hi:i < vs.length
   ·exact hi
   ·rw [List.getElem?_append_right (by simpa using hi)] at h2
    rw [List.getElem?_replicate] at h2
    split at h2<;>cases h2
  have ha:vs[i]?=some v:=by
   unfold start at h2
   rw [List.getElem?_append_left (by simpa using hi),List.getElem?_map] at h2
   cases e:vs[i]? with
   | none=>rw [e] at h2;cases h2
   | some a=>rw [e] at h2;cases h2;rfl
  obtain ⟨u,hu,rv⟩:=r.get ha
  have hp:ps[i]?=some y:=by
   rw [<- S.pre,List.getElem?_take_of_lt (by omega)];exact h1
  have ndP:ps.Nodup:=by rw [<- S.pre];exact S.nd.sublist (List.take_sublist _ _)
  refine ⟨u,rv,?_⟩
  rcases S.par y (List.mem_of_getElem? hp) with k | k
  ·exact .inl ⟨k,qDR ndP hp hu k⟩
  ·obtain ⟨c,e⟩:=qEM (n:=s.heap.objs.size + 1) k
   refine .inr ⟨.inl k,c,e,?_⟩
   have q:=x.cell y c e
   rw [qDV ndP hp hu (by show scope.names.lookup y≠_;rw [k];decide)] at q
   exact q
 ·exact e0.hok.fresh (Nat.le_of_lt (x.above y c (PySem.mem_of_lookup h)))
 ·unfold start
  show _=N.length
  rw [List.length_append,List.length_map,List.length_replicate]
  omega
theorem qKI {CX:CXT} {P:Program} {w:World} {K:PySem.W.Frag} {mg:Str -> Option Value} {base:Heap} {k:Nat} {f:Addr} {name qual:Str} {params:Arguments} {body:List Stmt} {scope:Scope} {dV kV doc pm cdv ct oc:Value} {an od:Option Addr}
  {osl:Array (Option Value)} {N ps:List Str} {sp:Sp} (lk:K.lookup f=some ⟨oc,od,.func (PySem.W.fnOf name qual params body scope dV kV doc pm an cdv ct),osl⟩) (hcd:PySem.W.codeIn K cdv qual=true) (S:qBG N ps scope)
  (len:∀ vs H Q E,sp vs H Q E -> vs.length=ps.length)
  (hbody:∀ (A:Around) (outer:List Env) (s:Shared) (H:Hp) (vs:List V) (Q:VK) (E:XK),Room k (A.deeper (envOfC qual scope s.heap.objs.size f cdv)) -> sp vs H Q E ->
   ∃ t,PSs (cxOf CX P w K mg base N qual scope f cdv A outer s H E) body t/\t { nx:=fun _ H'=>Q .non H',rt:=Q } (start N vs) H):
  FnOk P w K mg base CX (k + 1) f (PySem.W.fnOf name qual params body scope dV kV doc pm an cdv ct) ps sp:=by
 refine ⟨len,fun A outer s H args us vs Q E hr e0 hb r hsp=>?_⟩
 have hl:=len _ _ _ _ hsp
 have KX:K.In s.heap:=e0.mod.kin.keeps fun b o e=>(e0.bs b o e).1
 have lim:s.heap.NoLimit:=e0.mod.nolimit.keeps fun b o e=>(e0.bs b o e).1
 have hkind:∀ y∈ps.zip us,scope.names.lookup y.1=some .local\/(scope.names.lookup y.1=some .cell/\((cellsFrom (s.heap.objs.size + 1) scope.names []).lookup y.1).isSome=true):=fun ⟨n,v⟩ hy=>by
  rcases S.par n (List.of_mem_zip hy).1 with q | q
  ·exact .inl q
  ·exact .inr ⟨q,PySem.W.cellsFrom_some _ _ _ (.inl q)⟩
 refine codeAny_call_function hr.depth (KX _ _ lk) rfl S.co S.gen rfl (PySem.W.codeRec_of KX hcd) (hb _ _ _ _ ?_)
 refine wpAny_newFunctionEnv_cells S.kind hkind fun env he s1 x=>?_
 subst he
 refine ⟨lim.keeps x.toInCall.keep,codeAny_func ?_⟩
 obtain ⟨t,ht,hq⟩:=hbody A outer s H vs Q E (hr.deeper _) hsp
 have I:Inv (cxOf CX P w K mg base N qual scope f cdv A outer s H E) [] (start N vs) H s1:=qFy S hr.hd e0 hl r x
 refine wpAny_mono (ht [] s1 (start N vs) H _ I hq) (fun fl s' hs=>?_) fun e s' hs=>hs
 have fin:∀ {σ':St} {H':Hp} {v:V} {u:Value},Inv (cxOf CX P w K mg base N qual scope f cdv A outer s H E) [] σ' H' s' -> RelV v u -> Q v H' -> CE outer P w H s Q u s':=
  fun {σ' H' v u} J rv q=>⟨v,H',J.os,J.bare,J.base,J.hok,rv,q⟩
 cases fl with
 | ret u=>
  obtain ⟨v,σ',H',J,rv,q⟩:=hs
  exact fin J rv q
 | next=>
  obtain ⟨σ',H',J,q⟩:=hs
  exact fin (v:=V.non) (u:=Value.none) J rfl q
 | brk=>
  obtain ⟨_,_,_,q⟩:=hs
  exact False.elim q
 | cont=>
  obtain ⟨_,_,_,q⟩:=hs
  exact False.elim q
open PySem PySem.Spec PyProof.Rows
section
variable {X:Cx} {x:Str} {p pos:Pos} {e:Expr} {es:List Expr} {t:TA} {id T:String} {r:List V -> Hp -> VK -> Prop}
noncomputable def tCB (r:List V -> Hp -> VK -> Prop) (t:TA):TE:=fun σ H Q=>t σ H fun vs H1=>r vs H1 Q
theorem pe_callB (hc:qAq X (.builtin id) r) (hg:Gl X x) (hm:X.mg x=none) (hv:bootBuiltins x=some (.builtin id)) (ha:PA X (e::es) t) (hn:x≠"__name__":=by decide) (hdb:(x==("__debug__":Str))=false:=by decide)
  (he:starEach (e::es) X.env=(false,eval e X.env)::starEach es X.env:=by rfl) (hpl:(backTo pos (starEach es X.env)).any (·.1)=false:=by rfl):PE X (.Call (.Name x p) (e::es) [] pos) (tCB r t):=by
 intro pins s σ H Q I h
 refine wpAny_Call_Name_kw (ld_blt I hg hm hv ?_ hn hdb)
 exact PyProof.Rows.callWith_builtin1 (thn (ha pos pins s σ H _ I h) fun us s1 ⟨vs,H1,I1,r1,q1⟩=>hc pins s1 σ H1 vs us Q I1 r1 q1) he hpl
theorem pe_callTy (hc:qAq X (.type T) r) (hg:Gl X x) (hm:X.mg x=none) (hv:bootBuiltins x=some (.type T)) (ha:PA X (e::es) t) (hn:x≠"__name__":=by decide) (hdb:(x==("__debug__":Str))=false:=by decide)
  (he:starEach (e::es) X.env=(false,eval e X.env)::starEach es X.env:=by rfl) (hpl:(backTo pos (starEach es X.env)).any (·.1)=false:=by rfl):PE X (.Call (.Name x p) (e::es) [] pos) (tCB r t):=by
 intro pins s σ H Q I h
 refine wpAny_Call_Name_kw (ld_blt I hg hm hv ?_ hn hdb)
 exact PyProof.Rows.callWith_type1 (thn (ha pos pins s σ H _ I h) fun us s1 ⟨vs,H1,I1,r1,q1⟩=>hc pins s1 σ H1 vs us Q I1 r1 q1) he hpl
end
end L2
namespace HT
open PySem PyProof.Rows
section
open PySem.SeqAt
open PySem.AutoSeq1 (wpAny_loadPart')
open PySem.MeetsSeq PySem.MeetsSeq2 PySem.MeetsSeq3
end
section
variable {prog:Program} {w:World} {A:Around} {E:Value -> Shared -> Prop} {s:Shared}
theorem cat_tup {t b:Addr} {vs ws:List Value} {Q:Value -> Shared -> Prop} (ht:IsTup s.heap t vs.toArray) (hb:IsTup s.heap b ws.toArray) (hv:vs≠[])
  (h1:ws=[] -> Q (.ref t) s) (h2:ws≠[] -> Q (.ref s.heap.objs.size) { s with heap:=s.heap.push { cls:=.type "tuple",data:=.seq (vs++ws).toArray } })
  (hsz:vs.length + ws.length<=sizeLine):wpAny (model prog w) A (binaryOp .Add (.ref t) (.ref b)) Q E s:=by
 obtain ⟨⟨cls,dd,data,sl⟩,ho,hc,n,hd⟩:=id ht
 obtain ⟨⟨cls2,dd2,data2,sl2⟩,ho2,hc2,n2,hd2⟩:=id hb
 simp only at hc hd hc2 hd2
 subst hc hd hc2 hd2
 have e:vs.toArray++ws.toArray=(vs++ws).toArray:=by simp
 by_cases hw:ws=[]
 ·exact concat_meets ⟨_,ho,rfl⟩ ⟨_,ho2,rfl⟩ noFill_tuple_add seq_tuple_add PySem.F.slot_tuple_add PySem.F.entry_tuple_add (PySem.F.args_tuple_add_2 _ _)
   (tuple_addW1 t b vs.toArray ws.toArray n n2 dd dd2 sl sl2 (by simpa using hv) (by simp [hw])) ⟨ho,ho2,h1 hw⟩
 ·refine concat_meets ⟨_,ho,rfl⟩ ⟨_,ho2,rfl⟩ noFill_tuple_add seq_tuple_add PySem.F.slot_tuple_add PySem.F.entry_tuple_add (PySem.F.args_tuple_add_2 _ _)
   (tuple_addW2 t b vs.toArray ws.toArray n n2 dd dd2 sl sl2 (by simpa using hv) (by simpa using hw) (by rw [List.size_toArray,List.size_toArray];exact hsz)) ⟨ho,ho2,?_⟩
  rw [e]
  exact h2 hw
noncomputable def sIx (n d:Nat):Option Int -> Nat
 | none=>d
 | some v=>if v < 0 then (v + (n:Int)).toNat else min v.toNat n
theorem sIx_none (n d:Nat):sIx n d none=d:=rfl
theorem sIx_nat (n d k:Nat):sIx n d (some (k:Int))=min k n:=by
 show (if (k:Int) < 0 then ((k:Int) + (n:Int)).toNat else min (k:Int).toNat n)=min k n
 rw [if_neg (by omega),Int.toNat_natCast]
theorem qJM (n d:Nat) (hd:d<=n) (o:Option Int):sIx n d o<=n:=by
 cases o with
 | none=>exact hd
 | some v=>
  show (if v < 0 then (v + (n:Int)).toNat else min v.toNat n)<=n
  by_cases hv:v < 0
  ·rw [if_pos hv];omega
  ·rw [if_neg hv];exact Nat.min_le_right _ _
theorem qFf (v:Int) (n d:Nat):(if v < 0 then max (v + (n:Int)) 0 else min v (n:Int))=((sIx n d (some v):Nat):Int):=by
 show (if v < 0 then max (v + (n:Int)) 0 else min v (n:Int))=(((if v < 0 then (v + (n:Int)).toNat else min v.toNat n):Nat):Int)
 by_cases hv:v < 0
 ·simp only [if_pos hv];omega
 ·simp only [if_neg hv];omega
theorem qEw (lo hi:Option Int) (n:Nat):Builtin.Slice.sliceAdjust lo hi 1 (n:Int)=(((sIx n 0 lo:Nat):Int),((sIx n n hi:Nat):Int)):=by
 have h1:¬ ((1:Int) < 0):=by omega
 unfold Builtin.Slice.sliceAdjust
 simp only [h1,if_false]
 refine Prod.ext ?_ ?_
 ·cases lo with
  | none=>rfl
  | some v=>exact qFf v n 0
 ·cases hi with
  | none=>rfl
  | some v=>exact qFf v n n
theorem qE2 (i j:Nat):Builtin.Slice.slicePlaces (i:Int) (j:Int) 1=j - i:=by
 unfold Builtin.Slice.slicePlaces
 have h1:(1:Int) > 0:=by omega
 simp only [h1,if_true,Int.ediv_one]
 split<;>omega
theorem qCk {v:Value} {o:Option Int} {Q:Option Int -> Shared -> Prop} (p:IsPart v o) (h:Q o s):wpAny (model prog w) A (Builtin.Slice.slicePartIndex v) Q E s:=by
 cases p with
 | none=>exact slicePart_none h
 | int i t=>exact slicePart_int h
theorem qCD {sl:Addr} {vl vu:Value} {lo hi:Option Int} {n:Nat} {Q:Int×Int×Nat -> Shared -> Prop} (hs:s.heap.IsSliceOf sl vl vu .none) (pl:IsPart vl lo) (pu:IsPart vu hi)
  (h:Q (((sIx n 0 lo:Nat):Int),1,sIx n n hi - sIx n 0 lo) s):wpAny (model prog w) A (Builtin.Slice.sliceApplied (.ref sl) (pure (n:Int))) Q E s:=by
 obtain ⟨os,hos,hcs,hds⟩:=id hs
 unfold Builtin.Slice.sliceApplied Builtin.Slice.sliceFields
 refine wpAny_bind (wpAny_bind (wpAny_field hos hds (x:=vl) rfl (wpAny_bind (wpAny_field hos hds (x:=vu) rfl (wpAny_bind (wpAny_field hos hds (x:=.none) rfl (wpAny_pure ?_)))))))
 refine wpAny_bind (slicePart_none ?_)
 show wpAny _ _ (if ((1:Int)==0)=true then _ else _) _ _ s
 rw [if_neg (by decide)]
 refine wpAny_bind (qCk pl (wpAny_bind (qCk pu (wpAny_bind (wpAny_pure ?_)))))
 show wpAny _ _ (match Builtin.Slice.sliceAdjust lo hi 1 (n:Int) with | (lo,hi)=>pure (lo,(1:Int),Builtin.Slice.slicePlaces lo hi 1)) _ _ s
 rw [qEw lo hi n]
 show wpAny _ _ (pure (((sIx n 0 lo:Nat):Int),(1:Int),Builtin.Slice.slicePlaces ((sIx n 0 lo:Nat):Int) ((sIx n n hi:Nat):Int) 1)) _ _ s
 rw [qE2]
 exact wpAny_pure h
theorem qGh (xs:Array Value) (i k:Nat):((List.range k).filterMap fun (m:Nat)=>xs[((i:Int) + (m:Int) * 1).toNat]?).toArray=((xs.toList.drop i).take k).toArray:=by
 have e:(fun (m:Nat)=>xs[((i:Int) + (m:Int) * 1).toNat]?)=fun m=>xs[i + m]?:=by
  funext m
  have:((i:Int) + (m:Int) * 1).toNat=i + m:=by omega
  rw [this]
 rw [e]
 have:=pick_run xs i k
 rw [List.filterMap_map] at this
 have e2:((fun x=>xs[x]?)∘fun x=>i + x)=fun m=>xs[i + m]?:=rfl
 rw [e2] at this
 rw [this]
theorem getItem_tuple_cut {t sl:Addr} {items:Array Value} {vl vu:Value} {lo hi:Option Int} {Q:Value -> Shared -> Prop} (ht:IsTup s.heap t items) (hs:s.heap.IsSliceOf sl vl vu .none) (pl:IsPart vl lo) (pu:IsPart vu hi)
  (hw:¬ (sIx items.size 0 lo=0/\sIx items.size items.size hi=items.size))
  (h:Q (.ref s.heap.objs.size) { s with heap:=s.heap.push { cls:=.type "tuple",data:=.seq ((items.toList.drop (sIx items.size 0 lo)).take (sIx items.size items.size hi - sIx items.size 0 lo)).toArray } })
  (hsz:items.size<=sizeLine):wpAny (model prog w) A (getItem (.ref t) (.ref sl)) Q E s:=by
 have htake:sizeOk (.seq ((items.toList.drop (sIx items.size 0 lo)).take (sIx items.size items.size hi - sIx items.size 0 lo)).toArray):=by
  show ((items.toList.drop (sIx items.size 0 lo)).take (sIx items.size items.size hi - sIx items.size 0 lo)).toArray.size<=sizeLine
  rw [List.size_toArray,List.length_take,List.length_drop,Array.length_toList]
  omega
 have hj:sIx items.size items.size hi<=items.size:=qJM _ _ (Nat.le_refl _) hi
 obtain ⟨os,hos,hcs,hds⟩:=id hs
 have hTs:s.TypeIs (.ref sl) "slice":=⟨os,hos,hcs⟩
 unfold getItem
 try with_reducible refine wpAny_holding ?_
 first | refine wpAny_bind (wpAny_pure ?_) | skip
 refine wpAny_bind (wpAny_sequenceKey ht.typeIs (by decide) ?_)
 refine wpAny_bind (wpAny_callSpecial?_slot (name:=Str.ofString "__getitem__") ht.typeIs PyProof.Rows.slot_tuple_getitem
  (wpAny_call_entry PyProof.Rows.slot_tuple_getitem ht.typeIs entry_tuple_getitem ?_ (args_tuple_getitem _ _)))
 show wpAny _ _ (Builtin.Tuple.tupleItemsOf (.ref t) >>=_) _ _ s
 refine wpAny_bind (tupleItemsOf_ ht ?_)
 refine wpAny_bind (wpAny_typeOf hTs ?_)
 rw [if_pos (by decide)]
 refine wpAny_bind (qCD hs pl pu ?_)
 have hno:¬ ((((sIx items.size 0 lo:Nat):Int)==0&&(1:Int)==1&&(sIx items.size items.size hi - sIx items.size 0 lo)==items.size)=true):=by
  intro q
  rw [Bool.and_eq_true,Bool.and_eq_true] at q
  have q1:((sIx items.size 0 lo:Nat):Int)=0:=eq_of_beq q.1.1
  have q2:sIx items.size items.size hi - sIx items.size 0 lo=items.size:=eq_of_beq q.2
  exact hw ⟨by omega,by omega⟩
 show wpAny _ _ (if (((sIx items.size 0 lo:Nat):Int)==0&&(1:Int)==1&&(sIx items.size items.size hi - sIx items.size 0 lo)==items.size)=true then _ else _) _ _ s
 rw [if_neg hno,qGh]
 first
  | exact wpAny_bind (m:=Builtin.Tuple.tupleExact _) (wpAny_newObj_type (wpAny_pure ⟨_,rfl,wpAny_pure h⟩) htake)
  | exact wpAny_bind (m:=Builtin.Tuple.tupleExact _) (wpAny_newObj_type (wpAny_bind (wpAny_pure (wpAny_pure ⟨_,rfl,wpAny_pure h⟩))) htake)
  | exact wpAny_bind (wpAny_bind (m:=Builtin.Tuple.tupleExact _) (wpAny_newObj_type (wpAny_pure (wpAny_pure ⟨_,rfl,wpAny_pure h⟩)) htake))
  | exact wpAny_bind (wpAny_bind (m:=Builtin.Tuple.tupleExact _) (wpAny_newObj_type (wpAny_pure ⟨_,rfl,wpAny_pure h⟩) htake))
end
end HT
namespace L2
open PySem PySem.Spec PyProof.Rows
noncomputable abbrev TO:=St -> Hp -> (Option Int -> Hp -> Prop) -> Prop
noncomputable def PO (X:Cx) (e:Option Expr) (t:TO):Prop:=
 ∀ (pins:List (Addr×Obj)) (s:Shared) (σ:St) (H:Hp) (Q:Option Int -> Hp -> Prop),Inv X pins σ H s -> t σ H Q ->
  wpAny (model X.prog X.w) X.A (evalPart e X.env) (fun u s'=>∃ o H',Inv X pins σ H' s'/\IsPart u o/\Q o H') X.xe s
noncomputable def qHU:TO:=fun _ H Q=>Q none H
noncomputable def qK6 (t:TE):TO:=fun σ H Q=>t σ H fun x H1=>∃ i,x=.int i/\Q (some i) H1
section
variable {X:Cx} {e:Expr} {te:TE} {lo hi:Option Expr} {tl th:TO} {pos p2:Pos}
theorem po_none:PO X none qHU:=by
 intro pins s σ H Q I h
 rw [evalPart_none]
 exact wpAny_pure ⟨none,H,I,.none,h⟩
theorem po_some (h:PE X e te):PO X (some e) (qK6 te):=by
 intro pins s σ H Q I hw
 rw [evalPart_some]
 refine thn (h pins s σ H _ I hw) fun u s1 ⟨x,H1,I1,r1,q1⟩=>?_
 obtain ⟨i,rfl,q⟩:=q1
 obtain ⟨t,rfl⟩:=r1
 exact ⟨some i,H1,I1,.int i t,q⟩
noncomputable def SlR (X:Cx) (r:V -> Option Int -> Option Int -> Hp -> VK -> Prop):Prop:=
 ∀ (pins:List (Addr×Obj)) (s:Shared) (σ:St) (H:Hp) (x:V) (v vl vu:Value) (lo hi:Option Int) (sl:Addr) (Q:VK),Inv X pins σ H s -> RelV x v -> s.heap.IsSliceOf sl vl vu .none -> IsPart vl lo -> IsPart vu hi -> r x lo hi H Q ->
  ∃ T id,typeLookup (.type T) "__getitem__"=pure (some (.builtin id))/\s.TypeIs v T/\wpAny (model X.prog X.w) X.A (getItem v (.ref sl)) (EP X pins σ Q) X.xe s
theorem SlR.or {r r':V -> Option Int -> Option Int -> Hp -> VK -> Prop} (h:SlR X r) (h':SlR X r'):SlR X (fun x lo hi H Q=>r x lo hi H Q\/r' x lo hi H Q):=by
 intro pins s σ H x v vl vu lo hi sl Q I rx hs pl pu q
 rcases q with q | q
 ·exact h pins s σ H x v vl vu lo hi sl Q I rx hs pl pu q
 ·exact h' pins s σ H x v vl vu lo hi sl Q I rx hs pl pu q
noncomputable def tSl (r:V -> Option Int -> Option Int -> Hp -> VK -> Prop) (te:TE) (tl th:TO):TE:=fun σ H Q=>te σ H fun x H1=>tl σ H1 fun l H2=>th σ H2 fun u H3=>r x l u H3 Q
theorem pe_slice {r:V -> Option Int -> Option Int -> Hp -> VK -> Prop} (hr:SlR X r) (he:PE X e te) (hl:PO X lo tl) (hu:PO X hi th):PE X (.Subscript e (.Slice lo hi none p2) pos) (tSl r te tl th):=by
 intro pins s σ H Q I h
 refine Subscript_ (thn (he pins s σ H _ I h) fun v s1 ⟨x,H1,I1,r1,q1⟩=>?_)
 refine wpAny_Slice (thn (hl pins s1 σ H1 _ I1 q1) fun vl s2 ⟨l,H2,I2,pl,q2⟩=>thn (hu pins s2 σ H2 _ I2 q2) fun vu s3 ⟨u,H3,I3,pu,q3⟩=>?_)
 rw [evalPart_none]
 refine wpAny_pure ?_
 have I4:Inv X pins σ H3 { s3 with heap:=s3.heap.push { cls:=.type "slice",data:=.fields #[vl,vu,.none] } }:=I3.kept (t':=s3.toks) fun b ob q=>Heap.get?_push_of_some _ q
 obtain ⟨T,id,hT,ht,hg⟩:=hr pins { s3 with heap:=s3.heap.push { cls:=.type "slice",data:=.fields #[vl,vu,.none] } } σ H3 x v vl vu l u s3.heap.objs.size Q I4 r1 (Heap.IsSliceOf.new ..) pl pu q3
 show wpAny (model X.prog X.w) X.A (subscriptTail e (.Slice lo hi none p2) v (.ref s3.heap.objs.size)) (EP X pins σ Q) X.xe { s3 with heap:=s3.heap.push { cls:=.type "slice",data:=.fields #[vl,vu,.none] } }
 exact tail_any (ops:=[.ref s3.heap.objs.size,v]) ht hT hg (by with_unfolding_all rfl)
noncomputable def cutV (xs:List V) (lo hi:Option Int):List V:=(xs.drop (HT.sIx xs.length 0 lo)).take (HT.sIx xs.length xs.length hi - HT.sIx xs.length 0 lo)
theorem qCV (xs:List V) (lo hi:Option Int):(cutV xs lo hi).length<=xs.length:=by
 unfold cutV
 rw [List.length_take,List.length_drop]
 omega
noncomputable def qMi (K:PySem.W.Frag):V -> Option Int -> Option Int -> Hp -> VK -> Prop:=fun x lo hi H Q=>∃ a xs,x=.ref a/\SqT K H a xs/\
 ¬ (HT.sIx xs.length 0 lo=0/\HT.sIx xs.length xs.length hi=xs.length)/\∀ p,H p=none -> Q (.ref p) (upd H p (.tup (cutV xs lo hi)))
theorem sl_tup:SlR X (qMi X.K):=by
 intro pins s σ H x v vl vu lo hi sl Q I rx hs pl pu h
 obtain ⟨a,xs,rfl,hx,hw,q⟩:=h
 cases rx
 obtain ⟨its,r,ht,hz⟩:=I.tuple hx
 have hlen:its.toArray.size=xs.length:=by rw [List.size_toArray];exact r.length.symm
 refine ⟨"tuple",_,PyProof.Rows.slot_tuple_getitem.lookup,ht.typeIs,?_⟩
 refine HT.getItem_tuple_cut ht hs pl pu (by rw [hlen];exact hw) ?_ (by rw [hlen];exact hz)
 rw [hlen]
 refine ⟨.ref s.heap.objs.size,_,I.laid (t':=s.toks) (o:=.tup (cutV xs lo hi)) (fun b ob q=>Heap.get?_push_of_some _ q) (Nat.le_refl _) ?_,rfl,q _ (I.hok.fresh (Nat.le_refl _))⟩
 exact ⟨Nat.le_trans (qCV xs lo hi) hz,_,(r.drop (HT.sIx xs.length 0 lo)).take (HT.sIx xs.length xs.length hi - HT.sIx xs.length 0 lo),IsTup.new _ _⟩
noncomputable def rCatT (K:PySem.W.Frag):R2:=fun x y H Q=>∃ a b xs ys,x=.ref a/\y=.ref b/\SqT K H a xs/\SqT K H b ys/\xs≠[]/\xs.length + ys.length<=sizeLine/\
 (ys=[] -> Q (.ref a) H)/\(ys≠[] -> ∀ p,H p=none -> Q (.ref p) (upd H p (.tup (xs++ys))))
theorem Vals.nil_iff {xs:List V} {us:List Value} (r:Vals xs us):us=[]↔xs=[]:=by
 cases r with
 | nil=>simp
 | cons _ _=>simp
theorem op_catT:OpR X (binaryOp .Add) (rCatT X.K):=by
 intro pins s σ H x y v u Q I rx ry h
 obtain ⟨a,b,xs,ys,rfl,rfl,ha,hb,hx,hz,q1,q2⟩:=h
 cases rx
 cases ry
 obtain ⟨its,r1,p1,_⟩:=I.tuple ha
 obtain ⟨its2,r2,p2,_⟩:=I.tuple hb
 refine HT.cat_tup p1 p2 (fun z=>hx (r1.nil_iff.mp z)) (fun z=>⟨.ref a,H,I,rfl,q1 (r2.nil_iff.mp z)⟩) (fun z=>?_) (by rw [<- r1.length,<- r2.length];exact hz)
 refine ⟨.ref s.heap.objs.size,_,I.laid (t':=s.toks) (o:=.tup (xs++ys)) (fun b ob q=>Heap.get?_push_of_some _ q) (Nat.le_refl _) ?_,rfl,q2 (fun w=>z (r2.nil_iff.mpr w)) _ (I.hok.fresh (Nat.le_refl _))⟩
 exact ⟨by rw [List.length_append];exact hz,_,r1.append r2,IsTup.new _ _⟩
end
open PySem PySem.Spec PyProof.Rows
noncomputable def ixN (n:Nat) (i:Int):Option Nat:=if 0<=i then (if i < n then some i.toNat else none) else if -(n:Int)<=i then some (i + n).toNat else none
noncomputable def atI {α:Type} (xs:List α) (i:Int):Option α:=(ixN xs.length i).bind fun j=>xs[j]?
theorem ixN_seq {n:Nat} {i:Int} {j:Nat} (h:ixN n i=some j):seqIndex? i n=some j/\j < n/\-(n:Int)<=i/\i < n:=by
 unfold ixN at h
 by_cases h0:0<=i
 ·rw [if_pos h0] at h
  by_cases h1:i < n
  ·rw [if_pos h1] at h
   have e:i.toNat=j:=Option.some.inj h
   exact ⟨by rw [seqIndex_of h0 h1,e],by omega,by omega,h1⟩
  ·rw [if_neg h1] at h;cases h
 ·rw [if_neg h0] at h
  by_cases h1:-(n:Int)<=i
  ·rw [if_pos h1] at h
   have e:(i + n).toNat=j:=Option.some.inj h
   exact ⟨by rw [seqIndex_neg (by omega) h1,e],by omega,h1,by omega⟩
  ·rw [if_neg h1] at h;cases h
theorem qGE {α:Type} {xs:List α} {i:Int} {v:α} (h:atI xs i=some v):∃ j,seqIndex? i xs.length=some j/\xs[j]?=some v/\j < xs.length/\-(xs.length:Int)<=i/\i < xs.length:=by
 unfold atI at h
 cases e:ixN xs.length i with
 | none=>rw [e] at h;cases h
 | some j=>
  rw [e] at h
  obtain ⟨h1,h2,h3,h4⟩:=ixN_seq e
  exact ⟨j,h1,h,h2,h3,h4⟩
noncomputable def PlainIx (b:Expr):Prop:=∀ o i,subscripted b false o i=operate [o,i] (getItem o i)
noncomputable def IxR (X:Cx) (r:R2):Prop:=
 ∀ (value slice:Expr) (pins:List (Addr×Obj)) (s:Shared) (σ:St) (H:Hp) (x y:V) (v u:Value) (Q:VK),Inv X pins σ H s -> RelV x v -> RelV y u -> r x y H Q ->
  subscripted slice false v u=operate [v,u] (getItem v u) -> wpAny (model X.prog X.w) X.A (subscriptTail value slice v u) (EP X pins σ Q) X.xe s
noncomputable def MtR (X:Cx) (id:String) (r:V -> List V -> Hp -> VK -> Prop):Prop:=
 ∀ (pins:List (Addr×Obj)) (s:Shared) (σ:St) (H:Hp) (x:V) (xs:List V) (v:Value) (us:List Value) (Q:VK),Inv X pins σ H s -> RelV x v -> Vals xs us -> r x xs H Q ->
  wpAny (model X.prog X.w) X.A (call (.builtin id) (v::us)) (EP X pins σ Q) X.xe s
section
variable {X:Cx} {a b:Expr} {ta tb:TE} {pos:Pos}
theorem IxR.or {r r':R2} (h:IxR X r) (h':IxR X r'):IxR X (fun x y H Q=>r x y H Q\/r' x y H Q):=by
 intro value slice pins s σ H x y v u Q I rx ry q hs
 rcases q with q | q
 ·exact h value slice pins s σ H x y v u Q I rx ry q hs
 ·exact h' value slice pins s σ H x y v u Q I rx ry q hs
theorem pe_ix {r:R2} (hr:IxR X r) (ha:PE X a ta) (hb:PE X b tb) (hs:PlainIx b):PE X (.Subscript a b pos) (tOp r ta tb):=by
 intro pins s σ H Q I h
 exact Subscript_ (qA4 ha hb I h fun v u s2 x y H2 I2 rx ry q=>hr a b pins s2 σ H2 x y v u Q I2 rx ry q (hs _ _))
noncomputable def qME (K:PySem.W.Frag):R2:=fun x y H Q=>∃ p xs i v,x=.ref p/\y=.int i/\SqL K H p xs/\atI xs i=some v/\Q v H
noncomputable def qMM (K:PySem.W.Frag):R2:=fun x y H Q=>∃ p xs i v,x=.ref p/\y=.int i/\SqT K H p xs/\atI xs i=some v/\Q v H
theorem ix_list:IxR X (qME X.K):=by
 intro value slice pins s σ H x y v u Q I rx ry h hs
 obtain ⟨p,xs,i,z,rfl,rfl,hq,he,q⟩:=h
 cases rx
 obtain ⟨t,rfl⟩:=ry
 obtain ⟨its,r,pl,hz⟩:=I.list hq
 obtain ⟨j,h1,h2,h3,h4,h5⟩:=qGE he
 obtain ⟨w,ew,rw'⟩:=r.get h2
 have hl:=r.length
 have hn:=qEG
 have fin:EP X pins σ Q w s:=⟨z,H,I,rw',q⟩
 by_cases h0:0<=i
 ·have hj:i.toNat=j:=by
   rw [seqIndex_of h0 h5] at h1
   exact Option.some.inj h1
  exact item_listR pl.isList h0 (by omega) (by rw [hj];simpa using ew) fin hs
 ·have hj:(i + (its.toArray.size:Int)).toNat=j:=by
   rw [seqIndex_neg (by omega) h4] at h1
   rw [List.size_toArray,<- hl]
   exact Option.some.inj h1
  exact subscriptTail_builtinR (x:=w) pl.isList.typeIs slot_list_getitem.lookup
   (wpAny_getItem_list_neg (Q:=fun r s'=>r=w/\EP X pins σ Q r s') pl.isList (by omega) (by rw [List.size_toArray]<;>omega) (by omega) (by rw [hj];simpa using ew) ⟨rfl,fin⟩) hs
theorem ix_tup:IxR X (qMM X.K):=by
 intro value slice pins s σ H x y v u Q I rx ry h hs
 obtain ⟨p,xs,i,z,rfl,rfl,hq,he,q⟩:=h
 cases rx
 obtain ⟨t,rfl⟩:=ry
 obtain ⟨its,r,pl,hz⟩:=I.tuple hq
 obtain ⟨j,h1,h2,h3,h4,h5⟩:=qGE he
 obtain ⟨w,ew,rw'⟩:=r.get h2
 have hl:=r.length
 have hn:=qEG
 have fin:EP X pins σ Q w s:=⟨z,H,I,rw',q⟩
 exact subscriptTail_builtinR (x:=w) pl.typeIs slot_tuple_getitem.lookup
  (getItem_tuple (j:=j) (Q:=fun r s'=>r=w/\EP X pins σ Q r s') pl (by omega) (by omega) (by rw [List.size_toArray,<- hl];exact h1) (by simpa using ew) ⟨rfl,fin⟩) hs
theorem qE0 (its:List Value) (n j:Nat) (u:Value):Obj.mapSeq (·.setIfInBounds j u) { cls:=.type "list",data:=.seq its.toArray n }={ cls:=.type "list",data:=.seq (its.set j u).toArray n }:=by
 simp [Obj.mapSeq]
theorem Inv.lst {pins:List (Addr×Obj)} {σ:St} {H:Hp} {s:Shared} {p:Addr} {xs:List V} (I:Inv X pins σ H s) (h:H p=some (.lst xs)):
  ∃ (its:List Value) (n:Nat),Vals xs its/\s.heap.get? p=some { cls:=.type "list",data:=.seq its.toArray n }/\xs.length<=sizeLine:=by
 obtain ⟨z,its,n,r,e⟩:=I.hok p _ h
 exact ⟨its,n,r,e,z⟩
theorem Inv.lstUpd {pins:List (Addr×Obj)} {σ:St} {H:Hp} {s:Shared} {p:Addr} {xs ys:List V} {its its':List Value} {n n':Nat} {f:Obj -> Obj} (I:Inv X pins σ H s) (h:H p=some (.lst xs))
  (ho:s.heap.get? p=some { cls:=.type "list",data:=.seq its.toArray n }) (hf:f { cls:=.type "list",data:=.seq its.toArray n }={ cls:=.type "list",data:=.seq its'.toArray n' }) (r:Vals ys its') (hz:ys.length<=sizeLine) (t:Nat):
  Inv X pins σ (upd H p (.lst ys)) { s with heap:=s.heap.update p f,toks:=t }:=by
 have e:(s.heap.update p f).get? p=some { cls:=.type "list",data:=.seq its'.toArray n' }:=by
  rw [Heap.get?_update_self f ho (by rw [hf]<;>rfl),hf]
 refine I.write (x:=p) (e:=p) (by rw [h];trivial) (.inl rfl) (fun b u hb q=>(Heap.get?_update_other _ _ (Ne.symm hb)).trans q) ⟨_,e⟩ ?_
 exact ⟨hz,its',n',r,e⟩
noncomputable def rSetL:V -> V -> V -> Hp -> (Hp -> Prop) -> Prop:=fun o i v H Q=>∃ p xs k j,o=.ref p/\i=.int k/\H p=some (.lst xs)/\ixN xs.length k=some j/\Q (upd H p (.lst (xs.set j v)))
theorem set_list:PSet X rSetL:=by
 intro pins s σ H o i v ov iv u Q I ro ri rv h
 obtain ⟨p,xs,k,j,rfl,rfl,hp,hj,q⟩:=h
 cases ro
 obtain ⟨t,rfl⟩:=ri
 obtain ⟨its,n,r,ho,hz⟩:=I.lst hp
 obtain ⟨h1,h2,h3,h4⟩:=ixN_seq hj
 have hl:=r.length
 have hn:=qEG
 have I':Inv X pins σ (upd H p (.lst (xs.set j v))) { s with heap:=s.heap.update p (Obj.mapSeq (·.setIfInBounds j u)) }:=
  I.lstUpd hp ho (qE0 its n j u) (r.set rv j) (by rw [List.length_set];exact hz) s.toks
 by_cases h0:0<=k
 ·have hk:k.toNat=j:=by
   rw [seqIndex_of h0 h4] at h1
   exact Option.some.inj h1
  exact PySem.W.ki_setAt ho h0 (by omega) (by rw [List.size_toArray,<- hl];exact h4) (by rw [hk];exact ⟨_,I',q⟩)
 ·have hk:(k + (its.toArray.size:Int)).toNat=j:=by
   rw [seqIndex_neg (by omega) h3] at h1
   rw [List.size_toArray,<- hl]
   exact Option.some.inj h1
  exact PySem.W.ki_setBack ho (by omega) (by rw [List.size_toArray,<- hl];exact h3) (by omega) (by rw [hk];exact ⟨_,I',q⟩)
theorem qDp (lo hi:Option Int) (n:Nat):(sliceBounds lo hi none n).1=((HT.sIx n 0 lo:Nat):Int)/\(sliceBounds lo hi none n).2.1=((HT.sIx n n hi:Nat):Int)/\(sliceBounds lo hi none n).2.2=1:=by
 refine ⟨?_,?_,rfl⟩
 ·cases lo with
  | none=>simp [sliceBounds,HT.sIx]
  | some i=>
   simp only [sliceBounds,HT.sIx,Option.getD_none,show (1:Int) > 0 by decide,if_true]
   by_cases h:i < 0
   ·simp only [h,if_true]<;>omega
   ·simp only [h,if_false]<;>omega
 ·cases hi with
  | none=>simp [sliceBounds,HT.sIx]
  | some i=>
   simp only [sliceBounds,HT.sIx,Option.getD_none,show (1:Int) > 0 by decide,if_true]
   by_cases h:i < 0
   ·simp only [h,if_true]<;>omega
   ·simp only [h,if_false]<;>omega
theorem qDB (its:List Value) (lo hi:Option Int):slicePick its.toArray lo hi none=((its.drop (HT.sIx its.length 0 lo)).take (HT.sIx its.length its.length hi - HT.sIx its.length 0 lo)).toArray:=by
 obtain ⟨h1,h2,h3⟩:=qDp lo hi its.toArray.size
 unfold slicePick
 rw [h1,h2,h3]
 simp only [sliceRange_one,pick_run,List.size_toArray]<;>rfl
noncomputable def qL4 (K:PySem.W.Frag):V -> Option Int -> Option Int -> Hp -> VK -> Prop:=fun x lo hi H Q=>∃ a xs,x=.ref a/\SqL K H a xs/\∀ p,H p=none -> Q (.ref p) (upd H p (.lst (cutV xs lo hi)))
theorem sl_list:SlR X (qL4 X.K):=by
 intro pins s σ H x v vl vu lo hi sl Q I rx hs pl pu h
 obtain ⟨a,xs,rfl,hx,q⟩:=h
 cases rx
 obtain ⟨its,r,ht,hz⟩:=I.list hx
 have hlen:=r.length
 refine ⟨"list",_,slot_list_getitem.lookup,ht.isList.typeIs,?_⟩
 refine wpAny_getItem_list_slice ht.isList hs pl pu .none (by simp) ?_ (by rw [List.size_toArray]<;>omega)
 rw [qDB,<- hlen]
 refine ⟨.ref s.heap.objs.size,_,I.laid (t':=s.toks) (o:=.lst (cutV xs lo hi)) (fun b ob q=>Heap.get?_push_of_some _ q) (Nat.le_refl _) ?_,rfl,q _ (I.hok.fresh (Nat.le_refl _))⟩
 exact ⟨Nat.le_trans (qCV xs lo hi) hz,_,0,(r.drop (HT.sIx xs.length 0 lo)).take (HT.sIx xs.length xs.length hi - HT.sIx xs.length 0 lo),Heap.get?_push_size _ rfl⟩
noncomputable def flatV:V -> Bool
 | .non=>true
 | .bl _=>true
 | .int _=>true
 | .str _=>true
 | _=>false
noncomputable def eqV:V -> V -> Bool
 | .non,.non=>true
 | .bl a,.bl b=>a==b
 | .bl a,.int b=>(if a then 1 else 0)==b
 | .int a,.bl b=>a==(if b then 1 else 0)
 | .int a,.int b=>a==b
 | .str a,.str b=>a==b
 | _,_=>false
theorem qI8 {A:Around} {s:Shared} {y x:V} {u v:Value} (ry:RelV y u) (rx:RelV x v) (fy:flatV y=true) (fx:flatV x=true):SeqAt.EqAt A s u v (eqV y x):=by
 cases y with
 | non=>
  cases ry
  cases x with
  | non=>cases rx;exact SeqAt.EqAt.same _
  | bl b=>cases rx;exact SeqAt.EqAt.none_bool b
  | int b=>obtain ⟨t,rfl⟩:=rx;exact SeqAt.EqAt.none_int b t
  | str b=>obtain ⟨t,rfl⟩:=rx;exact SeqAt.EqAt.none_str b t
  | _=>exact absurd (show false=true from fx) Bool.false_ne_true
 | bl a=>
  cases ry
  cases x with
  | non=>cases rx;exact SeqAt.EqAt.bool_none a
  | bl b=>cases rx;exact SeqAt.EqAt.bool_bool a b
  | int b=>obtain ⟨t,rfl⟩:=rx;exact SeqAt.EqAt.bool_int a b t
  | str b=>obtain ⟨t,rfl⟩:=rx;exact SeqAt.EqAt.bool_str a b t
  | _=>exact absurd (show false=true from fx) Bool.false_ne_true
 | int a=>
  obtain ⟨t',rfl⟩:=ry
  cases x with
  | non=>cases rx;exact SeqAt.EqAt.int_none a t'
  | bl b=>cases rx;exact SeqAt.EqAt.int_bool a t' b
  | int b=>obtain ⟨t,rfl⟩:=rx;exact SeqAt.EqAt.int_int a t' b t
  | str b=>obtain ⟨t,rfl⟩:=rx;exact SeqAt.EqAt.int_str a t' b t
  | _=>exact absurd (show false=true from fx) Bool.false_ne_true
 | str a=>
  obtain ⟨t',rfl⟩:=ry
  cases x with
  | non=>cases rx;exact SeqAt.EqAt.str_none a t'
  | bl b=>cases rx;exact SeqAt.EqAt.str_bool a t' b
  | int b=>obtain ⟨t,rfl⟩:=rx;exact SeqAt.EqAt.str_int a t' b t
  | str b=>obtain ⟨t,rfl⟩:=rx;exact SeqAt.EqAt.str_str a t' b t
  | _=>exact absurd (show false=true from fx) Bool.false_ne_true
 | _=>exact absurd (show false=true from fy) Bool.false_ne_true
noncomputable def eqU (x:V) (u:Value):Bool:=match u with
 | .none=>eqV .non x
 | .bool b=>eqV (.bl b) x
 | .int i _=>eqV (.int i) x
 | .str z _=>eqV (.str z) x
 | _=>false
theorem qG2 {x y:V} {u:Value} (r:RelV y u) (f:flatV y=true):eqU x u=eqV y x:=by
 cases y with
 | non=>cases r;rfl
 | bl b=>cases r;rfl
 | int i=>obtain ⟨t,rfl⟩:=r;rfl
 | str z=>obtain ⟨t,rfl⟩:=r;rfl
 | _=>exact absurd (show false=true from f) Bool.false_ne_true
theorem qCM {x:V}:∀ {xs:List V} {us:List Value},Vals xs us -> xs.all flatV=true -> us.any (eqU x)=xs.any fun y=>eqV y x
 | _,_,.nil,_=>rfl
 | y::xs,u::us,.cons r t,f=>by
  rw [List.all_cons,Bool.and_eq_true] at f
  rw [List.any_cons,List.any_cons,qG2 r f.1,qCM t f.2]
theorem qBl {A:Around} {s:Shared} {x:V} {v:Value} (rx:RelV x v) (fx:flatV x=true):∀ {xs:List V} {us:List Value},Vals xs us -> xs.all flatV=true -> ∀ u∈us,SeqAt.EqAt A s u v (eqU x u)
 | _,_,.nil,_=>fun u hu=>by cases hu
 | y::xs,u::us,.cons r t,f=>fun u' hu=>by
  rw [List.all_cons,Bool.and_eq_true] at f
  rcases List.mem_cons.mp hu with rfl | hu
  ·rw [qG2 r f.1];exact qI8 r rx f.1 fx
  ·exact qBl rx fx t f.2 u' hu
noncomputable def inV (x:V) (xs:List V):Bool:=xs.any fun y=>eqV y x
noncomputable def rIn (K:PySem.W.Frag) (neg:Bool):R2:=fun x y H Q=>∃ p xs,y=.ref p/\(SqL K H p xs\/SqT K H p xs)/\flatV x=true/\xs.all flatV=true/\Q (.bl (if neg then !inV x xs else inV x xs)) H
theorem op_in_seq:OpR X (compareOp .In) (rIn X.K false):=by
 intro pins s σ H x y v u Q I rx ry h
 obtain ⟨p,xs,rfl,hq,fx,fs,q⟩:=h
 cases ry
 rcases hq with hq | hq
 ·obtain ⟨its,r,pl,hz⟩:=I.list hq
  refine SeqAt.in_listAt (eqU x) pl.isList (fun w hw=>qBl rx fx r fs w (by simpa using hw)) ⟨.bl _,H,I,rfl,?_⟩
  rw [show its.toArray.any (eqU x)=its.any (eqU x) by simp,qCM r fs]
  exact q
 ·obtain ⟨its,r,pl,hz⟩:=I.tuple hq
  refine SeqAt.in_tupleAt (eqU x) pl (fun w hw=>qBl rx fx r fs w (by simpa using hw)) ⟨.bl _,H,I,rfl,?_⟩
  rw [show its.toArray.any (eqU x)=its.any (eqU x) by simp,qCM r fs]
  exact q
theorem op_notIn_seq:OpR X (compareOp .NotIn) (rIn X.K true):=by
 intro pins s σ H x y v u Q I rx ry h
 obtain ⟨p,xs,rfl,hq,fx,fs,q⟩:=h
 cases ry
 rcases hq with hq | hq
 ·obtain ⟨its,r,pl,hz⟩:=I.list hq
  refine SeqAt.notIn_listAt (eqU x) pl.isList (fun w hw=>qBl rx fx r fs w (by simpa using hw)) ⟨.bl _,H,I,rfl,?_⟩
  rw [show its.toArray.any (eqU x)=its.any (eqU x) by simp,qCM r fs]
  exact q
 ·obtain ⟨its,r,pl,hz⟩:=I.tuple hq
  refine SeqAt.notIn_tupleAt (eqU x) pl (fun w hw=>qBl rx fx r fs w (by simpa using hw)) ⟨.bl _,H,I,rfl,?_⟩
  rw [show its.toArray.any (eqU x)=its.any (eqU x) by simp,qCM r fs]
  exact q
theorem call_len_seq:qAq X (.builtin "len") (fun xs H Q=>∃ p ys,xs=[.ref p]/\(SqL X.K H p ys\/SqT X.K H p ys)/\Q (.int ys.length) H):=by
 intro pins s σ H xs us Q I r h
 obtain ⟨p,ys,rfl,hq,q⟩:=h
 obtain ⟨u,rfl,rx⟩:=vals1 r
 cases rx
 have hn:=qEG
 rcases hq with hq | hq
 ·obtain ⟨its,r',pl,hz⟩:=I.list hq
  have hlen:=r'.length
  exact Calls.call_len_list pl.isList (by simp only [List.size_toArray]<;>omega) ⟨.int ys.length,H,I.tok _,⟨s.toks + 1,by rw [List.size_toArray,hlen]⟩,q⟩
 ·obtain ⟨its,r',pl,hz⟩:=I.tuple hq
  have hlen:=r'.length
  exact len_tuple pl (by simp only [List.size_toArray]<;>omega) ⟨.int ys.length,H,I.tok _,⟨s.toks + 1,by rw [List.size_toArray,hlen]⟩,q⟩
theorem call_list_of:qAq X (.type "list") (fun xs H Q=>∃ p ys,xs=[.ref p]/\(SqL X.K H p ys\/SqT X.K H p ys)/\∀ l,H l=none -> Q (.ref l) (upd H l (.lst ys))):=by
 intro pins s σ H xs us Q I r h
 obtain ⟨p,ys,rfl,hq,q⟩:=h
 obtain ⟨u,rfl,rx⟩:=vals1 r
 cases rx
 have fin:∀ (its:List Value),Vals ys its -> ys.length<=sizeLine -> ∀ (h':Heap) (c':Nat),(∀ b o',s.heap.get? b=some o' -> h'.get? b=some o') ->
   h'.get? s.heap.objs.size=some { cls:=.type "list",dict:=none,data:=.seq its.toArray c',slots:=#[] } -> EP X pins σ Q (.ref s.heap.objs.size) { s with heap:=h' }:=fun its r' hz h' c' kp e=>
  ⟨.ref s.heap.objs.size,_,I.laid (t':=s.toks) kp (Nat.le_refl _) (show ObjOk X.prog X.w _ h' _ (.lst ys) from ⟨hz,its,c',r',e⟩),rfl,q _ (I.hok.fresh (Nat.le_refl _))⟩
 rcases hq with hq | hq
 ·obtain ⟨its,r',pl,hz⟩:=I.list hq
  have hlen:=r'.length
  obtain ⟨o,ho,hc,n,hd⟩:=pl.isList
  exact call_list_seq p (.inl rfl) ho hc hd (fun h' c' kp e=>fin its r' hz h' c' kp e) (by simp only [List.size_toArray]<;>omega)
 ·obtain ⟨its,r',pl,hz⟩:=I.tuple hq
  have hlen:=r'.length
  obtain ⟨o,ho,hc,n,hd⟩:=pl
  exact call_list_seq p (.inr rfl) ho hc hd (fun h' c' kp e=>fin its r' hz h' c' kp e) (by simp only [List.size_toArray]<;>omega)
noncomputable def tyV (K:PySem.W.Frag) (T:String) (x:V) (H:Hp):Prop:=match x with
 | .str _=>T="str"
 | .int _=>T="int"
 | .ref p=>(T="list"/\∃ xs,SqL K H p xs)\/(T="tuple"/\∃ o,K.lookup p=some o/\o.cls=.type "tuple"/\o.dict=none)\/
   (T="dict"/\((∃ kvs,H p=some (.dK kvs))\/∃ kvs,H p=some (.dT kvs)))\/(T="set"/\∃ S n,H p=some (.set S n))
 | _=>False
theorem qHH {pins:List (Addr×Obj)} {σ:St} {H:Hp} {s:Shared} {T:String} {x:V} {v:Value} (I:Inv X pins σ H s) (r:RelV x v) (ty:tyV X.K T x H):
  s.TypeIs v T/\∀ a,v=.ref a -> ∃ ob,s.heap.get? a=some ob/\ob.dict=none:=by
 cases x with
 | str z=>
  obtain ⟨t,rfl⟩:=r
  cases (show T="str" from ty)
  exact ⟨typeIs_str s z t,fun _ e=>nomatch e⟩
 | int i=>
  obtain ⟨t,rfl⟩:=r
  cases (show T="int" from ty)
  exact ⟨typeIs_int s i t,fun _ e=>nomatch e⟩
 | ref p=>
  cases r
  rcases ty with ⟨rfl,xs,hq⟩ | ⟨rfl,o,hk,hc,hd⟩ | ⟨rfl,hk⟩ | ⟨rfl,S,n,hk⟩
  ·obtain ⟨its,_,pl,_⟩:=I.list hq
   refine ⟨pl.isList.typeIs,fun a e=>?_⟩
   cases e
   obtain ⟨o,n,e,c,hd,_⟩:=pl
   exact ⟨o,e,hd⟩
  ·refine ⟨⟨o,I.kIn p o hk,hc⟩,fun a e=>?_⟩
   cases e
   exact ⟨o,I.kIn _ o hk,hd⟩
  ·have z:∃ o,s.heap.get? p=some o/\o.ExactDict:=by
    rcases hk with ⟨kvs,hk⟩ | ⟨kvs,hk⟩
    ·obtain ⟨_,_,_,_,o,_,_,e,ex,_⟩:=I.hok p _ hk
     exact ⟨o,e,ex⟩
    ·obtain ⟨_,_,_,_,o,_,_,e,ex,_⟩:=I.hok p _ hk
     exact ⟨o,e,ex⟩
   obtain ⟨o,e,ex⟩:=z
   refine ⟨⟨o,e,ex.1⟩,fun a e2=>?_⟩
   cases e2
   exact ⟨o,e,ex.2.1⟩
  ·obtain ⟨o,_,_,_,e,ex,_⟩:=I.hok p _ hk
   refine ⟨⟨o,e,ex.1⟩,fun a e2=>?_⟩
   cases e2
   exact ⟨o,e,ex.2.1⟩
 | _=>exact False.elim ty
noncomputable def qMC (K:PySem.W.Frag) (T:String) (r:V -> List V -> Hp -> VK -> Prop) (to:TE):TE:=fun σ H Q=>to σ H fun x H1=>tyV K T x H1/\r x [] H1 Q
noncomputable def tBM (K:PySem.W.Frag) (T:String) (r:V -> List V -> Hp -> VK -> Prop) (to:TE) (t:TA):TE:=fun σ H Q=>to σ H fun x H1=>tyV K T x H1/\t σ H1 fun xs H2=>r x xs H2 Q
variable {o e:Expr} {es:List Expr} {to:TE} {t:TA} {name:Str} {apos cpos:Pos} {T id:String} {r:V -> List V -> Hp -> VK -> Prop}
theorem pe_bm0 (pa:PlainAttrs T) (slot:Slot T name id) (hty:typeOf (.builtin id)=pure (.type "method_descriptor")) (hm:MtR X id r) (ho:PE X o to)
  (hbase:attributeBase o name X.env (eval o X.env)=eval o X.env:=by rfl) (hline:(apos.endLine==cpos.line)=true:=by rfl):PE X (.Call (.Attribute o name apos) [] [] cpos) (qMC X.K T r to):=by
 intro pins s σ H Q I h
 refine wpAny_Call_method0_late hbase hline (thn (ho pins s σ H _ I h) fun v s1 ⟨x,H1,I1,r1,ty,q1⟩=>?_)
 obtain ⟨h1,h2⟩:=qHH I1 r1 ty
 exact ⟨T,id,pa,slot,hty,h1,h2,Calls.callWith_builtin rfl (PySem.evalArgs_none (hm pins s1 σ H1 x [] v [] Q I1 r1 .nil q1))⟩
theorem pe_bm (pa:PlainAttrs T) (slot:Slot T name id) (hty:typeOf (.builtin id)=pure (.type "method_descriptor")) (hm:MtR X id r) (ho:PE X o to) (ha:PA X (e::es) t)
  (hbase:attributeBase o name X.env (eval o X.env)=eval o X.env:=by rfl)
  (hfew:((backTo cpos (starEach (e::es) X.env)).all (fun x=>!x.1)&&(backToKw cpos (keywordEach [] X.env)).all (fun x=>x.1.isSome)
   && decide ((e::es).length + ([]:List Keyword).length + (if ([]:List Keyword).isEmpty then 0 else 1) < 30))=true:=by rfl)
  (hline:(apos.endLine==cpos.line)=true:=by rfl) (hs:starEach (e::es) X.env=(false,eval e X.env)::starEach es X.env:=by rfl) (hplain:(backTo cpos (starEach es X.env)).any (·.1)=false:=by rfl):
  PE X (.Call (.Attribute o name apos) (e::es) [] cpos) (tBM X.K T r to t):=by
 intro pins s σ H Q I h
 refine wpAny_Call_method_late hbase hfew hline rfl (thn (ho pins s σ H _ I h) fun v s1 ⟨x,H1,I1,r1,ty,q1⟩=>?_)
 obtain ⟨h1,h2⟩:=qHH I1 r1 ty
 refine ⟨T,id,pa,slot,hty,h1,h2,?_⟩
 have hA:=ha cpos pins s1 σ H1 _ I1 q1
 rw [hs] at hA ⊢
 refine Calls.callWith_builtin (by show (false||(backTo cpos (starEach es X.env)).any (·.1))=false;rw [hplain]<;>rfl) (Calls.evalArgs_plain ?_)
 exact thn hA fun us s2 ⟨vs,H2,I2,r2,q2⟩=>hm pins s2 σ H2 x vs v us Q I2 r1 r2 q2
end
open PySem PySem.Spec PyProof.Rows
noncomputable def MtM (X:Cx) (id:String) (r:V -> List V -> Hp -> VK -> Prop):Prop:=
 ∀ (pins:List (Addr×Obj)) (s:Shared) (σ:St) (H:Hp) (x:V) (xs:List V) (v:Value) (us:List Value) (Q:VK),Inv X pins σ H s -> RelV x v -> Vals xs us -> r x xs H Q ->
  wpAny (model X.prog X.w) X.A (call (.builtin id) (v::us)) (EP X pins σ Q) X.xe s
theorem Vals.one:∀ {x:V} {us:List Value},Vals [x] us -> ∃ u,us=[u]/\RelV x u
 | _,_,.cons r .nil=>⟨_,rfl,r⟩
theorem Vals.zero:∀ {us:List Value},Vals [] us -> us=[]
 | _,.nil=>rfl
theorem Vals.dropLast {xs:List V} {us:List Value} (h:Vals xs us):Vals xs.dropLast us.dropLast:=by
 induction h with
 | nil=>exact .nil
 | cons r t ih=>
  cases t with
  | nil=>exact .nil
  | cons q t'=>exact .cons r ih
theorem Vals.eraseIdx:∀ {xs:List V} {us:List Value} (i:Nat),Vals xs us -> Vals (xs.eraseIdx i) (us.eraseIdx i)
 | _,_,_,.nil=>.nil
 | _,_,0,.cons _ t=>t
 | _,_,i + 1,.cons r t=>.cons r (Vals.eraseIdx i t)
theorem Vals.reverse {xs:List V} {us:List Value} (h:Vals xs us):Vals xs.reverse us.reverse:=by
 induction h with
 | nil=>exact .nil
 | cons r t ih=>rw [List.reverse_cons,List.reverse_cons];exact Vals.append ih (.cons r .nil)
theorem Vals.rep {xs:List V} {us:List Value} (h:Vals xs us):∀ k:Nat,Vals (List.replicate k xs).flatten (List.replicate k us).flatten
 | 0=>.nil
 | k + 1=>by
  rw [List.replicate_succ,List.replicate_succ,List.flatten_cons,List.flatten_cons]
  exact Vals.append h (Vals.rep h k)
theorem qDX {α:Type}:∀ (l:List α) (i:Nat),(l.eraseIdx i).length<=l.length
 | [],_=>Nat.le_refl _
 | _::_,0=>Nat.le_succ _
 | _::r,i + 1=>Nat.succ_le_succ (qDX r i)
theorem qDa (its:List Value):∀ (k:Nat) (acc:List Value),
  List.foldl (fun x1 x2=>x1++x2) acc.toArray (List.replicate k its.toArray)=(acc++(List.replicate k its).flatten).toArray
 | 0,acc=>by simp
 | k + 1,acc=>by
  have e:acc.toArray++its.toArray=(acc++its).toArray:=by simp
  have e2:(acc++its)++(List.replicate k its).flatten=acc++(List.replicate (k + 1) its).flatten:=by
   rw [List.replicate_succ,List.flatten_cons,List.append_assoc]
  rw [<- e2,<- qDa its k (acc++its),<- e,List.replicate_succ,List.foldl_cons]
section
variable {X:Cx} {pins:List (Addr×Obj)} {σ:St} {H:Hp} {s:Shared} {l b:Addr} {xs ys zs:List V}
theorem Inv.lset {its its':List Value} {n:Nat} {f:Array Value -> Array Value} {t':Nat} (I:Inv X pins σ H s) (hH:H l=some (.lst xs))
  (e:s.heap.get? l=some { cls:=.type "list",data:=.seq its.toArray n }) (hf:f its.toArray=its'.toArray) (hv:Vals ys its') (hz:ys.length<=sizeLine):
  Inv X pins σ (upd H l (.lst ys)) { s with heap:=s.heap.update l (Obj.mapSeq f),toks:=t' }:=by
 have q:=PySem.IsL.update e f
 rw [hf] at q
 refine I.write (x:=l) (e:=l) (by rw [hH];exact trivial) (.inl rfl) (fun b' u hb hu=>(Heap.get?_update_other s.heap (Obj.mapSeq f) (Ne.symm hb)).trans hu) ⟨_,q⟩ ?_
 exact ⟨hz,its',_,hv,q⟩
theorem Inv.lnew {its:List Value} {t':Nat} (I:Inv X pins σ H s) (hv:Vals ys its) (hz:ys.length<=sizeLine):
  Inv X pins σ (upd H s.heap.objs.size (.lst ys)) { s with heap:=s.heap.push { cls:=.type "list",data:=.seq its.toArray },toks:=t' }:=
 I.laid (fun _ _ q=>Heap.get?_push_of_some _ q) (Nat.le_refl _) ⟨hz,its,0,hv,Heap.get?_push_size _ rfl⟩
theorem Inv.fresh (I:Inv X pins σ H s):H s.heap.objs.size=none:=I.hok.fresh (Nat.le_refl _)
theorem Inv.lstM (I:Inv X pins σ H s) (hH:H l=some (.lst xs)):xs.length<=sizeLine/\∃ (its:List Value) (n:Nat),Vals xs its/\xs.length=its.length/\s.heap.get? l=some { cls:=.type "list",data:=.seq its.toArray n }:=by
 obtain ⟨z,its,n,r,e⟩:=I.hok l _ hH
 exact ⟨z,its,n,r,r.length,e⟩
theorem qG0 {n:Nat} (h:n<=sizeLine):Builtin.List.listTooLong n=false:=by
 unfold Builtin.List.listTooLong
 exact decide_eq_false (by omega)
end
section
variable {X:Cx}
noncomputable def qIB:V -> List V -> Hp -> VK -> Prop:=fun x vs H Q=>∃ l xs y,x=.ref l/\vs=[y]/\H l=some (.lst xs)/\xs.length < sizeLine/\Q .non (upd H l (.lst (xs++[y])))
theorem mt_append:MtM X "list.append" qIB:=by
 intro pins s σ H x vs v us Q I rx rv h
 obtain ⟨l,xs,y,rfl,rfl,hH,hz,q⟩:=h
 cases rx
 obtain ⟨u,rfl,ru⟩:=rv.one
 obtain ⟨z,its,n,r,hl,e⟩:=I.lstM hH
 refine call_meets F.slot_list_append ⟨_,e,rfl⟩ F.entry_list_append (F.args_list_append_2 _ _) (PySem.list_append l its.toArray n u (by rw [List.size_toArray];omega)) ⟨e,?_⟩
 refine ⟨.non,_,I.lset (its':=its++[u]) hH e (by simp) (r.append (.cons ru .nil)) ?_,rfl,q⟩
 rw [List.length_append,List.length_singleton]
 omega
noncomputable def rPopAt:V -> List V -> Hp -> VK -> Prop:=fun x vs H Q=>∃ l xs i k y,x=.ref l/\vs=[.int i]/\H l=some (.lst xs)/\-(2 ^ 63)<=i/\i < 2 ^ 63/\seqIndex? i xs.length=some k/\xs[k]?=some y/\Q y (upd H l (.lst (xs.eraseIdx k)))
theorem mt_popAt:MtM X "list.pop" rPopAt:=by
 intro pins s σ H x vs v us Q I rx rv h
 obtain ⟨l,xs,i,k,y,rfl,rfl,hH,h1,h2,hk,hy,q⟩:=h
 cases rx
 obtain ⟨u,rfl,ru⟩:=rv.one
 obtain ⟨t,rfl⟩:=ru
 obtain ⟨z,its,n,r,hl,e⟩:=I.lstM hH
 obtain ⟨w,hw,rw'⟩:=r.get hy
 refine call_meets F.slot_list_pop ⟨_,e,rfl⟩ F.entry_list_pop (F.args_list_pop_2 _ _)
  (MeetsSeq.list_pop_at l its.toArray n i t k w (fitsIndex_both h1 h2) (by rw [List.size_toArray,<- hl];exact hk) (by rw [<- Array.getElem?_toList];exact hw) (by rw [List.size_toArray];omega)) ⟨e,?_⟩
 refine ⟨y,_,I.lset (its':=its.eraseIdx k) hH e ?_ (r.eraseIdx k) ?_,rw',q⟩
 ·show its.toArray.eraseIdxIfInBounds k=(its.eraseIdx k).toArray
  rw [List.eraseIdxIfInBounds_toArray]
 ·have:=qDX xs k
  omega
noncomputable def rCat:R2:=fun x y H Q=>∃ l b xs zs,x=.ref l/\y=.ref b/\H l=some (.lst xs)/\H b=some (.lst zs)/\xs.length + zs.length<=sizeLine/\∀ p,H p=none -> Q (.ref p) (upd H p (.lst (xs++zs)))
theorem op_cat:OpR X (binaryOp .Add) rCat:=by
 intro pins s σ H x y v u Q I rx ry h
 obtain ⟨l,b,xs,zs,rfl,rfl,hH,hB,hz,q⟩:=h
 cases rx
 cases ry
 obtain ⟨z,its,n,r,hl,e⟩:=I.lstM hH
 obtain ⟨z2,its2,n2,r2,hl2,e2⟩:=I.lstM hB
 refine PySem.P.add_list e e2 ?_ (by rw [List.size_toArray,List.size_toArray];omega)
 have ea:its.toArray++its2.toArray=(its++its2).toArray:=by simp
 rw [ea]
 exact ⟨.ref _,_,I.lnew (t':=s.toks) (r.append r2) (by rw [List.length_append];omega),rfl,q _ I.fresh⟩
noncomputable def rRep:R2:=fun x y H Q=>∃ l k xs,x=.ref l/\y=.int k/\H l=some (.lst xs)/\-(2 ^ 63)<=k/\k < 2 ^ 63/\xs.length * k.toNat<=sizeLine/\
 ∀ p,H p=none -> Q (.ref p) (upd H p (.lst (List.replicate k.toNat xs).flatten))
theorem qHj {α:Type} (xs:List α) (k:Nat):(List.replicate k xs).flatten.length=k * xs.length:=by
 induction k with
 | zero=>simp
 | succ k ih=>rw [List.replicate_succ,List.flatten_cons,List.length_append,ih,Nat.succ_mul,Nat.add_comm]
theorem op_rep:OpR X (binaryOp .Mult) rRep:=by
 intro pins s σ H x y v u Q I rx ry h
 obtain ⟨l,k,xs,rfl,rfl,hH,h1,h2,hz,q⟩:=h
 cases rx
 obtain ⟨t,rfl⟩:=ry
 obtain ⟨z,its,n,r,hl,e⟩:=I.lstM hH
 have hlen:its.toArray.size * k.toNat<=sizeLine:=by rw [List.size_toArray,<- hl];exact hz
 have hcap:¬ its.toArray.size * k.toNat > (2 ^ 63 - 1) / 8:=by
  have:(sizeLine:Nat)<=(2 ^ 63 - 1) / 8:=by decide
  omega
 have hfit:¬ (!Builtin.List.listFitsIndex k)=true:=by
  rw [fitsIndex_both h1 h2]
  exact Bool.false_ne_true
 have hlong:¬ Builtin.List.listTooLong (its.toArray.size * k.toNat)=true:=by
  rw [qG0 hlen]
  exact Bool.false_ne_true
 have hnew:List.foldl (fun x1 x2=>x1++x2) #[] (List.replicate (if its.toArray.isEmpty=true then 0 else k.toNat) its.toArray)=(List.replicate k.toNat its).flatten.toArray:=by
  have f0:∀ m:Nat,List.foldl (fun x1 x2=>x1++x2) #[] (List.replicate m its.toArray)=(List.replicate m its).flatten.toArray:=fun m=>by
   have:=qDa its m []
   rw [List.nil_append] at this
   exact this
  rw [f0]
  cases its with
  | nil=>simp
  | cons a r'=>rw [if_neg (by simp)]
 refine wpAny_binaryOp_repeat_ref (T:="list") (U:="int") (by decide) ⟨_,e,rfl⟩ (fun s'=>typeIs_int s' k t) noFill_list_mul F.fills_int_mul F.slot_int_rmul repeat_list F.slot_int_index.lookup
  (call_meets F.slot_int_rmul (typeIs_int s k t) F.entry_int_rmul (F.args_int_rmul_2 _ _) (int___rmul___int_list k t l its.toArray n)
   ⟨e,rfl,⟨_,e,rfl⟩,call_meets F.slot_list_mul ⟨_,e,rfl⟩ F.entry_list_mul (F.args_list_mul_2 _ _) (AutoListH.list___mul___list_int_3 l its.toArray n k t hfit hcap hlong) ⟨e,?_⟩⟩)
 rw [hnew]
 exact ⟨.ref _,_,I.lnew (t':=s.toks) (r.rep k.toNat) (by rw [qHj,Nat.mul_comm];exact hz),rfl,q _ I.fresh⟩
end
section
variable {prog:Program} {w:World} {A:Around} {E:Value -> Shared -> Prop} {s:Shared}
end
section
variable {X:Cx}
end
end L2
namespace Att
open PySem PySem.W PySem.Calls PyProof.Rows
theorem qCP {P:Params} {h:Heap}:∀ (ns:List Int) (vs:List Value),WellAll P h vs (ns.map WData.int) -> IntsAre vs ns:=by
 intro ns
 induction ns with
 | nil=>
  intro vs w
  rw [List.map_nil] at w
  cases w
  exact .nil
 | cons n ns ih=>
  intro vs w
  rw [List.map_cons] at w
  cases w with
  | cons a b=>
   cases a
   exact .cons _ _ (ih _ b)
theorem qFr {l:OpenLaw} {n:Nat} (hn:l.most=some n) {P:Params} {h:Heap} {args:List WData} {vals:List Value}
  (hpre:l.row.toRowW.claim.pre args=true) (hwl:WellAll P h vals args):
  ∃ a vs ns,vals=[Value.ref a]/\args=[WData.list (ns.map WData.int)]/\h.get? a=some { cls:=.type "list",data:=.seq vs.toArray }/\IntsAre vs ns/\ns.length<=n:=by
 have hsh:WShape.hasAll [] args [.list .int]=true:=(pre_splitW hpre).1
 have hc:l.pre.holds [] { args:=args }=true:=(pre_splitW hpre).2
 obtain ⟨d,r,rfl,h1,h2⟩:=hasAllW_cons hsh
 obtain rfl:=hasAllW_nil h2
 obtain ⟨xs,rfl,h3⟩:=hasW_list h1
 obtain ⟨ns,rfl⟩:=items_int h3
 have hlen:ns.length<=n:=by
  unfold OpenLaw.pre at hc
  have h4:(WTm.not (.lt (.lit (.int (n:Int))) (.len (.arg 0)))).holds [] { args:=[.list (ns.map .int)] }=true:=by
   have h4:=(holds_andW hc).1
   rw [hn] at h4
   exact h4
  have h5:=condW_of h4 (w_not (w_lt w_lit (w_len_list (w_arg rfl))))
  rw [List.length_map] at h5
  refine Nat.le_of_not_lt fun q=>?_
  have q':(n:Int) < ((ns.length:Nat):Int):=by omega
  first
   | (rw [decide_eq_true q'] at h5;exact absurd h5 (by decide))
   | (simp at h5;omega)
 cases hwl with
 | cons w1 w2=>
  cases w2
  cases w1 with
  | list ho hall=>exact ⟨_,_,ns,rfl,rfl,ho,qCP ns _ hall,hlen⟩
theorem qFU (l:OpenLaw) (args:List WData):l.row.toRowW.claim.post args (.bool true) args=true:=
 postW_of (r:=l.row.toRowW) (X:=(true==true))
  (show WShape.has [] (.bool true) .bool=true by first | rfl | decide | simp [WShape.has,WShape.arms,WShape.armsAll])
  (show (WTm.eq .res (.lit (.bool true))).value [] { args:=args,res:=some (.bool true),after:=args }=some (.bool (true==true)) from w_eq_bool (w_res rfl) w_lit) rfl
theorem attach_call {l:OpenLaw} {n:Nat} {q:Program} {loose:List Str} {XP:(Str -> Option Value) -> Heap -> Prop} {YP:World -> Heap -> Prop} {d:DefRec}
  (hn:l.most=some n) (hdf:d.params.defaults=[])
  (call:∀ (w:World) (s₀ s₁:Shared) (mg mb:Str -> Option Value) (fa:Addr) (o:Obj) (pm cd doc:Value) (a:Addr) (vs:List Value) (ns:List Int),
   Ground q loose [] XP w s₀ mg mb s₁.heap -> YP w s₁.heap ->
   s₁.heap.get? fa=some o -> o.data=.func (docDef d.name d.params d.body d.scope pm cd doc) -> s₁.heap.CodeRec cd d.name -> mg d.name=some (.ref fa) ->
   s₁.heap.get? a=some { cls:=.type "list",data:=.seq vs.toArray } -> IntsAre vs ns -> ns.length<=n -> s₁.gens=#[] ->
   codeAny (model l.prog w) callerA (.call (.ref fa) ⟨[.ref a],[]⟩) (fun r s'=>r=.ok (.ret (.bool true))/\OldK s₁.heap s'.heap/\s'.os=s₁.os/\AllBare s'.gens) s₁):
  WalkO q loose XP YP l.row.toRowW d [] (fun f vs=>PySem.call f vs):=by
 intro w s₀ s₁ mg mb G Y fa o pm cd doc dV kV ho hd hcd hD hmg hg args vals as hpre hlay hrd hwl hlo
 obtain rfl:dV=.none:=Dflts.none hD hdf
 obtain rfl:kV=.none:=Dflts.noKw hD
 obtain ⟨a,vs,ns,rfl,rfl,hobj,hints,hlen⟩:=qFr hn hpre hwl
 refine enter_call (codeAny_mono (call w s₀ s₁ mg mb fa o pm cd doc a vs ns G Y ho (fd_plain hd) hcd hmg hobj hints hlen hg) fun r s' hq=>?_)
 obtain ⟨rfl,h2,h3,h4⟩:=hq
 exact ⟨.inl ⟨.bool true,.bool true,[],rfl,fun _=>rfl,.bool true,qFU l _,fun _=>⟨List.Pairwise.nil,fun _ hm=>(nomatch hm)⟩⟩,h2,h3,h4⟩
section
variable {prog:Program} {w:World} {A:Around} {E:Value -> Shared -> Prop} {s:Shared} {K:Frag}
end
end Att
namespace L2
open PySem PySem.Spec PyProof.Rows
theorem qBm:∀ {vs:List Value} {ns:List Int},IntsAre vs ns -> Vals (ns.map V.int) vs
 | _,_,.nil=>.nil
 | _,_,.cons n t h=>.cons ⟨t,rfl⟩ (qBm h)
noncomputable def Only (H:Hp):Prop:=∀ b,H b=none\/∃ o xs,H b=some (.frz o (.lst xs))
theorem qGY {P:Program} {w:World} {K:PySem.W.Frag} {mg mb:Str -> Option Value} {CX:CXT} {k:Nat} {fa a:Addr} {fd:FuncData} {x:Str} {sp:Sp} {s₁:Shared} {vs:List Value} {ns:List Int}
  (KX:K.In s₁.heap) (hns:s₁.heap.Ns mainGlobals mg) (hb:s₁.heap.Ns builtinsNs mb) (hbb:∀ x:Str,x≠"__name__" -> mb x=bootBuiltins x) (hlim:s₁.heap.NoLimit) (hg:s₁.gens=#[])
  (ha:s₁.heap.get? a=some { cls:=.type "list",data:=.seq vs.toArray }) (hi:IntsAre vs ns) (hl:ns.length<=sizeLine) (hr:Room k callerA)
  (F:∀ base:Heap,K.In base -> base.Ns mainGlobals mg -> FnOk P w K mg base CX k fa fd [x] sp) (hbind:∀ (s:Shared) (u:Value),BindsTo s fd ⟨[u],[]⟩ [(x,u)])
  (hsp:∀ H:Hp,Only H -> SqL K H a (ns.map V.int) -> sp [.ref a] H (fun v _=>v=.bl true) fun _ _ _=>False)
  (hCX:∀ H e s',CX [] H s₁ (fun _ _ _=>False) e s' -> False):
  codeAny (model P w) callerA (.call (.ref fa) ⟨[.ref a],[]⟩) (fun r s'=>r=.ok (.ret (.bool true))/\OldK s₁.heap s'.heap/\s'.os=s₁.os/\AllBare s'.gens) s₁:=by
 have rv:=qBm hi
 have lenV:=hi.length
 have core:∀ H:Hp,Only H -> SqL K H a (ns.map V.int) -> HOk P w H s₁.heap -> (∀ b,H b≠none -> b=a) -> (H a≠none -> K.lookup a=none) ->
   codeAny (model P w) callerA (.call (.ref fa) ⟨[.ref a],[]⟩) (fun r s'=>r=.ok (.ret (.bool true))/\OldK s₁.heap s'.heap/\s'.os=s₁.os/\AllBare s'.gens) s₁:=by
  intro H hO hS hok hA hK
  have base_of:∀ {b:Addr} {o:Obj},s₁.heap.get? b=some o -> H b=none -> (qGX s₁.heap H).get? b=some o:=fun e n=>qGt e n
  have noA:∀ {b:Addr} {o:Obj} {es:Array DictEntry} {ep:Nat},s₁.heap.get? b=some o -> o.data=.dict es ep -> H b=none:=fun {b o es ep} e d=>by
   cases q:H b with
   | none=>rfl
   | some u=>
    have e':b=a:=hA b (by rw [q];simp)
    subst e'
    rw [ha] at e;cases e
    have d':Data.seq vs.toArray _=Data.dict es ep:=d
    cases d'
  have nsK:∀ {b:Addr} {m:Str -> Option Value},s₁.heap.Ns b m -> (qGX s₁.heap H).Ns b m:=fun {b m} ⟨o,es,ep,e,d,r⟩=>⟨o,es,ep,base_of e (noA e d),d,r⟩
  have hKb:K.In (qGX s₁.heap H):=fun b o e=>base_of (KX b o e) (by
   cases q:H b with
   | none=>rfl
   | some u=>
    have e':b=a:=hA b (by rw [q];simp)
    subst e'
    rw [hK (by rw [q];simp)] at e;cases e)
  have hM:Mod K mg (qGX s₁.heap H):=⟨hKb,nsK hns,⟨mb,nsK hb,hbb⟩,let ⟨mc,h1,h2⟩:=hlim;⟨mc,nsK h1,h2⟩⟩
  have e0:qJ2 P w K mg (qGX s₁.heap H) callerA [] s₁ H:=⟨rfl,hM,fun b o e=>qHg e,Nat.le_of_eq (qFX _ _),trivial,fun b hb=>absurd (show b∈([]:List Addr) from hb) (by simp),hok,.of_eq hg⟩
  refine codeAny_mono ((F _ hKb (nsK hns)).run callerA [] s₁ H ⟨[.ref a],[]⟩ [.ref a] [.ref a] _ _ hr e0 (hbind s₁ (.ref a)) (.cons rfl .nil) (hsp H hO hS)) fun r s' h=>?_
  cases r with
  | error e=>exact (hCX H e s' h).elim
  | ok fl=>
   cases fl with
   | next=>exact False.elim h
   | brk=>exact False.elim h
   | cont=>exact False.elim h
   | ret u=>
    obtain ⟨v,H',os,bare,un,hok',r',q⟩:=h
    have q':v=.bl true:=q
    subst q'
    obtain rfl:u=Value.bool true:=r'
    refine ⟨rfl,OldK.of_keep fun b o e=>?_,os,bare⟩
    cases q:H b with
    | none=>exact un.keep b o e q (by intro z;exact absurd (show b∈([]:List Addr) from z) (by simp)) (by simp)
    | some u=>
     rcases hO b with z | ⟨ob,xs,z⟩
     ·rw [q] at z;cases z
     ·have z2:=un.frzs b ob _ z
      obtain ⟨e1,_⟩:=hok b _ z
      obtain ⟨e2,_⟩:=hok' b _ z2
      rw [e] at e1;cases e1
      exact e2
 cases hk:K.lookup a with
 | some o=>
  have e:=KX a o hk
  rw [ha] at e
  cases e
  refine core (fun _=>none) (fun _=>.inl rfl) (.inr ⟨_,vs.toArray,_,hk,rfl,rfl,rfl,by rw [List.size_toArray,lenV];exact hl,by simpa using rv⟩) (fun b u z=>by have z':(none:Option HO)=some u:=z;cases z') (fun b z=>absurd rfl z) fun z=>absurd rfl z
 | none=>
  refine core (fun b=>if b=a then some (.frz { cls:=.type "list",data:=.seq vs.toArray } (.lst (ns.map V.int))) else none) (fun b=>?_) (.inl (.inr ⟨{ cls:=.type "list",data:=.seq vs.toArray },if_pos rfl⟩)) (fun b u z=>?_) (fun b z=>?_) fun _=>hk
  ·by_cases hb:b=a
   ·exact .inr ⟨_,_,if_pos hb⟩
   ·exact .inl (if_neg hb)
  ·by_cases hb:b=a
   ·have z':=(if_pos hb).symm.trans z
    cases z'
    subst hb
    exact ⟨ha,by rw [List.length_map];exact hl,vs,_,rv,ha⟩
   ·have z':=(if_neg hb).symm.trans z
    cases z'
  ·by_cases hb:b=a
   ·exact hb
   ·exact absurd (if_neg hb) z
open PySem PySem.Spec PyProof.Rows
theorem walk_of {l:PySem.W.OpenLaw} {n k:Nat} {q:Program} {loose:List Str} {XP:(Str -> Option Value) -> Heap -> Prop} {YP:World -> Heap -> Prop} {d:DefRec} {K:Params -> PySem.W.Frag} {CX:World -> CXT} {sp:World -> Sp} {x:Str}
  (hn:l.most=some n) (hn2:n<=sizeLine) (hdf:d.params.defaults=[]) (hr:Room k callerA)
  (hY:∀ (w:World) (h:Heap),YP w h -> (K w.params).In h)
  (F:∀ (w:World) (mg:Str -> Option Value) (fa:Addr) (h:Heap),(K w.params).In h -> h.Ns mainGlobals mg -> mg d.name=some (.ref fa) ->
   ∃ fd:FuncData,(∀ (s:Shared) (u:Value),BindsTo s fd ⟨[u],[]⟩ [(x,u)])/\
    ∀ base:Heap,(K w.params).In base -> base.Ns mainGlobals mg -> FnOk l.prog w (K w.params) mg base (CX w) k fa fd [x] (sp w))
  (hsp:∀ (w:World) (H:Hp) (a:Addr) (ns:List Int),ns.length<=n -> Only H -> SqL (K w.params) H a (ns.map V.int) -> sp w [.ref a] H (fun v _=>v=.bl true) fun _ _ _=>False)
  (hCX:∀ (w:World) (H:Hp) (s:Shared) (e:Value) (s':Shared),CX w [] H s (fun _ _ _=>False) e s' -> False):
  PySem.W.WalkO q loose XP YP l.row.toRowW d [] (fun f vs=>PySem.call f vs):=by
 refine Att.attach_call hn hdf fun w s₀ s₁ mg mb fa o pm cd doc a vs ns G Y ho hd hcd hmg hobj hints hlen hg=>?_
 have KX:=hY w _ Y
 obtain ⟨fd,hb,hF⟩:=F w mg fa _ KX G.T.g hmg
 exact qGY KX G.T.g G.T.b G.T.builtins G.T.nolimit hg hobj hints (Nat.le_trans hlen hn2) hr hF hb (fun H hO hS=>hsp w H a ns hlen hO hS) fun H e s'=>hCX w H s₁ e s'
open PySem PySem.Spec PyProof.Rows
noncomputable def qBe (s:Stmt):Arguments:=match s with
 | .FunctionDef _ a _ _ _ _ _ _ _ _=>a
 | _=>{ posonlyargs:=[],args:=[],vararg:=none,kwonlyargs:=[],kw_defaults:=[],kwarg:=none,defaults:=[] }
noncomputable def defBody (s:Stmt):List Stmt:=match s with
 | .FunctionDef _ _ b _ _ _ _ _ _ _=>b
 | _=>[]
noncomputable def defScope (s:Stmt):Scope:=match s with
 | .FunctionDef _ _ _ _ _ _ sc _ _ _=>sc
 | _=>{ kind:=.function,names:=[],isGenerator:=false,isCoroutine:=false }
noncomputable abbrev CX0:CXT:=fun _ _ _ _ _ _=>False
noncomputable abbrev E0:XK:=fun _ _ _=>False
theorem pass0 {X:Cx}:qEp CX0 X E0:=fun _ _ _ _ _ _ _ h=>h.elim
structure Fun (K:PySem.W.Frag) (x qual:Str) (st:Stmt) (f:Addr) (fd:FuncData):Prop where
 ex:∃ (oc:Value) (od:Option Addr) (kV doc pm:Value) (an:Option Addr) (cdv ct:Value) (osl:Array (Option Value)),
  fd=PySem.W.fnOf x qual (qBe st) (defBody st) (defScope st) .none kV doc pm an cdv ct/\K.lookup f=some ⟨oc,od,.func fd,osl⟩/\PySem.W.codeIn K cdv qual=true
 kp:PySem.W.keepIn K (.ref f)=true
section
variable {P:Program} {w:World} {K:PySem.W.Frag} {mg:Str -> Option Value} {base:Heap}
theorem Fun.ok {x qual:Str} {st:Stmt} {f:Addr} {fd:FuncData} {N ps:List Str} {k:Nat} {sp:Sp} (F:Fun K x qual st f fd) (S:qBG N ps (defScope st)) (len:∀ vs H Q E,sp vs H Q E -> vs.length=ps.length)
  (hbody:∀ (cdv:Value) (A:Around) (outer:List Env) (s:Shared) (H:Hp) (vs:List V) (Q:VK) (E:XK),Room k (A.deeper (envOfC qual (defScope st) s.heap.objs.size f cdv)) -> sp vs H Q E ->
   ∃ t,PSs (cxOf CX0 P w K mg base N qual (defScope st) f cdv A outer s H E).nox (defBody st) t/\t { nx:=fun _ H'=>Q .non H',rt:=Q } (start N vs) H):FnOk P w K mg base CX0 (k + 1) f fd ps sp:=by
 obtain ⟨oc,od,kV,doc,pm,an,cdv,ct,osl,rfl,lk,hcd⟩:=F.ex
 refine qKI lk hcd S len fun A outer s H vs Q E hr hsp=>?_
 obtain ⟨t,h,q⟩:=hbody cdv A outer s H vs Q E hr hsp
 exact ⟨t,h.nox,q⟩
theorem Fun.binds {x qual:Str} {st:Stmt} {f:Addr} {fd:FuncData} {ps:List Str} (F:Fun K x qual st f fd)
  (h:∀ (kV doc pm:Value) (an:Option Addr) (cdv ct:Value) (us:List Value),us.length=ps.length -> bindArgs (PySem.W.fnOf x qual (qBe st) (defBody st) (defScope st) .none kV doc pm an cdv ct) ⟨us,[]⟩=pure (ps.zip us)):Binds K fd ps []:=by
 obtain ⟨oc,od,kV,doc,pm,an,cdv,ct,osl,rfl,lk,hcd⟩:=F.ex
 exact .all (h kV doc pm an cdv ct)
theorem qHD {x qual:Str} {st:Stmt} {f:Addr} {oc:Value} {od an:Option Addr} {osl:Array (Option Value)} {kV doc pm cdv ct:Value} (l:K.lookup f=some ⟨oc,od,.func (PySem.W.fnOf x qual (qBe st) (defBody st) (defScope st) .none kV doc pm an cdv ct),osl⟩)
  (c:PySem.W.codeIn K cdv qual=true) (k:PySem.W.keepIn K (.ref f)=true):Fun K x qual st f (PySem.W.fnOf x qual (qBe st) (defBody st) (defScope st) .none kV doc pm an cdv ct):=⟨⟨oc,od,kV,doc,pm,an,cdv,ct,osl,rfl,l,c⟩,k⟩
end
section
variable {X:Cx}
end
noncomputable def qDx (H H':Hp):Prop:=∀ b o,H b=some o -> H' b=some o
end L2
namespace L2
open PySem PySem.Spec PyProof.Rows
open PySem PySem.Spec PyProof.Rows
section
variable (P:Program) (w:World)
end
section
variable {P:Program} {w:World} {H H':Hp} {h h':Heap} {a:Addr} {o:HO}
end
section
variable {P:Program} {w:World} {H:Hp} {h h':Heap} {x e:Addr} {o':HO}
end
section
variable {fs fs' ex ex':List Addr} {H H1 H2:Hp} {h h1 h2 h':Heap} {a x e:Addr} {o:HO}
end
open PySem PySem.Spec PyProof.Rows
section
variable {X:Cx} {pins:List (Addr×Obj)} {σ:List (Option V)} {H H':Hp} {s:Shared} {h':Heap}
end
open PySem PySem.Spec PyProof.Rows
section
variable {X:Cx}
variable {a b:Expr} {ta tb:TE} {pos:Pos}
variable {tA tB':TT} {qCA:List Expr}
end
open PySem PySem.Spec PyProof.Rows
section
variable {X:Cx} {pins:List (Addr×Obj)} {σ:St} {H:Hp} {s:Shared} {a:Addr} {xs ys:List V}
end
section
variable {X:Cx} {pins:List (Addr×Obj)} {σ:St} {H:Hp} {s:Shared} {E:Value -> Shared -> Prop}
end
section
variable {X:Cx} {st:Stmt} {qCA:List Stmt} {t u:TS} {e:Expr} {te:TE} {pos:Pos}
end
section
variable {X:Cx} {pos:Pos}
end
section
variable {X:Cx} {pos:Pos}
end
open PySem PySem.Spec PyProof.Rows
section
variable {X:Cx} {tg:Expr}
end
open PySem PySem.Spec PyProof.Rows
section
variable {X:Cx} {a b c:Expr} {ta tb tc:TE} {pos:Pos}
end
section
variable {X:Cx} {a b c:Expr} {ta tb tc:TE} {pos:Pos}
end
open PySem PySem.Spec PyProof.Rows
section
variable {prog:Program} {w:World} {A:Around} {E:Value -> Shared -> Prop} {s:Shared} {K:PySem.W.Frag} {x dx C f:Addr} {mA:Str -> Option Value} {name:Str} {v:Value}
end
section
variable {P:Program} {w:World} {H H':Hp} {h h':Heap} {a C dx:Addr} {fs fs':List (Str×V)}
end
section
variable {X:Cx} {pins:List (Addr×Obj)} {σ:St} {H:Hp} {s:Shared} {a C dx:Addr} {fs:List (Str×V)} {f:Str} {v:V} {A:Around} {E:Value -> Shared -> Prop}
end
section
variable {X:Cx} {o e value:Expr} {f:Str} {pos pos' tpos:Pos} {ta tv:TE}
end
section
variable {X:Cx} {pins:List (Addr×Obj)} {σ:St} {H:Hp} {s:Shared} {A:Around} {E:Value -> Shared -> Prop} {Q:Value -> Shared -> Prop} {c:Value} {b:Bool}
end
open PySem PySem.Spec PyProof.Rows
section
variable {X:Cx} {e:Expr} {es:List Expr} {te:TE} {t:TA} {pos:Pos}
end
section
variable {X:Cx} {pins:List (Addr×Obj)} {σ:St} {H:Hp} {s s':Shared}
end
section
variable {X:Cx} {CX:CXT} {k:Nat} {f C:Addr} {fd:FuncData} {ps:List Str} {sp:Sp} {dvs:List V} {ds:List Value} {E:XK} {x m:Str} {p pos apos:Pos} {e o:Expr} {es:List Expr} {ta:TE} {t:TA}
end
section
variable {X:Cx} {CX:CXT} {k:Nat} {f C:Addr} {fd:FuncData} {ps ks:List Str} {sp:Sp} {E:XK} {x m:Str} {p pos apos kpos:Pos} {e o:Expr} {es:List Expr} {kws:List Keyword} {te ta:TE} {t tk:TA} {nm:Option Str}
variable {g:List Value -> List Value -> List Value} {gV:List V -> List V -> List V}
end
open PySem PySem.Spec PyProof.Rows
section
variable {X:Cx} {x:Str} {p pos:Pos} {e:Expr} {es:List Expr} {t:TA} {id T:String} {r:List V -> Hp -> VK -> Prop}
end
open PySem PySem.Spec PyProof.Rows
section
variable {κ:Type} [DecidableEq κ]
noncomputable def valV (kvs:List (κ×V)) (k:κ):Option V:=(kvs.find? fun kv=>decide (kv.1=k)).map (·.2)
noncomputable def putK (kvs:List (κ×V)) (k:κ) (v:V):List (κ×V):=
 if (kvs.any fun kv=>decide (kv.1=k))=true then kvs.map (fun kv=>if kv.1=k then (kv.1,v) else kv) else kvs++[(k,v)]
noncomputable def qJb (kvs:List (κ×V)) (k:κ):List (κ×V):=kvs.filter fun kv=>decide (kv.1≠k)
theorem qDF {p:κ×V} {r:List (κ×V)} {k:κ} (e:p.1=k):valV (p::r) k=some p.2:=by simp [valV,List.find?_cons,e]
theorem qC5 {p:κ×V} {r:List (κ×V)} {k:κ} (e:¬ p.1=k):valV (p::r) k=valV r k:=by simp [valV,List.find?_cons,e]
theorem valV_any (k:κ):∀ kvs:List (κ×V),(kvs.any fun kv=>decide (kv.1=k))=(valV kvs k).isSome
 | []=>rfl
 | p::r=>by
  rw [List.any_cons]
  by_cases e:p.1=k
  ·simp only [qDF e,decide_eq_true e,Bool.true_or,Option.isSome_some]
  ·rw [qC5 e,decide_eq_false e,Bool.false_or];exact valV_any k r
theorem qCd (kvs:List (κ×V)) (k:κ) (v:V):(putK kvs k v).length<=kvs.length + 1:=by
 unfold putK
 split
 ·rw [List.length_map];omega
 ·rw [List.length_append,List.length_cons,List.length_nil];omega
theorem RelO.isSome_eq {o:Option V} {u:Option Value} (r:RelO o u):o.isSome=u.isSome:=by
 cases o with
 | none=>cases u with
  | none=>rfl
  | some _=>exact (show False from r).elim
 | some _=>cases u with
  | none=>exact (show False from r).elim
  | some _=>rfl
theorem RelO.getD {o:Option V} {u:Option Value} {d:V} {d':Value} (r:RelO o u) (rd:RelV d d'):RelV (o.getD d) (u.getD d'):=by
 cases o with
 | none=>cases u with
  | none=>exact rd
  | some _=>exact (show False from r).elim
 | some _=>cases u with
  | none=>exact (show False from r).elim
  | some _=>exact r
theorem KV.val {kvs:List (κ×V)} {vs:List (κ×Value)} (r:KV kvs vs) (k:κ):RelO (valV kvs k) (valueAt vs k):=by
 unfold KV at r
 induction r with
 | nil=>exact True.intro
 | @cons p q ps qs h t ih=>
  obtain ⟨h1,h2⟩:=h
  by_cases e:p.1=k
  ·have e':q.1=k:=h1.symm.trans e
   have b:valueAt (q::qs) k=some q.2:=by simp [valueAt,List.find?_cons,e']
   rw [qDF e,b];exact h2
  ·have e':¬ q.1=k:=fun z=>e (h1.trans z)
   have b:valueAt (q::qs) k=valueAt qs k:=by simp [valueAt,List.find?_cons,e']
   rw [qC5 e,b];exact ih
theorem KV.any {kvs:List (κ×V)} {vs:List (κ×Value)} (r:KV kvs vs) (k:κ):(kvs.any fun kv=>decide (kv.1=k))=vs.any fun kv=>decide (kv.1=k):=by
 unfold KV at r
 induction r with
 | nil=>rfl
 | cons h t ih=>rw [List.any_cons,List.any_cons,ih,h.1]
theorem KV.repl {kvs:List (κ×V)} {vs:List (κ×Value)} (r:KV kvs vs) (k:κ) {y:V} {u:Value} (ry:RelV y u):
  KV (kvs.map fun kv=>if kv.1=k then (kv.1,y) else kv) (vs.map fun kv=>if kv.1=k then (kv.1,u) else kv):=by
 unfold KV at r ⊢
 induction r with
 | nil=>exact .nil
 | @cons p q ps qs h t ih=>
  rw [List.map_cons,List.map_cons]
  refine .cons ?_ ih
  obtain ⟨h1,h2⟩:=h
  by_cases e:p.1=k
  ·rw [if_pos e,if_pos (h1.symm.trans e)];exact ⟨h1,ry⟩
  ·rw [if_neg e,if_neg (fun z=>e (h1.trans z))];exact ⟨h1,h2⟩
theorem KV.put {kvs:List (κ×V)} {vs:List (κ×Value)} (r:KV kvs vs) (k:κ) {y:V} {u:Value} (ry:RelV y u):KV (putK kvs k y) (stored vs k u):=by
 unfold putK stored
 rw [r.any k]
 by_cases e:(vs.any fun kv=>decide (kv.1=k))=true
 ·rw [if_pos e,if_pos e];exact r.repl k ry
 ·rw [if_neg e,if_neg e];exact Paired.snoc r ⟨rfl,ry⟩
theorem KV.drop {kvs:List (κ×V)} {vs:List (κ×Value)} (r:KV kvs vs) (k:κ):KV (qJb kvs k) (without vs k):=by
 unfold KV at r ⊢
 unfold qJb without
 induction r with
 | nil=>exact .nil
 | @cons p q ps qs h t ih=>
  obtain ⟨h1,h2⟩:=h
  rw [List.filter_cons,List.filter_cons]
  by_cases e:p.1=k
  ·have a:¬ decide (p.1≠k)=true:=by simp [e]
   have b:¬ decide (q.1≠k)=true:=by simp [h1.symm.trans e]
   rw [if_neg a,if_neg b];exact ih
  ·have e':¬ q.1=k:=fun z=>e (h1.trans z)
   have a:decide (p.1≠k)=true:=by simp [e]
   have b:decide (q.1≠k)=true:=by simp [e']
   rw [if_pos a,if_pos b];exact .cons ⟨h1,h2⟩ ih
theorem KV.length {kvs:List (κ×V)} {vs:List (κ×Value)} (r:KV kvs vs):kvs.length=vs.length:=Paired.length r
end
theorem qIO {P:Program} {w:World} {k:Key} {u:Value} (r:RelV (kV k) u):(qAl P w).is k u=true:=by
 cases k with
 | inl i=>obtain ⟨t,e⟩:=(show ∃ t,u=Value.int i t from r);subst e;exact qEE P w i t
 | inr x=>obtain ⟨t,e⟩:=(show ∃ t,u=Value.str x t from r);subst e;exact qD0 P w x t
theorem qDr {P:Program} {w:World}:∀ {ks:List Key} {us:List Value},Vals (ks.map kV) us -> ItemsAre (qAl P w) ks us
 | [],_,r=>by rw [List.map_nil] at r;cases r;exact .nil
 | k::ks,_,r=>by
  rw [List.map_cons] at r
  cases r with
  | cons h t=>exact .cons (qIO h) (qDr t)
noncomputable abbrev KT (H:Hp):List (List Key×V) -> List (List Key×Addr×Value) -> Prop:=Paired fun p q=>p.1=q.1/\H q.2.1=some (.tup (p.1.map kV))/\RelV p.2 q.2.2
theorem KT.val {H:Hp} {kvs:List (List Key×V)} {xs:List (List Key×Addr×Value)} (r:KT H kvs xs) (k:List Key):RelO (valV kvs k) ((atKey xs k).map (·.2)):=by
 induction r with
 | nil=>exact True.intro
 | @cons p q ps qs h t ih=>
  obtain ⟨h1,_,h2⟩:=h
  by_cases e:p.1=k
  ·have e':q.1=k:=h1.symm.trans e
   have b:atKey (q::qs) k=some q.2:=by simp [atKey,List.find?_cons,e']
   rw [qDF e,b];exact h2
  ·have e':¬ q.1=k:=fun z=>e (h1.trans z)
   have b:atKey (q::qs) k=atKey qs k:=by simp [atKey,List.find?_cons,e']
   rw [qC5 e,b];exact ih
theorem KT.repl {H:Hp} {kvs:List (List Key×V)} {xs:List (List Key×Addr×Value)} (r:KT H kvs xs) (k:List Key) {y:V} {u:Value} (ry:RelV y u):
  KT H (kvs.map fun kv=>if kv.1=k then (kv.1,y) else kv) (xs.map (putAt k u)):=by
 induction r with
 | nil=>exact .nil
 | @cons p q ps qs h t ih=>
  rw [List.map_cons,List.map_cons]
  refine .cons ?_ ih
  obtain ⟨h1,h2,h3⟩:=h
  unfold putAt
  by_cases e:p.1=k
  ·rw [if_pos e,if_pos (h1.symm.trans e)];exact ⟨h1,h2,ry⟩
  ·rw [if_neg e,if_neg (fun z=>e (h1.trans z))];exact ⟨h1,h2,h3⟩
theorem KT.put {H:Hp} {kvs:List (List Key×V)} {xs:List (List Key×Addr×Value)} (r:KT H kvs xs) (k:List Key) {b:Addr} {y:V} {u:Value} (hb:H b=some (.tup (k.map kV))) (ry:RelV y u):
  KT H (putK kvs k y) (storedH xs k b u):=by
 have e:(kvs.any fun kv=>decide (kv.1=k))=(atKey xs k).isSome:=by
  rw [valV_any,(r.val k).isSome_eq,Option.isSome_map]
 unfold putK storedH
 rw [e]
 by_cases q:(atKey xs k).isSome=true
 ·rw [if_pos q,if_pos q];exact r.repl k ry
 ·rw [if_neg q,if_neg q];exact Paired.snoc r ⟨rfl,hb,ry⟩
theorem KT.keeps {H H':Hp} {kvs:List (List Key×V)} {xs:List (List Key×Addr×Value)} (r:KT H kvs xs) (ht:∀ b ys,H b=some (.tup ys) -> H' b=some (.tup ys)):KT H' kvs xs:=
 Paired.mapP r fun _ _ z=>⟨z.1,ht _ _ z.2.1,z.2.2⟩
section
variable {P:Program} {w:World} {H:Hp} {h:Heap} {a:Addr}
theorem qJP {u:HO} (ok:HOk P w H h) (e:Rd H a u):ObjOk P w H h a u:=e.ok ok
theorem qIq {kvs:List (Key×V)} (ok:HOk P w H h) (e:Rd H a (.dK kvs)):kvs.length<=sizeLine/\(a==sysModules)=false/\∃ vs,KV kvs vs/\h.DictOf (qAl P w) a vs:=
 show ObjOk P w H h a (.dK kvs) from qJP ok e
theorem qKa {kvs:List (Key×V)} (ok:HOk P w H h) (e:H a=some (.dK kvs)):kvs.length<=sizeLine/\(a==sysModules)=false/\∃ vs,KV kvs vs/\h.DictOf (qAl P w) a vs:=qIq ok (.inl e)
theorem qFM {ks:List Key} (ok:HOk P w H h) (e:H a=some (.tup (ks.map kV))):(tupleKind (qAl P w)).is h ks a:=by
 obtain ⟨_,its,r,o,h1,h2,n,h3⟩:=(show ObjOk P w H h a (.tup (ks.map kV)) from ok a _ e)
 exact ⟨o,its.toArray,n,h1,h2,h3,by simpa using qDr r⟩
theorem qJa {kvs:List (List Key×V)} (ok:HOk P w H h) (e:Rd H a (.dT kvs)):kvs.length<=sizeLine/\(a==sysModules)=false/\
  ∃ xs,KT H kvs xs/\h.DictOfH (tupleKind (qAl P w)) a xs:=by
 obtain ⟨z,y,xs,r,o,es,ep,h1,h2,h3,h4,h5⟩:=(show ObjOk P w H h a (.dT kvs) from qJP ok e)
 refine ⟨z,y,xs,r,o,es,ep,h1,h2,h3,h4,fun x hx=>?_,h5⟩
 have all:∀ {l:List (List Key×V)} {m:List (List Key×Addr×Value)},KT H l m -> ∀ x∈m,(tupleKind (qAl P w)).is h x.1 x.2.1:=by
  intro l m q
  induction q with
  | nil=>intro x hx;exact nomatch hx
  | @cons p q ps qs hq t ih=>
   intro x hx
   rcases List.mem_cons.mp hx with e | hx
   ·subst e
    exact qFM ok (by rw [<- hq.1];exact hq.2.1)
   ·exact ih x hx
 exact all r x hx
theorem qKT {kvs:List (List Key×V)} (ok:HOk P w H h) (e:H a=some (.dT kvs)):kvs.length<=sizeLine/\(a==sysModules)=false/\
  ∃ xs,KT H kvs xs/\h.DictOfH (tupleKind (qAl P w)) a xs:=qJa ok (.inl e)
end
noncomputable def DGet (H:Hp) (a:Addr) (y:V) (r:Option V):Prop:=
 (∃ kvs k,Rd H a (.dK kvs)/\y=kV k/\r=valV kvs k)\/∃ kvs k b,Rd H a (.dT kvs)/\y=.ref b/\H b=some (.tup (k.map kV))/\r=valV kvs k
noncomputable def DPut (H:Hp) (a:Addr) (y v:V) (H':Hp):Prop:=
 (∃ kvs k,H a=some (.dK kvs)/\y=kV k/\kvs.length < sizeLine/\H'=upd H a (.dK (putK kvs k v)))\/
 ∃ kvs k b,H a=some (.dT kvs)/\y=.ref b/\H b=some (.tup (k.map kV))/\kvs.length < sizeLine/\H'=upd H a (.dT (putK kvs k v))
theorem DGet.k {H:Hp} {a:Addr} {kvs:List (Key×V)} {k:Key} (e:H a=some (.dK kvs)):DGet H a (kV k) (valV kvs k):=.inl ⟨kvs,k,.inl e,rfl,rfl⟩
theorem DGet.t {H:Hp} {a b:Addr} {kvs:List (List Key×V)} {k:List Key} (e:H a=some (.dT kvs)) (eb:H b=some (.tup (k.map kV))):DGet H a (.ref b) (valV kvs k):=.inr ⟨kvs,k,b,.inl e,rfl,eb,rfl⟩
theorem DPut.k {H:Hp} {a:Addr} {kvs:List (Key×V)} {k:Key} {v:V} (e:H a=some (.dK kvs)) (hl:kvs.length < sizeLine):DPut H a (kV k) v (upd H a (.dK (putK kvs k v))):=.inl ⟨kvs,k,e,rfl,hl,rfl⟩
theorem DPut.t {H:Hp} {a b:Addr} {kvs:List (List Key×V)} {k:List Key} {v:V} (e:H a=some (.dT kvs)) (eb:H b=some (.tup (k.map kV))) (hl:kvs.length < sizeLine):
  DPut H a (.ref b) v (upd H a (.dT (putK kvs k v))):=.inr ⟨kvs,k,b,e,rfl,eb,hl,rfl⟩
section
variable {X:Cx} {pins:List (Addr×Obj)} {σ:St} {H:Hp} {s:Shared} {a:Addr} {y v:V} {u r:Value} {o:Option V} {A:Around} {E:Value -> Shared -> Prop}
theorem d_in {Q:Value -> Shared -> Prop} (hu:A.units + 1 < cLine) (I:Inv X pins σ H s) (g:DGet H a y o) (ry:RelV y u) (h:∀ s',Inv X pins σ H s' -> Q (.bool o.isSome) s'):
  wpAny (model X.prog X.w) A (compareOp .In u (.ref a)) Q E s:=by
 rcases g with ⟨kvs,k,e,ey,l⟩ | ⟨kvs,k,b,e,ey,eb,l⟩
 ·subst ey
  obtain ⟨z,hd,vs,rel,dd⟩:=qIq I.hok e
  refine wpAny_in_of (qIO ry) hd dd.mapOf ?_
  rw [<- (rel.val k).isSome_eq,<- l]
  exact h _ (I.tok _)
 ·subst ey
  cases (show u=Value.ref b from ry)
  obtain ⟨z,hd,xs,rel,dd⟩:=qJa I.hok e
  refine wpAny_in_heap (tupleKind_room_in1 hu) (qFM I.hok eb) hd dd ?_
  have q:=(rel.val k).isSome_eq
  rw [Option.isSome_map] at q
  rw [<- q,<- l]
  exact h _ (I.tok _)
theorem qFa {h':Heap} {t':Nat} {ob:HO} (I:Inv X pins σ H s) (mu:Mut (H a)) (hs:Heap.SameBut a s.heap h') (he:∃ q,h'.get? a=some q) (new:ObjOk X.prog X.w (upd H a ob) h' a ob):
  Inv X pins σ (upd H a ob) { s with heap:=h',toks:=t' }:=
 I.write (x:=a) (e:=a) mu (.inl rfl) (fun b q hb z=>(hs.2 b hb).trans z) he new
theorem qIe {P:Program} {w:World} {H':Hp} {h':Heap} {kvs:List (Key×V)} {vs:List (Key×Value)} (z:kvs.length<=sizeLine) (hd:(a==sysModules)=false) (rel:KV kvs vs) (dd:h'.DictOf (qAl P w) a vs):
  ObjOk P w H' h' a (.dK kvs):=⟨z,hd,vs,rel,dd⟩
theorem d_setItem {H':Hp} {Q:Unit -> Shared -> Prop} (hu:A.units + 1 < cLine) (I:Inv X pins σ H s) (g:DPut H a y v H') (ry:RelV y u) (rv:RelV v r) (h:∀ s',Inv X pins σ H' s' -> Q () s'):
  wpAny (model X.prog X.w) A (setItem (.ref a) u r) Q E s:=by
 rcases g with ⟨kvs,k,e,ey,l,eH⟩ | ⟨kvs,k,b,e,ey,eb,l,eH⟩
 ·subst ey eH
  obtain ⟨z,hd,vs,rel,dd⟩:=qKa I.hok e
  have hz:vs.length<=sizeLine:=by rw [<- rel.length];exact z
  have hl:(putK kvs k v).length<=sizeLine:=by have:=qCd kvs k v;omega
  refine wpAny_setItem_pairs (hsz:=hz) (qIO ry) dd fun h' dd' hs=>h _ ?_
  have he:∃ q,h'.get? a=some q:=let ⟨q,_,_,hq,_⟩:=dd';⟨q,hq⟩
  exact qFa I (by rw [e];exact True.intro) hs he (qIe hl hd (rel.put k rv) dd')
 ·subst ey eH
  cases (show u=Value.ref b from ry)
  obtain ⟨z,hd,xs,rel,dd⟩:=qKT I.hok e
  have hz:xs.length<=sizeLine:=by rw [<- Paired.length rel];exact z
  have hl:(putK kvs k v).length<=sizeLine:=by have:=qCd kvs k v;omega
  refine wpAny_setItem_heap (hsz:=hz) (tupleKind_room_in1 hu) (qFM I.hok eb) dd fun h' dd' hs=>h _ ?_
  obtain ⟨q,es,ep,hq,h2,h3,h4,_,h5⟩:=dd'
  refine qFa I (by rw [e];exact True.intro) hs ⟨q,hq⟩ ⟨hl,hd,_,(rel.put k eb rv).keeps fun c ys ec=>?_,q,es,ep,hq,h2,h3,h4,h5⟩
  rw [qAH (qKZ ec e (fun z=>nomatch z))]
  exact ec
end
section
variable {X:Cx} {pins:List (Addr×Obj)} {σ:St} {H:Hp} {s:Shared} {a:Addr} {kvs:List (Key×V)} {k:Key} {u:Value} {A:Around} {E:Value -> Shared -> Prop}
end
section
variable {X:Cx} {o i e value:Expr} {pos pos' tpos:Pos} {td ty tv:TE}
end
section
variable {X:Cx} {pos:Pos}
end
structure M1 (X:Cx) (o:Expr) (m:Str) (apos:Pos) (e:Expr) (cpos:Pos):Prop where
 base:attributeBase o m X.env (eval o X.env)=eval o X.env
 few:((backTo cpos (starEach [e] X.env)).all (fun x=>!x.1)&&(backToKw cpos (keywordEach [] X.env)).all (fun x=>x.1.isSome)
  && decide (([e]:List Expr).length + ([]:List Keyword).length + (if ([]:List Keyword).isEmpty then 0 else 1) < 30))=true
 line:(apos.endLine==cpos.line)=true
 trees:backTo cpos (starEach [e] X.env)=[(false,eval e X.env)]
structure M2 (X:Cx) (o:Expr) (m:Str) (apos:Pos) (e f:Expr) (cpos:Pos):Prop where
 base:attributeBase o m X.env (eval o X.env)=eval o X.env
 few:((backTo cpos (starEach [e,f] X.env)).all (fun x=>!x.1)&&(backToKw cpos (keywordEach [] X.env)).all (fun x=>x.1.isSome)
  && decide (([e,f]:List Expr).length + ([]:List Keyword).length + (if ([]:List Keyword).isEmpty then 0 else 1) < 30))=true
 line:(apos.endLine==cpos.line)=true
 trees:backTo cpos (starEach [e,f] X.env)=[(false,eval e X.env),(false,eval f X.env)]
section
variable {X:Cx} {pins:List (Addr×Obj)} {σ:St} {H:Hp} {s:Shared} {a:Addr} {y d:V} {u r:Value} {o:Option V} {A:Around} {E:Value -> Shared -> Prop}
end
section
variable {X:Cx} {o e f:Expr} {apos cpos:Pos} {td ty tx:TE}
end
section
variable {X:Cx} {pins:List (Addr×Obj)} {σ:St} {H:Hp} {s:Shared} {a:Addr} {kvs:List (Key×V)} {A:Around} {E:Value -> Shared -> Prop}
end
section
variable {X:Cx} {pins:List (Addr×Obj)} {σ:St} {H:Hp} {s:Shared} {a:Addr} {y:V} {u:Value} {A:Around} {E:Value -> Shared -> Prop}
end
end L2
namespace Att
open PySem PySem.W PySem.Calls PyProof.Rows
section
variable {prog:Program} {w:World} {A:Around} {E:Value -> Shared -> Prop} {s:Shared} {K:Frag}
end
end Att
namespace L2
open PySem PySem.Spec PyProof.Rows
open PySem PySem.Spec PyProof.Rows
end L2
set_option maxHeartbeats 4000000
namespace L2
open PySem PySem.Spec PyProof.Rows
noncomputable def qFC (cells:List (Str×Addr)):List (Str×NameKind) -> List (Str×Addr) -> List (Str×Addr)
 | [],cs=>cs
 | (n,k)::r,cs=>qFC cells r (if k=.free then (match cells.lookup n with | some c=>(n,c)::cs | none=>cs) else cs)
theorem qBA {scope:Scope} {env:Env} (h:∀ y∈scope.names,y.2=.free -> ∃ c,env.cells.lookup y.1=some c):closureFor scope env=pure (qFC env.cells scope.names []):=by
 simp only [closureFor]
 generalize scope.names=names at h
 have key:∀ (names:List (Str×NameKind)) (cs:List (Str×Addr)),(∀ y∈names,y.2=.free -> ∃ c,env.cells.lookup y.1=some c) ->
   (forIn names cs fun x r=>if (x.2==NameKind.free)=true then do let c <- cellOf env x.1;pure (ForInStep.yield ((x.1,c)::r)) else pure (ForInStep.yield r))=(pure (qFC env.cells names cs):Sem _):=by
  intro names
  induction names with
  | nil=>intro cs _;rfl
  | cons y r ih=>
   intro cs hy
   obtain ⟨n,k⟩:=y
   rw [List.forIn_cons]
   by_cases hk:k=.free
   ·subst hk
    obtain ⟨c,hc⟩:=hy (n,.free) List.mem_cons_self rfl
    have hc':List.lookup n env.cells=some c:=hc
    have e:cellOf env n=pure c:=by unfold cellOf;rw [hc']
    simp only [beq_self_eq_true,if_true,e,pure_bind,qFC,hc']
    exact ih _ fun y hm=>hy y (List.mem_cons_of_mem _ hm)
   ·have hb:(k==NameKind.free)=false:=by simpa using hk
    simp only [hb,Bool.false_eq_true,if_false,pure_bind,qFC,if_neg hk]
    exact ih _ fun y hm=>hy y (List.mem_cons_of_mem _ hm)
 rw [key names [] h]
 rfl
theorem qHL {cells:List (Str×Addr)} {x:Str} {c:Addr}:∀ {names:List (Str×NameKind)} {cs:List (Str×Addr)},(qFC cells names cs).lookup x=some c -> cs.lookup x=some c\/cells.lookup x=some c
 | [],cs,h=>.inl h
 | (n,k)::r,cs,h=>by
  unfold qFC at h
  rcases qHL h with h2 | h2
  ·clear h
   by_cases hk:k=.free
   ·rw [if_pos hk] at h2
    cases e:cells.lookup n with
    | none=>rw [e] at h2;exact .inl h2
    | some c'=>
     rw [e] at h2
     simp only [List.lookup_cons] at h2
     cases hx:x==n with
     | true=>
      have hx':x=n:=by simpa using hx
      rw [hx] at h2
      subst hx'
      cases h2
      exact .inr e
     | false=>
      rw [hx] at h2
      exact .inl h2
   ·rw [if_neg hk] at h2
    exact .inl h2
  ·exact .inr h2
theorem qHN {cells:List (Str×Addr)} {x:Str} {c:Addr} (hc:cells.lookup x=some c):∀ {names:List (Str×NameKind)} {cs:List (Str×Addr)},((x,NameKind.free)∈names\/cs.lookup x=some c) -> (∀ c',cs.lookup x=some c' -> c'=c) -> (qFC cells names cs).lookup x=some c
 | [],cs,h,_=>by
  rcases h with h | h
  ·exact nomatch h
  ·exact h
 | (n,k)::r,cs,h,hu=>by
  unfold qFC
  refine qHN hc ?_ ?_
  ·rcases h with h | h
   ·rcases List.mem_cons.mp h with h | h
    ·cases h
     right
     rw [if_pos rfl,hc]
     simp
    ·exact .inl h
   ·right
    by_cases hk:k=.free
    ·rw [if_pos hk]
     cases e:cells.lookup n with
     | none=>exact h
     | some c'=>
      simp only [List.lookup_cons]
      cases hx:x==n with
      | true=>
       have hx':x=n:=by simpa using hx
       subst hx'
       rw [hc] at e
       cases e
       rfl
      | false=>exact h
    ·rw [if_neg hk];exact h
  ·intro c' h'
   by_cases hk:k=.free
   ·rw [if_pos hk] at h'
    cases e:cells.lookup n with
    | none=>rw [e] at h';exact hu c' h'
    | some c2=>
     rw [e] at h'
     simp only [List.lookup_cons] at h'
     cases hx:x==n with
     | true=>
      have hx':x=n:=by simpa using hx
      subst hx'
      rw [hx] at h'
      rw [hc] at e
      cases e
      cases h'
      rfl
     | false=>
      rw [hx] at h'
      exact hu c' h'
   ·rw [if_neg hk] at h'
    exact hu c' h'
theorem qB7 {env:Env}:∀ {names:List (Str×NameKind)} {x:Str},names.lookup x=some .free ->
  (names.map fun (n,k)=>if (k==NameKind.free&&env.scope.kind==.function&&env.kindOf n==some .cell) then (n,NameKind.cell) else (n,k)).lookup x=some .cell\/
  (names.map fun (n,k)=>if (k==NameKind.free&&env.scope.kind==.function&&env.kindOf n==some .cell) then (n,NameKind.cell) else (n,k)).lookup x=some .free
 | [],_,h=>by simp at h
 | (n,k)::r,x,h=>by
  have ih:=@qB7 env r x
  simp only [List.map_cons]
  cases hx:x==n with
  | true=>
   simp only [List.lookup_cons,hx] at h
   cases h
   by_cases hc:(NameKind.free==NameKind.free&&env.scope.kind==.function&&env.kindOf n==some .cell)=true
   ·rw [if_pos hc];left;simp [List.lookup_cons,hx]
   ·rw [if_neg hc];right;simp [List.lookup_cons,hx]
  | false=>
   simp only [List.lookup_cons,hx] at h
   by_cases hc:(k==NameKind.free&&env.scope.kind==.function&&env.kindOf n==some .cell)=true
   ·rw [if_pos hc];simp only [List.lookup_cons,hx];exact ih h
   ·rw [if_neg hc];simp only [List.lookup_cons,hx];exact ih h
theorem qBN {env:Env}:∀ {names:List (Str×NameKind)} {x:Str},
  ((names.map fun (n,k)=>if (k==NameKind.free&&env.scope.kind==.function&&env.kindOf n==some .cell) then (n,NameKind.cell) else (n,k)).lookup x=some .cell\/
  (names.map fun (n,k)=>if (k==NameKind.free&&env.scope.kind==.function&&env.kindOf n==some .cell) then (n,NameKind.cell) else (n,k)).lookup x=some .free) -> names.lookup x=some .free\/names.lookup x=some .cell
 | [],_,h=>by simp at h
 | (n,k)::r,x,h=>by
  have ih:=@qBN env r x
  simp only [List.map_cons] at h
  cases hx:x==n with
  | true=>
   simp only [List.lookup_cons,hx]
   by_cases hc:(k==NameKind.free&&env.scope.kind==.function&&env.kindOf n==some .cell)=true
   ·rw [if_pos hc] at h
    have hk:k=.free:=by
     cases k<;>first | rfl | (simp at hc)
    rw [hk];exact .inl rfl
   ·rw [if_neg hc] at h
    simp only [List.lookup_cons,hx] at h
    exact h.symm
  | false=>
   simp only [List.lookup_cons,hx]
   by_cases hc:(k==NameKind.free&&env.scope.kind==.function&&env.kindOf n==some .cell)=true
   ·rw [if_pos hc] at h;simp only [List.lookup_cons,hx] at h;exact ih h
   ·rw [if_neg hc] at h;simp only [List.lookup_cons,hx] at h;exact ih h
theorem qBZ:∀ (names:List (Str×NameKind)) (a:Nat) (acc:List (Str×Addr)),cellsFrom a names acc=cellsFrom a names []++acc
 | [],a,acc=>rfl
 | (n,k)::r,a,acc=>by
  unfold cellsFrom
  split
  ·rw [qBZ r (a + 1) ((n,a)::acc),qBZ r (a + 1) [(n,a)],List.append_assoc];rfl
  ·exact qBZ r a acc
theorem qDK {x:Str} {c:Addr}:∀ {names:List (Str×NameKind)} {a:Nat},(x,c)∈cellsFrom a names [] -> (x,NameKind.cell)∈names
 | [],a,h=>nomatch h
 | (n,k)::r,a,h=>by
  unfold cellsFrom at h
  split at h
  ·rename_i hk
   rw [qBZ,List.mem_append] at h
   rcases h with h | h
   ·exact List.mem_cons_of_mem _ (qDK h)
   ·have:(x,c)=(n,a):=List.mem_singleton.mp h
    cases this
    rw [beq_iff_eq.mp hk];exact List.mem_cons_self
  ·exact List.mem_cons_of_mem _ (qDK h)
theorem qEm {x:Str}:∀ {names:List (Str×NameKind)} {a:Nat},(x,NameKind.cell)∈names -> ∃ c,(cellsFrom a names []).lookup x=some c
 | [],a,h=>nomatch h
 | (n,k)::r,a,h=>by
  unfold cellsFrom
  rcases List.mem_cons.mp h with h | h
  ·cases h
   rw [if_pos (by decide),qBZ,List.lookup_append]
   cases (cellsFrom (a + 1) r []).lookup x with
   | none=>exact ⟨a,by simp⟩
   | some c=>exact ⟨c,rfl⟩
  ·split
   ·obtain ⟨c,hc⟩:=qEm (a:=a + 1) h
    exact ⟨c,by rw [qBZ,List.lookup_append,hc];rfl⟩
   ·exact qEm h
noncomputable def qBK (X:Cx) (scope:Scope) (C:Addr):List (Str×Addr):=cellsFrom (C + 1) scope.names (qFC X.env.cells scope.names [])
noncomputable def cxComp (X:Cx) (scope:Scope) (C:Addr) (fp:List Addr) (s₂:Shared) (H₂:Hp) (N:List Str):Cx:=
 { X with N:=N,s₀:=s₂,H₀:=H₂,env:=compEnvC scope (qBK X scope C) C X.env,outer:=X.stack,ex:=fp,fn:=fun x=>decide (scope.names.lookup x=some .cell),pn:=[],xe:=fun _ _=>False }
noncomputable def inner (src:List (Option Nat)) (σ:St):St:=src.map fun o=>match o with | none=>none | some j=>(σ[j]?).join
structure CompScope (X:Cx) (scope:Scope) (N:List Str) (src:List (Option Nat)):Prop where
 kind:scope.kind=.function
 uniq:∀ y∈scope.names,scope.names.lookup y.1=some y.2
 frees:∀ y∈scope.names,y.2=NameKind.free -> X.env.kindOf y.1=some .cell\/X.env.kindOf y.1=some .free
 nd:N.Nodup
 len:src.length=N.length
 from_:∀ (i:Nat) x j,N[i]?=some x -> src[i]?=some (some j) -> X.N[j]?=some x/\scope.names.lookup x=some .free
theorem qAa {x:Str} {k:NameKind}:∀ {names:List (Str×NameKind)},names.lookup x=some k -> (x,k)∈names
 | [],h=>by simp at h
 | (n,k')::r,h=>by
  cases hx:x==n with
  | true=>
   simp only [List.lookup_cons,hx] at h
   have hx':x=n:=by simpa using hx
   cases h
   subst hx'
   exact List.mem_cons_self
  | false=>
   simp only [List.lookup_cons,hx] at h
   exact List.mem_cons_of_mem _ (qAa h)
section
variable {X:Cx} {pins:List (Addr×Obj)} {σ:St} {H₂:Hp} {s₂:Shared} {scope:Scope} {N:List Str} {src:List (Option Nat)} {fp:List Addr}
theorem CompScope.cells (S:CompScope X scope N src) (ok:X.Ok):∀ y∈scope.names,y.2=.free -> ∃ c,X.env.cells.lookup y.1=some c:=fun y hy hk=>ok.has y.1 (S.frees y hy hk)
theorem CompScope.names (S:CompScope X scope N src):∀ y∈scope.names,y.2=NameKind.local -> scope.names.lookup y.1=some .local:=fun y hy hk=>by rw [<- hk];exact S.uniq y hy
theorem qAk {C:Addr} {h₁:Heap} (ow:CellsOk h₁ (C + 1) (cellsFrom (C + 1) scope.names [])) {x:Str} {c:Addr} (h:(qBK X scope C).lookup x=some c):
  ((x,c)∈cellsFrom (C + 1) scope.names []/\(x,NameKind.cell)∈scope.names/\h₁.IsCell c none/\C < c)\/X.env.cells.lookup x=some c:=by
 unfold qBK at h
 rw [qBZ,List.lookup_append] at h
 cases e:(cellsFrom (C + 1) scope.names []).lookup x with
 | some c'=>
  rw [e] at h
  cases h
  have m:=PySem.mem_of_lookup e
  exact .inl ⟨m,qDK m,(ow.empty x c m).1,(ow.empty x c m).2⟩
 | none=>
  rw [e] at h
  rcases qHL (show (qFC X.env.cells scope.names []).lookup x=some c by simpa using h) with h | h
  ·simp at h
  ·exact .inr h
theorem qC0 (S:CompScope X scope N src) {C:Addr} {x:Str} {c:Addr} (hf:scope.names.lookup x=some .free) (h:X.env.cells.lookup x=some c):(qBK X scope C).lookup x=some c:=by
 unfold qBK
 rw [qBZ,List.lookup_append]
 have:(cellsFrom (C + 1) scope.names []).lookup x=none:=by
  cases e:(cellsFrom (C + 1) scope.names []).lookup x with
  | none=>rfl
  | some c'=>
   have:=S.uniq _ (qDK (PySem.mem_of_lookup e))
   rw [hf] at this;cases this
 rw [this,qHN h (.inl (qAa hf)) (by intro c' h';simp at h')];rfl
theorem qIP (S:CompScope X scope N src) (I:Inv X pins σ H₂ s₂) (f2:∀ b∈fp,qDP X pins H₂ b) (ob:∀ b∈fp,∃ o,s₂.heap.get? b=some o/\∀ v,o.data≠.cell v) {C:Addr} (hC:s₂.heap.objs.size<=C) {h₁:Heap} (ow:CellsOk h₁ (C + 1) (cellsFrom (C + 1) scope.names [])):
  (cxComp X scope C fp s₂ H₂ N).Ok:=by
 have lt:∀ x c,X.env.cells.lookup x=some c -> c < s₂.heap.objs.size:=fun x c h=>let ⟨v,q⟩:=I.cell x c h;q.lt
 refine ⟨I.ok.mod,S.kind,I.ok.glob,I.ok.blt,hC,fun x y c h1 h2=>?_,fun x hx=>?_,fun x c hf h=>?_,I.ok.hd,I.ok.frames,.inl rfl,fun b hb=>⟨?_,fun x c h=>?_⟩,fun b o e=>I.bs b o e,?_,fun b o e hb=>?_,fun b hb=>?_,I.stack,I.stkFree⟩
 ·rcases qAk ow h1 with ⟨m1,_,_,g1⟩ | g1<;>rcases qAk ow h2 with ⟨m2,_,_,g2⟩ | g2
  ·exact PySem.name_of_addr ow.apart m1 m2
  ·exact absurd (Nat.lt_trans (Nat.lt_of_lt_of_le (lt y c g2) hC) g1) (Nat.lt_irrefl _)
  ·exact absurd (Nat.lt_trans (Nat.lt_of_lt_of_le (lt x c g1) hC) g2) (Nat.lt_irrefl _)
  ·exact I.ok.inj x y c g1 g2
 ·rcases qBN hx with hf | hf
  ·obtain ⟨c,hc⟩:=S.cells I.ok (x,.free) (qAa hf) rfl
   exact ⟨c,qC0 S hf hc⟩
  ·obtain ⟨c,hc⟩:=qEm (a:=C + 1) (qAa hf)
   exact ⟨c,by show (qBK X scope C).lookup x=_;unfold qBK;rw [qBZ,List.lookup_append,hc];rfl⟩
 ·have hf':scope.names.lookup x=some .cell:=of_decide_eq_true hf
  rcases qAk ow h with ⟨_,_,_,g⟩ | g
  ·exact Nat.le_of_lt (Nat.lt_of_le_of_lt hC g)
  ·unfold cxComp at h
   have h:(qBK X scope C).lookup x=some c:=h
   obtain ⟨c',hc'⟩:=qEm (a:=C + 1) (qAa hf')
   have e:(qBK X scope C).lookup x=some c':=by unfold qBK;rw [qBZ,List.lookup_append,hc'];rfl
   rw [e] at h;cases h
   have:=(ow.empty x c (PySem.mem_of_lookup hc')).2
   exact Nat.le_trans hC (Nat.le_of_succ_le this)
 ·obtain ⟨o,e,_⟩:=ob b hb
  exact Nat.ne_of_lt (Nat.lt_of_lt_of_le (Heap.lt_size e) hC)
 ·rcases qAk ow h with ⟨_,_,_,g⟩ | g
  ·obtain ⟨o,e,_⟩:=ob b hb
   exact Nat.ne_of_gt (Nat.lt_trans (Nat.lt_of_lt_of_le (Heap.lt_size e) hC) g)
  ·exact (f2 b hb).2.2.2.2.1 x c g
 ·exact Nat.le_trans I.ok.bsz I.sz
 ·rcases (f2 b hb).2.2.2.1 with z | z
  ·exact I.ok.noex b o e z
  ·exact absurd (Nat.lt_of_lt_of_le (Heap.lt_size e) (Nat.le_trans I.ok.bsz z)) (Nat.lt_irrefl _)
 ·intro hz
  rcases List.mem_cons.mp (I.stkSub b hz) with e | e
  ·exact (f2 b hb).2.1 e
  ·exact (f2 b hb).2.2.1 e
theorem qDH (S:CompScope X scope N src) (I:Inv X pins σ H₂ s₂) (f2:∀ b∈fp,qDP X pins H₂ b) (ob:∀ b∈fp,∃ o,s₂.heap.get? b=some o/\∀ v,o.data≠.cell v) {C:Addr} {h₁:Heap} {m:Str -> Option Value} {tk n:Nat}
  (hC:s₂.heap.objs.size < C) (keep:∀ b o,s₂.heap.get? b=some o -> h₁.get? b=some o) (hD:h₁.get? s₂.heap.objs.size=some { cls:=.type "list",data:=.seq #[] n }) (hn:h₁.Ns C m) (ow:CellsOk h₁ (C + 1) (cellsFrom (C + 1) scope.names [])):
  Inv (cxComp X scope C fp s₂ H₂ N) [] (inner src σ) (upd H₂ s₂.heap.objs.size (.lst [])) { s₂ with heap:=h₁,toks:=tk }:=by
 have lt:∀ x c,X.env.cells.lookup x=some c -> c < s₂.heap.objs.size:=fun x c h=>let ⟨v,q⟩:=I.cell x c h;q.lt
 have hfr:H₂ s₂.heap.objs.size=none:=I.hok.fresh (Nat.le_refl _)
 refine ⟨qIP S I f2 ob (Nat.le_of_lt hC) ow,rfl,I.bare,Un.laid keep (Nat.le_refl _) hfr,⟨m,hn,fun i x v e1 e2 e3=>?_⟩,fun x c h=>?_,?_,fun x c h=>?_,fun p hp=>absurd (show p∈([]:List (Addr×Obj)) from hp) (by simp),I.hok.laid keep (Nat.le_refl _) ⟨by simp,[],n,.nil,hD⟩,?_⟩
 ·have e2':(inner src σ)[i]?=some (some v):=e2
  unfold inner at e2'
  rw [List.getElem?_map] at e2'
  cases q:src[i]? with
  | none=>rw [q] at e2';cases e2'
  | some o=>
   rw [q] at e2'
   cases o with
   | none=>cases e2'
   | some j=>
    have ej:(σ[j]?).join=some v:=Option.some.inj e2'
    have ej':σ[j]?=some (some v):=by
     cases z:σ[j]? with
     | none=>rw [z] at ej;cases ej
     | some w=>rw [z] at ej;exact congrArg some ej
    obtain ⟨n1,n2⟩:=S.from_ i x j e1 q
    obtain ⟨m0,hn0,hl⟩:=I.loc
    have hfr':=S.frees (x,.free) (qAa n2) rfl
    obtain ⟨u,r,l⟩:=hl j x v n1 ej' (by rcases hfr' with z | z;exact .inr (.inl z);exact .inr (.inr z))
    refine ⟨u,r,.inr ⟨qB7 n2,?_⟩⟩
    rcases l with ⟨k,_⟩ | ⟨_,c,hc,o,ho,hd⟩
    ·have k':X.env.kindOf x=some .local:=k
     rcases hfr' with z | z
     ·have z':X.env.kindOf x=some .cell:=z
      rw [k'] at z';cases z'
     ·have z':X.env.kindOf x=some .free:=z
      rw [k'] at z';cases z'
    ·exact ⟨c,qC0 S n2 hc,o,keep c o ho,hd⟩
 ·rcases qAk ow h with ⟨_,_,g,_⟩ | g
  ·exact ⟨none,g⟩
  ·obtain ⟨v,o,ho,hd⟩:=I.cell x c g
   exact ⟨v,o,keep c o ho,hd⟩
 ·show upd H₂ s₂.heap.objs.size (.lst []) C=none
  rw [qAH (Nat.ne_of_gt hC)]
  exact I.hok.fresh (Nat.le_of_lt hC)
 ·rcases qAk ow h with ⟨_,_,_,g⟩ | g
  ·rw [qAH (Nat.ne_of_gt (Nat.lt_trans hC g))]
   exact I.hok.fresh (Nat.le_of_lt (Nat.lt_trans hC g))
  ·rw [qAH (Nat.ne_of_lt (lt x c g))]
   exact I.freeC x c g
 ·show (inner src σ).length=N.length
  unfold inner
  rw [List.length_map,S.len]
theorem qDc (I:Inv X pins σ H₂ s₂) (f2:∀ b∈fp,qDP X pins H₂ b) {C:Addr} {pins':List (Addr×Obj)} {σ':St} {H':Hp} {s':Shared} {h':Heap} (hC:s₂.heap.objs.size<=C) (J:Inv (cxComp X scope C fp s₂ H₂ N) pins' σ' H' s')
  (kp:∀ b o,b≠C -> s'.heap.get? b=some o -> h'.get? b=some o):Inv X pins σ H' { s' with heap:=h' }:=by
 have neC:∀ b o,s₂.heap.get? b=some o -> b≠C:=fun b o e=>Nat.ne_of_lt (Nat.lt_of_lt_of_le (Heap.lt_size e) hC)
 have B:=J.base
 refine I.call' (s':={ s' with heap:=h' }) (ch:=fp) J.os ⟨fun b o e n hb hx=>kp b o (neC b o e) (B.keep b o e n hb hx),fun b o e n hb hx=>?_,B.free,fun b o e hx=>?_,B.tups,B.frzs,B.tbls⟩ (fun a o e=>?_) J.bare fun b hb=>⟨(f2 b hb).2.2.2.1,(f2 b hb).2.1,(f2 b hb).2.2.2.2⟩
 ·obtain ⟨sl,q⟩:=B.slot b o e n hb hx
  exact ⟨sl,kp b _ (neC b o e) q⟩
 ·obtain ⟨o',q⟩:=B.there b o e hx
  exact ⟨o',kp b o' (neC b o e) q⟩
 ·have nC:H' C=none:=J.free
  have ne:∀ b u,H' b=some u -> b≠C:=fun b u q z=>by rw [z,nC] at q;cases q
  refine (J.hok a o e).stay (fun c v hc q=>kp c v ?_ q) (fun _ q=>q) fun _ _ q=>q
  rcases hc with z | z
  ·rw [z];exact ne a o e
  ·exact ne c _ z
end
noncomputable def PTs (X:Cx) (ifs:List Expr) (t:TT):Prop:=
 ∀ (pins:List (Addr×Obj)) (s:Shared) (σ:St) (H:Hp) (Q:Bool -> Hp -> Prop),Inv X pins σ H s -> t σ H Q ->
  wpAny (model X.prog X.w) X.A (forIn ifs true fun c r=>if r=true then do let ok <- isTrue c X.env (eval c X.env);pure (ForInStep.yield ok) else pure (ForInStep.yield r)) (TP X pins σ Q) X.xe s
theorem pts_nil {X:Cx}:PTs X [] (fun _ H Q=>Q true H):=fun pins s σ H Q I h=>wpAny_pure ⟨H,I,h⟩
theorem pts_one {X:Cx} {c:Expr} {t:TT} (hc:PT X c t):PTs X [c] t:=by
 intro pins s σ H Q I h
 rw [List.forIn_cons]
 simp only [if_true]
 refine wpAny_bind (wpAny_bind (thn (hc pins s σ H Q I h) fun b s1 q=>?_))
 exact wpAny_pure (wpAny_pure q)
noncomputable def tComp (wi:TI) (src:List (Option Nat)) (g:TG) (tc:TT) (te:TE):TE:=fun σ H Q=>wi σ H fun J H1=>∀ D,H1 D=none ->
 ∃ W:Nat -> Nat -> List V -> St -> Hp -> Prop,(∃ m,W 0 m [] (inner src σ) (upd H1 D (.lst [])))/\∀ i m ys σ' H',W i m ys σ' H' -> H' D=some (.lst ys) ->
  (J.stop i H'/\Q (.ref D) H')\/
  (J.go i H'/\∀ x H2,J.yld i H' x H2 -> g x σ' H2 fun σ3 H3=>tc σ3 H3 fun b H4=>
   if b=true then te σ3 H4 fun y H5=>H5 D=some (.lst ys)/\ys.length < sizeLine/\∃ m',m' < m/\W (i + 1) m' (ys++[y]) σ3 (upd H5 D (.lst (ys++[y])))
   else H4 D=some (.lst ys)/\∃ m',m' < m/\W (i + 1) m' ys σ3 H4)
section
variable {X:Cx} {pins:List (Addr×Obj)} {σ:St} {H₂:Hp} {s₂:Shared} {scope:Scope} {N:List Str} {src:List (Option Nat)}
theorem qD5 {M:Model} {A:Around} {E:Value -> Shared -> Prop} {s:Shared} {scope:Scope} {globals:Addr} {cl:List (Str×Addr)} {qual:Str} {env:Env} {Q:Env -> Shared -> Prop}
  (h:Q (newEnv scope s.heap.objs.size globals (cellsFrom (s.heap.objs.size + 1) scope.names cl) qual none .none (some env) builtinsNs) { s with heap:=pushCells (s.heap.push { cls:=.type "dict",data:=.dict #[] }) scope.names }):
  wpAny M A (newFunctionEnv scope globals cl [] qual none .none (some env)) Q E s:=by
 simp only [newFunctionEnv,Option.isSome_some,if_true]
 refine wpAny_bind (wpAny_alloc ?_)
 refine wpAny_bind (wpAny_layCells _ (fun name kind cells=>by cases hkc:kind==NameKind.cell<;>simp [hkc]) _ _ _ _ ?_)
 rw [show ({ s with heap:=s.heap.push { cls:=.type "dict",data:=.dict #[] } }:Shared).heap.objs.size=s.heap.objs.size + 1 from Heap.size_push ..]
 refine wpAny_bind ?_
 rw [List.forIn_nil]
 exact wpAny_pure (wpAny_pure h)
theorem qEe {elt tg iter:Expr} {ifs:List Expr} {pos:Pos} {g:TG} {tc:TT} {te:TE} {it:Addr} {fp:List Addr} {tn:Nat -> Heap -> Prop} {J:It} {Q:VK} {E:Value -> Shared -> Prop} {RR:Value -> Addr -> Result -> Shared -> Prop}
  (hc:X.calm=true) (S:CompScope X scope N src) (I2:Inv X pins σ H₂ s₂) (T:qDu X.prog X.w X.K tg J fp it tn) (st2:tn 0 s₂.heap) (f2:∀ b∈fp,qDP X pins H₂ b)
  (hg:∀ C fp s H,PG (cxComp X scope C fp s H N) tg g) (ht:∀ C fp s H,PTs (cxComp X scope C fp s H N) ifs tc) (he:∀ C fp s H,PE (cxComp X scope C fp s H N) elt te)
  (h:∀ D,H₂ D=none -> ∃ W:Nat -> Nat -> List V -> St -> Hp -> Prop,(∃ m,W 0 m [] (inner src σ) (upd H₂ D (.lst [])))/\∀ i m ys σ' H',W i m ys σ' H' -> H' D=some (.lst ys) ->
   (J.stop i H'/\Q (.ref D) H')\/
   (J.go i H'/\∀ x H2,J.yld i H' x H2 -> g x σ' H2 fun σ3 H3=>tc σ3 H3 fun b H4=>
    if b=true then te σ3 H4 fun y H5=>H5 D=some (.lst ys)/\ys.length < sizeLine/\∃ m',m' < m/\W (i + 1) m' (ys++[y]) σ3 (upd H5 D (.lst (ys++[y])))
    else H4 D=some (.lst ys)/\∃ m',m' < m/\W (i + 1) m' ys σ3 H4))
  (hRR:∀ (D C:Addr) (σ':St) (H':Hp) (s':Shared),s₂.heap.objs.size<=C -> Inv (cxComp X scope C fp s₂ H₂ N) [] σ' H' s' -> Q (.ref D) H' -> RR (.ref D) C (.ok .next) s'):
  wpAny (model X.prog X.w) X.A (newList []) (fun acc s₃=>wpAny (model X.prog X.w) X.A (newFunctionEnv scope X.env.globals (qFC X.env.cells scope.names []) [] X.env.qual none .none (some X.env)) (fun cenv s₄=>
   codeAny (model X.prog X.w) X.A (.compStart (.ListComp elt [⟨tg,iter,ifs,0⟩] scope pos) 0 (.ref it) acc { cenv with scope:=relabel scope X.env }) (RR acc cenv.locals) s₄) E s₃) E s₂:=by
 refine wpAny_newObj_type (qD5 ?_)
 dsimp only
 generalize hH2:s₂.heap.push { cls:=.type "list",dict:=none,data:=.seq ([]:List Value).toArray }=P2
 have hC:P2.objs.size=s₂.heap.objs.size + 1:=by rw [<- hH2,Heap.size_push]
 have ow:=cellsFrom_ok scope.names (P2.push { cls:=.type "dict",data:=.dict #[] }) (P2.objs.size + 1) [] ⟨fun _ _ hm=>(nomatch hm),List.Pairwise.nil⟩ (by rw [Heap.size_push];exact Nat.le_refl _)
 rw [Heap.size_push] at ow
 generalize hh1:pushCells (P2.push { cls:=.type "dict",data:=.dict #[] }) scope.names=h₁ at ow ⊢
 have kp:∀ b o,P2.get? b=some o -> h₁.get? b=some o:=fun b o e=>hh1 ▸ pushCells_keeps _ _ b o (Heap.get?_push_of_some _ e)
 have hns₁:h₁.Ns P2.objs.size (fun _=>none):=hh1 ▸ (Heap.Ns.new P2 (.type "dict")).keeps (pushCells_keeps _ _)
 have old:∀ b o,s₂.heap.get? b=some o -> h₁.get? b=some o:=fun b o e=>kp b o (hH2 ▸ Heap.get?_push_of_some _ e)
 have hacc:h₁.get? s₂.heap.objs.size=some { cls:=.type "list",data:=.seq #[] }:=kp _ _ (hH2 ▸ Heap.get?_push_size _ rfl)
 have st1:tn 0 h₁:=T.keep _ _ _ st2 fun b _ o e=>old b o e
 have ob:=T.obj _ _ st2
 have lt:s₂.heap.objs.size < P2.objs.size:=by rw [hC];exact Nat.lt_succ_self _
 have I3:=qDH (tk:=s₂.toks) S I2 f2 ob lt old hacc hns₁ ow
 obtain ⟨W,⟨m0,w0⟩,step⟩:=h s₂.heap.objs.size I2.fresh
 have fpn:∀ b∈fp,b≠s₂.heap.objs.size:=fun b hb=>by
  obtain ⟨o,e,_⟩:=ob b hb
  exact Nat.ne_of_lt (Heap.lt_size e)
 have fok:∀ {pins':List (Addr×Obj)} {H':Hp},(∀ b∈fp,H' b=none) -> (∀ p∈pins',p.1∉fp) -> ∀ b∈fp,qDP (cxComp X scope P2.objs.size fp s₂ H₂ N) pins' H' b:=fun {pins' H'} hn hp b hb=>by
  have okc:=I3.ok
  exact ⟨hn b hb,(okc.exf b hb).1,okc.exfs b hb,.inl hb,(okc.exf b hb).2,fun p hp' z=>hp p (by simpa [cxComp] using hp') (z ▸ hb)⟩
 have qJJ:∀ s₃:Shared,s₃={ s₂ with heap:=h₁,toks:=s₂.toks } ->
   codeAny (model X.prog X.w) X.A (.compLoop (.ListComp elt [⟨tg,iter,ifs,0⟩] scope pos) 0 (.ref it) (.ref s₂.heap.objs.size) (compEnvC scope (qBK X scope P2.objs.size) P2.objs.size X.env))
    (RR (.ref s₂.heap.objs.size) P2.objs.size) s₃:=by
  rintro s₃ rfl
  refine codeAny_loop rfl (fun n s'=>∃ i ys σ' H',Inv (cxComp X scope P2.objs.size fp s₂ H₂ N) [] σ' H' s'/\tn i s'.heap/\(∀ b∈fp,H' b=none)/\H' s₂.heap.objs.size=some (.lst ys)/\W i n ys σ' H') (fun n s' hI=>?_) m0
   ⟨0,[],inner src σ,_,I3,st1,fun b hb=>by rw [qAH (fpn b hb)];exact (f2 b hb).1,qAI,w0⟩
  obtain ⟨i,ys,σ3,H3,J3,st3,fr3,hD3,w3⟩:=hI
  show wpAny _ X.A ((compTurn (.ListComp elt [⟨tg,iter,ifs,0⟩] scope pos) 0 (.ref it) (.ref s₂.heap.objs.size) _).onRaise (fun x=>do noteFrame x _;theTreesLotGoes x)) _ _ s'
  refine wpAny_noted ?_
  rw [compTurn_list]
  have never:∀ {α:Type} {t:Sem α} {Q1:α -> Shared -> Prop} {E1:Value -> Shared -> Prop} {s1:Shared},wpAny (model X.prog X.w) X.A t Q1 (fun _ _=>False) s1 -> wpAny (model X.prog X.w) X.A t Q1 E1 s1:=fun h=>wpAny_mono h (fun _ _ q=>q) fun _ _ f=>f.elim
  refine wpAny_bind (wpAny_standAt (wpAny_bind ?_))
  rcases step i n ys σ3 H3 w3 hD3 with ⟨stop,qn⟩ | ⟨go,qHw⟩
  ·refine never (thn (T.done (cxComp X scope P2.objs.size fp s₂ H₂ N) rfl rfl rfl hc i [] s' σ3 H3 _ J3 (fok fr3 (by simp)) st3 stop) fun r s4 ⟨hr,I4⟩=>?_)
   subst hr
   exact wpAny_pure (hRR _ _ σ3 H3 s4 (Nat.le_of_lt lt) I4 qn)
  ·refine never (thn (T.item (cxComp X scope P2.objs.size fp s₂ H₂ N) rfl rfl rfl hc i [] s' σ3 H3 _ J3 (fok fr3 (by simp)) st3 go) fun r s4 ⟨u,hr,h4⟩=>?_)
   subst hr
   refine wpAny_bind (never (thn h4 fun _ s5 ⟨x,H5,I5,r5,y5,st5,fr5⟩=>?_))
   have I5':=I5.pinned (fok fr5 (by simp)) (T.obj _ _ st5)
   have kept:∀ {σ7:St} {H7:Hp} {s7:Shared},Inv (cxComp X scope P2.objs.size fp s₂ H₂ N) ([]++qDt fp s5.heap) σ7 H7 s7 -> Inv (cxComp X scope P2.objs.size fp s₂ H₂ N) [] σ7 H7 s7/\tn (i + 1) s7.heap/\∀ b∈fp,H7 b=none:=fun {σ7 H7 s7} I7=>by
    refine ⟨I7.unpinned,T.keep _ _ _ st5 fun b hb o e=>(I7.pin (b,o) (List.mem_append_right _ (List.mem_append_right _ (qBQ hb e)))).1,fun b hb=>?_⟩
    obtain ⟨o,e,d⟩:=T.obj _ _ st5 b hb
    exact (I7.pin (b,o) (List.mem_append_right _ (List.mem_append_right _ (qBQ hb e)))).2.1
   refine wpAny_bind (never (thn (hg _ _ _ _ _ s5 σ3 H5 x u _ I5' r5 (qHw x H5 y5)) fun _ s6 ⟨σ6,H6,I6,q6⟩=>?_))
   refine wpAny_bind (never (thn (ht _ _ _ _ _ s6 σ6 H6 _ I6 q6) fun b s7 ⟨H7,I7,q7⟩=>?_))
   cases b with
   | false=>
    rw [if_neg (by decide)] at q7
    obtain ⟨hD7,m',hm,w7⟩:=q7
    obtain ⟨I7',st7,fr7⟩:=kept I7
    exact wpAny_pure ⟨rfl,m',hm,i + 1,ys,σ6,H7,I7',st7,fr7,hD7,w7⟩
   | true=>
    rw [if_pos rfl] at q7
    refine wpAny_bind (wpAny_bind (never (thn (he _ _ _ _ _ s7 σ6 H7 _ I7 q7) fun yv s8 ⟨y,H8,I8,r8,hD8,hz,m',hm,w8⟩=>?_)))
    refine wpAny_bind (never (thn (mt_append (X:=cxComp X scope P2.objs.size fp s₂ H₂ N) _ s8 σ6 H8 (.ref s₂.heap.objs.size) [y] _ [yv] (fun v H'=>v=.non/\H'=upd H8 s₂.heap.objs.size (.lst (ys++[y]))) I8 rfl (.cons r8 .nil) ⟨_,ys,y,rfl,rfl,hD8,hz,rfl,rfl⟩) fun _ s9 ⟨v9,H9,I9,_,_,e9⟩=>?_))
    subst e9
    obtain ⟨I9',st9,fr9⟩:=kept I9
    exact wpAny_pure (wpAny_pure ⟨rfl,m',hm,i + 1,_,σ6,_,I9',st9,fr9,qAI,w8⟩)
 exact codeAny_compStart_list (qJJ _ rfl) (T.self _ 0 _ _ _ st1 (qJJ _ rfl))
end
end L2
namespace L2
open PySem PySem.Spec PyProof.Rows
section
variable {X:Cx} {scope:Scope} {N:List Str} {src:List (Option Nat)} {elt tg iter:Expr} {ifs:List Expr} {pos:Pos} {wi:TI} {g:TG} {tc:TT} {te:TE}
theorem pe_comp (hc:X.calm=true) (hi:PI X tg iter wi) (S:CompScope X scope N src)
  (hg:∀ C fp s H,PG (cxComp X scope C fp s H N) tg g) (ht:∀ C fp s H,PTs (cxComp X scope C fp s H N) ifs tc) (he:∀ C fp s H,PE (cxComp X scope C fp s H N) elt te)
  (hs:∀ x,foldedSetIterable iter X.env x=pure x:=by intro _;rfl):PE X (.ListComp elt [⟨tg,iter,ifs,0⟩] scope pos) (tComp wi src g tc te):=by
 intro pins s σ H Q I h
 rw [eval_ListComp]
 refine wpAny_comprehension_free (use:=none) rfl hs (qBA (S.cells I.ok)) S.kind S.names (thn (hi pins s σ H _ I h) fun v s1 h1=>thn h1 fun itv s2 h2=>?_)
 obtain ⟨it,fp,tn,J,H2,rfl,I2,T,st2,f2,hW⟩:=h2
 refine qEe (Q:=Q) (RR:=fun acc C=>compPost (model X.prog X.w) X.A X.xe none (EP X pins σ Q) acc C) hc S I2 T st2 f2 hg ht he hW ?_
 intro D C σ' H' s' hC J q
 obtain ⟨m,hn,_⟩:=id J.loc
 exact ⟨m,hn,fun h' hs'=>⟨.ref D,H',qDc I2 f2 hC J (fun b o hb e=>hs'.extBut b o hb e),rfl,q⟩⟩
theorem ps_setcomp {i:Nat} {x:Str} {pos' spos:Pos} (hc:X.calm=true) (hi:PI X tg iter wi) (S:CompScope X scope N src)
  (hg:∀ C fp s H,PG (cxComp X scope C fp s H N) tg g) (ht:∀ C fp s H,PTs (cxComp X scope C fp s H N) ifs tc) (he:∀ C fp s H,PE (cxComp X scope C fp s H N) elt te)
  (hsw:swapsWith (.ListComp elt [⟨tg,iter,ifs,0⟩] scope pos) (some (.Name x pos')) spos.line X.env=pure true)
  (hN:X.N.Nodup) (hx:X.N[i]?=some x) (hl:X.env.scope.names.lookup x=some .local)
  (hs:∀ x,foldedSetIterable iter X.env x=pure x:=by intro _;rfl):PS X (.Assign [.Name x pos'] (.ListComp elt [⟨tg,iter,ifs,0⟩] scope pos) spos) (tAsg (tComp wi src g tc te) (qIr i)):=by
 intro pins s σ H D I h
 rw [exec_Assign_Name_used _ _ _ _ hsw]
 refine wpAny_bind (wpAny_standAt (wpAny_bind ?_))
 show wpAny _ X.A (do let _ <- comprehension (.ListComp elt [⟨tg,iter,ifs,0⟩] scope pos) scope X.env _ (newList []) false (eval iter X.env) (some (assign (.Name x pos') X.env))) _ _ s
 refine wpAny_bind (wpAny_mono (wpAny_comprehension_free (use:=some (assign (.Name x pos') X.env)) (Q:=fun _ s'=>SP X pins D .next s') rfl hs (qBA (S.cells I.ok)) S.kind S.names
  (thn (hi pins s σ H _ I h) fun v s1 h1=>thn h1 fun itv s2 h2=>?_)) (fun _ s' hq=>wpAny_pure (wpAny_pure hq)) fun _ _ e=>e)
 obtain ⟨it,fp,tn,J,H2,rfl,I2,T,st2,f2,hW⟩:=h2
 refine qEe (Q:=fun v H'=>D.nx (σ.set i (some v)) H') (RR:=fun acc C=>compPost (model X.prog X.w) X.A X.xe (some (assign (.Name x pos') X.env)) (fun _ s'=>SP X pins D .next s') acc C) hc S I2 T st2 f2 hg ht he hW ?_
 intro L C σ' H' s' hC J q
 obtain ⟨m,hn,_⟩:=id J.loc
 have I3:Inv X pins σ H' s':=qDc (h':=s'.heap) I2 f2 hC J (fun b o hb e=>e)
 show wpAny _ X.A (assign (.Name x pos') X.env (.ref L)) _ _ _
 have nL:X.env.locals≠C:=Nat.ne_of_lt (Nat.lt_of_lt_of_le I2.lt hC)
 refine wpAny_assign_Name (qDl I3 hN hx (.inl hl) (show RelV (.ref L) (.ref L) from rfl) (fun s4 I4 hsb=>?_) (.inr hl))
 obtain ⟨a,sb,ha⟩:=hsb
 have ha':a≠C:=by
  rcases ha with z | z
  ·rw [z];exact nL
  ·obtain ⟨v,hv⟩:=I2.cell x a z
   exact Nat.ne_of_lt (Nat.lt_of_lt_of_le hv.lt hC)
 refine ⟨m,hn.sameBut sb (Ne.symm ha'),fun h5 sb5=>?_⟩
 have I5:Inv X pins (σ.set i (some (V.ref L))) H' { s4 with heap:=h5,toks:=s4.toks }:=I4.turned (it:=C) (fun b o hb e=>sb5.extBut b o hb e) J.free (Ne.symm nL) (.inr (Nat.le_trans I2.sz hC)) (fun y c e z=>by
   obtain ⟨v,hv⟩:=I2.cell y c e
   exact absurd (Nat.lt_of_lt_of_le hv.lt (by rw [z];exact hC)) (Nat.lt_irrefl _)) fun p hp z=>absurd (Nat.lt_of_lt_of_le (Heap.lt_size (I2.pin p hp).1) (by rw [z];exact hC)) (Nat.lt_irrefl _)
 exact ⟨_,H',I5,q⟩
end
end L2
namespace PI
open L2 (V Key)
open PySem (Str)
inductive BOp | add | sub | mul | fdiv | mod | pow
 deriving DecidableEq
inductive COp | lt | le | gt | ge | eq | ne | inn | notin | is | isnot
 deriving DecidableEq
inductive BF | len | sum | all | any | max | min | abs | list | int | bits
 deriving DecidableEq
inductive Mt | pop | popAt | rev | clr | rem | cnt | ext
 deriving DecidableEq
inductive Tg | name (i:Nat) | tup (is:List Nat)
 deriving DecidableEq
mutual
inductive E
 | var (i:Nat) | cst (v:V) | glob (g:Nat)
 | bin (op:BOp) (a b:E) | neg (a:E)
 | cmp (op:COp) (a b:E) | cmp2 (o1 o2:COp) (a b c:E) | cmp3 (o1 o2 o3:COp) (a b c d:E)
 | and (a b:E) | or (a b:E) | not (a:E) | ite (c a b:E)
 | call (f:Nat) (as:Es) | blt (f:BF) (as:Es) | isi (a:E) (ts:List String)
 | idx (a b:E) | sl (a:E) (lo hi:Es)   | lst (as:Es) | tup (as:Es)
 | comp (it:Itr) (src:List (Option Nat)) (g:Tg) (c:Es) (e:E)
 | app (a b:E) | lrng (a:E) | dnew | meth (m:Mt) (a:E) (as:Es)      | lrng2 (a b:E)
inductive Es | nil | cons (a:E) (as:Es)
inductive Itr | list (a:E) | rng1 (a:E) | rng2 (a b:E) | zip (a b:E) | enum (a:E) | revd (a:E)  | rvr (a:E) | zip3 (a b c:E)
end
mutual
inductive S
 | asg (g:Tg) (e:E) | par (i j:Nat) (a b:E) | put (o i v:E)
 | expr (e:E) | ret (e:E)  | ifs (c:E) (t u:Ss)
 | for_ (g:Tg) (it:Itr) (b:Ss) | while_ (c:E) (b:Ss)    | stop
     | retc (as:Es) (e:E)
inductive Ss | nil | cons (s:S) (r:Ss)
end
noncomputable def Es.snoc:Es -> E -> Es
 | .nil,e=>.cons e .nil
 | .cons a as,e=>.cons a (Es.snoc as e)
inductive Ob | dct (kvs:List (Int×V)) | exn (c:Str)
 deriving DecidableEq
inductive O | lst (fz:Bool) (xs:List V) | tup (xs:List V) | ob (o:Ob)
 deriving DecidableEq
noncomputable abbrev AH:=List O
noncomputable abbrev St:=List (Option V)
inductive Res (α:Type) | ok (a:α) | exc (c:Nat) (h:AH) | stuck
noncomputable def Res.bind {α β:Type}:Res α -> (α -> Res β) -> Res β
 | .ok a,f=>f a
 | .exc c h,_=>.exc c h
 | .stuck,_=>.stuck
noncomputable def Res.nx {α:Type}:Res α -> Res α
 | .ok a=>.ok a
 | .exc _ _=>.stuck
 | .stuck=>.stuck
@[simp] theorem Res.bind_ok {α β:Type} (a:α) (f:α -> Res β):(Res.ok a).bind f=f a:=rfl
noncomputable abbrev RV:=Res (V×AH)
noncomputable def items (h:AH) (a:Nat):Option (List V):=match h[a]? with
 | some (.lst _ xs)=>some xs
 | some (.tup xs)=>some xs
 | _=>none
noncomputable def qAE (h:AH) (a:Nat):Option (List V):=match h[a]? with
 | some (.lst _ xs)=>some xs
 | _=>none
noncomputable def qAV (h:AH) (a:Nat):Option (List V):=match h[a]? with
 | some (.tup xs)=>some xs
 | _=>none
noncomputable def qGp (h:AH) (a:Nat):Option (List (Int×V)):=match h[a]? with
 | some (.ob (.dct kvs))=>some kvs
 | _=>none
noncomputable def qKE (kvs:List (Int×V)) (k:Int):Bool:=kvs.any fun p=>decide (p.1=k)
noncomputable def qKV (kvs:List (Int×V)) (k:Int) (v:V):List (Int×V):=if qKE kvs k=true then kvs.map (fun p=>if p.1=k then (p.1,v) else p) else kvs++[(k,v)]
noncomputable def qJQ (h:AH) (a:Nat):Option Str:=match h[a]? with
 | some (.ob (.exn c))=>some c
 | _=>none
noncomputable def qAW (h:AH) (a:Nat):Option (List V):=match h[a]? with
 | some (.lst false xs)=>some xs
 | _=>none
noncomputable def lim:Nat:=100000
noncomputable def newL (xs:List V) (h:AH):RV:=.ok (.ref h.length,h++[.lst false xs])
noncomputable def newT (xs:List V) (h:AH):RV:=.ok (.ref h.length,h++[.tup xs])
noncomputable def flat:V -> Bool
 | .non=>true | .bl _=>true | .int _=>true | .str _=>true | _=>false
noncomputable def eqF:V -> V -> Option Bool
 | .int i,.int j=>some (i==j)
 | .bl i,.bl j=>some (i==j)
 | .str i,.str j=>some (i==j)
 | .non,.non=>some true
 | .int i,.bl b=>some (i==(if b then 1 else 0))
 | .bl b,.int i=>some ((if b then 1 else 0)==i)
 | .non,.int _=>some false | .int _,.non=>some false
 | .non,.bl _=>some false | .bl _,.non=>some false
 | .non,.str _=>some false | .str _,.non=>some false
 | .int _,.str _=>some false | .str _,.int _=>some false
 | .bl _,.str _=>some false | .str _,.bl _=>some false
 | _,_=>none
noncomputable def qCi (f:V -> V -> Option Bool):List V -> List V -> Option (List Bool)
 | [],[]=>some []
 | x::xs,y::ys=>match f x y,qCi f xs ys with
  | some b,some bs=>some (b::bs)
  | _,_=>none
 | _,_=>none
noncomputable def eqD (h:AH):Nat -> V -> V -> Option Bool
 | 0,x,y=>eqF x y
 | n + 1,.ref a,.ref b=>match h[a]?,h[b]? with
  | some (.lst _ xs),some (.lst _ ys)=>if a=b then some true else if xs.length=ys.length then (qCi (eqD h n) xs ys).map fun bs=>bs.all id else some false
  | some (.tup xs),some (.tup ys)=>if a=b then some true else if xs.length=ys.length then (qCi (eqD h n) xs ys).map fun bs=>bs.all id else (qCi (eqD h n) (xs.take ys.length) (ys.take xs.length)).map fun _=>false
  | some (.lst _ _),some (.tup _)=>some false
  | some (.tup _),some (.lst _ _)=>some false
  | _,_=>none
 | _ + 1,.ref a,y=>if (items h a).isSome&&flat y then some false else none
 | _ + 1,x,.ref b=>if flat x&&(items h b).isSome then some false else none
 | _ + 1,x,y=>eqF x y
noncomputable abbrev ixN (n:Nat) (i:Int):Option Nat:=L2.ixN n i
noncomputable abbrev cut (xs:List V) (lo hi:Option Int):List V:=L2.cutV xs lo hi
noncomputable def two64:Int:=18446744073709551616
noncomputable def qCC (i:Int):Bool:=decide (-two64 < i/\i < two64)
noncomputable def mid (i:Int):Bool:=decide (i.natAbs.log2 < 9000)
noncomputable def qFW (x y:V) (f:Int -> Int -> RV):RV:=match x with
 | .int i=>(match y with | .int j=>f i j | _=>.stuck)
 | _=>.stuck
theorem qAr {x y:V} {f:Int -> Int -> RV} {r:V×AH} (e:qFW x y f=.ok r):∃ i j,x=.int i/\y=.int j/\f i j=.ok r:=by
 unfold qFW at e
 split at e
 ·split at e
  ·exact ⟨_,_,rfl,rfl,e⟩
  ·cases e
 ·cases e
noncomputable def qHC (x:V) (f:Nat -> RV):RV:=match x with
 | .ref a=>f a
 | _=>.stuck
theorem qBT {x:V} {f:Nat -> RV} {r:V×AH} (e:qHC x f=.ok r):∃ a,x=.ref a/\f a=.ok r:=by
 unfold qHC at e
 split at e
 ·exact ⟨_,rfl,e⟩
 ·cases e
noncomputable def qJR:BOp -> V -> V -> AH -> RV
 | .add,x,y,h=>(match x with
  | .ref a=>qHC y fun b=>(match qAW h a,qAW h b with
   | some xs,some ys=>if xs.length + ys.length<=lim then newL (xs++ys) h else .stuck
   | _,_=>(match qAV h a,qAV h b with
    | some xs,some ys=>if xs≠[]/\xs.length + ys.length<=lim then (if ys=[] then .ok (.ref a,h) else newT (xs++ys) h) else .stuck
    | _,_=>.stuck))
  | x=>qFW x y fun i j=>.ok (.int (i + j),h))
 | .sub,x,y,h=>qFW x y fun i j=>.ok (.int (i - j),h)
 | .mul,x,y,h=>(match x with
  | .ref a=>(match y with
   | .int k=>(match qAW h a with
    | some xs=>if 0<=k/\xs.length * k.toNat<=lim/\k < 1000000 then newL (List.replicate k.toNat xs).flatten h else .stuck
    | none=>.stuck)
   | _=>.stuck)
  | x=>qFW x y fun i j=>if qCC i||qCC j||(mid i&&mid j) then .ok (.int (i * j),h) else .stuck)
 | .fdiv,x,y,h=>qFW x y fun i j=>if 0 < j/\(j < 1073741824\/mid j=true) then .ok (.int (i / j),h) else if j < 0/\mid j=true then .ok (.int (i.fdiv j),h) else .stuck
 | .mod,x,y,h=>qFW x y fun i j=>if 0 < j then .ok (.int (i % j),h) else if j < 0 then .ok (.int (i.fmod j),h) else .stuck
 | .pow,x,y,h=>qFW x y fun i j=>if 0<=j/\j<=1000/\i.natAbs < 18446744073709551616 then .ok (.int (i ^ j.toNat),h) else .stuck
noncomputable def qIV (x y:V) (f:Int -> Int -> Bool):Option Bool:=match x with
 | .int i=>(match y with | .int j=>some (f i j) | _=>none)
 | _=>none
theorem qCH {x y:V} {f:Int -> Int -> Bool} {r:Bool} (e:qIV x y f=some r):∃ i j,x=.int i/\y=.int j/\f i j=r:=by
 unfold qIV at e
 split at e
 ·split at e
  ·exact ⟨_,_,rfl,rfl,Option.some.inj e⟩
  ·cases e
 ·cases e
noncomputable def qIY (y:V) (f:Nat -> Option Bool):Option Bool:=match y with
 | .ref a=>f a
 | _=>none
theorem qEr {y:V} {f:Nat -> Option Bool} {r:Bool} (e:qIY y f=some r):∃ a,y=.ref a/\f a=some r:=by
 unfold qIY at e
 split at e
 ·exact ⟨_,rfl,e⟩
 ·cases e
noncomputable def isC (x y:V) (f:Bool -> Bool):Option Bool:=match y with
 | .non=>some (f (decide (x=.non)))
 | .bl d=>(match x with | .bl c=>some (f (c==d)) | _=>none)
 | _=>none
theorem qFR {x y:V} {f:Bool -> Bool} {r:Bool} (e:isC x y f=some r):(y=.non/\f (decide (x=.non))=r)\/∃ c d,x=.bl c/\y=.bl d/\f (c==d)=r:=by
 unfold isC at e
 split at e
 ·exact .inl ⟨rfl,Option.some.inj e⟩
 ·split at e
  ·exact .inr ⟨_,_,rfl,rfl,Option.some.inj e⟩
  ·cases e
 ·cases e
noncomputable def qGN:COp -> V -> V -> AH -> Option Bool
 | .lt,x,y,_=>qIV x y fun i j=>decide (i < j)
 | .le,x,y,_=>qIV x y fun i j=>decide (i<=j)
 | .gt,x,y,_=>qIV x y fun i j=>decide (j < i)
 | .ge,x,y,_=>qIV x y fun i j=>decide (j<=i)
 | .eq,x,y,h=>eqD h 4 x y
 | .ne,x,y,h=>(eqD h 4 x y).map (!·)
 | .inn,x,y,h=>qIY y fun a=>(match items h a with
  | some xs=>if flat x&&xs.all flat then some (xs.any fun y=>L2.eqV y x) else none
  | none=>match qGp h a with
   | some kvs=>(match x with | .int i=>some (qKE kvs i) | _=>none)
   | none=>none)
 | .notin,x,y,h=>qIY y fun a=>(match items h a with
  | some xs=>if flat x&&xs.all flat then some (!(xs.any fun y=>L2.eqV y x)) else none
  | none=>none)
 | .is,x,y,_=>isC x y id
 | .isnot,x,y,_=>isC x y (!·)
noncomputable def qGv (op:COp) (x y:V) (h:AH):RV:=match qGN op x y h with
 | some b=>.ok (.bl b,h)
 | none=>.stuck
noncomputable def qBJ:List V -> Option (List Int)
 | []=>some []
 | .int i::r=>(qBJ r).map (i::·)
 | _::_=>none
noncomputable def qBc:List V -> Option (List Bool)
 | []=>some []
 | .bl b::r=>(qBc r).map (b::·)
 | _::_=>none
noncomputable def qBH:List V -> Option (List Int)
 | []=>some []
 | .int i::r=>(qBH r).map (i::·)
 | .bl b::r=>(qBH r).map ((if b=true then 1 else 0)::·)
 | _::_=>none
noncomputable def qAi (lo:Int) (n:Nat):List V:=(List.range n).map fun (i:Nat)=>V.int (lo + (i:Int))
noncomputable def ins (x:Int):List Int -> List Int
 | []=>[x]
 | y::r=>if x<=y then x::y::r else y::ins x r
noncomputable def one (as:List V) (f:V -> RV):RV:=match as with
 | [a]=>f a
 | _=>.stuck
theorem qBL {as:List V} {f:V -> RV} {r:V×AH} (e:one as f=.ok r):∃ a,as=[a]/\f a=.ok r:=by
 unfold one at e
 split at e
 ·exact ⟨_,rfl,e⟩
 ·cases e
noncomputable def two (as:List V) (f:V -> V -> RV):RV:=match as with
 | [a,b]=>f a b
 | _=>.stuck
theorem two_inv {as:List V} {f:V -> V -> RV} {r:V×AH} (e:two as f=.ok r):∃ a b,as=[a,b]/\f a b=.ok r:=by
 unfold two at e
 split at e
 ·exact ⟨_,_,rfl,e⟩
 ·cases e
noncomputable def qKF:BF -> List V -> AH -> RV
 | .len,as,h=>one as fun x=>qHC x fun a=>(match items h a with | some xs=>.ok (.int xs.length,h) | none=>.stuck)
 | .sum,as,h=>one as fun x=>qHC x fun a=>(match qAE h a with
  | some xs=>match qBH xs with | some is=>.ok (.int is.sum,h) | none=>.stuck
  | none=>.stuck)
 | .all,as,h=>one as fun x=>qHC x fun a=>(match qAE h a with
  | some xs=>match qBc xs with | some bs=>.ok (.bl (bs.all id),h) | none=>.stuck
  | none=>.stuck)
 | .any,as,h=>one as fun x=>qHC x fun a=>(match qAE h a with
  | some xs=>match qBc xs with | some bs=>.ok (.bl (bs.any id),h) | none=>.stuck
  | none=>.stuck)
 | .max,as,h=>two as fun x y=>qFW x y fun i j=>.ok (.int (if j > i then j else i),h)
 | .min,as,h=>two as fun x y=>qFW x y fun i j=>.ok (.int (if j < i then j else i),h)
 | .abs,as,h=>one as fun x=>(match x with | .int i=>.ok (.int (if i < 0 then -i else i),h) | _=>.stuck)
 | .list,as,h=>one as fun x=>qHC x fun a=>(match items h a with | some xs=>newL xs h | none=>.stuck)
 | .int,as,h=>one as fun x=>(match x with | .int i=>.ok (.int i,h) | .bl b=>.ok (.int (if b then 1 else 0),h) | _=>.stuck)
 | .bits,as,h=>one as fun x=>(match x with | .int i=>.ok (.int ((PySem.Builtin.Int.intBits i:Nat):Int),h) | _=>.stuck)
noncomputable def qGI:Mt -> Nat -> List V -> AH -> RV
 | .pop,p,[],h=>match qAW h p with
  | some xs=>match xs[xs.length - 1]? with | some y=>.ok (y,h.set p (.lst false xs.dropLast)) | none=>.stuck
  | none=>.stuck
 | .popAt,p,[.int i],h=>match qAW h p with
  | some xs=>if xs.length<=lim then (match ixN xs.length i with | some k=>(match xs[k]? with | some y=>.ok (y,h.set p (.lst false (xs.eraseIdx k))) | none=>.stuck) | none=>.stuck) else .stuck
  | none=>.stuck
 | .rev,p,[],h=>match qAW h p with | some xs=>.ok (.non,h.set p (.lst false xs.reverse)) | none=>.stuck
 | .clr,p,[],h=>match qAW h p with | some _=>.ok (.non,h.set p (.lst false [])) | none=>.stuck
 | .rem,p,[.int i],h=>match qAW h p with
  | some xs=>if xs.length<=lim then (match (qBJ xs).bind fun is=>is.findIdx? (·==i) with | some k=>.ok (.non,h.set p (.lst false (xs.eraseIdx k))) | none=>.stuck) else .stuck
  | none=>.stuck
 | .cnt,p,[y],h=>match qAW h p with
  | some xs=>if (flat y&&xs.all flat)=true then .ok (.int (xs.countP fun z=>L2.eqV z y),h) else .stuck
  | none=>.stuck
 | .ext,p,[.ref q],h=>match qAW h p with
  | some xs=>(match qAW h q with | some ys=>if p≠q/\xs.length + ys.length<=lim then .ok (.non,h.set p (.lst false (xs++ys))) else .stuck | none=>.stuck)
  | none=>.stuck
 | _,_,_,_=>.stuck
noncomputable def qBC (h:AH):V -> Option String
 | .non=>some "NoneType"
 | .bl _=>some "bool"
 | .int _=>some "int"
 | .str _=>some "str"
 | .ref a=>match h[a]? with | some (.lst _ _)=>some "list" | some (.tup _)=>some "tuple" | some (.ob (.dct _))=>some "dict" | _=>none
 | _=>none
noncomputable def qB5 (t c:String):Bool:=t==c||(t=="bool"&&c=="int")
inductive Src | list (a:Nat) | tupl (a:Nat) | rng (lo:Int) (n:Nat) | zip (a b:Nat) | zip3 (a b c:Nat) | enum (a:Nat) | rvd (a n:Nat) | rngd (lo:Int) (n:Nat)
noncomputable def qEI (h:AH):Src -> Option Nat
 | .list a=>(qAE h a).map List.length
 | .tupl a=>(qAV h a).map List.length
 | .rng _ n=>some n
 | .zip a b=>match qAE h a,qAE h b with | some xs,some ys=>some (min xs.length ys.length) | _,_=>none
 | .zip3 a b c=>match qAE h a with | some xs=>(match qAE h b with | some ys=>(match qAE h c with | some us=>some (min xs.length (min ys.length us.length)) | none=>none) | none=>none) | none=>none
 | .enum a=>(qAE h a).map List.length
 | .rvd _ n=>some n
 | .rngd _ n=>some n
noncomputable def qAT (h:AH) (i:Nat):Src -> Option (V×AH)
 | .list a=>match qAE h a with | some xs=>xs[i]?.map fun x=>(x,h) | none=>none
 | .tupl a=>match qAV h a with | some xs=>xs[i]?.map fun x=>(x,h) | none=>none
 | .rng lo n=>if i < n then some (.int (lo + (i:Int)),h) else none
 | .zip a b=>match qAE h a,qAE h b with
  | some xs,some ys=>match xs[i]?,ys[i]? with | some x,some y=>some (.ref h.length,h++[.tup [x,y]]) | _,_=>none
  | _,_=>none
 | .zip3 a b c=>match qAE h a with | some xs=>(match qAE h b with | some ys=>(match qAE h c with | some us=>(match xs[i]? with | some x=>(match ys[i]? with | some y=>(match us[i]? with | some u=>some (.ref h.length,h++[.tup [x,y,u]]) | none=>none) | none=>none) | none=>none) | none=>none) | none=>none) | none=>none
 | .enum a=>match qAE h a with | some xs=>xs[i]?.map fun x=>(.ref h.length,h++[.tup [.int (i:Int),x]]) | none=>none
 | .rvd a n=>if i < n then (match qAE h a with | some xs=>xs[n - 1 - i]?.map fun x=>(x,h) | none=>none) else none
 | .rngd lo n=>if i < n then some (.int (lo - (i:Int)),h) else none
noncomputable def qBB (h:AH) (i:Nat):Src -> Bool
 | .list a=>match qAE h a with | some xs=>decide (xs.length<=i) | none=>false
 | .tupl a=>match qAV h a with | some xs=>decide (xs.length<=i) | none=>false
 | .rng _ n=>decide (n<=i)
 | .zip a b=>match qAE h a,qAE h b with | some xs,some ys=>decide (xs.length<=i\/ys.length<=i) | _,_=>false
 | .zip3 a b c=>match qAE h a with | some xs=>(match qAE h b with | some ys=>(match qAE h c with | some us=>decide (xs.length<=i\/ys.length<=i\/us.length<=i) | none=>false) | none=>false) | none=>false
 | .enum a=>match qAE h a with | some xs=>decide (xs.length<=i) | none=>false
 | .rvd _ n=>decide (i=n)
 | .rngd _ n=>decide (n<=i)
noncomputable def qCp:List Nat -> List V -> St -> Option St
 | [],[],σ=>some σ
 | i::is,x::xs,σ=>qCp is xs (σ.set i (some x))
 | _,_,_=>none
noncomputable def store:Tg -> V -> St -> AH -> Option St
 | .name i,v,σ,_=>some (σ.set i (some v))
 | .tup is,.ref a,σ,h=>match qAV h a with | some xs=>qCp is xs σ | none=>none
 | .tup _,_,_,_=>none
noncomputable def qDe (s:Src) (g:Tg) (c:St -> AH -> Res (Bool×AH)) (e:St -> AH -> RV) (D:Nat):Nat -> Nat -> List V -> St -> AH -> RV
 | 0,i,_,_,h=>if qBB h i s then .ok (.ref D,h) else .stuck
 | n + 1,i,ys,σ,h=>match qAT h i s with
  | some (x,h1)=>match store g x σ h1 with
   | some σ1=>(c σ1 h1).bind fun (b,h2)=>
    if b then (e σ1 h2).bind fun (y,h3)=>if h3[D]?=some (.lst false ys)/\ys.length < lim then qDe s g c e D n (i + 1) (ys++[y]) σ1 (h3.set D (.lst false (ys++[y]))) else .stuck
    else if h2[D]?=some (.lst false ys) then qDe s g c e D n (i + 1) ys σ1 h2 else .stuck
   | none=>.stuck
  | none=>.stuck
noncomputable def asB (r:RV):Res (Bool×AH):=r.bind fun (v,h)=>match v with | .bl b=>.ok (b,h) | _=>.stuck
section
variable (F:Nat -> List V -> AH -> RV)
mutual
noncomputable def ev:E -> St -> AH -> RV
 | .var i=>fun σ h=>match σ[i]? with | some (some v)=>.ok (v,h) | _=>.stuck
 | .cst v=>fun _ h=>.ok (v,h)
 | .glob g=>fun _ h=>.ok (.ref g,h)
 | .bin op a b=>fun σ h=>(ev a σ h).bind fun (x,h1)=>(ev b σ h1).bind fun (y,h2)=>qJR op x y h2
 | .neg a=>fun σ h=>(ev a σ h).bind fun (x,h1)=>match x with | .int i=>.ok (.int (-i),h1) | _=>.stuck
 | .cmp op a b=>fun σ h=>(ev a σ h).bind fun (x,h1)=>(ev b σ h1).bind fun (y,h2)=>qGv op x y h2
 | .cmp2 o1 o2 a b c=>fun σ h=>(ev a σ h).bind fun (x,h1)=>(ev b σ h1).bind fun (y,h2)=>match qGN o1 x y h2 with
  | some true=>(ev c σ h2).bind fun (z,h3)=>qGv o2 y z h3
  | some false=>.ok (.bl false,h2)
  | none=>.stuck
 | .cmp3 o1 o2 o3 a b c d=>fun σ h=>(ev a σ h).bind fun (x,h1)=>(ev b σ h1).bind fun (y,h2)=>match qGN o1 x y h2 with
  | some true=>(ev c σ h2).bind fun (z,h3)=>match qGN o2 y z h3 with
   | some true=>(ev d σ h3).bind fun (w,h4)=>qGv o3 z w h4
   | some false=>.ok (.bl false,h3)
   | none=>.stuck
  | some false=>.ok (.bl false,h2)
  | none=>.stuck
 | .and a b=>fun σ h=>(asB (ev a σ h)).bind fun (x,h1)=>if x then ev b σ h1 else .ok (.bl false,h1)
 | .or a b=>fun σ h=>(asB (ev a σ h)).bind fun (x,h1)=>if x then .ok (.bl true,h1) else ev b σ h1
 | .not a=>fun σ h=>(asB (ev a σ h)).bind fun (x,h1)=>.ok (.bl (!x),h1)
 | .ite c a b=>fun σ h=>(asB (ev c σ h)).bind fun (x,h1)=>if x then ev a σ h1 else ev b σ h1
 | .call f as=>fun σ h=>(evs as σ h).bind fun (xs,h1)=>(F f xs h1).nx
 | .blt f as=>fun σ h=>(evs as σ h).bind fun (xs,h1)=>qKF f xs h1
 | .isi a ts=>fun σ h=>(ev a σ h).bind fun (x,h1)=>match qBC h1 x with | some t=>.ok (.bl (ts.any (qB5 t)),h1) | none=>.stuck
 | .idx a b=>fun σ h=>(ev a σ h).bind fun (x,h1)=>(ev b σ h1).bind fun (y,h2)=>match x,y with
  | .ref p,.int i=>match items h2 p with
   | some xs=>match (ixN xs.length i).bind fun j=>xs[j]? with | some v=>.ok (v,h2) | none=>.stuck
   | none=>.stuck
  | _,_=>.stuck
 | .sl a lo hi=>fun σ h=>(ev a σ h).bind fun (x,h1)=>(evs lo σ h1).bind fun (l,h2)=>(evs hi σ h2).bind fun (u,h3)=>
  match x,qBJ l,qBJ u with
  | .ref p,some l,some u=>match qAE h3 p with
   | some xs=>newL (cut xs l.head? u.head?) h3
   | none=>match qAV h3 p with
    | some xs=>if HT.sIx xs.length 0 l.head?=0/\HT.sIx xs.length xs.length u.head?=xs.length then .stuck else newT (cut xs l.head? u.head?) h3
    | none=>.stuck
  | _,_,_=>.stuck
 | .lst as=>fun σ h=>(evs as σ h).bind fun (xs,h1)=>if xs.length<=lim then newL xs h1 else .stuck
 | .tup as=>fun σ h=>(evs as σ h).bind fun (xs,h1)=>if xs.length<=lim then newT xs h1 else .stuck
 | .comp it src g c e=>fun σ h=>(evi it σ h).bind fun (s,h1)=>match qEI (h1++[.lst false []]) s with
  | some n=>qDe s g (evc c) (ev e) h1.length n 0 [] (L2.inner src σ) (h1++[.lst false []])
  | none=>.stuck
 | .app a b=>fun σ h=>(ev a σ h).bind fun (x,h1)=>match x with
  | .ref p=>(match qAE h1 p with
   | some _=>(ev b σ h1).bind fun (y,h2)=>match qAW h2 p with
    | some xs=>if xs.length < lim then .ok (.non,h2.set p (.lst false (xs++[y]))) else .stuck
    | none=>.stuck
   | none=>.stuck)
  | _=>.stuck
 | .lrng2 a b=>fun σ h=>(ev a σ h).bind fun (x,h1)=>(ev b σ h1).bind fun (y,h2)=>qFW x y fun i j=>if -1000000<=i/\-1000000<=j/\i<=100000/\j<=100000/\j - i<=100000 then newL (qAi i (j - i).toNat) h2 else .stuck
 | .lrng a=>fun σ h=>(ev a σ h).bind fun (x,h1)=>match x with | .int j=>if -1000000<=j/\j<=100000 then newL (qAi 0 j.toNat) h1 else .stuck | _=>.stuck
 | .dnew=>fun _ h=>.ok (.ref h.length,h++[.ob (.dct [])])
 | .meth m a as=>fun σ h=>(ev a σ h).bind fun (x,h1)=>match x with
  | .ref p=>(match qAE h1 p with
   | some _=>(evs as σ h1).bind fun (ys,h2)=>qGI m p ys h2
   | none=>.stuck)
  | _=>.stuck
noncomputable def evs:Es -> St -> AH -> Res (List V×AH)
 | .nil=>fun _ h=>.ok ([],h)
 | .cons a as=>fun σ h=>(ev a σ h).bind fun (x,h1)=>(evs as σ h1).bind fun (xs,h2)=>.ok (x::xs,h2)
noncomputable def evc:Es -> St -> AH -> Res (Bool×AH)
 | .nil=>fun _ h=>.ok (true,h)
 | .cons a _=>fun σ h=>asB (ev a σ h)
noncomputable def evi:Itr -> St -> AH -> Res (Src×AH)
 | .list a=>fun σ h=>(ev a σ h).bind fun (x,h1)=>match x with | .ref p=>(match h1[p]? with | some (.lst _ _)=>.ok (.list p,h1) | some (.tup _)=>.ok (.tupl p,h1) | _=>.stuck) | _=>.stuck
 | .rng1 a=>fun σ h=>(ev a σ h).bind fun (x,h1)=>match x with | .int j=>if -1000000<=j/\j<=1000000 then .ok (.rng 0 j.toNat,h1) else .stuck | _=>.stuck
 | .rng2 a b=>fun σ h=>(ev a σ h).bind fun (x,h1)=>(ev b σ h1).bind fun (y,h2)=>match x,y with
  | .int i,.int j=>if (-1000000<=i/\i<=1000000)/\-1000000<=j/\j<=1000000 then .ok (.rng i (j - i).toNat,h2) else .stuck
  | _,_=>.stuck
 | .zip a b=>fun σ h=>(ev a σ h).bind fun (x,h1)=>(ev b σ h1).bind fun (y,h2)=>match x,y with
  | .ref p,.ref q=>match qAE h2 p,qAE h2 q with | some _,some _=>.ok (.zip p q,h2) | _,_=>.stuck
  | _,_=>.stuck
 | .enum a=>fun σ h=>(ev a σ h).bind fun (x,h1)=>match x with | .ref p=>(match qAE h1 p with | some _=>.ok (.enum p,h1) | none=>.stuck) | _=>.stuck
 | .revd a=>fun σ h=>(ev a σ h).bind fun (x,h1)=>match x with | .ref p=>(match qAE h1 p with | some xs=>.ok (.rvd p xs.length,h1) | none=>.stuck) | _=>.stuck
 | .zip3 a b c=>fun σ h=>(ev a σ h).bind fun (x,h1)=>(ev b σ h1).bind fun (y,h2)=>(ev c σ h2).bind fun (z,h3)=>match x with
  | .ref p=>(match y with | .ref q=>(match z with | .ref r=>(match qAE h3 p with | some _=>(match qAE h3 q with | some _=>(match qAE h3 r with | some _=>.ok (.zip3 p q r,h3) | none=>.stuck) | none=>.stuck) | none=>.stuck) | _=>.stuck) | _=>.stuck)
  | _=>.stuck
 | .rvr a=>fun σ h=>(ev a σ h).bind fun (x,h1)=>match x with
  | .int j=>if 0<=j/\j<=1000000 then .ok (.rngd (j - 1) j.toNat,h1) else .stuck
  | _=>.stuck
end
inductive Out | nx (σ:St) | rt (v:V) | bk (σ:St) | ct (σ:St)
noncomputable abbrev RS:=Res (Out×AH)
noncomputable def qGO (s:Src) (g:Tg) (b:St -> AH -> RS):Nat -> Nat -> St -> AH -> RS
 | 0,i,σ,h=>if qBB h i s then .ok (.nx σ,h) else .stuck
 | n + 1,i,σ,h=>match qAT h i s with
  | some (x,h1)=>match store g x σ h1 with
   | some σ1=>(b σ1 h1).bind fun (o,h2)=>match o with
    | .nx σ2=>qGO s g b n (i + 1) σ2 h2
    | .ct σ2=>qGO s g b n (i + 1) σ2 h2
    | .bk σ2=>.ok (.nx σ2,h2)
    | .rt v=>.ok (.rt v,h2)
   | none=>.stuck
  | none=>.stuck
noncomputable def qBo (c:St -> AH -> Res (Bool×AH)) (b:St -> AH -> RS):Nat -> St -> AH -> RS
 | 0,_,_=>.stuck
 | n + 1,σ,h=>(c σ h).bind fun (t,h1)=>if t then (b σ h1).bind fun (o,h2)=>match o with
   | .nx σ2=>qBo c b n σ2 h2
   | .ct σ2=>qBo c b n σ2 h2
   | .bk σ2=>.ok (.nx σ2,h2)
   | .rt v=>.ok (.rt v,h2)
  else .ok (.nx σ,h1)
noncomputable def qJh:Nat:=1000000
mutual
noncomputable def ex:S -> St -> AH -> RS
 | .asg g e=>fun σ h=>(ev F e σ h).bind fun (x,h1)=>match store g x σ h1 with | some σ1=>.ok (.nx σ1,h1) | none=>.stuck
 | .par i j a b=>fun σ h=>(ev F a σ h).bind fun (x,h1)=>(ev F b σ h1).bind fun (y,h2)=>.ok (.nx ((σ.set i (some x)).set j (some y)),h2)
 | .put o i v=>fun σ h=>(ev F v σ h).bind fun (x,h1)=>(ev F o σ h1).bind fun (p,h2)=>(ev F i σ h2).bind fun (k,h3)=>match p,k with
  | .ref a,.int k=>match qAW h3 a with
   | some xs=>match ixN xs.length k with | some j=>.ok (.nx σ,h3.set a (.lst false (xs.set j x))) | none=>.stuck
   | none=>match qGp h3 a with
    | some kvs=>if flat x=true/\kvs.length < lim then .ok (.nx σ,h3.set a (.ob (.dct (qKV kvs k x)))) else .stuck
    | none=>.stuck
  | _,_=>.stuck
 | .expr e=>fun σ h=>(ev F e σ h).bind fun (_,h1)=>.ok (.nx σ,h1)
 | .ret e=>fun σ h=>(ev F e σ h).bind fun (x,h1)=>.ok (.rt x,h1)
 | .retc as e=>fun σ h=>(ev F (.tup (as.snoc e)) σ h).bind fun (x,h1)=>.ok (.rt x,h1)
 | .ifs c t u=>fun σ h=>(asB (ev F c σ h)).bind fun (x,h1)=>if x then exs t σ h1 else exs u σ h1
 | .for_ g it b=>fun σ h=>(evi F it σ h).bind fun (s,h1)=>match qEI h1 s with
  | some n=>qGO s g (exs b) n 0 σ h1
  | none=>.stuck
 | .while_ c b=>fun σ h=>qBo (fun σ h=>asB (ev F c σ h)) (exs b) qJh σ h
 | .stop=>fun _ _=>.stuck
noncomputable def exs:Ss -> St -> AH -> RS
 | .nil=>fun σ h=>.ok (.nx σ,h)
 | .cons s r=>fun σ h=>(ex s σ h).bind fun (o,h1)=>match o with
  | .nx σ1=>exs r σ1 h1
  | o=>.ok (o,h1)
end
end
structure Fn where
 npar:Nat
 nslot:Nat
 body:Ss
noncomputable def Fk (tb:List Fn):Nat -> Nat -> List V -> AH -> RV
 | 0,_,_,_=>.stuck
 | k + 1,f,vs,h=>match tb[f]? with
  | some d=>if vs.length=d.npar/\d.npar<=d.nslot then (exs (Fk tb k) d.body (vs.map some++List.replicate (d.nslot - d.npar) none) h).bind fun (o,h1)=>match o with
    | .nx _=>.ok (.non,h1)
    | .rt v=>.ok (v,h1)
    | _=>.stuck
   else .stuck
  | none=>.stuck
end PI
namespace PI
open PySem PySem.Spec PyProof.Rows
open L2 (V Hp HO Cx PE PT PA PS PSs TE TT TA TS VK upd qAI qAH SqL SqT qDx)
noncomputable def rv (φ:List Addr):V -> V -> Prop
 | .ref i,.ref a=>φ[i]?=some a
 | .non,.non=>True
 | .bl b,.bl c=>b=c
 | .int i,.int j=>i=j
 | .str x,.str y=>x=y
 | _,_=>False
noncomputable abbrev rvs (φ:List Addr):List V -> List V -> Prop:=Paired (rv φ)
noncomputable def ropt (φ:List Addr):Option V -> Option V -> Prop
 | some v,oc=>∃ w,oc=some w/\rv φ v w
 | none,_=>True
noncomputable abbrev rst (φ:List Addr):St -> St -> Prop:=Paired (ropt φ)
noncomputable def Ext (φ φ':List Addr):Prop:=∃ r,φ'=φ++r
theorem Ext.refl (φ:List Addr):Ext φ φ:=⟨[],by simp⟩
theorem Ext.trans {a b c:List Addr} (h:Ext a b) (g:Ext b c):Ext a c:=by
 obtain ⟨r,rfl⟩:=h
 obtain ⟨q,rfl⟩:=g
 exact ⟨r++q,by simp⟩
theorem Ext.get {φ φ':List Addr} (x:Ext φ φ') {i:Nat} {a:Addr} (h:φ[i]?=some a):φ'[i]?=some a:=by
 obtain ⟨r,rfl⟩:=x
 rw [List.getElem?_append_left (List.getElem?_eq_some_iff.mp h).1]
 exact h
theorem rv.mono {φ φ':List Addr} (x:Ext φ φ'):∀ {v w:V},rv φ v w -> rv φ' v w
 | .ref i,.ref a,h=>x.get h
 | .non,.non,h=>h
 | .bl _,.bl _,h=>h
 | .int _,.int _,h=>h
 | .str _,.str _,h=>h
 | .byt _,_,h=>by cases h
 | .flt _,_,h=>by cases h
 | .ty _,_,h=>by cases h
theorem rvs.mono {φ φ':List Addr} (x:Ext φ φ') {vs ws:List V} (h:rvs φ vs ws):rvs φ' vs ws:=L2.Paired.mapP h fun _ _ r=>rv.mono x r
theorem ropt.mono {φ φ':List Addr} (x:Ext φ φ'):∀ {v w:Option V},ropt φ v w -> ropt φ' v w
 | some v,oc,h=>by obtain ⟨w,e,r⟩:=h;exact ⟨w,e,rv.mono x r⟩
 | none,_,_=>trivial
theorem rst.mono {φ φ':List Addr} (x:Ext φ φ') {σ τ:St} (h:rst φ σ τ):rst φ' σ τ:=L2.Paired.mapP h fun _ _ r=>ropt.mono x r
theorem qAC {α β:Type} {R:α -> β -> Prop}:∀ {xs:List α} {ys:List β} {i:Nat} {x:α},Paired R xs ys -> xs[i]?=some x -> ∃ y,ys[i]?=some y/\R x y
 | _,_,_,_,.nil,e=>by simp at e
 | _,_,0,_,.cons r _,e=>by simp at e;subst e;exact ⟨_,rfl,r⟩
 | _,_,i + 1,x,.cons _ t,e=>by
  obtain ⟨u,h1,h2⟩:=qAC (i:=i) (x:=x) t (by simpa using e)
  exact ⟨u,by simpa using h1,h2⟩
theorem qAj {α β:Type} {R:α -> β -> Prop} {x:α} {u:β} (r:R x u):∀ {xs:List α} {us:List β} (i:Nat),Paired R xs us -> Paired R (xs.set i x) (us.set i u)
 | _,_,_,.nil=>.nil
 | _,_,0,.cons _ t=>.cons r t
 | _,_,i + 1,.cons q t=>.cons q (qAj r i t)
theorem qAP {α β:Type} {R:α -> β -> Prop}:∀ {xs ys:List α} {us ws:List β},Paired R xs us -> Paired R ys ws -> Paired R (xs++ys) (us++ws)
 | _,_,_,_,.nil,s=>s
 | _,_,_,_,.cons r t,s=>.cons r (qAP t s)
theorem qAu {α β:Type} {R:α -> β -> Prop}:∀ {xs:List α} {us:List β} (n:Nat),Paired R xs us -> Paired R (xs.take n) (us.take n)
 | _,_,0,_=>.nil
 | _,_,_ + 1,.nil=>.nil
 | _,_,n + 1,.cons r t=>.cons r (qAu n t)
theorem qBg {α β:Type} {R:α -> β -> Prop}:∀ {xs:List α} {us:List β} (n:Nat),Paired R xs us -> Paired R (xs.drop n) (us.drop n)
 | _,_,0,r=>r
 | _,_,_ + 1,.nil=>.nil
 | _,_,n + 1,.cons _ t=>qBg n t
theorem qCm {α β:Type} {R:α -> β -> Prop} {xs:List α} {us:List β} (h:Paired R xs us):∀ k:Nat,Paired R (List.replicate k xs).flatten (List.replicate k us).flatten
 | 0=>.nil
 | k + 1=>by
  rw [List.replicate_succ,List.replicate_succ,List.flatten_cons,List.flatten_cons]
  exact qAP h (qCm h k)
noncomputable def kk (p:Int×V):L2.Key×V:=(.inl p.1,p.2)
noncomputable def O.mu:O -> Bool
 | .lst false _=>true | .ob (.dct _)=>true | _=>false
noncomputable def exP (a C:Addr):Heap -> Prop:=fun h=>∃ o,h.get? a=some o/\o.cls=.ref C
noncomputable def ro (K:PySem.W.Frag) (φ:List Addr) (H:Hp) (a:Addr):O -> Prop
 | .lst false xs=>∃ ys,H a=some (.lst ys)/\rvs φ xs ys
 | .lst true xs=>∃ ys,((∃ o,H a=some (.frz o (.lst ys)))\/SqL K (fun _=>none) a ys)/\rvs φ xs ys
 | .tup xs=>∃ ys,SqT K H a ys/\rvs φ xs ys
 | .ob (.dct kvs)=>H a=some (.dK (kvs.map kk))
 | .ob (.exn x)=>∃ C,PySem.W.nsIn K mainGlobals x=some (some (.ref C))/\H a=some (.ext (exP a C))
structure Rl (K:PySem.W.Frag) (G:List Addr) (φ:List Addr) (h:AH) (H:Hp):Prop where
 len:φ.length=h.length
 glob:Ext G φ
 obj:∀ (i:Nat) o a,h[i]?=some o -> φ[i]?=some a -> ro K φ H a o
 inj:∀ (i j:Nat) x y a,x.mu=true -> y.mu=true -> h[i]?=some x -> h[j]?=some y -> φ[i]?=some a -> φ[j]?=some a -> i=j
section
variable {K:PySem.W.Frag} {G φ φ':List Addr} {h:AH} {H H':Hp} {a b p:Addr}
theorem qGf {xs:List V} (s:qDx H H') (q:SqT K H a xs):SqT K H' a xs:=by
 rcases q with (h | ⟨o,h⟩) | h
 ·exact .inl (.inl (s _ _ h))
 ·exact .inl (.inr ⟨o,s _ _ h⟩)
 ·exact .inr h
theorem qGm {xs:List V} (q:SqL K (fun _=>none) a xs):SqL K H a xs:=by
 rcases q with (h | ⟨o,h⟩) | h
 ·cases h
 ·cases h
 ·exact .inr h
theorem qBv {o:HO} (hp:H p=none):qDx H (upd H p o):=fun b u e=>by rw [qAH (L2.ne_of_none e hp)];exact e
theorem ro.keep {o:O} (x:Ext φ φ') (s:qDx H H') (r:ro K φ H a o):ro K φ' H' a o:=by
 match o,r with
 | .lst false xs,⟨ys,e,r⟩=>exact ⟨ys,s _ _ e,rvs.mono x r⟩
 | .lst true xs,⟨ys,.inl ⟨o,e⟩,r⟩=>exact ⟨ys,.inl ⟨o,s _ _ e⟩,rvs.mono x r⟩
 | .lst true xs,⟨ys,.inr e,r⟩=>exact ⟨ys,.inr e,rvs.mono x r⟩
 | .tup xs,⟨ys,e,r⟩=>exact ⟨ys,qGf s e,rvs.mono x r⟩
 | .ob (.dct _),e=>exact s _ _ e
 | .ob (.exn _),⟨C,e1,e2⟩=>exact ⟨C,e1,s _ _ e2⟩
noncomputable def Wr (w:HO):Prop:=(∃ zs,w=.lst zs)\/∃ ks,w=.dK ks
theorem ro.wr {o:O} (m:o.mu=true) (r:ro K φ H a o):∃ w,H a=some w/\Wr w:=by
 match o,m,r with
 | .lst false xs,_,⟨ys,e,r⟩=>exact ⟨_,e,.inl ⟨_,rfl⟩⟩
 | .ob (.dct _),_,e=>exact ⟨_,e,.inr ⟨_,rfl⟩⟩
theorem Wr.ne {w v:HO} (h:Wr w) (e:H a=some v) (hb:H b=some w) (h1:∀ zs,v≠.lst zs) (h2:∀ ks,v≠.dK ks):a≠b:=fun z=>by
 subst z
 rw [e] at hb;cases hb
 rcases h with ⟨zs,rfl⟩ | ⟨ks,rfl⟩
 ·exact h1 _ rfl
 ·exact h2 _ rfl
theorem ro.other {o:O} {w w':HO} (hw:Wr w) (hb:H b=some w) (hne:o.mu=true -> a≠b) (r:ro K φ H a o):ro K φ (upd H b w') a o:=by
 match o,r with
 | .lst false xs,⟨ys,e,r⟩=>exact ⟨ys,by rw [qAH (hne rfl)];exact e,r⟩
 | .lst true xs,⟨ys,.inl ⟨o,e⟩,r⟩=>exact ⟨ys,.inl ⟨o,by rw [qAH (hw.ne e hb (fun _ z=>by cases z) (fun _ z=>by cases z))];exact e⟩,r⟩
 | .lst true xs,⟨ys,.inr e,r⟩=>exact ⟨ys,.inr e,r⟩
 | .tup xs,⟨ys,e,r⟩=>
  refine ⟨ys,?_,r⟩
  rcases e with (h | ⟨o,h⟩) | h
  ·exact .inl (.inl (by rw [qAH (hw.ne h hb (fun _ z=>by cases z) (fun _ z=>by cases z))];exact h))
  ·exact .inl (.inr ⟨o,by rw [qAH (hw.ne h hb (fun _ z=>by cases z) (fun _ z=>by cases z))];exact h⟩)
  ·exact .inr h
 | .ob (.dct _),e=>exact (by show upd H b _ a=_;rw [qAH (hne rfl)];exact e)
 | .ob (.exn _),⟨C,e1,e2⟩=>exact ⟨C,e1,by rw [qAH (hw.ne e2 hb (fun _ z=>by cases z) (fun _ z=>by cases z))];exact e2⟩
theorem Rl.at (R:Rl K G φ h H) {i:Nat} {o:O} (e:h[i]?=some o):∃ a,φ[i]?=some a/\ro K φ H a o:=by
 have hi:i < φ.length:=by rw [R.len];exact (List.getElem?_eq_some_iff.mp e).1
 exact ⟨φ[i],List.getElem?_eq_getElem hi,R.obj i o _ e (List.getElem?_eq_getElem hi)⟩
theorem Rl.new (R:Rl K G φ h H) (hp:H p=none) {o:O} {ob:HO} (n:ro K (φ++[p]) (upd H p ob) p o):Rl K G (φ++[p]) (h++[o]) (upd H p ob):=by
 have x:Ext φ (φ++[p]):=⟨[p],rfl⟩
 refine ⟨by simp [R.len],R.glob.trans x,fun i u a e1 e2=>?_,fun i j xs ys a m1 m2 e1 e2 e3 e4=>?_⟩
 ·by_cases hi:i < h.length
  ·rw [List.getElem?_append_left hi] at e1
   rw [List.getElem?_append_left (by rw [R.len];exact hi)] at e2
   exact (R.obj i u a e1 e2).keep x (qBv hp)
  ·have hi':i=h.length:=by
    have:=(List.getElem?_eq_some_iff.mp e1).1
    simp at this
    omega
   subst hi'
   simp at e1
   rw [<- R.len] at e2
   simp at e2
   subst e1 e2
   exact n
 ·have lt:∀ {k:Nat} {z:O},(h++[o])[k]?=some z -> (h[k]?=some z/\k < h.length)\/k=h.length:=fun {k zs} e=>by
   by_cases hk:k < h.length
   ·rw [List.getElem?_append_left hk] at e
    exact .inl ⟨e,hk⟩
   ·have:=(List.getElem?_eq_some_iff.mp e).1
    simp at this
    exact .inr (by omega)
  have old:∀ {k:Nat} {b:Addr},k < h.length -> (φ++[p])[k]?=some b -> φ[k]?=some b:=fun {k b} hk e=>by
   rwa [List.getElem?_append_left (by rw [R.len];exact hk)] at e
  have newA:∀ {b:Addr},(φ++[p])[h.length]?=some b -> b=p:=fun {b} e=>by
   rw [<- R.len] at e
   simp at e
   exact e.symm
  rcases lt e1 with ⟨e1,h1⟩ | rfl<;>rcases lt e2 with ⟨e2,h2⟩ | rfl
  ·exact R.inj i j xs ys a m1 m2 e1 e2 (old h1 e3) (old h2 e4)
  ·have ea:=newA e4
   subst ea
   obtain ⟨w,hz,_⟩:=(R.obj i _ a e1 (old h1 e3)).wr m1
   rw [hp] at hz;cases hz
  ·have ea:=newA e3
   subst ea
   obtain ⟨w,hz,_⟩:=(R.obj j _ a e2 (old h2 e4)).wr m2
   rw [hp] at hz;cases hz
  ·rfl
theorem Rl.more (R:Rl K G φ h H) (hp:H p=none) {ob:HO}:Rl K G φ h (upd H p ob):=
 ⟨R.len,R.glob,fun i u a e1 e2=>(R.obj i u a e1 e2).keep (Ext.refl _) (qBv hp),R.inj⟩
theorem Rl.exn (R:Rl K G φ h H) {i:Nat} {x:Str} (e:qJQ h i=some x):∃ a C,φ[i]?=some a/\PySem.W.nsIn K mainGlobals x=some (some (.ref C))/\H a=some (.ext (exP a C)):=by
 unfold qJQ at e
 split at e
 ·rename_i c q
  cases e
  obtain ⟨a,ea,C,r1,r2⟩:=R.at q
  exact ⟨a,C,ea,r1,r2⟩
 ·cases e
theorem Rl.newL (R:Rl K G φ h H) (hp:H p=none) {xs ys:List V} (r:rvs φ xs ys):Rl K G (φ++[p]) (h++[.lst false xs]) (upd H p (.lst ys)):=
 R.new hp ⟨ys,qAI,rvs.mono ⟨[p],rfl⟩ r⟩
theorem Rl.newT (R:Rl K G φ h H) (hp:H p=none) {xs ys:List V} (r:rvs φ xs ys):Rl K G (φ++[p]) (h++[.tup xs]) (upd H p (.tup ys)):=
 R.new hp ⟨ys,.inl (.inl qAI),rvs.mono ⟨[p],rfl⟩ r⟩
theorem Rl.lastRef (R:Rl K G φ h H):(φ++[p])[h.length]?=some p:=by rw [<- R.len];simp
theorem Rl.write (R:Rl K G φ h H) {i:Nat} {x y:O} {w':HO} (mx:x.mu=true) (my:y.mu=true) (e:h[i]?=some x) (ea:φ[i]?=some a) (n:ro K φ (upd H a w') a y):Rl K G φ (h.set i y) (upd H a w'):=by
 have hi:=(List.getElem?_eq_some_iff.mp e).1
 obtain ⟨w,hw,ww⟩:=(R.obj i _ a e ea).wr mx
 have lk:∀ {k:Nat} {z:O},z.mu=true -> (h.set i y)[k]?=some z -> ∃ z',z'.mu=true/\h[k]?=some z':=fun {k zs} m q=>by
  by_cases hk:k=i
  ·subst hk;exact ⟨x,mx,e⟩
  ·rw [List.getElem?_set_ne (Ne.symm hk)] at q;exact ⟨zs,m,q⟩
 refine ⟨by simp [R.len],R.glob,fun k u b e1 e2=>?_,fun k l us vs b m1 m2 e1 e2 e3 e4=>?_⟩
 ·by_cases hk:k=i
  ·subst hk
   rw [List.getElem?_set_self hi] at e1
   rw [ea] at e2
   cases e1
   cases e2
   exact n
  ·rw [List.getElem?_set_ne (Ne.symm hk)] at e1
   refine (R.obj k u b e1 e2).other ww hw fun mu hb=>?_
   subst hb
   exact hk (R.inj k i u x b mu mx e1 e e2 ea)
 ·obtain ⟨z1,n1,q1⟩:=lk m1 e1
  obtain ⟨z2,n2,q2⟩:=lk m2 e2
  exact R.inj k l z1 z2 b n1 n2 q1 q2 e3 e4
theorem Rl.set (R:Rl K G φ h H) {i:Nat} {xs ys zs:List V} (e:h[i]?=some (.lst false xs)) (ea:φ[i]?=some a) (r:rvs φ ys zs):Rl K G φ (h.set i (.lst false ys)) (upd H a (.lst zs)):=
 R.write rfl rfl e ea ⟨zs,qAI,r⟩
theorem Rl.dct (R:Rl K G φ h H) {i:Nat} {kvs:List (Int×V)} (e:qGp h i=some kvs):∃ a,φ[i]?=some a/\h[i]?=some (.ob (.dct kvs))/\H a=some (.dK (kvs.map kk)):=by
 unfold qGp at e
 split at e
 ·rename_i zs q
  cases e
  obtain ⟨a,ea,r⟩:=R.at q
  exact ⟨a,ea,q,r⟩
 ·cases e
theorem Rl.lst (R:Rl K G φ h H) {i:Nat} {xs:List V} (e:qAE h i=some xs):∃ a ys,φ[i]?=some a/\SqL K H a ys/\rvs φ xs ys:=by
 unfold qAE at e
 split at e
 ·rename_i fz zs q
  cases e
  obtain ⟨a,ea,r⟩:=R.at q
  cases fz with
  | false=>obtain ⟨ys,e,r⟩:=r;exact ⟨a,ys,ea,.inl (.inl e),r⟩
  | true=>
   obtain ⟨ys,e,r⟩:=r
   rcases e with ⟨o,e⟩ | e
   ·exact ⟨a,ys,ea,.inl (.inr ⟨o,e⟩),r⟩
   ·exact ⟨a,ys,ea,qGm e,r⟩
 ·cases e
theorem Rl.tup (R:Rl K G φ h H) {i:Nat} {xs:List V} (e:qAV h i=some xs):∃ a ys,φ[i]?=some a/\SqT K H a ys/\rvs φ xs ys:=by
 unfold qAV at e
 split at e
 ·rename_i zs q
  cases e
  obtain ⟨a,ea,ys,e,r⟩:=R.at q
  exact ⟨a,ys,ea,e,r⟩
 ·cases e
theorem Rl.mut (R:Rl K G φ h H) {i:Nat} {xs:List V} (e:qAW h i=some xs):h[i]?=some (.lst false xs)/\∃ a ys,φ[i]?=some a/\H a=some (.lst ys)/\rvs φ xs ys:=by
 unfold qAW at e
 split at e
 ·rename_i zs q
  cases e
  obtain ⟨a,ea,ys,e,r⟩:=R.at q
  exact ⟨q,a,ys,ea,e,r⟩
 ·cases e
theorem Rl.its (R:Rl K G φ h H) {i:Nat} {xs:List V} (e:items h i=some xs):∃ a ys,φ[i]?=some a/\(SqL K H a ys\/SqT K H a ys)/\rvs φ xs ys:=by
 unfold items at e
 split at e
 ·rename_i fz zs q
  cases e
  obtain ⟨a,ys,h1,h2,h3⟩:=R.lst (i:=i) (xs:=xs) (by unfold qAE;rw [q])
  exact ⟨a,ys,h1,.inl h2,h3⟩
 ·rename_i zs q
  cases e
  obtain ⟨a,ys,h1,h2,h3⟩:=R.tup (i:=i) (xs:=xs) (by unfold qAV;rw [q])
  exact ⟨a,ys,h1,.inr h2,h3⟩
 ·cases e
end
end PI
namespace PI
open PySem PySem.Spec PyProof.Rows
open L2 (V Hp HO Cx PE PT PA PS PSs PG TE TT TA TS VK upd qAI qAH SqL SqT qDx Inv RelV Vals EP TP AP SP OpR qAq R2)
theorem Res.bind_inv {α β:Type} {r:Res α} {f:α -> Res β} {x:β} (h:r.bind f=.ok x):∃ a,r=.ok a/\f a=.ok x:=by
 cases r with
 | ok a=>exact ⟨a,rfl,h⟩
 | exc c h'=>cases h
 | stuck=>cases h
theorem qAD {φ:List Addr} {i:Int} {w:V} (h:rv φ (.int i) w):w=.int i:=by
 cases w with
 | int j=>exact congrArg V.int (show i=j from h).symm
 | _=>exact False.elim h
theorem qAw {φ:List Addr} {i:Bool} {w:V} (h:rv φ (.bl i) w):w=.bl i:=by
 cases w with
 | bl j=>exact congrArg V.bl (show i=j from h).symm
 | _=>exact False.elim h
theorem qA9 {φ:List Addr} {i:Str} {w:V} (h:rv φ (.str i) w):w=.str i:=by
 cases w with
 | str j=>exact congrArg V.str (show i=j from h).symm
 | _=>exact False.elim h
theorem qAv {φ:List Addr} {w:V} (h:rv φ .non w):w=.non:=by
 cases w with
 | non=>rfl
 | _=>exact False.elim h
theorem qAL {φ:List Addr} {i:Nat} {w:V} (h:rv φ (.ref i) w):∃ a,w=.ref a/\φ[i]?=some a:=by
 cases w with
 | ref j=>exact ⟨j,rfl,h⟩
 | _=>exact False.elim h
section
variable (K:PySem.W.Frag) (G:List Addr) (F:Nat -> List V -> AH -> RV)
noncomputable def tE (e:E):TE:=fun σc H Q=>∃ φ h σ v h',Rl K G φ h H/\rst φ σ σc/\ev F e σ h=.ok (v,h')/\∀ φ' H' w,Ext φ φ' -> Rl K G φ' h' H' -> rv φ' v w -> Q w H'
noncomputable def tB (r:St -> AH -> Res (Bool×AH)):TT:=fun σc H Q=>∃ φ h σ b h',Rl K G φ h H/\rst φ σ σc/\r σ h=.ok (b,h')/\∀ φ' H',Ext φ φ' -> Rl K G φ' h' H' -> Q b H'
noncomputable abbrev tT (e:E):TT:=tB K G (fun σ h=>asB (ev F e σ h))
noncomputable def tL (as:Es):TA:=fun σc H Q=>∃ φ h σ vs h',Rl K G φ h H/\rst φ σ σc/\evs F as σ h=.ok (vs,h')/\∀ φ' H' ws,Ext φ φ' -> Rl K G φ' h' H' -> rvs φ' vs ws -> Q ws H'
end
section
variable {X:Cx} {G:List Addr} {F:Nat -> List V -> AH -> RV}
theorem qAf {e:Expr} {t t':TE} (h:PE X e t) (w:∀ σ H Q,t' σ H Q -> t σ H Q):PE X e t':=fun pins s σ H Q I q=>h pins s σ H Q I (w σ H Q q)
theorem qFm {e:Expr} {t t':TT} (h:PT X e t) (w:∀ σ H Q,t' σ H Q -> t σ H Q):PT X e t':=fun pins s σ H Q I q=>h pins s σ H Q I (w σ H Q q)
theorem qJc {e:List Expr} {t t':TA} (h:PA X e t) (w:∀ σ H Q,t' σ H Q -> t σ H Q):PA X e t':=fun pos pins s σ H Q I q=>h pos pins s σ H Q I (w σ H Q q)
variable (X G F) in
noncomputable abbrev SE (e:Expr) (a:E):Prop:=PE X e (tE X.K G F a)
variable (X G F) in
noncomputable abbrev ST (e:Expr) (a:E):Prop:=PT X e (tT X.K G F a)
variable (X G F) in
noncomputable abbrev SA (es:List Expr) (as:Es):Prop:=PA X es (tL X.K G F as)
variable {K:PySem.W.Frag} {φ φ':List Addr} {h h1 h2:AH} {H:Hp} {σ σc:St} {a b:E} {x y:V}
theorem qBi (R:Rl K G φ h H) (rs:rst φ σ σc) (ea:ev F a σ h=.ok (x,h1)) (eb:ev F b σ h1=.ok (y,h2)) {Rr:V -> V -> Hp -> Prop}
  (k:∀ φ2 H2 xc yc,Ext φ φ2 -> Rl K G φ2 h2 H2 -> rv φ2 x xc -> rv φ2 y yc -> Rr xc yc H2):tE K G F a σc H (fun xc H1=>tE K G F b σc H1 (fun yc H2=>Rr xc yc H2)):=
 ⟨φ,h,σ,x,h1,R,rs,ea,fun φ1 H1 xc e1 R1 r1=>⟨φ1,h1,σ,y,h2,R1,rst.mono e1 rs,eb,fun φ2 H2 yc e2 R2 r2=>k φ2 H2 xc yc (e1.trans e2) R2 (rv.mono e2 r1) r2⟩⟩
theorem qJn {i:Nat} {n:Str} {pos:Pos} (hN:X.N[i]?=some n) (hv:L2.Vis X.env.scope n) (hd:(n==("__debug__":Str))=false) (hcd:(n==("__classdict__":Str))=false):SE X G F (.Name n pos) (.var i):=by
 refine qAf (L2.pe_var hN hv hd hcd) fun σc H Q q=>?_
 obtain ⟨φ,h,σ,v,h',R,rs,e,k⟩:=q
 unfold ev at e
 split at e
 ·rename_i w q
  cases e
  obtain ⟨oc,ec,r⟩:=qAC rs q
  obtain ⟨u,rfl,r⟩:=r
  exact ⟨u,ec,k φ H u (.refl _) R r⟩
 ·cases e
theorem qF3 {v:V} {w:V} {σc:St} {H:Hp} {Q:VK} (hr:∀ φ,rv φ v w) (q:tE K G F (.cst v) σc H Q):L2.tC w σc H Q:=by
 obtain ⟨φ,h,σ,v',h',R,rs,e,k⟩:=q
 unfold ev at e
 cases e
 exact k φ H w (.refl _) R (hr φ)
theorem qG4 {i j pos}:SE X G F (.Constant (.int i) j pos) (.cst (.int i)):=qAf L2.pe_int fun _ _ _=>qF3 fun _=>rfl
theorem qId {i j pos}:SE X G F (.Constant (.bool i) j pos) (.cst (.bl i)):=qAf L2.pe_bl fun _ _ _=>qF3 fun _=>rfl
theorem qHI {j pos}:SE X G F (.Constant .none j pos) (.cst .non):=qAf L2.pe_non fun _ _ _=>qF3 fun _=>trivial
theorem qHJ {i j pos}:SE X G F (.Constant (.str i) j pos) (.cst (.str i)):=qAf L2.pe_str fun _ _ _=>qF3 fun _=>rfl
theorem qHf {n:Str} {v:V} {u:Value} {pos:Pos} (hg:L2.Gl X n) (hm:X.mg n=some u) (r:RelV v u) (hv:∀ φ,rv φ v v) (hd:(n==("__debug__":Str))=false):SE X G F (.Name n pos) (.cst v):=
 qAf (L2.pe_glob hg hm r hd) fun _ _ _=>qF3 hv
theorem qIG {n:Str} {g:Nat} {a:Addr} {pos:Pos} (hg:L2.Gl X n) (hm:X.mg n=some (.ref a)) (hG:G[g]?=some a) (hd:(n==("__debug__":Str))=false):SE X G F (.Name n pos) (.glob g):=by
 refine qAf (L2.pe_glob (v:=.ref a) hg hm rfl hd) fun σc H Q q=>?_
 obtain ⟨φ,h,σ,v',h',R,rs,e,k⟩:=q
 unfold ev at e
 cases e
 exact k φ H (.ref a) (.refl _) R (R.glob.get hG)
noncomputable def opB:BOp -> Operator
 | .add=>.Add | .sub=>.Sub | .mul=>.Mult | .fdiv=>.FloorDiv | .mod=>.Mod | .pow=>.Pow
noncomputable def qLr (i j:Int):Prop:=j≠0/\j.natAbs.log2 < 9000
theorem qGs:OpR X (binaryOp .FloorDiv) (L2.rI qLr fun i j=>.int (i.fdiv j)):=L2.opI fun _ _ _ _ _ _ _ hc q=>floordiv_int hc.1 q (.inl (PyProof.noPylong_of_log2 hc.2))
noncomputable def qLW (i j:Int):Prop:=i.natAbs.log2 < 9000/\j.natAbs.log2 < 9000
theorem qEK {i:Int} (h:i.natAbs.log2 < 9000):Builtin.Int.intBits i<=2 ^ 20:=by
 unfold Builtin.Int.intBits
 have e:(2:Nat) ^ 20=1048576:=by decide
 rw [e]
 split<;>omega
theorem qHm:OpR X (binaryOp .Mult) (L2.rI qLW fun i j=>.int (i * j)):=L2.opI fun _ _ _ _ _ _ _ hc q=>mul_int q (IntMulOk.of_bits (qEK hc.1) (qEK hc.2))
theorem qEo {i:Int} (h:mid i=true):i.natAbs.log2 < 9000:=of_decide_eq_true h
noncomputable def qLJ (K:PySem.W.Frag):BOp -> R2
 | .add=>fun x y H Q=>(L2.rI0 (fun i j=>.int (i + j)) x y H Q\/L2.rCat x y H Q)\/L2.rCatT K x y H Q
 | .sub=>L2.rI0 fun i j=>.int (i - j)
 | .mul=>fun x y H Q=>(L2.rI L2.CMul (fun i j=>.int (i * j)) x y H Q\/L2.rRep x y H Q)\/L2.rI qLW (fun i j=>.int (i * j)) x y H Q
 | .fdiv=>fun x y H Q=>L2.rI L2.CDiv (fun i j=>.int (i / j)) x y H Q\/L2.rI qLr (fun i j=>.int (i.fdiv j)) x y H Q
 | .mod=>fun x y H Q=>L2.rI (fun _ j=>0 < j) (fun i j=>.int (i % j)) x y H Q\/L2.rI (fun _ j=>j≠0) (fun i j=>.int (i.fmod j)) x y H Q
 | .pow=>L2.rI L2.CPow fun i j=>.int (i ^ j.toNat)
theorem qHh:∀ op,OpR X (binaryOp (opB op)) (qLJ X.K op)
 | .add=>(L2.op_add.or L2.op_cat).or L2.op_catT
 | .sub=>L2.op_sub
 | .mul=>(L2.op_mul.or L2.op_rep).or qHm
 | .fdiv=>L2.op_fdiv.or qGs
 | .mod=>L2.op_mod.or L2.op_modN
 | .pow=>L2.op_pow
theorem qBu:lim<=sizeLine:=by decide
theorem qG5:lim < sizeLine:=by decide
theorem qEk {i:Int} (h:qCC i=true):-(2 ^ 64) < i/\i < 2 ^ 64:=by
 unfold qCC two64 at h
 have:=of_decide_eq_true h
 omega
theorem qHy {op:BOp} {v xc yc:V} {h':AH} {Q:VK} (e:qJR op x y h=.ok (v,h')) (R:Rl K G φ h H) (rx:rv φ x xc) (ry:rv φ y yc)
  (k:∀ φ' H' w,Ext φ φ' -> Rl K G φ' h' H' -> rv φ' v w -> Q w H'):qLJ K op xc yc H Q:=by
 cases op with
 | add=>
  dsimp only [qJR] at e
  split at e
  ·replace e:=qBT e
   obtain ⟨b,rfl,e⟩:=e
   split at e
   ·rename_i xs ys e1 e2
    split at e
    ·rename_i hl
     cases e
     obtain ⟨q1,a1,ys1,ha1,hH1,r1⟩:=R.mut e1
     obtain ⟨q2,a2,ys2,ha2,hH2,r2⟩:=R.mut e2
     obtain ⟨b1,rfl,hb1⟩:=qAL rx
     obtain ⟨b2,rfl,hb2⟩:=qAL ry
     rw [ha1] at hb1;cases hb1
     rw [ha2] at hb2;cases hb2
     refine .inl (.inr ⟨a1,a2,ys1,ys2,rfl,rfl,hH1,hH2,?_,fun p hp=>k (φ++[p]) _ _ ⟨[p],rfl⟩ (R.newL hp (qAP r1 r2)) R.lastRef⟩)
     have l1:=Paired.length r1
     have l2:=Paired.length r2
     have:=qBu
     omega
    ·cases e
   ·split at e
    ·rename_i xs ys e1 e2
     split at e
     ·rename_i hl
      obtain ⟨a1,ys1,ha1,hH1,r1⟩:=R.tup e1
      obtain ⟨a2,ys2,ha2,hH2,r2⟩:=R.tup e2
      obtain ⟨b1,rfl,hb1⟩:=qAL rx
      obtain ⟨b2,rfl,hb2⟩:=qAL ry
      rw [ha1] at hb1;cases hb1
      rw [ha2] at hb2;cases hb2
      have l1:=Paired.length r1
      have l2:=Paired.length r2
      refine .inr ⟨a1,a2,ys1,ys2,rfl,rfl,hH1,hH2,?_,?_,fun z=>?_,fun z p hp=>?_⟩
      ·rintro rfl
       exact hl.1 (List.length_eq_zero_iff.mp l1)
      ·have:=qBu
       omega
      ·subst z
       rw [if_pos (List.length_eq_zero_iff.mp l2)] at e
       cases e
       exact k φ H _ (.refl _) R ha1
      ·rw [if_neg (fun q=>z (by subst q;exact List.length_eq_zero_iff.mp l2.symm))] at e
       cases e
       exact k (φ++[p]) _ _ ⟨[p],rfl⟩ (R.newT hp (qAP r1 r2)) R.lastRef
     ·cases e
    ·cases e
  ·replace e:=qAr e
   obtain ⟨i,j,rfl,rfl,e⟩:=e
   cases e;cases qAD rx;cases qAD ry
   exact .inl (.inl ⟨_,_,rfl,rfl,k φ H _ (.refl _) R rfl⟩)
 | sub=>
  replace e:=qAr e
  obtain ⟨i,j,rfl,rfl,e⟩:=e
  cases e;cases qAD rx;cases qAD ry
  exact ⟨_,_,rfl,rfl,k φ H _ (.refl _) R rfl⟩
 | mul=>
  dsimp only [qJR] at e
  split at e
  ·split at e
   ·split at e
    ·rename_i xs e1
     split at e
     ·rename_i hl
      obtain ⟨h0,hl,h3⟩:=hl
      cases e
      obtain ⟨q1,a1,ys1,ha1,hH1,r1⟩:=R.mut e1
      obtain ⟨b1,rfl,hb1⟩:=qAL rx
      rw [ha1] at hb1;cases hb1
      cases qAD ry
      refine .inl (.inr ⟨a1,_,ys1,rfl,rfl,hH1,by omega,by omega,?_,fun p hp=>k (φ++[p]) _ _ ⟨[p],rfl⟩ (R.newL hp (qCm r1 _)) R.lastRef⟩)
      have l1:=Paired.length r1
      have:=qBu
      rw [<- l1]
      omega
     ·cases e
    ·cases e
   ·cases e
  ·replace e:=qAr e
   obtain ⟨i,j,rfl,rfl,e⟩:=e
   split at e
   ·rename_i hs
    cases e;cases qAD rx;cases qAD ry
    rw [Bool.or_eq_true,Bool.or_eq_true,Bool.and_eq_true] at hs
    rcases hs with (z | z) | z
    ·exact .inl (.inl ⟨_,_,rfl,rfl,.inl (qEk z),k φ H _ (.refl _) R rfl⟩)
    ·exact .inl (.inl ⟨_,_,rfl,rfl,.inr (qEk z),k φ H _ (.refl _) R rfl⟩)
    ·exact .inr ⟨_,_,rfl,rfl,⟨qEo z.1,qEo z.2⟩,k φ H _ (.refl _) R rfl⟩
   ·cases e
 | fdiv=>
  replace e:=qAr e
  obtain ⟨i,j,rfl,rfl,e⟩:=e
  split at e
  ·rename_i hc
   cases e;cases qAD rx;cases qAD ry
   rcases hc.2 with z | z
   ·exact .inl ⟨_,_,rfl,rfl,⟨hc.1,z⟩,k φ H _ (.refl _) R rfl⟩
   ·refine .inr ⟨_,_,rfl,rfl,⟨by omega,qEo z⟩,?_⟩
    dsimp only
    rw [Int.fdiv_eq_ediv_of_nonneg _ (by omega)]
    exact k φ H _ (.refl _) R rfl
  ·split at e
   ·rename_i hc
    cases e;cases qAD rx;cases qAD ry
    exact .inr ⟨_,_,rfl,rfl,⟨by omega,qEo hc.2⟩,k φ H _ (.refl _) R rfl⟩
   ·cases e
 | mod=>
  replace e:=qAr e
  obtain ⟨i,j,rfl,rfl,e⟩:=e
  split at e
  ·rename_i hc
   cases e;cases qAD rx;cases qAD ry
   exact .inl ⟨_,_,rfl,rfl,hc,k φ H _ (.refl _) R rfl⟩
  ·split at e
   ·rename_i hc
    cases e;cases qAD rx;cases qAD ry
    exact .inr ⟨_,_,rfl,rfl,(by omega),k φ H _ (.refl _) R rfl⟩
   ·cases e
 | pow=>
  replace e:=qAr e
  obtain ⟨i,j,rfl,rfl,e⟩:=e
  split at e
  ·rename_i hc
   cases e;cases qAD rx;cases qAD ry
   refine ⟨_,_,rfl,rfl,⟨hc.1,by omega,by omega⟩,k φ H _ (.refl _) R rfl⟩
  ·cases e
theorem qJq {op:BOp} {ea eb:Expr} {pos:Pos} (ha:SE X G F ea a) (hb:SE X G F eb b):SE X G F (.BinOp ea (opB op) eb pos) (.bin op a b):=by
 refine qAf (L2.pe_op (qHh op) ha hb) fun σc H Q q=>?_
 obtain ⟨φ,h,σ,v,h',R,rs,e,k⟩:=q
 unfold ev at e
 obtain ⟨⟨x,h1⟩,e1,e⟩:=Res.bind_inv e
 obtain ⟨⟨y,h2⟩,e2,e⟩:=Res.bind_inv e
 exact qBi R rs e1 e2 fun φ2 H2 xc yc x2 R2 r1 r2=>qHy e R2 r1 r2 fun φ' H' w x' R' r'=>k φ' H' w (x2.trans x') R' r'
theorem qJL {ea:Expr} {pos:Pos} (ha:SE X G F ea a):SE X G F (.UnaryOp .USub ea pos) (.neg a):=by
 refine qAf (L2.pe_un L2.un_neg ha) fun σc H Q q=>?_
 obtain ⟨φ,h,σ,v,h',R,rs,e,k⟩:=q
 unfold ev at e
 obtain ⟨⟨x,h1⟩,e1,e⟩:=Res.bind_inv e
 refine ⟨φ,h,σ,x,h1,R,rs,e1,fun φ1 H1 xc x1 R1 r1=>?_⟩
 dsimp only at e
 split at e
 ·cases e
  cases qAD r1
  exact ⟨_,rfl,k φ1 H1 _ x1 R1 rfl⟩
 ·cases e
end
end PI
namespace PI
open PySem PySem.Spec PyProof.Rows PySem.SeqAt
open L2 (V Hp HO Cx PE PT PA PS PSs PG TE TT TA TS VK upd qAI qAH SqL SqT qDx Inv RelV Vals EP TP AP SP OpR qAq R2)
structure Eq3 (A:Around) (s:Shared) (u w:Value) (b:Bool):Prop where
 eq:EqAt A s u w b
 rc:RcAt A s u w b
 ne:RcNeAt A s u w (!b)
theorem qDb {A:Around} {s:Shared} {φ:List Addr}:∀ {x y xc yc:V} {u w:Value} {b:Bool},eqF x y=some b -> rv φ x xc -> rv φ y yc -> RelV xc u -> RelV yc w -> Eq3 A s u w b:=by
 intro x y xc yc u w b e rx ry ru rw'
 cases x with
 | non=>
  cases qAv rx;cases ru
  cases y with
  | non=>cases qAv ry;cases rw';cases e;exact ⟨.same _,.none_none,.none_none⟩
  | bl j=>cases qAw ry;cases rw';cases e;exact ⟨.none_bool _,.none_bool _,.none_bool _⟩
  | int j=>cases qAD ry;obtain ⟨t,rfl⟩:=rw';cases e;exact ⟨.none_int _ _,.none_int _ _,.none_int _ _⟩
  | str j=>cases qA9 ry;obtain ⟨t,rfl⟩:=rw';cases e;exact ⟨.none_str _ _,.none_str _ _,.none_str _ _⟩
  | _=>cases e
 | bl i=>
  cases qAw rx;cases ru
  cases y with
  | non=>cases qAv ry;cases rw';cases e;exact ⟨.bool_none _,.bool_none _,.bool_none _⟩
  | bl j=>cases qAw ry;cases rw';cases e;exact ⟨.bool_bool _ _,.bool_bool _ _,.bool_bool _ _⟩
  | int j=>cases qAD ry;obtain ⟨t,rfl⟩:=rw';cases e;exact ⟨.bool_int _ _ _,.bool_int _ _ _,.bool_int _ _ _⟩
  | str j=>cases qA9 ry;obtain ⟨t,rfl⟩:=rw';cases e;exact ⟨.bool_str _ _ _,.bool_str _ _ _,.bool_str _ _ _⟩
  | _=>cases e
 | int i=>
  cases qAD rx;obtain ⟨t,rfl⟩:=ru
  cases y with
  | non=>cases qAv ry;cases rw';cases e;exact ⟨.int_none _ _,.int_none _ _,.int_none _ _⟩
  | bl j=>cases qAw ry;cases rw';cases e;exact ⟨.int_bool _ _ _,.int_bool _ _ _,.int_bool _ _ _⟩
  | int j=>cases qAD ry;obtain ⟨t,rfl⟩:=rw';cases e;exact ⟨.int_int _ _ _ _,.int_int _ _ _ _,.int_int _ _ _ _⟩
  | str j=>cases qA9 ry;obtain ⟨t,rfl⟩:=rw';cases e;exact ⟨.int_str _ _ _ _,.int_str _ _ _ _,.int_str _ _ _ _⟩
  | _=>cases e
 | str i=>
  cases qA9 rx;obtain ⟨t,rfl⟩:=ru
  cases y with
  | non=>cases qAv ry;cases rw';cases e;exact ⟨.str_none _ _,.str_none _ _,.str_none _ _⟩
  | bl j=>cases qAw ry;cases rw';cases e;exact ⟨.str_bool _ _ _,.str_bool _ _ _,.str_bool _ _ _⟩
  | int j=>cases qAD ry;obtain ⟨t,rfl⟩:=rw';cases e;exact ⟨.str_int _ _ _ _,.str_int _ _ _ _,.str_int _ _ _ _⟩
  | str j=>cases qA9 ry;obtain ⟨t,rfl⟩:=rw';cases e;exact ⟨.str_str _ _ _ _,.str_str _ _ _ _,.str_str _ _ _ _⟩
  | _=>cases e
 | _=>cases y<;>cases e
theorem qEi {φ:List Addr} {x y w:V} {b:Bool} (e:eqF x y=some b) (rx:rv φ x w) (ry:rv φ y w):b=true:=by
 cases x with
 | non=>cases qAv rx;cases y<;>first | exact False.elim ry | (cases e;rfl) | cases e
 | bl i=>cases qAw rx;cases y<;>first | exact False.elim ry | (rename_i j;cases (show j=i from ry);cases e;simp) | cases e
 | int i=>cases qAD rx;cases y<;>first | exact False.elim ry | (rename_i j;cases (show j=i from ry);cases e;simp) | cases e
 | str i=>cases qA9 rx;cases y<;>first | exact False.elim ry | (rename_i j;cases (show j=i from ry);cases e;simp) | cases e
 | _=>cases y<;>cases e
theorem qCS {f:V -> V -> Option Bool}:∀ {xs ys:List V} {bs:List Bool},qCi f xs ys=some bs -> bs.length=xs.length/\ys.length=xs.length/\∀ (j:Nat) x y,xs[j]?=some x -> ys[j]?=some y -> ∃ b,bs[j]?=some b/\f x y=some b
 | [],[],bs,e=>by
  cases e
  exact ⟨rfl,rfl,fun j x y h=>by simp at h⟩
 | [],_::_,_,e=>by cases e
 | _::_,[],_,e=>by cases e
 | x::xs,y::ys,bs,e=>by
  unfold qCi at e
  split at e
  ·rename_i b bs' e1 e2
   cases e
   obtain ⟨l1,l2,k⟩:=qCS e2
   refine ⟨by simp [l1],by simp [l2],fun j u v h1 h2=>?_⟩
   cases j with
   | zero=>simp at h1 h2;subst h1 h2;exact ⟨b,rfl,e1⟩
   | succ j=>obtain ⟨b',h3,h4⟩:=k j u v (by simpa using h1) (by simpa using h2);exact ⟨b',by simpa using h3,h4⟩
  ·cases e
theorem qDd (bs:List Bool):(List.range bs.length).all (fun j=>bs.getD j true)=bs.all id:=by
 rw [Bool.eq_iff_iff]
 simp only [List.all_eq_true,List.mem_range,id]
 constructor
 ·intro h b hb
  obtain ⟨j,hj,rfl⟩:=List.mem_iff_getElem.mp hb
  have:=h j hj
  rw [List.getD_eq_getElem?_getD,List.getElem?_eq_getElem hj] at this
  exact this
 ·intro h j hj
  rw [List.getD_eq_getElem?_getD,List.getElem?_eq_getElem hj]
  exact h _ (List.getElem_mem hj)
section
variable {X:Cx} {G φ:List Addr} {h:AH} {H:Hp} {pins:List (Addr×Obj)} {σ:L2.St} {s:Shared}
theorem qEJ (I:Inv X pins σ H s) (R:Rl X.K G φ h H):∀ (n:Nat) {x y w:V} {b:Bool},eqD h n x y=some b -> rv φ x w -> rv φ y w -> b=true
 | 0,x,y,w,b,e,rx,ry=>qEi e rx ry
 | n + 1,x,y,w,b,e,rx,ry=>by
  have all:∀ {xs ys zs:List V} {bs:List Bool},rvs φ xs zs -> rvs φ ys zs -> qCi (eqD h n) xs ys=some bs -> bs.all id=true:=fun {xs ys zs bs} r1 r2 e=>by
   obtain ⟨l1,l2,k⟩:=qCS e
   rw [List.all_eq_true]
   intro b hb
   obtain ⟨j,hj,rfl⟩:=List.mem_iff_getElem.mp hb
   have hx:j < xs.length:=by omega
   have hy:j < ys.length:=by omega
   obtain ⟨b',hb',e'⟩:=k j _ _ (List.getElem?_eq_getElem hx) (List.getElem?_eq_getElem hy)
   rw [List.getElem?_eq_getElem hj] at hb'
   cases hb'
   obtain ⟨z,hz,q1⟩:=qAC r1 (List.getElem?_eq_getElem hx)
   obtain ⟨z',hz',q2⟩:=qAC r2 (List.getElem?_eq_getElem hy)
   rw [hz] at hz';cases hz'
   exact qEJ I R n e' q1 q2
  cases x with
  | ref a=>
   obtain ⟨p,rfl,hp⟩:=qAL rx
   cases y with
   | ref c=>
    have hc:φ[c]?=some p:=ry
    simp only [eqD] at e
    split at e
    ·rename_i f1 xs f2 ys e1 e2
     split at e
     ·cases e;rfl
     ·obtain ⟨p1,z1,q1,s1,r1⟩:=R.lst (i:=a) (xs:=xs) (by unfold qAE;rw [e1])
      obtain ⟨p2,z2,q2,s2,r2⟩:=R.lst (i:=c) (xs:=ys) (by unfold qAE;rw [e2])
      rw [hp] at q1;cases q1
      rw [hc] at q2;cases q2
      have:=I.list_inj s1 s2
      subst this
      split at e
      ·obtain ⟨bs,e3,rfl⟩:=Option.map_eq_some_iff.mp e
       exact all r1 r2 e3
      ·rename_i hne
       exact absurd ((Paired.length r1).trans (Paired.length r2).symm) hne
    ·rename_i xs ys e1 e2
     split at e
     ·cases e;rfl
     ·obtain ⟨p1,z1,q1,s1,r1⟩:=R.tup (i:=a) (xs:=xs) (by unfold qAV;rw [e1])
      obtain ⟨p2,z2,q2,s2,r2⟩:=R.tup (i:=c) (xs:=ys) (by unfold qAV;rw [e2])
      rw [hp] at q1;cases q1
      rw [hc] at q2;cases q2
      have:=I.tuple_inj s1 s2
      subst this
      split at e
      ·obtain ⟨bs,e3,rfl⟩:=Option.map_eq_some_iff.mp e
       exact all r1 r2 e3
      ·rename_i hne
       exact absurd ((Paired.length r1).trans (Paired.length r2).symm) hne
    ·rename_i f1 xs ys e1 e2
     obtain ⟨p1,z1,q1,s1,r1⟩:=R.lst (i:=a) (xs:=xs) (by unfold qAE;rw [e1])
     obtain ⟨p2,z2,q2,s2,r2⟩:=R.tup (i:=c) (xs:=ys) (by unfold qAV;rw [e2])
     rw [hp] at q1;cases q1
     rw [hc] at q2;cases q2
     obtain ⟨i1,_,t1,_⟩:=I.list s1
     obtain ⟨i2,_,t2,_⟩:=I.tuple s2
     exact absurd rfl (ne_of_list_tuple t1.isList t2)
    ·rename_i xs f1 ys e1 e2
     obtain ⟨p1,z1,q1,s1,r1⟩:=R.tup (i:=a) (xs:=xs) (by unfold qAV;rw [e1])
     obtain ⟨p2,z2,q2,s2,r2⟩:=R.lst (i:=c) (xs:=ys) (by unfold qAE;rw [e2])
     rw [hp] at q1;cases q1
     rw [hc] at q2;cases q2
     obtain ⟨i1,_,t1,_⟩:=I.tuple s1
     obtain ⟨i2,_,t2,_⟩:=I.list s2
     exact absurd rfl (ne_of_list_tuple t2.isList t1)
    ·cases e
   | _=>exact False.elim ry
  | _=>
   cases y with
   | ref c=>
    obtain ⟨p,rfl,hp⟩:=qAL ry
    exact False.elim rx
   | _=>exact qEi e rx ry
theorem qGB (I:Inv X pins σ H s) (R:Rl X.K G φ h H):∀ (n:Nat) {A:Around} {x y xc yc:V} {u w:Value} {b:Bool},A.units + n < cLine -> eqD h n x y=some b -> rv φ x xc -> rv φ y yc -> RelV xc u -> RelV yc w -> Eq3 A s u w b
 | 0,A,x,y,xc,yc,u,w,b,hu,e,rx,ry,ru,rw'=>qDb e rx ry ru rw'
 | n + 1,A,x,y,xc,yc,u,w,b,hu,e,rx,ry,ru,rw'=>by
  have hu0:A.units < cLine:=by omega
  have hu1:A.in1.units + n < cLine:=by show A.units + 1 + n < cLine;omega
  have item:∀ {xs ys zs ts:List V} {us ws:List Value} {bs:List Bool},rvs φ xs zs -> rvs φ ys ts -> Vals zs us -> Vals ts ws -> qCi (eqD h n) xs ys=some bs -> us.length=bs.length/\ws.length=bs.length/\
    ∀ (j:Nat) (h1:j < us.toArray.size) (h2:j < ws.toArray.size),EqAt A.in1 s us.toArray[j] ws.toArray[j] (bs.getD j true):=fun {xs ys zs ts us ws bs} r1 r2 v1 v2 e=>by
   obtain ⟨l1,l2,k⟩:=qCS e
   have n1:=Paired.length r1
   have n2:=Paired.length r2
   have n3:=v1.length
   have n4:=v2.length
   refine ⟨by omega,by omega,fun j h1 h2=>?_⟩
   have g1:j < us.length:=by simpa using h1
   have g2:j < ws.length:=by simpa using h2
   have hx:j < xs.length:=by omega
   have hy:j < ys.length:=by omega
   obtain ⟨b',hb',e'⟩:=k j _ _ (List.getElem?_eq_getElem hx) (List.getElem?_eq_getElem hy)
   obtain ⟨z,hz,q1⟩:=qAC r1 (List.getElem?_eq_getElem hx)
   obtain ⟨t,ht,q2⟩:=qAC r2 (List.getElem?_eq_getElem hy)
   obtain ⟨u',hu',q3⟩:=v1.get hz
   obtain ⟨w',hw',q4⟩:=v2.get ht
   rw [List.getElem?_eq_getElem g1] at hu'
   rw [List.getElem?_eq_getElem g2] at hw'
   cases hu'
   cases hw'
   rw [List.getD_eq_getElem?_getD,hb']
   have:=(qGB I R n (A:=A.in1) hu1 e' q1 q2 q3 q4).eq
   simpa using this
  have refs:∀ {a:Nat} {p:Addr} {v:V} {b:Bool},φ[a]?=some p -> (if (items h a).isSome&&flat v then some false else none)=some b -> b=false/\∃ its,s.heap.IsList p its\/s.heap.IsTuple p its:=fun {a p v b} hp e=>by
   cases ea:h[a]? with
   | none=>rw [show items h a=none from (by unfold items;rw [ea])] at e;cases e
   | some o=>
    have hb:b=false:=by
     split at e
     ·cases e;rfl
     ·cases e
    refine ⟨hb,?_⟩
    cases o with
    | lst f xs=>
     obtain ⟨p1,z1,q1,s1,r1⟩:=R.lst (i:=a) (xs:=xs) (by unfold qAE;rw [ea])
     rw [hp] at q1;cases q1
     obtain ⟨i1,_,t1,_⟩:=I.list s1
     exact ⟨_,.inl t1.isList⟩
    | tup xs=>
     obtain ⟨p1,z1,q1,s1,r1⟩:=R.tup (i:=a) (xs:=xs) (by unfold qAV;rw [ea])
     rw [hp] at q1;cases q1
     obtain ⟨i1,_,t1,_⟩:=I.tuple s1
     exact ⟨_,.inr t1⟩
    | ob ks=>rw [show items h a=none from (by unfold items;rw [ea])] at e;cases e
  cases x with
  | ref a=>
   obtain ⟨p,rfl,hp⟩:=qAL rx
   cases ru
   cases y with
   | ref c=>
    obtain ⟨q,rfl,hq⟩:=qAL ry
    cases rw'
    have same:p=q -> b=true:=fun z=>by
     subst z
     exact qEJ I R (n + 1) e rx (show rv φ (.ref c) (.ref p) from hq)
    simp only [eqD] at e
    split at e
    ·rename_i f1 xs f2 ys e1 e2
     obtain ⟨p1,z1,q1,s1,r1⟩:=R.lst (i:=a) (xs:=xs) (by unfold qAE;rw [e1])
     obtain ⟨p2,z2,q2,s2,r2⟩:=R.lst (i:=c) (xs:=ys) (by unfold qAE;rw [e2])
     rw [hp] at q1;cases q1
     rw [hq] at q2;cases q2
     obtain ⟨i1,v1,t1,_⟩:=I.list s1
     obtain ⟨i2,v2,t2,_⟩:=I.list s2
     split at e
     ·rename_i hac
      subst hac
      rw [hp] at hq;cases hq
      cases e
      have rc:=RcAt.lists (A:=A) (e:=fun _=>true) t1.isList t1.isList rfl hu0 fun j _ _=>EqAt.same _
      have ne:=RcNeAt.lists (A:=A) (e:=fun _=>true) t1.isList t1.isList rfl hu0 fun j _ _=>EqAt.same _
      have al:∀ l:List Nat,(l.all fun _=>true)=true:=fun l=>by simp
      rw [al] at rc ne
      exact ⟨.same _,rc,ne⟩
     ·split at e
      ·obtain ⟨bs,e3,rfl⟩:=Option.map_eq_some_iff.mp e
       obtain ⟨m1,m2,he⟩:=item r1 r2 v1 v2 e3
       have hsz:i1.toArray.size=i2.toArray.size:=by simp;omega
       have rc:=RcAt.lists (A:=A) (e:=fun j=>bs.getD j true) t1.isList t2.isList hsz hu0 he
       have ne:=RcNeAt.lists (A:=A) (e:=fun j=>bs.getD j true) t1.isList t2.isList hsz hu0 he
       have sz:i1.toArray.size=bs.length:=by simpa using m1
       rw [sz,qDd] at rc ne
       refine ⟨?_,rc,ne⟩
       by_cases hpq:p=q
       ·rw [same hpq];subst hpq;exact .same _
       ·exact .of_refs hpq rc
      ·rename_i hl
       cases e
       have n1:=Paired.length r1
       have n2:=Paired.length r2
       have n3:=v1.length
       have n4:=v2.length
       have hsz:(i1.toArray.size != i2.toArray.size)=true:=by simp;omega
       have rc:=RcAt.lists_lengths (A:=A) t1.isList t2.isList hsz hu0
       have ne:=RcNeAt.lists_lengths (A:=A) t1.isList t2.isList hsz hu0
       refine ⟨?_,rc,ne⟩
       by_cases hpq:p=q
       ·exact absurd (same hpq) (by decide)
       ·exact .of_refs hpq rc
    ·rename_i xs ys e1 e2
     obtain ⟨p1,z1,q1,s1,r1⟩:=R.tup (i:=a) (xs:=xs) (by unfold qAV;rw [e1])
     obtain ⟨p2,z2,q2,s2,r2⟩:=R.tup (i:=c) (xs:=ys) (by unfold qAV;rw [e2])
     rw [hp] at q1;cases q1
     rw [hq] at q2;cases q2
     obtain ⟨i1,v1,t1,_⟩:=I.tuple s1
     obtain ⟨i2,v2,t2,_⟩:=I.tuple s2
     have t1':s.heap.IsTuple p i1.toArray:=t1
     have t2':s.heap.IsTuple q i2.toArray:=t2
     split at e
     ·rename_i hac
      subst hac
      rw [hp] at hq;cases hq
      cases e
      have rc:=RcAt.tuples (A:=A) (e:=fun _=>true) t1' t1' hu0 fun j _ _=>EqAt.same _
      have ne:=RcNeAt.tuples (A:=A) (e:=fun _=>true) t1' t1' hu0 fun j _ _=>EqAt.same _
      have al:∀ l:List Nat,(l.all fun _=>true)=true:=fun l=>by simp
      rw [al] at rc ne
      simp only [beq_self_eq_true,Bool.and_self] at rc ne
      exact ⟨.same _,rc,ne⟩
     ·split at e
      ·obtain ⟨bs,e3,rfl⟩:=Option.map_eq_some_iff.mp e
       obtain ⟨m1,m2,he⟩:=item r1 r2 v1 v2 e3
       have hsz:i1.toArray.size=i2.toArray.size:=by simp;omega
       have rc:=RcAt.tuples (A:=A) (e:=fun j=>bs.getD j true) t1' t2' hu0 he
       have ne:=RcNeAt.tuples (A:=A) (e:=fun j=>bs.getD j true) t1' t2' hu0 he
       have sz:i1.toArray.size=bs.length:=by simpa using m1
       have sz2:i2.toArray.size=bs.length:=by simpa using m2
       rw [sz,sz2,Nat.min_self,qDd,beq_self_eq_true,Bool.and_true] at rc ne
       refine ⟨?_,rc,ne⟩
       by_cases hpq:p=q
       ·rw [same hpq];subst hpq;exact .same _
       ·exact .of_refs hpq rc
      ·rename_i hl
       have n1:=Paired.length r1
       have n2:=Paired.length r2
       have n3:=v1.length
       have n4:=v2.length
       obtain ⟨bs,e3,hb⟩:=Option.map_eq_some_iff.mp e
       subst hb
       have hsz:(i1.toArray.size==i2.toArray.size)=false:=by simp;omega
       obtain ⟨m1,m2,he⟩:=item (qAu ys.length r1) (qAu xs.length r2) (v1.take ys.length) (v2.take xs.length) e3
       have he':∀ (j:Nat) (h1:j < i1.toArray.size) (h2:j < i2.toArray.size),EqAt A.in1 s i1.toArray[j] i2.toArray[j] (bs.getD j true):=fun j h1 h2=>by
        have g1:j < i1.length:=by simpa using h1
        have g2:j < i2.length:=by simpa using h2
        have:=he j (by simp;omega) (by simp;omega)
        simpa using this
       have rc:=RcAt.tuples (A:=A) (e:=fun j=>bs.getD j true) t1' t2' hu0 he'
       have ne:=RcNeAt.tuples (A:=A) (e:=fun j=>bs.getD j true) t1' t2' hu0 he'
       rw [hsz,Bool.and_false] at rc ne
       refine ⟨?_,rc,ne⟩
       by_cases hpq:p=q
       ·exact absurd (same hpq) (by decide)
       ·exact .of_refs hpq rc
    ·rename_i f1 xs ys e1 e2
     cases e
     obtain ⟨p1,z1,q1,s1,r1⟩:=R.lst (i:=a) (xs:=xs) (by unfold qAE;rw [e1])
     obtain ⟨p2,z2,q2,s2,r2⟩:=R.tup (i:=c) (xs:=ys) (by unfold qAV;rw [e2])
     rw [hp] at q1;cases q1
     rw [hq] at q2;cases q2
     obtain ⟨i1,_,t1,_⟩:=I.list s1
     obtain ⟨i2,_,t2,_⟩:=I.tuple s2
     exact ⟨.list_tuple t1.isList t2 hu0,.list_tuple t1.isList t2 hu0,.list_tuple t1.isList t2 hu0⟩
    ·rename_i xs f1 ys e1 e2
     cases e
     obtain ⟨p1,z1,q1,s1,r1⟩:=R.tup (i:=a) (xs:=xs) (by unfold qAV;rw [e1])
     obtain ⟨p2,z2,q2,s2,r2⟩:=R.lst (i:=c) (xs:=ys) (by unfold qAE;rw [e2])
     rw [hp] at q1;cases q1
     rw [hq] at q2;cases q2
     obtain ⟨i1,_,t1,_⟩:=I.tuple s1
     obtain ⟨i2,_,t2,_⟩:=I.list s2
     exact ⟨.tuple_list t1 t2.isList hu0,.tuple_list t1 t2.isList hu0,.tuple_list t1 t2.isList hu0⟩
    ·cases e
   | non=>
    cases qAv ry;cases rw'
    rcases refs hp (show (if (items h a).isSome&&flat V.non then some false else none)=some b from e) with ⟨rfl,its,t | t⟩
    ·exact ⟨.list_none t hu0,.list_none t hu0,.list_none t hu0⟩
    ·exact ⟨.tuple_none t hu0,.tuple_none t hu0,.tuple_none t hu0⟩
   | bl j=>
    cases qAw ry;cases rw'
    rcases refs hp (show (if (items h a).isSome&&flat (V.bl j) then some false else none)=some b from e) with ⟨rfl,its,t | t⟩
    ·exact ⟨.list_bool _ t hu0,.list_bool _ t hu0,.list_bool _ t hu0⟩
    ·exact ⟨.tuple_bool _ t hu0,.tuple_bool _ t hu0,.tuple_bool _ t hu0⟩
   | int j=>
    cases qAD ry;obtain ⟨t',rfl⟩:=rw'
    rcases refs hp (show (if (items h a).isSome&&flat (V.int j) then some false else none)=some b from e) with ⟨rfl,its,t | t⟩
    ·exact ⟨.list_int _ _ t hu0,.list_int _ _ t hu0,.list_int _ _ t hu0⟩
    ·exact ⟨.tuple_int _ _ t hu0,.tuple_int _ _ t hu0,.tuple_int _ _ t hu0⟩
   | str j=>
    cases qA9 ry;obtain ⟨t',rfl⟩:=rw'
    rcases refs hp (show (if (items h a).isSome&&flat (V.str j) then some false else none)=some b from e) with ⟨rfl,its,t | t⟩
    ·exact ⟨.list_str _ _ t hu0,.list_str _ _ t hu0,.list_str _ _ t hu0⟩
    ·exact ⟨.tuple_str _ _ t hu0,.tuple_str _ _ t hu0,.tuple_str _ _ t hu0⟩
   | _=>exact False.elim ry
  | non=>
   cases y with
   | ref c=>
    obtain ⟨p,rfl,hp⟩:=qAL ry
    cases rw'
    cases qAv rx;cases ru
    rcases refs hp (show (if (items h c).isSome&&flat V.non then some false else none)=some b from (Bool.and_comm _ _) ▸ e) with ⟨rfl,its,t | t⟩
    ·exact ⟨.none_list t hu0,.none_list t hu0,.none_list t hu0⟩
    ·exact ⟨.none_tuple t hu0,.none_tuple t hu0,.none_tuple t hu0⟩
   | _=>exact qDb e rx ry ru rw'
  | bl i=>
   cases y with
   | ref c=>
    obtain ⟨p,rfl,hp⟩:=qAL ry
    cases rw'
    cases qAw rx;cases ru
    rcases refs hp (show (if (items h c).isSome&&flat (V.bl i) then some false else none)=some b from (Bool.and_comm _ _) ▸ e) with ⟨rfl,its,t | t⟩
    ·exact ⟨.bool_list _ t hu0,.bool_list _ t hu0,.bool_list _ t hu0⟩
    ·exact ⟨.bool_tuple _ t hu0,.bool_tuple _ t hu0,.bool_tuple _ t hu0⟩
   | _=>exact qDb e rx ry ru rw'
  | int i=>
   cases y with
   | ref c=>
    obtain ⟨p,rfl,hp⟩:=qAL ry
    cases rw'
    cases qAD rx;obtain ⟨t',rfl⟩:=ru
    rcases refs hp (show (if (items h c).isSome&&flat (V.int i) then some false else none)=some b from (Bool.and_comm _ _) ▸ e) with ⟨rfl,its,t | t⟩
    ·exact ⟨.int_list _ _ t hu0,.int_list _ _ t hu0,.int_list _ _ t hu0⟩
    ·exact ⟨.int_tuple _ _ t hu0,.int_tuple _ _ t hu0,.int_tuple _ _ t hu0⟩
   | _=>exact qDb e rx ry ru rw'
  | str i=>
   cases y with
   | ref c=>
    obtain ⟨p,rfl,hp⟩:=qAL ry
    cases rw'
    cases qA9 rx;obtain ⟨t',rfl⟩:=ru
    rcases refs hp (show (if (items h c).isSome&&flat (V.str i) then some false else none)=some b from (Bool.and_comm _ _) ▸ e) with ⟨rfl,its,t | t⟩
    ·exact ⟨.str_list _ _ t hu0,.str_list _ _ t hu0,.str_list _ _ t hu0⟩
    ·exact ⟨.str_tuple _ _ t hu0,.str_tuple _ _ t hu0,.str_tuple _ _ t hu0⟩
   | _=>exact qDb e rx ry ru rw'
  | _=>cases xc<;>exact False.elim rx
end
end PI
namespace PI
open PySem PySem.Spec PyProof.Rows PySem.SeqAt
open L2 (V Hp HO Cx PE PT PA PS PSs PG TE TT TA TS VK upd qAI qAH SqL SqT qDx Inv RelV Vals EP TP AP SP OpR qAq R2)
theorem qD1 {φ:List Addr}:∀ {x w:V},flat x=true -> rv φ x w -> w=x
 | .non,_,_,h=>qAv h
 | .bl _,_,_,h=>qAw h
 | .int _,_,_,h=>qAD h
 | .str _,_,_,h=>qA9 h
 | .ref _,_,f,_=>by cases f
 | .byt _,_,f,_=>by cases f
 | .flt _,_,f,_=>by cases f
 | .ty _,_,f,_=>by cases f
theorem qBq {φ:List Addr}:∀ {xs ws:List V},xs.all flat=true -> rvs φ xs ws -> ws=xs
 | _,_,_,.nil=>rfl
 | x::xs,w::ws,f,.cons r t=>by
  simp only [List.all_cons,Bool.and_eq_true] at f
  rw [qD1 f.1 r,qBq f.2 t]
theorem qEb:∀ x:V,L2.flatV x=flat x:=by intro x;cases x<;>rfl
theorem qGF (xs:List V):xs.all L2.flatV=xs.all flat:=by
 induction xs with
 | nil=>rfl
 | cons x xs ih=>rw [List.all_cons,List.all_cons,ih,qEb]
section
variable {X:Cx} {G:List Addr} {F:Nat -> List V -> AH -> RV}
noncomputable def opC:COp -> CmpOp
 | .lt=>.Lt | .le=>.LtE | .gt=>.Gt | .ge=>.GtE | .eq=>.Eq | .ne=>.NotEq | .inn=>.In | .notin=>.NotIn | .is=>.Is | .isnot=>.IsNot
variable (X G) in
noncomputable def qH3 (op:COp):R2:=fun x y H Q=>∃ φ h xa ya b,Rl X.K G φ h H/\rv φ xa x/\rv φ ya y/\qGN op xa ya h=some b/\Q (.bl b) H
theorem qEL {φ:List Addr} {x y:V} (r:rv φ x y):decide (x=V.non)=decide (y=V.non):=by
 by_cases hx:x=V.non
 ·subst hx;cases qAv r;rfl
 ·have hy:y≠V.non:=fun hy=>by subst hy;cases x<;>first | exact hx rfl | exact False.elim r
  rw [decide_eq_false hx,decide_eq_false hy]
theorem qFP (kvs:List (Int×V)) (i:Int):((kvs.map kk).any fun kv=>decide (kv.1=Sum.inl i))=qKE kvs i:=by
 unfold qKE
 rw [List.any_map]
 congr 1
 funext p
 show decide ((Sum.inl p.1:L2.Key)=Sum.inl i)=_
 rw [Bool.eq_iff_iff]
 simp
theorem qHp (kvs:List (Int×V)) (i:Int) (v:V):L2.putK (kvs.map kk) (Sum.inl i:L2.Key) v=(qKV kvs i v).map kk:=by
 unfold L2.putK qKV
 rw [qFP]
 split
 ·rw [List.map_map,List.map_map]
  congr 1
  funext p
  show (if (Sum.inl p.1:L2.Key)=Sum.inl i then ((Sum.inl p.1:L2.Key),v) else kk p)=kk (if p.1=i then (p.1,v) else p)
  by_cases h:p.1=i
  ·rw [if_pos (by rw [h]),if_pos h];rfl
  ·rw [if_neg (fun z=>h (Sum.inl.inj z)),if_neg h]
 ·rw [List.map_append];rfl
theorem qAp (hu:X.A.units + 8 < cLine):∀ op,OpR X (compareOp (opC op)) (qH3 X G op):=by
 intro op pins s σ H x y v u Q I rx ry ⟨φ,h,xa,ya,b,R,r1,r2,e,q⟩
 have hin:∀ (neg:Bool) {p:Nat} {ya':V} (e:(match items h p with | some xs=>if flat xa&&xs.all flat then some (if neg then !(xs.any fun y=>L2.eqV y xa) else xs.any fun y=>L2.eqV y xa) else none | none=>none)=some b),rv φ (.ref p) y -> L2.rIn X.K neg x y H Q:=by
  intro neg p ya' e r2
  split at e
  ·rename_i xs ex
   split at e
   ·rename_i hf
    simp only [Bool.and_eq_true] at hf
    obtain ⟨a,ys,ha,hs,rs⟩:=R.its ex
    obtain ⟨a',rfl,ha'⟩:=qAL r2
    rw [ha] at ha';cases ha'
    have e1:=qD1 hf.1 r1
    have e2:=qBq hf.2 rs
    subst e1 e2
    refine ⟨a,ys,rfl,hs,by rw [qEb];exact hf.1,by rw [qGF];exact hf.2,?_⟩
    cases e
    exact q
   ·cases e
  ·cases e
 cases op with
 | lt=>
  replace e:=qCH e
  obtain ⟨i,j,rfl,rfl,rfl⟩:=e
  cases qAD r1;cases qAD r2
  exact L2.op_lt pins s σ H _ _ v u Q I rx ry ⟨_,_,rfl,rfl,q⟩
 | le=>
  replace e:=qCH e
  obtain ⟨i,j,rfl,rfl,rfl⟩:=e
  cases qAD r1;cases qAD r2
  exact L2.op_le pins s σ H _ _ v u Q I rx ry ⟨_,_,rfl,rfl,q⟩
 | gt=>
  replace e:=qCH e
  obtain ⟨i,j,rfl,rfl,rfl⟩:=e
  cases qAD r1;cases qAD r2
  exact L2.op_gt pins s σ H _ _ v u Q I rx ry ⟨_,_,rfl,rfl,q⟩
 | ge=>
  replace e:=qCH e
  obtain ⟨i,j,rfl,rfl,rfl⟩:=e
  cases qAD r1;cases qAD r2
  exact L2.op_ge pins s σ H _ _ v u Q I rx ry ⟨_,_,rfl,rfl,q⟩
 | eq=>exact (qGB I R 4 (by omega) (show eqD h 4 xa ya=some b from e) r1 r2 rx ry).rc _ _ _ _ ⟨.bl b,H,I,rfl,q⟩
 | ne=>
  have e':(eqD h 4 xa ya).map (!·)=some b:=e
  obtain ⟨c,e1,rfl⟩:=Option.map_eq_some_iff.mp e'
  exact (qGB I R 4 (by omega) e1 r1 r2 rx ry).ne _ _ _ _ ⟨.bl (!c),H,I,rfl,q⟩
 | inn=>
  replace e:=qEr e
  obtain ⟨p,rfl,e⟩:=e
  cases ei:items h p with
  | some xs=>exact L2.op_in_seq pins s σ H x y v u Q I rx ry (hin false (ya':=.non) (by rw [ei] at e ⊢;exact e) r2)
  | none=>
   rw [ei] at e
   dsimp only at e
   split at e
   ·rename_i kvs ed
    split at e
    ·rename_i i
     cases e
     obtain ⟨a,ea,_,hH⟩:=R.dct ed
     obtain ⟨a',rfl,ha'⟩:=qAL r2
     rw [ea] at ha';cases ha'
     cases qAD r1
     cases ry
     refine L2.d_in (by omega) I (L2.DGet.k (k:=.inl i) hH) rx fun s' I'=>⟨.bl (L2.valV (kvs.map kk) (Sum.inl i)).isSome,H,I',rfl,?_⟩
     rw [<- L2.valV_any,qFP]
     exact q
    ·cases e
   ·cases e
 | notin=>
  replace e:=qEr e
  obtain ⟨p,rfl,e⟩:=e
  exact L2.op_notIn_seq pins s σ H x y v u Q I rx ry (hin true (ya':=.non) (by exact e) r2)
 | is=>
  rcases qFR (show isC xa ya id=some b from e) with ⟨rfl,rfl⟩ | ⟨c,d,rfl,rfl,rfl⟩
  ·cases qAv r2
   rw [qEL r1] at q
   exact L2.op_isN pins s σ H x _ v u Q I rx ry ⟨rfl,q⟩
  ·cases qAw r1;cases qAw r2
   cases (show v=Value.bool c from rx);cases (show u=Value.bool d from ry)
   exact PySem.wpAny_is_plain rfl ⟨.bl (c==d),H,I,(by cases c<;>cases d<;>rfl),q⟩
 | isnot=>
  rcases qFR (show isC xa ya (!·)=some b from e) with ⟨rfl,rfl⟩ | ⟨c,d,rfl,rfl,rfl⟩
  ·cases qAv r2
   rw [qEL r1] at q
   exact L2.op_notN pins s σ H x _ v u Q I rx ry ⟨rfl,q⟩
  ·cases qAw r1;cases qAw r2
   cases (show v=Value.bool c from rx);cases (show u=Value.bool d from ry)
   exact PySem.wpAny_isNot_plain rfl ⟨.bl (!(c==d)),H,I,(by cases c<;>cases d<;>rfl),q⟩
theorem qDA:∀ {bs:List Bool} {us:List Value},Vals (bs.map V.bl) us -> LSm.BoolsAre us bs
 | [],_,.nil=>.nil
 | b::bs,u::us,.cons r t=>by
  cases (show u=Value.bool b from r)
  exact .cons b (qDA t)
theorem qE4 {A:Around} {E:Value -> Shared -> Prop} {prog:Program} {w:World} {s:Shared} {l:Addr} {vs:List Value} {bs:List Bool} {Q:Value -> Shared -> Prop} (hh:A.handled=none) (hl:s.heap.IsList l vs.toArray) (hb:LSm.BoolsAre vs bs)
  (h:∀ h' tk,(∀ b x,s.heap.get? b=some x -> h'.get? b=some x) -> Q (.bool (bs.all id)) { s with heap:=h',toks:=tk }):wpAny (model prog w) A (call (.builtin "all") [.ref l]) Q E s:=by
 have hlt:l < s.heap.objs.size:=by obtain ⟨_,e,_⟩:=hl;exact Heap.lt_size e
 refine call_all_walk (wpAny_pyIter_list hl ?_)
 refine ⟨s.heap.objs.size,[s.heap.objs.size,l],[s.heap.objs.size],vs.toArray.size,_,_,fun i=>(bs[i]?).getD true,rfl,Walks.list (A:=A.in1) hh _ l (Nat.ne_of_lt hlt) vs.toArray,
  ⟨⟨_,Heap.get?_push_size _ rfl,rfl,rfl⟩,hl.push _⟩,fun i v s' Q' E' hP hQ=>?_,fun h' tk hk=>?_⟩
 ·obtain ⟨b,e,rfl⟩:=hb.get i v (by simpa using hP)
  simp only [e,Option.getD_some] at hQ
  exact wpAny_truthy_bool hQ
 ·have e:((List.range vs.toArray.size).all fun i=>(bs[i]?).getD true)=bs.all id:=by
   rw [List.size_toArray,hb.length];exact LSm.range_all bs
  rw [e]
  exact h h' tk (LSm.kept_iter hk)
theorem qE1 {A:Around} {E:Value -> Shared -> Prop} {prog:Program} {w:World} {s:Shared} {l:Addr} {vs:List Value} {bs:List Bool} {Q:Value -> Shared -> Prop} (hh:A.handled=none) (hl:s.heap.IsList l vs.toArray) (hb:LSm.BoolsAre vs bs)
  (h:∀ h' tk,(∀ b x,s.heap.get? b=some x -> h'.get? b=some x) -> Q (.bool (bs.any id)) { s with heap:=h',toks:=tk }):wpAny (model prog w) A (call (.builtin "any") [.ref l]) Q E s:=by
 have hlt:l < s.heap.objs.size:=by obtain ⟨_,e,_⟩:=hl;exact Heap.lt_size e
 refine call_any_walk (wpAny_pyIter_list hl ?_)
 refine ⟨s.heap.objs.size,[s.heap.objs.size,l],[s.heap.objs.size],vs.toArray.size,_,_,fun i=>(bs[i]?).getD false,rfl,Walks.list (A:=A.in1) hh _ l (Nat.ne_of_lt hlt) vs.toArray,
  ⟨⟨_,Heap.get?_push_size _ rfl,rfl,rfl⟩,hl.push _⟩,fun i v s' Q' E' hP hQ=>?_,fun h' tk hk=>?_⟩
 ·obtain ⟨b,e,rfl⟩:=hb.get i v (by simpa using hP)
  simp only [e,Option.getD_some] at hQ
  exact wpAny_truthy_bool hQ
 ·have e:((List.range vs.toArray.size).any fun i=>(bs[i]?).getD false)=bs.any id:=by
   rw [List.size_toArray,hb.length];exact LSm.range_any bs
  rw [e]
  exact h h' tk (LSm.kept_iter hk)
theorem qD9:∀ {xs:List V} {is:List Int} {us:List Value},qBH xs=some is -> Vals xs us -> us.length=is.length/\∀ i v,us[i]?=some v -> NumOf (is.getD i 0) v
 | [],is,_,e,.nil=>by cases e;exact ⟨rfl,fun i v e=>by simp at e⟩
 | x::r,is,u::us,e,.cons a t=>by
  unfold qBH at e
  split at e
  ·rename_i e';cases e'
  ·rename_i e';cases e'
   obtain ⟨js,e1,rfl⟩:=Option.map_eq_some_iff.mp e
   obtain ⟨l,g⟩:=qD9 e1 t
   refine ⟨by simp [l],fun i v q=>?_⟩
   cases i with
   | zero=>
    cases q
    obtain ⟨w,rfl⟩:=a
    exact .inl ⟨w,rfl⟩
   | succ i=>exact g i v q
  ·rename_i e';cases e'
   obtain ⟨js,e1,rfl⟩:=Option.map_eq_some_iff.mp e
   obtain ⟨l,g⟩:=qD9 e1 t
   refine ⟨by simp [l],fun i v q=>?_⟩
   cases i with
   | zero=>
    cases q
    exact .inr ⟨_,a,rfl⟩
   | succ i=>exact g i v q
  ·cases e
theorem qCL:∀ {xs:List V} {is:List Int},qBH xs=some is -> xs.all flat=true
 | [],_,_=>rfl
 | x::r,is,e=>by
  unfold qBH at e
  split at e
  ·rename_i e';cases e'
  ·rename_i e';cases e'
   obtain ⟨js,e1,rfl⟩:=Option.map_eq_some_iff.mp e
   rw [List.all_cons,qCL e1];rfl
  ·rename_i e';cases e'
   obtain ⟨js,e1,rfl⟩:=Option.map_eq_some_iff.mp e
   rw [List.all_cons,qCL e1];rfl
  ·cases e
theorem qE9 {A:Around} {E:Value -> Shared -> Prop} {prog:Program} {w:World} {s:Shared} {l:Addr} {vs:List Value} {xs:List V} {is:List Int} {Q:Value -> Shared -> Prop} (hh:A.handled=none) (hl:s.heap.IsList l vs.toArray) (ei:qBH xs=some is) (hb:Vals xs vs)
  (h:∀ h' tk t',(∀ b x,s.heap.get? b=some x -> h'.get? b=some x) -> Q (.int is.sum t') { s with heap:=h',toks:=tk }):wpAny (model prog w) A (call (.builtin "sum") [.ref l]) Q E s:=by
 have hlt:l < s.heap.objs.size:=by obtain ⟨_,e,_⟩:=hl;exact Heap.lt_size e
 obtain ⟨hlen,hn⟩:=qD9 ei hb
 refine call_sum_walkAnyB (wpAny_pyIter_list hl ?_)
 refine ⟨s.heap.objs.size,_,_,_,_,_,_,fun i=>is.getD i 0,rfl,(Walks.list (prog:=prog) (w:=w) (A:=A.in1) hh s.heap.objs.size l (Nat.ne_of_lt hlt) vs.toArray).toS,
  ⟨⟨_,Heap.get?_push_size _ rfl,rfl,rfl⟩,hl.push _⟩,fun b hb=>?_,fun i v hP=>hn i v (by simpa using hP),fun s' t' hm=>?_⟩
 ·rcases List.mem_cons.mp hb with rfl | hb
  ·exact Heap.lt_size (Heap.get?_push_size _ rfl)
  ·obtain rfl:=List.mem_singleton.mp hb
   obtain ⟨_,e,_⟩:=hl
   exact Heap.lt_size (Heap.get?_push_of_some _ e)
 ·obtain ⟨h',g',d',tk',os'⟩:=s'
  have e1:g'=s.gens:=hm.gens
  have e2:d'=s.drawn:=hm.drawn
  have e3:os'=s.os:=hm.os
  subst e1 e2 e3
  have e:=preSum_getD is vs.toArray.size
  rw [List.size_toArray,hlen,List.take_of_length_le (Nat.le_refl _),<- hlen,<- List.size_toArray] at e
  rw [e]
  exact h h' tk' t' fun b o e=>hm.heap b o (fun hb=>absurd (Heap.lt_size e) ((List.mem_singleton.mp hb) ▸ Nat.lt_irrefl _)) (Heap.get?_push_of_some _ e)
theorem qCj:∀ {xs:List V} {is:List Int},qBJ xs=some is -> xs=is.map V.int
 | [],is,e=>by cases e;rfl
 | .int i::r,is,e=>by
  simp only [qBJ] at e
  obtain ⟨js,e1,rfl⟩:=Option.map_eq_some_iff.mp e
  rw [qCj e1]
  rfl
 | .non::_,_,e=>by cases e
 | .bl _::_,_,e=>by cases e
 | .str _::_,_,e=>by cases e
 | .ref _::_,_,e=>by cases e
 | .byt _::_,_,e=>by cases e
 | .flt _::_,_,e=>by cases e
 | .ty _::_,_,e=>by cases e
theorem qBj:∀ {xs:List V} {is:List Bool},qBc xs=some is -> xs=is.map V.bl
 | [],is,e=>by cases e;rfl
 | .bl i::r,is,e=>by
  simp only [qBc] at e
  obtain ⟨js,e1,rfl⟩:=Option.map_eq_some_iff.mp e
  rw [qBj e1]
  rfl
 | .non::_,_,e=>by cases e
 | .int _::_,_,e=>by cases e
 | .str _::_,_,e=>by cases e
 | .ref _::_,_,e=>by cases e
 | .byt _::_,_,e=>by cases e
 | .flt _::_,_,e=>by cases e
 | .ty _::_,_,e=>by cases e
theorem qBm:∀ {us:List Value} {ns:List Int},IntsAre us ns -> Vals (ns.map V.int) us
 | _,_,.nil=>.nil
 | _,_,.cons n t r=>.cons ⟨_,rfl⟩ (qBm r)
theorem qFb (is:List Int):(is.map V.int).all flat=true:=by simp [flat]
theorem qCn (is:List Bool):(is.map V.bl).all flat=true:=by simp [flat]
noncomputable def fnB:BF -> Value
 | .len=>.builtin "len" | .sum=>.builtin "sum" | .all=>.builtin "all" | .any=>.builtin "any" | .max=>.builtin "max" | .min=>.builtin "min" | .abs=>.builtin "abs"
 | .list=>.type "list" | .int=>.type "int" | .bits=>.builtin "int.bit_length"
variable (X G) in
noncomputable def qKJ (f:BF):List V -> Hp -> VK -> Prop:=fun xs H Q=>∃ φ h ws v h',Rl X.K G φ h H/\rvs φ ws xs/\qKF f ws h=.ok (v,h')/\∀ φ' H' w,Ext φ φ' -> Rl X.K G φ' h' H' -> rv φ' v w -> Q w H'
noncomputable def DR (P:Program) (W:World) (h:Heap) (n:Nat) (u:Value) (d:PyData):Prop:=(∃ as,Reads h u d as)/\d.depth<=n/\(d.showable=true -> d.shown.length<=sizeLine -> ∃ bs,ReadAtMost h d.depth bs/\ReprK P W bs h d.depth u d.shown)
noncomputable def DRs (P:Program) (W:World) (h:Heap) (n:Nat) (us:List Value) (ds:List PyData):Prop:=(∃ as,ReadsAll h us ds as)/\PyData.depthAll ds<=n/\(PyData.showableAll ds=true -> (∀ t∈PyData.shownAll ds,t.length<=sizeLine) -> ∃ bs,ReadAtMost h (PyData.depthAll ds) bs/\ReprAllK P W bs h (PyData.depthAll ds) us (PyData.shownAll ds))
theorem DR.flat {P:Program} {W:World} {hp:Heap} {n:Nat} {u:Value} {d:PyData} (q:(∃ as,Reads hp u d as)/\d.hasDict=false/\d.depth<=0):DR P W hp n u d:=by
 obtain ⟨⟨as,q1⟩,q2,q3⟩:=q
 exact ⟨⟨as,q1⟩,by omega,fun hs hz=>ReprK.of_reads q1 hs (fun z=>by rw [q2] at z;cases z) hz⟩
theorem DRs.list {P:Program} {W:World} {hp:Heap} {n m:Nat} {p:Addr} {o:Obj} {its:List Value} {ds:List PyData} (q:DRs P W hp n its ds) (ho:hp.get? p=some o) (hc:o.cls=.type "list") (hd:o.data=.seq its.toArray m) (hs:PyData.showableAll ds=true) (hz:(listText (PyData.shownAll ds)).length<=sizeLine):
  ∃ bs,ReadAtMost hp (PyData.depthAll ds) bs/\ReprAllK P W bs hp (PyData.depthAll ds) its (PyData.shownAll ds)/\p∉bs:=by
 obtain ⟨⟨as,q1⟩,q2,q3⟩:=q
 obtain ⟨bs,hb,hk⟩:=q3 hs (fun t ht=>Nat.le_trans (listText_mem_le ht) hz)
 exact ⟨bs,hb,hk,not_mem_of_deeper (Reads.list ho hc hd (by simpa using q1)) (by simp only [PyData.depth];omega) hb⟩
theorem DRs.tuple {P:Program} {W:World} {hp:Heap} {n m:Nat} {p:Addr} {o:Obj} {its:List Value} {ds:List PyData} (q:DRs P W hp n its ds) (ho:hp.get? p=some o) (hc:o.cls=.type "tuple") (hd:o.data=.seq its.toArray m) (hs:PyData.showableAll ds=true) (hz:(tupleText (PyData.shownAll ds)).length<=sizeLine):
  ∃ bs,ReadAtMost hp (PyData.depthAll ds) bs/\ReprAllK P W bs hp (PyData.depthAll ds) its (PyData.shownAll ds)/\p∉bs:=by
 obtain ⟨⟨as,q1⟩,q2,q3⟩:=q
 obtain ⟨bs,hb,hk⟩:=q3 hs (fun t ht=>Nat.le_trans (tupleText_mem_le ht) hz)
 exact ⟨bs,hb,hk,not_mem_of_deeper (Reads.tuple ho hc hd (by simpa using q1)) (by simp only [PyData.depth];omega) hb⟩
theorem qDZ (hc:X.calm=true) (hu:X.A.units + 8 < cLine) (hgd:X.A.guards=some []):∀ f,qAq X (fnB f) (qKJ X G f):=by
 intro f pins s σ H xs us Q I r ⟨φ,h,ws,v,h',R,rw',e,k⟩
 cases f with
 | len=>
  replace e:=qBL e
  obtain ⟨x0,rfl,e⟩:=e
  replace e:=qBT e
  obtain ⟨a,rfl,e⟩:=e
  split at e
  ·rename_i ys ey
   cases e
   cases rw' with
   | cons r1 t=>
    cases t
    obtain ⟨p,rfl,hp⟩:=qAL r1
    obtain ⟨p',zs,hp',hs,rs⟩:=R.its ey
    rw [hp] at hp';cases hp'
    refine L2.call_len_seq pins s σ H _ us Q I r ⟨p,zs,rfl,hs,?_⟩
    rw [<- Paired.length rs]
    exact k φ H _ (.refl _) R rfl
  ·cases e
 | sum=>
  replace e:=qBL e
  obtain ⟨x0,rfl,e⟩:=e
  replace e:=qBT e
  obtain ⟨a,rfl,e⟩:=e
  split at e
  ·rename_i ys ey
   split at e
   ·rename_i is ei
    cases e
    cases rw' with
    | cons r1 t=>
     cases t
     obtain ⟨p,rfl,hp⟩:=qAL r1
     obtain ⟨p',zs,hp',hs,rs⟩:=R.lst ey
     rw [hp] at hp';cases hp'
     have hz:=qBq (qCL ei) rs
     subst hz
     obtain ⟨its,rv',pl,_⟩:=I.list hs
     obtain ⟨u,rfl,ru⟩:=L2.vals1 r
     cases ru
     exact qE9 (I.ok.hd hc) pl.isList ei rv' fun h1 tk t' hk=>⟨.int is.sum,H,I.kept hk,⟨_,rfl⟩,k φ H _ (.refl _) R rfl⟩
   ·cases e
  ·cases e
 | all=>
  replace e:=qBL e
  obtain ⟨x0,rfl,e⟩:=e
  replace e:=qBT e
  obtain ⟨a,rfl,e⟩:=e
  split at e
  ·rename_i ys ey
   split at e
   ·rename_i is ei
    cases e
    cases rw' with
    | cons r1 t=>
     cases t
     obtain ⟨p,rfl,hp⟩:=qAL r1
     obtain ⟨p',zs,hp',hs,rs⟩:=R.lst ey
     rw [hp] at hp';cases hp'
     have hm:=qBj ei
     subst hm
     have hz:=qBq (qCn is) rs
     subst hz
     obtain ⟨its,rv',pl,_⟩:=I.list hs
     obtain ⟨u,rfl,ru⟩:=L2.vals1 r
     cases ru
     exact qE4 (I.ok.hd hc) pl.isList (qDA rv') fun h1 tk hk=>⟨.bl (is.all id),H,I.kept hk,rfl,k φ H _ (.refl _) R rfl⟩
   ·cases e
  ·cases e
 | any=>
  replace e:=qBL e
  obtain ⟨x0,rfl,e⟩:=e
  replace e:=qBT e
  obtain ⟨a,rfl,e⟩:=e
  split at e
  ·rename_i ys ey
   split at e
   ·rename_i is ei
    cases e
    cases rw' with
    | cons r1 t=>
     cases t
     obtain ⟨p,rfl,hp⟩:=qAL r1
     obtain ⟨p',zs,hp',hs,rs⟩:=R.lst ey
     rw [hp] at hp';cases hp'
     have hm:=qBj ei
     subst hm
     have hz:=qBq (qCn is) rs
     subst hz
     obtain ⟨its,rv',pl,_⟩:=I.list hs
     obtain ⟨u,rfl,ru⟩:=L2.vals1 r
     cases ru
     exact qE1 (I.ok.hd hc) pl.isList (qDA rv') fun h1 tk hk=>⟨.bl (is.any id),H,I.kept hk,rfl,k φ H _ (.refl _) R rfl⟩
   ·cases e
  ·cases e
 | max=>
  replace e:=two_inv e
  obtain ⟨x0,y0,rfl,e⟩:=e
  replace e:=qAr e
  obtain ⟨i,j,rfl,rfl,e⟩:=e
  cases e
  cases rw' with
  | cons r1 t=>
   cases t with
   | cons r2 t=>
    cases t
    cases qAD r1;cases qAD r2
    exact L2.call_max2 hc pins s σ H _ us Q I r ⟨_,_,rfl,k φ H _ (.refl _) R rfl⟩
 | min=>
  replace e:=two_inv e
  obtain ⟨x0,y0,rfl,e⟩:=e
  replace e:=qAr e
  obtain ⟨i,j,rfl,rfl,e⟩:=e
  cases e
  cases rw' with
  | cons r1 t=>
   cases t with
   | cons r2 t=>
    cases t
    cases qAD r1;cases qAD r2
    exact L2.call_min2 hc pins s σ H _ us Q I r ⟨_,_,rfl,k φ H _ (.refl _) R rfl⟩
 | abs=>
  replace e:=qBL e
  obtain ⟨x0,rfl,e⟩:=e
  split at e
  ·cases e
   cases rw' with
   | cons r1 t=>
    cases t
    cases qAD r1
    exact L2.call_abs pins s σ H _ us Q I r ⟨_,rfl,k φ H _ (.refl _) R rfl⟩
  ·cases e
 | bits=>
  replace e:=qBL e
  obtain ⟨x0,rfl,e⟩:=e
  split at e
  ·cases e
   cases rw' with
   | cons r1 t=>
    cases t
    cases qAD r1
    obtain ⟨u,rfl,ru⟩:=L2.vals1 r
    obtain ⟨t,rfl⟩:=ru
    rename_i j
    exact call_int_bit_length ⟨.int ((Builtin.Int.intBits j:Nat):Int),H,I.tok _,⟨_,rfl⟩,k φ H _ (.refl _) R rfl⟩
  ·cases e
 | list=>
  replace e:=qBL e
  obtain ⟨x0,rfl,e⟩:=e
  replace e:=qBT e
  obtain ⟨a,rfl,e⟩:=e
  split at e
  ·rename_i ys ey
   cases e
   cases rw' with
   | cons r1 t=>
    cases t
    obtain ⟨p,rfl,hp⟩:=qAL r1
    obtain ⟨p',zs,hp',hs,rs⟩:=R.its ey
    rw [hp] at hp';cases hp'
    exact L2.call_list_of pins s σ H _ us Q I r ⟨p,zs,rfl,hs,fun l hl=>k (φ++[l]) _ _ ⟨[l],rfl⟩ (R.newL hl rs) R.lastRef⟩
  ·cases e
 | int=>
  replace e:=qBL e
  obtain ⟨x0,rfl,e⟩:=e
  split at e
  ·cases e
   cases rw' with
   | cons r1 t=>
    cases t
    cases qAD r1
    exact L2.call_int1 pins s σ H _ us Q I r (.inl ⟨_,rfl,k φ H _ (.refl _) R rfl⟩)
  ·cases e
   cases rw' with
   | cons r1 t=>
    cases t
    cases qAw r1
    exact L2.call_int1 pins s σ H _ us Q I r (.inr ⟨_,rfl,k φ H _ (.refl _) R rfl⟩)
  ·cases e
end
end PI
namespace PI
open PySem PySem.SeqAt
open AutoSeq1 (wpAny_loadPart')
open MeetsSeq MeetsSeq2 MeetsSeq3 SeqRoads2
end PI
namespace PI
open PySem PySem.Spec PyProof.Rows PySem.SeqAt
open L2 (V Hp HO Cx PE PT PA PS PSs PG PW TE TT TA TS VK upd qAI qAH SqL SqT qDx Inv RelV Vals EP TP AP SP OpR qAq R2)
theorem qBE {r:RV} {b:Bool} {h:AH} (e:asB r=.ok (b,h)):r=.ok (.bl b,h):=by
 unfold asB at e
 obtain ⟨⟨v,h1⟩,e1,e2⟩:=Res.bind_inv e
 dsimp only at e2
 split at e2
 ·cases e2;exact e1
 ·cases e2
theorem qEU {r:RV} {b:Bool} {h:AH} (e:r=.ok (.bl b,h)):asB r=.ok (b,h):=by
 subst e
 rfl
section
variable {X:Cx} {G:List Addr} {F:Nat -> List V -> AH -> RV} {a b c:E} {as:Es} {ea eb ec:Expr} {es:List Expr} {pos:Pos}
theorem qCI {K:PySem.W.Frag} {σ:St} {H:Hp} {Q:Bool -> Hp -> Prop} (q:tT K G F a σ H Q):tE K G F a σ H (fun x H'=>∃ k,x=.bl k/\Q k H'):=by
 obtain ⟨φ,h,σa,b,h',R,rs,e,k⟩:=q
 exact ⟨φ,h,σa,.bl b,h',R,rs,qBE e,fun φ' H' w x' R' r'=>⟨b,qAw r',k φ' H' x' R'⟩⟩
theorem qAR (h:SE X G F ea a) (he:∀ whole,isTrue ea X.env whole=(do let v <- whole;standAt ea.pos;holding [v] (truthy v))):ST X G F ea a:=
 qFm (L2.pt_val h he) fun _ _ _ q=>qCI q
theorem qHF {op:COp} {σc:St} {H:Hp} {Q:VK} (q:tE X.K G F (.cmp op a b) σc H Q):L2.tOp (qH3 X G op) (tE X.K G F a) (tE X.K G F b) σc H Q:=by
 obtain ⟨φ,h,σ,v,h',R,rs,e,k⟩:=q
 unfold ev at e
 obtain ⟨⟨x,h1⟩,e1,e⟩:=Res.bind_inv e
 obtain ⟨⟨y,h2⟩,e2,e⟩:=Res.bind_inv e
 refine qBi R rs e1 e2 fun φ2 H2 xc yc x2 R2 r1 r2=>?_
 unfold qGv at e
 dsimp only at e
 split at e
 ·rename_i t et
  cases e
  exact ⟨φ2,_,x,y,t,R2,r1,r2,et,k φ2 H2 _ x2 R2 rfl⟩
 ·cases e
theorem qI0 {op:COp} (hu:X.A.units + 8 < cLine) (ha:SE X G F ea a) (hb:SE X G F eb b) (hm:behindInMarks (opC op) eb=false):SE X G F (.Compare ea [opC op] [eb] pos) (.cmp op a b):=
 qAf (L2.pe_cmpR (qAp hu op) ha hb hm) fun _ _ _=>qHF
theorem qJg {op:COp} (hu:X.A.units + 8 < cLine) (ha:SE X G F ea a) (hb:SE X G F eb b) (hm:behindInMarks (opC op) eb=false):ST X G F (.Compare ea [opC op] [eb] pos) (.cmp op a b):=
 qFm (L2.pt_cmpR (qAp hu op) ha hb hm) fun _ _ _ q=>qHF (qCI q)
theorem qEq {o1 o2:COp} {σc:St} {H:Hp} {Q:VK} (q:tE X.K G F (.cmp2 o1 o2 a b c) σc H Q):L2.tChain (qH3 X G o1) (qH3 X G o2) (tE X.K G F a) (tE X.K G F b) (tE X.K G F c) σc H Q:=by
 obtain ⟨φ,h,σ,v,h',R,rs,e,k⟩:=q
 unfold ev at e
 obtain ⟨⟨x,h1⟩,e1,e⟩:=Res.bind_inv e
 obtain ⟨⟨y,h2⟩,e2,e⟩:=Res.bind_inv e
 refine qBi R rs e1 e2 fun φ2 H2 xc yc x2 R2 r1 r2=>?_
 dsimp only at e
 split at e
 ·rename_i et
  refine ⟨φ2,_,x,y,true,R2,r1,r2,et,true,rfl,?_⟩
  rw [if_pos rfl]
  obtain ⟨⟨z,h3⟩,e3,e⟩:=Res.bind_inv e
  refine ⟨φ2,_,σ,z,h3,R2,rst.mono x2 rs,e3,fun φ3 H3 zc x3 R3 r3=>?_⟩
  unfold qGv at e
  dsimp only at e
  split at e
  ·rename_i t et
   cases e
   exact ⟨φ3,_,y,z,t,R3,rv.mono x3 r2,r3,et,k φ3 H3 _ (x2.trans x3) R3 rfl⟩
  ·cases e
 ·rename_i et
  cases e
  refine ⟨φ2,_,x,y,false,R2,r1,r2,et,false,rfl,?_⟩
  rw [if_neg (by decide)]
  exact k φ2 H2 _ x2 R2 rfl
 ·cases e
theorem qGe {o1 o2:COp} (hu:X.A.units + 8 < cLine) (ha:SE X G F ea a) (hb:SE X G F eb b) (hc:SE X G F ec c) (hm:lastMarks [opC o1,opC o2] [eb,ec]=false):SE X G F (.Compare ea [opC o1,opC o2] [eb,ec] pos) (.cmp2 o1 o2 a b c):=
 qAf (L2.pe_chain (qAp hu o1) (qAp hu o2) ha hb hc hm) fun _ _ _=>qEq
theorem qGU {o1 o2:COp} (hu:X.A.units + 8 < cLine) (ha:SE X G F ea a) (hb:SE X G F eb b) (hc:SE X G F ec c) (hm:lastMarks [opC o1,opC o2] [eb,ec]=false):ST X G F (.Compare ea [opC o1,opC o2] [eb,ec] pos) (.cmp2 o1 o2 a b c):=
 qFm (L2.pt_chain (qAp hu o1) (qAp hu o2) ha hb hc hm) fun _ _ _ q=>qEq (qCI q)
noncomputable def qD4 (r r' r2:L2.R2) (ta tb tc td:L2.TE):L2.TE:=fun σ H Q=>ta σ H fun x H1=>tb σ H1 fun y H2=>r x y H2 fun z H3=>∃ k,z=.bl k/\
 (if k=true then tc σ H3 fun w' H4=>r' y w' H4 fun z' H5=>∃ k',z'=.bl k'/\(if k'=true then td σ H5 fun u' H6=>r2 w' u' H6 Q else Q (.bl false) H5) else Q (.bl false) H3)
section
open L2
theorem qFw {X:L2.Cx} {a b c d:Expr} {ta tb tc td:L2.TE} {op op' op2:CmpOp} {r r' r2:R2} (ho:OpR X (compareOp op) r) (ho':OpR X (compareOp op') r') (ho2:OpR X (compareOp op2) r2) (ha:PE X a ta) (hb:PE X b tb) (hc:PE X c tc) (hd:PE X d td)
  (hm:lastMarks [op,op',op2] [b,c,d]=false):PE X (.Compare a [op,op',op2] [b,c,d] pos) (qD4 r r' r2 ta tb tc td):=by
 intro pins s σ H Q I h
 refine Compare_chain (thn (ha pins s σ H _ I h) fun v s1 ⟨x,H1,I1,r1,q1⟩=>chain_link (thn (hb pins s1 σ H1 _ I1 q1) fun u s2 ⟨y,H2,I2,r2,q2⟩=>
  thn (ho pins s2 σ H2 x y v u _ I2 r1 r2 q2) fun d s3 ⟨z,H3,I3,r3,k,e,q3⟩=>?_)) hm
 subst e
 cases r3
 refine wpAny_truthy_bool ?_
 cases k with
 | false=>exact ite_ff ⟨.bl false,H3,I3,rfl,q3⟩
 | true=>
  refine ite_tt (chain_link (thn (hc pins s3 σ H3 _ I3 q3) fun w' s4 ⟨z',H4,I4,r4,q4⟩=>thn (ho' pins s4 σ H4 y z' u w' _ I4 r2 r4 q4) fun d' s5 ⟨z2,H5,I5,r5,k2,e2,q5⟩=>?_))
  subst e2
  cases r5
  refine wpAny_truthy_bool ?_
  cases k2 with
  | false=>exact ite_ff ⟨.bl false,H5,I5,rfl,q5⟩
  | true=>exact ite_tt (chain_last (thn (hd pins s5 σ H5 _ I5 q5) fun w2 s6 ⟨z3,H6,I6,r6,q6⟩=>ho2 pins s6 σ H6 z' z3 w' w2 Q I6 r4 r6 q6))
theorem qFk {X:L2.Cx} {a b c d:Expr} {ta tb tc td:L2.TE} {op op' op2:CmpOp} {r r' r2:R2} (ho:OpR X (compareOp op) r) (ho':OpR X (compareOp op') r') (ho2:OpR X (compareOp op2) r2) (ha:PE X a ta) (hb:PE X b tb) (hc:PE X c tc) (hd:PE X d td)
  (hm:lastMarks [op,op',op2] [b,c,d]=false):PT X (.Compare a [op,op',op2] [b,c,d] pos) (qHi (qD4 r r' r2 ta tb tc td)):=by
 intro pins s σ H Q I h
 refine isTrue_chain (thn (ha pins s σ H _ I h) fun v s1 ⟨x,H1,I1,r1,q1⟩=>test_link (thn (hb pins s1 σ H1 _ I1 q1) fun u s2 ⟨y,H2,I2,r2,q2⟩=>
  thn (ho pins s2 σ H2 x y v u _ I2 r1 r2 q2) fun d s3 ⟨z,H3,I3,r3,k,e,q3⟩=>?_)) hm
 subst e
 cases r3
 refine wpAny_truthy_bool ?_
 cases k with
 | false=>
  obtain ⟨k',e',q'⟩:=q3
  cases e'
  exact ite_ff ⟨H3,I3,q'⟩
 | true=>
  refine ite_tt (test_link (thn (hc pins s3 σ H3 _ I3 q3) fun w' s4 ⟨z',H4,I4,r4,q4⟩=>thn (ho' pins s4 σ H4 y z' u w' _ I4 r2 r4 q4) fun d' s5 ⟨z2,H5,I5,r5,k2,e2,q5⟩=>?_))
  subst e2
  cases r5
  refine wpAny_truthy_bool ?_
  cases k2 with
  | false=>
   obtain ⟨k',e',q'⟩:=q5
   cases e'
   exact ite_ff ⟨H5,I5,q'⟩
  | true=>
   refine ite_tt (test_last (thn (hd pins s5 σ H5 _ I5 q5) fun w2 s6 ⟨z3,H6,I6,r6,q6⟩=>thn (ho2 pins s6 σ H6 z' z3 w' w2 _ I6 r4 r6 q6) fun d2 s7 ⟨z4,H7,I7,r7,k4,e4,q7⟩=>?_))
   subst e4
   cases r7
   exact wpAny_truthy_bool ⟨H7,I7,q7⟩
end
theorem qDw {o1 o2 o3:COp} {σc:St} {H:Hp} {Q:VK} (q:tE X.K G F (.cmp3 o1 o2 o3 a b c d) σc H Q):qD4 (qH3 X G o1) (qH3 X G o2) (qH3 X G o3) (tE X.K G F a) (tE X.K G F b) (tE X.K G F c) (tE X.K G F d) σc H Q:=by
 obtain ⟨φ,h,σ,v,h',R,rs,e,k⟩:=q
 unfold ev at e
 obtain ⟨⟨x,h1⟩,e1,e⟩:=Res.bind_inv e
 obtain ⟨⟨y,h2⟩,e2,e⟩:=Res.bind_inv e
 refine qBi R rs e1 e2 fun φ2 H2 xc yc x2 R2 r1 r2=>?_
 dsimp only at e
 split at e
 ·rename_i et
  refine ⟨φ2,_,x,y,true,R2,r1,r2,et,true,rfl,?_⟩
  rw [if_pos rfl]
  obtain ⟨⟨z,h3⟩,e3,e⟩:=Res.bind_inv e
  refine ⟨φ2,_,σ,z,h3,R2,rst.mono x2 rs,e3,fun φ3 H3 zc x3 R3 r3=>?_⟩
  dsimp only at e
  split at e
  ·rename_i et3
   refine ⟨φ3,_,y,z,true,R3,rv.mono x3 r2,r3,et3,true,rfl,?_⟩
   rw [if_pos rfl]
   obtain ⟨⟨w,h4⟩,e4,e⟩:=Res.bind_inv e
   refine ⟨φ3,_,σ,w,h4,R3,rst.mono x3 (rst.mono x2 rs),e4,fun φ4 H4 wc x4 R4 r4=>?_⟩
   unfold qGv at e
   dsimp only at e
   split at e
   ·rename_i t et
    cases e
    exact ⟨φ4,_,z,w,t,R4,rv.mono x4 r3,r4,et,k φ4 H4 _ ((x2.trans x3).trans x4) R4 rfl⟩
   ·cases e
  ·rename_i et3
   cases e
   refine ⟨φ3,_,y,z,false,R3,rv.mono x3 r2,r3,et3,false,rfl,?_⟩
   rw [if_neg (by decide)]
   exact k φ3 H3 _ (x2.trans x3) R3 rfl
  ·cases e
 ·rename_i et
  cases e
  refine ⟨φ2,_,x,y,false,R2,r1,r2,et,false,rfl,?_⟩
  rw [if_neg (by decide)]
  exact k φ2 H2 _ x2 R2 rfl
 ·cases e
theorem qF6 {o1 o2 o3:COp} (hu:X.A.units + 8 < cLine) (ha:SE X G F ea a) (hb:SE X G F eb b) (hc:SE X G F ec c) (hd:SE X G F ed d) (hm:lastMarks [opC o1,opC o2,opC o3] [eb,ec,ed]=false):SE X G F (.Compare ea [opC o1,opC o2,opC o3] [eb,ec,ed] pos) (.cmp3 o1 o2 o3 a b c d):=
 qAf (qFw (qAp hu o1) (qAp hu o2) (qAp hu o3) ha hb hc hd hm) fun _ _ _=>qDw
theorem qFY {o1 o2 o3:COp} (hu:X.A.units + 8 < cLine) (ha:SE X G F ea a) (hb:SE X G F eb b) (hc:SE X G F ec c) (hd:SE X G F ed d) (hm:lastMarks [opC o1,opC o2,opC o3] [eb,ec,ed]=false):ST X G F (.Compare ea [opC o1,opC o2,opC o3] [eb,ec,ed] pos) (.cmp3 o1 o2 o3 a b c d):=
 qFm (qFk (qAp hu o1) (qAp hu o2) (qAp hu o3) ha hb hc hd hm) fun _ _ _ q=>qDw (qCI q)
theorem qHe {σc:St} {H:Hp} {Q:VK} (q:tE X.K G F (.and a b) σc H Q):L2.tAndV (tE X.K G F a) (tE X.K G F b) σc H Q:=by
 obtain ⟨φ,h,σ,v,h',R,rs,e,k⟩:=q
 unfold ev at e
 obtain ⟨⟨x,h1⟩,e1,e⟩:=Res.bind_inv e
 refine ⟨φ,h,σ,.bl x,h1,R,rs,qBE e1,fun φ1 H1 w x1 R1 r1=>⟨x,qAw r1,?_⟩⟩
 dsimp only at e
 cases x with
 | true=>
  rw [if_pos rfl] at e ⊢
  exact ⟨φ1,h1,σ,v,h',R1,rst.mono x1 rs,e,fun φ2 H2 w2 x2 R2 r2=>k φ2 H2 w2 (x1.trans x2) R2 r2⟩
 | false=>
  rw [if_neg (by decide)] at e ⊢
  cases e
  exact k φ1 H1 _ x1 R1 rfl
theorem qJV {σc:St} {H:Hp} {Q:VK} (q:tE X.K G F (.or a b) σc H Q):L2.tOrV (tE X.K G F a) (tE X.K G F b) σc H Q:=by
 obtain ⟨φ,h,σ,v,h',R,rs,e,k⟩:=q
 unfold ev at e
 obtain ⟨⟨x,h1⟩,e1,e⟩:=Res.bind_inv e
 refine ⟨φ,h,σ,.bl x,h1,R,rs,qBE e1,fun φ1 H1 w x1 R1 r1=>⟨x,qAw r1,?_⟩⟩
 dsimp only at e
 cases x with
 | false=>
  rw [if_neg (by decide)] at e ⊢
  exact ⟨φ1,h1,σ,v,h',R1,rst.mono x1 rs,e,fun φ2 H2 w2 x2 R2 r2=>k φ2 H2 w2 (x1.trans x2) R2 r2⟩
 | true=>
  rw [if_pos rfl] at e ⊢
  cases e
  exact k φ1 H1 _ x1 R1 rfl
theorem qJH {σc:St} {H:Hp} {Q:Bool -> Hp -> Prop} (q:tT X.K G F (.and a b) σc H Q):L2.tAnd (tT X.K G F a) (tT X.K G F b) σc H Q:=by
 obtain ⟨φ,h,σ,t,h',R,rs,e,k⟩:=q
 have e:=qBE e
 unfold ev at e
 obtain ⟨⟨x,h1⟩,e1,e⟩:=Res.bind_inv e
 refine ⟨φ,h,σ,x,h1,R,rs,e1,fun φ1 H1 x1 R1=>?_⟩
 dsimp only at e
 cases x with
 | true=>
  rw [if_pos rfl] at e ⊢
  exact ⟨φ1,h1,σ,t,h',R1,rst.mono x1 rs,qEU e,fun φ2 H2 x2 R2=>k φ2 H2 (x1.trans x2) R2⟩
 | false=>
  rw [if_neg (by decide)] at e ⊢
  cases e
  exact k φ1 H1 x1 R1
theorem qKk {σc:St} {H:Hp} {Q:Bool -> Hp -> Prop} (q:tT X.K G F (.or a b) σc H Q):L2.tOr (tT X.K G F a) (tT X.K G F b) σc H Q:=by
 obtain ⟨φ,h,σ,t,h',R,rs,e,k⟩:=q
 have e:=qBE e
 unfold ev at e
 obtain ⟨⟨x,h1⟩,e1,e⟩:=Res.bind_inv e
 refine ⟨φ,h,σ,x,h1,R,rs,e1,fun φ1 H1 x1 R1=>?_⟩
 dsimp only at e
 cases x with
 | false=>
  rw [if_neg (by decide)] at e ⊢
  exact ⟨φ1,h1,σ,t,h',R1,rst.mono x1 rs,qEU e,fun φ2 H2 x2 R2=>k φ2 H2 (x1.trans x2) R2⟩
 | true=>
  rw [if_pos rfl] at e ⊢
  cases e
  exact k φ1 H1 x1 R1
variable (X G F) in
noncomputable abbrev SW (e:Expr) (a:E):Prop:=PW X e (tT X.K G F a)
theorem qIp {e:Expr} {t t':TT} (h:PW X e t) (w:∀ σ H Q,t' σ H Q -> t σ H Q):PW X e t':=fun wh pins s σ H Q I q=>h wh pins s σ H Q I (w σ H Q q)
theorem qJf {qCA:List Expr} (ha:SE X G F ea a) (hb:SE X G F (.BoolOp .And (eb::qCA) pos) b):SE X G F (.BoolOp .And (ea::eb::qCA) pos) (.and a b):=qAf (L2.pe_and ha hb) fun _ _ _=>qHe
theorem qKq {qCA:List Expr} (ha:SE X G F ea a) (hb:SE X G F (.BoolOp .Or (eb::qCA) pos) b):SE X G F (.BoolOp .Or (ea::eb::qCA) pos) (.or a b):=qAf (L2.pe_or ha hb) fun _ _ _=>qJV
theorem qJZ {qCA:List Expr} (ha:ST X G F ea a) (hb:SW X G F (.BoolOp .And (eb::qCA) pos) b):SW X G F (.BoolOp .And (ea::eb::qCA) pos) (.and a b):=qIp (L2.pw_and ha hb) fun _ _ _=>qJH
theorem qKl {qCA:List Expr} (ha:ST X G F ea a) (hb:SW X G F (.BoolOp .Or (eb::qCA) pos) b):SW X G F (.BoolOp .Or (ea::eb::qCA) pos) (.or a b):=qIp (L2.pw_or ha hb) fun _ _ _=>qKk
theorem qIy (ha:SE X G F ea a):SE X G F (.UnaryOp .Not ea pos) (.not a):=by
 refine qAf (L2.pe_not ha) fun σc H Q q=>?_
 obtain ⟨φ,h,σ,v,h',R,rs,e,k⟩:=q
 unfold ev at e
 obtain ⟨⟨x,h1⟩,e1,e⟩:=Res.bind_inv e
 cases e
 exact ⟨φ,h,σ,.bl x,_,R,rs,qBE e1,fun φ1 H1 w x1 R1 r1=>⟨x,qAw r1,k φ1 H1 _ x1 R1 rfl⟩⟩
theorem qIx (ha:ST X G F ea a):ST X G F (.UnaryOp .Not ea pos) (.not a):=by
 refine qFm (L2.pt_not ha) fun σc H Q q=>?_
 obtain ⟨φ,h,σ,t,h',R,rs,e,k⟩:=q
 have e:=qBE e
 unfold ev at e
 obtain ⟨⟨x,h1⟩,e1,e⟩:=Res.bind_inv e
 cases e
 exact ⟨φ,h,σ,x,_,R,rs,e1,fun φ1 H1 x1 R1=>k φ1 H1 x1 R1⟩
theorem qI4 (hc:ST X G F ec c) (ha:SE X G F ea a) (hb:SE X G F eb b):SE X G F (.IfExp ec ea eb pos) (.ite c a b):=by
 refine qAf (L2.pe_ifExp hc ha hb) fun σc H Q q=>?_
 obtain ⟨φ,h,σ,v,h',R,rs,e,k⟩:=q
 unfold ev at e
 obtain ⟨⟨x,h1⟩,e1,e⟩:=Res.bind_inv e
 refine ⟨φ,h,σ,x,h1,R,rs,e1,fun φ1 H1 x1 R1=>?_⟩
 dsimp only at e
 cases x with
 | true=>
  rw [if_pos rfl] at e ⊢
  exact ⟨φ1,h1,σ,v,h',R1,rst.mono x1 rs,e,fun φ2 H2 w2 x2 R2 r2=>k φ2 H2 w2 (x1.trans x2) R2 r2⟩
 | false=>
  rw [if_neg (by decide)] at e ⊢
  exact ⟨φ1,h1,σ,v,h',R1,rst.mono x1 rs,e,fun φ2 H2 w2 x2 R2 r2=>k φ2 H2 w2 (x1.trans x2) R2 r2⟩
theorem qJd (hc:ST X G F ec c) (ha:ST X G F ea a) (hb:ST X G F eb b):ST X G F (.IfExp ec ea eb pos) (.ite c a b):=by
 intro pins s σc H Q I q
 obtain ⟨φ,h,σ,t,h',R,rs,e,k⟩:=q
 have e:=qBE e
 unfold ev at e
 obtain ⟨⟨x,h1⟩,e1,e⟩:=Res.bind_inv e
 refine isTrue_IfExp (L2.thn (hc pins s σc H (fun z H1=>(z=true -> tT X.K G F a σc H1 Q)/\(z=false -> tT X.K G F b σc H1 Q)) I ⟨φ,h,σ,x,h1,R,rs,e1,fun φ1 H1 x1 R1=>?_⟩) fun z s1 ⟨H1,I1,q1,q2⟩=>?_)
 ·dsimp only at e
  cases x with
  | true=>
   rw [if_pos rfl] at e
   exact ⟨fun _=>⟨φ1,h1,σ,t,h',R1,rst.mono x1 rs,qEU e,fun φ2 H2 x2 R2=>k φ2 H2 (x1.trans x2) R2⟩,fun z=>nomatch z⟩
  | false=>
   rw [if_neg (by decide)] at e
   exact ⟨(fun z=>nomatch z),fun _=>⟨φ1,h1,σ,t,h',R1,rst.mono x1 rs,qEU e,fun φ2 H2 x2 R2=>k φ2 H2 (x1.trans x2) R2⟩⟩
 ·cases z with
  | true=>exact ha pins s1 σc H1 Q I1 (q1 rfl)
  | false=>exact hb pins s1 σc H1 Q I1 (q2 rfl)
noncomputable def qAF:Expr -> Bool
 | .Starred ..=>false
 | _=>true
theorem qAA {e:Expr} {env:Env} (h:qAF e=true):starEach (e::es) env=(false,eval e env)::starEach es env:=by
 cases e<;>first | rfl | cases h
theorem qAn {env:Env}:∀ {es:List Expr},es.all qAF=true -> (backTo pos (starEach es env)).any (·.1)=false
 | [],_=>rfl
 | e::es,h=>by
  simp only [List.all_cons,Bool.and_eq_true] at h
  rw [qAA h.1]
  show (false||(backTo pos (starEach es env)).any (·.1))=false
  rw [qAn h.2]
  rfl
theorem qFp:SA X G F [] .nil:=by
 refine qJc L2.pa_nil fun σc H Q q=>?_
 obtain ⟨φ,h,σ,v,h',R,rs,e,k⟩:=q
 unfold evs at e
 cases e
 exact k φ H [] (.refl _) R .nil
theorem qC1 (hn:qAF ea=true) (ha:SE X G F ea a) (hr:SA X G F es as):SA X G F (ea::es) (.cons a as):=by
 refine qJc (L2.pa_cons ha hr (qAA hn)) fun σc H Q q=>?_
 obtain ⟨φ,h,σ,v,h',R,rs,e,k⟩:=q
 unfold evs at e
 obtain ⟨⟨x,h1⟩,e1,e⟩:=Res.bind_inv e
 obtain ⟨⟨xs,h2⟩,e2,e⟩:=Res.bind_inv e
 cases e
 exact ⟨φ,h,σ,x,h1,R,rs,e1,fun φ1 H1 w x1 R1 r1=>⟨φ1,h1,σ,xs,_,R1,rst.mono x1 rs,e2,fun φ2 H2 ws x2 R2 r2=>k φ2 H2 _ (x1.trans x2) R2 (.cons (rv.mono x2 r1) r2)⟩⟩
theorem qIo (h:SA X G F es as):SE X G F (.List es pos) (.lst as):=by
 refine qAf (L2.pe_lst h) fun σc H Q q=>?_
 obtain ⟨φ,h,σ,v,h',R,rs,e,k⟩:=q
 unfold ev at e
 obtain ⟨⟨xs,h1⟩,e1,e⟩:=Res.bind_inv e
 refine ⟨φ,h,σ,xs,h1,R,rs,e1,fun φ1 H1 ws x1 R1 r1=>?_⟩
 dsimp only at e
 split at e
 ·rename_i hl
  cases e
  refine ⟨by rw [<- Paired.length r1];exact Nat.le_trans hl qBu,fun p hp=>k (φ1++[p]) _ _ (x1.trans ⟨[p],rfl⟩) (R1.newL hp r1) R1.lastRef⟩
 ·cases e
theorem qF7:SE X G F (.Dict [] [] pos) .dnew:=by
 intro pins s σc H Q I q
 obtain ⟨φ,h,σ,v,h',R,rs,e,k⟩:=q
 unfold ev at e
 cases e
 have hbig:sysModules < s.heap.objs.size:=Nat.lt_trans (by decide) (I.mod.glob.keeps I.bk).lt
 have hn:=I.hok.fresh (Nat.le_refl s.heap.objs.size)
 exact wpAny_Dict_empty ⟨.ref s.heap.objs.size,_,I.laid (a:=s.heap.objs.size) (o:=.dK []) (t':=s.toks) (fun _ _ q=>Heap.get?_push_of_some _ q) (Nat.le_refl _)
  ⟨Nat.zero_le _,beq_eq_false_iff_ne.mpr (Ne.symm (Nat.ne_of_lt hbig)),[],.nil,Heap.DictOf.new s.heap⟩,rfl,
  k (φ++[s.heap.objs.size]) _ _ ⟨[s.heap.objs.size],rfl⟩ (R.new hn (o:=.ob (.dct [])) qAI) R.lastRef⟩
theorem qHS {x1} (h:SA X G F es as):SE X G F (.Tuple es x1 pos) (.tup as):=by
 refine qAf (L2.pe_tup h) fun σc H Q q=>?_
 obtain ⟨φ,h,σ,v,h',R,rs,e,k⟩:=q
 unfold ev at e
 obtain ⟨⟨xs,h1⟩,e1,e⟩:=Res.bind_inv e
 refine ⟨φ,h,σ,xs,h1,R,rs,e1,fun φ1 H1 ws x1 R1 r1=>?_⟩
 dsimp only at e
 split at e
 ·rename_i hl
  cases e
  refine ⟨by rw [<- Paired.length r1];exact Nat.le_trans hl qBu,fun p hp=>k (φ1++[p]) _ _ (x1.trans ⟨[p],rfl⟩) (R1.newT hp r1) R1.lastRef⟩
 ·cases e
variable (G F) in
noncomputable def spF (K:PySem.W.Frag) (f:Nat):L2.Sp:=fun vs H Q _=>∃ φ h ws v h',Rl K G φ h H/\rvs φ ws vs/\F f ws h=.ok (v,h')/\∀ φ' H' w,Ext φ φ' -> Rl K G φ' h' H' -> rv φ' v w -> Q w H'
variable (X G F) in
structure FnS (f:Nat) (x:Str):Prop where
 ex:∃ k fa fd ps,L2.FnOk X.prog X.w X.K X.mg X.base L2.CX0 k fa fd ps (spF G F X.K f)/\L2.Room k X.A/\X.mg x=some (.ref fa)/\PySem.W.keepIn X.K (.ref fa)=true/\L2.Binds X.K fd ps []
theorem qFH {f:Nat} {σc:St} {H:Hp} {Q:VK} (q:tE X.K G F (.call f as) σc H Q):L2.tCall (spF G F X.K f) [] L2.E0 (tL X.K G F as) σc H Q:=by
 obtain ⟨φ,h,σ,v,h',R,rs,e,k⟩:=q
 unfold ev at e
 obtain ⟨⟨xs,h1⟩,e1,e⟩:=Res.bind_inv e
 refine ⟨φ,h,σ,xs,h1,R,rs,e1,fun φ1 H1 ws x1 R1 r1=>?_⟩
 have e:F f xs h1=.ok (v,h'):=by
  have e:(F f xs h1).nx=.ok (v,h'):=e
  revert e
  generalize F f xs h1=r
  cases r<;>intro e<;>first | exact e | cases e
 refine ⟨φ1,h1,xs,v,h',R1,by rw [List.append_nil];exact r1,e,fun φ2 H2 w x2 R2 r2=>k φ2 H2 w (x1.trans x2) R2 r2⟩
theorem qHb {f:Nat} {x:Str} {p:Pos} (hf:FnS X G F f x) (hg:L2.Gl X x) (hd:(x==("__debug__":Str))=false) (hn:qAF ea=true) (hs:es.all qAF=true) (ha:SA X G F (ea::es) as):SE X G F (.Call (.Name x p) (ea::es) [] pos) (.call f as):=by
 obtain ⟨k,fa,fd,ps,h1,h2,h3,h4,h5⟩:=hf.ex
 exact qAf (L2.pe_call h1 h2 hg h3 h4 h5 .nil L2.pass0 ha hd (qAA hn) (qAn hs)) fun _ _ _=>qFH
theorem qGn {f:Nat} {x:Str} {p:Pos} (hf:FnS X G F f x) (hg:L2.Gl X x) (hd:(x==("__debug__":Str))=false):SE X G F (.Call (.Name x p) [] [] pos) (.call f .nil):=by
 obtain ⟨k,fa,fd,ps,h1,h2,h3,h4,h5⟩:=hf.ex
 refine qAf (L2.pe_call0 h1 h2 hg h3 h4 h5 .nil L2.pass0 hd) fun σc H Q q=>?_
 obtain ⟨φ,h,σ,vs,h',R,rs,e,k⟩:=qFH q
 unfold evs at e
 cases e
 exact k φ H [] (.refl _) R .nil
theorem qHA {f:BF} {σc:St} {H:Hp} {Q:VK} (q:tE X.K G F (.blt f as) σc H Q):L2.tCB (qKJ X G f) (tL X.K G F as) σc H Q:=by
 obtain ⟨φ,h,σ,v,h',R,rs,e,k⟩:=q
 unfold ev at e
 obtain ⟨⟨xs,h1⟩,e1,e⟩:=Res.bind_inv e
 exact ⟨φ,h,σ,xs,h1,R,rs,e1,fun φ1 H1 ws x1 R1 r1=>⟨φ1,h1,xs,v,h',R1,r1,e,fun φ2 H2 w x2 R2 r2=>k φ2 H2 w (x1.trans x2) R2 r2⟩⟩
theorem qIj {f:BF} {x:Str} {p:Pos} (hc:X.calm=true) (hu:X.A.units + 8 < cLine) (hgd:X.A.guards=some []) (hg:L2.Gl X x) (hm:X.mg x=none) (hv:bootBuiltins x=some (fnB f)) (hn:qAF ea=true) (hs:es.all qAF=true) (ha:SA X G F (ea::es) as)
  (h1:x≠"__name__") (h2:(x==("__debug__":Str))=false):SE X G F (.Call (.Name x p) (ea::es) [] pos) (.blt f as):=by
 have rule:=qDZ (G:=G) hc hu hgd f
 cases f
 all_goals first
  | exact qAf (L2.pe_callB rule hg hm hv ha h1 h2 (qAA hn) (qAn hs)) fun _ _ _=>qHA
  | exact qAf (L2.pe_callTy rule hg hm hv ha h1 h2 (qAA hn) (qAn hs)) fun _ _ _=>qHA
theorem qH8 {apos cpos:Pos} (hc:X.calm=true) (hu:X.A.units + 8 < cLine) (hgd:X.A.guards=some []) (hbase:attributeBase ea "bit_length" X.env (eval ea X.env)=eval ea X.env) (hline:(apos.endLine==cpos.line)=true) (ha:SE X G F ea a):
  SE X G F (.Call (.Attribute ea "bit_length" apos) [] [] cpos) (.blt .bits (.cons a .nil)):=by
 have rule:L2.MtR X "int.bit_length" (fun x xs H Q=>∃ i,x=.int i/\xs=[]/\qKJ X G .bits [.int i] H Q):=fun pins s σ H x xs v us Q I rx rs q=>by
  obtain ⟨i,rfl,rfl,q⟩:=q
  cases rs
  exact qDZ (G:=G) hc hu hgd .bits pins s σ H [.int i] [v] Q I (.cons rx .nil) q
 refine qAf (L2.pe_bm0 PySem.F.plainAttrs_int PyProof.Rows.slot_int_bit_length PyProof.Rows.type_int_bit_length rule ha hbase hline) fun σc H Q q=>?_
 obtain ⟨φ,h,σ,v,h',R,rs,e,k⟩:=q
 unfold ev at e
 obtain ⟨⟨xs,h1⟩,e1,e2⟩:=Res.bind_inv e
 unfold evs evs at e1
 obtain ⟨⟨x,h2⟩,e3,e4⟩:=Res.bind_inv e1
 cases e4
 replace e2:qKF .bits [x] h1=.ok (v,h'):=e2
 cases x with
 | int i=>exact ⟨φ,h,σ,_,_,R,rs,e3,fun φ1 H1 w x1 R1 r1=>by
   cases qAD r1
   exact ⟨rfl,i,rfl,rfl,φ1,_,[.int i],v,h',R1,.cons rfl .nil,e2,fun φ2 H2 w x2 R2 r2=>k φ2 H2 w (x1.trans x2) R2 r2⟩⟩
 | _=>cases e2
noncomputable def qDv (t:String):Bool:=t=="int"||t=="bool"||t=="list"||t=="tuple"||t=="str"||t=="dict"
theorem qCK (K:PySem.W.Frag):∀ {t c:String},(t="NoneType"\/t="bool"\/t="int"\/t="str"\/t="list"\/t="tuple"\/t="dict") -> qDv c=true -> PySem.W.kitOne K (.type t) (.type c)=some (qB5 t c):=by
 intro t c ht hc
 have hc':c="int"\/c="bool"\/c="list"\/c="tuple"\/c="str"\/c="dict":=by
  simp only [qDv,Bool.or_eq_true,beq_iff_eq] at hc
  rcases hc with ((((h | h) | h) | h) | h) | h<;>simp [h]
 rcases ht with rfl | rfl | rfl | rfl | rfl | rfl | rfl<;>rcases hc' with rfl | rfl | rfl | rfl | rfl | rfl<;>kernel_rfl
variable (X G) in
noncomputable def qL6 (c:String):List V -> Hp -> VK -> Prop:=fun xs H Q=>∃ φ h xa x t,xs=[x,.ty c]/\Rl X.K G φ h H/\rv φ xa x/\qBC h xa=some t/\Q (.bl (qB5 t c)) H
theorem qF2 {c:String} (hc:qDv c=true):qAq X (.builtin "isinstance") (qL6 X G c):=by
 intro pins s σ H xs us Q I r ⟨φ,h,xa,x,t,e,R,rx,ht,q⟩
 subst e
 obtain ⟨u,u2,rfl,r1,r2⟩:=L2.vals2 r
 cases (show u2=Value.type c from r2)
 have fin:∀ tk,EP X pins σ Q (.bool (qB5 t c)) { s with toks:=tk }:=fun tk=>⟨.bl (qB5 t c),H,I.tok tk,rfl,q⟩
 cases xa with
 | non=>cases qAv rx;cases r1;cases ht;exact PySem.W.kia_one PySem.W.kitx_none I.kIn True.intro (qCK _ (by simp) hc) (fun z=>nomatch z) fin
 | bl i=>cases qAw rx;cases r1;cases ht;exact PySem.W.kia_one PySem.W.kitx_bool I.kIn True.intro (qCK _ (by simp) hc) (fun z=>nomatch z) fin
 | int i=>cases qAD rx;obtain ⟨t',rfl⟩:=r1;cases ht;exact PySem.W.kia_one PySem.W.kitx_int I.kIn True.intro (qCK _ (by simp) hc) (fun z=>nomatch z) fin
 | str i=>cases qA9 rx;obtain ⟨t',rfl⟩:=r1;cases ht;exact PySem.W.kia_one PySem.W.kitx_str I.kIn True.intro (qCK _ (by simp) hc) (fun z=>nomatch z) fin
 | ref i=>
  obtain ⟨p,rfl,hp⟩:=qAL rx
  cases r1
  cases ey:h[i]? with
  | none=>rw [show qBC h (.ref i)=none by simp only [qBC,ey]] at ht;cases ht
  | some o=>
   cases o with
   | lst fz ys=>
    rw [show qBC h (.ref i)=some "list" by simp only [qBC,ey]] at ht;cases ht
    obtain ⟨p',zs,hp',hs,rs⟩:=R.lst (i:=i) (xs:=ys) (by unfold qAE;rw [ey])
    rw [hp] at hp';cases hp'
    obtain ⟨its,_,pl,_⟩:=I.list hs
    obtain ⟨o,ho,hcl,_⟩:=pl.isList
    exact PySem.W.kia_one PySem.W.kitx_list I.kIn ⟨o,ho,hcl⟩ (qCK _ (by simp) hc) (fun z=>nomatch z) fin
   | tup ys=>
    rw [show qBC h (.ref i)=some "tuple" by simp only [qBC,ey]] at ht;cases ht
    obtain ⟨p',zs,hp',hs,rs⟩:=R.tup (i:=i) (xs:=ys) (by unfold qAV;rw [ey])
    rw [hp] at hp';cases hp'
    obtain ⟨its,_,pl,_⟩:=I.tuple hs
    obtain ⟨o,ho,hcl,_⟩:=pl
    exact PySem.W.kia_one PySem.W.kitx_tuple I.kIn ⟨o,ho,hcl⟩ (qCK _ (by simp) hc) (fun z=>nomatch z) fin
   | ob ks=>
    cases ks with
    | exn c=>rw [show qBC h (.ref i)=none by simp only [qBC,ey]] at ht;cases ht
    | dct kvs=>
     rw [show qBC h (.ref i)=some "dict" by simp only [qBC,ey]] at ht
     cases ht
     obtain ⟨p',hp',hs⟩:=R.at ey
     rw [hp] at hp';cases hp'
     obtain ⟨_,_,vs,_,o,es,ep,h1,h2,_⟩:=(show L2.ObjOk X.prog X.w H s.heap p (.dK (kvs.map kk)) from I.hok p _ hs)
     exact PySem.W.kia_one PySem.W.kitx_dict I.kIn ⟨o,h1,h2.1⟩ (qCK _ (by simp) hc) (fun z=>nomatch z) fin
 | _=>cases ht
theorem qI6 {c:String} {xc:Str} {p pc:Pos} (hc:qDv c=true) (hg:L2.Gl X "isinstance") (hm:X.mg "isinstance"=none) (hgc:L2.Gl X xc) (hmc:X.mg xc=none) (hvc:bootBuiltins xc=some (.type c)) (hn1:xc≠"__name__") (hn2:(xc==("__debug__":Str))=false)
  (hn:qAF ea=true) (ha:SE X G F ea a):SE X G F (.Call (.Name "isinstance" p) [ea,.Name xc pc] [] pos) (.isi a [c]):=by
 refine qAf (L2.pe_callB (qF2 (G:=G) hc) hg hm PyProof.Rows.boot_isinstance (L2.pa_cons ha (L2.pa_cons (L2.pe_bltn (v:=.ty c) hgc hmc hvc rfl hn1 hn2) L2.pa_nil rfl) (qAA hn)) (by decide) (by decide) (qAA hn) rfl) fun σc H Q q=>?_
 obtain ⟨φ,h,σ,v,h',R,rs,e,k⟩:=q
 unfold ev at e
 obtain ⟨⟨x,h1⟩,e1,e⟩:=Res.bind_inv e
 refine ⟨φ,h,σ,x,h1,R,rs,e1,fun φ1 H1 w x1 R1 r1=>?_⟩
 dsimp only at e
 split at e
 ·rename_i t et
  cases e
  refine ⟨φ1,_,x,w,t,rfl,R1,r1,et,?_⟩
  have:=k φ1 H1 (.bl ([c].any (qB5 t))) x1 R1 rfl
  simpa using this
 ·cases e
noncomputable def qCQ:Expr -> Bool
 | .Slice ..=>false
 | _=>true
theorem qE6 {e:Expr} (h:qCQ e=true):L2.PlainIx e:=by
 intro o i
 cases e<;>first | rfl | cases h
theorem qJI (hb':qCQ eb=true) (ha:SE X G F ea a) (hb:SE X G F eb b):SE X G F (.Subscript ea eb pos) (.idx a b):=by
 refine qAf (L2.pe_ix (L2.ix_list.or L2.ix_tup) ha hb (qE6 hb')) fun σc H Q q=>?_
 obtain ⟨φ,h,σ,v,h',R,rs,e,k⟩:=q
 unfold ev at e
 obtain ⟨⟨x,h1⟩,e1,e⟩:=Res.bind_inv e
 obtain ⟨⟨y,h2⟩,e2,e⟩:=Res.bind_inv e
 refine qBi R rs e1 e2 fun φ2 H2 xc yc x2 R2 r1 r2=>?_
 cases x with
 | ref p=>
  cases y with
  | int i=>
   dsimp only at e
   split at e
   ·rename_i xs ex
    split at e
    ·rename_i w ew
     cases e
     obtain ⟨p',zs,hp',hs,rs'⟩:=R2.its ex
     obtain ⟨q,rfl,hq⟩:=qAL r1
     rw [hp'] at hq;cases hq
     cases qAD r2
     obtain ⟨j,ej,ew⟩:=Option.bind_eq_some_iff.mp ew
     obtain ⟨w',hw',rw'⟩:=qAC rs' ew
     have hat:L2.atI zs i=some w':=by
      unfold L2.atI
      rw [<- Paired.length rs']
      exact Option.bind_eq_some_iff.mpr ⟨j,ej,hw'⟩
     rcases hs with hs | hs
     ·exact .inl ⟨_,zs,i,w',rfl,rfl,hs,hat,k φ2 H2 w' x2 R2 rw'⟩
     ·exact .inr ⟨_,zs,i,w',rfl,rfl,hs,hat,k φ2 H2 w' x2 R2 rw'⟩
    ·cases e
   ·cases e
  | _=>cases e
 | _=>cases e
theorem qCy {φ:List Addr} {xs ys:List V} (r:rvs φ xs ys) (lo hi:Option Int):rvs φ (L2.cutV xs lo hi) (L2.cutV ys lo hi):=by
 unfold L2.cutV
 rw [Paired.length r]
 exact qAu _ (qBg _ r)
variable (X G F) in
noncomputable def SO (o:Option Expr) (as:Es):Prop:=L2.PO X o fun σc H Q=>∃ φ h σ is h',Rl X.K G φ h H/\rst φ σ σc/\(∃ vs,evs F as σ h=.ok (vs,h')/\qBJ vs=some is)/\∀ φ' H',Ext φ φ' -> Rl X.K G φ' h' H' -> Q is.head? H'
theorem qH1:SO X G F none .nil:=by
 intro pins s σc H Q I q
 obtain ⟨φ,h,σ,is,h',R,rs,⟨vs,e,ei⟩,k⟩:=q
 unfold evs at e
 cases e
 cases ei
 exact L2.po_none pins s σc H Q I (k φ H (.refl _) R)
theorem qHr (ha:SE X G F ea a):SO X G F (some ea) (.cons a .nil):=by
 intro pins s σc H Q I q
 obtain ⟨φ,h,σ,is,h',R,rs,⟨vs,e,ei⟩,k⟩:=q
 unfold evs at e
 obtain ⟨⟨x,h1⟩,e1,e⟩:=Res.bind_inv e
 unfold evs at e
 cases e
 refine L2.po_some ha pins s σc H Q I ⟨φ,h,σ,x,_,R,rs,e1,fun φ1 H1 w x1 R1 r1=>?_⟩
 have hm:=qCj ei
 cases is with
 | nil=>cases hm
 | cons i r=>
  simp only [List.map_cons,List.cons.injEq] at hm
  obtain ⟨rfl,_⟩:=hm
  cases qAD r1
  exact ⟨i,rfl,k φ1 H1 x1 R1⟩
theorem qIi {lo hi:Option Expr} {al ah:Es} {p2:Pos} (ha:SE X G F ea a) (hl:SO X G F lo al) (hh:SO X G F hi ah):SE X G F (.Subscript ea (.Slice lo hi none p2) pos) (.sl a al ah):=by
 refine qAf (L2.pe_slice (L2.SlR.or L2.sl_list L2.sl_tup) ha hl hh) fun σc H Q q=>?_
 obtain ⟨φ,h,σ,v,h',R,rs,e,k⟩:=q
 unfold ev at e
 obtain ⟨⟨x,h1⟩,e1,e⟩:=Res.bind_inv e
 obtain ⟨⟨l,h2⟩,e2,e⟩:=Res.bind_inv e
 obtain ⟨⟨u,h3⟩,e3,e⟩:=Res.bind_inv e
 cases x with
 | ref p=>
  cases eil:qBJ l with
  | none=>dsimp only at e;rw [eil] at e;cases e
  | some il=>
   cases eiu:qBJ u with
   | none=>dsimp only at e;rw [eil,eiu] at e;cases e
   | some iu=>
    dsimp only at e
    rw [eil,eiu] at e
    dsimp only at e
    split at e
    ·rename_i xs ex
     cases e
     refine ⟨φ,h,σ,_,h1,R,rs,e1,fun φ1 H1 w x1 R1 r1=>?_⟩
     refine ⟨φ1,h1,σ,il,h2,R1,rst.mono x1 rs,⟨l,e2,eil⟩,fun φ2 H2 x2 R2=>?_⟩
     refine ⟨φ2,h2,σ,iu,h3,R2,rst.mono (x1.trans x2) rs,⟨u,e3,eiu⟩,fun φ3 H3 x3 R3=>?_⟩
     obtain ⟨p',zs,hp',hs,rs'⟩:=R3.lst ex
     obtain ⟨q,rfl,hq⟩:=qAL (rv.mono (x2.trans x3) r1)
     rw [hp'] at hq;cases hq
     exact .inl ⟨_,zs,rfl,hs,fun m hm=>k (φ3++[m]) _ _ ((x1.trans (x2.trans x3)).trans ⟨[m],rfl⟩) (R3.newL hm (qCy rs' _ _)) R3.lastRef⟩
    ·split at e
     ·rename_i xs ex
      split at e
      ·cases e
      ·rename_i hw
       cases e
       refine ⟨φ,h,σ,_,h1,R,rs,e1,fun φ1 H1 w x1 R1 r1=>?_⟩
       refine ⟨φ1,h1,σ,il,h2,R1,rst.mono x1 rs,⟨l,e2,eil⟩,fun φ2 H2 x2 R2=>?_⟩
       refine ⟨φ2,h2,σ,iu,h3,R2,rst.mono (x1.trans x2) rs,⟨u,e3,eiu⟩,fun φ3 H3 x3 R3=>?_⟩
       obtain ⟨p',zs,hp',hs,rs'⟩:=R3.tup ex
       obtain ⟨q,rfl,hq⟩:=qAL (rv.mono (x2.trans x3) r1)
       rw [hp'] at hq;cases hq
       exact .inr ⟨_,zs,rfl,hs,by rw [<- Paired.length rs'];exact hw,fun m hm=>k (φ3++[m]) _ _ ((x1.trans (x2.trans x3)).trans ⟨[m],rfl⟩) (R3.newT hm (qCy rs' _ _)) R3.lastRef⟩
     ·cases e
 | _=>cases e
section
open L2 PyProof.Rows
end
section
open L2 PyProof.Rows
end
theorem qIw {apos cpos:Pos} (hbase:attributeBase ea "append" X.env (eval ea X.env)=eval ea X.env) (hline:(apos.endLine==cpos.line)=true) (hn:qAF eb=true) (ha:SE X G F ea a) (hb:SE X G F eb b):
  SE X G F (.Call (.Attribute ea "append" apos) [eb] [] cpos) (.app a b):=by
 refine qAf (L2.pe_bm PySem.F.plainAttrs_list PySem.F.slot_list_append PySem.F.type_list_append L2.mt_append ha (L2.pa_cons hb L2.pa_nil (qAA hn)) hbase (by rw [qAA hn];rfl) hline (qAA hn) rfl) fun σc H Q q=>?_
 obtain ⟨φ,h,σ,v,h',R,rs,e,k⟩:=q
 unfold ev at e
 obtain ⟨⟨x,h1⟩,e1,e⟩:=Res.bind_inv e
 dsimp only at e
 split at e
 ·rename_i p
  split at e
  ·rename_i ys ey
   obtain ⟨⟨y,h2⟩,e2,e⟩:=Res.bind_inv e
   dsimp only at e
   split at e
   ·rename_i xs ex
    split at e
    ·rename_i hl
     cases e
     refine ⟨φ,h,σ,_,h1,R,rs,e1,fun φ1 H1 w x1 R1 r1=>?_⟩
     obtain ⟨p1,zs1,hp1,hs1,_⟩:=R1.lst ey
     obtain ⟨q,rfl,hq⟩:=qAL r1
     rw [hp1] at hq;cases hq
     refine ⟨.inl ⟨rfl,_,hs1⟩,φ1,h1,σ,y,h2,R1,rst.mono x1 rs,e2,fun φ2 H2 yc x2 R2 r2=>?_⟩
     obtain ⟨q1,p2,zs2,hp2,hH2,rs2⟩:=R2.mut ex
     have:=x2.get hp1
     rw [hp2] at this;cases this
     refine ⟨_,zs2,yc,rfl,rfl,hH2,?_,k φ2 _ _ (x1.trans x2) (R2.set q1 hp2 (qAP rs2 (.cons r2 .nil))) trivial⟩
     rw [<- Paired.length rs2]
     exact Nat.lt_trans hl qG5
    ·cases e
   ·cases e
  ·cases e
 ·cases e
theorem Rl.same {K:PySem.W.Frag} {G φ:List Addr} {h:AH} {H H':Hp} (R:Rl K G φ h H) (s:qDx H H'):Rl K G φ h H':=⟨R.len,R.glob,fun i o a e1 e2=>(R.obj i o a e1 e2).keep (.refl _) s,R.inj⟩
theorem qCJ {φ:List Addr}:∀ {xs:List V},xs.all flat=true -> rvs φ xs xs
 | [],_=>.nil
 | x::xs,h=>by
  simp only [List.all_cons,Bool.and_eq_true] at h
  refine .cons ?_ (qCJ h.2)
  cases x<;>first | rfl | exact trivial | (cases h.1)
theorem qCT {α β:Type} {R:α -> β -> Prop} {xs:List α} {us:List β} (h:Paired R xs us) (k:Nat):Paired R (xs.eraseIdx k) (us.eraseIdx k):=by
 rw [List.eraseIdx_eq_take_drop_succ,List.eraseIdx_eq_take_drop_succ]
 exact qAP (qAu _ h) (qBg _ h)
theorem qDi:qAq X (.type "range") (fun xs H Q=>∃ j:Int,xs=[.int j]/\∀ p,H p=none -> Q (.ref p) (upd H p (.rng 0 j))):=by
 intro pins s σ H xs us Q I r ⟨j,e,q⟩
 subst e
 obtain ⟨u,rfl,ru⟩:=L2.vals1 r
 obtain ⟨t,rfl⟩:=ru
 refine call_range_1 ⟨.ref s.heap.objs.size,_,I.laid (fun _ _ q=>Heap.get?_push_of_some _ q) (Nat.le_refl _) ?_,rfl,q _ (I.hok.fresh (Nat.le_refl _))⟩
 exact ⟨_,_,_,Heap.get?_push_size _ rfl⟩
theorem qBs {P:Nat -> V}:∀ {n:Nat} {acc:List Value},acc.length=n -> (∀ (j:Nat) v,acc[j]?=some v -> RelV (P j) v) -> Vals ((List.range n).map P) acc:=by
 intro n
 induction n with
 | zero=>intro acc hl _;cases acc with | nil=>exact .nil | cons _ _=>simp at hl
 | succ n ih=>
  intro acc hl ha
  have hne:acc≠[]:=by intro z;subst z;simp at hl
  rw [List.range_succ,List.map_append,<- List.dropLast_concat_getLast hne]
  have hd:acc.dropLast.length=n:=by rw [List.length_dropLast,hl];rfl
  refine qAP (ih hd fun j v e=>ha j v ?_) (.cons (ha n _ ?_) .nil)
  ·rw [<- List.dropLast_concat_getLast hne,List.getElem?_append_left (List.getElem?_eq_some_iff.mp e).1];exact e
  ·rw [List.getElem?_eq_getElem (by omega),List.getLast_eq_getElem]
   congr 1
   simp [hl]
theorem qE8:qAq X (.type "range") (fun xs H Q=>∃ i j:Int,xs=[.int i,.int j]/\∀ p,H p=none -> Q (.ref p) (upd H p (.rng i j))):=by
 intro pins s σ H xs us Q I r ⟨i,j,e,q⟩
 subst e
 cases r with
 | cons r1 rr=>
  cases rr with
  | cons r2 rr=>
   cases rr
   obtain ⟨t,rfl⟩:=r1
   obtain ⟨u,rfl⟩:=r2
   refine call_range_2 ⟨.ref s.heap.objs.size,_,I.laid (fun _ _ q=>Heap.get?_push_of_some _ q) (Nat.le_refl _) ?_,rfl,q _ (I.hok.fresh (Nat.le_refl _))⟩
   exact ⟨_,_,_,Heap.get?_push_size _ rfl⟩
theorem qCg (hc:X.calm=true):qAq X (.type "list") (fun xs H Q=>∃ p,∃ i j:Int,xs=[.ref p]/\H p=some (.rng i j)/\(-1000000<=i/\-1000000<=j/\i<=100000/\j<=100000/\j - i<=100000)/\∀ l,H l=none -> Q (.ref l) (upd H l (.lst (qAi i (j - i).toNat)))):=by
 intro pins s σ H xs us Q I r ⟨p,i,j,e,hp,hj,q⟩
 subst e
 obtain ⟨u,rfl,ru⟩:=L2.vals1 r
 cases ru
 obtain ⟨t,u,v,hr⟩:=I.hok p _ hp
 have hn:Builtin.Range.rangeSize i j 1=(((j - i).toNat:Nat):Int):=by rw [rangeSize_one];split<;>omega
 refine call_list_range (I.ok.hd hc) hr (small_one (by omega) (by omega) (by omega) (by omega)) hn (by omega) fun h' tk acc' c' hk hS hI=>?_
 refine ⟨.ref s.heap.objs.size,_,I.laid (t':=tk) hk (Nat.le_refl _) ?_,rfl,q _ (I.hok.fresh (Nat.le_refl _))⟩
 obtain ⟨i1,i2⟩:=hI
 refine ⟨?_,acc'.toList,c',qBs (by simpa using i1) fun k v e=>?_,by simpa using hS⟩
 ·have:=qBu
  unfold lim at this
  rw [qAi,List.length_map,List.length_range]
  omega
 ·obtain ⟨t',rfl⟩:=i2 k v (by simpa using e)
  exact ⟨t',by rw [Int.mul_one]⟩
theorem qDM (hc:X.calm=true):qAq X (.type "list") (fun xs H Q=>∃ p,∃ j:Int,xs=[.ref p]/\H p=some (.rng 0 j)/\(-1000000<=j/\j<=100000)/\∀ l,H l=none -> Q (.ref l) (upd H l (.lst (qAi 0 j.toNat)))):=by
 intro pins s σ H xs us Q I r ⟨p,j,e,hp,hj,q⟩
 subst e
 obtain ⟨u,rfl,ru⟩:=L2.vals1 r
 cases ru
 obtain ⟨t,u,v,hr⟩:=I.hok p _ hp
 have hn:Builtin.Range.rangeSize 0 j 1=((j.toNat:Nat):Int):=by rw [rangeSize_one];split<;>omega
 refine call_list_range (I.ok.hd hc) hr (small_one (by omega) (by omega) (by omega) (by omega)) hn (by omega) fun h' tk acc' c' hk hS hI=>?_
 refine ⟨.ref s.heap.objs.size,_,I.laid (t':=tk) hk (Nat.le_refl _) ?_,rfl,q _ (I.hok.fresh (Nat.le_refl _))⟩
 obtain ⟨i1,i2⟩:=hI
 refine ⟨?_,acc'.toList,c',qBs (by simpa using i1) fun k v e=>?_,by simpa using hS⟩
 ·have:=qBu
  unfold lim at this
  rw [qAi,List.length_map,List.length_range]
  omega
 ·obtain ⟨t',rfl⟩:=i2 k v (by simpa using e)
  exact ⟨t',by rw [Int.mul_one]⟩
theorem qIA {p p2 pos2:Pos} (hc:X.calm=true) (hg:L2.Gl X "list") (hm:X.mg "list"=none) (hg2:L2.Gl X "range") (hm2:X.mg "range"=none) (hn:qAF ea=true) (ha:SE X G F ea a):
  SE X G F (.Call (.Name "list" p) [.Call (.Name "range" p2) [ea] [] pos2] [] pos) (.lrng a):=by
 refine qAf (L2.pe_callTy (qDM hc) hg hm PyProof.Rows.boot_list (L2.pa_cons (L2.pe_callTy qDi hg2 hm2 PyProof.Rows.boot_range (L2.pa_cons ha L2.pa_nil (qAA hn)) (by decide) (by decide) (qAA hn) rfl) L2.pa_nil rfl) (by decide) (by decide) rfl rfl) fun σc H Q q=>?_
 obtain ⟨φ,h,σ,v,h',R,rs,e,k⟩:=q
 unfold ev at e
 obtain ⟨⟨x,h1⟩,e1,e⟩:=Res.bind_inv e
 refine ⟨φ,h,σ,x,h1,R,rs,e1,fun φ1 H1 w x1 R1 r1=>?_⟩
 cases x with
 | int j=>
  dsimp only at e
  split at e
  ·rename_i hj
   cases e
   cases qAD r1
   refine ⟨j,rfl,fun p hp=>⟨p,j,rfl,qAI,hj,fun l hl=>?_⟩⟩
   have hlp:l≠p:=by rintro rfl;rw [qAI] at hl;cases hl
   have R2:Rl X.K G φ1 h1 (upd H1 p (.rng 0 j)):=R1.same (qBv hp)
   exact k (φ1++[l]) _ _ (x1.trans ⟨[l],rfl⟩) (R2.newL hl (qCJ (by simp [qAi,flat]))) R2.lastRef
  ·cases e
 | _=>cases e
theorem qGy {p p2 pos2:Pos} (hc:X.calm=true) (hg:L2.Gl X "list") (hm:X.mg "list"=none) (hg2:L2.Gl X "range") (hm2:X.mg "range"=none) (hn:qAF ea=true) (hn2:qAF eb=true) (ha:SE X G F ea a) (hb:SE X G F eb b):
  SE X G F (.Call (.Name "list" p) [.Call (.Name "range" p2) [ea,eb] [] pos2] [] pos) (.lrng2 a b):=by
 refine qAf (L2.pe_callTy (qCg hc) hg hm PyProof.Rows.boot_list (L2.pa_cons (L2.pe_callTy qE8 hg2 hm2 PyProof.Rows.boot_range (L2.pa_cons ha (L2.pa_cons hb L2.pa_nil (qAA hn2)) (qAA hn)) (by decide) (by decide) (qAA hn) (qAn (by simp [hn2]))) L2.pa_nil rfl) (by decide) (by decide) rfl rfl) fun σc H Q q=>?_
 obtain ⟨φ,h,σ,v,h',R,rs,e,k⟩:=q
 unfold ev at e
 obtain ⟨⟨x,h1⟩,e1,e⟩:=Res.bind_inv e
 obtain ⟨⟨y,h2⟩,e2,e⟩:=Res.bind_inv e
 obtain ⟨i,j,rfl,rfl,e3⟩:=qAr e
 clear e
 refine ⟨φ,h,σ,_,h1,R,rs,e1,fun φ1 H1 w x1 R1 r1=>⟨φ1,h1,σ,_,h2,R1,rst.mono x1 rs,e2,fun φ2 H2 w2 x2 R2 r2=>?_⟩⟩
 split at e3
 ·rename_i hj
  cases e3
  cases qAD r1
  cases qAD r2
  refine ⟨i,j,rfl,fun p hp=>⟨p,i,j,rfl,qAI,hj,fun l hl=>?_⟩⟩
  have R3:Rl X.K G φ2 h2 (upd H2 p (.rng i j)):=R2.same (qBv hp)
  exact k (φ2++[l]) _ _ (x1.trans (x2.trans ⟨[l],rfl⟩)) (R3.newL hl (qCJ (by simp [qAi,flat]))) R3.lastRef
 ·cases e3
theorem qHX {m:Mt} {r:V -> List V -> Hp -> VK -> Prop} {σc:St} {H:Hp} {Q:VK} {as:Es}
  (hr:∀ φ h H p ys ws v h' Q,Rl X.K G φ h H -> rvs φ ys ws -> qGI m p ys h=.ok (v,h') -> (∀ φ' H' w,Ext φ φ' -> Rl X.K G φ' h' H' -> rv φ' v w -> Q w H') -> ∀ a,φ[p]?=some a -> r (.ref a) ws H Q)
  (q:tE X.K G F (.meth m a as) σc H Q):L2.tBM X.K "list" r (tE X.K G F a) (tL X.K G F as) σc H Q:=by
 obtain ⟨φ,h,σ,v,h',R,rs,e,k⟩:=q
 unfold ev at e
 obtain ⟨⟨x,h1⟩,e1,e⟩:=Res.bind_inv e
 dsimp only at e
 split at e
 ·rename_i p
  split at e
  ·rename_i ys ey
   obtain ⟨⟨zs,h2⟩,e2,e⟩:=Res.bind_inv e
   refine ⟨φ,h,σ,_,h1,R,rs,e1,fun φ1 H1 w x1 R1 r1=>?_⟩
   obtain ⟨p1,zs1,hp1,hs1,_⟩:=R1.lst ey
   obtain ⟨q,rfl,hq⟩:=qAL r1
   rw [hp1] at hq;cases hq
   exact ⟨.inl ⟨rfl,_,hs1⟩,φ1,h1,σ,zs,h2,R1,rst.mono x1 rs,e2,fun φ2 H2 yc x2 R2 r2=>hr φ2 h2 H2 p zs yc v h' Q R2 r2 e (fun φ3 H3 w x3 R3 r3=>k φ3 H3 w (x1.trans (x2.trans x3)) R3 r3) _ (x2.get hp1)⟩
  ·cases e
 ·cases e
theorem qE7:∀ φ h H p ys ws v h' Q,Rl X.K G φ h H -> rvs φ ys ws -> qGI .popAt p ys h=.ok (v,h') -> (∀ φ' H' w,Ext φ φ' -> Rl X.K G φ' h' H' -> rv φ' v w -> Q w H') -> ∀ a,φ[p]?=some a -> L2.rPopAt (.ref a) ws H Q:=by
 intro φ h H p ys ws v h' Q R rw' e k a ha
 unfold qGI at e
 split at e
 all_goals first | (rename_i z _ _;cases z;done) | (rename_i z _;cases z;done) | (rename_i z;cases z;done) | skip
 ·cases rw' with
  | cons r1 t=>
   cases t
   cases qAD r1
   split at e
   ·rename_i xs ex
    split at e
    ·rename_i hl
     split at e
     ·rename_i j ej
      split at e
      ·rename_i y ey
       cases e
       obtain ⟨q1,p2,zs2,hp2,hH2,rs2⟩:=R.mut ex
       rw [ha] at hp2;cases hp2
       obtain ⟨w,hw,rw2⟩:=qAC rs2 ey
       obtain ⟨s1,s2,s3,s4⟩:=L2.ixN_seq ej
       have:=qBu
       unfold lim at hl
       refine ⟨a,zs2,_,j,w,rfl,rfl,hH2,by omega,by omega,by rw [<- Paired.length rs2];exact s1,hw,k φ _ _ (.refl _) (R.set q1 ha (qCT rs2 j)) rw2⟩
      ·cases e
     ·cases e
    ·cases e
   ·cases e
 ·cases e
section
open L2 PyProof.Rows
end
section
open L2 PyProof.Rows
end
section
open L2 PyProof.Rows
end
section
open L2 PyProof.Rows
end
section
open L2 PyProof.Rows
end
theorem qGk {apos cpos:Pos} (hbase:attributeBase ea "pop" X.env (eval ea X.env)=eval ea X.env) (hline:(apos.endLine==cpos.line)=true) (hn:qAF eb=true) (ha:SE X G F ea a) (hb:SE X G F eb b):
  SE X G F (.Call (.Attribute ea "pop" apos) [eb] [] cpos) (.meth .popAt a (.cons b .nil)):=
 qAf (L2.pe_bm PySem.F.plainAttrs_list PySem.F.slot_list_pop PySem.F.type_list_pop L2.mt_popAt ha (qC1 hn hb qFp) hbase (by rw [qAA hn];rfl) hline (qAA hn) rfl) fun _ _ _=>qHX qE7
end
end PI
namespace PI
open PySem PySem.Spec PyProof.Rows PySem.SeqAt
open L2 (V Hp HO Cx PE PT PA PS PSs PG PW TE TT TA TS VK upd qAI qAH SqL SqT qDx Inv RelV Vals EP TP AP SP OpR qAq R2)
section
variable {X:Cx}
end
section
variable {X:Cx} {G:List Addr} {F:Nat -> List V -> AH -> RV} {a:E} {ea:Expr} {pos:Pos}
end
end PI
namespace PI
open PySem PySem.Spec PyProof.Rows PySem.SeqAt
open L2 (V Hp HO Cx PE PT PA PS PSs PG PW TE TT TA TS VK upd qAI qAH SqL SqT qDx Inv RelV Vals EP TP AP SP OpR qAq R2 It qDu qDP)
noncomputable def Itz (K:PySem.W.Frag) (a b:Addr):It:=
 ⟨fun i H=>∃ xs ys x y,SqL K H a xs/\SqL K H b ys/\xs[i]?=some x/\ys[i]?=some y,
  fun i H v H'=>∃ p x y,H p=none/\v=.ref p/\H'=upd H p (.tup [x,y])/\(∀ xs,SqL K H a xs -> xs[i]?=some x)/\∀ ys,SqL K H b ys -> ys[i]?=some y,
  fun i H=>∃ xs ys,SqL K H a xs/\SqL K H b ys/\(xs.length<=i\/ys.length<=i)⟩
theorem qEF {X:Cx} {pins:List (Addr×Obj)} {σ:L2.St} {H:Hp} {s:Shared} {h':Heap} {T:Addr} {xs:List V} {its:List Value} {ch:List Addr} {t':Nat} (I:Inv X pins σ H s) (hf:∀ b∈ch,qDP X pins H b)
  (hT:s.heap.objs.size<=T) (k:∀ b o,b∉ch -> s.heap.get? b=some o -> h'.get? b=some o) (hp:IsTup h' T its.toArray) (hv:Vals xs its) (hz:xs.length<=sizeLine) (hTc:T∉ch):
  Inv X pins σ (upd H T (.tup xs)) { s with heap:=h',toks:=t' }:=by
 have hn:H T=none:=I.hok.fresh hT
 have neT:∀ b o,s.heap.get? b=some o -> b≠T:=fun b o e=>Nat.ne_of_lt (Nat.lt_of_lt_of_le (Heap.lt_size e) hT)
 refine I.step (g':=s.gens) (d':=s.drawn) (ch:=ch) (fun b hb=>⟨(hf b hb).2.2.2.1,(hf b hb).2.1,(hf b hb).2.2.2.2.1,(hf b hb).2.2.2.2.2⟩) (fun b o _ _ hc e _=>k b o hc e) (fun b o _ _ hc e _=>⟨o.slots,k b o hc e⟩)
  (fun b o _ e n=>by rw [qAH (neT b o e)];exact n) (fun b o hc e=>⟨o,k b o hc e⟩) (fun b ys e=>by rw [qAH (L2.ne_of_none e hn)];exact e) (fun b o u e=>by rw [qAH (L2.ne_of_none e hn)];exact e)
  (fun b ps e=>⟨#[],by rw [qAH (L2.ne_of_none e hn),e];simp⟩) (fun m hm=>?_) (fun b u e=>?_) I.bare
 ·obtain ⟨o,es,ep,ho,r⟩:=hm
  exact ⟨o,es,ep,k _ o (fun z=>(hf _ z).2.1 rfl) ho,r⟩
 ·by_cases hb:b=T
  ·subst hb
   rw [qAI] at e
   cases e
   exact ⟨hz,its,hv,hp⟩
  ·rw [qAH hb] at e
   have nc:∀ c u,H c=some u -> c∉ch:=fun c u q z=>by rw [(hf c z).1] at q;cases q
   refine (I.hok b u e).stay (fun c v hc q=>k c v ?_ q) (fun c q=>by rw [qAH (L2.ne_of_none q hn)];exact q) fun c ys q=>by rw [qAH (L2.ne_of_none q hn)];exact q
   rcases hc with z | z
   ·rw [z];exact nc b u e
   ·exact nc c _ z
theorem qGb {P:Program} {w:World} {K:PySem.W.Frag} {elts:List Expr} {kk:Nat} {tpos:Pos} (z TI TO i1 i2 a b:Addr) (D:ZipApart z TI TO i1 i2 a b):
  qDu P w K (.Tuple elts kk tpos) (Itz K a b) [z,TI,TO,i1,i2] z (fun i h=>IsZip h z TI TO .none/\IsPair h TI (.ref i1) (.ref i2)/\(∃ x y,IsPair h TO x y)/\h.IsListIter i1 a i/\h.IsListIter i2 b i) where
 mem:=by simp
 obj:=fun i h st c hc=>by
  obtain ⟨h1,h2,⟨x,y,h3⟩,⟨o4,e4,c4,d4⟩,⟨o5,e5,c5,d5⟩⟩:=st
  simp only [List.mem_cons,List.not_mem_nil,or_false] at hc
  rcases hc with rfl | rfl | rfl | rfl | rfl
  ·exact ⟨_,h1,fun v q=>by have q':Data.fields _=Data.cell v:=q;cases q'⟩
  ·exact ⟨_,h2,fun v q=>by have q':Data.seq _ _=Data.cell v:=q;cases q'⟩
  ·exact ⟨_,h3,fun v q=>by have q':Data.seq _ _=Data.cell v:=q;cases q'⟩
  ·exact ⟨o4,e4,fun v q=>by rw [d4] at q;cases q⟩
  ·exact ⟨o5,e5,fun v q=>by rw [d5] at q;cases q⟩
 keep:=fun i h h' st k=>by
  obtain ⟨h1,h2,⟨x,y,h3⟩,h4,h5⟩:=st
  exact ⟨k z (by simp) _ h1,k TI (by simp) _ h2,⟨x,y,k TO (by simp) _ h3⟩,h4.at fun o e=>k i1 (by simp) o e,h5.at fun o e=>k i2 (by simp) o e⟩
 item:=by
  intro X hP hw hK hc i pins s σ H E I hf st hg
  subst hP hw hK
  obtain ⟨xs,ys,x,y,hq1,hq2,hx,hy⟩:=hg
  obtain ⟨its1,rv1,p1,_⟩:=I.list hq1
  obtain ⟨its2,rv2,p2,_⟩:=I.list hq2
  obtain ⟨u,hu,ru⟩:=rv1.get hx
  obtain ⟨w',hw',rw'⟩:=rv2.get hy
  obtain ⟨h1,h2,⟨ta,tb,h3⟩,h4,h5⟩:=st
  refine wpAny_pyNext_zip_item D h1 h2 h3 h4 h5 p1.isList p2.isList (x:=u) (y:=w') (by simpa using hu) (by simpa using hw') fun h' z1 z2 z3 z4 z5 z6 z7=>?_
  refine ⟨_,rfl,wpAny_letOwnedTupleGo_zip z1 fun h'' g1 gs=>?_⟩
  have lt:∀ c∈[z,TI,TO,i1,i2],c≠s.heap.objs.size:=fun c hc=>by
   have ex:∃ o,s.heap.get? c=some o:=by
    simp only [List.mem_cons,List.not_mem_nil,or_false] at hc
    rcases hc with rfl | rfl | rfl | rfl | rfl
    ·exact ⟨_,h1⟩
    ·exact ⟨_,h2⟩
    ·exact ⟨_,h3⟩
    ·obtain ⟨o,e,_⟩:=h4;exact ⟨o,e⟩
    ·obtain ⟨o,e,_⟩:=h5;exact ⟨o,e⟩
   obtain ⟨o,e⟩:=ex
   exact Nat.ne_of_lt (Heap.lt_size e)
  have up:∀ c o,c≠z -> h'.get? c=some o -> h''.get? c=some o:=fun c o hz e=>gs.extBut c o hz e
  have kp:∀ c o,c∉[z,TI,TO,i1,i2] -> s.heap.get? c=some o -> h''.get? c=some o:=fun c o hn e=>by
   simp only [List.mem_cons,List.not_mem_nil,or_false,not_or] at hn
   exact up c o hn.1 (z7 c o hn.1 hn.2.2.1 hn.2.2.2.1 hn.2.2.2.2 e)
  have ht:IsTup h'' s.heap.objs.size #[u,w']:=⟨_,up _ _ (Ne.symm (lt z (by simp))) z5,rfl,_,rfl⟩
  have I1:=qEF (t':=s.toks) (xs:=[x,y]) (its:=[u,w']) I hf (Nat.le_refl _) kp ht (.cons ru (.cons rw' .nil)) (by show 2<=sizeLine;decide) (fun q=>lt _ q rfl)
  refine ⟨.ref s.heap.objs.size,_,I1,rfl,⟨s.heap.objs.size,x,y,I.hok.fresh (Nat.le_refl _),rfl,rfl,fun zs hz=>by rw [I.list_inj hz hq1];exact hx,fun zs hz=>by rw [I.list_inj hz hq2];exact hy⟩,
   ⟨g1,up _ _ D.TIz (z7 TI _ D.TIz D.TITO D.TIi1 D.TIi2 h2),⟨_,_,up _ _ D.TOz z2⟩,z3.at fun o e=>up _ o D.i1z e,z4.at fun o e=>up _ o D.i2z e⟩,fun c hc=>?_⟩
  rw [qAH (lt c hc)]
  exact (hf c hc).1
 done:=by
  intro X hP hw hK hc i pins s σ H E I hf st hg
  subst hP hw hK
  obtain ⟨xs,ys,hq1,hq2,hl⟩:=hg
  obtain ⟨its1,rv1,p1,_⟩:=I.list hq1
  obtain ⟨its2,rv2,p2,_⟩:=I.list hq2
  obtain ⟨h1,h2,⟨ta,tb,h3⟩,h4,h5⟩:=st
  have n1:=rv1.length
  have n2:=rv2.length
  refine wpAny_pyNext_zip_end (I.ok.hd hc) D h1 h2 h3 h4 h5 p1.isList p2.isList ?_ fun h' z7=>⟨rfl,?_⟩
  ·rcases hl with hl | hl
   ·left;simp;omega
   ·right;simp;omega
  ·have kp:∀ c o,c∉[z,TI,TO,i1,i2] -> s.heap.get? c=some o -> h'.get? c=some o:=fun c o hn e=>by
    simp only [List.mem_cons,List.not_mem_nil,or_false,not_or] at hn
    exact z7 c o hn.1 hn.2.2.1 hn.2.2.2.1 hn.2.2.2.2 e
   refine I.step (g':=s.gens) (d':=s.drawn) (t':=s.toks) (ch:=[z,TI,TO,i1,i2]) (fun b hb=>⟨(hf b hb).2.2.2.1,(hf b hb).2.1,(hf b hb).2.2.2.2.1,(hf b hb).2.2.2.2.2⟩) (fun b o _ _ hc e _=>kp b o hc e) (fun b o _ _ hc e _=>⟨o.slots,kp b o hc e⟩)
    (fun b o _ e n=>n) (fun b o hc e=>⟨o,kp b o hc e⟩) (fun b ys e=>e) (fun b o u e=>e) (fun b ps e=>⟨#[],by rw [e];simp⟩) (fun m hm=>?_) (fun b u e=>?_) I.bare
   ·obtain ⟨o,es,ep,ho,r⟩:=hm
    exact ⟨o,es,ep,kp _ o (fun z=>(hf _ z).2.1 rfl) ho,r⟩
   ·have nc:∀ c u,H c=some u -> c∉[z,TI,TO,i1,i2]:=fun c u q z=>by rw [(hf c z).1] at q;cases q
    refine (I.hok b u e).stay (fun c v hc q=>kp c v ?_ q) (fun c q=>q) fun c ys q=>q
    rcases hc with z | z
    ·rw [z];exact nc b u e
    ·exact nc c _ z
 self:=fun _ _ _ _ _ st h=>wpAny_pyIter_zip st.1 h
noncomputable def qMN (K:PySem.W.Frag) (ta:TA):L2.TI:=fun σ H R=>ta σ H fun vs H1=>∃ a b,vs=[.ref a,.ref b]/\(∃ xs,SqL K H1 a xs)/\(∃ ys,SqL K H1 b ys)/\R (Itz K a b) H1
theorem qJX {X:Cx} {ea eb:Expr} {ta:TA} {p pos tpos:Pos} {elts:List Expr} {kk:Nat} (hg:L2.Gl X "zip") (hm:X.mg "zip"=none) (ha:PA X [ea,eb] ta) (h1:qAF ea=true) (h2:qAF eb=true):
  L2.PI X (.Tuple elts kk tpos) (.Call (.Name "zip" p) [ea,eb] [] pos) (qMN X.K ta):=by
 intro pins s σ H R I h
 refine Call_ (L2.ld_blt I hg hm PyProof.Rows.boot_zip (PyProof.Rows.callWith_type1 (L2.thn (ha pos pins s σ H _ I h) fun us s1 ⟨vs,H1,I1,r1,q1⟩=>?_) (qAA h1) (qAn (by simp [h2]))))
 obtain ⟨a,b,e,⟨xs,hq1⟩,⟨ys,hq2⟩,q⟩:=q1
 subst e
 cases r1 with
 | cons r rr=>
  cases rr with
  | cons r' rr=>
   cases rr
   cases r
   cases r'
   obtain ⟨its1,rv1,p1,_⟩:=I1.list hq1
   obtain ⟨its2,rv2,p2,_⟩:=I1.list hq2
   have a1:a < s1.heap.objs.size:=by obtain ⟨_,e,_⟩:=p1.isList;exact Heap.lt_size e
   have a2:b < s1.heap.objs.size:=by obtain ⟨_,e,_⟩:=p2.isList;exact Heap.lt_size e
   refine call_zip_2 p1.isList p2.isList fun h' hz hTI hTO hi1 hi2 _ hk=>?_
   refine wpAny_pyIter_zip hz ?_
   have I2:Inv X pins σ H1 { s1 with heap:=h' }:=I1.kept (t':=s1.toks) hk
   refine ⟨_,_,_,_,H1,rfl,I2,qGb _ _ _ _ _ a b (zipApart_new a1 a2),⟨hz,hTI,⟨_,_,hTO⟩,hi1,hi2⟩,fun c hc=>?_,q⟩
   have hge:s1.heap.objs.size<=c:=by
    simp only [List.mem_cons,List.not_mem_nil,or_false] at hc
    rcases hc with rfl | rfl | rfl | rfl | rfl
    ·exact Nat.le_add_right _ 4
    ·exact Nat.le_add_right _ 2
    ·exact Nat.le_add_right _ 3
    ·exact Nat.le_refl _
    ·exact Nat.le_add_right _ 1
   exact I1.fpOk hge (I1.hok.fresh hge)
end PI
namespace PI
open PySem PySem.Spec PyProof.Rows PySem.SeqAt
open L2 (V Hp HO Cx PE PT PA PS PSs PG PW TE TT TA TS VK upd qAI qAH SqL SqT qDx Inv RelV Vals EP TP AP SP OpR qAq R2 It qDu qDP)
noncomputable abbrev Tu (h:Heap) (T:Addr) (vs:Array Value):Prop:=h.get? T=some { cls:=.type "tuple",data:=.seq vs }
structure Ap3 (z ti to i1 i2 i3 a b c:Addr):Prop where
 nd:[z,ti,to,i1,i2,i3].Nodup
 l1:a∉[z,to,i1,i2,i3]
 l2:b∉[z,to,i1,i2,i3]
 l3:c∉[z,to,i1,i2,i3]
structure W3 (h:Heap) (z ti to i1 i2 i3 a b c:Addr) (f0:Value) (k1 k2 k3:Nat) (xs ys us:Array Value) (p q r:Value):Prop where
 z:IsZip h z ti to f0
 ti:Tu h ti #[.ref i1,.ref i2,.ref i3]
 to:Tu h to #[p,q,r]
 n1:h.IsListIter i1 a k1
 n2:h.IsListIter i2 b k2
 n3:h.IsListIter i3 c k3
 e1:h.IsList a xs
 e2:h.IsList b ys
 e3:h.IsList c us
section
variable {P:Program} {w:World} {A:Around} {E:Value -> Shared -> Prop} {s:Shared} {z ti to i1 i2 i3 a b c:Addr} {f0:Value} {k1 k2 k3:Nat} {xs ys us:Array Value} {p q r:Value}
theorem qDq {T:Addr} {x:Value} {k:Nat} {Q:Unit -> Shared -> Prop} (hT:Tu s.heap T #[p,q,r])
  (hq:∀ g,Tu g T ((#[p,q,r]:Array Value).setIfInBounds k x) -> Heap.SameBut T s.heap g -> Q () { s with heap:=g }):wpAny (model P w) A (updateSeq T (·.setIfInBounds k x)) Q E s:=by
 refine wpAny_updateSeq hT rfl (hq _ ?_ (Heap.SameBut.update ..))
 show Heap.get? _ T=_
 rw [Heap.get?_update_self _ hT rfl];simp [Obj.mapSeq]
noncomputable def Kp (z to i1 i2 i3:Addr) (h g:Heap):Prop:=g.objs.size=h.objs.size/\∀ c o,c∉[z,to,i1,i2,i3] -> h.get? c=some o -> g.get? c=some o
theorem Kp.step {h g g':Heap} {d:Addr} (k:Kp z to i1 i2 i3 h g) (hd:d∈[z,to,i1,i2,i3]) (e:Heap.SameBut d g g'):Kp z to i1 i2 i3 h g':=
 ⟨by rw [e.1,k.1],fun c o hc ho=>e.extBut c o (fun x=>hc (x ▸ hd)) (k.2 c o hc ho)⟩
theorem W3.setZ {h g:Heap} (D:Ap3 z ti to i1 i2 i3 a b c) (S:W3 h z ti to i1 i2 i3 a b c f0 k1 k2 k3 xs ys us p q r) {f1:Value} (hz:IsZip g z ti to f1) (e:Heap.SameBut z h g):W3 g z ti to i1 i2 i3 a b c f1 k1 k2 k3 xs ys us p q r:=by
 have d:=D.nd;have d1:=D.l1;have d2:=D.l2;have d3:=D.l3
 simp only [List.nodup_cons,List.mem_cons,List.not_mem_nil,or_false,not_or] at d d1 d2 d3
 exact ⟨hz,e.extBut _ _ (Ne.symm d.1.1) S.ti,e.extBut _ _ (Ne.symm d.1.2.1) S.to,S.n1.extBut e.extBut (Ne.symm d.1.2.2.1),S.n2.extBut e.extBut (Ne.symm d.1.2.2.2.1),S.n3.extBut e.extBut (Ne.symm d.1.2.2.2.2),S.e1.extBut e.extBut d1.1,S.e2.extBut e.extBut d2.1,S.e3.extBut e.extBut d3.1⟩
theorem W3.setT {h g:Heap} (D:Ap3 z ti to i1 i2 i3 a b c) (S:W3 h z ti to i1 i2 i3 a b c f0 k1 k2 k3 xs ys us p q r) {p' q' r':Value} (ht:Tu g to #[p',q',r']) (e:Heap.SameBut to h g):W3 g z ti to i1 i2 i3 a b c f0 k1 k2 k3 xs ys us p' q' r':=by
 have d:=D.nd;have d1:=D.l1;have d2:=D.l2;have d3:=D.l3
 simp only [List.nodup_cons,List.mem_cons,List.not_mem_nil,or_false,not_or] at d d1 d2 d3
 exact ⟨e.extBut _ _ d.1.2.1 S.z,e.extBut _ _ d.2.1.1 S.ti,ht,S.n1.extBut e.extBut (Ne.symm d.2.2.1.1),S.n2.extBut e.extBut (Ne.symm d.2.2.1.2.1),S.n3.extBut e.extBut (Ne.symm d.2.2.1.2.2),S.e1.extBut e.extBut d1.2.1,S.e2.extBut e.extBut d2.2.1,S.e3.extBut e.extBut d3.2.1⟩
theorem W3.next1 {h g:Heap} (D:Ap3 z ti to i1 i2 i3 a b c) (S:W3 h z ti to i1 i2 i3 a b c f0 k1 k2 k3 xs ys us p q r) {k:Nat} (n:g.IsListIter i1 a k) (e:Heap.SameBut i1 h g):W3 g z ti to i1 i2 i3 a b c f0 k k2 k3 xs ys us p q r:=by
 have d:=D.nd;have d1:=D.l1;have d2:=D.l2;have d3:=D.l3
 simp only [List.nodup_cons,List.mem_cons,List.not_mem_nil,or_false,not_or] at d d1 d2 d3
 exact ⟨e.extBut _ _ d.1.2.2.1 S.z,e.extBut _ _ d.2.1.2.1 S.ti,e.extBut _ _ d.2.2.1.1 S.to,n,S.n2.extBut e.extBut (Ne.symm d.2.2.2.1.1),S.n3.extBut e.extBut (Ne.symm d.2.2.2.1.2),S.e1.extBut e.extBut d1.2.2.1,S.e2.extBut e.extBut d2.2.2.1,S.e3.extBut e.extBut d3.2.2.1⟩
theorem W3.next2 {h g:Heap} (D:Ap3 z ti to i1 i2 i3 a b c) (S:W3 h z ti to i1 i2 i3 a b c f0 k1 k2 k3 xs ys us p q r) {k:Nat} (n:g.IsListIter i2 b k) (e:Heap.SameBut i2 h g):W3 g z ti to i1 i2 i3 a b c f0 k1 k k3 xs ys us p q r:=by
 have d:=D.nd;have d1:=D.l1;have d2:=D.l2;have d3:=D.l3
 simp only [List.nodup_cons,List.mem_cons,List.not_mem_nil,or_false,not_or] at d d1 d2 d3
 exact ⟨e.extBut _ _ d.1.2.2.2.1 S.z,e.extBut _ _ d.2.1.2.2.1 S.ti,e.extBut _ _ d.2.2.1.2.1 S.to,S.n1.extBut e.extBut d.2.2.2.1.1,n,S.n3.extBut e.extBut (Ne.symm d.2.2.2.2.1),S.e1.extBut e.extBut d1.2.2.2.1,S.e2.extBut e.extBut d2.2.2.2.1,S.e3.extBut e.extBut d3.2.2.2.1⟩
theorem W3.next3 {h g:Heap} (D:Ap3 z ti to i1 i2 i3 a b c) (S:W3 h z ti to i1 i2 i3 a b c f0 k1 k2 k3 xs ys us p q r) {k:Nat} (n:g.IsListIter i3 c k) (e:Heap.SameBut i3 h g):W3 g z ti to i1 i2 i3 a b c f0 k1 k2 k xs ys us p q r:=by
 have d:=D.nd;have d1:=D.l1;have d2:=D.l2;have d3:=D.l3
 simp only [List.nodup_cons,List.mem_cons,List.not_mem_nil,or_false,not_or] at d d1 d2 d3
 exact ⟨e.extBut _ _ d.1.2.2.2.2 S.z,e.extBut _ _ d.2.1.2.2.2 S.ti,e.extBut _ _ d.2.2.1.2.2 S.to,S.n1.extBut e.extBut d.2.2.2.1.2,S.n2.extBut e.extBut d.2.2.2.2.1,n,S.e1.extBut e.extBut d1.2.2.2.2,S.e2.extBut e.extBut d2.2.2.2.2,S.e3.extBut e.extBut d3.2.2.2.2⟩
theorem qHn {k:Nat} {x y u:Value} {Q:Value -> Shared -> Prop} (D:Ap3 z ti to i1 i2 i3 a b c) (S:W3 s.heap z ti to i1 i2 i3 a b c .none k k k xs ys us p q r) (hx:xs[k]?=some x) (hy:ys[k]?=some y) (hu:us[k]?=some u)
  (hQ:∀ g,W3 g z ti to i1 i2 i3 a b c (rawInt s.heap.objs.size) (k + 1) (k + 1) (k + 1) xs ys us x y u -> Tu g s.heap.objs.size #[x,y,u] -> (∀ c o,c∉[z,to,i1,i2,i3] -> s.heap.get? c=some o -> g.get? c=some o) -> Q (.ref s.heap.objs.size) { s with heap:=g }):
  wpAny (model P w) A (Builtin.«zip.__next__» ⟨[.ref z],[]⟩) (fun fin s'=>∃ v,fin=.done (.ret v)/\Q v s') E s:=by
 show wpAny _ _ (field (.ref z) 2 >>=_) _ _ _
 refine wpAny_bind (wpAny_field S.z rfl (x:=.bool false) rfl (show wpAny _ _ (field (.ref z) 3 >>=_) _ _ _ from wpAny_bind (wpAny_field S.z rfl (x:=.ref ti) rfl (wpAny_bind (wpAny_seqItems S.ti rfl ?_)))))
 show wpAny _ _ (Builtin.SmallTypes.ownedTupleIsFree (.ref z) >>=_) _ _ _
 refine wpAny_bind (by
  unfold Builtin.SmallTypes.ownedTupleIsFree
  refine wpAny_bind (wpAny_field S.z rfl (x:=.none) rfl (wpAny_pure ?_))
  simp only [if_true]
  refine wpAny_bind (wpAny_rule (wpAny_bind (wpAny_field S.z rfl (x:=.ref to) rfl (wpAny_bind (wpAny_setField_rec S.z (by simp) fun g1 z1 m1=>?_)))))
  have S1:=S.setZ D (f1:=.ellipsis) z1 m1
  have K1:Kp z to i1 i2 i3 s.heap g1:=⟨m1.1,fun c o hc ho=>m1.extBut c o (fun e=>hc (by simp [e])) ho⟩
  refine wpAny_bind ?_
  simp only [List.zipIdx_cons,List.zipIdx_nil,List.forIn_cons,List.forIn_nil]
  refine wpAny_bind (wpAny_bind (wpAny_onRaise (show wpAny _ _ (Builtin.SmallTypes.nextOf (.ref i1) >>=_) _ _ _ from wpAny_bind (wpAny_nextOf_list_item S1.n1 S1.e1 hx fun g2 n2 m2=>wpAny_pure ?_))))
  have S2:=S1.next1 D n2 m2
  have K2:=K1.step (d:=i1) (by simp) m2
  refine wpAny_bind (wpAny_seqItems S2.to rfl (wpAny_bind (qDq S2.to fun g3 t3 m3=>wpAny_bind (wpAny_letGo (wpAny_pure ?_)))))
  have S3:=S2.setT D (p':=x) (q':=q) (r':=r) t3 m3
  have K3:=K2.step (d:=to) (by simp) m3
  refine wpAny_bind (wpAny_bind (wpAny_onRaise (show wpAny _ _ (Builtin.SmallTypes.nextOf (.ref i2) >>=_) _ _ _ from wpAny_bind (wpAny_nextOf_list_item S3.n2 S3.e2 hy fun g4 n4 m4=>wpAny_pure ?_))))
  have S4:=S3.next2 D n4 m4
  have K4:=K3.step (d:=i2) (by simp) m4
  refine wpAny_bind (wpAny_seqItems S4.to rfl (wpAny_bind (qDq S4.to fun g5 t5 m5=>wpAny_bind (wpAny_letGo (wpAny_pure ?_)))))
  have S5:=S4.setT D (p':=x) (q':=y) (r':=r) t5 m5
  have K5:=K4.step (d:=to) (by simp) m5
  refine wpAny_bind (wpAny_bind (wpAny_onRaise (show wpAny _ _ (Builtin.SmallTypes.nextOf (.ref i3) >>=_) _ _ _ from wpAny_bind (wpAny_nextOf_list_item S5.n3 S5.e3 hu fun g6 n6 m6=>wpAny_pure ?_))))
  have S6:=S5.next3 D n6 m6
  have K6:=K5.step (d:=i3) (by simp) m6
  refine wpAny_bind (wpAny_seqItems S6.to rfl (wpAny_bind (qDq S6.to fun g7 t7 m7=>wpAny_bind (wpAny_letGo (wpAny_pure (wpAny_pure ?_))))))
  have S7:=S6.setT D (p':=x) (q':=y) (r':=u) t7 m7
  have K7:=K6.step (d:=to) (by simp) m7
  refine wpAny_bind (wpAny_seqItems S7.to rfl (wpAny_bind (wpAny_newTuple ?_)))
  show wpAny _ _ (Builtin.SmallTypes.ownedTupleHandOut (.ref z) (.ref g7.objs.size) >>=_) _ _ _
  refine wpAny_bind ?_
  unfold Builtin.SmallTypes.ownedTupleHandOut
  have Z8:IsZip (g7.push { cls:=.type "tuple",data:=.seq #[x,y,u] }) z ti to .ellipsis:=Heap.get?_push_of_some _ S7.z
  refine wpAny_bind (wpAny_setField_rec Z8 (by simp) fun g9 z9 m9=>wpAny_setField_rec (show IsZip g9 z ti to (rawInt g7.objs.size) from z9) (by simp) fun g10 z10 m10=>wpAny_pure ⟨_,rfl,?_⟩)
  have d:=D.nd
  simp only [List.nodup_cons,List.mem_cons,List.not_mem_nil,or_false,not_or] at d
  have zl:=Heap.lt_size S7.z
  have lift:∀ c o,c≠z -> g7.get? c=some o -> g10.get? c=some o:=fun c o hc ho=>m10.extBut _ _ hc (m9.extBut _ _ hc (Heap.get?_push_of_some _ ho))
  have S10:W3 g10 z ti to i1 i2 i3 a b c (rawInt g7.objs.size) (k + 1) (k + 1) (k + 1) xs ys us x y u:=by
   have d1:=D.l1;have d2:=D.l2;have d3:=D.l3
   simp only [List.mem_cons,List.not_mem_nil,or_false,not_or] at d1 d2 d3
   exact ⟨z10,lift _ _ (Ne.symm d.1.1) S7.ti,lift _ _ (Ne.symm d.1.2.1) S7.to,S7.n1.at fun o e=>lift _ o (Ne.symm d.1.2.2.1) e,S7.n2.at fun o e=>lift _ o (Ne.symm d.1.2.2.2.1) e,S7.n3.at fun o e=>lift _ o (Ne.symm d.1.2.2.2.2) e,S7.e1.at fun o e=>lift _ o d1.1 e,S7.e2.at fun o e=>lift _ o d2.1 e,S7.e3.at fun o e=>lift _ o d3.1 e⟩
  have T10:Tu g10 g7.objs.size #[x,y,u]:=m10.extBut _ _ (Nat.ne_of_gt zl) (m9.extBut _ _ (Nat.ne_of_gt zl) (Heap.get?_push_size _ rfl))
  show Q (.ref g7.objs.size) _
  rw [K7.1] at S10 T10 ⊢
  exact hQ g10 S10 T10 fun c o hc ho=>lift c o (fun e=>hc (by simp [e])) (K7.2 c o hc ho))
noncomputable abbrev Kx (z to i1 i2 i3:Addr) (h g:Heap):Prop:=∀ c o,c∉[z,to,i1,i2,i3] -> h.get? c=some o -> g.get? c=some o
theorem qHk {k:Nat} {Q:Fin -> Shared -> Prop} (hh:A.handled=none) (D:Ap3 z ti to i1 i2 i3 a b c) (S:W3 s.heap z ti to i1 i2 i3 a b c .none k k k xs ys us p q r) (hend:xs[k]?=none\/ys[k]?=none\/us[k]?=none)
  (hE:∀ g e,Kx z to i1 i2 i3 s.heap g -> (∃ o,g.get? e=some o/\o.cls=.type "StopIteration") -> E (.ref e) { s with heap:=g }):
  wpAny (model P w) A (Builtin.«zip.__next__» ⟨[.ref z],[]⟩) Q E s:=by
 have fin:∀ {g g':Heap} {e:Addr} {it:Addr} {v1 v2 v3:Value} {m1 m2 m3:Nat},it∈[z,to,i1,i2,i3] -> it≠z -> Kp z to i1 i2 i3 s.heap g -> W3 g z ti to i1 i2 i3 a b c .ellipsis m1 m2 m3 xs ys us v1 v2 v3 -> Heap.ExtBut it g g' -> (∃ o,g'.get? e=some o/\o.cls=.type "StopIteration") ->
   wpAny (model P w) A (setField (.ref z) 0 .none) (fun _ s'=>E (.ref e) s') E { s with heap:=g' }:=by
  intro g g' e it v1 v2 v3 m1 m2 m3 hit hne K S' m he
  obtain ⟨oe,hoe,hce⟩:=he
  have zg:IsZip g' z ti to .ellipsis:=m _ _ (Ne.symm hne) S'.z
  have hez:e≠z:=fun x=>by subst x;rw [zg] at hoe;cases hoe;simp at hce
  exact wpAny_setField_rec zg (by simp) fun g2 _ mm=>hE g2 e (fun c o hc ho=>mm.extBut _ _ (fun x=>hc (by simp [x])) (m _ _ (fun x=>hc (x ▸ hit)) (K.2 c o hc ho))) ⟨oe,mm.extBut _ _ hez hoe,hce⟩
 have d:=D.nd
 simp only [List.nodup_cons,List.mem_cons,List.not_mem_nil,or_false,not_or] at d
 show wpAny _ _ (field (.ref z) 2 >>=_) _ _ _
 refine wpAny_bind (wpAny_field S.z rfl (x:=.bool false) rfl (show wpAny _ _ (field (.ref z) 3 >>=_) _ _ _ from wpAny_bind (wpAny_field S.z rfl (x:=.ref ti) rfl (wpAny_bind (wpAny_seqItems S.ti rfl ?_)))))
 show wpAny _ _ (Builtin.SmallTypes.ownedTupleIsFree (.ref z) >>=_) _ _ _
 refine wpAny_bind (by
  unfold Builtin.SmallTypes.ownedTupleIsFree
  refine wpAny_bind (wpAny_field S.z rfl (x:=.none) rfl (wpAny_pure ?_))
  simp only [if_true]
  refine wpAny_bind (wpAny_rule (wpAny_bind (wpAny_field S.z rfl (x:=.ref to) rfl (wpAny_bind (wpAny_setField_rec S.z (by simp) fun g1 z1 m1=>?_)))))
  have S1:=S.setZ D (f1:=.ellipsis) z1 m1
  have K1:Kp z to i1 i2 i3 s.heap g1:=⟨m1.1,fun c o hc ho=>m1.extBut c o (fun e=>hc (by simp [e])) ho⟩
  refine wpAny_bind ?_
  simp only [List.zipIdx_cons,List.zipIdx_nil,List.forIn_cons,List.forIn_nil]
  cases hx:xs[k]? with
  | none=>exact wpAny_bind (wpAny_bind (wpAny_onRaise (show wpAny _ _ (Builtin.SmallTypes.nextOf (.ref i1) >>=_) _ _ _ from wpAny_bind (wpAny_nextOf_list_end hh S1.n1 S1.e1 hx fun g2 e m2 he=>fin (by simp) (Ne.symm d.1.2.2.1) K1 S1 m2 he))))
  | some x=>
   refine wpAny_bind (wpAny_bind (wpAny_onRaise (show wpAny _ _ (Builtin.SmallTypes.nextOf (.ref i1) >>=_) _ _ _ from wpAny_bind (wpAny_nextOf_list_item S1.n1 S1.e1 hx fun g2 n2 m2=>wpAny_pure ?_))))
   have S2:=S1.next1 D n2 m2
   have K2:=K1.step (d:=i1) (by simp) m2
   refine wpAny_bind (wpAny_seqItems S2.to rfl (wpAny_bind (qDq S2.to fun g3 t3 m3=>wpAny_bind (wpAny_letGo (wpAny_pure ?_)))))
   have S3:=S2.setT D (p':=x) (q':=q) (r':=r) t3 m3
   have K3:=K2.step (d:=to) (by simp) m3
   cases hy:ys[k]? with
   | none=>exact wpAny_bind (wpAny_bind (wpAny_onRaise (show wpAny _ _ (Builtin.SmallTypes.nextOf (.ref i2) >>=_) _ _ _ from wpAny_bind (wpAny_nextOf_list_end hh S3.n2 S3.e2 hy fun g4 e m4 he=>fin (by simp) (Ne.symm d.1.2.2.2.1) K3 S3 m4 he))))
   | some y=>
    have hu:us[k]?=none:=by
     rcases hend with e | e | e
     ·rw [hx] at e;cases e
     ·rw [hy] at e;cases e
     ·exact e
    refine wpAny_bind (wpAny_bind (wpAny_onRaise (show wpAny _ _ (Builtin.SmallTypes.nextOf (.ref i2) >>=_) _ _ _ from wpAny_bind (wpAny_nextOf_list_item S3.n2 S3.e2 hy fun g4 n4 m4=>wpAny_pure ?_))))
    have S4:=S3.next2 D n4 m4
    have K4:=K3.step (d:=i2) (by simp) m4
    refine wpAny_bind (wpAny_seqItems S4.to rfl (wpAny_bind (qDq S4.to fun g5 t5 m5=>wpAny_bind (wpAny_letGo (wpAny_pure ?_)))))
    have S5:=S4.setT D (p':=x) (q':=y) (r':=r) t5 m5
    have K5:=K4.step (d:=to) (by simp) m5
    exact wpAny_bind (wpAny_bind (wpAny_onRaise (show wpAny _ _ (Builtin.SmallTypes.nextOf (.ref i3) >>=_) _ _ _ from wpAny_bind (wpAny_nextOf_list_end hh S5.n3 S5.e3 hu fun g6 e m6 he=>fin (by simp) (Ne.symm d.1.2.2.2.2) K5 S5 m6 he)))))
theorem qH5 {k:Nat} {x y u:Value} {Q:Option Value -> Shared -> Prop} (D:Ap3 z ti to i1 i2 i3 a b c) (S:W3 s.heap z ti to i1 i2 i3 a b c .none k k k xs ys us p q r) (hx:xs[k]?=some x) (hy:ys[k]?=some y) (hu:us[k]?=some u)
  (hQ:∀ g,W3 g z ti to i1 i2 i3 a b c (rawInt s.heap.objs.size) (k + 1) (k + 1) (k + 1) xs ys us x y u -> Tu g s.heap.objs.size #[x,y,u] -> Kx z to i1 i2 i3 s.heap g -> Q (some (.ref s.heap.objs.size)) { s with heap:=g }):
  wpAny (model P w) A (pyNext (.ref z)) Q E s:=by
 have ty:s.TypeIs (.ref z) "zip":=⟨_,S.z,rfl⟩
 unfold pyNext
 exact wpAny_bind (wpAny_attempt (wpAny_callSpecial?_slot (name:=Str.ofString "__next__") ty PySem.F.slot_zip_next (wpAny_call_entry PySem.F.slot_zip_next ty PySem.F.entry_zip_next (qHn D S hx hy hu fun g b1 b2 b3=>wpAny_pure (hQ g b1 b2 b3)) (PySem.F.args_zip_next_1 _))))
theorem qH6 {k:Nat} {Q:Option Value -> Shared -> Prop} (hh:A.handled=none) (D:Ap3 z ti to i1 i2 i3 a b c) (S:W3 s.heap z ti to i1 i2 i3 a b c .none k k k xs ys us p q r) (hend:xs[k]?=none\/ys[k]?=none\/us[k]?=none)
  (hQ:∀ g,Kx z to i1 i2 i3 s.heap g -> Q none { s with heap:=g }):wpAny (model P w) A (pyNext (.ref z)) Q E s:=by
 have ty:s.TypeIs (.ref z) "zip":=⟨_,S.z,rfl⟩
 unfold pyNext
 refine wpAny_bind (wpAny_attempt (wpAny_callSpecial?_slot (name:=Str.ofString "__next__") ty PySem.F.slot_zip_next (wpAny_call_entry PySem.F.slot_zip_next ty PySem.F.entry_zip_next (qHk hh D S hend fun g e hk he=>?_) (PySem.F.args_zip_next_1 _))))
 obtain ⟨o,ho,hc⟩:=he
 exact wpAny_bind (wpAny_isInstance (T:="StopIteration") (b:=true) ⟨o,ho,hc⟩ isSubtype_stop (wpAny_pure (hQ _ hk)))
end
theorem zc3 (x y u:Value):checkTypeCall "zip" ⟨[x,y,u],[]⟩=pure ():=by kernel_rfl
theorem zn3 (x y u:Value):checkBuiltinCall "zip.__new__" ⟨[.type "zip",x,y,u],[]⟩=pure ():=by kernel_rfl
theorem zi3 (o x y u:Value):argsOk "object.__init__" ⟨[o,x,y,u],[]⟩:=by
 unfold argsOk
 rw [signature?_of (id:="object.__init__") (n:=['_','_','t','i','n','i','_','_']) (o:=['t','c','e','j','b','o']) (by kernel_rfl) PySem.F.owner_object]
 kernel_rfl
noncomputable def zo (l:Addr):Obj:={ cls:=.type "list_iterator",data:=.fields #[.ref l,.int 0 0] }
noncomputable def zt (vs:Array Value):Obj:={ cls:=.type "tuple",data:=.seq vs }
noncomputable def zz (ti to:Addr):Obj:={ cls:=.type "zip",data:=.fields #[.none,.bool false,.bool false,.ref ti,.ref to] }
noncomputable def z3H (h:Heap) (a b c:Addr):Heap:=(((((h.push (zo a)).push (zo b)).push (zo c)).push (zt #[.ref h.objs.size,.ref (h.objs.size + 1),.ref (h.objs.size + 2)])).push (zt #[.none,.none,.none])).push (zz (h.objs.size + 3) (h.objs.size + 4))
theorem qIt (a b c:Addr) (xs ys us:Array Value):
  Meets (Builtin.«zip.__new__» ⟨[.type "zip",.ref a,.ref b,.ref c],[]⟩) (fun _ R s=>s.heap.IsList a xs/\s.heap.IsList b ys/\s.heap.IsList c us/\R (.ok (.ret (.ref (s.heap.objs.size + 5)))) { s with heap:=z3H s.heap a b c }):=
 .of_wp fun prog w A R s h=>by
  obtain ⟨hp,g,d,tk,os⟩:=s
  obtain ⟨e1,e2,e3,h⟩:=h
  have hsub:=sub_zip
  have L1:Heap.IsList (Shared.heap ⟨hp,g,d,tk,os⟩) a xs:=e1
  have L2:Heap.IsList (Shared.heap ⟨hp.push (zo a),g,d,tk,os⟩) b ys:=Heap.IsList.push e2 _
  have L3:Heap.IsList (Shared.heap ⟨(hp.push (zo a)).push (zo b),g,d,tk,os⟩) c us:=Heap.IsList.push (Heap.IsList.push e3 _) _
  unfold zo at L2 L3
  wp_walk using wpAny_pyIter_list L1,wpAny_pyIter_list L2,wpAny_pyIter_list L3
  refine ⟨_,rfl,?_⟩
  simp only [z3H,zo,zt,zz,Heap.size_push] at h ⊢
  exact h
section
variable {P:Program} {w:World} {A:Around} {E:Value -> Shared -> Prop} {s:Shared}
theorem qIM {a b c:Addr} {xs ys us:Array Value} {Q:Value -> Shared -> Prop} (e1:s.heap.IsList a xs) (e2:s.heap.IsList b ys) (e3:s.heap.IsList c us)
  (h:∀ g,W3 g (s.heap.objs.size + 5) (s.heap.objs.size + 3) (s.heap.objs.size + 4) s.heap.objs.size (s.heap.objs.size + 1) (s.heap.objs.size + 2) a b c .none 0 0 0 xs ys us .none .none .none -> (∀ c o,s.heap.get? c=some o -> g.get? c=some o) -> Q (.ref (s.heap.objs.size + 5)) { s with heap:=g }):
  wpAny (model P w) A (call (.type "zip") [.ref a,.ref b,.ref c]) Q E s:=by
 refine callType_new PySem.F.called_zip (by decide) (zc3 _ _ _) (zn3 _ _ _) (fun obj=>zi3 obj _ _ _) PySem.F.entry_zip_new (qIt a b c xs ys us) ⟨e1,e2,e3,?_⟩
 have n1:(s.heap.push (zo a)).objs.size=s.heap.objs.size + 1:=Heap.size_push ..
 have n2:((s.heap.push (zo a)).push (zo b)).objs.size=s.heap.objs.size + 2:=by rw [Heap.size_push,n1]
 have n3:(((s.heap.push (zo a)).push (zo b)).push (zo c)).objs.size=s.heap.objs.size + 3:=by rw [Heap.size_push,n2]
 have n4:((((s.heap.push (zo a)).push (zo b)).push (zo c)).push (zt #[.ref s.heap.objs.size,.ref (s.heap.objs.size + 1),.ref (s.heap.objs.size + 2)])).objs.size=s.heap.objs.size + 4:=by rw [Heap.size_push,n3]
 have n5:(((((s.heap.push (zo a)).push (zo b)).push (zo c)).push (zt #[.ref s.heap.objs.size,.ref (s.heap.objs.size + 1),.ref (s.heap.objs.size + 2)])).push (zt #[.none,.none,.none])).objs.size=s.heap.objs.size + 5:=by rw [Heap.size_push,n4]
 have kp:∀ c' o,s.heap.get? c'=some o -> (z3H s.heap a b c).get? c'=some o:=fun c' o x=>by
  unfold z3H
  exact Heap.get?_push_of_some _ (Heap.get?_push_of_some _ (Heap.get?_push_of_some _ (Heap.get?_push_of_some _ (Heap.get?_push_of_some _ (Heap.get?_push_of_some _ x)))))
 have at':∀ (h:Heap) (o:Obj) (n:Nat),h.objs.size=n -> o.isFreed=false -> (h.push o).get? n=some o:=fun h o n e f=>by subst e;exact Heap.get?_push_size _ f
 have W:W3 (z3H s.heap a b c) (s.heap.objs.size + 5) (s.heap.objs.size + 3) (s.heap.objs.size + 4) s.heap.objs.size (s.heap.objs.size + 1) (s.heap.objs.size + 2) a b c .none 0 0 0 xs ys us .none .none .none:=by
  refine ⟨?_,?_,?_,⟨zo a,?_,rfl,rfl⟩,⟨zo b,?_,rfl,rfl⟩,⟨zo c,?_,rfl,rfl⟩,e1.at fun o e=>kp _ o e,e2.at fun o e=>kp _ o e,e3.at fun o e=>kp _ o e⟩
  ·unfold z3H;exact at' _ _ _ n5 rfl
  ·unfold z3H;exact Heap.get?_push_of_some _ (Heap.get?_push_of_some _ (at' _ _ _ n3 rfl))
  ·unfold z3H;exact Heap.get?_push_of_some _ (at' _ _ _ n4 rfl)
  ·unfold z3H;exact Heap.get?_push_of_some _ (Heap.get?_push_of_some _ (Heap.get?_push_of_some _ (Heap.get?_push_of_some _ (Heap.get?_push_of_some _ (at' _ _ _ rfl rfl)))))
  ·unfold z3H;exact Heap.get?_push_of_some _ (Heap.get?_push_of_some _ (Heap.get?_push_of_some _ (Heap.get?_push_of_some _ (at' _ _ _ n1 rfl))))
  ·unfold z3H;exact Heap.get?_push_of_some _ (Heap.get?_push_of_some _ (Heap.get?_push_of_some _ (at' _ _ _ n2 rfl)))
 exact ⟨⟨_,W.z,rfl⟩,h _ W kp⟩
end
noncomputable def qKp (K:PySem.W.Frag) (a b c:Addr):It:=
 ⟨fun i H=>∃ xs ys us x y u,SqL K H a xs/\SqL K H b ys/\SqL K H c us/\xs[i]?=some x/\ys[i]?=some y/\us[i]?=some u,
  fun i H v H'=>∃ p x y u,H p=none/\v=.ref p/\H'=upd H p (.tup [x,y,u])/\(∀ xs,SqL K H a xs -> xs[i]?=some x)/\(∀ ys,SqL K H b ys -> ys[i]?=some y)/\∀ us,SqL K H c us -> us[i]?=some u,
  fun i H=>∃ xs ys us,SqL K H a xs/\SqL K H b ys/\SqL K H c us/\(xs.length<=i\/ys.length<=i\/us.length<=i)⟩
noncomputable def St3 (z ti to i1 i2 i3 a b c:Addr) (i:Nat) (h:Heap):Prop:=IsZip h z ti to .none/\Tu h ti #[.ref i1,.ref i2,.ref i3]/\(∃ p q r,Tu h to #[p,q,r])/\h.IsListIter i1 a i/\h.IsListIter i2 b i/\h.IsListIter i3 c i
theorem qIJ {P:Program} {w:World} {K:PySem.W.Frag} {elts:List Expr} {kk:Nat} {tpos:Pos} (z ti to i1 i2 i3 a b c:Addr) (D:Ap3 z ti to i1 i2 i3 a b c):
  qDu P w K (.Tuple elts kk tpos) (qKp K a b c) [z,ti,to,i1,i2,i3] z (St3 z ti to i1 i2 i3 a b c) where
 mem:=by simp
 obj:=fun i h st d hd=>by
  obtain ⟨h1,h2,⟨p,q,r,h3⟩,⟨o4,e4,c4,d4⟩,⟨o5,e5,c5,d5⟩,⟨o6,e6,c6,d6⟩⟩:=st
  simp only [List.mem_cons,List.not_mem_nil,or_false] at hd
  rcases hd with rfl | rfl | rfl | rfl | rfl | rfl
  ·exact ⟨_,h1,fun v q=>by have q':Data.fields _=Data.cell v:=q;cases q'⟩
  ·exact ⟨_,h2,fun v q=>by have q':Data.seq _ _=Data.cell v:=q;cases q'⟩
  ·exact ⟨_,h3,fun v q=>by have q':Data.seq _ _=Data.cell v:=q;cases q'⟩
  ·exact ⟨o4,e4,fun v q=>by rw [d4] at q;cases q⟩
  ·exact ⟨o5,e5,fun v q=>by rw [d5] at q;cases q⟩
  ·exact ⟨o6,e6,fun v q=>by rw [d6] at q;cases q⟩
 keep:=fun i h h' st k=>by
  obtain ⟨h1,h2,⟨p,q,r,h3⟩,h4,h5,h6⟩:=st
  exact ⟨k z (by simp) _ h1,k ti (by simp) _ h2,⟨p,q,r,k to (by simp) _ h3⟩,h4.at fun o e=>k i1 (by simp) o e,h5.at fun o e=>k i2 (by simp) o e,h6.at fun o e=>k i3 (by simp) o e⟩
 item:=by
  intro X hP hw hK hc i pins s σ H E I hf st hg
  subst hP hw hK
  obtain ⟨xs,ys,us,x,y,u,hq1,hq2,hq3,hx,hy,hu⟩:=hg
  obtain ⟨its1,rv1,p1,_⟩:=I.list hq1
  obtain ⟨its2,rv2,p2,_⟩:=I.list hq2
  obtain ⟨its3,rv3,p3,_⟩:=I.list hq3
  obtain ⟨x',gx,rx⟩:=rv1.get hx
  obtain ⟨y',gy,ry⟩:=rv2.get hy
  obtain ⟨u',gu,ru⟩:=rv3.get hu
  obtain ⟨h1,h2,⟨p,q,r,h3⟩,h4,h5,h6⟩:=st
  refine qH5 D ⟨h1,h2,h3,h4,h5,h6,p1.isList,p2.isList,p3.isList⟩ (x:=x') (y:=y') (u:=u') (by simpa using gx) (by simpa using gy) (by simpa using gu) fun g S hT hk=>?_
  refine ⟨_,rfl,wpAny_letOwnedTupleGo_zip S.z fun g' z' gs=>?_⟩
  have lt:∀ d∈[z,ti,to,i1,i2,i3],d≠s.heap.objs.size:=fun d hd=>by
   have ex:∃ o,s.heap.get? d=some o:=by
    simp only [List.mem_cons,List.not_mem_nil,or_false] at hd
    rcases hd with rfl | rfl | rfl | rfl | rfl | rfl
    ·exact ⟨_,h1⟩
    ·exact ⟨_,h2⟩
    ·exact ⟨_,h3⟩
    ·obtain ⟨o,e,_⟩:=h4;exact ⟨o,e⟩
    ·obtain ⟨o,e,_⟩:=h5;exact ⟨o,e⟩
    ·obtain ⟨o,e,_⟩:=h6;exact ⟨o,e⟩
   obtain ⟨o,e⟩:=ex
   exact Nat.ne_of_lt (Heap.lt_size e)
  have up:∀ d o,d≠z -> g.get? d=some o -> g'.get? d=some o:=fun d o hz e=>gs.extBut d o hz e
  have kp:∀ d o,d∉[z,ti,to,i1,i2,i3] -> s.heap.get? d=some o -> g'.get? d=some o:=fun d o hn e=>by
   simp only [List.mem_cons,List.not_mem_nil,or_false,not_or] at hn
   exact up d o hn.1 (hk d o (by simp [hn]) e)
  have ht:IsTup g' s.heap.objs.size #[x',y',u']:=⟨_,up _ _ (Ne.symm (lt z (by simp))) hT,rfl,_,rfl⟩
  have I1:=qEF (t':=s.toks) (xs:=[x,y,u]) (its:=[x',y',u']) I hf (Nat.le_refl _) kp ht (.cons rx (.cons ry (.cons ru .nil))) (by show 3<=sizeLine;decide) (fun q=>lt _ q rfl)
  have d:=D.nd
  simp only [List.nodup_cons,List.mem_cons,List.not_mem_nil,or_false,not_or] at d
  refine ⟨.ref s.heap.objs.size,_,I1,rfl,⟨s.heap.objs.size,x,y,u,I.hok.fresh (Nat.le_refl _),rfl,rfl,fun zs hz=>by rw [I.list_inj hz hq1];exact hx,fun zs hz=>by rw [I.list_inj hz hq2];exact hy,fun zs hz=>by rw [I.list_inj hz hq3];exact hu⟩,
   ⟨z',up _ _ (Ne.symm d.1.1) S.ti,⟨_,_,_,up _ _ (Ne.symm d.1.2.1) S.to⟩,S.n1.at fun o e=>up _ o (Ne.symm d.1.2.2.1) e,S.n2.at fun o e=>up _ o (Ne.symm d.1.2.2.2.1) e,S.n3.at fun o e=>up _ o (Ne.symm d.1.2.2.2.2) e⟩,fun d' hd=>?_⟩
  rw [qAH (lt d' hd)]
  exact (hf d' hd).1
 done:=by
  intro X hP hw hK hc i pins s σ H E I hf st hg
  subst hP hw hK
  obtain ⟨xs,ys,us,hq1,hq2,hq3,hl⟩:=hg
  obtain ⟨its1,rv1,p1,_⟩:=I.list hq1
  obtain ⟨its2,rv2,p2,_⟩:=I.list hq2
  obtain ⟨its3,rv3,p3,_⟩:=I.list hq3
  obtain ⟨h1,h2,⟨p,q,r,h3⟩,h4,h5,h6⟩:=st
  have m1:=rv1.length
  have m2:=rv2.length
  have m3:=rv3.length
  refine qH6 (I.ok.hd hc) D ⟨h1,h2,h3,h4,h5,h6,p1.isList,p2.isList,p3.isList⟩ ?_ fun g hk=>⟨rfl,?_⟩
  ·rcases hl with hl | hl | hl
   ·left;simp;omega
   ·right;left;simp;omega
   ·right;right;simp;omega
  ·have kp:∀ d o,d∉[z,ti,to,i1,i2,i3] -> s.heap.get? d=some o -> g.get? d=some o:=fun d o hn e=>by
    simp only [List.mem_cons,List.not_mem_nil,or_false,not_or] at hn
    exact hk d o (by simp [hn]) e
   refine I.step (g':=s.gens) (d':=s.drawn) (t':=s.toks) (ch:=[z,ti,to,i1,i2,i3]) (fun b hb=>⟨(hf b hb).2.2.2.1,(hf b hb).2.1,(hf b hb).2.2.2.2.1,(hf b hb).2.2.2.2.2⟩) (fun b o _ _ hc e _=>kp b o hc e) (fun b o _ _ hc e _=>⟨o.slots,kp b o hc e⟩)
    (fun b o _ e n=>n) (fun b o hc e=>⟨o,kp b o hc e⟩) (fun b ys e=>e) (fun b o u e=>e) (fun b ps e=>⟨#[],by rw [e];simp⟩) (fun m hm=>?_) (fun b u e=>?_) I.bare
   ·obtain ⟨o,es,ep,ho,r⟩:=hm
    exact ⟨o,es,ep,kp _ o (fun z=>(hf _ z).2.1 rfl) ho,r⟩
   ·have nc:∀ d u,H d=some u -> d∉[z,ti,to,i1,i2,i3]:=fun d u q z=>by rw [(hf d z).1] at q;cases q
    refine (I.hok b u e).stay (fun d v hc q=>kp d v ?_ q) (fun d q=>q) fun d ys q=>q
    rcases hc with z | z
    ·rw [z];exact nc b u e
    ·exact nc d _ z
 self:=fun _ _ _ _ _ st h=>wpAny_pyIter_zip st.1 h
theorem qHT {n a b c:Nat} (h1:a < n) (h2:b < n) (h3:c < n):Ap3 (n + 5) (n + 3) (n + 4) n (n + 1) (n + 2) a b c:=by
 refine ⟨?_,?_,?_,?_⟩
 ·simp only [List.nodup_cons,List.mem_cons,List.not_mem_nil,or_false,not_or,List.nodup_nil,not_false_eq_true,and_true]
  refine ⟨⟨?_,?_,?_,?_,?_⟩,⟨?_,?_,?_,?_⟩,⟨?_,?_,?_⟩,⟨?_,?_⟩,?_⟩<;>(show ¬ (_:Nat)=_;omega)
 all_goals
  simp only [List.mem_cons,List.not_mem_nil,or_false,not_or]
  refine ⟨?_,?_,?_,?_,?_⟩<;>(show ¬ (_:Nat)=_;omega)
noncomputable def qK9 (K:PySem.W.Frag) (ta:TA):L2.TI:=fun σ H R=>ta σ H fun vs H1=>∃ a b c,vs=[.ref a,.ref b,.ref c]/\(∃ xs,SqL K H1 a xs)/\(∃ ys,SqL K H1 b ys)/\(∃ us,SqL K H1 c us)/\R (qKp K a b c) H1
theorem qLA {X:Cx} {ea eb ec:Expr} {ta:TA} {p pos tpos:Pos} {elts:List Expr} {kk:Nat} (hg:L2.Gl X "zip") (hm:X.mg "zip"=none) (ha:PA X [ea,eb,ec] ta) (h1:qAF ea=true) (h2:qAF eb=true) (h3:qAF ec=true):
  L2.PI X (.Tuple elts kk tpos) (.Call (.Name "zip" p) [ea,eb,ec] [] pos) (qK9 X.K ta):=by
 intro pins s σ H R I h
 refine Call_ (L2.ld_blt I hg hm PyProof.Rows.boot_zip (PyProof.Rows.callWith_type1 (L2.thn (ha pos pins s σ H _ I h) fun us s1 ⟨vs,H1,I1,r1,q1⟩=>?_) (qAA h1) (qAn (by simp [h2,h3]))))
 obtain ⟨a,b,c,e,⟨xs,hq1⟩,⟨ys,hq2⟩,⟨us',hq3⟩,q⟩:=q1
 subst e
 cases r1 with
 | cons r rr=>
  cases rr with
  | cons r' rr=>
   cases rr with
   | cons r'' rr=>
    cases rr
    cases r
    cases r'
    cases r''
    obtain ⟨its1,rv1,p1,_⟩:=I1.list hq1
    obtain ⟨its2,rv2,p2,_⟩:=I1.list hq2
    obtain ⟨its3,rv3,p3,_⟩:=I1.list hq3
    have a1:a < s1.heap.objs.size:=by obtain ⟨_,e,_⟩:=p1.isList;exact Heap.lt_size e
    have a2:b < s1.heap.objs.size:=by obtain ⟨_,e,_⟩:=p2.isList;exact Heap.lt_size e
    have a3:c < s1.heap.objs.size:=by obtain ⟨_,e,_⟩:=p3.isList;exact Heap.lt_size e
    refine qIM p1.isList p2.isList p3.isList fun g S hk=>?_
    refine wpAny_pyIter_zip S.z ?_
    have I2:Inv X pins σ H1 { s1 with heap:=g }:=I1.kept (t':=s1.toks) hk
    refine ⟨_,_,_,_,H1,rfl,I2,qIJ _ _ _ _ _ _ a b c (qHT a1 a2 a3),⟨S.z,S.ti,⟨_,_,_,S.to⟩,S.n1,S.n2,S.n3⟩,fun d hd=>?_,q⟩
    have hge:s1.heap.objs.size<=d:=by
     simp only [List.mem_cons,List.not_mem_nil,or_false] at hd
     rcases hd with rfl | rfl | rfl | rfl | rfl | rfl<;>omega
    exact I1.fpOk hge (I1.hok.fresh hge)
end PI
namespace PI
open PySem PySem.Spec PyProof.Rows PySem.SeqAt
open L2 (V Hp HO Cx PE PT PA PS PSs PG PW TE TT TA TS VK upd qAI qAH SqL SqT qDx Inv RelV Vals EP TP AP SP OpR qAq R2 It qDu qDP)
noncomputable def Ite (K:PySem.W.Frag) (a:Addr):It:=
 ⟨fun i H=>∃ xs x,SqL K H a xs/\xs[i]?=some x,
  fun i H v H'=>∃ p x,H p=none/\v=.ref p/\H'=upd H p (.tup [.int (i:Int),x])/\∀ xs,SqL K H a xs -> xs[i]?=some x,
  fun i H=>∃ xs,SqL K H a xs/\xs.length<=i⟩
theorem qFv {P:Program} {w:World} {K:PySem.W.Frag} {elts:List Expr} {kk:Nat} {tpos:Pos} (e it a:Addr) (hei:e≠it):
  qDu P w K (.Tuple elts kk tpos) (Ite K a) [e,it] e (fun i h=>(∃ old,IsEnum h e it i old)/\h.IsListIter it a i) where
 mem:=by simp
 obj:=fun i h st c hc=>by
  obtain ⟨⟨old,h1⟩,⟨o4,e4,c4,d4⟩⟩:=st
  simp only [List.mem_cons,List.not_mem_nil,or_false] at hc
  rcases hc with rfl | rfl
  ·exact ⟨_,h1,fun v q=>by have q':Data.fields _=Data.cell v:=q;cases q'⟩
  ·exact ⟨o4,e4,fun v q=>by rw [d4] at q;cases q⟩
 keep:=fun i h h' st k=>by
  obtain ⟨⟨old,h1⟩,h4⟩:=st
  exact ⟨⟨old,k e (by simp) _ h1⟩,h4.at fun o x=>k it (by simp) o x⟩
 item:=by
  intro X hP hw hK hc i pins s σ H E I hf st hg
  subst hP hw hK
  obtain ⟨xs,x,hq1,hx⟩:=hg
  obtain ⟨its1,rv1,p1,_⟩:=I.list hq1
  obtain ⟨u,hu,ru⟩:=rv1.get hx
  obtain ⟨⟨old,h1⟩,h4⟩:=st
  refine wpAny_pyNext_enum_item h1 h4 p1.isList (x:=u) (by simpa using hu) hei fun h' z1 z3 z5 z6 z7=>?_
  refine ⟨_,rfl,wpAny_letOwnedTupleGo_enum z1 fun h'' g1 gs=>?_⟩
  have lt:∀ c∈[e,it],c≠s.heap.objs.size:=fun c hc=>by
   have ex:∃ o,s.heap.get? c=some o:=by
    simp only [List.mem_cons,List.not_mem_nil,or_false] at hc
    rcases hc with rfl | rfl
    ·exact ⟨_,h1⟩
    ·obtain ⟨o,e,_⟩:=h4;exact ⟨o,e⟩
   obtain ⟨o,e⟩:=ex
   exact Nat.ne_of_lt (Heap.lt_size e)
  have up:∀ c o,c≠e -> h'.get? c=some o -> h''.get? c=some o:=fun c o hz q=>gs.extBut c o hz q
  have kp:∀ c o,c∉[e,it] -> s.heap.get? c=some o -> h''.get? c=some o:=fun c o hn q=>by
   simp only [List.mem_cons,List.not_mem_nil,or_false,not_or] at hn
   exact up c o hn.1 (z7 c o hn.1 hn.2 q)
  have ht:IsTup h'' s.heap.objs.size #[.int i s.toks,u]:=⟨_,up _ _ (Ne.symm (lt e (by simp))) z5,rfl,_,rfl⟩
  have I1:=qEF (t':=s.toks + 1) (xs:=[.int (i:Int),x]) (its:=[.int i s.toks,u]) I hf (Nat.le_refl _) kp ht (.cons ⟨_,rfl⟩ (.cons ru .nil)) (by show 2<=sizeLine;decide) (fun q=>lt _ q rfl)
  refine ⟨.ref s.heap.objs.size,_,I1,rfl,⟨s.heap.objs.size,x,I.hok.fresh (Nat.le_refl _),rfl,rfl,fun zs hz=>by rw [I.list_inj hz hq1];exact hx⟩,
   ⟨⟨_,by simpa using g1⟩,z3.at fun o q=>up _ o (Ne.symm hei) q⟩,fun c hc=>?_⟩
  rw [qAH (lt c hc)]
  exact (hf c hc).1
 done:=by
  intro X hP hw hK hc i pins s σ H E I hf st hg
  subst hP hw hK
  obtain ⟨xs,hq1,hl⟩:=hg
  obtain ⟨its1,rv1,p1,_⟩:=I.list hq1
  obtain ⟨⟨old,h1⟩,h4⟩:=st
  have n1:=rv1.length
  obtain ⟨f0,f1,f2,f3,f4,f5⟩:=hf it (by simp)
  exact wpAny_pyNext_enum_end (I.ok.hd hc) h1 h4 p1.isList (by simp;omega) fun h' eb=>⟨rfl,I.turned (t':=s.toks) (fun b o hb q=>eb b o hb q) f0 f1 f3 f4 f5⟩
 self:=fun _ i s Q E st hQ=>by
  obtain ⟨⟨old,h1⟩,h4⟩:=st
  exact wpAny_pyIter_enum h1 hQ
noncomputable def qKt (K:PySem.W.Frag) (ta:TA):L2.TI:=fun σ H R=>ta σ H fun vs H1=>∃ a,vs=[.ref a]/\(∃ xs,SqL K H1 a xs)/\R (Ite K a) H1
theorem qHq {X:Cx} {ea:Expr} {ta:TA} {p pos tpos:Pos} {elts:List Expr} {kk:Nat} (hg:L2.Gl X "enumerate") (hm:X.mg "enumerate"=none) (ha:PA X [ea] ta) (h1:qAF ea=true):
  L2.PI X (.Tuple elts kk tpos) (.Call (.Name "enumerate" p) [ea] [] pos) (qKt X.K ta):=by
 intro pins s σ H R I h
 refine Call_ (L2.ld_blt I hg hm PyProof.Rows.boot_enumerate (PyProof.Rows.callWith_type1 (L2.thn (ha pos pins s σ H _ I h) fun us s1 ⟨vs,H1,I1,r1,q1⟩=>?_) (qAA h1) (qAn (by simp))))
 obtain ⟨a,e,⟨xs,hq1⟩,q⟩:=q1
 subst e
 cases r1 with
 | cons r rr=>
  cases rr
  cases r
  obtain ⟨its1,rv1,p1,_⟩:=I1.list hq1
  refine call_enumerate_list p1.isList fun h' he hi hsz hk=>?_
  refine wpAny_pyIter_enum he ?_
  have I2:Inv X pins σ H1 { s1 with heap:=h' }:=I1.kept (t':=s1.toks) hk
  refine ⟨_,_,_,_,H1,rfl,I2,qFv _ _ a (Nat.succ_ne_self _),⟨⟨_,he⟩,hi⟩,fun c hc=>?_,q⟩
  have hge:s1.heap.objs.size<=c:=by
   simp only [List.mem_cons,List.not_mem_nil,or_false] at hc
   rcases hc with rfl | rfl
   ·exact Nat.le_add_right _ 1
   ·exact Nat.le_refl _
  exact I1.fpOk hge (I1.hok.fresh hge)
noncomputable def Itv (K:PySem.W.Frag) (a:Addr) (n:Nat):It:=
 ⟨fun i H=>i < n/\∃ xs x,SqL K H a xs/\xs[n - 1 - i]?=some x,fun i H x H'=>H'=H/\∀ xs,SqL K H a xs -> xs[n - 1 - i]?=some x,fun i _=>i=n⟩
theorem qG1 {P:Program} {w:World} {K:PySem.W.Frag} {tg:Expr} (a it:Addr) (n:Nat):qDu P w K tg (Itv K a n) [it] it (fun i h=>h.IsRevIter it a ((n:Int) - 1 - (i:Int))) where
 mem:=by simp
 obj:=fun i h st b hb=>by
  have e:b=it:=by simpa using hb
  subst e
  obtain ⟨o,e,c,d⟩:=st
  exact ⟨o,e,fun v z=>by rw [d] at z;cases z⟩
 keep:=fun i h h' st k=>st.at fun o e=>k it (by simp) o e
 item:=by
  intro X hP hw hK hc i pins s σ H E I hf st hg
  subst hP hw hK
  obtain ⟨hi,xs,x,hq,hx⟩:=hg
  obtain ⟨its,rv,p,hz⟩:=I.list hq
  obtain ⟨u,hu,ru⟩:=rv.get hx
  obtain ⟨f0,f1,f2,f3,f4,f5⟩:=hf it (by simp)
  have e:(n:Int) - 1 - (i:Int)=((n - 1 - i:Nat):Int):=by omega
  rw [e] at st
  refine wpAny_pyNext_rev_item st p.isList (x:=u) (by simpa using hu) fun h' st' sb=>?_
  have e2:((n - 1 - i:Nat):Int) - 1=(n:Int) - 1 - ((i + 1:Nat):Int):=by omega
  rw [e2] at st'
  have I1:Inv X pins σ H { s with heap:=h' }:=I.turned (t':=s.toks) (fun b o hb e=>(sb.2 b hb).trans e) f0 f1 f3 f4 f5
  obtain ⟨o,e,c,d⟩:=id st'
  exact ⟨u,rfl,L2.go_of (s:={ s with heap:=h' }) e c d (by decide) ⟨x,H,I1,ru,⟨rfl,fun ys hy=>by rw [I.list_inj hy hq];exact hx⟩,st',fun b hb=>(hf b hb).1⟩⟩
 done:=by
  intro X hP hw hK hc i pins s σ H E I hf st hg
  subst hP hw hK
  cases hg
  obtain ⟨f0,f1,f2,f3,f4,f5⟩:=hf it (by simp)
  have e:(n:Int) - 1 - (n:Int)=-1:=by omega
  rw [e] at st
  exact wpAny_pyNext_rev_end (I.ok.hd hc) st fun h' eb=>⟨rfl,I.turned (t':=s.toks) (fun b o hb e=>eb b o hb e) f0 f1 f3 f4 f5⟩
 self:=fun _ _ _ _ _ st h=>wpAny_pyIter_revIter st h
noncomputable def qMd (K:PySem.W.Frag) (ta:TA):L2.TI:=fun σ H R=>ta σ H fun vs H1=>∃ a xs,vs=[.ref a]/\SqL K H1 a xs/\R (Itv K a xs.length) H1
theorem qJE {X:Cx} {ea tg:Expr} {ta:TA} {p pos:Pos} (hg:L2.Gl X "reversed") (hm:X.mg "reversed"=none) (ha:PA X [ea] ta) (h1:qAF ea=true):
  L2.PI X tg (.Call (.Name "reversed" p) [ea] [] pos) (qMd X.K ta):=by
 intro pins s σ H R I h
 refine Call_ (L2.ld_blt I hg hm PyProof.Rows.boot_reversed (PyProof.Rows.callWith_type1 (L2.thn (ha pos pins s σ H _ I h) fun us s1 ⟨vs,H1,I1,r1,q1⟩=>?_) (qAA h1) (qAn (by simp))))
 obtain ⟨a,xs,e,hq1,q⟩:=q1
 subst e
 cases r1 with
 | cons r rr=>
  cases rr
  cases r
  obtain ⟨its1,rv1,p1,_⟩:=I1.list hq1
  refine call_reversed_list p1.isList ?_
  have hk:∀ b o,s1.heap.get? b=some o -> (s1.heap.push (revObj a ((its1.toArray.size:Int) - 1))).get? b=some o:=fun b o e=>Heap.get?_push_of_some _ e
  have hit:(s1.heap.push (revObj a ((its1.toArray.size:Int) - 1))).IsRevIter s1.heap.objs.size a ((xs.length:Int) - 1 - ((0:Nat):Int)):=by
   refine ⟨_,Heap.get?_push_size _ rfl,rfl,?_⟩
   have:((its1.toArray.size:Nat):Int) - 1=(xs.length:Int) - 1 - ((0:Nat):Int):=by rw [rv1.length];simp
   rw [<- this];rfl
  refine wpAny_pyIter_revIter hit ?_
  have I2:Inv X pins σ H1 { s1 with heap:=s1.heap.push (revObj a ((its1.toArray.size:Int) - 1)) }:=I1.kept (t':=s1.toks) hk
  refine ⟨_,_,_,_,H1,rfl,I2,qG1 a _ xs.length,hit,fun c hc=>?_,q⟩
  have e:c=s1.heap.objs.size:=by simpa using hc
  subst e
  exact I1.fpOk (Nat.le_refl _) (I1.hok.fresh (Nat.le_refl _))
noncomputable def Itd (lo:Int) (n:Nat):It:=⟨fun i _=>i < n,fun i H x H'=>H'=H/\x=.int (lo - (i:Int)),fun i _=>n<=i⟩
theorem qFd {P:Program} {w:World} {K:PySem.W.Frag} {tg:Expr} (it:Addr) (lo:Int) (n:Nat):qDu P w K tg (Itd lo n) [it] it (fun i h=>IsRangeIter h it (lo + (i:Nat) * (-1)) ((n:Int) - (i:Nat)) (-1)) where
 mem:=by simp
 obj:=fun i h st b hb=>by
  have e:b=it:=by simpa using hb
  subst e
  exact ⟨_,st,fun v z=>by
   have z':Data.fields _=Data.cell v:=z
   cases z'⟩
 keep:=fun i h h' st k=>k it (by simp) _ st
 item:=by
  intro X hP hw hK hc i pins s σ H E I hf st hg
  subst hP hw hK
  obtain ⟨f0,f1,f2,f3,f4,f5⟩:=hf it (by simp)
  have W:=Walks.range (prog:=X.prog) (w:=X.w) (I.ok.hd hc) it lo (-1) n
  refine W.item i s _ _ hg st fun v h' tk hv st' kk=>?_
  obtain ⟨t,rfl⟩:=hv
  have I1:Inv X pins σ H { s with heap:=h',toks:=tk }:=I.turned (fun b o hb e=>kk b o (by simpa using hb) e) f0 f1 f3 f4 f5
  refine ⟨_,rfl,L2.go_of (s:={ s with heap:=h',toks:=tk }) (n:="range_iterator") st' rfl rfl (by decide) ⟨.int (lo - i),H,I1,⟨t,?_⟩,⟨rfl,rfl⟩,st',fun b hb=>(hf b hb).1⟩⟩
  congr 1
  omega
 done:=by
  intro X hP hw hK hc i pins s σ H E I hf st hg
  subst hP hw hK
  obtain ⟨f0,f1,f2,f3,f4,f5⟩:=hf it (by simp)
  exact wpAny_pyNext_range_end (I.ok.hd hc) st (by have:n<=i:=hg;omega) fun h' eb=>⟨rfl,I.turned (t':=s.toks) (fun b o hb e=>eb b o hb e) f0 f1 f3 f4 f5⟩
 self:=fun _ _ _ _ _ st h=>wpAny_pyIter_rangeiter st h
end PI
namespace PI
open PySem PySem.Spec PyProof.Rows PySem.SeqAt
open L2 (V Hp HO Cx PE PT PA PS PSs TE TT TA TS VK It TI qDu Inv RelV FnOk)
noncomputable abbrev rrS (a b c:Int):Bool:=Builtin.Range.rangeFitsLong a&&Builtin.Range.rangeFitsLong b&&Builtin.Range.rangeFitsLong c&&Builtin.Range.rangeFitsLong (-c)&&Builtin.Range.rangeFitsLong (a - c)&&Builtin.Range.rangeFitsLong (Builtin.Range.rangeSize a b c)
noncomputable abbrev rrO (a b c:Int):Obj:={ cls:=.type (if rrS a b c then "range_iterator" else "longrange_iterator"),data:=.fields #[rawInt (a + (Builtin.Range.rangeSize a b c - 1) * c),rawInt (Builtin.Range.rangeSize a b c),rawInt (-c)] }
theorem qGR (r:Addr) (a b c:Int) (t u v:Tok) (hc0:¬ (!rrS a b c)=true):
  Meets (Builtin.«range.__reversed__» ⟨[.ref r],[]⟩) (fun _ R s=>IsRange s.heap r a b c t u v/\R (.ok (.ret (Value.ref s.heap.objs.size))) { s with heap:=s.heap.push (rrO a b c) }):=
 .of_wp fun prog w A R s h=>by
  obtain ⟨hp,g,d,tk,os⟩:=s
  obtain ⟨hl,h⟩:=h
  wp_walk
  exact ⟨_,rfl,h⟩
section
variable {prog:Program} {w:World} {A:Around} {E:Value -> Shared -> Prop} {s:Shared}
theorem qFZ:isSubtype (.type "range_iterator") (.type "reversed")=pure false:=by rw [isSubtype_type];kernel_rfl
theorem qIT {r:Addr} {a b c:Int} {t u v:Tok} {Q₁:Value -> Shared -> Prop} (hc0:¬ (!rrS a b c)=true) (hr:IsRange s.heap r a b c t u v) (h:Q₁ (.ref s.heap.objs.size) { s with heap:=s.heap.push (rrO a b c) }):
  codeAny (model prog w) A (.call (.builtin "reversed.__new__") ⟨[.type "reversed",.ref r],[]⟩) (wants Q₁ E) s:=by
 have hT:s.TypeIs (.ref r) "range":=⟨_,hr,rfl⟩
 have cr:∀ {B:Around} {Q₂:Value -> Shared -> Prop} {E₂:Value -> Shared -> Prop},Q₂ (.ref s.heap.objs.size) { s with heap:=s.heap.push (rrO a b c) } -> wpAny (model prog w) B (call (.builtin "range.__reversed__") [.ref r]) Q₂ E₂ s:=fun q=>call_meets F.slot_range_reversed hT F.entry_range_reversed (F.args_range_reversed_1 _) (qGR r a b c t u v hc0) ⟨hr,q⟩
 have nn:¬ ((Value.builtin "range.__reversed__"==Value.none)=true):=Bool.false_ne_true
 refine codeAny_of_tree ?_;show wpAny _ A.in1 (do checkBuiltinCall "reversed.__new__" ⟨[.type "reversed",.ref r],[]⟩;again (.builtin "reversed.__new__" ⟨[.type "reversed",.ref r],[]⟩)) _ _ s
 refine wpAny_bind (wpAny_of_eq (F.newCall_reversed_1 (.ref r)) (wpAny_pure ⟨plainId_quiet F.plain_reversed_new _,codeAny_builtin F.entry_reversed_new ?_⟩));rw [Around.under_plainId F.plain_reversed_new _];unfold Builtin.«reversed.__new__»
 refine wpAny_bind (wpAny_of_eq (newClass_reversed (.ref r)) ?_);(try dsimp only);refine wpAny_bind (wpAny_of_eq (a:=()) (by first | rfl | kernel_rfl) (wpAny_bind (wpAny_of_eq (a:=()) (by first | rfl | kernel_rfl) ?_)))
 (try dsimp only);refine wpAny_bind (wpAny_specialOf hT F.slot_range_reversed.lookup ?_);(try dsimp only);refine wpAny_bind (wpAny_of_eq (F.slot_range_reversed.bind (.ref r)) ?_);(try dsimp only)
 first | rw [if_neg nn] | (show wpAny _ _ (if (Value.builtin "range.__reversed__"==Value.none)=true then _ else _) _ _ _;rw [if_neg nn])
 refine wpAny_bind (wpAny_rule (wpAny_bind (m:=runValue (.call (.builtin "range.__reversed__") ⟨[.ref r],[]⟩)) (show wpAny _ _ (call (.builtin "range.__reversed__") [.ref r]) _ _ _ from cr ?_)))
 first | exact wpAny_pure h | exact wpAny_bind (wpAny_pure (wpAny_pure h))
theorem qHl {r:Addr} {a b c:Int} {t u v:Tok} {Q:Value -> Shared -> Prop} (hc0:¬ (!rrS a b c)=true) (hr:IsRange s.heap r a b c t u v) (h:Q (.ref s.heap.objs.size) { s with heap:=s.heap.push (rrO a b c) }):wpAny (model prog w) A (call (.type "reversed") [.ref r]) Q E s:=by
 refine callType_other (U:="range_iterator") (Q₁:=fun obj s₁=>obj=.ref s.heap.objs.size/\s₁={ s with heap:=s.heap.push (rrO a b c) }) (by decide +kernel) F.create_reversed ⟨_,_,F.mro_reversed⟩ F.made_reversed qFZ (F.typeCall_reversed_1 (.ref r)) (qIT hc0 hr ⟨rfl,rfl⟩) ?_
 rintro obj s₁ ⟨rfl,rfl⟩
 have e:rrS a b c=true:=by simpa using hc0
 exact ⟨⟨_,Heap.get?_push_size _ rfl,by show Value.type _=_;rw [e];rfl⟩,h⟩
end
theorem qFJ {n:Int} (h0:0<=n):Builtin.Range.rangeSize 0 n 1=n:=by
 unfold Builtin.Range.rangeSize
 simp
 omega
theorem qI3 {n:Int} (h0:0<=n) (h1:n<=1000000):¬ (!rrS 0 n 1)=true:=by
 unfold rrS
 rw [qFJ h0]
 simp only [Builtin.Range.rangeFitsLong,Bool.not_eq_true',Bool.and_eq_false_iff,decide_eq_false_iff_not]
 omega
noncomputable def iRr (ta:TA):L2.TI:=fun σ H R=>ta σ H fun vs H1=>∃ p,∃ j:Int,vs=[.ref p]/\H1 p=some (.rng 0 j)/\(0<=j/\j<=1000000)/\R (Itd (j - 1) j.toNat) H1
theorem qK8 {X:Cx} {ea tg:Expr} {ta:TA} {p pos:Pos} (hg:L2.Gl X "reversed") (hm:X.mg "reversed"=none) (ha:PA X [ea] ta) (h1:qAF ea=true):
  L2.PI X tg (.Call (.Name "reversed" p) [ea] [] pos) (iRr ta):=by
 intro pins s σ H R I h
 refine Call_ (L2.ld_blt I hg hm PyProof.Rows.boot_reversed (PyProof.Rows.callWith_type1 (L2.thn (ha pos pins s σ H _ I h) fun us s1 ⟨vs,H1,I1,r1,q1⟩=>?_) (qAA h1) (qAn (by simp))))
 obtain ⟨a,j,e,hH,⟨j0,j1⟩,q⟩:=q1
 subst e
 cases r1 with
 | cons r rr=>
  cases rr
  cases r
  obtain ⟨t,u,v,hr⟩:=(show L2.ObjOk X.prog X.w H1 s1.heap a (.rng 0 j) from I1.hok a _ hH)
  have sm:=qI3 j0 j1
  have sm':rrS 0 j 1=true:=by simpa using sm
  refine qHl sm hr ?_
  have hk:∀ b o,s1.heap.get? b=some o -> (s1.heap.push (rrO 0 j 1)).get? b=some o:=fun b o e=>Heap.get?_push_of_some _ e
  have hit:IsRangeIter (s1.heap.push (rrO 0 j 1)) s1.heap.objs.size (j - 1 + ((0:Nat):Int) * (-1)) (((j.toNat:Nat):Int) - ((0:Nat):Int)) (-1):=by
   have e1:j - 1 + ((0:Nat):Int) * (-1)=0 + (j - 1) * 1:=by simp
   have e2:((j.toNat:Nat):Int) - ((0:Nat):Int)=j:=by omega
   rw [e1,e2]
   have e3:rrO 0 j 1={ cls:=.type "range_iterator",data:=.fields #[rawInt (0 + (j - 1) * 1),rawInt j,rawInt (-1)] }:=by
    unfold rrO;rw [sm',qFJ j0];rfl
   rw [e3]
   exact Heap.get?_push_size _ rfl
  refine wpAny_pyIter_rangeiter hit ?_
  have I2:Inv X pins σ H1 { s1 with heap:=s1.heap.push (rrO 0 j 1) }:=I1.kept (t':=s1.toks) hk
  refine ⟨_,[s1.heap.objs.size],_,_,H1,rfl,I2,qFd _ (j - 1) j.toNat,hit,fun c hc=>?_,q⟩
  have e:c=s1.heap.objs.size:=by simpa using hc
  subst e
  exact I1.fpOk (Nat.le_refl _) (I1.hok.fresh (Nat.le_refl _))
end PI
namespace PI
open PySem PySem.Spec PyProof.Rows PySem.SeqAt
open L2 (V Hp HO Cx PE PT PA PS PSs PG PGs PW TE TT TA TS TG TGs VK upd qAI qAH SqL SqT qDx Inv RelV Vals EP TP AP SP OpR qAq R2 It qDu qDP Itl Itt qFc)
section
variable (K:PySem.W.Frag) (G:List Addr)
noncomputable def tG (g:Tg):TG:=fun v σc H Q=>∃ φ h σ w σ',Rl K G φ h H/\rst φ σ σc/\rv φ w v/\store g w σ h=some σ'/\∀ σc',rst φ σ' σc' -> Q σc' H
noncomputable def tGs (is:List Nat):TGs:=fun vs σc H Q=>∃ φ σ ws σ',rst φ σ σc/\rvs φ ws vs/\qCp is ws σ=some σ'/\∀ σc',rst φ σ' σc' -> Q σc' H
end
section
variable {X:Cx} {G:List Addr} {F:Nat -> List V -> AH -> RV}
theorem qJS {e:Expr} {t t':TG} (h:PG X e t) (w:∀ v σ H Q,t' v σ H Q -> t v σ H Q):PG X e t':=fun pins s σ H v u Q I r q=>h pins s σ H v u Q I r (w v σ H Q q)
theorem qHK {e:List Expr} {t t':TGs} (h:PGs X e t) (w:∀ v σ H Q,t' v σ H Q -> t v σ H Q):PGs X e t':=fun pins s σ H v u Q I r q=>h pins s σ H v u Q I r (w v σ H Q q)
variable (X G) in
noncomputable abbrev SG (e:Expr) (g:Tg):Prop:=PG X e (tG X.K G g)
theorem qFE {i:Nat} {x:Str} {pos:Pos} (hN:X.N.Nodup) (hi:X.N[i]?=some x) (hx:L2.Loc X.env.scope x) (hf:X.fn x=true\/X.env.scope.names.lookup x=some .local):SG X G (.Name x pos) (.name i):=by
 refine qJS (L2.pg_name hN hi hx hf) fun v σc H Q q=>?_
 obtain ⟨φ,h,σ,w,σ',R,rs,r,e,k⟩:=q
 unfold store at e
 cases e
 exact k _ (qAj (R:=ropt φ) (show ropt φ (some w) (some v) from ⟨v,rfl,r⟩) i rs)
theorem qHV:PGs X [] (tGs []):=by
 refine qHK L2.pgs_nil fun vs σc H Q q=>?_
 obtain ⟨φ,σ,ws,σ',rs,r,e,k⟩:=q
 cases ws with
 | nil=>
  cases r
  cases e
  exact ⟨rfl,k _ rs⟩
 | cons _ _=>cases e
theorem qGr {i:Nat} {is:List Nat} {x:Str} {pos:Pos} {es:List Expr} (hN:X.N.Nodup) (hi:X.N[i]?=some x) (hx:L2.Loc X.env.scope x) (hf:X.fn x=true\/X.env.scope.names.lookup x=some .local) (hs:PGs X es (tGs is)):
  PGs X (.Name x pos::es) (tGs (i::is)):=by
 refine qHK (L2.pgs_cons (L2.pg_name hN hi hx hf) hs rfl) fun vs σc H Q q=>?_
 obtain ⟨φ,σ,ws,σ',rs,r,e,k⟩:=q
 cases ws with
 | nil=>cases e
 | cons w ws=>
  cases r with
  | cons r1 rr=>exact ⟨_,_,rfl,φ,_,ws,σ',qAj (R:=ropt φ) (show ropt φ (some w) (some _) from ⟨_,rfl,r1⟩) i rs,rr,e,k⟩
theorem qCr:∀ {is:List Nat} {xs:List V} {σ σ':St},qCp is xs σ=some σ' -> xs.length=is.length
 | [],[],_,_,_=>rfl
 | [],_::_,_,_,e=>by cases e
 | _::_,[],_,_,e=>by cases e
 | i::is,x::xs,σ,σ',e=>by
  have:=qCr (show qCp is xs _=some σ' from e)
  simp [this]
theorem qJY {is:List Nat} {es:List Expr} {k:Nat} {pos:Pos} (hc:X.calm=true) (h:PGs X es (tGs is)) (hn:(assignEach es X.env).length=is.length) (hst:(assignEach es X.env).findIdx? (·.1)=none):SG X G (.Tuple es k pos) (.tup is):=by
 refine qJS (L2.pg_tup hc h hn hst) fun v σc H Q q=>?_
 obtain ⟨φ,h,σ,w,σ',R,rs,r,e,k⟩:=q
 cases w with
 | ref a=>
  unfold store at e
  dsimp only at e
  split at e
  ·rename_i xs ex
   obtain ⟨p,zs,hp,hs,rz⟩:=R.tup ex
   obtain ⟨q,rfl,hq⟩:=qAL r
   rw [hp] at hq;cases hq
   exact ⟨_,zs,rfl,hs,by rw [<- Paired.length rz];exact qCr e,φ,σ,xs,σ',rs,rz,e,k⟩
  ·cases e
 | _=>cases e
noncomputable def IsJ (K:PySem.W.Frag) (φ:List Addr):Src -> It -> Prop
 | .list p,J=>∃ a,φ[p]?=some a/\J=Itl K a
 | .tupl p,J=>∃ a,φ[p]?=some a/\J=Itt K a
 | .rng lo n,J=>J=L2.Itr lo n
 | .zip p q,J=>∃ a b,φ[p]?=some a/\φ[q]?=some b/\J=Itz K a b
 | .zip3 p q r,J=>∃ a b c,φ[p]?=some a/\φ[q]?=some b/\φ[r]?=some c/\J=qKp K a b c
 | .enum p,J=>∃ a,φ[p]?=some a/\J=Ite K a
 | .rvd p n,J=>∃ a,φ[p]?=some a/\J=Itv K a n
 | .rngd lo n,J=>J=Itd lo n
theorem IsJ.mono {K:PySem.W.Frag} {φ φ':List Addr} (x:Ext φ φ'):∀ {s:Src} {J:It},IsJ K φ s J -> IsJ K φ' s J
 | .list _,_,⟨a,h,e⟩=>⟨a,x.get h,e⟩
 | .tupl _,_,⟨a,h,e⟩=>⟨a,x.get h,e⟩
 | .rng _ _,_,e=>e
 | .zip _ _,_,⟨a,b,h,g,e⟩=>⟨a,b,x.get h,x.get g,e⟩
 | .zip3 _ _ _,_,⟨a,b,c,h,g,k,e⟩=>⟨a,b,c,x.get h,x.get g,x.get k,e⟩
 | .enum _,_,⟨a,h,e⟩=>⟨a,x.get h,e⟩
 | .rvd _ _,_,⟨a,h,e⟩=>⟨a,x.get h,e⟩
 | .rngd _ _,_,e=>e
section
variable {K:PySem.W.Frag} {φ:List Addr} {h h1:AH} {H H':Hp} {s:Src} {J:It} {i:Nat} {x v:V}
theorem IsJ.stop (j:IsJ K φ s J) (R:Rl K G φ h H) (e:qBB h i s=true):J.stop i H:=by
 cases s with
 | list p=>
  obtain ⟨a,ha,rfl⟩:=j
  unfold qBB at e
  dsimp only at e
  split at e
  ·rename_i xs ex
   obtain ⟨q,zs,hq,hs,rz⟩:=R.lst ex
   rw [ha] at hq;cases hq
   exact ⟨zs,hs,by rw [<- Paired.length rz];exact of_decide_eq_true e⟩
  ·cases e
 | tupl p=>
  obtain ⟨a,ha,rfl⟩:=j
  unfold qBB at e
  dsimp only at e
  split at e
  ·rename_i xs ex
   obtain ⟨q,zs,hq,hs,rz⟩:=R.tup ex
   rw [ha] at hq;cases hq
   exact ⟨zs,hs,by rw [<- Paired.length rz];exact of_decide_eq_true e⟩
  ·cases e
 | rng lo n=>
  cases j
  show n<=i
  exact of_decide_eq_true e
 | zip p q=>
  obtain ⟨a,b,ha,hb,rfl⟩:=j
  unfold qBB at e
  dsimp only at e
  split at e
  ·rename_i xs ys ex ey
   obtain ⟨a',zs,hq,hs,rz⟩:=R.lst ex
   obtain ⟨b',ws,hq',hs',rz'⟩:=R.lst ey
   rw [ha] at hq;cases hq
   rw [hb] at hq';cases hq'
   exact ⟨zs,ws,hs,hs',by rw [<- Paired.length rz,<- Paired.length rz'];exact of_decide_eq_true e⟩
  ·cases e
 | zip3 p q r=>
  obtain ⟨a,b,c,ha,hb,hc,rfl⟩:=j
  unfold qBB at e
  dsimp only at e
  cases ex:qAE h p with
  | none=>rw [ex] at e;cases e
  | some xs=>
   cases ey:qAE h q with
   | none=>rw [ex,ey] at e;cases e
   | some ys=>
    cases ez:qAE h r with
    | none=>rw [ex,ey,ez] at e;cases e
    | some us=>
     rw [ex,ey,ez] at e
     dsimp only at e
     obtain ⟨a',zs,hq,hs,rz⟩:=R.lst ex
     obtain ⟨b',ws,hq',hs',rz'⟩:=R.lst ey
     obtain ⟨c',vs,hq'',hs'',rz''⟩:=R.lst ez
     rw [ha] at hq;cases hq
     rw [hb] at hq';cases hq'
     rw [hc] at hq'';cases hq''
     exact ⟨zs,ws,vs,hs,hs',hs'',by rw [<- Paired.length rz,<- Paired.length rz',<- Paired.length rz''];exact of_decide_eq_true e⟩
 | enum p=>
  obtain ⟨a,ha,rfl⟩:=j
  unfold qBB at e
  dsimp only at e
  split at e
  ·rename_i xs ex
   obtain ⟨q,zs,hq,hs,rz⟩:=R.lst ex
   rw [ha] at hq;cases hq
   exact ⟨zs,hs,by rw [<- Paired.length rz];exact of_decide_eq_true e⟩
  ·cases e
 | rvd p n=>
  obtain ⟨a,ha,rfl⟩:=j
  show i=n
  exact of_decide_eq_true e
 | rngd lo n=>
  cases j
  show n<=i
  exact of_decide_eq_true e
theorem IsJ.go (j:IsJ K φ s J) (R:Rl K G φ h H) (e:qAT h i s=some (x,h1)):J.go i H:=by
 cases s with
 | list p=>
  obtain ⟨a,ha,rfl⟩:=j
  unfold qAT at e
  dsimp only at e
  split at e
  ·rename_i xs ex
   obtain ⟨y,ey,e2⟩:=Option.map_eq_some_iff.mp e
   obtain ⟨q,zs,hq,hs,rz⟩:=R.lst ex
   rw [ha] at hq;cases hq
   obtain ⟨z,hz,_⟩:=qAC rz ey
   exact ⟨zs,z,hs,hz⟩
  ·cases e
 | tupl p=>
  obtain ⟨a,ha,rfl⟩:=j
  unfold qAT at e
  dsimp only at e
  split at e
  ·rename_i xs ex
   obtain ⟨y,ey,e2⟩:=Option.map_eq_some_iff.mp e
   obtain ⟨q,zs,hq,hs,rz⟩:=R.tup ex
   rw [ha] at hq;cases hq
   obtain ⟨z,hz,_⟩:=qAC rz ey
   exact ⟨zs,z,hs,hz⟩
  ·cases e
 | rng lo n=>
  cases j
  unfold qAT at e
  dsimp only at e
  split at e
  ·rename_i hl
   exact hl
  ·cases e
 | zip p q=>
  obtain ⟨a,b,ha,hb,rfl⟩:=j
  unfold qAT at e
  dsimp only at e
  split at e
  ·rename_i xs ys ex ey
   split at e
   ·rename_i u w eu ew
    obtain ⟨a',zs,hq,hs,rz⟩:=R.lst ex
    obtain ⟨b',ws,hq',hs',rz'⟩:=R.lst ey
    rw [ha] at hq;cases hq
    rw [hb] at hq';cases hq'
    obtain ⟨z,hz,_⟩:=qAC rz eu
    obtain ⟨z',hz',_⟩:=qAC rz' ew
    exact ⟨zs,ws,z,z',hs,hs',hz,hz'⟩
   ·cases e
  ·cases e
 | zip3 p q r=>
  obtain ⟨a,b,c,ha,hb,hc,rfl⟩:=j
  unfold qAT at e
  dsimp only at e
  cases ex:qAE h p with
  | none=>rw [ex] at e;cases e
  | some xs=>
   cases ey:qAE h q with
   | none=>rw [ex,ey] at e;cases e
   | some ys=>
    cases ez:qAE h r with
    | none=>rw [ex,ey,ez] at e;cases e
    | some us=>
     rw [ex,ey,ez] at e
     dsimp only at e
     obtain ⟨a',zs,hq,hs,rz⟩:=R.lst ex
     obtain ⟨b',ws,hq',hs',rz'⟩:=R.lst ey
     obtain ⟨c',vs,hq'',hs'',rz''⟩:=R.lst ez
     rw [ha] at hq;cases hq
     rw [hb] at hq';cases hq'
     rw [hc] at hq'';cases hq''
     cases eu:xs[i]? with
     | none=>rw [eu] at e;cases e
     | some u=>
      cases ew:ys[i]? with
      | none=>rw [eu,ew] at e;cases e
      | some w=>
       cases ev:us[i]? with
       | none=>rw [eu,ew,ev] at e;cases e
       | some v0=>
        rw [eu,ew,ev] at e
        dsimp only at e
        obtain ⟨z1,hz1,r1⟩:=qAC rz eu
        obtain ⟨z2,hz2,r2⟩:=qAC rz' ew
        obtain ⟨z3,hz3,r3⟩:=qAC rz'' ev
        exact ⟨zs,ws,vs,z1,z2,z3,hs,hs',hs'',hz1,hz2,hz3⟩
 | enum p=>
  obtain ⟨a,ha,rfl⟩:=j
  unfold qAT at e
  dsimp only at e
  split at e
  ·rename_i xs ex
   obtain ⟨y,ey,e2⟩:=Option.map_eq_some_iff.mp e
   obtain ⟨q,zs,hq,hs,rz⟩:=R.lst ex
   rw [ha] at hq;cases hq
   obtain ⟨z,hz,_⟩:=qAC rz ey
   exact ⟨zs,z,hs,hz⟩
  ·cases e
 | rvd p n=>
  obtain ⟨a,ha,rfl⟩:=j
  unfold qAT at e
  dsimp only at e
  split at e
  ·rename_i hi
   split at e
   ·rename_i xs ex
    obtain ⟨y,ey,e2⟩:=Option.map_eq_some_iff.mp e
    obtain ⟨q,zs,hq,hs,rz⟩:=R.lst ex
    rw [ha] at hq;cases hq
    obtain ⟨z,hz,_⟩:=qAC rz ey
    exact ⟨hi,zs,z,hs,hz⟩
   ·cases e
  ·cases e
 | rngd lo n=>
  cases j
  unfold qAT at e
  dsimp only at e
  split at e
  ·rename_i hl
   exact hl
  ·cases e
theorem IsJ.yld (j:IsJ K φ s J) (R:Rl K G φ h H) (e:qAT h i s=some (x,h1)) (y:J.yld i H v H'):∃ φ',Ext φ φ'/\Rl K G φ' h1 H'/\rv φ' x v:=by
 cases s with
 | list p=>
  obtain ⟨a,ha,rfl⟩:=j
  unfold qAT at e
  dsimp only at e
  split at e
  ·rename_i xs ex
   obtain ⟨y',ey,e2⟩:=Option.map_eq_some_iff.mp e
   cases e2
   obtain ⟨q,zs,hq,hs,rz⟩:=R.lst ex
   rw [ha] at hq;cases hq
   obtain ⟨z,hz,rz'⟩:=qAC rz ey
   obtain ⟨rfl,k⟩:=y
   have:=k zs hs
   rw [hz] at this;cases this
   exact ⟨φ,.refl _,R,rz'⟩
  ·cases e
 | tupl p=>
  obtain ⟨a,ha,rfl⟩:=j
  unfold qAT at e
  dsimp only at e
  split at e
  ·rename_i xs ex
   obtain ⟨y',ey,e2⟩:=Option.map_eq_some_iff.mp e
   cases e2
   obtain ⟨q,zs,hq,hs,rz⟩:=R.tup ex
   rw [ha] at hq;cases hq
   obtain ⟨z,hz,rz'⟩:=qAC rz ey
   obtain ⟨rfl,k⟩:=y
   have:=k zs hs
   rw [hz] at this;cases this
   exact ⟨φ,.refl _,R,rz'⟩
  ·cases e
 | rng lo n=>
  cases j
  unfold qAT at e
  dsimp only at e
  split at e
  ·cases e
   obtain ⟨rfl,rfl⟩:=y
   exact ⟨φ,.refl _,R,rfl⟩
  ·cases e
 | zip p q=>
  obtain ⟨a,b,ha,hb,rfl⟩:=j
  unfold qAT at e
  dsimp only at e
  split at e
  ·rename_i xs ys ex ey
   split at e
   ·rename_i u w eu ew
    cases e
    obtain ⟨a',zs,hq,hs,rz⟩:=R.lst ex
    obtain ⟨b',ws,hq',hs',rz'⟩:=R.lst ey
    rw [ha] at hq;cases hq
    rw [hb] at hq';cases hq'
    obtain ⟨z,hz,r1⟩:=qAC rz eu
    obtain ⟨z',hz',r2⟩:=qAC rz' ew
    obtain ⟨p',x',y',hn,rfl,rfl,k1,k2⟩:=y
    have t1:=k1 zs hs
    have t2:=k2 ws hs'
    rw [hz] at t1;cases t1
    rw [hz'] at t2;cases t2
    exact ⟨φ++[p'],⟨[p'],rfl⟩,R.newT hn (.cons r1 (.cons r2 .nil)),R.lastRef⟩
   ·cases e
  ·cases e
 | zip3 p q r=>
  obtain ⟨a,b,c,ha,hb,hc,rfl⟩:=j
  unfold qAT at e
  dsimp only at e
  cases ex:qAE h p with
  | none=>rw [ex] at e;cases e
  | some xs=>
   cases ey:qAE h q with
   | none=>rw [ex,ey] at e;cases e
   | some ys=>
    cases ez:qAE h r with
    | none=>rw [ex,ey,ez] at e;cases e
    | some us=>
     rw [ex,ey,ez] at e
     dsimp only at e
     obtain ⟨a',zs,hq,hs,rz⟩:=R.lst ex
     obtain ⟨b',ws,hq',hs',rz'⟩:=R.lst ey
     obtain ⟨c',vs,hq'',hs'',rz''⟩:=R.lst ez
     rw [ha] at hq;cases hq
     rw [hb] at hq';cases hq'
     rw [hc] at hq'';cases hq''
     cases eu:xs[i]? with
     | none=>rw [eu] at e;cases e
     | some u=>
      cases ew:ys[i]? with
      | none=>rw [eu,ew] at e;cases e
      | some w=>
       cases ev:us[i]? with
       | none=>rw [eu,ew,ev] at e;cases e
       | some v0=>
        rw [eu,ew,ev] at e
        dsimp only at e
        obtain ⟨z1,hz1,r1⟩:=qAC rz eu
        obtain ⟨z2,hz2,r2⟩:=qAC rz' ew
        obtain ⟨z3,hz3,r3⟩:=qAC rz'' ev
        cases e
        obtain ⟨p',x',y',u',hn,rfl,rfl,k1,k2,k3⟩:=y
        have t1:=k1 zs hs
        have t2:=k2 ws hs'
        have t3:=k3 vs hs''
        rw [hz1] at t1;cases t1
        rw [hz2] at t2;cases t2
        rw [hz3] at t3;cases t3
        exact ⟨φ++[p'],⟨[p'],rfl⟩,R.newT hn (.cons r1 (.cons r2 (.cons r3 .nil))),R.lastRef⟩
 | enum p=>
  obtain ⟨a,ha,rfl⟩:=j
  unfold qAT at e
  dsimp only at e
  split at e
  ·rename_i xs ex
   obtain ⟨y',ey,e2⟩:=Option.map_eq_some_iff.mp e
   cases e2
   obtain ⟨q,zs,hq,hs,rz⟩:=R.lst ex
   rw [ha] at hq;cases hq
   obtain ⟨z,hz,r1⟩:=qAC rz ey
   obtain ⟨p',x',hn,rfl,rfl,k⟩:=y
   have:=k zs hs
   rw [hz] at this;cases this
   exact ⟨φ++[p'],⟨[p'],rfl⟩,R.newT hn (.cons rfl (.cons r1 .nil)),R.lastRef⟩
  ·cases e
 | rvd p n=>
  obtain ⟨a,ha,rfl⟩:=j
  unfold qAT at e
  dsimp only at e
  split at e
  ·split at e
   ·rename_i xs ex
    obtain ⟨y',ey,e2⟩:=Option.map_eq_some_iff.mp e
    cases e2
    obtain ⟨q,zs,hq,hs,rz⟩:=R.lst ex
    rw [ha] at hq;cases hq
    obtain ⟨z,hz,rz'⟩:=qAC rz ey
    obtain ⟨rfl,k⟩:=y
    have:=k zs hs
    rw [hz] at this;cases this
    exact ⟨φ,.refl _,R,rz'⟩
   ·cases e
  ·cases e
 | rngd lo n=>
  cases j
  unfold qAT at e
  dsimp only at e
  split at e
  ·cases e
   obtain ⟨rfl,rfl⟩:=y
   exact ⟨φ,.refl _,R,rfl⟩
  ·cases e
end
variable (G F) in
noncomputable def tI (K:PySem.W.Frag) (it:Itr):L2.TI:=fun σc H R=>∃ φ h σ s h',Rl K G φ h H/\rst φ σ σc/\evi F it σ h=.ok (s,h')/\∀ φ' H' J,Ext φ φ' -> Rl K G φ' h' H' -> IsJ K φ' s J -> R J H'
variable (X G F) in
noncomputable abbrev SI (tg iter:Expr) (it:Itr):Prop:=L2.PI X tg iter (tI G F X.K it)
theorem qDS {tg e:Expr} {t t':L2.TI} (h:L2.PI X tg e t) (w:∀ σ H Q,t' σ H Q -> t σ H Q):L2.PI X tg e t':=fun pins s σ H Q I q=>h pins s σ H Q I (w σ H Q q)
variable {a b:E} {ea eb tg:Expr} {pos p:Pos}
noncomputable def qMe (K:PySem.W.Frag) (tl:TE):L2.TI:=fun σ H R=>tl σ H fun x H1=>∃ a,x=.ref a/\(((∃ xs,SqL K H1 a xs)/\R (Itl K a) H1)\/((∃ xs,SqT K H1 a xs)/\R (Itt K a) H1))
theorem qIv {l:Expr} {tl:TE} (hl:PE X l tl):L2.PI X tg l (qMe X.K tl):=by
 intro pins s σ H R I h
 refine L2.thn (hl pins s σ H _ I h) fun v s1 ⟨x,H1,I1,r1,q1⟩=>?_
 obtain ⟨a,e,q⟩:=q1
 subst e
 cases r1
 rcases q with ⟨⟨xs,hq⟩,q⟩ | ⟨⟨xs,hq⟩,q⟩
 ·obtain ⟨its,rv,p,hz⟩:=I1.list hq
  refine wpAny_pyIter_list p.isList ?_
  refine ⟨s1.heap.objs.size,[s1.heap.objs.size],_,_,H1,rfl,I1.kept (t':=s1.toks) fun b o e=>Heap.get?_push_of_some _ e,L2.turn_list a _,⟨_,Heap.get?_push_size _ rfl,rfl,rfl⟩,fun b hb=>?_,q⟩
  have e:b=s1.heap.objs.size:=by simpa using hb
  subst e
  exact I1.fpOk (Nat.le_refl _) (I1.hok.fresh (Nat.le_refl _))
 ·obtain ⟨its,rv,p,hz⟩:=I1.tuple hq
  refine wpAny_pyIter_tuple (show s1.heap.IsTuple a its.toArray from p) ?_
  refine ⟨s1.heap.objs.size,[s1.heap.objs.size],_,_,H1,rfl,I1.kept (t':=s1.toks) fun b o e=>Heap.get?_push_of_some _ e,L2.turn_tuple a _,⟨_,Heap.get?_push_size _ rfl,rfl,rfl⟩,fun b hb=>?_,q⟩
  have e:b=s1.heap.objs.size:=by simpa using hb
  subst e
  exact I1.fpOk (Nat.le_refl _) (I1.hok.fresh (Nat.le_refl _))
theorem qFG (ha:SE X G F ea a):SI X G F tg ea (.list a):=by
 refine qDS (qIv ha) fun σc H Q q=>?_
 obtain ⟨φ,h,σ,s,h',R,rs,e,k⟩:=q
 unfold evi at e
 obtain ⟨⟨x,h1⟩,e1,e⟩:=Res.bind_inv e
 refine ⟨φ,h,σ,x,h1,R,rs,e1,fun φ1 H1 w x1 R1 r1=>?_⟩
 cases x with
 | ref p=>
  dsimp only at e
  cases ey:h1[p]? with
  | none=>rw [ey] at e;cases e
  | some o=>
   cases o with
   | lst fz ys=>
    rw [ey] at e
    cases e
    obtain ⟨q,zs,hq,hs,rz⟩:=R1.lst (i:=p) (xs:=ys) (by unfold qAE;rw [ey])
    obtain ⟨q',rfl,hq'⟩:=qAL r1
    rw [hq] at hq';cases hq'
    exact ⟨_,rfl,.inl ⟨⟨zs,hs⟩,k φ1 H1 _ x1 R1 ⟨_,hq,rfl⟩⟩⟩
   | tup ys=>
    rw [ey] at e
    cases e
    obtain ⟨q,zs,hq,hs,rz⟩:=R1.tup (i:=p) (xs:=ys) (by unfold qAV;rw [ey])
    obtain ⟨q',rfl,hq'⟩:=qAL r1
    rw [hq] at hq';cases hq'
    exact ⟨_,rfl,.inr ⟨⟨zs,hs⟩,k φ1 H1 _ x1 R1 ⟨_,hq,rfl⟩⟩⟩
   | ob ks=>rw [ey] at e;cases e
 | _=>cases e
theorem qH4 (hg:L2.Gl X "range") (hm:X.mg "range"=none) (hn:qAF ea=true) (ha:SE X G F ea a):SI X G F tg (.Call (.Name "range" p) [ea] [] pos) (.rng1 a):=by
 refine qDS (L2.pi_range1 hg hm (L2.pa_cons ha L2.pa_nil (qAA hn)) (qAA hn)) fun σc H Q q=>?_
 obtain ⟨φ,h,σ,s,h',R,rs,e,k⟩:=q
 unfold evi at e
 obtain ⟨⟨x,h1⟩,e1,e⟩:=Res.bind_inv e
 refine ⟨φ,h,σ,x,h1,R,rs,e1,fun φ1 H1 w x1 R1 r1=>?_⟩
 cases x with
 | int j=>
  dsimp only at e
  split at e
  ·rename_i hj
   cases e
   cases qAD r1
   exact ⟨j,rfl,by omega,by omega,k φ1 H1 _ x1 R1 rfl⟩
  ·cases e
 | _=>cases e
theorem qIH (hg:L2.Gl X "range") (hm:X.mg "range"=none) (hn:qAF ea=true) (hn2:qAF eb=true) (ha:SE X G F ea a) (hb:SE X G F eb b):SI X G F tg (.Call (.Name "range" p) [ea,eb] [] pos) (.rng2 a b):=by
 refine qDS (L2.pi_range2 hg hm (L2.pa_cons ha (L2.pa_cons hb L2.pa_nil (qAA hn2)) (qAA hn)) (by rw [qAA hn,qAA hn2];rfl) (qAA hn2)) fun σc H Q q=>?_
 obtain ⟨φ,h,σ,s,h',R,rs,e,k⟩:=q
 unfold evi at e
 obtain ⟨⟨x,h1⟩,e1,e⟩:=Res.bind_inv e
 obtain ⟨⟨y,h2⟩,e2,e⟩:=Res.bind_inv e
 refine qBi R rs e1 e2 fun φ2 H2 xc yc x2 R2 r1 r2=>?_
 cases x with
 | int i=>
  cases y with
  | int j=>
   dsimp only at e
   split at e
   ·rename_i hj
    cases e
    cases qAD r1
    cases qAD r2
    exact ⟨i,j,rfl,⟨by omega,by omega,by omega,by omega⟩,k φ2 H2 _ x2 R2 rfl⟩
   ·cases e
  | _=>cases e
 | _=>cases e
theorem qK7 {p2 pos2:Pos} (hg:L2.Gl X "reversed") (hm:X.mg "reversed"=none) (hg2:L2.Gl X "range") (hm2:X.mg "range"=none) (hn:qAF ea=true) (ha:SE X G F ea a):
  SI X G F tg (.Call (.Name "reversed" p) [.Call (.Name "range" p2) [ea] [] pos2] [] pos) (.rvr a):=by
 refine qDS (qK8 hg hm (L2.pa_cons (L2.pe_callTy qDi hg2 hm2 PyProof.Rows.boot_range (L2.pa_cons ha L2.pa_nil (qAA hn)) (by decide) (by decide) (qAA hn) rfl) L2.pa_nil rfl) rfl) fun σc H Q q=>?_
 obtain ⟨φ,h,σ,s,h',R,rs,e,k⟩:=q
 unfold evi at e
 obtain ⟨⟨x,h1⟩,e1,e⟩:=Res.bind_inv e
 refine ⟨φ,h,σ,x,h1,R,rs,e1,fun φ1 H1 w x1 R1 r1=>?_⟩
 cases x with
 | int j=>
  dsimp only at e
  split at e
  ·rename_i hj
   cases e
   cases qAD r1
   exact ⟨j,rfl,fun p hp=>⟨p,j,rfl,qAI,hj,k φ1 _ _ x1 (R1.same (qBv hp)) rfl⟩⟩
  ·cases e
 | _=>cases e
theorem qIQ {elts:List Expr} {kk:Nat} {tpos:Pos} (hg:L2.Gl X "enumerate") (hm:X.mg "enumerate"=none) (hn:qAF ea=true) (ha:SE X G F ea a):
  SI X G F (.Tuple elts kk tpos) (.Call (.Name "enumerate" p) [ea] [] pos) (.enum a):=by
 refine qDS (qHq hg hm (L2.pa_cons ha L2.pa_nil (qAA hn)) hn) fun σc H Q q=>?_
 obtain ⟨φ,h,σ,s,h',R,rs,e,k⟩:=q
 unfold evi at e
 obtain ⟨⟨x,h1⟩,e1,e⟩:=Res.bind_inv e
 refine ⟨φ,h,σ,x,h1,R,rs,e1,fun φ1 H1 w x1 R1 r1=>?_⟩
 cases x with
 | ref p=>
  dsimp only at e
  split at e
  ·rename_i xs ex
   cases e
   obtain ⟨q,zs,hq,hs,rz⟩:=R1.lst ex
   obtain ⟨q',rfl,hq'⟩:=qAL r1
   rw [hq] at hq';cases hq'
   exact ⟨_,rfl,⟨zs,hs⟩,k φ1 H1 _ x1 R1 ⟨_,hq,rfl⟩⟩
  ·cases e
 | _=>cases e
theorem qFF (hg:L2.Gl X "reversed") (hm:X.mg "reversed"=none) (hn:qAF ea=true) (ha:SE X G F ea a):
  SI X G F tg (.Call (.Name "reversed" p) [ea] [] pos) (.revd a):=by
 refine qDS (qJE hg hm (L2.pa_cons ha L2.pa_nil (qAA hn)) hn) fun σc H Q q=>?_
 obtain ⟨φ,h,σ,s,h',R,rs,e,k⟩:=q
 unfold evi at e
 obtain ⟨⟨x,h1⟩,e1,e⟩:=Res.bind_inv e
 refine ⟨φ,h,σ,x,h1,R,rs,e1,fun φ1 H1 w x1 R1 r1=>?_⟩
 cases x with
 | ref p=>
  dsimp only at e
  split at e
  ·rename_i xs ex
   cases e
   obtain ⟨q,zs,hq,hs,rz⟩:=R1.lst ex
   obtain ⟨q',rfl,hq'⟩:=qAL r1
   rw [hq] at hq';cases hq'
   exact ⟨_,zs,rfl,hs,k φ1 H1 _ x1 R1 ⟨_,hq,by rw [<- Paired.length rz]⟩⟩
  ·cases e
 | _=>cases e
theorem qHZ {ec:Expr} {c:E} {elts:List Expr} {kk:Nat} {tpos:Pos} (hg:L2.Gl X "zip") (hm:X.mg "zip"=none) (hn:qAF ea=true) (hn2:qAF eb=true) (hn3:qAF ec=true) (ha:SE X G F ea a) (hb:SE X G F eb b) (hc:SE X G F ec c):
  SI X G F (.Tuple elts kk tpos) (.Call (.Name "zip" p) [ea,eb,ec] [] pos) (.zip3 a b c):=by
 refine qDS (qLA hg hm (L2.pa_cons ha (L2.pa_cons hb (L2.pa_cons hc L2.pa_nil (qAA hn3)) (qAA hn2)) (qAA hn)) hn hn2 hn3) fun σc H Q q=>?_
 obtain ⟨φ,h,σ,s,h',R,rs,e,k⟩:=q
 unfold evi at e
 obtain ⟨⟨x,h1⟩,e1,e⟩:=Res.bind_inv e
 obtain ⟨⟨y,h2⟩,e2,e⟩:=Res.bind_inv e
 obtain ⟨⟨z,h3⟩,e3,e⟩:=Res.bind_inv e
 refine ⟨φ,h,σ,x,h1,R,rs,e1,fun φ1 H1 w x1 R1 r1=>⟨φ1,h1,σ,y,h2,R1,rst.mono x1 rs,e2,fun φ2 H2 w2 x2 R2 r2=>⟨φ2,h2,σ,z,h3,R2,rst.mono (x1.trans x2) rs,e3,fun φ3 H3 w3 x3 R3 r3=>?_⟩⟩⟩
 cases x with
 | ref i=>
  cases y with
  | ref j=>
   cases z with
   | ref l=>
    dsimp only at e
    split at e
    ·rename_i xs ex
     split at e
     ·rename_i ys ey
      split at e
      ·rename_i us eu
       cases e
       obtain ⟨a',zs,hq,hs,rz⟩:=R3.lst ex
       obtain ⟨b',ws,hq',hs',rz'⟩:=R3.lst ey
       obtain ⟨c',vs,hq'',hs'',rz''⟩:=R3.lst eu
       obtain ⟨a2,rfl,ha2⟩:=qAL r1
       obtain ⟨b2,rfl,hb2⟩:=qAL r2
       obtain ⟨c2,rfl,hc2⟩:=qAL r3
       rw [(x2.trans x3).get ha2] at hq;cases hq
       rw [x3.get hb2] at hq';cases hq'
       rw [hc2] at hq'';cases hq''
       exact ⟨_,_,_,rfl,⟨zs,hs⟩,⟨ws,hs'⟩,⟨vs,hs''⟩,k φ3 H3 _ (x1.trans (x2.trans x3)) R3 ⟨_,_,_,(x2.trans x3).get ha2,x3.get hb2,hc2,rfl⟩⟩
      ·cases e
     ·cases e
    ·cases e
   | _=>cases e
  | _=>cases e
 | _=>cases e
theorem qJi {elts:List Expr} {kk:Nat} {tpos:Pos} (hg:L2.Gl X "zip") (hm:X.mg "zip"=none) (hn:qAF ea=true) (hn2:qAF eb=true) (ha:SE X G F ea a) (hb:SE X G F eb b):
  SI X G F (.Tuple elts kk tpos) (.Call (.Name "zip" p) [ea,eb] [] pos) (.zip a b):=by
 refine qDS (qJX hg hm (L2.pa_cons ha (L2.pa_cons hb L2.pa_nil (qAA hn2)) (qAA hn)) hn hn2) fun σc H Q q=>?_
 obtain ⟨φ,h,σ,s,h',R,rs,e,k⟩:=q
 unfold evi at e
 obtain ⟨⟨x,h1⟩,e1,e⟩:=Res.bind_inv e
 obtain ⟨⟨y,h2⟩,e2,e⟩:=Res.bind_inv e
 refine qBi R rs e1 e2 fun φ2 H2 xc yc x2 R2 r1 r2=>?_
 cases x with
 | ref i=>
  cases y with
  | ref j=>
   dsimp only at e
   split at e
   ·rename_i xs ys ex ey
    cases e
    obtain ⟨a',zs,hq,hs,rz⟩:=R2.lst ex
    obtain ⟨b',ws,hq',hs',rz'⟩:=R2.lst ey
    obtain ⟨a2,rfl,ha2⟩:=qAL r1
    obtain ⟨b2,rfl,hb2⟩:=qAL r2
    rw [hq] at ha2;cases ha2
    rw [hq'] at hb2;cases hb2
    exact ⟨_,_,rfl,⟨zs,hs⟩,⟨ws,hs'⟩,k φ2 H2 _ x2 R2 ⟨_,_,hq,hq',rfl⟩⟩
   ·cases e
  | _=>cases e
 | _=>cases e
end
end PI
namespace PI
open PySem PySem.Spec PyProof.Rows PySem.SeqAt
open L2 (V Hp HO Cx PE PT PA PS PSs PG PGs PW TE TT TA TS TG TGs VK upd qAI qAH SqL SqT qDx Inv RelV Vals EP TP AP SP OpR qAq R2 It qDu qDP Itl Itt qFc)
section
variable {X:Cx} {G:List Addr} {F:Nat -> List V -> AH -> RV}
theorem qIb {φ:List Addr}:∀ {v w w':V},rv φ v w -> rv φ v w' -> w=w'
 | .ref _,w,w',h,g=>by
  obtain ⟨a,e1,h1⟩:=qAL h
  obtain ⟨b,e2,g1⟩:=qAL g
  rw [h1] at g1
  cases g1
  rw [e1,e2]
 | .non,_,_,h,g=>by rw [qAv h,qAv g]
 | .bl _,_,_,h,g=>by rw [qAw h,qAw g]
 | .int _,_,_,h,g=>by rw [qAD h,qAD g]
 | .str _,_,_,h,g=>by rw [qA9 h,qA9 g]
 | .byt _,w,_,h,_=>by cases w<;>exact False.elim h
 | .flt _,w,_,h,_=>by cases w<;>exact False.elim h
 | .ty _,w,_,h,_=>by cases w<;>exact False.elim h
theorem qEA {φ:List Addr}:∀ {vs ws us:List V},rvs φ vs ws -> rvs φ vs us -> ws=us
 | _,_,_,.nil,.nil=>rfl
 | _,_,_,.cons r t,.cons r' t'=>by rw [qIb r r',qEA t t']
theorem qCU {φ:List Addr} {σ σc:St} (r:rst φ σ σc):∀ src,rst φ (L2.inner src σ) (L2.inner src σc)
 | []=>.nil
 | none::src=>.cons trivial (qCU r src)
 | some j::src=>by
  refine .cons ?_ (qCU r src)
  show ropt φ (σ[j]?).join (σc[j]?).join
  cases e:σ[j]? with
  | none=>exact trivial
  | some o=>
   cases o with
   | none=>exact trivial
   | some v=>
    obtain ⟨oc,ec,r'⟩:=qAC r e
    obtain ⟨w,rfl,r'⟩:=r'
    rw [ec]
    exact ⟨w,rfl,r'⟩
variable (X G F) in
noncomputable abbrev SC (ifs:List Expr) (c:Es):Prop:=L2.PTs X ifs (tB X.K G (evc F c))
theorem qJU:SC X G F [] .nil:=by
 intro pins s σ H Q I q
 obtain ⟨φ,h,σa,b,h',R,rs,e,k⟩:=q
 unfold evc at e
 cases e
 exact L2.pts_nil pins s σ H Q I (k φ H (.refl _) R)
theorem qIz {c:Expr} {a:E} (hc:ST X G F c a):SC X G F [c] (.cons a .nil):=by
 intro pins s σ H Q I q
 obtain ⟨φ,h,σa,b,h',R,rs,e,k⟩:=q
 unfold evc at e
 exact L2.pts_one hc pins s σ H Q I ⟨φ,h,σa,b,h',R,rs,e,k⟩
theorem qFO {it:Itr} {src:List (Option Nat)} {g:Tg} {c:Es} {e:E} {σc:St} {H:Hp} {Q:VK} (q:tE X.K G F (.comp it src g c e) σc H Q):
  L2.tComp (tI G F X.K it) src (tG X.K G g) (tB X.K G (evc F c)) (tE X.K G F e) σc H Q:=by
 obtain ⟨φ,h,σ,v,h',R,rs,ee,k⟩:=q
 unfold ev at ee
 obtain ⟨⟨s,h1⟩,e1,ee⟩:=Res.bind_inv ee
 refine ⟨φ,h,σ,s,h1,R,rs,e1,fun φ1 H1 J x1 R1 j1=>?_⟩
 dsimp only at ee
 split at ee
 ·rename_i n hn
  intro D hD
  have R2:Rl X.K G (φ1++[D]) (h1++[.lst false []]) (upd H1 D (.lst [])):=R1.newL hD .nil
  have hDφ:(φ1++[D])[h1.length]?=some D:=R1.lastRef
  refine ⟨fun i m ys σ' H'=>∃ φ' h2 σa ya,Ext (φ1++[D]) φ'/\Rl X.K G φ' h2 H'/\rst φ' σa σ'/\rvs φ' ya ys/\h2[h1.length]?=some (.lst false ya)/\qDe s g (evc F c) (ev F e) h1.length m i ya σa h2=.ok (v,h'),
   ⟨n,φ1++[D],_,_,[],.refl _,R2,qCU (rst.mono (x1.trans ⟨[D],rfl⟩) rs) src,.nil,by simp,ee⟩,?_⟩
  rintro i m ys σ' H' ⟨φ',h2,σa,ya,x2,Ra,rsa,rya,hya,ec⟩ hys
  have jj:IsJ X.K φ' s J:=j1.mono (Ext.trans ⟨[D],rfl⟩ x2)
  have hDφ':=x2.get hDφ
  cases m with
  | zero=>
   unfold qDe at ec
   split at ec
   ·rename_i hst
    cases ec
    exact .inl ⟨jj.stop Ra hst,k φ' H' _ ((x1.trans ⟨[D],rfl⟩).trans x2) Ra hDφ'⟩
   ·cases ec
  | succ m=>
   unfold qDe at ec
   split at ec
   ·rename_i x h3 hy
    split at ec
    ·rename_i σ3 hst
     refine .inr ⟨jj.go Ra hy,fun xv H2 hyl=>?_⟩
     obtain ⟨φ3,x3,R3,rx⟩:=jj.yld Ra hy hyl
     refine ⟨φ3,h3,σa,x,σ3,R3,rst.mono x3 rsa,rx,hst,fun σc3 rs3=>?_⟩
     obtain ⟨⟨t,h4⟩,e4,ec⟩:=Res.bind_inv ec
     refine ⟨φ3,h3,σ3,t,h4,R3,rs3,e4,fun φ4 H4 x4 R4=>?_⟩
     dsimp only at ec
     cases t with
     | true=>
      rw [if_pos rfl] at ec ⊢
      obtain ⟨⟨y,h5⟩,e5,ec⟩:=Res.bind_inv ec
      refine ⟨φ4,h4,σ3,y,h5,R4,rst.mono x4 rs3,e5,fun φ5 H5 yc x5 R5 r5=>?_⟩
      dsimp only at ec
      split at ec
      ·rename_i hc5
       have xx:Ext φ' φ5:=x3.trans (x4.trans x5)
       have hD5:=xx.get hDφ'
       obtain ⟨zs,hz,rz⟩:=R5.obj _ _ D hc5.1 hD5
       have ez:zs=ys:=qEA rz (rvs.mono xx rya)
       subst ez
       refine ⟨hz,by rw [<- Paired.length rz];exact Nat.lt_trans hc5.2 qG5,m,Nat.lt_succ_self _,φ5,_,σ3,_,x2.trans xx,R5.set hc5.1 hD5 (qAP rz (.cons r5 .nil)),rst.mono (x4.trans x5) rs3,qAP rz (.cons r5 .nil),?_,ec⟩
       rw [List.getElem?_set_self (List.getElem?_eq_some_iff.mp hc5.1).1]
      ·cases ec
     | false=>
      rw [if_neg (by decide)] at ec ⊢
      split at ec
      ·rename_i hc4
       have xx:Ext φ' φ4:=x3.trans x4
       have hD4:=xx.get hDφ'
       obtain ⟨zs,hz,rz⟩:=R4.obj _ _ D hc4 hD4
       have ez:zs=ys:=qEA rz (rvs.mono xx rya)
       subst ez
       exact ⟨hz,m,Nat.lt_succ_self _,φ4,_,σ3,_,x2.trans xx,R4,rst.mono x4 rs3,rz,hc4,ec⟩
      ·cases ec
    ·cases ec
   ·cases ec
 ·cases ee
end
end PI
namespace PI
open PySem PySem.Spec PyProof.Rows PySem.SeqAt
open L2 (V Hp HO Cx PE PT PA PS PSs PG PGs PW TE TT TA TS TG TGs VK upd qAI qAH SqL SqT qDx Inv RelV Vals EP TP AP SP OpR qAq R2 It qDu qDP Itl Itt qFc)
section
variable {X:Cx} {G:List Addr} {F:Nat -> List V -> AH -> RV} {a b c:E} {ea eb ec tg:Expr} {pos:Pos}
theorem qFL {iter elt:Expr} {ifs:List Expr} {scope:Scope} {N:List Str} {it:Itr} {src:List (Option Nat)} {g:Tg} {cs:Es} {e:E} (hc:X.calm=true) (hi:SI X G F tg iter it) (S:L2.CompScope X scope N src)
  (hg:∀ C fp s H,SG (L2.cxComp X scope C fp s H N) G tg g) (ht:∀ C fp s H,SC (L2.cxComp X scope C fp s H N) G F ifs cs) (he:∀ C fp s H,SE (L2.cxComp X scope C fp s H N) G F elt e)
  (hs:∀ x,foldedSetIterable iter X.env x=pure x):SE X G F (.ListComp elt [⟨tg,iter,ifs,0⟩] scope pos) (.comp it src g cs e):=
 qAf (L2.pe_comp hc hi S hg ht he hs) fun _ _ _=>qFO
noncomputable def Post (K:PySem.W.Frag) (G:List Addr) (D:qFc) (φ:List Addr) (o:Out) (h':AH):Prop:=∀ φ' H',Ext φ φ' -> Rl K G φ' h' H' -> match o with
 | .nx σ=>∀ σc,rst φ' σ σc -> D.nx σc H'
 | .rt v=>∀ w,rv φ' v w -> D.rt w H'
 | .bk σ=>∀ σc,rst φ' σ σc -> D.bk σc H'
 | .ct σ=>∀ σc,rst φ' σ σc -> D.ct σc H'
theorem Post.mono {K:PySem.W.Frag} {D:qFc} {φ φ1:List Addr} {o:Out} {h':AH} (x:Ext φ φ1) (p:Post K G D φ o h'):Post K G D φ1 o h':=fun φ' H' x' R=>p φ' H' (x.trans x') R
noncomputable def tS (K:PySem.W.Frag) (G:List Addr) (r:St -> AH -> RS):TS:=fun D σc H=>∃ φ h σ o h',Rl K G φ h H/\rst φ σ σc/\r σ h=.ok (o,h')/\Post K G D φ o h'
variable (X G F) in
noncomputable abbrev SS (st:Stmt) (s:S):Prop:=PS X st (tS X.K G (ex F s))
variable (X G F) in
noncomputable abbrev SSs (st:List Stmt) (s:Ss):Prop:=PSs X st (tS X.K G (exs F s))
theorem qCb {e:Stmt} {t t':TS} (h:PS X e t) (w:∀ D σ H,t' D σ H -> t D σ H):PS X e t':=fun pins s σ H D I q=>h pins s σ H D I (w D σ H q)
theorem qG7 {e:List Stmt} {t t':TS} (h:PSs X e t) (w:∀ D σ H,t' D σ H -> t D σ H):PSs X e t':=fun pins s σ H D I q=>h pins s σ H D I (w D σ H q)
theorem qAU {st:Stmt}:SS X G F st .stop:=by
 intro pins s σ H D I q
 obtain ⟨φ,h,σa,o,h',R,rs,e,k⟩:=q
 unfold ex at e
 cases e
noncomputable def qBx:Expr -> Bool
 | .ListComp ..=>false
 | .SetComp ..=>false
 | .DictComp ..=>false
 | _=>true
noncomputable def qJG:Expr -> Bool
 | .Tuple ..=>false
 | _=>true
theorem qCc {e:Expr} {t:Option Expr} {l:Nat} {env:Env} (h:qBx e=true):swapsWith e t l env=pure false:=by
 cases e<;>first | rfl | cases h
theorem qBP {e t:Expr} {l:Nat} {env:Env} (h:qBx e=true):swapsWithSole [t] e l env=pure false:=qCc h
theorem qII {K:PySem.W.Frag} {σ:St} {H:Hp} {Q Q':VK} (q:tE K G F a σ H Q) (w:∀ v H,Q v H -> Q' v H):tE K G F a σ H Q':=by
 obtain ⟨φ,h,σa,v,h',R,rs,e,k⟩:=q
 exact ⟨φ,h,σa,v,h',R,rs,e,fun φ' H' u x' R' r'=>w u H' (k φ' H' u x' R' r')⟩
theorem qEg {g:Tg} {D:qFc} {σc:St} {H:Hp} (q:tS X.K G (ex F (.asg g a)) D σc H):L2.tAsg (tE X.K G F a) (tG X.K G g) D σc H:=by
 obtain ⟨φ,h,σ,o,h',R,rs,e,k⟩:=q
 unfold ex at e
 obtain ⟨⟨x,h1⟩,e1,e⟩:=Res.bind_inv e
 dsimp only at e
 split at e
 ·rename_i σ1 es
  cases e
  exact ⟨φ,h,σ,x,_,R,rs,e1,fun φ1 H1 w x1 R1 r1=>⟨φ1,_,σ,x,σ1,R1,rst.mono x1 rs,r1,es,fun σc' rs'=>k φ1 H1 x1 R1 σc' rs'⟩⟩
 ·cases e
theorem qJW {is:List Nat} {es:List Expr} {kk:Nat} {p:Pos} (hg:SG X G (.Tuple es kk p) (.tup is)) (ha:SE X G F ea a) (hc:qBx ea=true) (ht:qJG ea=true):
  SS X G F (.Assign [.Tuple es kk p] ea pos) (.asg (.tup is) a):=
 qCb (L2.ps_asg ha hg (qBP hc) (by cases ea<;>first | rfl | cases ht) rfl) fun _ _ _=>qEg
theorem qI9 {i j:Nat} {x y:Str} {ea eb:Expr} {a b:E} {px py pt pt2:Pos} {kt k2:Nat} (hc:X.calm=true) (hN:X.N.Nodup) (hi:X.N[i]?=some x) (hj:X.N[j]?=some y) (hij:i≠j)
  (hx:X.env.scope.names.lookup x=some .local) (hy:X.env.scope.names.lookup y=some .local) (h:SA X G F [ea,eb] (.cons a (.cons b .nil)))
  (hw:swappedStores [.Tuple [.Name x px,.Name y py] kt pt] (.Tuple [ea,eb] k2 pt2) X.env=pure (some [x,y])):
  SS X G F (.Assign [.Tuple [.Name x px,.Name y py] kt pt] (.Tuple [ea,eb] k2 pt2) pos) (.par i j a b):=by
 refine qCb (L2.ps_par hc hN hi hj hij hx hy h hw (qBP rfl)) fun D σc H q=>?_
 obtain ⟨φ,h,σ,o,h',R,rs,e,k⟩:=q
 unfold ex at e
 obtain ⟨⟨x1,h1⟩,e1,e⟩:=Res.bind_inv e
 obtain ⟨⟨y1,h2⟩,e2,e⟩:=Res.bind_inv e
 cases e
 refine ⟨φ,h,σ,[x1,y1],h',R,rs,?_,fun φ1 H1 ws xx R1 r1=>?_⟩
 ·unfold evs evs evs
  rw [e1]
  show ((ev F b σ h1).bind fun p=>Res.ok ([p.1],p.2)).bind _=_
  rw [e2];rfl
 ·cases r1 with
  | cons p q=>
   cases q with
   | cons p' q'=>
    cases q'
    have rs1:=qAj (R:=ropt φ1) (show ropt φ1 (some x1) (some _) from ⟨_,rfl,p⟩) i (rst.mono xx rs)
    exact ⟨_,_,rfl,k φ1 H1 xx R1 _ (qAj (R:=ropt φ1) (show ropt φ1 (some y1) (some _) from ⟨_,rfl,p'⟩) j rs1)⟩
theorem qHs {ea eb:Expr} (f:Expr -> Bool) (hf:∀ e,qAF e=true -> f e=false) (h1:qAF ea=true) (h2:qAF eb=true):[ea,eb].any f=false:=by
 simp [hf _ h1,hf _ h2]
theorem qD7 {x y:Str} {ea eb:Expr} {px py pt pt2:Pos} {kt k2:Nat} {env:Env} (hb:env.blockKind=.function) (hx:env.scope.names.lookup x=some .local) (hy:env.scope.names.lookup y=some .local) (hl:py.line=px.line) (hxy:x≠y)
  (h1:qAF ea=true) (h2:qAF eb=true) (hf:[ea,eb].all (foldedForSure 8)=false) (hk:[ea,eb].all (constantsAlone 8)=false):
  swappedStores [.Tuple [.Name x px,.Name y py] kt pt] (.Tuple [ea,eb] k2 pt2) env=pure (some [x,y]):=by
 have hd:[x,y].eraseDups.length=2:=by
  have:(y==x)=false:=by simpa using fun e=>hxy e.symm
  simp [List.eraseDups_cons,this]
 have kx:env.kindOf x=some .local:=hx
 have ky:env.kindOf y=some .local:=hy
 unfold swappedStores
 show (if (!((2:Nat)==2||(2:Nat)==3)||(2:Nat) != 2||env.blockKind != .function)=true then _ else _)=_
 rw [hb,if_neg (by decide),qHs _ (fun e he=>by cases e<;>first | rfl | cases he) h1 h2,if_neg (by decide)]
 have fm:∀ f:Expr -> Option Str,f (.Name x px)=some x -> f (.Name y py)=some y -> [Expr.Name x px,.Name y py].filterMap f=[x,y]:=fun f a b=>by simp [a,b]
 dsimp (config:={ zeta:=true }) only
 rw [fm _ (by simp [kx,Expr.pos]) (by simp [ky,hl,Expr.pos]),hd,hf,hk]
 rfl
theorem qHx {iter elt:Expr} {ifs:List Expr} {scope:Scope} {N:List Str} {it:Itr} {src:List (Option Nat)} {g:Tg} {cs:Es} {e:E} {i:Nat} {n:Str} {p cpos:Pos} (hc:X.calm=true) (hi:SI X G F tg iter it) (S:L2.CompScope X scope N src)
  (hg:∀ C fp s H,SG (L2.cxComp X scope C fp s H N) G tg g) (ht:∀ C fp s H,SC (L2.cxComp X scope C fp s H N) G F ifs cs) (he:∀ C fp s H,SE (L2.cxComp X scope C fp s H N) G F elt e)
  (hs:∀ x,foldedSetIterable iter X.env x=pure x) (hN:X.N.Nodup) (hn:X.N[i]?=some n) (hx:L2.Loc X.env.scope n) (hf:X.fn n=true\/X.env.scope.names.lookup n=some .local):
  SS X G F (.Assign [.Name n p] (.ListComp elt [⟨tg,iter,ifs,0⟩] scope cpos) pos) (.asg (.name i) (.comp it src g cs e)):=by
 have hsw:swapsWith (.ListComp elt [⟨tg,iter,ifs,0⟩] scope cpos) (some (.Name n p)) pos.line X.env=pure (X.env.blockKind==.function&&X.env.kindOf n==some .local&&p.line==(Expr.ListComp elt [⟨tg,iter,ifs,0⟩] scope cpos).pos.line
   && !(scope.names.any fun (m,k)=>m==n&&(k==.local||k==.cell))):=rfl
 generalize hb:(X.env.blockKind==.function&&X.env.kindOf n==some .local&&p.line==(Expr.ListComp elt [⟨tg,iter,ifs,0⟩] scope cpos).pos.line
   && !(scope.names.any fun (m,k)=>m==n&&(k==.local||k==.cell)))=bb at hsw
 cases bb with
 | true=>
  have hl:X.env.scope.names.lookup n=some .local:=by
   simp only [Bool.and_eq_true] at hb
   have z:X.env.kindOf n=some .local:=by simpa using hb.1.1.2
   exact z
  refine qCb (L2.ps_setcomp (i:=i) (g:=tG X.K G g) (tc:=tB X.K G (evc F cs)) (te:=tE X.K G F e) hc hi S hg ht he hsw hN hn hl hs) fun D σc H q=>?_
  refine qFO (qII (qEg q) fun v H1 z=>?_)
  obtain ⟨φ,h,σ,w,σ',R,rs,r,es,k⟩:=z
  unfold store at es
  cases es
  exact k _ (qAj (R:=ropt φ) (show ropt φ (some w) (some v) from ⟨v,rfl,r⟩) i rs)
 | false=>exact qCb (L2.ps_asg (qFL hc hi S hg ht he hs) (qFE hN hn hx hf) hsw rfl rfl) fun _ _ _=>qEg
noncomputable def qKQ:L2.TSet:=fun o i v H Q=>L2.rSetL o i v H Q\/∃ p H',o=.ref p/\L2.DPut H p i v H'/\Q H'
theorem qHW (hu:X.A.units + 8 < cLine):L2.PSet X qKQ:=by
 intro pins s σ H o i v ov iv u Q I ro ri rv h
 rcases h with h | ⟨p,H',rfl,g,q⟩
 ·exact L2.set_list pins s σ H o i v ov iv u Q I ro ri rv h
 ·cases ro
  exact L2.d_setItem (by omega) I g ri rv fun s' I'=>⟨H',I',q⟩
theorem qIa (hu:X.A.units + 8 < cLine) {eo ei:Expr} {o i:E} {p:Pos} (ho:SE X G F eo o) (hi:SE X G F ei i) (ha:SE X G F ea a) (hc:qBx ea=true) (hsl:qCQ ei=true):SS X G F (.Assign [.Subscript eo ei p] ea pos) (.put o i a):=by
 refine qCb (L2.ps_asg ha (L2.pg_sub ho hi (qHW hu) (fun v=>by cases ei<;>first | rfl | cases hsl)) (qBP hc) (by cases ea<;>rfl) rfl) fun D σc H q=>?_
 obtain ⟨φ,h,σ,out,h',R,rs,e,k⟩:=q
 unfold ex at e
 obtain ⟨⟨x,h1⟩,e1,e⟩:=Res.bind_inv e
 obtain ⟨⟨p1,h2⟩,e2,e⟩:=Res.bind_inv e
 obtain ⟨⟨k1,h3⟩,e3,e⟩:=Res.bind_inv e
 refine ⟨φ,h,σ,x,h1,R,rs,e1,fun φ1 H1 w x1 R1 r1=>?_⟩
 refine ⟨φ1,h1,σ,p1,h2,R1,rst.mono x1 rs,e2,fun φ2 H2 w2 x2 R2 r2=>?_⟩
 refine ⟨φ2,h2,σ,k1,h3,R2,rst.mono (x1.trans x2) rs,e3,fun φ3 H3 w3 x3 R3 r3=>?_⟩
 cases p1 with
 | ref q=>
  cases k1 with
  | int j=>
   dsimp only at e
   split at e
   ·rename_i xs ex1
    split at e
    ·rename_i jj ej
     cases e
     obtain ⟨q1,a',zs,ha',hH,rz⟩:=R3.mut ex1
     obtain ⟨a2,rfl,ha2⟩:=qAL (rv.mono x3 r2)
     rw [ha'] at ha2;cases ha2
     cases qAD r3
     refine .inl ⟨_,zs,j,jj,rfl,rfl,hH,by rw [<- Paired.length rz];exact ej,?_⟩
     have xx:Ext φ φ3:=x1.trans (x2.trans x3)
     exact k φ3 _ xx (R3.set q1 ha' (qAj (rv.mono (x2.trans x3) r1) jj rz)) σc (rst.mono xx rs)
    ·cases e
   ·split at e
    ·rename_i kvs ed
     split at e
     ·rename_i hf
      cases e
      obtain ⟨a',ea,eh,hH⟩:=R3.dct ed
      obtain ⟨a2,rfl,ha2⟩:=qAL (rv.mono x3 r2)
      rw [ea] at ha2;cases ha2
      cases qAD r3
      have hl:(kvs.map kk).length < sizeLine:=by rw [List.length_map];exact Nat.lt_of_lt_of_le hf.2 qBu
      have xx:Ext φ φ3:=x1.trans (x2.trans x3)
      have fw:=qD1 hf.1 r1
      subst fw
      refine .inr ⟨_,_,rfl,L2.DPut.k (k:=.inl j) hH hl,?_⟩
      rw [qHp]
      exact k φ3 _ xx (R3.write rfl rfl eh ea qAI) σc (rst.mono xx rs)
     ·cases e
    ·cases e
  | _=>cases e
 | _=>cases e
theorem qHz (ha:SE X G F ea a) (hc:qBx ea=true):SS X G F (.Expr ea pos) (.expr a):=by
 refine qCb (L2.ps_expr ha (qCc hc)) fun D σc H q=>?_
 obtain ⟨φ,h,σ,out,h',R,rs,e,k⟩:=q
 unfold ex at e
 obtain ⟨⟨x,h1⟩,e1,e⟩:=Res.bind_inv e
 cases e
 exact ⟨φ,h,σ,x,_,R,rs,e1,fun φ1 H1 w x1 R1 r1=>k φ1 H1 x1 R1 σc (rst.mono x1 rs)⟩
theorem qJt (ha:SE X G F ea a):SS X G F (.Return (some ea) pos) (.ret a):=by
 refine qCb (L2.ps_ret ha) fun D σc H q=>?_
 obtain ⟨φ,h,σ,out,h',R,rs,e,k⟩:=q
 unfold ex at e
 obtain ⟨⟨x,h1⟩,e1,e⟩:=Res.bind_inv e
 cases e
 exact ⟨φ,h,σ,x,_,R,rs,e1,fun φ1 H1 w x1 R1 r1=>k φ1 H1 x1 R1 w r1⟩
theorem qIS:SSs X G F [] .nil:=by
 refine qG7 L2.pss_nil fun D σc H q=>?_
 obtain ⟨φ,h,σ,out,h',R,rs,e,k⟩:=q
 unfold exs at e
 cases e
 exact k φ H (.refl _) R σc rs
theorem qGu {st:Stmt} {sts:List Stmt} {s:S} {ss:Ss} (h1:SS X G F st s) (h2:SSs X G F sts ss):SSs X G F (st::sts) (.cons s ss):=by
 refine qG7 (L2.pss_cons h1 h2) fun D σc H q=>?_
 obtain ⟨φ,h,σ,out,h',R,rs,e,k⟩:=q
 unfold exs at e
 obtain ⟨⟨o,h1⟩,e1,e⟩:=Res.bind_inv e
 refine ⟨φ,h,σ,o,h1,R,rs,e1,fun φ1 H1 x1 R1=>?_⟩
 cases o with
 | nx σ1=>exact fun σc1 rs1=>⟨φ1,h1,σ1,out,h',R1,rs1,e,k.mono x1⟩
 | rt v=>cases e;exact k φ1 H1 x1 R1
 | bk σ1=>cases e;exact k φ1 H1 x1 R1
 | ct σ1=>cases e;exact k φ1 H1 x1 R1
theorem qJB {t u:List Stmt} {st su:Ss} (hc:ST X G F ec c) (ht:SSs X G F t st) (hu:SSs X G F u su):SS X G F (.If ec t u pos) (.ifs c st su):=by
 refine qCb (L2.ps_if hc ht hu) fun D σc H q=>?_
 obtain ⟨φ,h,σ,out,h',R,rs,e,k⟩:=q
 unfold ex at e
 obtain ⟨⟨x,h1⟩,e1,e⟩:=Res.bind_inv e
 refine ⟨φ,h,σ,x,h1,R,rs,e1,fun φ1 H1 x1 R1=>?_⟩
 dsimp only at e
 cases x with
 | true=>
  rw [if_pos rfl] at e ⊢
  exact ⟨φ1,h1,σ,out,h',R1,rst.mono x1 rs,e,k.mono x1⟩
 | false=>
  rw [if_neg (by decide)] at e ⊢
  exact ⟨φ1,h1,σ,out,h',R1,rst.mono x1 rs,e,k.mono x1⟩
theorem qJj {iter:Expr} {body:List Stmt} {it:Itr} {g:Tg} {sb:Ss} (hx:X.xe=fun _ _=>False) (hc:X.calm=true) (hi:SI X G F tg iter it) (hg:SG X G tg g) (hb:SSs X G F body sb)
  (hs:∀ x,foldedSetIterable iter X.env x=pure x):SS X G F (.For tg iter body [] pos) (.for_ g it sb):=by
 refine qCb (L2.ps_for (by rw [hx];exact PassesOwn.never) hc hi hg hb hs) fun D σc H q=>?_
 obtain ⟨φ,h,σ,out,h',R,rs,e,k⟩:=q
 unfold ex at e
 obtain ⟨⟨s,h1⟩,e1,e⟩:=Res.bind_inv e
 refine ⟨φ,h,σ,s,h1,R,rs,e1,fun φ1 H1 J x1 R1 j1=>?_⟩
 dsimp only at e
 split at e
 ·rename_i n hn
  refine ⟨fun i m σ' H'=>∃ φ' h2 σa,Ext φ1 φ'/\Rl X.K G φ' h2 H'/\rst φ' σa σ'/\qGO s g (exs F sb) m i σa h2=.ok (out,h'),⟨n,φ1,h1,σ,.refl _,R1,rst.mono x1 rs,e⟩,?_⟩
  rintro i m σ' H' ⟨φ',h2,σa,x2,Ra,rsa,ef⟩
  have jj:IsJ X.K φ' s J:=j1.mono x2
  cases m with
  | zero=>
   unfold qGO at ef
   split at ef
   ·rename_i hst
    cases ef
    exact .inl ⟨jj.stop Ra hst,k φ' H' (x1.trans x2) Ra σ' rsa⟩
   ·cases ef
  | succ m=>
   unfold qGO at ef
   split at ef
   ·rename_i x h3 hy
    split at ef
    ·rename_i σ3 hst
     refine .inr ⟨jj.go Ra hy,fun σ' H'=>∃ φ' h2 σa,Ext φ1 φ'/\Rl X.K G φ' h2 H'/\rst φ' σa σ'/\qGO s g (exs F sb) m (i + 1) σa h2=.ok (out,h'),fun σ2 H2 w=>⟨m,Nat.lt_succ_self _,w⟩,fun xv H2 hyl=>?_⟩
     obtain ⟨φ3,x3,R3,rx⟩:=jj.yld Ra hy hyl
     refine ⟨φ3,h3,σa,x,σ3,R3,rst.mono x3 rsa,rx,hst,fun σc3 rs3=>?_⟩
     obtain ⟨⟨o,h4⟩,e4,ef⟩:=Res.bind_inv ef
     refine ⟨φ3,h3,σ3,o,h4,R3,rs3,e4,fun φ4 H4 x4 R4=>?_⟩
     dsimp only at ef
     cases o with
     | nx σ4=>exact fun σc4 rs4=>⟨φ4,h4,σ4,x2.trans (x3.trans x4),R4,rs4,ef⟩
     | ct σ4=>exact fun σc4 rs4=>⟨φ4,h4,σ4,x2.trans (x3.trans x4),R4,rs4,ef⟩
     | bk σ4=>cases ef;exact k φ4 H4 (x1.trans (x2.trans (x3.trans x4))) R4
     | rt v=>cases ef;exact k φ4 H4 (x1.trans (x2.trans (x3.trans x4))) R4
    ·cases ef
   ·cases ef
 ·cases e
theorem qGj {body:List Stmt} {sb:Ss} (hx:X.xe=fun _ _=>False) (hc:ST X G F ec c) (hb:SSs X G F body sb):SS X G F (.While ec body [] pos) (.while_ c sb):=by
 refine qCb (L2.ps_while (by rw [hx];exact PassesOwn.never) hc hb) fun D σc H q=>?_
 obtain ⟨φ,h,σ,out,h',R,rs,e,k⟩:=q
 unfold ex at e
 refine ⟨fun m σ' H'=>∃ φ' h2 σa,Ext φ φ'/\Rl X.K G φ' h2 H'/\rst φ' σa σ'/\qBo (fun σ h=>asB (ev F c σ h)) (exs F sb) m σa h2=.ok (out,h'),⟨qJh,φ,h,σ,.refl _,R,rs,e⟩,?_⟩
 rintro m σ' H' ⟨φ',h2,σa,x2,Ra,rsa,ew⟩
 cases m with
 | zero=>unfold qBo at ew;cases ew
 | succ m=>
  unfold qBo at ew
  obtain ⟨⟨t,h3⟩,e3,ew⟩:=Res.bind_inv ew
  refine ⟨φ',h2,σa,t,h3,Ra,rsa,e3,fun φ3 H3 x3 R3=>?_⟩
  dsimp only at ew
  cases t with
  | true=>
   rw [if_pos rfl] at ew ⊢
   obtain ⟨⟨o,h4⟩,e4,ew⟩:=Res.bind_inv ew
   refine ⟨fun σ' H'=>∃ φ' h2 σa,Ext φ φ'/\Rl X.K G φ' h2 H'/\rst φ' σa σ'/\qBo (fun σ h=>asB (ev F c σ h)) (exs F sb) m σa h2=.ok (out,h'),fun σ2 H2 w=>⟨m,Nat.lt_succ_self _,w⟩,φ3,h3,σa,o,h4,R3,rst.mono x3 rsa,e4,fun φ4 H4 x4 R4=>?_⟩
   dsimp only at ew
   cases o with
   | nx σ4=>exact fun σc4 rs4=>⟨φ4,h4,σ4,x2.trans (x3.trans x4),R4,rs4,ew⟩
   | ct σ4=>exact fun σc4 rs4=>⟨φ4,h4,σ4,x2.trans (x3.trans x4),R4,rs4,ew⟩
   | bk σ4=>cases ew;exact k φ4 H4 (x2.trans (x3.trans x4)) R4
   | rt v=>cases ew;exact k φ4 H4 (x2.trans (x3.trans x4)) R4
  | false=>
   rw [if_neg (by decide)] at ew ⊢
   cases ew
   exact k φ3 H3 (x2.trans x3) R3 σ' (rst.mono x3 rsa)
end
end PI
namespace PI
open PySem PySem.Spec PyProof.Rows
open L2 (V)
structure Gam where
 N:List Str
 sc:Scope
 fns:List Str
 gl:List (Str×E)
 bl:List Str
 own:Str -> Bool
 cls:List Str:=[]
 xr:Bool:=false
noncomputable def slot (N:List Str) (x:Str):Option Nat:=(List.range N.length).find? fun i=>N[i]?==some x
theorem qBI {N:List Str} {x:Str} {i:Nat} (h:slot N x=some i):N[i]?=some x:=by
 unfold slot at h
 simpa using List.find?_some h
noncomputable def qKO (sc:Scope) (x:Str):Bool:=match sc.names.lookup x with | some .local=>true | some .cell=>true | some .free=>true | _=>false
theorem qHv {sc:Scope} {x:Str} (h:qKO sc x=true):L2.Vis sc x:=by
 unfold qKO at h
 unfold L2.Vis
 split at h<;>first | (rename_i e;simp [e]) | cases h
noncomputable def glB (sc:Scope) (x:Str):Bool:=sc.names.lookup x==some .globalImplicit
noncomputable def okN (x:Str):Bool:=!(x==("__debug__":Str))&&!(x==("__classdict__":Str))&&!decide (x="__name__")
noncomputable def qLN:Operator -> Option BOp
 | .Add=>some .add | .Sub=>some .sub | .Mult=>some .mul | .FloorDiv=>some .fdiv | .Mod=>some .mod | .Pow=>some .pow | _=>none
theorem qID {o:Operator} {b:BOp} (h:qLN o=some b):o=opB b:=by
 cases o<;>cases h<;>rfl
noncomputable def qCB:CmpOp -> COp
 | .Lt=>.lt | .LtE=>.le | .Gt=>.gt | .GtE=>.ge | .Eq=>.eq | .NotEq=>.ne | .In=>.inn | .NotIn=>.notin | .Is=>.is | .IsNot=>.isnot
theorem qB6 (o:CmpOp):o=opC (qCB o):=by cases o<;>rfl
noncomputable def qDG:Expr -> Bool
 | .Set ..=>false
 | _=>true
noncomputable def qEV:Expr -> Bool
 | .Call ..=>false
 | _=>true
noncomputable def bfL:List (Str×BF):=[("len",.len),("sum",.sum),("all",.all),("any",.any),("max",.max),("min",.min),("abs",.abs),("list",.list),("int",.int)]
noncomputable def qLp (x:Str):Option BF:=bfL.lookup x
theorem qCl {x:Str} {f:BF}:∀ {l:List (Str×BF)},l.lookup x=some f -> (x,f)∈l
 | [],h=>by cases h
 | (a,b)::l,h=>by
  rw [List.lookup_cons] at h
  split at h
  ·rename_i e
   cases h
   rw [eq_of_beq e]
   exact List.mem_cons_self ..
  ·exact List.mem_cons_of_mem _ (qCl h)
theorem qIZ:∀ p∈bfL,bootBuiltins p.1=some (fnB p.2):=
 List.forall_mem_cons.mpr ⟨PySem.boot_len,List.forall_mem_cons.mpr ⟨PyProof.Rows.boot_sum,List.forall_mem_cons.mpr ⟨PyProof.Rows.boot_all,List.forall_mem_cons.mpr ⟨PyProof.Rows.boot_any,List.forall_mem_cons.mpr ⟨PyProof.Rows.boot_max,List.forall_mem_cons.mpr ⟨PyProof.Rows.boot_min,List.forall_mem_cons.mpr ⟨PyProof.Rows.boot_abs,List.forall_mem_cons.mpr ⟨PyProof.Rows.boot_list,List.forall_mem_cons.mpr ⟨PyProof.Rows.boot_int,(fun _ h=>absurd h List.not_mem_nil)⟩⟩⟩⟩⟩⟩⟩⟩⟩
theorem qIN {x:Str} {f:BF} (h:qLp x=some f):bootBuiltins x=some (fnB f):=qIZ _ (qCl h)
noncomputable def qKL (x:Str):Option String:=
 if x="int" then some "int" else if x="bool" then some "bool" else if x="list" then some "list" else if x="tuple" then some "tuple" else if x="str" then some "str" else if x="dict" then some "dict" else none
theorem qIL {x:Str} {t:String} (h:qKL x=some t):bootBuiltins x=some (.type t)/\qDv t=true:=by
 unfold qKL at h
 repeat' split at h
 all_goals first | cases h | skip
 all_goals (rename_i hx;subst hx)
 ·exact ⟨PyProof.Rows.boot_int,by decide⟩
 ·exact ⟨PyProof.Rows.boot_bool,by decide⟩
 ·exact ⟨PyProof.Rows.boot_list,by decide⟩
 ·exact ⟨PyProof.Rows.boot_tuple,by decide⟩
 ·exact ⟨PyProof.Rows.boot_str,by decide⟩
 ·exact ⟨PyProof.Rows.boot_dict,by decide⟩
noncomputable def qJx (scope sc:Scope):Scope:=
 { scope with names:=scope.names.map fun (n,k)=>if (k==.free&&sc.kind==.function&&sc.names.lookup n==some .cell) then (n,.cell) else (n,k) }
noncomputable def qFs:Expr -> List Str
 | .Name x _=>[x]
 | .Tuple es _ _=>es.filterMap fun e:Expr=>match e with | .Name x _=>some x | _=>none
 | _=>[]
noncomputable def qIk (scope:Scope):List Str:=scope.names.filterMap fun y=>if y.2=.free then some y.1 else none
noncomputable def qDJ (Γ:Gam) (scope:Scope) (N:List Str) (src:List (Option Nat)):Bool:=
 decide (scope.kind=.function)&&scope.names.all (fun y=>decide (scope.names.lookup y.1=some y.2))
 && scope.names.all (fun y=>decide (y.2=.free -> (Γ.sc.names.lookup y.1=some .cell\/Γ.sc.names.lookup y.1=some .free)))&&decide N.Nodup&&decide (src.length=N.length)
 && (List.range N.length).all (fun i=>match N[i]?,src[i]? with | some x,some (some j)=>decide (Γ.N[j]?=some x/\scope.names.lookup x=some .free) | _,_=>true)
noncomputable def qEu (Γ:Gam) (x:Str):Bool:=match Γ.sc.names.lookup x with | some .local=>true | some .cell=>Γ.own x | _=>false
noncomputable def qKC (Γ:Gam):List Expr -> Option (List Nat)
 | []=>some []
 | .Name x _::r=>if qEu Γ x then (match slot Γ.N x,qKC Γ r with | some i,some is=>some (i::is) | _,_=>none) else none
 | _=>none
noncomputable def trT (Γ:Gam):Expr -> Option Tg
 | .Name x _=>if qEu Γ x then (slot Γ.N x).map .name else none
 | .Tuple es _ _=>(qKC Γ es).map .tup
 | _=>none
noncomputable def qKx:List Expr -> Bool
 | [.Call (.Name r _) [_] [] _]=>decide (r="range")
 | [.Call (.Name r _) [_,_] [] _]=>decide (r="range")
 | _=>false
mutual
noncomputable def trE:Nat -> Gam -> Expr -> Option E
 | 0,_,_=>none
 | n + 1,Γ,e=>match e with
  | .Constant c _ _=>(match c with
   | .int i=>some (.cst (.int i))
   | .bool i=>some (.cst (.bl i))
   | .none=>some (.cst .non)
   | .str i=>some (.cst (.str i))
   | _=>none)
  | .Name x _=>if okN x then (if qKO Γ.sc x then (slot Γ.N x).map .var else if glB Γ.sc x then Γ.gl.lookup x else none) else none
  | .BinOp a op b _=>match qLN op,trE n Γ a,trE n Γ b with | some o,some a',some b'=>some (.bin o a' b') | _,_,_=>none
  | .UnaryOp op a _=>(match op with
   | .USub=>(trE n Γ a).map .neg
   | .Not=>(trE n Γ a).map .not
   | _=>none)
  | .BoolOp op vs p=>trB n Γ op p vs
  | .IfExp c a b _=>match trE n Γ c,trE n Γ a,trE n Γ b with | some c',some a',some b'=>some (.ite c' a' b') | _,_,_=>none
  | .Compare a ops bs _=>(match ops,bs with
   | [op],[b]=>if qDG b then (match trE n Γ a,trE n Γ b with | some a',some b'=>some (.cmp (qCB op) a' b') | _,_=>none) else none
   | [o1,o2],[b,c]=>if qDG c then (match trE n Γ a,trE n Γ b,trE n Γ c with | some a',some b',some c'=>some (.cmp2 (qCB o1) (qCB o2) a' b' c') | _,_,_=>none) else none
   | [o1,o2,o3],[b,c,d]=>if qDG d then (match trE n Γ a,trE n Γ b,trE n Γ c,trE n Γ d with | some a',some b',some c',some d'=>some (.cmp3 (qCB o1) (qCB o2) (qCB o3) a' b' c' d') | _,_,_,_=>none) else none
   | _,_=>none)
  | .Call fn args kws cpos=>(match kws with
   | []=>(match fn with
    | .Name f _=>if okN f&&glB Γ.sc f&&args.all qAF then trC n Γ f args else none
    | .Attribute o m apos=>(match args with
     | [x]=>if m="append"/\qEV o=true/\qAF x=true/\(apos.endLine==cpos.line)=true then (match trE n Γ o,trE n Γ x with | some o',some x'=>some (.app o' x') | _,_=>none)
   else if m="pop"/\qEV o=true/\qAF x=true/\(apos.endLine==cpos.line)=true then (match trE n Γ o,trE n Γ x with | some o',some x'=>some (.meth .popAt o' (.cons x' .nil)) | _,_=>none) else none
     | []=>if m="bit_length" then (if qEV o=true/\(apos.endLine==cpos.line)=true then (trE n Γ o).map (fun o'=>.blt .bits (.cons o' .nil)) else none) else none
     | _=>none)
    | _=>none)
   | _=>none)
  | .Subscript a b _=>(match b with
   | .Slice lo hi st _=>(match st with
    | none=>(match trE n Γ a,trO n Γ lo,trO n Γ hi with | some a',some l,some h=>some (.sl a' l h) | _,_,_=>none)
    | some _=>none)
   | b=>if qCQ b then (match trE n Γ a,trE n Γ b with | some a',some b'=>some (.idx a' b') | _,_=>none) else none)
  | .List es _=>if es.all qAF then (trA n Γ es).map .lst else none
  | .Tuple es _ _=>if es.all qAF then (trA n Γ es).map .tup else none
  | .Dict ks vs _=>(match ks,vs with | [],[]=>some .dnew | _,_=>none)
  | .ListComp elt gens scope _=>(match gens with
   | [gen]=>(match gen with
    | ⟨tg,iter,ifs,asy⟩=>(match asy with
     | 0=>
      let N:=qFs tg++qIk scope
      let src:=(qFs tg).map (fun _=>none)++(qIk scope).map (slot Γ.N)
      let Γ':Gam:={ Γ with N:=N,sc:=qJx scope Γ.sc,own:=fun x=>decide (scope.names.lookup x=some .cell) }
      if qDJ Γ scope N src&&qDG iter then (match trI n Γ tg iter,trT Γ' tg,qIX n Γ' ifs,trE n Γ' elt with | some it,some g,some c,some e'=>some (.comp it src g c e') | _,_,_,_=>none) else none
     | _=>none))
   | _=>none)
  | _=>none
noncomputable def trA:Nat -> Gam -> List Expr -> Option Es
 | 0,_,_=>none
 | _ + 1,_,[]=>some .nil
 | n + 1,Γ,e::es=>match trE n Γ e,trA n Γ es with | some a,some as=>some (.cons a as) | _,_=>none
noncomputable def trB:Nat -> Gam -> BoolOp -> Pos -> List Expr -> Option E
 | 0,_,_,_,_=>none
 | _ + 1,_,_,_,[]=>none
 | n + 1,Γ,_,_,[a]=>trE n Γ a
 | n + 1,Γ,op,p,a::b::r=>match trE n Γ a,trB n Γ op p (b::r) with | some a',some b'=>some (match op with | .And=>.and a' b' | .Or=>.or a' b') | _,_=>none
noncomputable def trC:Nat -> Gam -> Str -> List Expr -> Option E
 | 0,_,_,_=>none
 | n + 1,Γ,f,args=>match slot Γ.fns f with
  | some i=>(trA n Γ args).map (.call i)
  | none=>if Γ.bl.contains f then
    (if f="isinstance" then (match args with
     | [a,.Name t _]=>if okN t&&glB Γ.sc t&&Γ.bl.contains t then (match trE n Γ a,qKL t with | some a',some t'=>some (.isi a' [t']) | _,_=>none) else none
     | _=>none)
    else if f="list"/\qKx args=true then (match args with
     | [.Call (.Name r _) [a] [] _]=>if okN r&&glB Γ.sc r&&Γ.bl.contains r&&qAF a&&decide (r="range") then (trE n Γ a).map .lrng else none
     | [.Call (.Name r _) [a,b] [] _]=>if okN r&&glB Γ.sc r&&Γ.bl.contains r&&qAF a&&decide (r="range")&&qAF b then (match trE n Γ a,trE n Γ b with | some a',some b'=>some (.lrng2 a' b') | _,_=>none) else none
     | _=>none)
    else match qLp f,args with
     | some b,_::_=>(trA n Γ args).map (.blt b)
     | _,_=>none)
   else none
noncomputable def trO:Nat -> Gam -> Option Expr -> Option Es
 | 0,_,_=>none
 | _ + 1,_,none=>some .nil
 | n + 1,Γ,some e=>(trE n Γ e).map fun a=>.cons a .nil
noncomputable def qIX:Nat -> Gam -> List Expr -> Option Es
 | 0,_,_=>none
 | _ + 1,_,[]=>some .nil
 | n + 1,Γ,[c]=>(trE n Γ c).map fun a=>.cons a .nil
 | _,_,_=>none
noncomputable def trI:Nat -> Gam -> Expr -> Expr -> Option Itr
 | 0,_,_,_=>none
 | n + 1,Γ,tg,iter=>match iter with
  | .Call (.Name f _) args [] _=>
   if f="range" then (if glB Γ.sc f&&Γ.bl.contains f&&args.all qAF then (match args with
    | [a]=>(trE n Γ a).map .rng1
    | [a,b]=>match trE n Γ a,trE n Γ b with | some a',some b'=>some (.rng2 a' b') | _,_=>none
    | _=>none) else none)
   else if f="zip" then (if glB Γ.sc f&&Γ.bl.contains f&&args.all qAF then (match tg,args with
    | .Tuple ..,[a,b]=>match trE n Γ a,trE n Γ b with | some a',some b'=>some (.zip a' b') | _,_=>none
    | .Tuple ..,[a,b,c]=>match trE n Γ a,trE n Γ b,trE n Γ c with | some a',some b',some c'=>some (.zip3 a' b' c') | _,_,_=>none
    | _,_=>none) else none)
   else if f="enumerate" then (if glB Γ.sc f&&Γ.bl.contains f&&args.all qAF then (match tg,args with
    | .Tuple ..,[a]=>(trE n Γ a).map .enum
    | _,_=>none) else none)
   else if f="reversed" then (if glB Γ.sc f&&Γ.bl.contains f&&args.all qAF then (match args with
    | [.Call (.Name r p1) [a] [] p2]=>if r="range" then (if okN r&&glB Γ.sc r&&Γ.bl.contains r&&qAF a then (trE n Γ a).map .rvr else none) else (trE n Γ (.Call (.Name r p1) [a] [] p2)).map .revd
    | [a]=>(trE n Γ a).map .revd
    | _=>none) else none)
   else (trE n Γ iter).map .list
  | _=>(trE n Γ iter).map .list
end
noncomputable def qLZ (Γ:Gam) (x y:Str) (px py:Pos) (va vb:Expr):Bool:=
 (if Γ.sc.kind.isAnnotationScope then ScopeKind.function else Γ.sc.kind)==.function&&Γ.sc.names.lookup x==some .local&&Γ.sc.names.lookup y==some .local&&decide (py.line=px.line)&&qAF va&&qAF vb&&!([va,vb].all (foldedForSure 8))&&!([va,vb].all (constantsAlone 8))&&decide (x≠y)
mutual
noncomputable def trS:Nat -> Gam -> Stmt -> S
 | 0,_,_=>.stop
 | n + 1,Γ,st=>match st with
  | .Assign ts v _=>(match ts with
   | [tgt]=>(match tgt with
    | .Name x _=>(match trT Γ (.Name x ⟨0,0,0,0⟩),trE 60 Γ v with | some g,some a=>.asg g a | _,_=>.stop)
    | .Tuple es k p=>(match es,v with
     | [.Name x px,.Name y py],.Tuple [va,vb] _ _=>if qLZ Γ x y px py va vb then (match slot Γ.N x,slot Γ.N y,trE 60 Γ va,trE 60 Γ vb with | some i,some j,some a,some b=>if i=j then .stop else .par i j a b | _,_,_,_=>.stop) else .stop
     | es,v=>if qBx v&&qJG v then (match trT Γ (.Tuple es k p),trE 60 Γ v with | some g,some a=>.asg g a | _,_=>.stop) else .stop)
    | .Subscript o i _=>if qBx v&&qCQ i then (match trE 60 Γ o,trE 60 Γ i,trE 60 Γ v with | some o',some i',some v'=>.put o' i' v' | _,_,_=>.stop) else .stop
    | _=>.stop)
   | _=>.stop)
  | .Expr e _=>if qBx e then (match trE 60 Γ e with | some a=>.expr a | none=>.stop) else .stop
  | .Return r _=>(match r with
   | some e=>(match trE 60 Γ e with | some a=>.ret a | none=>.stop)
   | none=>.stop)
  | .If c t u _=>match trE 60 Γ c with | some c'=>.ifs c' (qFB n Γ t) (qFB n Γ u) | none=>.stop
  | .For tg iter b els _=>(match els with
   | []=>if qDG iter then (match trI 60 Γ tg iter,trT Γ tg with | some it,some g=>.for_ g it (qFB n Γ b) | _,_=>.stop) else .stop
   | _=>.stop)
  | .While c b els _=>(match els with
   | []=>(match trE 60 Γ c with | some c'=>.while_ c' (qFB n Γ b) | none=>.stop)
   | _=>.stop)
  | _=>.stop
noncomputable def qFB:Nat -> Gam -> List Stmt -> Ss
 | 0,_,_=>.cons .stop .nil
 | _ + 1,_,[]=>.nil
 | n + 1,Γ,s::r=>.cons (trS n Γ s) (qFB n Γ r)
end
end PI
namespace PI
open PySem PySem.Spec PyProof.Rows PySem.SeqAt
open L2 (V Hp HO Cx PE PT PA PS PSs PG PGs PW RelV)
structure Fit (Γ:Gam) (X:Cx) (G:List Addr) (F:Nat -> List V -> AH -> RV):Prop where
 hN:X.N=Γ.N
 nd:Γ.N.Nodup
 sc:X.env.scope=Γ.sc
 calm:X.calm=true
 fn:∀ x,Γ.own x=true -> X.fn x=true
 fns:∀ (f:Nat) x,Γ.fns[f]?=some x -> FnS X G F f x
 gls:∀ x e,Γ.gl.lookup x=some e -> (∃ v u,e=.cst v/\X.mg x=some u/\RelV v u/\∀ φ,rv φ v v)\/(∃ g a,e=.glob g/\X.mg x=some (.ref a)/\G[g]?=some a)
 blt:∀ x,Γ.bl.contains x=true -> X.mg x=none
 hu:X.A.units + 8 < cLine
 gd:X.A.guards=some []
 gtu:∀ a∈G,∃ o,X.K.lookup a=some o/\o.cls=.type "tuple"/\o.dict=none
section
variable {Γ:Gam} {X:Cx} {G:List Addr} {F:Nat -> List V -> AH -> RV}
theorem qGD {x:Str} (h:okN x=true):(x==("__debug__":Str))=false/\(x==("__classdict__":Str))=false/\x≠"__name__":=by
 unfold okN at h
 simp only [Bool.and_eq_true,Bool.not_eq_true',decide_eq_false_iff_not] at h
 exact ⟨h.1.1,h.1.2,h.2⟩
theorem Fit.gl' (f:Fit Γ X G F) {x:Str} (h:glB Γ.sc x=true):L2.Gl X x:=by
 unfold L2.Gl Env.kindOf
 rw [f.sc]
 simpa [glB] using h
theorem Fit.store (f:Fit Γ X G F) {x:Str} (h:qEu Γ x=true):L2.Loc X.env.scope x/\(X.fn x=true\/X.env.scope.names.lookup x=some .local):=by
 rw [f.sc]
 unfold qEu at h
 unfold L2.Loc
 split at h
 ·rename_i e;exact ⟨.inl e,.inr e⟩
 ·rename_i e;exact ⟨.inr e,.inl (f.fn x h)⟩
 ·cases h
theorem qG3 (f:Fit Γ X G F):∀ {es:List Expr} {is:List Nat},qKC Γ es=some is -> PGs X es (tGs is)/\(assignEach es X.env).length=is.length/\(assignEach es X.env).findIdx? (·.1)=none
 | [],is,h=>by
  cases h
  exact ⟨qHV,rfl,rfl⟩
 | e::es,is,h=>by
  unfold qKC at h
  split at h
  ·rename_i e1;cases e1
  ·rename_i x p r e1
   cases e1
   split at h
   ·rename_i hs
    split at h
    ·rename_i i is' ei eis
     cases h
     obtain ⟨h1,h2⟩:=f.store hs
     obtain ⟨g1,g2,g3⟩:=qG3 f eis
     refine ⟨qGr (by rw [f.hN];exact f.nd) (by rw [f.hN];exact qBI ei) h1 h2 g1,?_,?_⟩
     ·show (assignEach es X.env).length + 1=_
      rw [g2];rfl
     ·show (((false,assign (.Name x p) X.env)::assignEach es X.env).findIdx? (·.1))=none
      rw [List.findIdx?_cons,g3]
      rfl
    ·cases h
   ·cases h
  ·cases h
theorem qFV (f:Fit Γ X G F) {tg:Expr} {g:Tg} (h:trT Γ tg=some g):SG X G tg g:=by
 unfold trT at h
 split at h
 ·rename_i x p
  split at h
  ·rename_i hs
   obtain ⟨i,ei,rfl⟩:=Option.map_eq_some_iff.mp h
   obtain ⟨h1,h2⟩:=f.store hs
   exact qFE (by rw [f.hN];exact f.nd) (by rw [f.hN];exact qBI ei) h1 h2
  ·cases h
 ·obtain ⟨is,ei,rfl⟩:=Option.map_eq_some_iff.mp h
  obtain ⟨g1,g2,g3⟩:=qG3 f ei
  exact qJY f.calm g1 g2 g3
 ·cases h
theorem qEh {op:CmpOp} {e:Expr} (h:qDG e=true):behindInMarks op e=false:=by
 cases e<;>first | rfl | cases h
theorem qFT {o1 o2:CmpOp} {b c:Expr} (h:qDG c=true):lastMarks [o1,o2] [b,c]=false:=by
 show behindInMarks o2 c=false
 exact qEh h
theorem qF8 {o1 o2 o3:CmpOp} {b c d:Expr} (h:qDG d=true):lastMarks [o1,o2,o3] [b,c,d]=false:=by
 show behindInMarks o3 d=false
 exact qEh h
theorem qFe {iter:Expr} {env:Env} (h:qDG iter=true):∀ x,foldedSetIterable iter env x=pure x:=by
 intro x
 cases iter<;>first | rfl | cases h
theorem qFK {o:Expr} {n:Str} {env:Env} {w:Sem Value} (h:qEV o=true):attributeBase o n env w=w:=by
 cases o<;>first | rfl | cases h
theorem qB3 (f:Fit Γ X G F) {scope:Scope} {N:List Str} {src:List (Option Nat)} (h:qDJ Γ scope N src=true):L2.CompScope X scope N src:=by
 unfold qDJ at h
 simp only [Bool.and_eq_true,List.all_eq_true,decide_eq_true_eq] at h
 obtain ⟨⟨⟨⟨⟨h1,h2⟩,h4⟩,h5⟩,h6⟩,h7⟩:=h
 refine ⟨h1,h2,fun y hy hk=>?_,h5,h6,fun i x j e1 e2=>?_⟩
 ·unfold Env.kindOf
  rw [f.sc]
  exact h4 y hy hk
 ·have hi:i < N.length:=(List.getElem?_eq_some_iff.mp e1).1
  have:=h7 i (List.mem_range.mpr hi)
  rw [e1,e2] at this
  rw [f.hN]
  simpa using this
theorem qBR (f:Fit Γ X G F) {scope:Scope} {N:List Str} {src:List (Option Nat)} (h:qDJ Γ scope N src=true) (C:Addr) (fp:List Addr) (s:Shared) (H:Hp):
  Fit { Γ with N:=N,sc:=qJx scope Γ.sc,own:=fun x=>decide (scope.names.lookup x=some .cell) } (L2.cxComp X scope C fp s H N) G F:=by
 have S:=qB3 f h
 refine ⟨rfl,S.nd,?_,f.calm,fun x z=>z,fun g x e=>?_,f.gls,f.blt,f.hu,f.gd,f.gtu⟩
 ·show relabel scope X.env=qJx scope Γ.sc
  unfold relabel qJx Env.kindOf
  rw [f.sc]
 ·exact ⟨(f.fns g x e).ex⟩
theorem qEc (n:Nat):
  (∀ Γ e a,trE n Γ e=some a -> ∀ X:Cx,Fit Γ X G F -> SE X G F e a/\ST X G F e a)/\
  (∀ Γ es as,trA n Γ es=some as -> es.all qAF=true -> ∀ X:Cx,Fit Γ X G F -> SA X G F es as)/\
  (∀ Γ op p vs a,trB n Γ op p vs=some a -> ∀ X:Cx,Fit Γ X G F -> SE X G F (.BoolOp op vs p) a/\SW X G F (.BoolOp op vs p) a)/\
  (∀ Γ f args a,trC n Γ f args=some a -> okN f=true -> glB Γ.sc f=true -> args.all qAF=true -> ∀ X:Cx,Fit Γ X G F -> ∀ p pos,SE X G F (.Call (.Name f p) args [] pos) a)/\
  (∀ Γ o as,trO n Γ o=some as -> ∀ X:Cx,Fit Γ X G F -> SO X G F o as)/\
  (∀ Γ ifs as,qIX n Γ ifs=some as -> ∀ X:Cx,Fit Γ X G F -> SC X G F ifs as)/\
  (∀ Γ tg iter it,trI n Γ tg iter=some it -> ∀ X:Cx,Fit Γ X G F -> SI X G F tg iter it):=by
 induction n with
 | zero=>exact ⟨(fun _ _ _ h=>by unfold trE at h;cases h),(fun _ _ _ h=>by unfold trA at h;cases h),(fun _ _ _ _ _ h=>by unfold trB at h;cases h),(fun _ _ _ _ h=>by unfold trC at h;cases h),(fun _ _ _ h=>by unfold trO at h;cases h),(fun _ _ _ h=>by unfold qIX at h;cases h),(fun _ _ _ _ h=>by unfold trI at h;cases h)⟩
 | succ n ih=>
  obtain ⟨iE,iA,iB,iC,iO,iIf,iI⟩:=ih
  refine ⟨?_,?_,?_,?_,?_,?_,?_⟩
  ·intro Γ e a h X f
   unfold trE at h
   split at h
   ·split at h
    ·cases h;exact ⟨qG4,qAR qG4 fun _=>rfl⟩
    ·cases h;exact ⟨qId,qAR qId fun _=>rfl⟩
    ·cases h;exact ⟨qHI,qAR qHI fun _=>rfl⟩
    ·cases h;exact ⟨qHJ,qAR qHJ fun _=>rfl⟩
    ·cases h
   ·rename_i x p
    split at h
    ·rename_i ho
     obtain ⟨o1,o2,o3⟩:=qGD ho
     split at h
     ·rename_i hv
      obtain ⟨i,ei,rfl⟩:=Option.map_eq_some_iff.mp h
      have s1:SE X G F (.Name x p) (.var i):=qJn (by rw [f.hN];exact qBI ei) (by rw [f.sc];exact qHv hv) o1 o2
      exact ⟨s1,qAR s1 fun _=>rfl⟩
     ·split at h
      ·rename_i hg
       rcases f.gls x a h with ⟨v,u,rfl,e1,e2,e3⟩ | ⟨g,ad,rfl,e1,e2⟩
       ·have s1:SE X G F (.Name x p) (.cst v):=qHf (f.gl' hg) e1 e2 e3 o1
        exact ⟨s1,qAR s1 fun _=>rfl⟩
       ·have s1:SE X G F (.Name x p) (.glob g):=qIG (f.gl' hg) e1 e2 o1
        exact ⟨s1,qAR s1 fun _=>rfl⟩
      ·cases h
    ·cases h
   ·split at h
    ·rename_i o a' b' eo ea eb
     cases h
     rw [qID eo]
     have s1:=qJq (op:=o) (pos:=‹Pos›) (iE _ _ _ ea X f).1 (iE _ _ _ eb X f).1
     exact ⟨s1,qAR s1 fun _=>rfl⟩
    ·cases h
   ·split at h
    ·obtain ⟨a',ea,rfl⟩:=Option.map_eq_some_iff.mp h
     have s1:=qJL (pos:=‹Pos›) (iE _ _ _ ea X f).1
     exact ⟨s1,qAR s1 fun _=>rfl⟩
    ·obtain ⟨a',ea,rfl⟩:=Option.map_eq_some_iff.mp h
     exact ⟨qIy (iE _ _ _ ea X f).1,qIx (iE _ _ _ ea X f).2⟩
    ·cases h
   ·obtain ⟨s1,s2⟩:=iB _ _ _ _ _ h X f
    exact ⟨s1,s2.pt⟩
   ·split at h
    ·rename_i c' a' b' ec ea eb
     cases h
     exact ⟨qI4 (iE _ _ _ ec X f).2 (iE _ _ _ ea X f).1 (iE _ _ _ eb X f).1,qJd (iE _ _ _ ec X f).2 (iE _ _ _ ea X f).2 (iE _ _ _ eb X f).2⟩
    ·cases h
   ·split at h
    ·rename_i op b0
     split at h
     ·rename_i hs
      split at h
      ·rename_i a' b' ea eb
       cases h
       rw [qB6 op]
       have e1:qCB (opC (qCB op))=qCB op:=by cases op<;>rfl
       rw [e1]
       exact ⟨qI0 f.hu (iE _ _ _ ea X f).1 (iE _ _ _ eb X f).1 (qEh hs),qJg f.hu (iE _ _ _ ea X f).1 (iE _ _ _ eb X f).1 (qEh hs)⟩
      ·cases h
     ·cases h
    ·rename_i o1 o2 b0 c0
     split at h
     ·rename_i hs
      split at h
      ·rename_i a' b' c' ea eb ec
       cases h
       rw [qB6 o1,qB6 o2]
       have e1:qCB (opC (qCB o1))=qCB o1:=by cases o1<;>rfl
       have e2:qCB (opC (qCB o2))=qCB o2:=by cases o2<;>rfl
       rw [e1,e2]
       exact ⟨qGe f.hu (iE _ _ _ ea X f).1 (iE _ _ _ eb X f).1 (iE _ _ _ ec X f).1 (qFT hs),qGU f.hu (iE _ _ _ ea X f).1 (iE _ _ _ eb X f).1 (iE _ _ _ ec X f).1 (qFT hs)⟩
      ·cases h
     ·cases h
    ·rename_i o1 o2 o3 b0 c0 d0
     split at h
     ·rename_i hs
      split at h
      ·rename_i a' b' c' d' ea eb ec ed
       cases h
       rw [qB6 o1,qB6 o2,qB6 o3]
       have e1:qCB (opC (qCB o1))=qCB o1:=by cases o1<;>rfl
       have e2:qCB (opC (qCB o2))=qCB o2:=by cases o2<;>rfl
       have e3:qCB (opC (qCB o3))=qCB o3:=by cases o3<;>rfl
       rw [e1,e2,e3]
       exact ⟨qF6 f.hu (iE _ _ _ ea X f).1 (iE _ _ _ eb X f).1 (iE _ _ _ ec X f).1 (iE _ _ _ ed X f).1 (qF8 hs),qFY f.hu (iE _ _ _ ea X f).1 (iE _ _ _ eb X f).1 (iE _ _ _ ec X f).1 (iE _ _ _ ed X f).1 (qF8 hs)⟩
      ·cases h
     ·cases h
    ·cases h
   ·split at h
    ·split at h
     ·split at h
      ·rename_i hc
       simp only [Bool.and_eq_true] at hc
       have s1:=iC _ _ _ _ h hc.1.1 hc.1.2 hc.2 X f
       exact ⟨s1 _ _,qAR (s1 _ _) fun _=>rfl⟩
      ·cases h
     ·split at h
      ·split at h
       ·rename_i hc
        obtain ⟨rfl,hc1,hc2,hc3⟩:=hc
        split at h
        ·rename_i o' x' eo ex
         cases h
         have s1:=qIw (qFK hc1) hc3 hc2 (iE _ _ _ eo X f).1 (iE _ _ _ ex X f).1
         exact ⟨s1,qAR s1 fun _=>rfl⟩
        ·cases h
       ·split at h
        ·rename_i hc
         obtain ⟨rfl,hc1,hc2,hc3⟩:=hc
         split at h
         ·rename_i o' x' eo ex
          cases h
          have s1:=qGk (qFK hc1) hc3 hc2 (iE _ _ _ eo X f).1 (iE _ _ _ ex X f).1
          exact ⟨s1,qAR s1 fun _=>rfl⟩
         ·cases h
        ·cases h
      ·split at h
       ·rename_i hm
        subst hm
        split at h
        ·rename_i hc
         obtain ⟨o',eo,rfl⟩:=Option.map_eq_some_iff.mp h
         have s1:=qH8 f.calm f.hu f.gd (qFK hc.1) hc.2 (iE _ _ _ eo X f).1
         exact ⟨s1,qAR s1 fun _=>rfl⟩
        ·cases h
       cases h
      ·cases h
     ·cases h
    ·cases h
   ·split at h
    ·split at h
     ·split at h
      ·rename_i a' l h' ea el eh
       cases h
       exact ⟨qIi (iE _ _ _ ea X f).1 (iO _ _ _ el X f) (iO _ _ _ eh X f),qAR (qIi (iE _ _ _ ea X f).1 (iO _ _ _ el X f) (iO _ _ _ eh X f)) fun _=>rfl⟩
      ·cases h
     ·cases h
    ·split at h
     ·rename_i hs
      split at h
      ·rename_i a' b' ea eb
       cases h
       have s1:=qJI (pos:=‹Pos›) hs (iE _ _ _ ea X f).1 (iE _ _ _ eb X f).1
       exact ⟨s1,qAR s1 fun _=>rfl⟩
      ·cases h
     ·cases h
   ·split at h
    ·rename_i hs
     obtain ⟨a',ea,rfl⟩:=Option.map_eq_some_iff.mp h
     have s1:=qIo (pos:=‹Pos›) (iA _ _ _ ea hs X f)
     exact ⟨s1,qAR s1 fun _=>rfl⟩
    ·cases h
   ·split at h
    ·rename_i hs
     obtain ⟨a',ea,rfl⟩:=Option.map_eq_some_iff.mp h
     exact ⟨qHS (iA _ _ _ ea hs X f),qAR (qHS (iA _ _ _ ea hs X f)) fun _=>rfl⟩
    ·cases h
   ·split at h
    ·cases h
     exact ⟨qF7,qAR qF7 fun _=>rfl⟩
    ·cases h
   ·split at h
    ·split at h
     split at h
     ·dsimp only at h
      split at h
      ·rename_i hc
       simp only [Bool.and_eq_true] at hc
       split at h
       ·rename_i it g c e' ei eg ec ee
        cases h
        have s1:=qFL (pos:=‹Pos›) f.calm (iI _ _ _ _ ei X f) (qB3 f hc.1) (fun C fp s H=>qFV (qBR f hc.1 C fp s H) eg) (fun C fp s H=>iIf _ _ _ ec _ (qBR f hc.1 C fp s H)) (fun C fp s H=>(iE _ _ _ ee _ (qBR f hc.1 C fp s H)).1) (qFe hc.2)
        exact ⟨s1,qAR s1 fun _=>rfl⟩
       ·cases h
      ·cases h
     ·cases h
    ·cases h
   ·cases h
  ·intro Γ es as h hs X f
   cases es with
   | nil=>simp only [trA] at h;cases h;exact qFp
   | cons e es=>
    simp only [trA] at h
    simp only [List.all_cons,Bool.and_eq_true] at hs
    split at h
    ·rename_i a as ea eas
     cases h
     exact qC1 hs.1 (iE _ _ _ ea X f).1 (iA _ _ _ eas hs.2 X f)
    ·cases h
  ·intro Γ op p vs a h X f
   cases vs with
   | nil=>simp only [trB] at h;cases h
   | cons e r=>
    cases r with
    | nil=>
     simp only [trB] at h
     obtain ⟨s1,s2⟩:=iE _ _ _ h X f
     refine ⟨L2.pe_one s1,?_⟩
     cases op with
     | And=>exact L2.pw_and1 s2
     | Or=>exact L2.pw_or1 s2
    | cons b r=>
     simp only [trB] at h
     split at h
     ·rename_i a' b' ea eb
      cases h
      obtain ⟨s1,s2⟩:=iE _ _ _ ea X f
      obtain ⟨s3,s4⟩:=iB _ _ _ _ _ eb X f
      cases op with
      | And=>exact ⟨qJf s1 s3,qJZ s2 s4⟩
      | Or=>exact ⟨qKq s1 s3,qKl s2 s4⟩
     ·cases h
  ·intro Γ g args a h ho hg hs X f p pos
   obtain ⟨o1,o2,o3⟩:=qGD ho
   unfold trC at h
   split at h
   ·rename_i i ei
    obtain ⟨as,ea,rfl⟩:=Option.map_eq_some_iff.mp h
    have sA:=iA _ _ _ ea hs X f
    cases args with
    | nil=>
     have:as=.nil:=by
      cases n with
      | zero=>simp only [trA] at ea;cases ea
      | succ m=>simp only [trA] at ea;cases ea;rfl
     subst this
     exact qGn (f.fns i g (qBI ei)) (f.gl' hg) o1
    | cons e es=>
     simp only [List.all_cons,Bool.and_eq_true] at hs
     exact qHb (f.fns i g (qBI ei)) (f.gl' hg) o1 hs.1 hs.2 sA
   ·split at h
    ·rename_i hb
     split at h
     ·rename_i hi
      subst hi
      split at h
      ·rename_i e0 t pt
       split at h
       ·rename_i hc
        simp only [Bool.and_eq_true] at hc
        obtain ⟨t1,t2,t3⟩:=qGD hc.1.1
        split at h
        ·rename_i a' t' ea et
         cases h
         obtain ⟨b1,b2⟩:=qIL et
         simp only [List.all_cons,Bool.and_eq_true] at hs
         exact qI6 b2 (f.gl' hg) (f.blt _ hb) (f.gl' hc.1.2) (f.blt _ hc.2) b1 t3 t1 hs.1 (iE _ _ _ ea X f).1
        ·cases h
       ·cases h
      ·cases h
     ·split at h
      ·rename_i hl
       obtain ⟨rfl,_⟩:=hl
       split at h
       ·rename_i r pr e0 pc
        split at h
        ·rename_i hc
         simp only [Bool.and_eq_true,decide_eq_true_eq] at hc
         obtain ⟨⟨⟨⟨c1,c2⟩,c3⟩,c4⟩,rfl⟩:=hc
         obtain ⟨a',ea,rfl⟩:=Option.map_eq_some_iff.mp h
         exact qIA f.calm (f.gl' hg) (f.blt _ hb) (f.gl' c2) (f.blt _ c3) c4 (iE _ _ _ ea X f).1
        ·cases h
       ·rename_i r pr e0 e1 pc
        split at h
        ·rename_i hc
         simp only [Bool.and_eq_true,decide_eq_true_eq] at hc
         obtain ⟨⟨⟨⟨⟨c1,c2⟩,c3⟩,c4⟩,rfl⟩,c5⟩:=hc
         split at h
         ·rename_i a' b' ea eb
          cases h
          exact qGy f.calm (f.gl' hg) (f.blt _ hb) (f.gl' c2) (f.blt _ c3) c4 c5 (iE _ _ _ ea X f).1 (iE _ _ _ eb X f).1
         ·cases h
        ·cases h
       ·cases h
      rename_i hneg
      clear hneg
      split at h
      ·rename_i b e es eb
       obtain ⟨as,ea,rfl⟩:=Option.map_eq_some_iff.mp h
       have sA:=iA _ _ _ ea hs X f
       simp only [List.all_cons,Bool.and_eq_true] at hs
       exact qIj f.calm f.hu f.gd (f.gl' hg) (f.blt _ hb) (qIN eb) hs.1 hs.2 sA o3 o1
      ·cases h
    ·cases h
  ·intro Γ o as h X f
   cases o with
   | none=>simp only [trO] at h;cases h;exact qH1
   | some e=>
    simp only [trO] at h
    obtain ⟨a,ea,rfl⟩:=Option.map_eq_some_iff.mp h
    exact qHr (iE _ _ _ ea X f).1
  ·intro Γ ifs as h X f
   cases ifs with
   | nil=>simp only [qIX] at h;cases h;exact qJU
   | cons e r=>
    cases r with
    | nil=>
     simp only [qIX] at h
     obtain ⟨a,ea,rfl⟩:=Option.map_eq_some_iff.mp h
     exact qIz (iE _ _ _ ea X f).2
    | cons b r=>simp only [qIX] at h;cases h
  ·intro Γ tg iter it h X f
   unfold trI at h
   split at h
   ·rename_i fn p args pos
    split at h
    ·rename_i hf
     subst hf
     split at h
     ·rename_i hc
      simp only [Bool.and_eq_true] at hc
      split at h
      ·rename_i e
       obtain ⟨a,ea,rfl⟩:=Option.map_eq_some_iff.mp h
       have hs:=hc.2
       simp only [List.all_cons,Bool.and_eq_true] at hs
       exact qH4 (f.gl' hc.1.1) (f.blt _ hc.1.2) hs.1 (iE _ _ _ ea X f).1
      ·rename_i e e2
       split at h
       ·rename_i a' b' ea eb
        cases h
        have hs:=hc.2
        simp only [List.all_cons,Bool.and_eq_true] at hs
        exact qIH (f.gl' hc.1.1) (f.blt _ hc.1.2) hs.1 hs.2.1 (iE _ _ _ ea X f).1 (iE _ _ _ eb X f).1
       ·cases h
      ·cases h
     ·cases h
    ·split at h
     ·rename_i hf
      subst hf
      split at h
      ·rename_i hc
       simp only [Bool.and_eq_true] at hc
       split at h
       ·split at h
        ·rename_i a' b' ea eb
         cases h
         have hs:=hc.2
         simp only [List.all_cons,Bool.and_eq_true] at hs
         exact qJi (f.gl' hc.1.1) (f.blt _ hc.1.2) hs.1 hs.2.1 (iE _ _ _ ea X f).1 (iE _ _ _ eb X f).1
        ·cases h
       ·split at h
        ·rename_i a' b' c' ea eb ec
         cases h
         have hs:=hc.2
         simp only [List.all_cons,Bool.and_eq_true] at hs
         exact qHZ (f.gl' hc.1.1) (f.blt _ hc.1.2) hs.1 hs.2.1 hs.2.2.1 (iE _ _ _ ea X f).1 (iE _ _ _ eb X f).1 (iE _ _ _ ec X f).1
        ·cases h
       ·cases h
      ·cases h
     ·split at h
      ·rename_i hf
       subst hf
       split at h
       ·rename_i hc
        simp only [Bool.and_eq_true] at hc
        split at h
        ·obtain ⟨a,ea,rfl⟩:=Option.map_eq_some_iff.mp h
         have hs:=hc.2
         simp only [List.all_cons,Bool.and_eq_true] at hs
         exact qIQ (f.gl' hc.1.1) (f.blt _ hc.1.2) hs.1 (iE _ _ _ ea X f).1
        ·cases h
       ·cases h
      ·split at h
       ·rename_i hf
        subst hf
        split at h
        ·rename_i hc
         simp only [Bool.and_eq_true] at hc
         split at h
         ·split at h
          ·rename_i hr
           subst hr
           split at h
           ·rename_i c0
            simp only [Bool.and_eq_true] at c0
            obtain ⟨⟨⟨c1,c2⟩,c3⟩,c4⟩:=c0
            obtain ⟨a,ea,rfl⟩:=Option.map_eq_some_iff.mp h
            exact qK7 (f.gl' hc.1.1) (f.blt _ hc.1.2) (f.gl' c2) (f.blt _ c3) c4 (iE _ _ _ ea X f).1
           ·cases h
          ·obtain ⟨a,ea,rfl⟩:=Option.map_eq_some_iff.mp h
           have hs:=hc.2
           simp only [List.all_cons,Bool.and_eq_true] at hs
           exact qFF (f.gl' hc.1.1) (f.blt _ hc.1.2) hs.1 (iE _ _ _ ea X f).1
         ·obtain ⟨a,ea,rfl⟩:=Option.map_eq_some_iff.mp h
          have hs:=hc.2
          simp only [List.all_cons,Bool.and_eq_true] at hs
          exact qFF (f.gl' hc.1.1) (f.blt _ hc.1.2) hs.1 (iE _ _ _ ea X f).1
         ·cases h
        ·cases h
       ·obtain ⟨a,ea,rfl⟩:=Option.map_eq_some_iff.mp h
        exact qFG (iE _ _ _ ea X f).1
   ·obtain ⟨a,ea,rfl⟩:=Option.map_eq_some_iff.mp h
    exact qFG (iE _ _ _ ea X f).1
end
end PI
namespace PI
open PySem PySem.Spec PyProof.Rows PySem.SeqAt
open L2 (V Hp HO Cx PE PT PA PS PSs PG PGs PW RelV FnOk Fun qBG Binds Room SqL SqT)
section
variable {G:List Addr} {F:Nat -> List V -> AH -> RV}
theorem qDH {Γ:Gam} {X:Cx} (f:Fit Γ X G F) (hx:∀ x,Γ.own x=true) {n:Nat} {elt:Expr} {gens:List Comprehension} {scope:Scope} {cpos p pos:Pos} {a:E} {x:Str} {g:Tg} (h:trE n Γ (.ListComp elt gens scope cpos)=some a)
  (hg:trT Γ (.Name x ⟨0,0,0,0⟩)=some g):SS X G F (.Assign [.Name x p] (.ListComp elt gens scope cpos) pos) (.asg g a):=by
 cases n with
 | zero=>unfold trE at h;cases h
 | succ n=>
  unfold trT at hg
  dsimp only at hg
  split at hg
  ·rename_i hs
   obtain ⟨i,ei,rfl⟩:=Option.map_eq_some_iff.mp hg
   obtain ⟨h1,h2⟩:=f.store hs
   obtain ⟨iE,iA,iB,iC,iO,iIf,iI⟩:=qEc (G:=G) (F:=F) n
   unfold trE at h
   dsimp only at h
   split at h
   ·split at h
    split at h
    ·split at h
     ·rename_i hc
      simp only [Bool.and_eq_true] at hc
      split at h
      ·rename_i it g c e' ei' eg ec ee
       cases h
       exact qHx f.calm (iI _ _ _ _ ei' X f) (qB3 f hc.1) (fun C fp s H=>qFV (qBR f hc.1 C fp s H) eg) (fun C fp s H=>iIf _ _ _ ec _ (qBR f hc.1 C fp s H)) (fun C fp s H=>(iE _ _ _ ee _ (qBR f hc.1 C fp s H)).1) (qFe hc.2) (by rw [f.hN];exact f.nd) (by rw [f.hN];exact qBI ei) h1 h2
      ·cases h
     ·cases h
    ·cases h
   ·cases h
  ·cases hg
theorem qFj (n:Nat):(∀ Γ st (X:Cx),Fit Γ X G F -> (∀ x,Γ.own x=true) -> X.xe=(fun _ _=>False) -> SS X G F st (trS n Γ st))/\(∀ Γ sts (X:Cx),Fit Γ X G F -> (∀ x,Γ.own x=true) -> X.xe=(fun _ _=>False) -> SSs X G F sts (qFB n Γ sts)):=by
 induction n with
 | zero=>
  refine ⟨fun Γ st X f ho hx=>?_,fun Γ sts X f ho hx=>?_⟩
  ·unfold trS;exact qAU
  ·unfold qFB
   intro pins s σ H D I q
   obtain ⟨φ,h,σa,o,h',R,rs,e,k⟩:=q
   unfold exs ex at e
   cases e
 | succ n ih=>
  obtain ⟨i1,i2⟩:=ih
  obtain ⟨iE,iA,iB,iC,iO,iIf,iI⟩:=qEc (G:=G) (F:=F) 60
  refine ⟨fun Γ st X f ho hx=>?_,fun Γ sts X f ho hx=>?_⟩
  ·unfold trS
   split
   ·split
    ·split
     ·rename_i v pos _ _ x p
      split
      ·rename_i g a eg ea
       by_cases hc:qBx v=true
       ·refine qCb (L2.ps_asg (iE _ _ _ ea X f).1 (qFV f (tg:=.Name x p) eg) (qBP hc) (by cases v<;>rfl) rfl) fun _ _ _=>qEg
       ·cases v with
        | ListComp elt gens scope cpos=>exact qDH f ho ea eg
        | SetComp elt gens scope cpos=>unfold trE at ea;cases ea
        | DictComp k elt gens scope cpos=>unfold trE at ea;cases ea
        | _=>exact absurd rfl hc
      ·exact qAU
     ·split
      ·split
       ·rename_i hc
        split
        ·rename_i i j a b ei ej ea eb
         split
         ·exact qAU
         ·rename_i hij
          unfold qLZ at hc
          simp only [Bool.and_eq_true,decide_eq_true_eq,Bool.not_eq_true',beq_iff_eq] at hc
          obtain ⟨⟨⟨⟨⟨⟨⟨⟨c1,c2⟩,c3⟩,c4⟩,c5⟩,c6⟩,c7⟩,c8⟩,c9⟩:=hc
          refine qI9 f.calm (by rw [f.hN];exact f.nd) (by rw [f.hN];exact qBI ei) (by rw [f.hN];exact qBI ej) hij (by rw [f.sc];exact c2) (by rw [f.sc];exact c3) (qC1 c5 (iE _ _ _ ea X f).1 (qC1 c6 (iE _ _ _ eb X f).1 qFp)) ?_
          exact qD7 (by unfold Env.blockKind;rw [f.sc];exact c1) (by rw [f.sc];exact c2) (by rw [f.sc];exact c3) c4 c9 c5 c6 c7 c8
        ·exact qAU
       ·exact qAU
      ·split
       ·rename_i hc
        simp only [Bool.and_eq_true] at hc
        split
        ·rename_i g a eg ea
         have hg:=eg
         unfold trT at hg
         obtain ⟨is,ei,rfl⟩:=Option.map_eq_some_iff.mp hg
         exact qJW (qFV f eg) (iE _ _ _ ea X f).1 hc.1 hc.2
        ·exact qAU
       ·exact qAU
     ·split
      ·rename_i hc
       simp only [Bool.and_eq_true] at hc
       split
       ·rename_i o' i' v' eo ei ev
        exact qIa f.hu (iE _ _ _ eo X f).1 (iE _ _ _ ei X f).1 (iE _ _ _ ev X f).1 hc.1 hc.2
       ·exact qAU
      ·exact qAU
     ·exact qAU
    ·exact qAU
   ·split
    ·rename_i hc
     split
     ·rename_i a ea;exact qHz (iE _ _ _ ea X f).1 hc
     ·exact qAU
    ·exact qAU
   ·split
    ·split
     ·rename_i a ea;exact qJt (iE _ _ _ ea X f).1
     ·exact qAU
    ·exact qAU
   ·split
    ·rename_i a ea;exact qJB (iE _ _ _ ea X f).2 (i2 _ _ X f ho hx) (i2 _ _ X f ho hx)
    ·exact qAU
   ·split
    ·split
     ·rename_i hs
      split
      ·rename_i it g ei eg;exact qJj hx f.calm (iI _ _ _ _ ei X f) (qFV f eg) (i2 _ _ X f ho hx) (qFe hs)
      ·exact qAU
     ·exact qAU
    ·exact qAU
   ·split
    ·split
     ·rename_i a ea;exact qGj hx (iE _ _ _ ea X f).2 (i2 _ _ X f ho hx)
     ·exact qAU
    ·exact qAU
   ·exact qAU
  ·cases sts with
   | nil=>unfold qFB;exact qIS
   | cons s r=>unfold qFB;exact qGu (i1 _ _ X f ho hx) (i2 _ _ X f ho hx)
end
theorem len0 {α:Type} {us:List α} (h:us.length=0):us=[]:=List.length_eq_zero_iff.mp h
theorem len1 {α:Type} {us:List α} (h:us.length=1):∃ a,us=[a]:=List.length_eq_one_iff.mp h
theorem len2 {α:Type} {us:List α} (h:us.length=2):∃ a b,us=[a,b]:=by
 cases us with
 | nil=>cases h
 | cons a r=>obtain ⟨b,rfl⟩:=len1 (us:=r) (by simpa using h);exact ⟨a,b,rfl⟩
theorem len3 {α:Type} {us:List α} (h:us.length=3):∃ a b c,us=[a,b,c]:=by
 cases us with
 | nil=>cases h
 | cons a r=>obtain ⟨b,c,rfl⟩:=len2 (us:=r) (by simpa using h);exact ⟨a,b,c,rfl⟩
theorem len4 {α:Type} {us:List α} (h:us.length=4):∃ a b c d,us=[a,b,c,d]:=by
 cases us with
 | nil=>cases h
 | cons a r=>obtain ⟨b,c,d,rfl⟩:=len3 (us:=r) (by simpa using h);exact ⟨a,b,c,d,rfl⟩
theorem len5 {α:Type} {us:List α} (h:us.length=5):∃ a b c d e,us=[a,b,c,d,e]:=by
 cases us with
 | nil=>cases h
 | cons a r=>obtain ⟨b,c,d,e,rfl⟩:=len4 (us:=r) (by simpa using h);exact ⟨a,b,c,d,e,rfl⟩
theorem len6 {α:Type} {us:List α} (h:us.length=6):∃ a b c d e f,us=[a,b,c,d,e,f]:=by
 cases us with
 | nil=>cases h
 | cons a r=>obtain ⟨b,c,d,e,f,rfl⟩:=len5 (us:=r) (by simpa using h);exact ⟨a,b,c,d,e,f,rfl⟩
structure qGL where
 x:Str
 st:Stmt
 ps:List Str
 N:List Str
structure Tbl where
 ds:List qGL
 gl:List (Str×E)
 bl:List Str
 cls:List Str:=[]
 xr:List Str:=[]
noncomputable def Tbl.gam (T:Tbl) (d:qGL):Gam:=⟨d.N,L2.defScope d.st,T.ds.map (·.x),T.gl,T.bl,fun _=>true,T.cls,T.xr.contains d.x⟩
noncomputable def Tbl.fn (T:Tbl) (d:qGL):Fn:=⟨d.ps.length,d.N.length,qFB 60 (T.gam d) (L2.defBody d.st)⟩
noncomputable def Tbl.fns (T:Tbl):List Fn:=T.ds.map T.fn
structure qGo (K:PySem.W.Frag) (mg:Str -> Option Value) (G:List Addr) (T:Tbl) (fa:List Addr) (fd:List FuncData):Prop where
 def_:∀ (i:Nat) d,T.ds[i]?=some d -> ∃ a f,fa[i]?=some a/\fd[i]?=some f/\Fun K d.x d.x d.st a f/\qBG d.N d.ps (L2.defScope d.st)/\mg d.x=some (.ref a)/\Binds K f d.ps []
 gls:∀ x e,T.gl.lookup x=some e -> (∃ v u,e=.cst v/\mg x=some u/\RelV v u/\∀ φ,rv φ v v)\/(∃ g a,e=.glob g/\mg x=some (.ref a)/\G[g]?=some a)
 blt:∀ x,T.bl.contains x=true -> mg x=none
 gtu:∀ a∈G,∃ o,K.lookup a=some o/\o.cls=.type "tuple"/\o.dict=none
theorem qFQ {φ:List Addr} {ws vs:List V} (r:rvs φ ws vs) (n:Nat):rst φ (ws.map some++List.replicate n none) (vs.map some++List.replicate n none):=by
 refine qAP ?_ ?_
 ·induction r with
  | nil=>exact .nil
  | cons h t ih=>exact .cons ⟨_,rfl,h⟩ ih
 ·induction n with
  | zero=>exact .nil
  | succ n ih=>exact .cons trivial ih
section
variable {P:Program} {w:World} {K:PySem.W.Frag} {mg:Str -> Option Value} {base:Heap} {G:List Addr} {T:Tbl} {fa:List Addr} {fd:List FuncData}
theorem qI2 {k i:Nat} {d:qGL} (h1:T.ds[i]?=some d) {ws:List V} {h h':AH} {v:V} (e:Fk T.fns (k + 1) i ws h=.ok (v,h')):ws.length=d.ps.length/\d.ps.length<=d.N.length/\∃ o,exs (Fk T.fns k) (qFB 60 (T.gam d) (L2.defBody d.st)) (ws.map some++List.replicate (d.N.length - d.ps.length) none) h=.ok (o,h')/\
  ((∃ σ,o=.nx σ/\v=.non)\/o=.rt v):=by
 unfold Fk at e
 have ht:T.fns[i]?=some (T.fn d):=by unfold Tbl.fns;rw [List.getElem?_map,h1];rfl
 rw [ht] at e
 dsimp only at e
 split at e
 ·rename_i hc
  obtain ⟨⟨o,h2⟩,e2,e⟩:=Res.bind_inv e
  have e4:exs (Fk T.fns k) (qFB 60 (T.gam d) (L2.defBody d.st)) (ws.map some++List.replicate (d.N.length - d.ps.length) none) h=.ok (o,h2):=e2
  refine ⟨hc.1,hc.2,o,?_,?_⟩
  ·cases o<;>cases e<;>exact e4
  ·cases o with
   | nx σ=>cases e;exact .inl ⟨σ,rfl,rfl⟩
   | rt u=>cases e;exact .inr rfl
   | bk σ=>cases e
   | ct σ=>cases e
 ·cases e
theorem qIu (O:qGo K mg G T fa fd) {k:Nat} {d:qGL} (f0:∀ (i:Nat) d a f,T.ds[i]?=some d -> fa[i]?=some a -> fd[i]?=some f -> FnOk P w K mg base L2.CX0 k a f d.ps (spF G (Fk T.fns k) K i))
  (hS:qBG d.N d.ps (L2.defScope d.st)) (CX:L2.CXT) (a:Addr) (cdv:Value) (A:Around) (outer:List Env) (s:Shared) (H:Hp) (E:L2.XK) (E2:Value -> Shared -> Prop) (hr:Room k (A.deeper (envOfC d.x (L2.defScope d.st) s.heap.objs.size a cdv))):
  Fit (T.gam d) ((L2.cxOf CX P w K mg base d.N d.x (L2.defScope d.st) a cdv A outer s H E).wish E2) G (Fk T.fns k):=by
 have get:∀ (g:Nat) x,(T.gam d).fns[g]?=some x -> ∃ d2 a2 f2,T.ds[g]?=some d2/\d2.x=x/\fa[g]?=some a2/\fd[g]?=some f2/\mg x=some (.ref a2)/\PySem.W.keepIn K (.ref a2)=true/\Binds K f2 d2.ps []:=fun g x eg=>by
  have eg':(T.ds.map (·.x))[g]?=some x:=eg
  rw [List.getElem?_map] at eg'
  cases hd:T.ds[g]? with
  | none=>rw [hd] at eg';cases eg'
  | some d2=>
   rw [hd] at eg'
   cases eg'
   obtain ⟨a2,f2,q1,q2,q3,q4,q5,q6⟩:=O.def_ g d2 hd
   exact ⟨d2,a2,f2,rfl,rfl,q1,q2,q5,q3.kp,q6⟩
 refine ⟨rfl,hS.nd,rfl,rfl,fun _ _=>rfl,fun g x eg=>?_,O.gls,O.blt,?_,hr.gd,O.gtu⟩
 ·obtain ⟨d2,a2,f2,q1,rfl,q2,q3,q4,q5,q6⟩:=get g x eg
  exact ⟨k,a2,f2,d2.ps,f0 g d2 a2 f2 q1 q2 q3,hr,q4,q5,q6⟩
 ·have:=hr.units
  show (A.deeper (envOfC d.x (L2.defScope d.st) s.heap.objs.size a cdv)).units + 8 < cLine
  omega
theorem qEW (O:qGo K mg G T fa fd):∀ (k:Nat) (i:Nat) d a f,T.ds[i]?=some d -> fa[i]?=some a -> fd[i]?=some f -> FnOk P w K mg base L2.CX0 k a f d.ps (spF G (Fk T.fns k) K i)
 | 0=>fun i d a f h1 h2 h3=>⟨(fun vs H Q E h=>by obtain ⟨_,_,_,_,_,_,_,e,_⟩:=h;unfold Fk at e;cases e),(fun A outer s H args us vs Q E hr e0 hb r h=>by obtain ⟨_,_,_,_,_,_,_,e,_⟩:=h;unfold Fk at e;cases e)⟩
 | k + 1=>by
  have f0:=qEW O k
  refine fun i d a f h1 h2 h3=>?_
  obtain ⟨a',f',e1,e2,hF,hS,hm,hB⟩:=O.def_ i d h1
  rw [h2] at e1;cases e1
  rw [h3] at e2;cases e2
  refine hF.ok hS (fun vs H Q E h=>?_) (fun cdv A outer s H vs Q E hr h=>?_)
  ·obtain ⟨φ,h0,ws,v,h',R,r,e,_⟩:=h
   rw [<- Paired.length r]
   exact (qI2 h1 e).1
  ·obtain ⟨φ,h0,ws,v,h',R,r,e,kk⟩:=h
   obtain ⟨l1,l2,o,eo,ho⟩:=qI2 h1 e
   have fit:=qIu O f0 hS L2.CX0 a cdv A outer s H E (fun _ _=>False) hr
   refine ⟨_,(qFj (G:=G) (F:=Fk T.fns k) 60).2 (T.gam d) (L2.defBody d.st) _ fit (fun _=>rfl) rfl,φ,h0,_,o,h',R,?_,eo,fun φ' H' x' R'=>?_⟩
   ·unfold L2.start
    rw [<- Paired.length r,l1]
    exact qFQ r _
   ·rcases ho with ⟨σ,rfl,rfl⟩ | rfl
    ·exact fun σc _=>kk φ' H' .non x' R' trivial
    ·exact fun u ru=>kk φ' H' u x' R' ru
end
noncomputable def qGd (K:PySem.W.Frag):L2.Sp:=fun vs H Q _=>∃ (a:Addr) (ns:List Int),vs=[.ref a]/\L2.Only H/\SqL K H a (ns.map V.int)/\ns.length<=63/\∀ H',Q (.bl true) H'
noncomputable def qDn (gs:List O) (ns:List Int):AH:=gs++[.lst true (ns.map V.int)]
noncomputable def qEd (K:PySem.W.Frag):List Addr -> List O -> Prop
 | [],[]=>True
 | a::as,.tup xs::os=>(SqT K (fun _=>none) a xs/\xs.all flat=true)/\qEd K as os
 | _,_=>False
theorem qDO {φ:List Addr}:∀ {xs:List V},xs.all flat=true -> rvs φ xs xs
 | [],_=>.nil
 | x::xs,h=>by
  simp only [List.all_cons,Bool.and_eq_true] at h
  refine .cons ?_ (qDO h.2)
  cases x<;>first | rfl | exact trivial | (cases h.1)
theorem qGP {K:PySem.W.Frag} {H:Hp} {a:Addr} {xs:List V} (q:SqT K (fun _=>none) a xs):SqT K H a xs:=by
 rcases q with (h | ⟨o,h⟩) | h
 ·cases h
 ·cases h
 ·exact .inr h
theorem qCv {K:PySem.W.Frag}:∀ {as:List Addr} {os:List O},qEd K as os -> as.length=os.length/\∀ (i:Nat) o a,os[i]?=some o -> as[i]?=some a -> ∃ xs,o=.tup xs/\SqT K (fun _=>none) a xs/\xs.all flat=true
 | [],[],_=>⟨rfl,fun i o a h=>by simp at h⟩
 | [],_::_,h=>False.elim h
 | _::_,[],h=>False.elim h
 | a::as,.lst _ _::os,h=>False.elim h
 | a::as,.tup xs::os,h=>by
  obtain ⟨h1,h2⟩:=h
  obtain ⟨l,k⟩:=qCv h2
  refine ⟨by simp [l],fun i o b e1 e2=>?_⟩
  cases i with
  | zero=>simp at e1 e2;subst e1 e2;exact ⟨xs,rfl,h1⟩
  | succ i=>exact k i o b (by simpa using e1) (by simpa using e2)
theorem qFh {P:Program} {w:World} {K:PySem.W.Frag} {mg:Str -> Option Value} {base:Heap} {G:List Addr} {gs:List O} {T:Tbl} {fa:List Addr} {fd:List FuncData} (O:qGo K mg G T fa fd) (hG:qEd K G gs) {k i:Nat} {d:qGL} {a:Addr} {f:FuncData}
  (h1:T.ds[i]?=some d) (h2:fa[i]?=some a) (h3:fd[i]?=some f) (hp:d.ps=(["_law_script"]:List Str)) (main:∀ ns:List Int,ns.length<=63 -> ∃ h',Fk T.fns k i [.ref gs.length] (qDn gs ns)=.ok (.bl true,h')):
  FnOk P w K mg base L2.CX0 k a f (["_law_script"]:List Str) (qGd K):=by
 have F:=qEW (P:=P) (w:=w) (base:=base) O k i d a f h1 h2 h3
 rw [hp] at F
 refine ⟨fun vs H Q E h=>by obtain ⟨b,ns,rfl,_⟩:=h;rfl,fun A outer s H args us vs Q E hr e0 hb r h=>?_⟩
 obtain ⟨b,ns,rfl,hO,hS,hl,q⟩:=h
 obtain ⟨h',e⟩:=main ns hl
 obtain ⟨lg,kg⟩:=qCv hG
 refine F.run A outer s H args us _ Q E hr e0 hb r ⟨G++[b],qDn gs ns,[.ref gs.length],.bl true,h',⟨by unfold qDn;simp [lg],⟨[b],rfl⟩,fun j o c e1 e2=>?_,fun j l xs ys c e1 e2 e3 e4=>?_⟩,.cons (by show (G++[b])[gs.length]?=some b;rw [<- lg];simp) .nil,e,fun φ' H' u x' R' ru=>by rw [qAw ru];exact q H'⟩
 ·unfold qDn at e1
  by_cases hj:j < gs.length
  ·rw [List.getElem?_append_left hj] at e1
   rw [List.getElem?_append_left (by omega)] at e2
   obtain ⟨xs,rfl,h5,h6⟩:=kg j o c e1 e2
   exact ⟨xs,qGP h5,qDO h6⟩
  ·have hj':j=gs.length:=by
    have:=(List.getElem?_eq_some_iff.mp e1).1
    simp at this
    omega
   subst hj'
   simp at e1
   rw [<- lg] at e2
   simp at e2
   subst e1 e2
   refine ⟨ns.map V.int,?_,qDO (qFb ns)⟩
   rcases hS with (z | ⟨ob,z⟩) | z
   ·rcases hO b with y | ⟨ob,xs,y⟩<;>(rw [y] at z;cases z)
   ·exact .inl ⟨ob,z⟩
   ·exact .inr (.inr z)
 ·have no:∀ {m:Nat} {z:PI.O},z.mu=true -> (qDn gs ns)[m]?=some z -> False:=fun {m zs} mz em=>by
   unfold qDn at em
   by_cases hj:m < gs.length
   ·rw [List.getElem?_append_left hj] at em
    obtain ⟨xs,ex,_⟩:=kg m _ (G[m]'(by omega)) em (List.getElem?_eq_getElem (by omega))
    subst ex
    cases mz
   ·have hj':m=gs.length:=by
     have:=(List.getElem?_eq_some_iff.mp em).1
     simp at this
     omega
    subst hj'
    simp at em
    subst em
    cases mz
  exact (no ‹_› ‹_›).elim
end PI
namespace PI
open PySem PySem.Spec PyProof.Rows L2
noncomputable abbrev qJl (K:PySem.W.Frag) (d:qGL):Prop:=∃ (f:Addr) (oc:Value) (od an:Option Addr) (sl:Array (Option Value)) (kV dc pm cd ct:Value),PySem.W.nsIn K mainGlobals d.x=some (some (.ref f))/\K.lookup f=some ⟨oc,od,.func (PySem.W.fnOf d.x d.x (qBe d.st) (defBody d.st) (defScope d.st) .none kV dc pm an cd ct),sl⟩/\PySem.W.codeIn K cd d.x=true/\PySem.W.keepIn K (.ref f)=true
structure qKc (d:qGL):Prop where
 sc:qBG d.N d.ps (defScope d.st)
 bd:∀ (kV doc pm:Value) (an:Option Addr) (cdv ct:Value) (us:List Value),us.length=d.ps.length -> bindArgs (PySem.W.fnOf d.x d.x (qBe d.st) (defBody d.st) (defScope d.st) .none kV doc pm an cdv ct) ⟨us,[]⟩=pure (d.ps.zip us)
theorem qHM {K:PySem.W.Frag} {h:Heap} {mg:Str -> Option Value} (X:K.In h) (G:h.Ns mainGlobals mg):∀ (ds:List qGL),(∀ d∈ds,qJl K d) -> (∀ d∈ds,qKc d) -> ∃ (fa:List Addr) (fd:List FuncData),∀ (i:Nat) d,ds[i]?=some d -> ∃ a f,fa[i]?=some a/\fd[i]?=some f/\Fun K d.x d.x d.st a f/\qBG d.N d.ps (L2.defScope d.st)/\mg d.x=some (.ref a)/\Binds K f d.ps []
 | [],_,_=>⟨[],[],fun i d h=>by simp at h⟩
 | d::ds,h,hk=>by
  obtain ⟨fa,fd,k⟩:=qHM X G ds (fun x hx=>h x (by simp [hx])) fun x hx=>hk x (by simp [hx])
  obtain ⟨f,oc,od,an,sl,kV,dc,pm,cd,ct,h1,h2,h3,h4⟩:=h d (by simp)
  have hd:=hk d (by simp)
  refine ⟨f::fa,PySem.W.fnOf d.x d.x (qBe d.st) (defBody d.st) (defScope d.st) .none kV dc pm an cd ct::fd,fun i e he=>?_⟩
  cases i with
  | zero=>cases he;exact ⟨_,_,rfl,rfl,qHD h2 h3 h4,hd.sc,PySem.W.mg_of X G h1,(qHD h2 h3 h4).binds hd.bd⟩
  | succ i=>exact k i e he
theorem qKN {K:PySem.W.Frag} {d:qGL} {a:Addr} {f:FuncData} {x:Str} (F:Fun K d.x d.x d.st a f) (h:qKc d) (hp:d.ps=[x]) (s:Shared) (v:Value):BindsTo s f ⟨[v],[]⟩ [(x,v)]:=by
 obtain ⟨oc,od,kV,doc,pm,an,cdv,ct,osl,rfl,lk,hcd⟩:=F.ex
 refine .of_eq ?_
 rw [h.bd kV doc pm an cdv ct [v] (by rw [hp];rfl),hp];rfl
end PI
namespace PI
open L2 (V)
inductive T where
 | v (x:V) | cell (n:Nat) | fz (xs:List T) | lst (xs:List T) | tup (xs:List T) | ob (o:Ob)
noncomputable abbrev Mem:=List (List T)
noncomputable abbrev TS:=List (Option T)
inductive PR (α:Type) | ok (a:α) | exc (c:Nat) (M:Mem) | stuck
noncomputable def PR.bind {α β:Type}:PR α -> (α -> PR β) -> PR β
 | .ok a,f=>f a
 | .exc c M,_=>.exc c M
 | .stuck,_=>.stuck
@[simp] theorem PR.bind_ok {α β:Type} (a:α) (f:α -> PR β):(PR.ok a).bind f=f a:=Eq.trans rfl rfl
@[simp] theorem PR.bind_stuck {α β:Type} (f:α -> PR β):(PR.stuck:PR α).bind f=.stuck:=Eq.trans rfl rfl
noncomputable def PR.nx {α:Type}:PR α -> PR α
 | .ok a=>.ok a
 | .exc _ _=>.stuck
 | .stuck=>.stuck
@[simp] theorem PR.nx_ok {α:Type} (a:α):(PR.ok a).nx=.ok a:=Eq.trans rfl rfl
@[simp] theorem PR.nx_stuck {α:Type}:(PR.stuck:PR α).nx=.stuck:=Eq.trans rfl rfl
noncomputable def PR.ofO {α:Type}:Option α -> PR α
 | some a=>.ok a
 | none=>.stuck
@[simp] theorem PR.ofO_some {α:Type} (a:α):PR.ofO (some a)=.ok a:=Eq.trans rfl rfl
mutual
noncomputable def T.lf:T -> Bool
 | .v _=>true
 | .ob _=>true
 | .tup ts=>T.lfs ts
 | _=>false
noncomputable def T.lfs:List T -> Bool
 | []=>true
 | t::ts=>T.lf t&&T.lfs ts
end
mutual
noncomputable def T.und (n:Nat):T -> Bool
 | .v _=>true
 | .ob _=>true
 | .cell k=>decide (k < n)
 | .fz ts=>T.unds n ts
 | .lst ts=>T.unds n ts
 | .tup ts=>T.unds n ts
noncomputable def T.unds (n:Nat):List T -> Bool
 | []=>true
 | t::ts=>T.und n t&&T.unds n ts
end
mutual
noncomputable def T.beq:T -> T -> Bool
 | .v x,.v y=>decide (x=y)
 | .cell x,.cell y=>decide (x=y)
 | .fz x,.fz y=>T.beqs x y
 | .lst x,.lst y=>T.beqs x y
 | .tup x,.tup y=>T.beqs x y
 | .ob x,.ob y=>decide (x=y)
 | _,_=>false
noncomputable def T.beqs:List T -> List T -> Bool
 | [],[]=>true
 | x::xs,y::ys=>T.beq x y&&T.beqs xs ys
 | _,_=>false
end
noncomputable abbrev qCZ:=List (Nat×List T)
noncomputable def qAb (d:qCZ) (M:Mem):Bool:=d.all fun p=>match M[p.1]? with | some ts=>T.beqs ts p.2 | none=>false
noncomputable def T.its (M:Mem):T -> Option (List T)
 | .lst xs=>some xs | .tup xs=>some xs | .fz xs=>some xs | .cell n=>M[n]? | _=>none
noncomputable def T.lis (M:Mem):T -> Option (List T)
 | .lst xs=>some xs | .fz xs=>some xs | .cell n=>M[n]? | _=>none
noncomputable def T.mu (M:Mem):T -> Option (List T)
 | .lst xs=>some xs | .cell n=>M[n]? | _=>none
noncomputable def qAs:List T -> Option (List Int)
 | []=>some []
 | .v (.int i)::r=>(qAs r).map (i::·)
 | _::_=>none
noncomputable def qBd:List T -> Option (List Int)
 | []=>some []
 | .v (.int i)::r=>(qBd r).map (i::·)
 | .v (.bl b)::r=>(qBd r).map ((if b=true then 1 else 0)::·)
 | _=>none
noncomputable def qBn:List T -> Option (List Bool)
 | []=>some []
 | .v (.bl i)::r=>(qBn r).map (i::·)
 | _::_=>none
noncomputable def qCO:List T -> Option (List V)
 | []=>some []
 | .v x::r=>(qCO r).map (x::·)
 | _::_=>none
noncomputable def qAz (f:T -> T -> Option Bool):List T -> List T -> Option (List Bool)
 | [],[]=>some []
 | x::xs,y::ys=>match f x y,qAz f xs ys with
  | some b,some bs=>some (b::bs)
  | _,_=>none
 | _,_=>none
noncomputable def T.isV:T -> Option V | .v x=>some x | _=>none
noncomputable def eqT (M:Mem):Nat -> T -> T -> Option Bool
 | 0,s,t=>match s.isV,t.isV with | some x,some y=>eqF x y | _,_=>none
 | n + 1,s,t=>match s.isV,t.isV with
  | some x,some y=>eqF x y
  | some _,none=>if (t.its M).isSome then some false else none
  | none,some _=>if (s.its M).isSome then some false else none
  | none,none=>match s.lis M,t.lis M with
   | some xs,some ys=>if xs.length=ys.length then (qAz (eqT M n) xs ys).map fun bs=>bs.all id else some false
   | some _,none=>if (t.its M).isSome then some false else none
   | none,some _=>if (s.its M).isSome then some false else none
   | none,none=>match s.its M,t.its M with
    | some xs,some ys=>if xs.length=ys.length then (qAz (eqT M n) xs ys).map fun bs=>bs.all id else (qAz (eqT M n) (xs.take ys.length) (ys.take xs.length)).map fun _=>false
    | _,_=>none
noncomputable def qD6 (xs:List T) (lo hi:Option Int):List T:=(xs.drop (HT.sIx xs.length 0 lo)).take (HT.sIx xs.length xs.length hi - HT.sIx xs.length 0 lo)
noncomputable abbrev TB:=T×Bool
noncomputable def iT (i:Int):TB:=(.v (.int i),true)
noncomputable def bT (b:Bool):TB:=(.v (.bl b),true)
noncomputable def lT (xs:List T):TB:=(.lst xs,T.lfs xs)
noncomputable def qHt (x:T) (xs:List T) (lo hi:Option Int):Option TB:=match x with
 | .tup _=>if HT.sIx xs.length 0 lo=0/\HT.sIx xs.length xs.length hi=xs.length then none else some (.tup (qD6 xs lo hi),T.lfs (qD6 xs lo hi))
 | _=>some (lT (qD6 xs lo hi))
noncomputable def qA4 (M:Mem) (op:BOp) (x y:T):Option TB:=match x.isV,y.isV with
 | some (.int i),some (.int j)=>match op with
  | .add=>some (iT (i + j))
  | .sub=>some (iT (i - j))
  | .mul=>if qCC i||qCC j||(mid i&&mid j) then some (iT (i * j)) else none
  | .fdiv=>if 0 < j/\(j < 1073741824\/mid j=true) then some (iT (i / j)) else if j < 0/\mid j=true then some (iT (i.fdiv j)) else none
  | .mod=>if 0 < j then some (iT (i % j)) else if j < 0 then some (iT (i.fmod j)) else none
  | .pow=>if 0<=j/\j<=1000/\i.natAbs < 18446744073709551616 then some (iT (i ^ j.toNat)) else none
 | none,some (.int k)=>match op with
  | .mul=>(x.mu M).bind fun xs=>if 0<=k/\xs.length * k.toNat<=lim/\k < 1000000 then some (lT (List.replicate k.toNat xs).flatten) else none
  | _=>none
 | none,none=>match op with
  | .add=>(match x,y with
   | .tup xs,.tup ys=>if xs≠[]/\xs.length + ys.length<=lim then some (.tup (xs++ys),T.lfs (xs++ys)) else none
   | x,y=>(x.mu M).bind fun xs=>(y.mu M).bind fun ys=>if xs.length + ys.length<=lim then some (lT (xs++ys)) else none)
  | _=>none
 | _,_=>none
noncomputable def inT (M:Mem) (x y:T):Option Bool:=x.isV.bind fun a=>(y.its M).bind fun ts=>(qCO ts).map fun xs=>xs.any fun z=>L2.eqV z a
noncomputable def qA5 (M:Mem) (op:COp) (x y:T):Option Bool:=match op with
 | .eq=>eqT M 4 x y
 | .ne=>(eqT M 4 x y).map (!·)
 | .inn=>inT M x y
 | .notin=>(inT M x y).map (!·)
 | .is=>match y.isV with | some .non=>some (match x.isV with | some .non=>true | _=>false) | some (.bl d)=>(match x.isV with | some (.bl c)=>some (c==d) | _=>none) | _=>none
 | .isnot=>match y.isV with | some .non=>some (match x.isV with | some .non=>false | _=>true) | some (.bl d)=>(match x.isV with | some (.bl c)=>some (!(c==d)) | _=>none) | _=>none
 | .lt=>match x.isV,y.isV with | some (.int i),some (.int j)=>some (decide (i < j)) | _,_=>none
 | .le=>match x.isV,y.isV with | some (.int i),some (.int j)=>some (decide (i<=j)) | _,_=>none
 | .gt=>match x.isV,y.isV with | some (.int i),some (.int j)=>some (decide (j < i)) | _,_=>none
 | .ge=>match x.isV,y.isV with | some (.int i),some (.int j)=>some (decide (j<=i)) | _,_=>none
noncomputable def qGM (as:List T) (f:T -> Option TB):Option TB:=match as with
 | [a]=>f a
 | _=>none
theorem qAx {as:List T} {f:T -> Option TB} {r:TB} (e:qGM as f=some r):∃ a,as=[a]/\f a=some r:=by
 unfold qGM at e
 split at e
 ·exact ⟨_,rfl,e⟩
 ·cases e
noncomputable def twoT (as:List T) (f:Int -> Int -> Option TB):Option TB:=match as with
 | [a,b]=>(match a with
  | .v (.int i)=>(match b with | .v (.int j)=>f i j | _=>none)
  | _=>none)
 | _=>none
theorem twoT_inv {as:List T} {f:Int -> Int -> Option TB} {r:TB} (e:twoT as f=some r):∃ i j,as=[.v (.int i),.v (.int j)]/\f i j=some r:=by
 unfold twoT at e
 split at e
 ·split at e
  ·split at e
   ·exact ⟨_,_,rfl,e⟩
   ·cases e
  ·cases e
 ·cases e
noncomputable def qBy (M:Mem):BF -> List T -> Option TB
 | .len,as=>qGM as fun a=>(a.its M).map fun xs=>iT xs.length
 | .sum,as=>qGM as fun a=>(a.lis M).bind fun xs=>(qBd xs).map fun is=>iT is.sum
 | .all,as=>qGM as fun a=>(a.lis M).bind fun xs=>(qBn xs).map fun bs=>bT (bs.all id)
 | .any,as=>qGM as fun a=>(a.lis M).bind fun xs=>(qBn xs).map fun bs=>bT (bs.any id)
 | .max,as=>twoT as fun i j=>some (iT (if j > i then j else i))
 | .min,as=>twoT as fun i j=>some (iT (if j < i then j else i))
 | .abs,as=>qGM as fun a=>(match a with | .v (.int i)=>some (iT (if i < 0 then -i else i)) | _=>none)
 | .list,as=>qGM as fun a=>(a.its M).map lT
 | .int,as=>qGM as fun a=>(match a with | .v (.int i)=>some (iT i) | .v (.bl b)=>some (iT (if b then 1 else 0)) | _=>none)
 | .bits,as=>qGM as fun a=>(match a with | .v (.int i)=>some (iT ((PySem.Builtin.Int.intBits i:Nat):Int)) | _=>none)
noncomputable def T.isC (n:Nat):T -> Bool | .cell k=>decide (k=n) | _=>false
noncomputable def qGK:Mt -> Nat -> List T -> Mem -> Option (TB×Mem)
 | .pop,n,[],M=>(M[n]?).bind fun xs=>(xs[xs.length - 1]?).map fun y=>((y,y.lf),M.set n xs.dropLast)
 | .popAt,n,[.v (.int i)],M=>(M[n]?).bind fun xs=>if xs.length<=lim then (ixN xs.length i).bind fun k=>(xs[k]?).map fun y=>((y,y.lf),M.set n (xs.eraseIdx k)) else none
 | .rev,n,[],M=>(M[n]?).map fun xs=>((.v .non,true),M.set n xs.reverse)
 | .clr,n,[],M=>(M[n]?).map fun _=>((.v .non,true),M.set n [])
 | .rem,n,[.v (.int i)],M=>(M[n]?).bind fun xs=>if xs.length<=lim then ((qAs xs).bind fun is=>is.findIdx? (·==i)).map fun k=>((.v .non,true),M.set n (xs.eraseIdx k)) else none
 | .cnt,n,[.v y],M=>(M[n]?).bind fun xs=>(qCO xs).map fun vs=>(iT (vs.countP fun z=>L2.eqV z y:Nat),M)
 | .ext,n,[t],M=>(M[n]?).bind fun xs=>(t.mu M).bind fun ys=>if t.isC n=false/\xs.length + ys.length<=lim then some ((.v .non,true),M.set n (xs++ys)) else none
 | _,_,_,_=>none
noncomputable def qAc (M:Mem):T -> Option String
 | .v .non=>some "NoneType"
 | .v (.bl _)=>some "bool"
 | .v (.int _)=>some "int"
 | .v (.str _)=>some "str"
 | .v _=>none
 | .tup _=>some "tuple"
 | .cell n=>(M[n]?).map fun _=>"list"
 | .ob (.dct _)=>some "dict"
 | .ob _=>none
 | _=>some "list"
noncomputable def qFA (M:Mem) (x y:T):Option TB:=match y with
 | .v (.int i)=>(x.its M).bind fun xs=>(ixN xs.length i).bind fun j=>(xs[j]?).map fun t=>(t,t.lf)
 | _=>none
noncomputable def qIc:List Nat -> List T -> TS -> Option TS
 | [],[],σ=>some σ
 | i::is,x::xs,σ=>qIc is xs (σ.set i (some x))
 | _,_,_=>none
noncomputable def qA8:Tg -> T -> TS -> Option TS
 | .name i,t,σ=>some (σ.set i (some t))
 | .tup is,.tup ts,σ=>qIc is ts σ
 | .tup _,_,_=>none
noncomputable def qB9 (src:List (Option Nat)) (σ:TS):TS:=src.map fun o=>match o with | none=>none | some j=>(σ[j]?).join
noncomputable def qAe (lo:Int) (n:Nat):List T:=(List.range n).map fun (i:Nat)=>.v (.int (lo + (i:Int)))
noncomputable def qCx (lo:Int) (n:Nat):List T:=(List.range n).map fun (i:Nat)=>.v (.int (lo - (i:Int)))
noncomputable def qEO (M:Mem):T -> Option (List T×qCZ)
 | .lst ts=>some (ts,[])
 | .fz ts=>some (ts,[])
 | .tup ts=>some (ts,[])
 | .cell n=>(M[n]?).map fun ts=>(ts,[(n,ts)])
 | _=>none
noncomputable def qCG (M:Mem):T -> Option (List T×qCZ)
 | .lst ts=>some (ts,[])
 | .fz ts=>some (ts,[])
 | .cell n=>(M[n]?).map fun ts=>(ts,[(n,ts)])
 | _=>none
noncomputable def qCf:Nat -> List T -> List T
 | _,[]=>[]
 | i,t::ts=>.tup [.v (.int (i:Int)),t]::qCf (i + 1) ts
noncomputable def qBD:List T -> List T -> List T -> List T
 | x::xs,y::ys,z::zs=>.tup [x,y,z]::qBD xs ys zs
 | _,_,_=>[]
noncomputable def qAo (d:qCZ) (g:Tg) (c:TS -> Mem -> PR (Bool×Mem)) (e:TS -> Mem -> PR (TB×Mem)):List T -> List T -> Bool -> TS -> Mem -> PR (TB×Mem)
 | [],ys,f,_,M=>.ok ((.lst ys,f),M)
 | x::r,ys,f,σ,M=>match qA8 g x σ with
  | some σ1=>(c σ1 M).bind fun (b,M2)=>
   if b then (e σ1 M2).bind fun (y,M3)=>if ys.length < lim/\qAb d M3=true then qAo d g c e r (ys++[y.1]) (f&&y.2) σ1 M3 else .stuck
   else if qAb d M2=true then qAo d g c e r ys f σ1 M2 else .stuck
  | none=>.stuck
noncomputable def pB (r:PR (TB×Mem)):PR (Bool×Mem):=r.bind fun (x,M)=>match x.1 with | .v (.bl b)=>.ok (b,M) | _=>.stuck
section
variable (gl:List T) (P:Nat -> List T -> Mem -> PR (TB×Mem))
mutual
noncomputable def pe:E -> TS -> Mem -> PR (TB×Mem)
 | .var i=>fun σ M=>match σ[i]? with | some (some t)=>.ok ((t,t.lf),M) | _=>.stuck
 | .cst v=>fun _ M=>if flat v then .ok ((.v v,true),M) else .stuck
 | .glob g=>fun _ M=>match gl[g]? with | some t=>.ok ((t,t.lf),M) | none=>.stuck
 | .bin op a b=>fun σ M=>(pe a σ M).bind fun (x,M1)=>(pe b σ M1).bind fun (y,M2)=>(PR.ofO (qA4 M2 op x.1 y.1)).bind fun r=>.ok (r,M2)
 | .neg a=>fun σ M=>(pe a σ M).bind fun (x,M1)=>match x.1 with | .v (.int i)=>.ok (iT (-i),M1) | _=>.stuck
 | .cmp op a b=>fun σ M=>(pe a σ M).bind fun (x,M1)=>(pe b σ M1).bind fun (y,M2)=>(PR.ofO (qA5 M2 op x.1 y.1)).bind fun r=>.ok (bT r,M2)
 | .cmp2 o1 o2 a b c=>fun σ M=>(pe a σ M).bind fun (x,M1)=>(pe b σ M1).bind fun (y,M2)=>(PR.ofO (qA5 M2 o1 x.1 y.1)).bind fun r=>
  if r then (pe c σ M2).bind fun (z,M3)=>(PR.ofO (qA5 M3 o2 y.1 z.1)).bind fun r=>.ok (bT r,M3) else .ok (bT false,M2)
 | .cmp3 o1 o2 o3 a b c d=>fun σ M=>(pe a σ M).bind fun (x,M1)=>(pe b σ M1).bind fun (y,M2)=>(PR.ofO (qA5 M2 o1 x.1 y.1)).bind fun r=>
  if r then (pe c σ M2).bind fun (z,M3)=>(PR.ofO (qA5 M3 o2 y.1 z.1)).bind fun r=>(if r then (pe d σ M3).bind fun (w,M4)=>(PR.ofO (qA5 M4 o3 z.1 w.1)).bind fun r=>.ok (bT r,M4) else .ok (bT false,M3)) else .ok (bT false,M2)
 | .and a b=>fun σ M=>(pB (pe a σ M)).bind fun (x,M1)=>if x then pe b σ M1 else .ok (bT false,M1)
 | .or a b=>fun σ M=>(pB (pe a σ M)).bind fun (x,M1)=>if x then .ok (bT true,M1) else pe b σ M1
 | .not a=>fun σ M=>(pB (pe a σ M)).bind fun (x,M1)=>.ok (bT (!x),M1)
 | .ite c a b=>fun σ M=>(pB (pe c σ M)).bind fun (x,M1)=>if x then pe a σ M1 else pe b σ M1
 | .call f as=>fun σ M=>(pes as σ M).bind fun (xs,M1)=>(P f (xs.map (·.1)) M1).nx
 | .blt f as=>fun σ M=>(pes as σ M).bind fun (xs,M1)=>(PR.ofO (qBy M1 f (xs.map (·.1)))).bind fun r=>.ok (r,M1)
 | .isi a ts=>fun σ M=>(pe a σ M).bind fun (x,M1)=>(PR.ofO (qAc M1 x.1)).bind fun t=>.ok (bT (ts.any (qB5 t)),M1)
 | .idx a b=>fun σ M=>(pe a σ M).bind fun (x,M1)=>(pe b σ M1).bind fun (y,M2)=>(PR.ofO (qFA M2 x.1 y.1)).bind fun r=>.ok (r,M2)
 | .sl a lo hi=>fun σ M=>(pe a σ M).bind fun (x,M1)=>(pes lo σ M1).bind fun (l,M2)=>(pes hi σ M2).bind fun (u,M3)=>
  (PR.ofO (x.1.its M3)).bind fun xs=>(PR.ofO (qAs (l.map (·.1)))).bind fun l=>(PR.ofO (qAs (u.map (·.1)))).bind fun u=>(PR.ofO (qHt x.1 xs l.head? u.head?)).bind fun r=>.ok (r,M3)
 | .lst as=>fun σ M=>(pes as σ M).bind fun (xs,M1)=>if xs.length<=lim then .ok ((.lst (xs.map (·.1)),xs.all (·.2)),M1) else .stuck
 | .tup as=>fun σ M=>(pes as σ M).bind fun (xs,M1)=>if xs.length<=lim then .ok ((.tup (xs.map (·.1)),xs.all (·.2)),M1) else .stuck
 | .comp it src g c e=>fun σ M=>(pei it σ M).bind fun (s,M1)=>qAo s.2 g (pec c) (pe e) s.1 [] true (qB9 src σ) M1
 | .app a b=>fun σ M=>(pe a σ M).bind fun (x,M1)=>match x.1 with
  | .cell n=>(pe b σ M1).bind fun (y,M2)=>match M2[n]? with
   | some xs=>if xs.length < lim then .ok ((.v .non,true),M2.set n (xs++[y.1])) else .stuck
   | none=>.stuck
  | _=>.stuck
 | .lrng2 a b=>fun σ M=>(pe a σ M).bind fun (x,M1)=>(pe b σ M1).bind fun (y,M2)=>match x.1,y.1 with | .v (.int i),.v (.int j)=>if -1000000<=i/\-1000000<=j/\i<=100000/\j<=100000/\j - i<=100000 then .ok ((.lst (qAe i (j - i).toNat),true),M2) else .stuck | _,_=>.stuck
 | .lrng a=>fun σ M=>(pe a σ M).bind fun (x,M1)=>match x.1 with | .v (.int j)=>if -1000000<=j/\j<=100000 then .ok ((.lst (qAe 0 j.toNat),true),M1) else .stuck | _=>.stuck
 | .dnew=>fun _ M=>.ok ((.ob (.dct []),true),M)
 | .meth m a as=>fun σ M=>(pe a σ M).bind fun (x,M1)=>match x.1 with
  | .cell n=>(pes as σ M1).bind fun (ys,M2)=>PR.ofO (qGK m n (ys.map (·.1)) M2)
  | _=>.stuck
noncomputable def pes:Es -> TS -> Mem -> PR (List TB×Mem)
 | .nil=>fun _ M=>.ok ([],M)
 | .cons a as=>fun σ M=>(pe a σ M).bind fun (x,M1)=>(pes as σ M1).bind fun (xs,M2)=>.ok (x::xs,M2)
noncomputable def pec:Es -> TS -> Mem -> PR (Bool×Mem)
 | .nil=>fun _ M=>.ok (true,M)
 | .cons a _=>fun σ M=>pB (pe a σ M)
noncomputable def pei:Itr -> TS -> Mem -> PR ((List T×qCZ)×Mem)
 | .list a=>fun σ M=>(pe a σ M).bind fun (x,M1)=>(PR.ofO (qEO M1 x.1)).bind fun s=>.ok (s,M1)
 | .rng1 a=>fun σ M=>(pe a σ M).bind fun (x,M1)=>match x.1 with | .v (.int j)=>if -1000000<=j/\j<=1000000 then .ok ((qAe 0 j.toNat,[]),M1) else .stuck | _=>.stuck
 | .rng2 a b=>fun σ M=>(pe a σ M).bind fun (x,M1)=>(pe b σ M1).bind fun (y,M2)=>match x.1,y.1 with
  | .v (.int i),.v (.int j)=>if (-1000000<=i/\i<=1000000)/\-1000000<=j/\j<=1000000 then .ok ((qAe i (j - i).toNat,[]),M2) else .stuck
  | _,_=>.stuck
 | .zip a b=>fun σ M=>(pe a σ M).bind fun (x,M1)=>(pe b σ M1).bind fun (y,M2)=>(PR.ofO (qCG M2 x.1)).bind fun s=>(PR.ofO (qCG M2 y.1)).bind fun t=>
  .ok ((List.zipWith (fun a b=>T.tup [a,b]) s.1 t.1,s.2++t.2),M2)
 | .zip3 a b c=>fun σ M=>(pe a σ M).bind fun (x,M1)=>(pe b σ M1).bind fun (y,M2)=>(pe c σ M2).bind fun (z,M3)=>(PR.ofO (qCG M3 x.1)).bind fun s=>(PR.ofO (qCG M3 y.1)).bind fun t=>(PR.ofO (qCG M3 z.1)).bind fun u=>
  .ok ((qBD s.1 t.1 u.1,s.2++(t.2++u.2)),M3)
 | .enum a=>fun σ M=>(pe a σ M).bind fun (x,M1)=>(PR.ofO (qCG M1 x.1)).bind fun s=>.ok ((qCf 0 s.1,s.2),M1)
 | .revd a=>fun σ M=>(pe a σ M).bind fun (x,M1)=>(PR.ofO (qCG M1 x.1)).bind fun s=>.ok ((s.1.reverse,s.2),M1)
 | .rvr a=>fun σ M=>(pe a σ M).bind fun (x,M1)=>match x.1 with
  | .v (.int j)=>if 0<=j/\j<=1000000 then .ok ((qCx (j - 1) j.toNat,[]),M1) else .stuck
  | _=>.stuck
end
inductive PO | nx (σ:TS) | rt (t:TB) | bk (σ:TS) | ct (σ:TS)
noncomputable abbrev RSt:=PR (PO×Mem)
noncomputable def qBV (d:qCZ) (g:Tg) (b:TS -> Mem -> RSt):List T -> TS -> Mem -> RSt
 | [],σ,M=>.ok (.nx σ,M)
 | x::r,σ,M=>match qA8 g x σ with
  | some σ1=>(b σ1 M).bind fun (o,M2)=>match o with
   | .nx σ2=>if qAb d M2=true then qBV d g b r σ2 M2 else .stuck
   | .ct σ2=>if qAb d M2=true then qBV d g b r σ2 M2 else .stuck
   | .bk σ2=>.ok (.nx σ2,M2)
   | .rt t=>.ok (.rt t,M2)
  | none=>.stuck
noncomputable def qB0 (c:TS -> Mem -> PR (Bool×Mem)) (b:TS -> Mem -> RSt):Nat -> TS -> Mem -> RSt
 | 0,_,_=>.stuck
 | n + 1,σ,M=>(c σ M).bind fun (t,M1)=>if t then (b σ M1).bind fun (o,M2)=>match o with
   | .nx σ2=>qB0 c b n σ2 M2
   | .ct σ2=>qB0 c b n σ2 M2
   | .bk σ2=>.ok (.nx σ2,M2)
   | .rt t=>.ok (.rt t,M2)
  else .ok (.nx σ,M1)
mutual
noncomputable def thaw (n:Nat):T -> T×Mem
 | .lst ts=>let r:=qCW n ts;(.cell (n + r.2.length),r.2++[r.1])
 | .tup ts=>let r:=qCW n ts;(.tup r.1,r.2)
 | t=>(t,[])
noncomputable def qCW (n:Nat):List T -> List T×Mem
 | []=>([],[])
 | t::ts=>let r:=thaw n t;let q:=qCW (n + r.2.length) ts;(r.1::q.1,r.2++q.2)
end
noncomputable def qIh:E -> Bool
 | .bin .add _ _=>true
 | .lst _=>true
 | _=>false
variable (C:List Nat)
mutual
noncomputable def px:S -> TS -> Mem -> RSt
 | .asg g e=>fun σ M=>(pe gl P e σ M).bind fun (x,M1)=>match g with
  | .name i=>if C.contains i&&x.2 then .ok (.nx (σ.set i (some (thaw M1.length x.1).1)),M1++(thaw M1.length x.1).2) else if C.contains (i + 1000)&&qIh e then (match x.1 with | .lst ts=>.ok (.nx (σ.set i (some (.cell M1.length))),M1++[ts]) | _=>.stuck) else .ok (.nx (σ.set i (some x.1)),M1)
  | g=>match qA8 g x.1 σ with | some σ1=>.ok (.nx σ1,M1) | none=>.stuck
 | .par i j a b=>fun σ M=>(pe gl P a σ M).bind fun (x,M1)=>(pe gl P b σ M1).bind fun (y,M2)=>.ok (.nx ((σ.set i (some x.1)).set j (some y.1)),M2)
 | .put o i v=>fun σ M=>(pe gl P v σ M).bind fun (x,M1)=>(pe gl P o σ M1).bind fun (p,M2)=>(pe gl P i σ M2).bind fun (k,M3)=>match p.1,k.1 with
  | .cell n,.v (.int k)=>match M3[n]? with
   | some xs=>match ixN xs.length k with | some j=>.ok (.nx σ,M3.set n (xs.set j x.1)) | none=>.stuck
   | none=>.stuck
  | _,_=>.stuck
 | .expr e=>fun σ M=>(pe gl P e σ M).bind fun (_,M1)=>.ok (.nx σ,M1)
 | .ret e=>fun σ M=>(pe gl P e σ M).bind fun (x,M1)=>.ok (.rt x,M1)
 | .retc as e=>fun σ M=>(pes gl P as σ M).bind fun (xs,M1)=>(pe gl P e σ M1).bind fun (y,M2)=>if y.2=true/\xs.length < lim then .ok (.rt (.tup (xs.map (·.1)++[(thaw M2.length y.1).1]),false),M2++(thaw M2.length y.1).2) else .stuck
 | .ifs c t u=>fun σ M=>(pB (pe gl P c σ M)).bind fun (x,M1)=>if x then pxs t σ M1 else pxs u σ M1
 | .for_ g it b=>fun σ M=>(pei gl P it σ M).bind fun (s,M1)=>qBV s.2 g (pxs b) s.1 σ M1
 | .while_ c b=>fun σ M=>qB0 (fun σ M=>pB (pe gl P c σ M)) (pxs b) qJh σ M
 | .stop=>fun _ _=>.stuck
noncomputable def pxs:Ss -> TS -> Mem -> RSt
 | .nil=>fun σ M=>.ok (.nx σ,M)
 | .cons s r=>fun σ M=>(px s σ M).bind fun (o,M1)=>match o with
  | .nx σ1=>pxs r σ1 M1
  | o=>.ok (o,M1)
end
end
noncomputable def qAg (M:Mem) (n0:Nat):Nat -> T -> Option T
 | 0,t=>if t.und n0 then some t else none
 | d + 1,t=>if t.und n0 then some t else match t with
  | .lst ts=>(ts.mapM (qAg M n0 d)).map .lst
  | .tup ts=>(ts.mapM (qAg M n0 d)).map .tup
  | .cell n=>(M[n]?).bind fun ts=>(ts.mapM (qAg M n0 d)).map .lst
  | _=>none
noncomputable def qCh (M:Mem) (n0:Nat):Nat -> T -> Option (List Nat)
 | 0,t=>if t.lf then some [] else none
 | d + 1,t=>if t.lf then some [] else match t with
  | .tup ts=>(ts.mapM (qCh M n0 d)).map List.flatten
  | .cell n=>if n0<=n then (M[n]?).bind fun ts=>(ts.mapM (qCh M n0 d)).map fun l=>l.flatten++[n] else none
  | _=>none
noncomputable def frR (M:Mem) (n0:Nat) (t:T):Bool:=match qCh M n0 6 t with | some l=>decide l.Nodup | none=>false
noncomputable def qB8 (n0:Nat) (x:TB) (M:Mem):PR (TB×Mem):=
 if M.length=n0 then .ok (x,M) else if (M.take n0).all (T.unds n0) then (PR.ofO (qAg M n0 6 x.1)).bind fun t=>.ok ((t,x.2||frR M n0 x.1),M.take n0) else .stuck
noncomputable def qGV (n0:Nat):RSt -> PR (TB×Mem)
 | .ok (.nx _,M1)=>qB8 n0 (.v .non,true) M1
 | .ok (.rt t,M1)=>qB8 n0 t M1
 | .ok (_,_)=>.stuck
 | .exc c M1=>if M1.length=n0 then .exc c M1 else if (M1.take n0).all (T.unds n0) then .exc c (M1.take n0) else .stuck
 | .stuck=>.stuck
noncomputable def Pk (gl:List T) (tb:List Fn) (Cs:List (List Nat)):Nat -> Nat -> List T -> Mem -> PR (TB×Mem)
 | 0,_,_,_=>.stuck
 | k + 1,f,vs,M=>match tb[f]? with
  | some d=>if vs.length=d.npar/\d.npar<=d.nslot then qGV M.length (pxs gl (Pk gl tb Cs k) (Cs.getD f []) d.body (vs.map some++List.replicate (d.nslot - d.npar) none) M)
   else .stuck
  | none=>.stuck
end PI
namespace PI
open L2 (V)
noncomputable def qBa {α β:Type} (R:α -> β -> Prop):List α -> List β -> Prop
 | [],vs=>vs=[]
 | t::ts,vs=>∃ v vs',vs=v::vs'/\R t v/\qBa R ts vs'
section
variable {α β:Type} {R:α -> β -> Prop}
theorem qAB:∀ {xs:List α} {ys:List β},qBa R xs ys -> xs.length=ys.length
 | [],_,h=>by cases h;rfl
 | x::xs,_,⟨v,vs,rfl,_,h⟩=>by simp [qAB h]
theorem qAY:∀ {xs:List α} {ys:List β} {i:Nat} {x:α},qBa R xs ys -> xs[i]?=some x -> ∃ y,ys[i]?=some y/\R x y
 | [],_,i,x,h,e=>by simp at e
 | x::xs,_,0,x',⟨v,vs,rfl,r,h⟩,e=>⟨v,rfl,by simp at e;subst e;exact r⟩
 | x::xs,_,i + 1,x',⟨v,vs,rfl,r,h⟩,e=>by
  obtain ⟨y,e1,r1⟩:=qAY (i:=i) h (by simpa using e)
  exact ⟨y,by simpa using e1,r1⟩
theorem qAh:∀ {xs:List α} {ys:List β} {xs':List α} {ys':List β},qBa R xs ys -> qBa R xs' ys' -> qBa R (xs++xs') (ys++ys')
 | [],_,_,_,h,k=>by cases h;exact k
 | x::xs,_,_,_,⟨v,vs,rfl,r,h⟩,k=>⟨v,vs++_,rfl,r,qAh h k⟩
theorem qA1:∀ (n:Nat) {xs:List α} {ys:List β},qBa R xs ys -> qBa R (xs.take n) (ys.take n)
 | 0,_,_,_=>by simp [qBa]
 | n + 1,[],_,h=>by cases h;simp [qBa]
 | n + 1,x::xs,_,⟨v,vs,rfl,r,h⟩=>⟨v,vs.take n,rfl,r,qA1 n h⟩
theorem qCX:∀ (n:Nat) {xs:List α} {ys:List β},qBa R xs ys -> qBa R (xs.drop n) (ys.drop n)
 | 0,_,_,h=>h
 | n + 1,[],_,h=>by cases h;simp [qBa]
 | n + 1,x::xs,_,⟨v,vs,rfl,r,h⟩=>qCX n h
theorem qAy:∀ {xs:List α} {ys:List β} (j:Nat) {x:α} {y:β},qBa R xs ys -> R x y -> qBa R (xs.set j x) (ys.set j y)
 | [],_,j,_,_,h,r=>by cases h;simp [qBa]
 | x::xs,_,0,_,_,⟨v,vs,rfl,r0,h⟩,r=>⟨_,vs,rfl,r,h⟩
 | x::xs,_,j + 1,_,_,⟨v,vs,rfl,r0,h⟩,r=>⟨v,vs.set j _,rfl,r0,qAy j h r⟩
theorem qGg (n:Nat) {xs:List α} {ys:List β} (h:qBa R xs ys):qBa R (List.replicate n xs).flatten (List.replicate n ys).flatten:=by
 induction n with
 | zero=>simp [qBa]
 | succ n ih=>simp only [List.replicate_succ,List.flatten_cons];exact qAh h ih
theorem qDo {S:α -> β -> Prop} (f:∀ x y,R x y -> S x y):∀ {xs:List α} {ys:List β},qBa R xs ys -> qBa S xs ys
 | [],_,h=>h
 | x::xs,_,⟨v,vs,rfl,r,h⟩=>⟨v,vs,rfl,f _ _ r,qDo f h⟩
end
mutual
noncomputable def Rep (A X:List Nat) (h:AH):T -> V -> Prop
 | .v x,w=>w=x/\flat x=true
 | .cell n,w=>∃ a:Nat,A[n]?=some a/\w=.ref a
 | .fz ts,w=>∃ a vs,w=.ref a/\a∉X/\h[a]?=some (.lst true vs)/\qAK A X h ts vs
 | .lst ts,w=>∃ a vs,w=.ref a/\a∉X/\h[a]?=some (.lst false vs)/\qAK A X h ts vs
 | .tup ts,w=>∃ a vs,w=.ref a/\a∉X/\h[a]?=some (.tup vs)/\qAK A X h ts vs
 | .ob o,w=>∃ a,w=.ref a/\a∉X/\h[a]?=some (.ob o)
noncomputable def qAK (A X:List Nat) (h:AH):List T -> List V -> Prop
 | [],vs=>vs=[]
 | t::ts,vs=>∃ v vs',vs=v::vs'/\Rep A X h t v/\qAK A X h ts vs'
end
theorem reps_iff {A X:List Nat} {h:AH}:∀ {ts:List T} {vs:List V},qAK A X h ts vs↔qBa (Rep A X h) ts vs
 | [],vs=>by unfold qAK qBa;rfl
 | t::ts,vs=>by
  unfold qAK qBa
  constructor
  ·rintro ⟨v,vs',e,r,k⟩;exact ⟨v,vs',e,r,reps_iff.mp k⟩
  ·rintro ⟨v,vs',e,r,k⟩;exact ⟨v,vs',e,r,reps_iff.mpr k⟩
mutual
noncomputable def FP (X:List Nat) (h:AH):T -> V -> List Nat -> Prop
 | .v x,w,fp=>(w=x/\flat x=true)/\fp=[]
 | .lst ts,w,fp=>∃ a vs f,w=.ref a/\a∉X/\h[a]?=some (.lst false vs)/\FPs X h ts vs f/\fp=f++[a]
 | .tup ts,w,fp=>∃ a vs,w=.ref a/\a∉X/\h[a]?=some (.tup vs)/\FPs X h ts vs fp
 | .ob o,w,fp=>(∃ a,w=.ref a/\a∉X/\h[a]?=some (.ob o))/\fp=[]
 | .fz _,_,_=>False
 | .cell _,_,_=>False
noncomputable def FPs (X:List Nat) (h:AH):List T -> List V -> List Nat -> Prop
 | [],vs,fp=>vs=[]/\fp=[]
 | t::ts,vs,fp=>∃ v vs' f1 f2,vs=v::vs'/\FP X h t v f1/\FPs X h ts vs' f2/\fp=f1++f2
end
mutual
theorem qAt {A X A' X':List Nat} {h h':AH} (hc:∀ (n:Nat) a,A[n]?=some a -> A'[n]?=some a) (hn:∀ a o,a∉X -> h[a]?=some o -> a∉X'/\h'[a]?=some o):∀ (t:T) {w:V},Rep A X h t w -> Rep A' X' h' t w
 | .v x,w,r=>by unfold Rep at r ⊢;exact r
 | .cell n,w,r=>by unfold Rep at r ⊢;obtain ⟨a,e,q⟩:=r;exact ⟨a,hc _ _ e,q⟩
 | .fz ts,w,r=>by unfold Rep at r ⊢;obtain ⟨a,vs,e,q1,q2,q3⟩:=r;exact ⟨a,vs,e,(hn _ _ q1 q2).1,(hn _ _ q1 q2).2,qAN hc hn ts q3⟩
 | .lst ts,w,r=>by unfold Rep at r ⊢;obtain ⟨a,vs,e,q1,q2,q3⟩:=r;exact ⟨a,vs,e,(hn _ _ q1 q2).1,(hn _ _ q1 q2).2,qAN hc hn ts q3⟩
 | .tup ts,w,r=>by unfold Rep at r ⊢;obtain ⟨a,vs,e,q1,q2,q3⟩:=r;exact ⟨a,vs,e,(hn _ _ q1 q2).1,(hn _ _ q1 q2).2,qAN hc hn ts q3⟩
 | .ob o,w,r=>by unfold Rep at r ⊢;obtain ⟨a,e,q1,q2⟩:=r;exact ⟨a,e,(hn _ _ q1 q2).1,(hn _ _ q1 q2).2⟩
theorem qAN {A X A' X':List Nat} {h h':AH} (hc:∀ (n:Nat) a,A[n]?=some a -> A'[n]?=some a) (hn:∀ a o,a∉X -> h[a]?=some o -> a∉X'/\h'[a]?=some o):∀ (ts:List T) {ws:List V},qAK A X h ts ws -> qAK A' X' h' ts ws
 | [],w,r=>by unfold qAK at r ⊢;exact r
 | t::ts,w,r=>by unfold qAK at r ⊢;obtain ⟨v,vs,e,q1,q2⟩:=r;exact ⟨v,vs,e,qAt hc hn t q1,qAN hc hn ts q2⟩
end
mutual
theorem qCz {X X':List Nat} {h h':AH} (hn:∀ a o,a∉X -> h[a]?=some o -> a∉X'/\h'[a]?=some o):∀ (t:T) {w:V} {fp:List Nat},FP X h t w fp -> FP X' h' t w fp
 | .v x,w,_,r=>by unfold FP at r ⊢;exact r
 | .cell n,w,_,r=>by unfold FP at r;exact r.elim
 | .fz ts,w,_,r=>by unfold FP at r;exact r.elim
 | .lst ts,w,_,r=>by unfold FP at r ⊢;obtain ⟨a,vs,f,e,q1,q2,q3,q4⟩:=r;exact ⟨a,vs,f,e,(hn _ _ q1 q2).1,(hn _ _ q1 q2).2,qA6 hn ts q3,q4⟩
 | .tup ts,w,_,r=>by unfold FP at r ⊢;obtain ⟨a,vs,e,q1,q2,q3⟩:=r;exact ⟨a,vs,e,(hn _ _ q1 q2).1,(hn _ _ q1 q2).2,qA6 hn ts q3⟩
 | .ob o,w,_,r=>by unfold FP at r ⊢;obtain ⟨⟨a,e,q1,q2⟩,q3⟩:=r;exact ⟨⟨a,e,(hn _ _ q1 q2).1,(hn _ _ q1 q2).2⟩,q3⟩
theorem qA6 {X X':List Nat} {h h':AH} (hn:∀ a o,a∉X -> h[a]?=some o -> a∉X'/\h'[a]?=some o):∀ (ts:List T) {ws:List V} {fp:List Nat},FPs X h ts ws fp -> FPs X' h' ts ws fp
 | [],w,_,r=>by unfold FPs at r ⊢;exact r
 | t::ts,w,_,r=>by unfold FPs at r ⊢;obtain ⟨v,vs,f1,f2,e,q1,q2,q3⟩:=r;exact ⟨v,vs,f1,f2,e,qCz hn t q1,qA6 hn ts q2,q3⟩
end
mutual
theorem qJD {A X:List Nat} {h:AH}:∀ (t:T) {w:V} {fp:List Nat},FP X h t w fp -> Rep A X h t w
 | .v x,w,_,r=>by unfold FP at r;unfold Rep;exact r.1
 | .cell n,w,_,r=>by unfold FP at r;exact r.elim
 | .fz ts,w,_,r=>by unfold FP at r;exact r.elim
 | .lst ts,w,_,r=>by unfold FP at r;unfold Rep;obtain ⟨a,vs,f,e,q1,q2,q3,q4⟩:=r;exact ⟨a,vs,e,q1,q2,qEB ts q3⟩
 | .tup ts,w,_,r=>by unfold FP at r;unfold Rep;obtain ⟨a,vs,e,q1,q2,q3⟩:=r;exact ⟨a,vs,e,q1,q2,qEB ts q3⟩
 | .ob o,w,_,r=>by unfold FP at r;unfold Rep;exact r.1
theorem qEB {A X:List Nat} {h:AH}:∀ (ts:List T) {ws:List V} {fp:List Nat},FPs X h ts ws fp -> qAK A X h ts ws
 | [],w,_,r=>by unfold FPs at r;unfold qAK;exact r.1
 | t::ts,w,_,r=>by unfold FPs at r;unfold qAK;obtain ⟨v,vs,f1,f2,e,q1,q2,q3⟩:=r;exact ⟨v,vs,e,qJD t q1,qEB ts q2⟩
end
mutual
theorem qHR {X:List Nat} {h:AH} (n:Nat):∀ (t:T) {w:V} {fp:List Nat},FP X h t w fp -> t.und n=true
 | .v x,w,_,r=>rfl
 | .cell n,w,_,r=>by unfold FP at r;exact r.elim
 | .fz ts,w,_,r=>by unfold FP at r;exact r.elim
 | .lst ts,w,_,r=>by unfold FP at r;obtain ⟨a,vs,f,e,q1,q2,q3,q4⟩:=r;exact qD3 n ts q3
 | .tup ts,w,_,r=>by unfold FP at r;obtain ⟨a,vs,e,q1,q2,q3⟩:=r;exact qD3 n ts q3
 | .ob o,w,_,r=>rfl
theorem qD3 {X:List Nat} {h:AH} (n:Nat):∀ (ts:List T) {ws:List V} {fp:List Nat},FPs X h ts ws fp -> T.unds n ts=true
 | [],w,_,r=>rfl
 | t::ts,w,_,r=>by unfold FPs at r;obtain ⟨v,vs,f1,f2,e,q1,q2,q3⟩:=r;unfold T.unds;rw [qHR n t q1,qD3 n ts q2];rfl
end
mutual
theorem qEX {X:List Nat} {h:AH}:∀ (t:T) {w:V} {fp:List Nat},FP X h t w fp -> ∀ a∈fp,a∉X/\∃ vs,h[a]?=some (.lst false vs)
 | .v x,w,_,r=>by unfold FP at r;obtain ⟨_,rfl⟩:=r;intro a ha;simp at ha
 | .cell n,w,_,r=>by unfold FP at r;exact r.elim
 | .fz ts,w,_,r=>by unfold FP at r;exact r.elim
 | .lst ts,w,_,r=>by
  unfold FP at r;obtain ⟨a,vs,f,e,q1,q2,q3,rfl⟩:=r
  intro b hb
  rcases List.mem_append.mp hb with hb | hb
  ·exact qB2 ts q3 b hb
  ·simp at hb;subst hb;exact ⟨q1,vs,q2⟩
 | .tup ts,w,_,r=>by unfold FP at r;obtain ⟨a,vs,e,q1,q2,q3⟩:=r;exact qB2 ts q3
 | .ob o,w,_,r=>by unfold FP at r;obtain ⟨_,rfl⟩:=r;intro a ha;simp at ha
theorem qB2 {X:List Nat} {h:AH}:∀ (ts:List T) {ws:List V} {fp:List Nat},FPs X h ts ws fp -> ∀ a∈fp,a∉X/\∃ vs,h[a]?=some (.lst false vs)
 | [],w,_,r=>by unfold FPs at r;obtain ⟨_,rfl⟩:=r;intro a ha;simp at ha
 | t::ts,w,_,r=>by
  unfold FPs at r;obtain ⟨v,vs,f1,f2,e,q1,q2,rfl⟩:=r
  intro b hb
  rcases List.mem_append.mp hb with hb | hb
  ·exact qEX t q1 b hb
  ·exact qB2 ts q2 b hb
end
mutual
theorem qHc {A X:List Nat} {h:AH}:∀ (t:T) {w:V},Rep A X h t w -> t.lf=true -> FP X h t w []
 | .v x,w,r,l=>by unfold Rep at r;unfold FP;exact ⟨r,rfl⟩
 | .cell n,w,r,l=>by unfold T.lf at l;cases l
 | .fz ts,w,r,l=>by unfold T.lf at l;cases l
 | .lst ts,w,r,l=>by unfold T.lf at l;cases l
 | .tup ts,w,r,l=>by unfold Rep at r;unfold FP;obtain ⟨a,vs,e,q1,q2,q3⟩:=r;exact ⟨a,vs,e,q1,q2,qFu ts q3 (by unfold T.lf at l;exact l)⟩
 | .ob o,w,r,l=>by unfold Rep at r;unfold FP;exact ⟨r,rfl⟩
theorem qFu {A X:List Nat} {h:AH}:∀ (ts:List T) {ws:List V},qAK A X h ts ws -> T.lfs ts=true -> FPs X h ts ws []
 | [],w,r,l=>by unfold qAK at r;unfold FPs;exact ⟨r,rfl⟩
 | t::ts,w,r,l=>by
  unfold qAK at r;unfold FPs;obtain ⟨v,vs,e,q1,q2⟩:=r
  unfold T.lfs at l;simp only [Bool.and_eq_true] at l
  exact ⟨v,vs,[],[],e,qHc t q1 l.1,qFu ts q2 l.2,rfl⟩
end
mutual
theorem qFq {A X A1 X1:List Nat} {h:AH} {n0:Nat} (hc:∀ n,n < n0 -> A1[n]?=A[n]?) (hX:∀ a∈X,a∈X1):∀ (t:T) {w:V},Rep A1 X1 h t w -> t.und n0=true -> Rep A X h t w
 | .v x,w,r,u=>by unfold Rep at r ⊢;exact r
 | .cell n,w,r,u=>by
  unfold Rep at r ⊢;obtain ⟨a,e,q⟩:=r
  unfold T.und at u
  exact ⟨a,(hc n (by simpa using u)).symm.trans e,q⟩
 | .fz ts,w,r,u=>by unfold Rep at r ⊢;obtain ⟨a,vs,e,q1,q2,q3⟩:=r;exact ⟨a,vs,e,fun z=>q1 (hX _ z),q2,qBp hc hX ts q3 (by unfold T.und at u;exact u)⟩
 | .lst ts,w,r,u=>by unfold Rep at r ⊢;obtain ⟨a,vs,e,q1,q2,q3⟩:=r;exact ⟨a,vs,e,fun z=>q1 (hX _ z),q2,qBp hc hX ts q3 (by unfold T.und at u;exact u)⟩
 | .tup ts,w,r,u=>by unfold Rep at r ⊢;obtain ⟨a,vs,e,q1,q2,q3⟩:=r;exact ⟨a,vs,e,fun z=>q1 (hX _ z),q2,qBp hc hX ts q3 (by unfold T.und at u;exact u)⟩
 | .ob o,w,r,u=>by unfold Rep at r ⊢;obtain ⟨a,e,q1,q2⟩:=r;exact ⟨a,e,fun z=>q1 (hX _ z),q2⟩
theorem qBp {A X A1 X1:List Nat} {h:AH} {n0:Nat} (hc:∀ n,n < n0 -> A1[n]?=A[n]?) (hX:∀ a∈X,a∈X1):∀ (ts:List T) {ws:List V},qAK A1 X1 h ts ws -> T.unds n0 ts=true -> qAK A X h ts ws
 | [],w,r,u=>by unfold qAK at r ⊢;exact r
 | t::ts,w,r,u=>by
  unfold qAK at r ⊢;obtain ⟨v,vs,e,q1,q2⟩:=r
  unfold T.unds at u;simp only [Bool.and_eq_true] at u
  exact ⟨v,vs,e,qFq hc hX t q1 u.1,qBp hc hX ts q2 u.2⟩
end
theorem qBU {x:V} {a:Nat} (h:flat x=true) (e:V.ref a=x):False:=by subst e;cases h
mutual
theorem qFi {A X:List Nat} {h:AH} (nd:A.Nodup) (hs:∀ a∈A,a∈X):∀ (s t:T) {w:V},Rep A X h s w -> Rep A X h t w -> s=t
 | .v x,t,w,r,q=>by
  unfold Rep at r;obtain ⟨rfl,f⟩:=r
  cases t with
  | v y=>unfold Rep at q;obtain ⟨rfl,_⟩:=q;rfl
  | cell n=>unfold Rep at q;obtain ⟨a,_,e⟩:=q;subst e;cases f
  | fz ts=>unfold Rep at q;obtain ⟨a,vs,e,_⟩:=q;subst e;cases f
  | lst ts=>unfold Rep at q;obtain ⟨a,vs,e,_⟩:=q;subst e;cases f
  | tup ts=>unfold Rep at q;obtain ⟨a,vs,e,_⟩:=q;subst e;cases f
  | ob o=>unfold Rep at q;obtain ⟨a,e,_⟩:=q;subst e;cases f
 | .cell n,t,w,r,q=>by
  unfold Rep at r;obtain ⟨a,ea,rfl⟩:=r
  have am:a∈X:=hs _ (List.mem_of_getElem? ea)
  cases t with
  | v y=>unfold Rep at q;obtain ⟨e,f⟩:=q;exact (qBU f e).elim
  | cell m=>
   unfold Rep at q;obtain ⟨b,eb,e⟩:=q;cases e
   have:n=m:=(List.getElem?_inj (by exact (List.getElem?_eq_some_iff.mp ea).1) nd).mp (ea.trans eb.symm)
   rw [this]
  | fz ts=>unfold Rep at q;obtain ⟨b,vs,e,k,_⟩:=q;cases e;exact (k am).elim
  | lst ts=>unfold Rep at q;obtain ⟨b,vs,e,k,_⟩:=q;cases e;exact (k am).elim
  | tup ts=>unfold Rep at q;obtain ⟨b,vs,e,k,_⟩:=q;cases e;exact (k am).elim
  | ob o=>unfold Rep at q;obtain ⟨b,e,k,_⟩:=q;cases e;exact (k am).elim
 | .fz ss,t,w,r,q=>by
  unfold Rep at r;obtain ⟨a,vs,rfl,k1,k2,k3⟩:=r
  cases t with
  | v y=>unfold Rep at q;obtain ⟨e,f⟩:=q;exact (qBU f e).elim
  | cell m=>unfold Rep at q;obtain ⟨b,eb,e⟩:=q;cases e;exact (k1 (hs _ (List.mem_of_getElem? eb))).elim
  | fz ts=>unfold Rep at q;obtain ⟨b,vs',e,z1,z2,z3⟩:=q;cases e;rw [k2] at z2;cases z2;rw [qCE nd hs ss ts k3 z3]
  | lst ts=>unfold Rep at q;obtain ⟨b,vs',e,z1,z2,z3⟩:=q;cases e;rw [k2] at z2;cases z2
  | tup ts=>unfold Rep at q;obtain ⟨b,vs',e,z1,z2,z3⟩:=q;cases e;rw [k2] at z2;cases z2
  | ob o=>unfold Rep at q;obtain ⟨b,e,z1,z2⟩:=q;cases e;rw [k2] at z2;cases z2
 | .lst ss,t,w,r,q=>by
  unfold Rep at r;obtain ⟨a,vs,rfl,k1,k2,k3⟩:=r
  cases t with
  | v y=>unfold Rep at q;obtain ⟨e,f⟩:=q;exact (qBU f e).elim
  | cell m=>unfold Rep at q;obtain ⟨b,eb,e⟩:=q;cases e;exact (k1 (hs _ (List.mem_of_getElem? eb))).elim
  | lst ts=>unfold Rep at q;obtain ⟨b,vs',e,z1,z2,z3⟩:=q;cases e;rw [k2] at z2;cases z2;rw [qCE nd hs ss ts k3 z3]
  | fz ts=>unfold Rep at q;obtain ⟨b,vs',e,z1,z2,z3⟩:=q;cases e;rw [k2] at z2;cases z2
  | tup ts=>unfold Rep at q;obtain ⟨b,vs',e,z1,z2,z3⟩:=q;cases e;rw [k2] at z2;cases z2
  | ob o=>unfold Rep at q;obtain ⟨b,e,z1,z2⟩:=q;cases e;rw [k2] at z2;cases z2
 | .tup ss,t,w,r,q=>by
  unfold Rep at r;obtain ⟨a,vs,rfl,k1,k2,k3⟩:=r
  cases t with
  | v y=>unfold Rep at q;obtain ⟨e,f⟩:=q;exact (qBU f e).elim
  | cell m=>unfold Rep at q;obtain ⟨b,eb,e⟩:=q;cases e;exact (k1 (hs _ (List.mem_of_getElem? eb))).elim
  | tup ts=>unfold Rep at q;obtain ⟨b,vs',e,z1,z2,z3⟩:=q;cases e;rw [k2] at z2;cases z2;rw [qCE nd hs ss ts k3 z3]
  | fz ts=>unfold Rep at q;obtain ⟨b,vs',e,z1,z2,z3⟩:=q;cases e;rw [k2] at z2;cases z2
  | lst ts=>unfold Rep at q;obtain ⟨b,vs',e,z1,z2,z3⟩:=q;cases e;rw [k2] at z2;cases z2
  | ob o=>unfold Rep at q;obtain ⟨b,e,z1,z2⟩:=q;cases e;rw [k2] at z2;cases z2
 | .ob o,t,w,r,q=>by
  unfold Rep at r;obtain ⟨a,rfl,k1,k2⟩:=r
  cases t with
  | v y=>unfold Rep at q;obtain ⟨e,f⟩:=q;exact (qBU f e).elim
  | cell m=>unfold Rep at q;obtain ⟨b,eb,e⟩:=q;cases e;exact (k1 (hs _ (List.mem_of_getElem? eb))).elim
  | fz ts=>unfold Rep at q;obtain ⟨b,vs',e,z1,z2,z3⟩:=q;cases e;rw [k2] at z2;cases z2
  | lst ts=>unfold Rep at q;obtain ⟨b,vs',e,z1,z2,z3⟩:=q;cases e;rw [k2] at z2;cases z2
  | tup ts=>unfold Rep at q;obtain ⟨b,vs',e,z1,z2,z3⟩:=q;cases e;rw [k2] at z2;cases z2
  | ob o'=>unfold Rep at q;obtain ⟨b,e,z1,z2⟩:=q;cases e;rw [k2] at z2;cases z2;rfl
theorem qCE {A X:List Nat} {h:AH} (nd:A.Nodup) (hs:∀ a∈A,a∈X):∀ (ss ts:List T) {ws:List V},qAK A X h ss ws -> qAK A X h ts ws -> ss=ts
 | [],[],w,r,q=>rfl
 | [],t::ts,w,r,q=>by unfold qAK at r q;obtain ⟨v,vs,e,_⟩:=q;subst r;cases e
 | s::ss,[],w,r,q=>by unfold qAK at r q;obtain ⟨v,vs,e,_⟩:=r;subst q;cases e
 | s::ss,t::ts,w,r,q=>by
  unfold qAK at r q;obtain ⟨v,vs,rfl,k1,k2⟩:=r;obtain ⟨v',vs',e,z1,z2⟩:=q
  cases e
  rw [qFi nd hs s t k1 z1,qCE nd hs ss ts k2 z2]
end
mutual
theorem qJN:∀ (s t:T),T.beq s t=true -> s=t
 | .v x,.v y,h=>by unfold T.beq at h;simp at h;rw [h]
 | .cell x,.cell y,h=>by unfold T.beq at h;simp at h;rw [h]
 | .fz x,.fz y,h=>by unfold T.beq at h;rw [qB1 x y h]
 | .lst x,.lst y,h=>by unfold T.beq at h;rw [qB1 x y h]
 | .tup x,.tup y,h=>by unfold T.beq at h;rw [qB1 x y h]
 | .ob x,.ob y,h=>by unfold T.beq at h;simp at h;rw [h]
 | .ob _,.v _,h | .ob _,.cell _,h | .ob _,.fz _,h | .ob _,.lst _,h | .ob _,.tup _,h=>by simp [T.beq] at h
 | .v _,.ob _,h | .cell _,.ob _,h | .fz _,.ob _,h | .lst _,.ob _,h | .tup _,.ob _,h=>by simp [T.beq] at h
 | .v _,.cell _,h | .v _,.fz _,h | .v _,.lst _,h | .v _,.tup _,h=>by simp [T.beq] at h
 | .cell _,.v _,h | .cell _,.fz _,h | .cell _,.lst _,h | .cell _,.tup _,h=>by simp [T.beq] at h
 | .fz _,.v _,h | .fz _,.cell _,h | .fz _,.lst _,h | .fz _,.tup _,h=>by simp [T.beq] at h
 | .lst _,.v _,h | .lst _,.cell _,h | .lst _,.fz _,h | .lst _,.tup _,h=>by simp [T.beq] at h
 | .tup _,.v _,h | .tup _,.cell _,h | .tup _,.fz _,h | .tup _,.lst _,h=>by simp [T.beq] at h
theorem qB1:∀ (ss ts:List T),T.beqs ss ts=true -> ss=ts
 | [],[],h=>rfl
 | [],_::_,h=>by simp [T.beqs] at h
 | _::_,[],h=>by simp [T.beqs] at h
 | s::ss,t::ts,h=>by unfold T.beqs at h;simp only [Bool.and_eq_true] at h;rw [qJN s t h.1,qB1 ss ts h.2]
end
noncomputable def Frm (A:List Nat) (h h':AH):Prop:=h.length<=h'.length/\∀ j,j < h.length -> j∉A -> h'[j]?=h[j]?
theorem Frm.refl (A:List Nat) (h:AH):Frm A h h:=⟨Nat.le_refl _,fun _ _ _=>rfl⟩
theorem Frm.trans {A:List Nat} {a b c:AH} (x:Frm A a b) (y:Frm A b c):Frm A a c:=⟨Nat.le_trans x.1 y.1,fun j hj hA=>(y.2 j (Nat.lt_of_lt_of_le hj x.1) hA).trans (x.2 j hj hA)⟩
theorem Frm.trans2 {A B:List Nat} {a b c:AH} (x:Frm A a b) (hB:∀ k∈B,a.length<=k) (y:Frm (A++B) b c):Frm A a c:=
 ⟨Nat.le_trans x.1 y.1,fun j hj hA=>(y.2 j (Nat.lt_of_lt_of_le hj x.1) (by rw [List.mem_append];rintro (z | z);exact hA z;have:=hB _ z;omega)).trans (x.2 j hj hA)⟩
theorem Frm.app (A:List Nat) (h e:AH):Frm A h (h++e):=⟨by simp,fun j hj _=>by rw [List.getElem?_append_left hj]⟩
theorem Frm.set {A:List Nat} {h h':AH} (f:Frm A h h') {a:Nat} (ha:a∈A\/h.length<=a) (o:O):Frm A h (h'.set a o):=⟨by simpa using f.1,fun j hj hA=>by
 rw [List.getElem?_set_ne (by rintro rfl;rcases ha with z | z;exact hA z;omega)];exact f.2 j hj hA⟩
theorem qAM {h:AH} {a:Nat} {o:O} (e:h[a]?=some o):a < h.length:=(List.getElem?_eq_some_iff.mp e).1
structure RelM (gl:List T) (A X:List Nat) (h:AH) (M:Mem):Prop where
 len:A.length=M.length
 nd:A.Nodup
 sub:∀ a∈A,a∈X
 lt:∀ a∈X,a < h.length
 at_:∀ (n:Nat) a,A[n]?=some a -> ∃ ts vs,M[n]?=some ts/\h[a]?=some (.lst false vs)/\qAK A X h ts vs
 glo:∀ (g:Nat) t,gl[g]?=some t -> Rep A X h t (.ref g)
section
variable {gl:List T} {A X:List Nat} {h h':AH} {M:Mem}
theorem RelM.keepN (R:RelM gl A X h M) (f:Frm A h h'):∀ a o,a∉X -> h[a]?=some o -> a∉X/\h'[a]?=some o:=fun a o hx e=>⟨hx,(f.2 a (qAM e) fun z=>hx (R.sub _ z)).trans e⟩
theorem RelM.keep (R:RelM gl A X h M) (f:Frm A h h') {t:T} {w:V} (r:Rep A X h t w):Rep A X h' t w:=qAt (fun _ _ e=>e) (R.keepN f) t r
theorem RelM.keeps (R:RelM gl A X h M) (f:Frm A h h') {t:List T} {w:List V} (r:qAK A X h t w):qAK A X h' t w:=qAN (fun _ _ e=>e) (R.keepN f) t r
theorem RelM.up (R:RelM gl A X h M) (e:AH):RelM gl A X (h++e) M:=by
 have f:Frm A h (h++e):=Frm.app A h e
 refine ⟨R.len,R.nd,R.sub,fun a ha=>Nat.lt_of_lt_of_le (R.lt a ha) f.1,fun n a ea=>?_,fun g t eg=>R.keep f (R.glo g t eg)⟩
 obtain ⟨ts,vs,e1,e2,e3⟩:=R.at_ n a ea
 exact ⟨ts,vs,e1,by rw [List.getElem?_append_left (qAM e2)];exact e2,R.keeps f e3⟩
theorem RelM.put (R:RelM gl A X h M) {n a:Nat} (ea:A[n]?=some a) {ts:List T} {vs:List V} (r:qAK A X h ts vs):RelM gl A X (h.set a (.lst false vs)) (M.set n ts)/\Frm A h (h.set a (.lst false vs)):=by
 have am:a∈A:=List.mem_of_getElem? ea
 have f:Frm A h (h.set a (.lst false vs)):=(Frm.refl A h).set (.inl am) _
 have al:a < h.length:=R.lt a (R.sub a am)
 refine ⟨⟨by simpa using R.len,R.nd,R.sub,fun b hb=>by simpa using R.lt b hb,fun m b eb=>?_,fun g t eg=>R.keep f (R.glo g t eg)⟩,f⟩
 by_cases hm:n=m
 ·subst hm
  rw [ea] at eb;cases eb
  have nl:n < M.length:=by rw [<- R.len];exact (List.getElem?_eq_some_iff.mp ea).1
  exact ⟨ts,vs,by rw [List.getElem?_set_self nl],by rw [List.getElem?_set_self al],R.keeps f r⟩
 ·obtain ⟨ts',vs',e1,e2,e3⟩:=R.at_ m b eb
  have hab:a≠b:=by
   rintro rfl
   exact hm ((List.getElem?_inj (List.getElem?_eq_some_iff.mp ea).1 R.nd).mp (ea.trans eb.symm))
  exact ⟨ts',vs',by rw [List.getElem?_set_ne hm];exact e1,by rw [List.getElem?_set_ne hab];exact e2,R.keeps f e3⟩
end
noncomputable def Frs (gl:List T) (A X:List Nat) (n:Nat) (h:AH) (M:Mem) (t:T) (w:V):Prop:=∃ fp,FP X h t w fp/\fp.Nodup/\(∀ a∈fp,n<=a)/\RelM gl A (X++fp) h M
noncomputable def Frss (gl:List T) (A X:List Nat) (n:Nat) (h:AH) (M:Mem) (t:List T) (w:List V):Prop:=∃ fp,FPs X h t w fp/\fp.Nodup/\(∀ a∈fp,n<=a)/\RelM gl A (X++fp) h M
theorem Frs.of_lf {gl:List T} {A X:List Nat} {n:Nat} {h:AH} {M:Mem} {t:T} {w:V} (R:RelM gl A X h M) (r:Rep A X h t w) (l:t.lf=true):Frs gl A X n h M t w:=⟨[],qHc t r l,List.nodup_nil,fun a ha=>by simp at ha,by rw [List.append_nil];exact R⟩
theorem Frss.of_lf {gl:List T} {A X:List Nat} {n:Nat} {h:AH} {M:Mem} {t:List T} {w:List V} (R:RelM gl A X h M) (r:qAK A X h t w) (l:T.lfs t=true):Frss gl A X n h M t w:=⟨[],qFu t r l,List.nodup_nil,fun a ha=>by simp at ha,by rw [List.append_nil];exact R⟩
noncomputable def Sim {α β:Type} (gl:List T) (A X:List Nat) (h:AH) (Q:α -> β -> AH -> Mem -> Prop):PR (α×Mem) -> Res (β×AH) -> Prop
 | .ok (x,M'),r=>∃ y h',r=.ok (y,h')/\Frm A h h'/\RelM gl A X h' M'/\Q x y h' M'
 | .exc c M',r=>∃ h',r=.exc c h'/\Frm A h h'/\RelM gl A X h' M'
 | .stuck,_=>True
theorem Sim.bind {α β α2 β2:Type} {gl:List T} {A X:List Nat} {h:AH} {Q:α -> β -> AH -> Mem -> Prop} {Q2:α2 -> β2 -> AH -> Mem -> Prop} {r:PR (α×Mem)} {rh:Res (β×AH)} {f:α×Mem -> PR (α2×Mem)} {g:β×AH -> Res (β2×AH)}
  (s:Sim gl A X h Q r rh) (k:∀ x M' y h',Frm A h h' -> RelM gl A X h' M' -> Q x y h' M' -> Sim gl A X h' Q2 (f (x,M')) (g (y,h'))):Sim gl A X h Q2 (r.bind f) (rh.bind g):=by
 cases r with
 | ok p=>
  obtain ⟨x,M'⟩:=p
  obtain ⟨y,h',rfl,f1,R1,q⟩:=s
  have:=k x M' y h' f1 R1 q
  rw [PR.bind_ok,Res.bind_ok]
  revert this
  generalize f (x,M')=r2
  generalize g (y,h')=rh2
  intro s2
  cases r2 with
  | ok p2=>
   obtain ⟨x2,M2⟩:=p2
   obtain ⟨y2,h2,e2,f2,R2,q2⟩:=s2
   exact ⟨y2,h2,e2,f1.trans f2,R2,q2⟩
  | exc c M2=>
   obtain ⟨h2,e2,f2,R2⟩:=s2
   exact ⟨h2,e2,f1.trans f2,R2⟩
  | stuck=>trivial
 | exc c M'=>
  obtain ⟨h',rfl,f1,R1⟩:=s
  exact ⟨h',rfl,f1,R1⟩
 | stuck=>trivial
theorem Sim.nx {α β:Type} {gl:List T} {A X:List Nat} {h:AH} {Q:α -> β -> AH -> Mem -> Prop} {r:PR (α×Mem)} {rh:Res (β×AH)} (s:Sim gl A X h Q r rh):Sim gl A X h Q r.nx rh.nx:=by
 cases r with
 | ok p=>obtain ⟨x,M'⟩:=p;obtain ⟨y,h',rfl,a,b,c⟩:=s;exact ⟨y,h',rfl,a,b,c⟩
 | exc c M'=>trivial
 | stuck=>trivial
theorem Sim.stuck {α β:Type} {gl:List T} {A X:List Nat} {h:AH} {Q:α -> β -> AH -> Mem -> Prop} {r:Res (β×AH)}:Sim gl A X h Q (.stuck:PR (α×Mem)) r:=trivial
theorem Sim.ofO {α β α2:Type} {gl:List T} {A X:List Nat} {h:AH} {Q:α -> β -> AH -> Mem -> Prop} {o:Option α2} {f:α2 -> PR (α×Mem)} {r:Res (β×AH)} (k:∀ x,o=some x -> Sim gl A X h Q (f x) r):Sim gl A X h Q ((PR.ofO o).bind f) r:=by
 cases o with
 | none=>trivial
 | some x=>exact k x rfl
noncomputable def QE (gl:List T) (A X:List Nat) (n:Nat):TB -> V -> AH -> Mem -> Prop:=fun x w h M=>Rep A X h x.1 w/\(x.2=true -> Frs gl A X n h M x.1 w)
noncomputable def QEs (gl:List T) (A X:List Nat) (n:Nat):List TB -> List V -> AH -> Mem -> Prop:=fun x w h M=>qAK A X h (x.map (·.1)) w/\(x.all (·.2)=true -> Frss gl A X n h M (x.map (·.1)) w)
theorem QE.le {gl:List T} {A X:List Nat} {n m:Nat} {x:TB} {w:V} {h:AH} {M:Mem} (q:QE gl A X n x w h M) (l:m<=n):QE gl A X m x w h M:=⟨q.1,fun e=>by obtain ⟨fp,a,b,c,d⟩:=q.2 e;exact ⟨fp,a,b,fun z hz=>Nat.le_trans l (c z hz),d⟩⟩
theorem Sim.le {gl:List T} {A X:List Nat} {h:AH} {n m:Nat} {r:PR (TB×Mem)} {rh:RV} (s:Sim gl A X h (QE gl A X n) r rh) (l:m<=n):Sim gl A X h (QE gl A X m) r rh:=by
 cases r with
 | ok p=>obtain ⟨y,h',e,f,R,q⟩:=s;exact ⟨y,h',e,f,R,q.le l⟩
 | exc c M=>exact s
 | stuck=>trivial
theorem RelM.weak {gl:List T} {A X X':List Nat} {h:AH} {M:Mem} (R:RelM gl A X' h M) (hX:∀ a∈X,a∈X') (hA:∀ a∈A,a∈X):RelM gl A X h M:=by
 have hn:∀ a o,a∉X' -> h[a]?=some o -> a∉X/\h[a]?=some o:=fun a o x y=>⟨fun z=>x (hX _ z),y⟩
 refine ⟨R.len,R.nd,hA,fun a ha=>R.lt a (hX a ha),fun n a e=>?_,fun g t e=>qAt (fun _ _ e=>e) hn t (R.glo g t e)⟩
 obtain ⟨ts,vs,e1,e2,e3⟩:=R.at_ n a e
 exact ⟨ts,vs,e1,e2,qAN (fun _ _ e=>e) hn ts e3⟩
theorem RelM.addX {gl:List T} {A X X':List Nat} {h:AH} {M:Mem} (R:RelM gl A X h M) {o:O} (h1:∀ a,a∈X'↔a=h.length\/a∈X):RelM gl A X' (h++[o]) M:=by
 have hn:∀ a o',a∉X -> h[a]?=some o' -> a∉X'/\(h++[o])[a]?=some o':=fun a o' x y=>⟨by
  rw [h1];rintro (z | z)
  ·have:=qAM y;omega
  ·exact x z,by rw [List.getElem?_append_left (qAM y)];exact y⟩
 refine ⟨R.len,R.nd,fun a ha=>(h1 a).mpr (.inr (R.sub a ha)),fun a ha=>?_,fun n a e=>?_,fun g t e=>qAt (fun _ _ e=>e) hn t (R.glo g t e)⟩
 ·rcases (h1 a).mp ha with z | z
  ·simp [z]
  ·have:=R.lt a z;simp;omega
 ·obtain ⟨ts,vs,e1,e2,e3⟩:=R.at_ n a e
  exact ⟨ts,vs,e1,by rw [List.getElem?_append_left (qAM e2)];exact e2,qAN (fun _ _ e=>e) hn ts e3⟩
end PI
namespace PI
open L2 (V)
section
variable {gl:List T} {A X:List Nat} {h:AH} {M:Mem}
theorem qEl (R:RelM gl A X h M) {t:T} {w:V} {ts:List T} (r:Rep A X h t w) (e:t.its M=some ts):∃ a vs,w=.ref a/\items h a=some vs/\qAK A X h ts vs:=by
 cases t with
 | v x=>cases e
 | cell n=>
  unfold Rep at r;obtain ⟨a,ea,rfl⟩:=r
  obtain ⟨ts',vs,e1,e2,e3⟩:=R.at_ n a ea
  have:M[n]?=some ts:=e
  rw [e1] at this;cases this
  exact ⟨a,vs,rfl,by unfold items;rw [e2],e3⟩
 | fz xs=>unfold Rep at r;obtain ⟨a,vs,rfl,_,q,k⟩:=r;cases e;exact ⟨a,vs,rfl,by unfold items;rw [q],k⟩
 | lst xs=>unfold Rep at r;obtain ⟨a,vs,rfl,_,q,k⟩:=r;cases e;exact ⟨a,vs,rfl,by unfold items;rw [q],k⟩
 | tup xs=>unfold Rep at r;obtain ⟨a,vs,rfl,_,q,k⟩:=r;cases e;exact ⟨a,vs,rfl,by unfold items;rw [q],k⟩
 | ob o=>cases e
theorem qBW (R:RelM gl A X h M) {t:T} {w:V} {ts:List T} (r:Rep A X h t w) (e:t.lis M=some ts):∃ a vs f,w=.ref a/\h[a]?=some (.lst f vs)/\qAK A X h ts vs:=by
 cases t with
 | v x=>cases e
 | cell n=>
  unfold Rep at r;obtain ⟨a,ea,rfl⟩:=r
  obtain ⟨ts',vs,e1,e2,e3⟩:=R.at_ n a ea
  have:M[n]?=some ts:=e
  rw [e1] at this;cases this
  exact ⟨a,vs,false,rfl,e2,e3⟩
 | fz xs=>unfold Rep at r;obtain ⟨a,vs,rfl,_,q,k⟩:=r;cases e;exact ⟨a,vs,true,rfl,q,k⟩
 | lst xs=>unfold Rep at r;obtain ⟨a,vs,rfl,_,q,k⟩:=r;cases e;exact ⟨a,vs,false,rfl,q,k⟩
 | tup xs=>cases e
 | ob o=>cases e
theorem qEv (R:RelM gl A X h M) {t:T} {w:V} {ts:List T} (r:Rep A X h t w) (e:t.mu M=some ts):∃ a vs,w=.ref a/\qAW h a=some vs/\qAK A X h ts vs:=by
 cases t with
 | v x=>cases e
 | cell n=>
  unfold Rep at r;obtain ⟨a,ea,rfl⟩:=r
  obtain ⟨ts',vs,e1,e2,e3⟩:=R.at_ n a ea
  have:M[n]?=some ts:=e
  rw [e1] at this;cases this
  exact ⟨a,vs,rfl,by unfold qAW;rw [e2],e3⟩
 | fz xs=>cases e
 | lst xs=>unfold Rep at r;obtain ⟨a,vs,rfl,_,q,k⟩:=r;cases e;exact ⟨a,vs,rfl,by unfold qAW;rw [q],k⟩
 | tup xs=>cases e
 | ob o=>cases e
theorem qAX {t:T} {x:V} (e:t.isV=some x):t=.v x:=by cases t<;>cases e;rfl
theorem qBr {t:T} {w:V} (e:t.isV=none) (r:Rep A X h t w):∃ a:Nat,w=.ref a:=by
 cases t with
 | v x=>cases e
 | cell n=>unfold Rep at r;obtain ⟨a,_,e⟩:=r;exact ⟨a,e⟩
 | fz xs=>unfold Rep at r;obtain ⟨a,vs,e,_⟩:=r;exact ⟨a,e⟩
 | lst xs=>unfold Rep at r;obtain ⟨a,vs,e,_⟩:=r;exact ⟨a,e⟩
 | tup xs=>unfold Rep at r;obtain ⟨a,vs,e,_⟩:=r;exact ⟨a,e⟩
 | ob o=>unfold Rep at r;obtain ⟨a,e,_⟩:=r;exact ⟨a,e⟩
theorem qDC (R:RelM gl A X h M) {ts:List T} {vs:List V} {n:Nat} {f:Bool} (r:qAK A X h ts vs) (hn:n<=h.length) (hf:f=true -> Frss gl A X n h M ts vs):Sim gl A X h (QE gl A X n) (.ok ((.lst ts,f),M)) (newL vs h):=by
 have fm:Frm A h (h++[O.lst false vs]):=Frm.app A h _
 have hx:h.length∉X:=fun z=>Nat.lt_irrefl _ (R.lt _ z)
 have ha:(h++[O.lst false vs])[h.length]?=some (.lst false vs):=by simp
 refine ⟨.ref h.length,_,rfl,fm,R.up _,?_,fun e=>?_⟩
 ·show Rep A X _ (.lst ts) _
  unfold Rep
  exact ⟨_,vs,rfl,hx,ha,R.keeps fm r⟩
 ·obtain ⟨fp,p,nd,l,R'⟩:=hf e
  refine ⟨fp++[h.length],?_,?_,?_,R'.addX fun a=>by simp only [List.mem_append,List.mem_singleton];grind⟩
  ·show FP X _ (.lst ts) _ _
   unfold FP
   exact ⟨_,vs,fp,rfl,hx,ha,qA6 (R.keepN fm) ts p,rfl⟩
  ·rw [List.nodup_append]
   refine ⟨nd,by simp,?_⟩
   rintro a ha b hb rfl
   obtain ⟨_,vs',q⟩:=qB2 ts p a ha
   simp at hb
   have:=qAM q
   omega
  ·intro a ha
   rcases List.mem_append.mp ha with z | z
   ·exact l a z
   ·simp at z;omega
theorem qEC (R:RelM gl A X h M) {ts:List T} {vs:List V} {n:Nat} {f:Bool} (r:qAK A X h ts vs) (hf:f=true -> Frss gl A X n h M ts vs):Sim gl A X h (QE gl A X n) (.ok ((.tup ts,f),M)) (newT vs h):=by
 have fm:Frm A h (h++[O.tup vs]):=Frm.app A h _
 have hx:h.length∉X:=fun z=>Nat.lt_irrefl _ (R.lt _ z)
 have ha:(h++[O.tup vs])[h.length]?=some (.tup vs):=by simp
 refine ⟨.ref h.length,_,rfl,fm,R.up _,?_,fun e=>?_⟩
 ·show Rep A X _ (.tup ts) _
  unfold Rep
  exact ⟨_,vs,rfl,hx,ha,R.keeps fm r⟩
 ·obtain ⟨fp,p,nd,l,R'⟩:=hf e
  refine ⟨fp,?_,nd,l,R'.up _⟩
  show FP X _ (.tup ts) _ _
  unfold FP
  exact ⟨_,vs,rfl,hx,ha,qA6 (R.keepN fm) ts p⟩
theorem qEy (R:RelM gl A X h M) {ts:List T} {vs:List V} (r:qAK A X h ts vs):Sim gl A X h (QE gl A X h.length) (.ok (lT ts,M)) (newL vs h):=
 qDC R r (Nat.le_refl _) fun e=>Frss.of_lf R r e
theorem qAG (R:RelM gl A X h M) {x:V} (fx:flat x=true) {n:Nat}:Sim gl A X h (QE gl A X n) (.ok ((.v x,true),M)) (.ok (x,h)):=
 have r:Rep A X h (.v x) x:=by unfold Rep;exact ⟨rfl,fx⟩
 ⟨x,h,rfl,Frm.refl A h,R,r,fun _=>Frs.of_lf R r rfl⟩
theorem qAm {x w:V} (r:Rep A X h (.v x) w):w=x:=by unfold Rep at r;exact r.1
theorem qHo (xs:List T):T.lf (.tup xs)=T.lfs xs:=by rw [T.lf]
theorem qHY (R:RelM gl A X h M) {op:BOp} {s t:T} {x y:V} {r:TB} (e:qA4 M op s t=some r) (r1:Rep A X h s x) (r2:Rep A X h t y):Sim gl A X h (QE gl A X h.length) (.ok (r,M)) (qJR op x y h):=by
 unfold qA4 at e
 split at e
 ·rename_i i j e1 e2
  cases qAX e1;cases qAX e2
  cases qAm r1;cases qAm r2
  cases op with
  | add=>cases e;exact qAG R rfl
  | sub=>cases e;exact qAG R rfl
  | mul=>dsimp only at e;split at e<;>cases e;rename_i c;show Sim _ _ _ _ _ _ (if _ then _ else _);rw [if_pos c];exact qAG R rfl
  | fdiv=>
   dsimp only at e
   show Sim _ _ _ _ _ _ (if _ then _ else _)
   split at e
   ·rename_i c;cases e;rw [if_pos c];exact qAG R rfl
   ·rename_i c
    rw [if_neg c]
    split at e
    ·rename_i c;cases e;rw [if_pos c];exact qAG R rfl
    ·cases e
  | mod=>
   dsimp only at e
   show Sim _ _ _ _ _ _ (if _ then _ else _)
   split at e
   ·rename_i c;cases e;rw [if_pos c];exact qAG R rfl
   ·rename_i c
    rw [if_neg c]
    split at e
    ·rename_i c;cases e;rw [if_pos c];exact qAG R rfl
    ·cases e
  | pow=>dsimp only at e;split at e<;>cases e;rename_i c;show Sim _ _ _ _ _ _ (if _ then _ else _);rw [if_pos c];exact qAG R rfl
 ·rename_i k e1 e2
  cases qAX e2
  cases qAm r2
  obtain ⟨a,rfl⟩:=qBr e1 r1
  cases op<;>first | cases e | skip
  dsimp only at e
  cases em:s.mu M with
  | none=>rw [em] at e;cases e
  | some xs=>
   rw [em] at e
   dsimp only [Option.bind_some] at e
   split at e<;>cases e
   rename_i c
   obtain ⟨a',vs,ea,m,rs⟩:=qEv R r1 em
   cases ea
   have lv:vs.length=xs.length:=(qAB (reps_iff.mp rs)).symm
   show Sim _ _ _ _ _ _ (match qAW h a with | some xs=>_ | none=>_)
   rw [m]
   dsimp only
   rw [if_pos (by rw [lv];exact c)]
   exact qEy R (reps_iff.mpr (qGg _ (reps_iff.mp rs)))
 ·rename_i e1 e2
  obtain ⟨a,rfl⟩:=qBr e1 r1
  obtain ⟨b,rfl⟩:=qBr e2 r2
  cases op<;>first | cases e | skip
  dsimp only at e
  split at e
  ·rename_i xs ys
   split at e<;>cases e
   rename_i c
   unfold Rep at r1 r2
   obtain ⟨a1,vs,ea,n1,k1,q1⟩:=r1
   cases ea
   obtain ⟨b1,us,eb,n2,k2,q2⟩:=r2
   cases eb
   have lv:vs.length=xs.length:=(qAB (reps_iff.mp q1)).symm
   have lu:us.length=ys.length:=(qAB (reps_iff.mp q2)).symm
   have m1:qAW h a=none:=by unfold qAW;rw [k1]
   have t1:qAV h a=some vs:=by unfold qAV;rw [k1]
   have t2:qAV h b=some us:=by unfold qAV;rw [k2]
   have q3:=reps_iff.mpr (qAh (reps_iff.mp q1) (reps_iff.mp q2))
   show Sim _ _ _ _ _ _ (match qAW h a,qAW h b with | some xs,some ys=>_ | _,_=>_)
   rw [m1]
   show Sim _ _ _ _ _ _ (match qAV h a,qAV h b with | some xs,some ys=>_ | _,_=>_)
   rw [t1,t2]
   dsimp only
   rw [if_pos ⟨fun z=>c.1 (by subst z;exact List.length_eq_zero_iff.mp lv.symm),by rw [lv,lu];exact c.2⟩]
   split
   ·rename_i z
    subst z
    have y0:ys=[]:=List.length_eq_zero_iff.mp lu.symm
    subst y0
    have r:Rep A X h (.tup (xs++[])) (.ref a):=by
     rw [List.append_nil]
     unfold Rep
     exact ⟨a,vs,rfl,n1,k1,q1⟩
    exact ⟨_,h,rfl,Frm.refl A h,R,r,fun e=>Frs.of_lf R r (by rw [qHo];exact e)⟩
   ·exact qEC R q3 fun e=>Frss.of_lf R q3 e
  cases em:s.mu M with
  | none=>rw [em] at e;cases e
  | some xs=>
   rw [em] at e
   dsimp only [Option.bind_some] at e
   cases en:t.mu M with
   | none=>rw [en] at e;cases e
   | some ys=>
    rw [en] at e
    dsimp only [Option.bind_some] at e
    split at e<;>cases e
    rename_i c
    obtain ⟨a',vs,ea,m,rs⟩:=qEv R r1 em
    cases ea
    obtain ⟨b',us,eb,m2,rs2⟩:=qEv R r2 en
    cases eb
    have lv:vs.length=xs.length:=(qAB (reps_iff.mp rs)).symm
    have lu:us.length=ys.length:=(qAB (reps_iff.mp rs2)).symm
    show Sim _ _ _ _ _ _ (match qAW h a,qAW h b with | some xs,some ys=>_ | _,_=>_)
    rw [m,m2]
    dsimp only
    rw [if_pos (by rw [lv,lu];exact c)]
    exact qEy R (reps_iff.mpr (qAh (reps_iff.mp rs) (reps_iff.mp rs2)))
 ·cases e
theorem qEH {x:V} {b:Bool} (e:eqF x x=some b):b=true:=by
 cases x with
 | int i=>cases e;exact beq_self_eq_true i
 | bl i=>cases e;exact beq_self_eq_true i
 | str i=>cases e;exact beq_self_eq_true i
 | non=>cases e;rfl
 | _=>cases e
theorem qBh {f:T -> T -> Option Bool} (hf:∀ t b,f t t=some b -> b=true):∀ (ts:List T) bs,qAz f ts ts=some bs -> bs.all id=true
 | [],bs,e=>by cases e;rfl
 | t::ts,bs,e=>by
  unfold qAz at e
  split at e
  ·rename_i b bs' e1 e2
   cases e
   rw [List.all_cons,hf t b e1,qBh hf ts bs' e2]
   rfl
  ·cases e
theorem qDD:∀ (n:Nat) (t:T) (b:Bool),eqT M n t t=some b -> b=true
 | 0,t,b,e=>by
  unfold eqT at e
  split at e
  ·rename_i x y e1 e2;rw [e1] at e2;cases e2;exact qEH e
  ·cases e
 | n + 1,t,b,e=>by
  unfold eqT at e
  split at e
  ·rename_i x y e1 e2;rw [e1] at e2;cases e2;exact qEH e
  ·rename_i e1 e2;rw [e1] at e2;cases e2
  ·rename_i e1 e2;rw [e1] at e2;cases e2
  ·split at e
   ·rename_i xs ys e1 e2
    rw [e1] at e2;cases e2
    rw [if_pos rfl] at e
    obtain ⟨bs,eb,rfl⟩:=Option.map_eq_some_iff.mp e
    exact qBh (qDD n) xs bs eb
   ·rename_i e1 e2;rw [e1] at e2;cases e2
   ·rename_i e1 e2;rw [e1] at e2;cases e2
   ·split at e
    ·rename_i xs ys e1 e2
     rw [e1] at e2;cases e2
     rw [if_pos rfl] at e
     obtain ⟨bs,eb,rfl⟩:=Option.map_eq_some_iff.mp e
     exact qBh (qDD n) xs bs eb
    ·cases e
theorem qCF {f:T -> T -> Option Bool} {g:V -> V -> Option Bool} (hf:∀ s t x y b,Rep A X h s x -> Rep A X h t y -> f s t=some b -> g x y=some b):∀ {ss ts:List T} {xs ys:List V} {bs:List Bool},qAK A X h ss xs -> qAK A X h ts ys -> qAz f ss ts=some bs -> qCi g xs ys=some bs
 | [],[],xs,ys,bs,r1,r2,e=>by unfold qAK at r1 r2;subst r1 r2;exact e
 | [],t::ts,xs,ys,bs,r1,r2,e=>by cases e
 | s::ss,[],xs,ys,bs,r1,r2,e=>by cases e
 | s::ss,t::ts,xs,ys,bs,r1,r2,e=>by
  unfold qAK at r1 r2
  obtain ⟨x,xs',rfl,a1,a2⟩:=r1
  obtain ⟨y,ys',rfl,b1,b2⟩:=r2
  unfold qAz at e
  split at e
  ·rename_i b bs' e1 e2
   cases e
   unfold qCi
   rw [hf s t x y b a1 b1 e1,qCF hf a2 b2 e2]
  ·cases e
theorem qBf {x w:V} (r:Rep A X h (.v x) w):flat x=true:=by unfold Rep at r;exact r.2
theorem qEY (R:RelM gl A X h M) {t:T} {a:Nat} (r:Rep A X h t (.ref a)) (hs:(t.its M).isSome=true):(items h a).isSome=true:=by
 cases t with
 | v x=>unfold Rep at r;exact (qBU r.2 r.1).elim
 | cell n=>unfold Rep at r;obtain ⟨b,eb,e⟩:=r;cases e;obtain ⟨_,_,_,q,_⟩:=R.at_ n _ eb;unfold items;rw [q];rfl
 | fz xs=>unfold Rep at r;obtain ⟨b,vs,e,_,q,_⟩:=r;cases e;unfold items;rw [q];rfl
 | lst xs=>unfold Rep at r;obtain ⟨b,vs,e,_,q,_⟩:=r;cases e;unfold items;rw [q];rfl
 | tup xs=>unfold Rep at r;obtain ⟨b,vs,e,_,q,_⟩:=r;cases e;unfold items;rw [q];rfl
 | ob o=>cases hs
theorem qEt {t:T} {w:V} {ts:List T} (r:Rep A X h t w) (e1:t.isV=none) (e2:t.lis M=none) (e:t.its M=some ts):∃ a vs,w=.ref a/\h[a]?=some (.tup vs)/\qAK A X h ts vs:=by
 cases t with
 | v x=>cases e1
 | cell n=>have z:M[n]?=some ts:=e;have z2:M[n]?=none:=e2;rw [z] at z2;cases z2
 | fz xs=>cases e2
 | lst xs=>cases e2
 | tup xs=>unfold Rep at r;obtain ⟨b,vs,e',_,q,k⟩:=r;cases e;exact ⟨b,vs,e',q,k⟩
 | ob o=>cases e
theorem qGc {n:Nat} {x y:V} (fx:flat x=true) (fy:flat y=true):eqD h (n + 1) x y=eqF x y:=by
 cases x<;>cases y<;>first | rfl | (simp [flat] at fx;done) | (simp [flat] at fy;done)
theorem qDT (R:RelM gl A X h M):∀ (n:Nat) (s t:T) (x y:V) (b:Bool),Rep A X h s x -> Rep A X h t y -> eqT M n s t=some b -> eqD h n x y=some b
 | 0,s,t,x,y,b,r1,r2,e=>by
  unfold eqT at e
  split at e
  ·rename_i x' y' e1 e2
   cases qAX e1;cases qAX e2;cases qAm r1;cases qAm r2
   unfold eqD;exact e
  ·cases e
 | n + 1,s,t,x,y,b,r1,r2,e=>by
  unfold eqT at e
  split at e
  ·rename_i x' y' e1 e2
   cases qAX e1;cases qAX e2;cases qAm r1;cases qAm r2
   rw [qGc (qBf r1) (qBf r2)];exact e
  ·rename_i x' e1 e2
   cases qAX e1;cases qAm r1
   obtain ⟨c,rfl⟩:=qBr e2 r2
   have fx:=qBf r1
   split at e<;>cases e
   rename_i hz
   have:=qEY R r2 hz
   cases x<;>first | (unfold eqD;simp [flat,this];done) | (simp [flat] at fx;done)
  ·rename_i y' e1 e2
   cases qAX e2;cases qAm r2
   obtain ⟨c,rfl⟩:=qBr e1 r1
   have fx:=qBf r2
   split at e<;>cases e
   rename_i hz
   have:=qEY R r1 hz
   cases y<;>first | (unfold eqD;simp [flat,this];done) | (simp [flat] at fx;done)
  ·rename_i e1 e2
   obtain ⟨c,rfl⟩:=qBr e1 r1
   obtain ⟨d,rfl⟩:=qBr e2 r2
   have same:c=d -> b=true:=by
    rintro rfl
    have:=qFi R.nd R.sub s t r1 r2
    subst this
    refine qDD (M:=M) (n + 1) s b ?_
    unfold eqT
    rw [e1]
    exact e
   split at e
   ·rename_i xs ys l1 l2
    obtain ⟨_,vs,f1,q1,k1,m1⟩:=qBW R r1 l1;cases q1
    obtain ⟨_,us,f2,q2,k2,m2⟩:=qBW R r2 l2;cases q2
    unfold eqD
    rw [k1,k2]
    dsimp only
    by_cases hcd:c=d
    ·rw [if_pos hcd,same hcd]
    ·rw [if_neg hcd,<- qAB (reps_iff.mp m1),<- qAB (reps_iff.mp m2)]
     split at e
     ·rename_i hl
      rw [if_pos hl]
      obtain ⟨bs,eb,rfl⟩:=Option.map_eq_some_iff.mp e
      rw [qCF (fun s t x y b a1 a2 a3=>qDT R n s t x y b a1 a2 a3) m1 m2 eb]
      rfl
     ·rename_i hl
      rw [if_neg hl];exact e
   ·rename_i l1 l2
    obtain ⟨_,vs,f1,q1,k1,m1⟩:=qBW R r1 l1;cases q1
    split at e<;>cases e
    rename_i z
    cases ei:t.its M with
    | none=>rw [ei] at z;cases z
    | some ys=>
     obtain ⟨_,us,q2,k2,m2⟩:=qEt r2 e2 l2 ei;cases q2
     unfold eqD
     rw [k1,k2]
   ·rename_i l1 l2
    obtain ⟨_,vs,f1,q1,k1,m1⟩:=qBW R r2 l2;cases q1
    split at e<;>cases e
    rename_i z
    cases ei:s.its M with
    | none=>rw [ei] at z;cases z
    | some ys=>
     obtain ⟨_,us,q2,k2,m2⟩:=qEt r1 e1 l1 ei;cases q2
     unfold eqD
     rw [k1,k2]
   ·rename_i l1 l2
    split at e
    ·rename_i xs ys i1 i2
     obtain ⟨_,vs,q1,k1,m1⟩:=qEt r1 e1 l1 i1;cases q1
     obtain ⟨_,us,q2,k2,m2⟩:=qEt r2 e2 l2 i2;cases q2
     unfold eqD
     rw [k1,k2]
     dsimp only
     by_cases hcd:c=d
     ·rw [if_pos hcd,same hcd]
     ·rw [if_neg hcd,<- qAB (reps_iff.mp m1),<- qAB (reps_iff.mp m2)]
      split at e
      ·rename_i hl
       rw [if_pos hl]
       obtain ⟨bs,eb,rfl⟩:=Option.map_eq_some_iff.mp e
       rw [qCF (fun s t x y b a1 a2 a3=>qDT R n s t x y b a1 a2 a3) m1 m2 eb]
       rfl
      ·rename_i hl
       rw [if_neg hl]
       obtain ⟨bs,eb,rfl⟩:=Option.map_eq_some_iff.mp e
       rw [qCF (fun s t x y b a1 a2 a3=>qDT R n s t x y b a1 a2 a3) (reps_iff.mpr (qA1 _ (reps_iff.mp m1))) (reps_iff.mpr (qA1 _ (reps_iff.mp m2))) eb]
       rfl
    ·cases e
theorem qC7:∀ {ts:List T} {vs xs:List V},qAK A X h ts vs -> qCO ts=some xs -> vs=xs/\xs.all flat=true
 | [],vs,xs,r,e=>by unfold qAK at r;subst r;cases e;exact ⟨rfl,rfl⟩
 | t::ts,vs,xs,r,e=>by
  unfold qAK at r
  obtain ⟨v,vs',rfl,a,b⟩:=r
  cases t with
  | v x=>
   unfold qCO at e
   obtain ⟨xs',e',rfl⟩:=Option.map_eq_some_iff.mp e
   obtain ⟨rfl,k⟩:=qC7 b e'
   cases qAm a
   exact ⟨rfl,by rw [List.all_cons,qBf a,k];rfl⟩
  | _=>cases e
theorem qHG (R:RelM gl A X h M) {s t:T} {x y:V} {b:Bool} (r1:Rep A X h s x) (r2:Rep A X h t y) (e:inT M s t=some b):qGN .inn x y h=some b/\qGN .notin x y h=some (!b):=by
 unfold inT at e
 obtain ⟨a,ea,e⟩:=Option.bind_eq_some_iff.mp e
 obtain ⟨ts,et,e⟩:=Option.bind_eq_some_iff.mp e
 obtain ⟨xs,ex,rfl⟩:=Option.map_eq_some_iff.mp e
 cases qAX ea;cases qAm r1
 obtain ⟨p,vs,rfl,q1,q2⟩:=qEl R r2 et
 obtain ⟨rfl,k⟩:=qC7 q2 ex
 have fx:=qBf r1
 constructor
 ·dsimp only [qGN,qIY];rw [q1];dsimp only;rw [if_pos (by rw [fx,k];rfl)]
 ·dsimp only [qGN,qIY];rw [q1];dsimp only;rw [if_pos (by rw [fx,k];rfl)]
theorem qB4 (R:RelM gl A X h M) {op:COp} {s t:T} {x y:V} {b:Bool} (r1:Rep A X h s x) (r2:Rep A X h t y) (e:qA5 M op s t=some b):qGN op x y h=some b:=by
 cases op with
 | eq=>exact qDT R 4 s t x y b r1 r2 e
 | ne=>
  obtain ⟨c,ec,rfl⟩:=Option.map_eq_some_iff.mp (show (eqT M 4 s t).map (!·)=some b from e)
  show (eqD h 4 x y).map (!·)=_
  rw [qDT R 4 s t x y c r1 r2 ec];rfl
 | inn=>exact (qHG R r1 r2 e).1
 | notin=>
  obtain ⟨c,ec,rfl⟩:=Option.map_eq_some_iff.mp (show (inT M s t).map (!·)=some b from e)
  exact (qHG R r1 r2 ec).2
 | is=>
  unfold qA5 at e;dsimp only at e
  split at e
  ·rename_i e2
   cases qAX e2;cases qAm r2
   cases e
   show some (decide (x=V.non))=_
   cases hs:s.isV with
   | none=>obtain ⟨a,rfl⟩:=qBr hs r1;rfl
   | some z=>cases qAX hs;cases qAm r1;cases x<;>rfl
  ·rename_i e2
   cases qAX e2;cases qAm r2
   split at e
   ·rename_i e3
    cases qAX e3;cases qAm r1
    exact e
   ·cases e
  ·cases e
 | isnot=>
  unfold qA5 at e;dsimp only at e
  split at e
  ·rename_i e2
   cases qAX e2;cases qAm r2
   cases e
   show some (!decide (x=V.non))=_
   cases hs:s.isV with
   | none=>obtain ⟨a,rfl⟩:=qBr hs r1;rfl
   | some z=>cases qAX hs;cases qAm r1;cases x<;>rfl
  ·rename_i e2
   cases qAX e2;cases qAm r2
   split at e
   ·rename_i e3
    cases qAX e3;cases qAm r1
    exact e
   ·cases e
  ·cases e
 | lt=>unfold qA5 at e;dsimp only at e;split at e<;>first | (rename_i e1 e2;cases qAX e1;cases qAX e2;cases qAm r1;cases qAm r2;exact e) | cases e
 | le=>unfold qA5 at e;dsimp only at e;split at e<;>first | (rename_i e1 e2;cases qAX e1;cases qAX e2;cases qAm r1;cases qAm r2;exact e) | cases e
 | gt=>unfold qA5 at e;dsimp only at e;split at e<;>first | (rename_i e1 e2;cases qAX e1;cases qAX e2;cases qAm r1;cases qAm r2;exact e) | cases e
 | ge=>unfold qA5 at e;dsimp only at e;split at e<;>first | (rename_i e1 e2;cases qAX e1;cases qAX e2;cases qAm r1;cases qAm r2;exact e) | cases e
theorem qDN:∀ {ts:List T} {vs:List V} {is:List Int},qAK A X h ts vs -> qAs ts=some is -> qBJ vs=some is
 | [],vs,xs,r,e=>by unfold qAK at r;subst r;cases e;rfl
 | t::ts,vs,xs,r,e=>by
  unfold qAK at r
  obtain ⟨v,vs',rfl,a,b⟩:=r
  unfold qAs at e
  split at e
  ·rename_i e';cases e'
  ·rename_i e';cases e'
   obtain ⟨xs',e',rfl⟩:=Option.map_eq_some_iff.mp e
   cases qAm a
   show (qBJ vs').map _=_
   rw [qDN b e'];rfl
  ·cases e
theorem qD8:∀ {ts:List T} {vs:List V} {is:List Int},qAK A X h ts vs -> qBd ts=some is -> qBH vs=some is
 | [],vs,xs,r,e=>by unfold qAK at r;subst r;cases e;rfl
 | t::ts,vs,xs,r,e=>by
  unfold qAK at r
  obtain ⟨v,vs',rfl,a,b⟩:=r
  unfold qBd at e
  split at e
  ·rename_i e';cases e'
  ·rename_i e';cases e'
   obtain ⟨xs',e',rfl⟩:=Option.map_eq_some_iff.mp e
   cases qAm a
   show (qBH vs').map _=_
   rw [qD8 b e'];rfl
  ·rename_i e';cases e'
   obtain ⟨xs',e',rfl⟩:=Option.map_eq_some_iff.mp e
   cases qAm a
   show (qBH vs').map _=_
   rw [qD8 b e'];rfl
  ·cases e
theorem qC3:∀ {ts:List T} {vs:List V} {is:List Bool},qAK A X h ts vs -> qBn ts=some is -> qBc vs=some is
 | [],vs,xs,r,e=>by unfold qAK at r;subst r;cases e;rfl
 | t::ts,vs,xs,r,e=>by
  unfold qAK at r
  obtain ⟨v,vs',rfl,a,b⟩:=r
  unfold qBn at e
  split at e
  ·rename_i e';cases e'
  ·rename_i e';cases e'
   obtain ⟨xs',e',rfl⟩:=Option.map_eq_some_iff.mp e
   cases qAm a
   show (qBc vs').map _=_
   rw [qC3 b e'];rfl
  ·cases e
theorem qBw {t:T} {ws:List V} (r:qAK A X h [t] ws):∃ w,ws=[w]/\Rep A X h t w:=by
 unfold qAK at r;obtain ⟨v,vs,rfl,a,b⟩:=r;unfold qAK at b;subst b;exact ⟨v,rfl,a⟩
theorem qJC {s t:T} {ws:List V} (r:qAK A X h [s,t] ws):∃ w u,ws=[w,u]/\Rep A X h s w/\Rep A X h t u:=by
 unfold qAK at r;obtain ⟨v,vs,rfl,a,b⟩:=r;obtain ⟨u,rfl,c⟩:=qBw b;exact ⟨v,u,rfl,a,c⟩
theorem qAS {a:Nat} {f:Bool} {vs:List V} (e:h[a]?=some (.lst f vs)):qAE h a=some vs:=by unfold qAE;rw [e]
theorem qDy (R:RelM gl A X h M) {t:T} {w:V} {n:Nat} (r:Rep A X h t w):Sim gl A X h (QE gl A X n) (.ok ((t,t.lf),M)) (.ok (w,h)):=
 ⟨w,h,rfl,Frm.refl A h,R,r,fun e=>Frs.of_lf R r e⟩
theorem qHa (R:RelM gl A X h M) {f:BF} {ts:List T} {ws:List V} {r:TB} (rs:qAK A X h ts ws) (e:qBy M f ts=some r):Sim gl A X h (QE gl A X h.length) (.ok (r,M)) (qKF f ws h):=by
 cases f with
 | len=>
  replace e:=qAx e
  obtain ⟨t0,rfl,e⟩:=e
  obtain ⟨w,rfl,rw_⟩:=qBw rs
  obtain ⟨xs,ex,rfl⟩:=Option.map_eq_some_iff.mp e
  obtain ⟨a,vs,rfl,q1,q2⟩:=qEl R rw_ ex
  show Sim _ _ _ _ _ _ (match items h a with | some xs=>_ | none=>_)
  rw [q1,qAB (reps_iff.mp q2)]
  exact qAG R rfl
 | sum=>
  replace e:=qAx e
  obtain ⟨t0,rfl,e⟩:=e
  obtain ⟨w,rfl,rw_⟩:=qBw rs
  obtain ⟨xs,ex,e⟩:=Option.bind_eq_some_iff.mp e
  obtain ⟨is,ei,rfl⟩:=Option.map_eq_some_iff.mp e
  obtain ⟨a,vs,f,rfl,q1,q2⟩:=qBW R rw_ ex
  show Sim _ _ _ _ _ _ (match qAE h a with | some xs=>_ | none=>_)
  rw [qAS q1]
  dsimp only
  rw [qD8 q2 ei]
  exact qAG R rfl
 | all=>
  replace e:=qAx e
  obtain ⟨t0,rfl,e⟩:=e
  obtain ⟨w,rfl,rw_⟩:=qBw rs
  obtain ⟨xs,ex,e⟩:=Option.bind_eq_some_iff.mp e
  obtain ⟨is,ei,rfl⟩:=Option.map_eq_some_iff.mp e
  obtain ⟨a,vs,f,rfl,q1,q2⟩:=qBW R rw_ ex
  show Sim _ _ _ _ _ _ (match qAE h a with | some xs=>_ | none=>_)
  rw [qAS q1]
  dsimp only
  rw [qC3 q2 ei]
  exact qAG R rfl
 | any=>
  replace e:=qAx e
  obtain ⟨t0,rfl,e⟩:=e
  obtain ⟨w,rfl,rw_⟩:=qBw rs
  obtain ⟨xs,ex,e⟩:=Option.bind_eq_some_iff.mp e
  obtain ⟨is,ei,rfl⟩:=Option.map_eq_some_iff.mp e
  obtain ⟨a,vs,f,rfl,q1,q2⟩:=qBW R rw_ ex
  show Sim _ _ _ _ _ _ (match qAE h a with | some xs=>_ | none=>_)
  rw [qAS q1]
  dsimp only
  rw [qC3 q2 ei]
  exact qAG R rfl
 | max=>
  replace e:=twoT_inv e
  obtain ⟨i,j,rfl,e⟩:=e
  obtain ⟨w,u,rfl,a,b⟩:=qJC rs;cases qAm a;cases qAm b;cases e;exact qAG R rfl
 | min=>
  replace e:=twoT_inv e
  obtain ⟨i,j,rfl,e⟩:=e
  obtain ⟨w,u,rfl,a,b⟩:=qJC rs;cases qAm a;cases qAm b;cases e;exact qAG R rfl
 | abs=>
  replace e:=qAx e
  obtain ⟨t0,rfl,e⟩:=e
  split at e
  ·obtain ⟨w,rfl,a⟩:=qBw rs;cases qAm a;cases e;exact qAG R rfl
  ·cases e
 | bits=>
  replace e:=qAx e
  obtain ⟨t0,rfl,e⟩:=e
  split at e
  ·obtain ⟨w,rfl,a⟩:=qBw rs;cases qAm a;cases e;exact qAG R rfl
  ·cases e
 | list=>
  replace e:=qAx e
  obtain ⟨t0,rfl,e⟩:=e
  obtain ⟨w,rfl,rw_⟩:=qBw rs
  obtain ⟨xs,ex,rfl⟩:=Option.map_eq_some_iff.mp e
  obtain ⟨a,vs,rfl,q1,q2⟩:=qEl R rw_ ex
  show Sim _ _ _ _ _ _ (match items h a with | some xs=>_ | none=>_)
  rw [q1]
  exact qEy R q2
 | int=>
  replace e:=qAx e
  obtain ⟨t0,rfl,e⟩:=e
  split at e
  ·obtain ⟨w,rfl,a⟩:=qBw rs;cases qAm a;cases e;exact qAG R rfl
  ·obtain ⟨w,rfl,a⟩:=qBw rs;cases qAm a;cases e;exact qAG R rfl
  ·cases e
theorem qGx (R:RelM gl A X h M) {t:T} {w:V} {s:String} (r:Rep A X h t w) (e:qAc M t=some s):qBC h w=some s:=by
 cases t with
 | v x=>cases qAm r;cases w<;>first | exact e | (cases e;done)
 | cell n=>unfold Rep at r;obtain ⟨a,ea,rfl⟩:=r;obtain ⟨ts,vs,e1,e2,_⟩:=R.at_ n a ea;unfold qAc at e;dsimp only at e;rw [e1] at e;cases e;unfold qBC;dsimp only;rw [e2]
 | fz xs=>unfold Rep at r;obtain ⟨a,vs,rfl,_,q,_⟩:=r;cases e;unfold qBC;dsimp only;rw [q]
 | lst xs=>unfold Rep at r;obtain ⟨a,vs,rfl,_,q,_⟩:=r;cases e;unfold qBC;dsimp only;rw [q]
 | tup xs=>unfold Rep at r;obtain ⟨a,vs,rfl,_,q,_⟩:=r;cases e;unfold qBC;dsimp only;rw [q]
 | ob o=>cases o with
  | dct=>unfold Rep at r;obtain ⟨a,rfl,_,q⟩:=r;cases e;unfold qBC;dsimp only;rw [q]
  | exn c=>cases e
theorem qDW {ts:List T} {vs:List V} {lo hi:Option Int} (r:qAK A X h ts vs):qAK A X h (qD6 ts lo hi) (L2.cutV vs lo hi):=by
 have l:=qAB (reps_iff.mp r)
 unfold qD6 L2.cutV
 rw [l]
 exact reps_iff.mpr (qA1 _ (qCX _ (reps_iff.mp r)))
end
end PI
namespace PI
open L2 (V)
noncomputable def qHO (A X:List Nat) (h:AH):Option T -> Option V -> Prop
 | none,_=>True
 | some t,some w=>Rep A X h t w
 | some _,none=>False
noncomputable abbrev qBY (A X:List Nat) (h:AH):TS -> List (Option V) -> Prop:=qBa (qHO A X h)
section
variable {gl:List T} {A X:List Nat} {h h':AH} {M M':Mem} {σ:TS} {σh:List (Option V)}
theorem qEQ {i:Nat} {t:T} (r:qBY A X h σ σh) (e:σ[i]?=some (some t)):∃ w,σh[i]?=some (some w)/\Rep A X h t w:=by
 obtain ⟨o,e1,q⟩:=qAY r e
 cases o with
 | none=>exact q.elim
 | some w=>exact ⟨w,e1,q⟩
theorem qBS {A' X':List Nat} (hc:∀ (n:Nat) a,A[n]?=some a -> A'[n]?=some a) (hn:∀ a o,a∉X -> h[a]?=some o -> a∉X'/\h'[a]?=some o) (r:qBY A X h σ σh):qBY A' X' h' σ σh:=
 qDo (fun x y q=>by
  cases x with
  | none=>trivial
  | some t=>cases y with
   | none=>exact q.elim
   | some w=>exact qAt hc hn t q) r
theorem RelM.keepS (R:RelM gl A X h M) (f:Frm A h h') (r:qBY A X h σ σh):qBY A X h' σ σh:=qBS (fun _ _ e=>e) (R.keepN f) r
theorem qBz (r:qBY A X h σ σh):∀ src:List (Option Nat),qBY A X h (qB9 src σ) (L2.inner src σh)
 | []=>rfl
 | none::src=>⟨none,_,rfl,trivial,qBz r src⟩
 | some j::src=>by
  refine ⟨(σh[j]?).join,_,rfl,?_,qBz r src⟩
  show qHO A X h (σ[j]?).join _
  cases hj:σ[j]? with
  | none=>trivial
  | some o=>cases o with
   | none=>trivial
   | some t=>
    obtain ⟨w,e1,q⟩:=qEQ r hj
    rw [e1]
    exact q
theorem qF5:∀ {is:List Nat} {ts:List T} {ws:List V} {σ σ1:TS} {σh:List (Option V)},qIc is ts σ=some σ1 -> qAK A X h ts ws -> qBY A X h σ σh -> ∃ σh1,qCp is ws σh=some σh1/\qBY A X h σ1 σh1
 | [],[],ws,σ,σ1,σh,e,r,rs=>by unfold qAK at r;subst r;cases e;exact ⟨σh,rfl,rs⟩
 | [],t::ts,ws,σ,σ1,σh,e,r,rs=>by cases e
 | i::is,[],ws,σ,σ1,σh,e,r,rs=>by cases e
 | i::is,t::ts,ws,σ,σ1,σh,e,r,rs=>by
  unfold qAK at r
  obtain ⟨w,ws',rfl,a,b⟩:=r
  exact qF5 (is:=is) (show qIc is ts (σ.set i (some t))=some σ1 from e) b (qAy i rs (show qHO A X h (some t) (some w) from a))
theorem qA7 {g:Tg} {t:T} {w:V} {σ1:TS} (e:qA8 g t σ=some σ1) (r:Rep A X h t w) (rs:qBY A X h σ σh):∃ σh1,store g w σh h=some σh1/\qBY A X h σ1 σh1:=by
 cases g with
 | name i=>cases e;exact ⟨σh.set i (some w),rfl,qAy i rs (show qHO A X h (some t) (some w) from r)⟩
 | tup is=>
  cases t with
  | tup ts=>
   unfold Rep at r
   obtain ⟨a,vs,rfl,_,q,k⟩:=r
   obtain ⟨σh1,e1,r1⟩:=qF5 (show qIc is ts σ=some σ1 from e) k rs
   refine ⟨σh1,?_,r1⟩
   show (match qAV h a with | some xs=>_ | none=>_)=_
   rw [show qAV h a=some vs by unfold qAV;rw [q]]
   exact e1
  | _=>cases e
theorem qCR:∀ (i:Nat) (ts:List T),(qCf i ts).length=ts.length
 | _,[]=>rfl
 | i,t::ts=>by rw [qCf,List.length_cons,List.length_cons,qCR]
theorem qDh:∀ (i j:Nat) (ts:List T),(qCf i ts)[j]?=(ts[j]?).map fun t=>T.tup [.v (.int ((i + j:Nat):Int)),t]
 | _,_,[]=>by simp [qCf]
 | i,0,t::ts=>by simp [qCf]
 | i,j + 1,t::ts=>by
  rw [qCf,List.getElem?_cons_succ,List.getElem?_cons_succ,qDh (i + 1) j ts]
  rw [show i + 1 + j=i + (j + 1) by omega]
theorem qC9:∀ ts us ws:List T,(qBD ts us ws).length=min ts.length (min us.length ws.length)
 | [],_,_=>by simp [qBD]
 | _::_,[],_=>by simp [qBD]
 | _::_,_::_,[]=>by simp [qBD]
 | x::xs,y::ys,z::zs=>by
  simp only [qBD,List.length_cons,qC9 xs ys zs]
  omega
theorem qER:∀ (i:Nat) (ts us ws:List T) {t:T},(qBD ts us ws)[i]?=some t -> ∃ x y z,ts[i]?=some x/\us[i]?=some y/\ws[i]?=some z/\t=.tup [x,y,z]
 | _,[],_,_,_,h=>by simp [qBD] at h
 | _,_::_,[],_,_,h=>by simp [qBD] at h
 | _,_::_,_::_,[],_,h=>by simp [qBD] at h
 | 0,x::xs,y::ys,z::zs,t,h=>by
  simp only [qBD,List.getElem?_cons_zero,Option.some.injEq] at h
  exact ⟨x,y,z,rfl,rfl,rfl,h.symm⟩
 | i + 1,x::xs,y::ys,z::zs,t,h=>by
  simp only [qBD,List.getElem?_cons_succ] at h ⊢
  exact qER i xs ys zs h
inductive qBb (A X:List Nat) (h:AH):Src -> List T -> qCZ -> Prop
 | list (a f vs ts):a∉X -> h[a]?=some (.lst f vs) -> qAK A X h ts vs -> qBb A X h (.list a) ts []
 | cell (n a vs ts):A[n]?=some a -> h[a]?=some (.lst false vs) -> qAK A X h ts vs -> qBb A X h (.list a) ts [(n,ts)]
 | tupl (a vs ts):a∉X -> h[a]?=some (.tup vs) -> qAK A X h ts vs -> qBb A X h (.tupl a) ts []
 | rng (lo n):qBb A X h (.rng lo n) (qAe lo n) []
 | rngd (lo n):qBb A X h (.rngd lo n) (qCx lo n) []
 | enum (a ts d):qBb A X h (.list a) ts d -> qBb A X h (.enum a) (qCf 0 ts) d
 | rvd (a ts d):qBb A X h (.list a) ts d -> qBb A X h (.rvd a ts.length) ts.reverse d
 | zip (a b ts us d1 d2):qBb A X h (.list a) ts d1 -> qBb A X h (.list b) us d2 -> qBb A X h (.zip a b) (List.zipWith (fun x y=>T.tup [x,y]) ts us) (d1++d2)
 | zip3 (a b c ts us ws d1 d2 d3):qBb A X h (.list a) ts d1 -> qBb A X h (.list b) us d2 -> qBb A X h (.list c) ws d3 -> qBb A X h (.zip3 a b c) (qBD ts us ws) (d1++(d2++d3))
theorem qAQ {d1 d2:qCZ} (e:qAb (d1++d2) M=true):qAb d1 M=true/\qAb d2 M=true:=by
 unfold qAb at e ⊢
 rw [List.all_append,Bool.and_eq_true] at e
 exact e
theorem qFx {s:Src} {ts:List T} {d:qCZ} (r:qBb A X h s ts d) (hn:∀ a o,a∉X -> h[a]?=some o -> h'[a]?=some o) (R:RelM gl A X h' M') (hd:qAb d M'=true):qBb A X h' s ts d:=by
 induction r with
 | list a f vs ts q1 q2 q3=>exact .list a f vs ts q1 (hn _ _ q1 q2) (qAN (fun _ _ e=>e) (fun a o x y=>⟨x,hn a o x y⟩) ts q3)
 | cell n a vs ts q1 q2 q3=>
  obtain ⟨ts',vs',e1,e2,e3⟩:=R.at_ n a q1
  unfold qAb at hd
  simp only [List.all_cons,List.all_nil,Bool.and_true] at hd
  rw [e1] at hd
  have:=qB1 _ _ hd
  subst this
  exact .cell n a vs' ts' q1 e2 e3
 | tupl a vs ts q1 q2 q3=>exact .tupl a vs ts q1 (hn _ _ q1 q2) (qAN (fun _ _ e=>e) (fun a o x y=>⟨x,hn a o x y⟩) ts q3)
 | rng lo n=>exact .rng lo n
 | rngd lo n=>exact .rngd lo n
 | enum a ts d _ i1=>exact .enum a ts d (i1 hd)
 | rvd a ts d _ i1=>exact .rvd a ts d (i1 hd)
 | zip a b ts us d1 d2 _ _ i1 i2=>exact .zip a b ts us d1 d2 (i1 (qAQ hd).1) (i2 (qAQ hd).2)
 | zip3 a b c ts us ws d1 d2 d3 _ _ _ i1 i2 i3=>exact .zip3 a b c ts us ws d1 d2 d3 (i1 (qAQ hd).1) (i2 (qAQ (qAQ hd).2).1) (i3 (qAQ (qAQ hd).2).2)
theorem qCt {A' X':List Nat} {s:Src} {ts:List T} {d:qCZ} (r:qBb A X h s ts d) (hn:∀ a o,a∉X -> h[a]?=some o -> a∉X'/\h'[a]?=some o) (R:RelM gl A' X' h' M') (hd:qAb d M'=true) (hA:∀ (n:Nat) a,A[n]?=some a -> A'[n]?=some a:=by exact fun _ _ e=>e):qBb A' X' h' s ts d:=by
 induction r with
 | list a f vs ts q1 q2 q3=>exact .list a f vs ts (hn _ _ q1 q2).1 (hn _ _ q1 q2).2 (qAN hA hn ts q3)
 | cell n a vs ts q1 q2 q3=>
  obtain ⟨ts',vs',e1,e2,e3⟩:=R.at_ n a (hA _ _ q1)
  unfold qAb at hd
  simp only [List.all_cons,List.all_nil,Bool.and_true] at hd
  rw [e1] at hd
  have:=qB1 _ _ hd
  subst this
  exact .cell n a vs' ts' (hA _ _ q1) e2 e3
 | tupl a vs ts q1 q2 q3=>exact .tupl a vs ts (hn _ _ q1 q2).1 (hn _ _ q1 q2).2 (qAN hA hn ts q3)
 | rng lo n=>exact .rng lo n
 | rngd lo n=>exact .rngd lo n
 | enum a ts d _ i1=>exact .enum a ts d (i1 hd)
 | rvd a ts d _ i1=>exact .rvd a ts d (i1 hd)
 | zip a b ts us d1 d2 _ _ i1 i2=>exact .zip a b ts us d1 d2 (i1 (qAQ hd).1) (i2 (qAQ hd).2)
 | zip3 a b c ts us ws d1 d2 d3 _ _ _ i1 i2 i3=>exact .zip3 a b c ts us ws d1 d2 d3 (i1 (qAQ hd).1) (i2 (qAQ (qAQ hd).2).1) (i3 (qAQ (qAQ hd).2).2)
theorem qAJ {a:Nat} {ts:List T} {d:qCZ} (r:qBb A X h (.list a) ts d):∃ vs,qAE h a=some vs/\qAK A X h ts vs:=by
 cases r with
 | list _ f vs _ q1 q2 q3=>exact ⟨vs,qAS q2,q3⟩
 | cell n _ vs _ q1 q2 q3=>exact ⟨vs,qAS q2,q3⟩
theorem qEZ {s:Src} {ts:List T} {d:qCZ} (r:qBb A X h s ts d):qEI h s=some ts.length:=by
 cases r with
 | list a f vs ts q1 q2 q3=>show (qAE h a).map _=_;rw [qAS q2,Option.map_some,qAB (reps_iff.mp q3)]
 | cell n a vs ts q1 q2 q3=>show (qAE h a).map _=_;rw [qAS q2,Option.map_some,qAB (reps_iff.mp q3)]
 | tupl a vs ts q1 q2 q3=>show (qAV h a).map _=_;rw [show qAV h a=some vs by unfold qAV;rw [q2],Option.map_some,qAB (reps_iff.mp q3)]
 | rng lo n=>show some n=_;simp [qAe]
 | rngd lo n=>show some n=_;simp [qCx]
 | enum a ts d r1=>
  obtain ⟨vs,e1,k1⟩:=qAJ r1
  show (qAE h a).map _=_
  rw [e1,Option.map_some,qCR,qAB (reps_iff.mp k1)]
 | rvd a ts d r1=>show some _=_;simp
 | zip a b ts us d1 d2 r1 r2=>
  obtain ⟨vs,e1,k1⟩:=qAJ r1
  obtain ⟨ws,e2,k2⟩:=qAJ r2
  show (match qAE h a,qAE h b with | some xs,some ys=>_ | _,_=>_)=_
  rw [e1,e2,List.length_zipWith,qAB (reps_iff.mp k1),qAB (reps_iff.mp k2)]
 | zip3 a b c ts us ws d1 d2 d3 r1 r2 r3=>
  obtain ⟨vs1,e1,k1⟩:=qAJ r1
  obtain ⟨vs2,e2,k2⟩:=qAJ r2
  obtain ⟨vs3,e3,k3⟩:=qAJ r3
  unfold qEI
  dsimp only
  rw [e1,e2,e3,qC9,qAB (reps_iff.mp k1),qAB (reps_iff.mp k2),qAB (reps_iff.mp k3)]
theorem qDm {s:Src} {ts:List T} {d:qCZ} (r:qBb A X h s ts d):qBB h ts.length s=true:=by
 cases r with
 | list a f vs ts q1 q2 q3=>show (match qAE h a with | some xs=>_ | none=>_)=_;rw [qAS q2,qAB (reps_iff.mp q3)];simp
 | cell n a vs ts q1 q2 q3=>show (match qAE h a with | some xs=>_ | none=>_)=_;rw [qAS q2,qAB (reps_iff.mp q3)];simp
 | tupl a vs ts q1 q2 q3=>show (match qAV h a with | some xs=>_ | none=>_)=_;rw [show qAV h a=some vs by unfold qAV;rw [q2],qAB (reps_iff.mp q3)];simp
 | rng lo n=>show decide _=_;simp [qAe]
 | rngd lo n=>show decide _=_;simp [qCx]
 | enum a ts d r1=>
  obtain ⟨vs,e1,k1⟩:=qAJ r1
  show (match qAE h a with | some xs=>_ | none=>_)=_
  rw [e1,qCR,qAB (reps_iff.mp k1)];simp
 | rvd a ts d r1=>show decide _=_;simp
 | zip a b ts us d1 d2 r1 r2=>
  obtain ⟨vs,e1,k1⟩:=qAJ r1
  obtain ⟨ws,e2,k2⟩:=qAJ r2
  show (match qAE h a,qAE h b with | some xs,some ys=>_ | _,_=>_)=_
  rw [e1,e2,List.length_zipWith,qAB (reps_iff.mp k1),qAB (reps_iff.mp k2)]
  simp
  omega
 | zip3 a b c ts us ws d1 d2 d3 r1 r2 r3=>
  obtain ⟨vs1,e1,k1⟩:=qAJ r1
  obtain ⟨vs2,e2,k2⟩:=qAJ r2
  obtain ⟨vs3,e3,k3⟩:=qAJ r3
  unfold qBB
  dsimp only
  rw [e1,e2,e3,qC9,qAB (reps_iff.mp k1),qAB (reps_iff.mp k2),qAB (reps_iff.mp k3)]
  dsimp only
  rw [decide_eq_true_eq]
  omega
theorem qCw (R:RelM gl A X h M) {s:Src} {ts:List T} {d:qCZ} (r:qBb A X h s ts d) {i:Nat} {t:T} (ei:ts[i]?=some t):
  ∃ w e,qAT h i s=some (w,h++e)/\Rep A X (h++e) t w:=by
 cases r with
 | list a f vs ts q1 q2 q3=>
  obtain ⟨w,ew,q⟩:=qAY (reps_iff.mp q3) ei
  refine ⟨w,[],?_,by rw [List.append_nil];exact q⟩
  show (match qAE h a with | some xs=>_ | none=>_)=_
  rw [qAS q2];dsimp only;rw [ew,List.append_nil];rfl
 | cell n a vs ts q1 q2 q3=>
  obtain ⟨w,ew,q⟩:=qAY (reps_iff.mp q3) ei
  refine ⟨w,[],?_,by rw [List.append_nil];exact q⟩
  show (match qAE h a with | some xs=>_ | none=>_)=_
  rw [qAS q2];dsimp only;rw [ew,List.append_nil];rfl
 | tupl a vs ts q1 q2 q3=>
  obtain ⟨w,ew,q⟩:=qAY (reps_iff.mp q3) ei
  refine ⟨w,[],?_,by rw [List.append_nil];exact q⟩
  show (match qAV h a with | some xs=>_ | none=>_)=_
  rw [show qAV h a=some vs by unfold qAV;rw [q2]];dsimp only;rw [ew,List.append_nil];rfl
 | rng lo n=>
  have hi:i < n:=by have:=(List.getElem?_eq_some_iff.mp ei).1;simpa [qAe] using this
  refine ⟨.int (lo + (i:Int)),[],?_,?_⟩
  ·show (if i < n then _ else _)=_
   rw [if_pos hi,List.append_nil]
  ·have:t=.v (.int (lo + (i:Int))):=by
    simp only [qAe,List.getElem?_map,List.getElem?_range hi,Option.map_some,Option.some.injEq] at ei
    exact ei.symm
   rw [this]
   unfold Rep
   exact ⟨rfl,rfl⟩
 | rngd lo n=>
  have hi:i < n:=by have:=(List.getElem?_eq_some_iff.mp ei).1;simpa [qCx] using this
  refine ⟨.int (lo - (i:Int)),[],?_,?_⟩
  ·show (if i < n then _ else _)=_
   rw [if_pos hi,List.append_nil]
  ·have:t=.v (.int (lo - (i:Int))):=by
    simp only [qCx,List.getElem?_map,List.getElem?_range hi,Option.map_some,Option.some.injEq] at ei
    exact ei.symm
   rw [this]
   unfold Rep
   exact ⟨rfl,rfl⟩
 | enum a ts d r1=>
  obtain ⟨vs,e1,k1⟩:=qAJ r1
  rw [qDh] at ei
  obtain ⟨x,ex,rfl⟩:=Option.map_eq_some_iff.mp ei
  obtain ⟨v,ev,qv⟩:=qAY (reps_iff.mp k1) ex
  refine ⟨.ref h.length,[.tup [.int (i:Int),v]],?_,?_⟩
  ·show (match qAE h a with | some xs=>_ | none=>_)=_
   rw [e1];dsimp only;rw [ev];rfl
  ·have f:=Frm.app A h [O.tup [.int (i:Int),v]]
   unfold Rep
   refine ⟨_,[.int (i:Int),v],rfl,fun z=>Nat.lt_irrefl _ (R.lt _ z),by simp,?_⟩
   unfold qAK
   refine ⟨.int (i:Int),[v],rfl,by unfold Rep;rw [Nat.zero_add];exact ⟨rfl,rfl⟩,?_⟩
   unfold qAK
   exact ⟨v,[],rfl,R.keep f qv,by unfold qAK;rfl⟩
 | rvd a ts d r1=>
  obtain ⟨vs,e1,k1⟩:=qAJ r1
  have hi:i < ts.length:=by have:=(List.getElem?_eq_some_iff.mp ei).1;simpa using this
  rw [List.getElem?_reverse hi] at ei
  obtain ⟨w,ew,q⟩:=qAY (reps_iff.mp k1) ei
  refine ⟨w,[],?_,by rw [List.append_nil];exact q⟩
  show (if i < ts.length then _ else _)=_
  rw [if_pos hi,e1];dsimp only;rw [ew,List.append_nil];rfl
 | zip a b ts us d1 d2 r1 r2=>
  obtain ⟨vs,e1,k1⟩:=qAJ r1
  obtain ⟨ws,e2,k2⟩:=qAJ r2
  rw [List.getElem?_zipWith] at ei
  cases et:ts[i]? with
  | none=>rw [et] at ei;cases ei
  | some x=>
   cases eu:us[i]? with
   | none=>rw [et,eu] at ei;cases ei
   | some y=>
    rw [et,eu] at ei
    cases ei
    obtain ⟨v,ev,qv⟩:=qAY (reps_iff.mp k1) et
    obtain ⟨w,ew,qw⟩:=qAY (reps_iff.mp k2) eu
    refine ⟨.ref h.length,[.tup [v,w]],?_,?_⟩
    ·show (match qAE h a,qAE h b with | some xs,some ys=>_ | _,_=>_)=_
     rw [e1,e2];dsimp only;rw [ev,ew]
    ·have f:=Frm.app A h [O.tup [v,w]]
     unfold Rep
     refine ⟨_,[v,w],rfl,fun z=>Nat.lt_irrefl _ (R.lt _ z),by simp,?_⟩
     unfold qAK
     refine ⟨v,[w],rfl,R.keep f qv,?_⟩
     unfold qAK
     exact ⟨w,[],rfl,R.keep f qw,by unfold qAK;rfl⟩
 | zip3 a b c ts us ws d1 d2 d3 r1 r2 r3=>
  obtain ⟨vs1,e1,k1⟩:=qAJ r1
  obtain ⟨vs2,e2,k2⟩:=qAJ r2
  obtain ⟨vs3,e3,k3⟩:=qAJ r3
  obtain ⟨x,y,z,ex,ey,ez,rfl⟩:=qER i ts us ws ei
  obtain ⟨v1,g1,q1⟩:=qAY (reps_iff.mp k1) ex
  obtain ⟨v2,g2,q2⟩:=qAY (reps_iff.mp k2) ey
  obtain ⟨v3,g3,q3⟩:=qAY (reps_iff.mp k3) ez
  refine ⟨.ref h.length,[.tup [v1,v2,v3]],?_,?_⟩
  ·unfold qAT
   dsimp only
   rw [e1,e2,e3];dsimp only;rw [g1,g2,g3]
  ·have f:=Frm.app A h [O.tup [v1,v2,v3]]
   unfold Rep
   refine ⟨_,[v1,v2,v3],rfl,fun z=>Nat.lt_irrefl _ (R.lt _ z),by simp,?_⟩
   unfold qAK
   refine ⟨v1,[v2,v3],rfl,R.keep f q1,?_⟩
   unfold qAK
   refine ⟨v2,[v3],rfl,R.keep f q2,?_⟩
   unfold qAK
   exact ⟨v3,[],rfl,R.keep f q3,by unfold qAK;rfl⟩
theorem RelM.setX (R:RelM gl A X h M) {D:Nat} (hD:D∈X) (hA:D∉A) (o:O):RelM gl A X (h.set D o) M:=by
 have hn:∀ a o',a∉X -> h[a]?=some o' -> a∉X/\(h.set D o)[a]?=some o':=fun a o' x y=>⟨x,by rw [List.getElem?_set_ne (by rintro rfl;exact x hD)];exact y⟩
 refine ⟨R.len,R.nd,R.sub,fun a ha=>by simpa using R.lt a ha,fun n a e=>?_,fun g t e=>qAt (fun _ _ e=>e) hn t (R.glo g t e)⟩
 obtain ⟨ts,vs,e1,e2,e3⟩:=R.at_ n a e
 exact ⟨ts,vs,e1,by rw [List.getElem?_set_ne (by rintro rfl;exact hA (List.mem_of_getElem? e))];exact e2,qAN (fun _ _ e=>e) hn ts e3⟩
theorem Sim.bindW {α β α2 β2:Type} {X':List Nat} {h1:AH} {Q:α -> β -> AH -> Mem -> Prop} {Q2:α2 -> β2 -> AH -> Mem -> Prop} {r:PR (α×Mem)} {rh:Res (β×AH)} {f:α×Mem -> PR (α2×Mem)} {g:β×AH -> Res (β2×AH)}
  (hX:∀ a∈X,a∈X') (hA:∀ a∈A,a∈X) (f0:Frm A h1 h)
  (s:Sim gl A X' h Q r rh) (k:∀ x M' y h',Frm A h h' -> RelM gl A X' h' M' -> Q x y h' M' -> Sim gl A X h1 Q2 (f (x,M')) (g (y,h'))):Sim gl A X h1 Q2 (r.bind f) (rh.bind g):=by
 cases r with
 | ok p=>
  obtain ⟨x,M'⟩:=p
  obtain ⟨y,h',rfl,f1,R1,q⟩:=s
  exact k x M' y h' f1 R1 q
 | exc c M'=>
  obtain ⟨h',rfl,f1,R1⟩:=s
  exact ⟨h',rfl,f0.trans f1,R1.weak hX hA⟩
 | stuck=>trivial
mutual
theorem qIs {X X':List Nat} {h:AH}:∀ (t:T) {w:V} {f g:List Nat},FP X h t w f -> FP X' h t w g -> f=g
 | .v x,w,f,g,p,q=>by unfold FP at p q;rw [p.2,q.2]
 | .cell n,w,f,g,p,q=>by unfold FP at p;exact p.elim
 | .fz ts,w,f,g,p,q=>by unfold FP at p;exact p.elim
 | .ob o,w,f,g,p,q=>by unfold FP at p q;rw [p.2,q.2]
 | .lst ts,w,f,g,p,q=>by
  unfold FP at p q
  obtain ⟨a,vs,f',rfl,_,e1,k1,rfl⟩:=p
  obtain ⟨b,us,g',e,_,e2,k2,rfl⟩:=q
  cases e;rw [e1] at e2;cases e2
  rw [qDE ts k1 k2]
 | .tup ts,w,f,g,p,q=>by
  unfold FP at p q
  obtain ⟨a,vs,rfl,_,e1,k1⟩:=p
  obtain ⟨b,us,e,_,e2,k2⟩:=q
  cases e;rw [e1] at e2;cases e2
  exact qDE ts k1 k2
theorem qDE {X X':List Nat} {h:AH}:∀ (ts:List T) {ws:List V} {f g:List Nat},FPs X h ts ws f -> FPs X' h ts ws g -> f=g
 | [],w,f,g,p,q=>by unfold FPs at p q;rw [p.2,q.2]
 | t::ts,w,f,g,p,q=>by
  unfold FPs at p q
  obtain ⟨v,vs,f1,f2,rfl,a,b,rfl⟩:=p
  obtain ⟨v',vs',g1,g2,e,a',b',rfl⟩:=q
  cases e
  rw [qIs t a a',qDE ts b b']
end
theorem qES:∀ {ts:List T} {ws:List V} {fp f:List Nat} {t:T} {w:V},FPs X h ts ws fp -> FP X h t w f -> FPs X h (ts++[t]) (ws++[w]) (fp++f)
 | [],ws,fp,f,t,w,p,q=>by
  unfold FPs at p;obtain ⟨rfl,rfl⟩:=p
  show FPs X h [t] [w] f
  unfold FPs
  exact ⟨w,[],f,[],rfl,q,by unfold FPs;exact ⟨rfl,rfl⟩,by simp⟩
 | s::ts,ws,fp,f,t,w,p,q=>by
  unfold FPs at p
  obtain ⟨v,vs,f1,f2,rfl,a,b,rfl⟩:=p
  show FPs X h (s::(ts++[t])) (v::(vs++[w])) _
  unfold FPs
  exact ⟨v,vs++[w],f1,f2++f,rfl,a,qES b q,by rw [List.append_assoc]⟩
end
section
variable {gl:List T} {A X:List Nat}
theorem qDI {s:Src} {its:List T} {d:qCZ} {g:Tg} {c:TS -> Mem -> PR (Bool×Mem)} {c':List (Option V) -> AH -> Res (Bool×AH)} {e:TS -> Mem -> PR (TB×Mem)} {e':List (Option V) -> AH -> RV} {D:Nat} {h1:AH}
  (hc:∀ X h M σ σh,RelM gl A X h M -> qBY A X h σ σh -> Sim gl A X h (fun b b' _ _=>b=b') (c σ M) (c' σh h))
  (he:∀ X h M σ σh,RelM gl A X h M -> qBY A X h σ σh -> Sim gl A X h (QE gl A X h.length) (e σ M) (e' σh h))
  (hD:h1.length<=D) (hDX:D∉X) (hA:∀ a∈A,a∈X):∀ (r:List T) (i:Nat) (ys:List T) (ws:List V) (f:Bool) (fp:List Nat) (Y:List Nat) (σ:TS) (σh:List (Option V)) (M:Mem) (h:AH),
   its.drop i=r -> i<=its.length -> Y=D::X++fp -> Frm A h1 h -> RelM gl A Y h M -> qBb A Y h s its d -> h[D]?=some (.lst false ws) -> qAK A (D::X) h ys ws ->
   (f=true -> FPs (D::X) h ys ws fp/\fp.Nodup/\∀ a∈fp,h1.length<=a) -> qBY A Y h σ σh ->
   Sim gl A X h1 (QE gl A X h1.length) (qAo d g c e r ys f σ M) (qDe s g c' e' D r.length i ws σh h)
 | [],i,ys,ws,f,fp,Y,σ,σh,M,h,hr,hi,hY,fm,R,sr,eD,ry,hf,rs=>by
  have hi':i=its.length:=by
   have:=List.drop_eq_nil_iff.mp hr;omega
  subst hi'
  have hX:∀ a∈X,a∈D::X:=fun a z=>List.mem_cons_of_mem _ z
  have hXY:∀ a∈X,a∈Y:=fun a z=>by rw [hY];simp [z]
  have hn:∀ a o,a∉D::X -> h[a]?=some o -> a∉X/\h[a]?=some o:=fun a o x y=>⟨fun z=>x (hX _ z),y⟩
  refine ⟨.ref D,h,?_,fm,R.weak hXY hA,?_,fun e=>?_⟩
  ·show (if qBB h its.length s then _ else _)=_
   rw [if_pos (qDm sr)]
  ·show Rep A X h (.lst ys) _
   unfold Rep
   exact ⟨D,ws,rfl,hDX,eD,qAN (fun _ _ e=>e) hn ys ry⟩
  ·obtain ⟨p,nd,l⟩:=hf e
   refine ⟨fp++[D],?_,?_,?_,?_⟩
   ·show FP X h (.lst ys) _ _
    unfold FP
    exact ⟨D,ws,fp,rfl,hDX,eD,qA6 hn ys p,rfl⟩
   ·rw [List.nodup_append]
    refine ⟨nd,by simp,?_⟩
    rintro a ha b hb rfl
    simp at hb
    exact (qB2 ys p a ha).1 (by rw [hb];exact List.mem_cons_self ..)
   ·intro a ha
    rcases List.mem_append.mp ha with z | z
    ·exact l a z
    ·simp at z;omega
   ·refine R.weak (fun a z=>?_) fun a z=>List.mem_append_left _ (hA a z)
    rw [hY]
    simp only [List.mem_append,List.mem_cons,List.mem_singleton] at z ⊢
    grind
 | x::r,i,ys,ws,f,fp,Y,σ,σh,M,h,hr,hi,hY,fm,R,sr,eD,ry,hf,rs=>by
  have hXY:∀ a∈X,a∈Y:=fun a z=>by rw [hY];simp [z]
  have hDY:D∈Y:=by rw [hY];simp
  have hDXY:∀ a∈D::X,a∈Y:=fun a z=>by rw [hY];exact List.mem_append_left _ z
  have hDA:D∉A:=fun z=>hDX (hA D z)
  have ex:its[i]?=some x:=by
   have:(its.drop i)[0]?=some x:=by rw [hr];rfl
   rwa [List.getElem?_drop,Nat.add_zero] at this
  have hi2:i + 1<=its.length:=(List.getElem?_eq_some_iff.mp ex).1
  have hr2:its.drop (i + 1)=r:=by
   rw [<- List.drop_drop,hr];rfl
  obtain ⟨w,ext,ey,rx⟩:=qCw R sr ex
  have fy:Frm A h (h++ext):=Frm.app A h ext
  rw [List.length_cons]
  unfold qAo qDe
  rw [ey]
  dsimp only
  cases es:qA8 g x σ with
  | none=>exact Sim.stuck
  | some σ1=>
   obtain ⟨σh1,esh,rs1⟩:=qA7 es rx (R.keepS fy rs)
   rw [esh]
   dsimp only
   refine Sim.bindW hXY hA (fm.trans fy) (hc _ _ _ _ _ (R.up ext) rs1) ?_
   rintro b M2 b' h2 f2 R2 rfl
   have k2:Frm A h h2:=fy.trans f2
   have eD2:h2[D]?=some (.lst false ws):=(k2.2 D (qAM eD) hDA).trans eD
   have kN:∀ {h':AH},Frm A h h' -> ∀ a o,a∉D::X -> h[a]?=some o -> a∉D::X/\h'[a]?=some o:=fun f' a o x y=>⟨x,(f'.2 a (qAM y) fun z=>x (List.mem_cons_of_mem _ (hA _ z))).trans y⟩
   cases b with
   | true=>
    simp only [if_true]
    refine Sim.bindW hXY hA (fm.trans k2) (he _ _ _ _ _ R2 ((R.up ext).keepS f2 rs1)) ?_
    intro y M3 w3 h3 f3 R3 q3
    have k3:Frm A h h3:=k2.trans f3
    have eD3:h3[D]?=some (.lst false ws):=(k3.2 D (qAM eD) hDA).trans eD
    have lw:ys.length=ws.length:=qAB (reps_iff.mp ry)
    dsimp only
    by_cases hl:ys.length < lim/\qAb d M3=true
    ·rw [if_pos hl,if_pos ⟨eD3,by rw [<- lw];exact hl.1⟩]
     have hs:∀ (Z:List Nat),D∈Z -> ∀ a o,a∉Z -> h3[a]?=some o -> a∉Z/\(h3.set D (.lst false (ws++[w3])))[a]?=some o:=fun Z hZ a o x y=>⟨x,by rw [List.getElem?_set_ne (by rintro rfl;exact x hZ)];exact y⟩
     have hnD:∀ a o,a∉D::X -> h[a]?=some o -> a∉D::X/\(h3.set D (.lst false (ws++[w3])))[a]?=some o:=fun a o x y=>hs _ (List.mem_cons_self ..) a o x (kN k3 a o x y).2
     have ry4:qAK A (D::X) (h3.set D (.lst false (ws++[w3]))) (ys++[y.1]) (ws++[w3]):=
      reps_iff.mpr (qAh (reps_iff.mp (qAN (fun _ _ e=>e) hnD ys ry)) ⟨w3,[],rfl,qAt (fun _ _ e=>e) (fun a o x y=>hs _ (List.mem_cons_self ..) a o x y) _ (qAt (fun _ _ e=>e) (fun a o x y=>⟨fun z=>x (hDXY _ z),y⟩) _ q3.1),rfl⟩)
     obtain ⟨fp2,hp2,R3',hlt2⟩:∃ fp2:List Nat,(y.2=true -> FP Y h3 y.1 w3 fp2/\fp2.Nodup)/\RelM gl A (Y++fp2) h3 M3/\∀ a∈fp2,h2.length<=a:=by
      cases hy2:y.2 with
      | true=>
       obtain ⟨fp2,a,b,c,d⟩:=q3.2 hy2
       exact ⟨fp2,fun _=>⟨a,b⟩,d,c⟩
      | false=>exact ⟨[],(fun z=>by cases z),by rw [List.append_nil];exact R3,fun a ha=>by simp at ha⟩
     have old:∀ {Z:List Nat} (_:∀ a∈Y,a∈Z) (a:Nat) o,a∉Y -> h2[a]?=some o -> a∉Y++fp2:=fun _ a o x y=>by
      rw [List.mem_append];rintro (z | z)
      ·exact x z
      ·have:=hlt2 a z;have:=qAM y;omega
     have R4:=R3'.setX (List.mem_append_left _ hDY) hDA (.lst false (ws++[w3]))
     have hnY:∀ a o,a∉Y -> h[a]?=some o -> a∉Y++fp2/\(h3.set D (.lst false (ws++[w3])))[a]?=some o:=fun a o x y=>⟨old (fun _ z=>z) a o x (R.keepN k2 a o x y).2,(hs Y hDY a o x (R.keepN k3 a o x y).2).2⟩
     have hn2:∀ a o,a∉Y -> h2[a]?=some o -> a∉Y++fp2/\(h3.set D (.lst false (ws++[w3])))[a]?=some o:=fun a o x y=>⟨old (fun _ z=>z) a o x y,(hs Y hDY a o x (R2.keepN f3 a o x y).2).2⟩
     refine qDI hc he hD hDX hA r (i + 1) (ys++[y.1]) (ws++[w3]) (f&&y.2) (fp++fp2) (Y++fp2) σ1 σh1 M3 _ hr2 hi2 (by rw [hY,List.append_assoc]) ((fm.trans k3).set (.inr hD) _) R4 ?_ ?_ ry4 ?_ ?_
     ·exact qCt sr hnY R4 hl.2
     ·rw [List.getElem?_set_self (qAM eD3)]
     ·intro ef
      rw [Bool.and_eq_true] at ef
      obtain ⟨p1,nd1,l1⟩:=hf ef.1
      obtain ⟨p2,nd2⟩:=hp2 ef.2
      refine ⟨qES (qA6 hnD ys p1) (qCz (fun a o x y=>hs _ (List.mem_cons_self ..) a o x y) _ (qCz (fun a o x y=>⟨fun z=>x (hDXY _ z),y⟩) _ p2)),?_,?_⟩
      ·rw [List.nodup_append]
       refine ⟨nd1,nd2,?_⟩
       rintro a ha b hb rfl
       exact (qEX y.1 p2 a hb).1 (by rw [hY];exact List.mem_append_right _ ha)
      ·intro a ha
       rcases List.mem_append.mp ha with z | z
       ·exact l1 a z
       ·have:=hlt2 a z
        have:=(fm.trans k2).1
        omega
     ·exact qBS (fun _ _ e=>e) hn2 ((R.up ext).keepS f2 rs1)
    ·rw [if_neg hl]
     exact Sim.stuck
   | false=>
    dsimp only
    simp only [Bool.false_eq_true,if_false]
    by_cases hl:qAb d M2=true
    ·rw [if_pos hl,if_pos eD2]
     exact qDI hc he hD hDX hA r (i + 1) ys ws f fp Y σ1 σh1 M2 h2 hr2 hi2 hY (fm.trans k2) R2 (qFx sr (fun a o x y=>(R.keepN k2 a o x y).2) R2 hl) eD2 (qAN (fun _ _ e=>e) (kN k2) ys ry)
      (fun ef=>by obtain ⟨a,b,c⟩:=hf ef;exact ⟨qA6 (kN k2) ys a,b,c⟩) ((R.up ext).keepS f2 rs1)
    ·rw [if_neg hl]
     exact Sim.stuck
end
end PI
namespace PI
open L2 (V)
section
variable {gl:List T} {A X:List Nat} {h h':AH} {M M':Mem}
theorem qGT {X':List Nat} {s:Src} {ts:List T} {d:qCZ} (r:qBb A X h s ts d) (hn:∀ a o,a∉X -> h[a]?=some o -> a∉X'/\h'[a]?=some o) (hc:∀ (n:Nat) a o,A[n]?=some a -> h[a]?=some o -> h'[a]?=some o):qBb A X' h' s ts d:=by
 induction r with
 | list a f vs ts q1 q2 q3=>exact .list a f vs ts (hn _ _ q1 q2).1 (hn _ _ q1 q2).2 (qAN (fun _ _ e=>e) hn ts q3)
 | cell n a vs ts q1 q2 q3=>exact .cell n a vs ts q1 (hc n a _ q1 q2) (qAN (fun _ _ e=>e) hn ts q3)
 | tupl a vs ts q1 q2 q3=>exact .tupl a vs ts (hn _ _ q1 q2).1 (hn _ _ q1 q2).2 (qAN (fun _ _ e=>e) hn ts q3)
 | rng lo n=>exact .rng lo n
 | rngd lo n=>exact .rngd lo n
 | enum a ts d _ i1=>exact .enum a ts d i1
 | rvd a ts d _ i1=>exact .rvd a ts d i1
 | zip a b ts us d1 d2 _ _ i1 i2=>exact .zip a b ts us d1 d2 i1 i2
 | zip3 a b c ts us ws d1 d2 d3 _ _ _ i1 i2 i3=>exact .zip3 a b c ts us ws d1 d2 d3 i1 i2 i3
theorem qD2 {n:Nat} {r:PR (TB×Mem)} {rh:RV} (s:Sim gl A X h (QE gl A X n) r rh):Sim gl A X h (fun b b' _ _=>b=b') (pB r) (asB rh):=by
 refine Sim.bind s ?_
 intro x M1 w h1 f1 R1 q1
 obtain ⟨t,fr⟩:=x
 dsimp only
 split
 ·rename_i b
  cases qAm q1.1
  exact ⟨_,h1,rfl,Frm.refl A h1,R1,rfl⟩
 ·exact Sim.stuck
theorem qDf:∀ (xs:List V),T.lfs (xs.map .v)=true
 | []=>rfl
 | x::xs=>by show (T.lf (.v x)&&T.lfs (xs.map .v))=true;rw [qDf xs];rfl
theorem qCq (lo:Int) (n:Nat):T.lfs (qAe lo n)=true:=by
 have e:qAe lo n=(qAi lo n).map .v:=by unfold qAe qAi;rw [List.map_map];rfl
 rw [e];exact qDf _
theorem qBF {A X:List Nat} {h:AH}:∀ {xs:List V},xs.all flat=true -> qAK A X h (xs.map .v) xs
 | [],_=>by show qAK A X h [] [];unfold qAK;rfl
 | x::xs,f=>by
  rw [List.all_cons,Bool.and_eq_true] at f
  show qAK A X h (.v x::xs.map .v) _
  unfold qAK
  exact ⟨x,xs,rfl,by unfold Rep;exact ⟨rfl,f.1⟩,qBF f.2⟩
theorem qCu {α β:Type} {R:α -> β -> Prop} {xs:List α} {ys:List β} (k:Nat) (h:qBa R xs ys):qBa R (xs.eraseIdx k) (ys.eraseIdx k):=by
 rw [List.eraseIdx_eq_take_drop_succ,List.eraseIdx_eq_take_drop_succ]
 exact qAh (qA1 _ h) (qCX _ h)
theorem qC4 {α β:Type} {R:α -> β -> Prop} {xs:List α} {ys:List β} (h:qBa R xs ys):qBa R xs.dropLast ys.dropLast:=by
 rw [List.dropLast_eq_take,List.dropLast_eq_take,<- qAB h]
 exact qA1 _ h
theorem qEa {α β:Type} {R:α -> β -> Prop}:∀ {xs:List α} {ys:List β},qBa R xs ys -> qBa R xs.reverse ys.reverse
 | [],_,h=>by cases h;rfl
 | x::xs,_,⟨v,vs,rfl,r,h⟩=>by
  rw [List.reverse_cons,List.reverse_cons]
  exact qAh (qEa h) ⟨v,[],rfl,r,rfl⟩
theorem qGQ (R:RelM gl A X h M) {m:Mt} {n p:Nat} {ts:List T} {ws:List V} (ep:A[n]?=some p) (rs:qAK A X h ts ws):Sim gl A X h (QE gl A X h.length) (PR.ofO (qGK m n ts M)) (qGI m p ws h):=by
 obtain ⟨ts2,vs2,g1,g2,g3⟩:=R.at_ n p ep
 have hm:qAW h p=some vs2:=by unfold qAW;rw [g2]
 have l:=qAB (reps_iff.mp g3)
 cases em:qGK m n ts M with
 | none=>exact Sim.stuck
 | some r=>
  unfold qGK at em
  split at em
  ·unfold qAK at rs;subst rs
   rw [g1] at em
   dsimp only [Option.bind_some] at em
   obtain ⟨y,ey,rfl⟩:=Option.map_eq_some_iff.mp em
   obtain ⟨w,ew,rw2⟩:=qAY (reps_iff.mp g3) ey
   show Sim _ _ _ _ _ _ (match qAW h p with | some xs=>_ | none=>_)
   rw [hm]
   dsimp only
   rw [<- l,ew]
   obtain ⟨R4,f4⟩:=R.put ep (reps_iff.mpr (qC4 (reps_iff.mp g3)))
   have r:=R.keep f4 rw2
   exact ⟨w,_,rfl,f4,R4,r,fun e=>Frs.of_lf R4 r e⟩
  ·rename_i i
   obtain ⟨w,rfl,a⟩:=qBw rs
   cases qAm a
   rw [g1] at em
   dsimp only [Option.bind_some] at em
   split at em
   ·rename_i hl
    obtain ⟨k,ek,em⟩:=Option.bind_eq_some_iff.mp em
    obtain ⟨y,ey,rfl⟩:=Option.map_eq_some_iff.mp em
    obtain ⟨w,ew,rw2⟩:=qAY (reps_iff.mp g3) ey
    show Sim _ _ _ _ _ _ (match qAW h p with | some xs=>_ | none=>_)
    rw [hm]
    dsimp only
    rw [<- l,if_pos hl,ek]
    dsimp only
    rw [ew]
    obtain ⟨R4,f4⟩:=R.put ep (reps_iff.mpr (qCu k (reps_iff.mp g3)))
    have r:=R.keep f4 rw2
    exact ⟨w,_,rfl,f4,R4,r,fun e=>Frs.of_lf R4 r e⟩
   ·cases em
  ·unfold qAK at rs;subst rs
   rw [g1] at em
   cases em
   show Sim _ _ _ _ _ _ (match qAW h p with | some xs=>_ | none=>_)
   rw [hm]
   obtain ⟨R4,f4⟩:=R.put ep (reps_iff.mpr (qEa (reps_iff.mp g3)))
   have r:Rep A X (h.set p (.lst false vs2.reverse)) (.v .non) .non:=by unfold Rep;exact ⟨rfl,rfl⟩
   exact ⟨_,_,rfl,f4,R4,r,fun e=>Frs.of_lf R4 r e⟩
  ·unfold qAK at rs;subst rs
   rw [g1] at em
   cases em
   show Sim _ _ _ _ _ _ (match qAW h p with | some xs=>_ | none=>_)
   rw [hm]
   obtain ⟨R4,f4⟩:=R.put (ts:=[]) (vs:=[]) ep (by unfold qAK;rfl)
   have r:Rep A X (h.set p (.lst false [])) (.v .non) .non:=by unfold Rep;exact ⟨rfl,rfl⟩
   exact ⟨_,_,rfl,f4,R4,r,fun e=>Frs.of_lf R4 r e⟩
  ·rename_i i
   obtain ⟨w,rfl,a⟩:=qBw rs
   cases qAm a
   rw [g1] at em
   dsimp only [Option.bind_some] at em
   split at em
   ·rename_i hl
    obtain ⟨k,ek,rfl⟩:=Option.map_eq_some_iff.mp em
    obtain ⟨is,eis,ek⟩:=Option.bind_eq_some_iff.mp ek
    show Sim _ _ _ _ _ _ (match qAW h p with | some xs=>_ | none=>_)
    rw [hm]
    dsimp only
    rw [<- l,if_pos hl,qDN g3 eis]
    dsimp only [Option.bind_some]
    rw [ek]
    obtain ⟨R4,f4⟩:=R.put ep (reps_iff.mpr (qCu k (reps_iff.mp g3)))
    have r:Rep A X (h.set p (.lst false (vs2.eraseIdx k))) (.v .non) .non:=by unfold Rep;exact ⟨rfl,rfl⟩
    exact ⟨_,_,rfl,f4,R4,r,fun e=>Frs.of_lf R4 r e⟩
   ·cases em
  ·rename_i y
   obtain ⟨w,rfl,a⟩:=qBw rs
   have fy:=qBf a
   cases qAm a
   rw [g1] at em
   dsimp only [Option.bind_some] at em
   obtain ⟨zs,ez,rfl⟩:=Option.map_eq_some_iff.mp em
   obtain ⟨rfl,kk⟩:=qC7 g3 ez
   show Sim _ _ _ _ _ _ (match qAW h p with | some xs=>_ | none=>_)
   rw [hm]
   dsimp only
   rw [if_pos (by rw [fy,kk];rfl)]
   exact qAG R rfl
  ·rename_i t
   obtain ⟨w,rfl,a⟩:=qBw rs
   rw [g1] at em
   dsimp only [Option.bind_some] at em
   obtain ⟨ys,ey,em⟩:=Option.bind_eq_some_iff.mp em
   split at em
   ·rename_i hc
    cases em
    obtain ⟨q,us,rfl,m2,k2⟩:=qEv R a ey
    have hne:p≠q:=by
     rintro rfl
     cases t with
     | cell k=>
      unfold Rep at a;obtain ⟨a',ea,e⟩:=a;cases e
      have:n=k:=(List.getElem?_inj (List.getElem?_eq_some_iff.mp ep).1 R.nd).mp (ep.trans ea.symm)
      have hc1:=hc.1
      unfold T.isC at hc1
      simp at hc1
      exact hc1 this.symm
     | lst xs=>unfold Rep at a;obtain ⟨a',vs',e,z,_⟩:=a;cases e;exact z (R.sub _ (List.mem_of_getElem? ep))
     | _=>cases ey
    show Sim _ _ _ _ _ _ (match qAW h p with | some xs=>_ | none=>_)
    rw [hm]
    dsimp only
    rw [m2]
    dsimp only
    rw [if_pos ⟨hne,by rw [<- l,<- qAB (reps_iff.mp k2)];exact hc.2⟩]
    obtain ⟨R4,f4⟩:=R.put ep (reps_iff.mpr (qAh (reps_iff.mp g3) (reps_iff.mp k2)))
    have r:Rep A X (h.set p (.lst false (vs2++us))) (.v .non) .non:=by unfold Rep;exact ⟨rfl,rfl⟩
    exact ⟨_,_,rfl,f4,R4,r,fun e=>Frs.of_lf R4 r e⟩
   ·cases em
  ·cases em
theorem qH2 (R:RelM gl A X h M) {t:T} {w:V} {s:List T×qCZ} (r:Rep A X h t w) (e:qEO M t=some s):∃ p sh,w=.ref p/\(match h[p]? with | some (.lst _ _)=>Res.ok (Src.list p,h) | some (.tup _)=>.ok (.tupl p,h) | _=>.stuck)=.ok (sh,h)/\qBb A X h sh s.1 s.2:=by
 cases t with
 | v x=>cases e
 | cell n=>
  unfold Rep at r;obtain ⟨a,ea,rfl⟩:=r
  obtain ⟨ts,vs,e1,e2,e3⟩:=R.at_ n a ea
  unfold qEO at e;dsimp only at e;rw [e1] at e;cases e
  exact ⟨a,_,rfl,by rw [e2],.cell n a vs ts ea e2 e3⟩
 | fz xs=>unfold Rep at r;obtain ⟨a,vs,rfl,q,k,z⟩:=r;cases e;exact ⟨a,_,rfl,by rw [k],.list a true vs xs q k z⟩
 | lst xs=>unfold Rep at r;obtain ⟨a,vs,rfl,q,k,z⟩:=r;cases e;exact ⟨a,_,rfl,by rw [k],.list a false vs xs q k z⟩
 | tup xs=>unfold Rep at r;obtain ⟨a,vs,rfl,q,k,z⟩:=r;cases e;exact ⟨a,_,rfl,by rw [k],.tupl a vs xs q k z⟩
 | ob o=>cases e
theorem qBk (R:RelM gl A X h M) {t:T} {w:V} {s:List T×qCZ} (r:Rep A X h t w) (e:qCG M t=some s):∃ p vs,w=.ref p/\qAE h p=some vs/\qBb A X h (.list p) s.1 s.2:=by
 cases t with
 | v x=>cases e
 | cell n=>
  unfold Rep at r;obtain ⟨a,ea,rfl⟩:=r
  obtain ⟨ts,vs,e1,e2,e3⟩:=R.at_ n a ea
  unfold qCG at e;dsimp only at e;rw [e1] at e;cases e
  exact ⟨a,_,rfl,qAS e2,.cell n a vs ts ea e2 e3⟩
 | fz xs=>unfold Rep at r;obtain ⟨a,vs,rfl,q,k,z⟩:=r;cases e;exact ⟨a,_,rfl,qAS k,.list a true vs xs q k z⟩
 | lst xs=>unfold Rep at r;obtain ⟨a,vs,rfl,q,k,z⟩:=r;cases e;exact ⟨a,_,rfl,qAS k,.list a false vs xs q k z⟩
 | tup xs=>cases e
 | ob o=>cases e
theorem QEs.len {n:Nat} {xs:List TB} {ws:List V} (q:QEs gl A X n xs ws h M):xs.length=ws.length:=by
 have:=qAB (reps_iff.mp q.1)
 simpa using this
end
section
variable {gl:List T} {P:Nat -> List T -> Mem -> PR (TB×Mem)} {F:Nat -> List V -> AH -> RV}
variable (hF:∀ f ts ws A X h M,RelM gl A X h M -> qAK A X h ts ws -> Sim gl A X h (QE gl A X h.length) (P f ts M) (F f ws h))
include hF
mutual
theorem qAO:∀ (e:E) (A X:List Nat) (h:AH) (M:Mem) (σ:TS) (σh:List (Option V)),RelM gl A X h M -> qBY A X h σ σh -> Sim gl A X h (QE gl A X h.length) (pe gl P e σ M) (ev F e σh h)
 | .var i,A,X,h,M,σ,σh,R,rs=>by
  rw [pe,ev];dsimp only
  split
  ·rename_i t e
   obtain ⟨w,ew,r⟩:=qEQ rs e
   rw [ew]
   exact qDy R r
  ·exact Sim.stuck
 | .dnew,A,X,h,M,σ,σh,R,rs=>by
  unfold pe ev
  have r:Rep A X (h++[O.ob (.dct [])]) (.ob (.dct [])) (.ref h.length):=by
   unfold Rep
   exact ⟨h.length,rfl,fun z=>by have:=R.lt _ z;omega,by simp⟩
  exact ⟨_,_,rfl,Frm.app A h _,R.up _,r,fun _=>Frs.of_lf (R.up _) r rfl⟩
 | .cst v,A,X,h,M,σ,σh,R,rs=>by
  rw [pe,ev];dsimp only
  split
  ·rename_i e;exact qAG R e
  ·exact Sim.stuck
 | .glob g,A,X,h,M,σ,σh,R,rs=>by
  rw [pe,ev];dsimp only
  split
  ·rename_i t e;exact qDy R (R.glo g t e)
  ·exact Sim.stuck
 | .bin op a b,A,X,h,M,σ,σh,R,rs=>by
  rw [pe,ev];dsimp only
  refine Sim.bind (qAO a A X h M σ σh R rs) ?_
  intro x M1 v h1 f1 R1 q1;dsimp only
  refine Sim.bind (qAO b A X h1 M1 σ σh R1 (R.keepS f1 rs)) ?_
  intro y M2 w h2 f2 R2 q2;dsimp only
  exact Sim.ofO fun r er=>(qHY R2 er (R1.keep f2 q1.1) q2.1).le (Nat.le_trans f1.1 f2.1)
 | .neg a,A,X,h,M,σ,σh,R,rs=>by
  rw [pe,ev];dsimp only
  refine Sim.bind (qAO a A X h M σ σh R rs) ?_
  intro x M1 v h1 f1 R1 q1;dsimp only
  obtain ⟨t,fr⟩:=x
  dsimp only
  split
  ·cases qAm q1.1;exact qAG R1 rfl
  ·exact Sim.stuck
 | .cmp op a b,A,X,h,M,σ,σh,R,rs=>by
  rw [pe,ev];dsimp only
  refine Sim.bind (qAO a A X h M σ σh R rs) ?_
  intro x M1 v h1 f1 R1 q1;dsimp only
  refine Sim.bind (qAO b A X h1 M1 σ σh R1 (R.keepS f1 rs)) ?_
  intro y M2 w h2 f2 R2 q2;dsimp only
  refine Sim.ofO fun r er=>?_
  unfold qGv
  rw [qB4 R2 (R1.keep f2 q1.1) q2.1 er]
  exact qAG R2 rfl
 | .cmp2 o1 o2 a b c,A,X,h,M,σ,σh,R,rs=>by
  rw [pe,ev];dsimp only
  refine Sim.bind (qAO a A X h M σ σh R rs) ?_
  intro x M1 v h1 f1 R1 q1;dsimp only
  refine Sim.bind (qAO b A X h1 M1 σ σh R1 (R.keepS f1 rs)) ?_
  intro y M2 w h2 f2 R2 q2;dsimp only
  refine Sim.ofO fun r er=>?_
  rw [qB4 R2 (R1.keep f2 q1.1) q2.1 er]
  cases r with
  | true=>
   simp only [if_true]
   refine Sim.bind (qAO c A X h2 M2 σ σh R2 (R1.keepS f2 (R.keepS f1 rs))) ?_
   intro z M3 u h3 f3 R3 q3;dsimp only
   refine Sim.ofO fun r er=>?_
   unfold qGv
   rw [qB4 R3 (R2.keep f3 q2.1) q3.1 er]
   exact qAG R3 rfl
  | false=>exact qAG R2 rfl
 | .cmp3 o1 o2 o3 a b c d,A,X,h,M,σ,σh,R,rs=>by
  rw [pe,ev];dsimp only
  refine Sim.bind (qAO a A X h M σ σh R rs) ?_
  intro x M1 v h1 f1 R1 q1;dsimp only
  refine Sim.bind (qAO b A X h1 M1 σ σh R1 (R.keepS f1 rs)) ?_
  intro y M2 w h2 f2 R2 q2;dsimp only
  refine Sim.ofO fun r er=>?_
  rw [qB4 R2 (R1.keep f2 q1.1) q2.1 er]
  cases r with
  | true=>
   simp only [if_true]
   refine Sim.bind (qAO c A X h2 M2 σ σh R2 (R1.keepS f2 (R.keepS f1 rs))) ?_
   intro z M3 u h3 f3 R3 q3;dsimp only
   refine Sim.ofO fun r er=>?_
   rw [qB4 R3 (R2.keep f3 q2.1) q3.1 er]
   cases r with
   | true=>
    simp only [if_true]
    refine Sim.bind (qAO d A X h3 M3 σ σh R3 (R2.keepS f3 (R1.keepS f2 (R.keepS f1 rs)))) ?_
    intro z4 M4 u4 h4 f4 R4 q4;dsimp only
    refine Sim.ofO fun r er=>?_
    unfold qGv
    rw [qB4 R4 (R3.keep f4 q3.1) q4.1 er]
    exact qAG R4 rfl
   | false=>exact qAG R3 rfl
  | false=>exact qAG R2 rfl
 | .and a b,A,X,h,M,σ,σh,R,rs=>by
  rw [pe,ev];dsimp only
  refine Sim.bind (qD2 (qAO a A X h M σ σh R rs)) ?_
  rintro x M1 v h1 f1 R1 rfl;dsimp only
  cases x with
  | true=>simp only [if_true];exact (qAO b A X h1 M1 σ σh R1 (R.keepS f1 rs)).le f1.1
  | false=>exact qAG R1 rfl
 | .or a b,A,X,h,M,σ,σh,R,rs=>by
  rw [pe,ev];dsimp only
  refine Sim.bind (qD2 (qAO a A X h M σ σh R rs)) ?_
  rintro x M1 v h1 f1 R1 rfl;dsimp only
  cases x with
  | false=>simp only [Bool.false_eq_true,if_false];exact (qAO b A X h1 M1 σ σh R1 (R.keepS f1 rs)).le f1.1
  | true=>exact qAG R1 rfl
 | .not a,A,X,h,M,σ,σh,R,rs=>by
  rw [pe,ev];dsimp only
  refine Sim.bind (qD2 (qAO a A X h M σ σh R rs)) ?_
  rintro x M1 v h1 f1 R1 rfl;dsimp only
  exact qAG R1 rfl
 | .ite c a b,A,X,h,M,σ,σh,R,rs=>by
  rw [pe,ev];dsimp only
  refine Sim.bind (qD2 (qAO c A X h M σ σh R rs)) ?_
  rintro x M1 v h1 f1 R1 rfl;dsimp only
  cases x with
  | true=>simp only [if_true];exact (qAO a A X h1 M1 σ σh R1 (R.keepS f1 rs)).le f1.1
  | false=>simp only [Bool.false_eq_true,if_false];exact (qAO b A X h1 M1 σ σh R1 (R.keepS f1 rs)).le f1.1
 | .call f as,A,X,h,M,σ,σh,R,rs=>by
  rw [pe,ev];dsimp only
  refine Sim.bind (qBX as A X h M σ σh R rs) ?_
  intro x M1 v h1 f1 R1 q1;dsimp only
  exact (hF f _ _ A X h1 M1 R1 q1.1).nx.le f1.1
 | .blt f as,A,X,h,M,σ,σh,R,rs=>by
  rw [pe,ev];dsimp only
  refine Sim.bind (qBX as A X h M σ σh R rs) ?_
  intro x M1 v h1 f1 R1 q1;dsimp only
  exact Sim.ofO fun r er=>(qHa R1 q1.1 er).le f1.1
 | .isi a ts,A,X,h,M,σ,σh,R,rs=>by
  rw [pe,ev];dsimp only
  refine Sim.bind (qAO a A X h M σ σh R rs) ?_
  intro x M1 v h1 f1 R1 q1;dsimp only
  refine Sim.ofO fun r er=>?_
  rw [qGx R1 q1.1 er]
  exact qAG R1 rfl
 | .idx a b,A,X,h,M,σ,σh,R,rs=>by
  rw [pe,ev];dsimp only
  refine Sim.bind (qAO a A X h M σ σh R rs) ?_
  intro x M1 v h1 f1 R1 q1;dsimp only
  refine Sim.bind (qAO b A X h1 M1 σ σh R1 (R.keepS f1 rs)) ?_
  intro y M2 w h2 f2 R2 q2;dsimp only
  refine Sim.ofO fun r er=>?_
  obtain ⟨ty,fy⟩:=y
  unfold qFA at er
  dsimp only at er
  split at er
  ·rename_i i
   cases qAm q2.1
   obtain ⟨xs,e1,er⟩:=Option.bind_eq_some_iff.mp er
   obtain ⟨j,e2,er⟩:=Option.bind_eq_some_iff.mp er
   obtain ⟨t,e3,rfl⟩:=Option.map_eq_some_iff.mp er
   obtain ⟨p,vs,rfl,k1,k2⟩:=qEl R2 (R1.keep f2 q1.1) e1
   obtain ⟨u,e4,k3⟩:=qAY (reps_iff.mp k2) e3
   dsimp only
   rw [k1]
   dsimp only
   rw [<- qAB (reps_iff.mp k2),e2]
   dsimp only [Option.bind_some]
   rw [e4]
   exact qDy R2 k3
  ·cases er
 | .sl a lo hi,A,X,h,M,σ,σh,R,rs=>by
  rw [pe,ev];dsimp only
  refine Sim.bind (qAO a A X h M σ σh R rs) ?_
  intro x M1 v h1 f1 R1 q1;dsimp only
  refine Sim.bind (qBX lo A X h1 M1 σ σh R1 (R.keepS f1 rs)) ?_
  intro y M2 w h2 f2 R2 q2;dsimp only
  refine Sim.bind (qBX hi A X h2 M2 σ σh R2 (R1.keepS f2 (R.keepS f1 rs))) ?_
  intro z M3 u h3 f3 R3 q3;dsimp only
  refine Sim.ofO fun xs ex=>Sim.ofO fun l el=>Sim.ofO fun m em=>?_
  rw [qDN (R2.keeps f3 q2.1) el,qDN q3.1 em]
  have rp:=R2.keep f3 (R1.keep f2 q1.1)
  refine Sim.ofO fun r er=>?_
  refine Sim.le ?_ (Nat.le_trans f1.1 (Nat.le_trans f2.1 f3.1))
  obtain ⟨x1,x2⟩:=x
  dsimp only at ex er rp ⊢
  cases x1 with
  | v x=>cases ex
  | ob o=>cases ex
  | cell n=>cases er;obtain ⟨p,vs,f,rfl,k1,k2⟩:=qBW R3 rp ex;dsimp only;rw [qAS k1];exact qEy R3 (qDW k2)
  | fz xs=>cases er;obtain ⟨p,vs,f,rfl,k1,k2⟩:=qBW R3 rp ex;dsimp only;rw [qAS k1];exact qEy R3 (qDW k2)
  | lst xs=>cases er;obtain ⟨p,vs,f,rfl,k1,k2⟩:=qBW R3 rp ex;dsimp only;rw [qAS k1];exact qEy R3 (qDW k2)
  | tup ts=>
   cases ex
   unfold Rep at rp
   obtain ⟨a,vs,rfl,_,q,kk⟩:=rp
   have ln:=qAB (reps_iff.mp kk)
   dsimp only
   rw [show qAE h3 a=none by unfold qAE;rw [q],show qAV h3 a=some vs by unfold qAV;rw [q]]
   dsimp only
   unfold qHt at er
   dsimp only at er
   rw [ln] at er
   split at er
   ·cases er
   ·rename_i hw
    cases er
    rw [if_neg hw]
    exact qEC R3 (qDW kk) fun e=>Frss.of_lf R3 (qDW kk) e
 | .lst as,A,X,h,M,σ,σh,R,rs=>by
  rw [pe,ev];dsimp only
  refine Sim.bind (qBX as A X h M σ σh R rs) ?_
  intro x M1 v h1 f1 R1 q1;dsimp only
  rw [<- q1.len]
  split
  ·exact qDC R1 q1.1 f1.1 q1.2
  ·exact Sim.stuck
 | .tup as,A,X,h,M,σ,σh,R,rs=>by
  rw [pe,ev];dsimp only
  refine Sim.bind (qBX as A X h M σ σh R rs) ?_
  intro x M1 v h1 f1 R1 q1;dsimp only
  rw [<- q1.len]
  split
  ·exact qEC R1 q1.1 q1.2
  ·exact Sim.stuck
 | .comp it src g c e,A,X,h,M,σ,σh,R,rs=>by
  rw [pe,ev];dsimp only
  refine Sim.bind (qHQ it A X h M σ σh R rs) ?_
  intro s M1 sh h1 f1 R1 q1;dsimp only
  have hn:∀ a o,a∉X -> h1[a]?=some o -> a∉h1.length::X/\(h1++[O.lst false []])[a]?=some o:=fun a o x y=>⟨by
   rw [List.mem_cons];rintro (z | z)
   ·have:=qAM y;omega
   ·exact x z,by rw [List.getElem?_append_left (qAM y)];exact y⟩
  have sr:qBb A (h1.length::X) (h1++[O.lst false []]) sh s.1 s.2:=qGT q1 hn fun n a o _ y=>by rw [List.getElem?_append_left (qAM y)];exact y
  rw [qEZ sr]
  dsimp only
  refine (qDI (its:=s.1) (fun X h M σ σh R rs=>qIg c A X h M σ σh R rs) (fun X h M σ σh R rs=>qAO e A X h M σ σh R rs) (Nat.le_refl h1.length) (fun z=>Nat.lt_irrefl _ (R1.lt _ z)) R1.sub s.1 0 [] [] true [] (h1.length::X) _ _ M1 _ rfl (Nat.zero_le _) (by simp) (Frm.app A h1 _) (R1.addX fun a=>List.mem_cons) sr (by simp) (by unfold qAK;rfl) ?_ ?_).le f1.1
  ·exact fun _=>⟨by unfold FPs;exact ⟨rfl,rfl⟩,List.nodup_nil,fun a ha=>by simp at ha⟩
  ·exact qBS (fun _ _ e=>e) hn (qBz (R.keepS f1 rs) src)
 | .app a b,A,X,h,M,σ,σh,R,rs=>by
  rw [pe,ev];dsimp only
  refine Sim.bind (qAO a A X h M σ σh R rs) ?_
  intro x M1 v h1 f1 R1 q1;dsimp only
  obtain ⟨t,fr⟩:=x
  dsimp only
  split
  ·rename_i n
   have q:=q1.1
   unfold Rep at q
   obtain ⟨p,ep,rfl⟩:=q
   obtain ⟨ts,vs,e1,e2,e3⟩:=R1.at_ n p ep
   dsimp only
   rw [qAS e2]
   dsimp only
   refine Sim.bind (qAO b A X h1 M1 σ σh R1 (R.keepS f1 rs)) ?_
   intro y M2 w h2 f2 R2 q2;dsimp only
   obtain ⟨ts2,vs2,g1,g2,g3⟩:=R2.at_ n p ep
   rw [g1,show qAW h2 p=some vs2 by unfold qAW;rw [g2]]
   dsimp only
   rw [<- qAB (reps_iff.mp g3)]
   split
   ·have r1:qBa (Rep A X h2) [y.1] [w]:=⟨w,[],rfl,q2.1,rfl⟩
    obtain ⟨R4,f4⟩:=R2.put ep (reps_iff.mpr (qAh (reps_iff.mp g3) r1))
    have r:Rep A X (h2.set p (.lst false (vs2++[w]))) (.v .non) .non:=by unfold Rep;exact ⟨rfl,rfl⟩
    exact ⟨.non,_,rfl,f4,R4,r,fun _=>Frs.of_lf R4 r rfl⟩
   ·exact Sim.stuck
  ·exact Sim.stuck
 | .lrng2 a b,A,X,h,M,σ,σh,R,rs=>by
  rw [pe,ev];dsimp only
  refine Sim.bind (qAO a A X h M σ σh R rs) ?_
  intro x M1 v h1 f1 R1 q1;dsimp only
  refine (Sim.bind (qAO b A X h1 M1 σ σh R1 (R.keepS f1 rs)) ?_).le f1.1
  intro y M2 w h2 f2 R2 q2;dsimp only
  obtain ⟨t,fr⟩:=x
  obtain ⟨u,fu⟩:=y
  dsimp only
  split
  ·rename_i i j
   cases qAm q1.1
   cases qAm q2.1
   show Sim _ _ _ _ _ _ (if -1000000<=i/\-1000000<=j/\i<=100000/\j<=100000/\j - i<=100000 then newL (qAi i (j - i).toNat) h2 else .stuck)
   split
   ·have r:qAK A X h2 (qAe i (j - i).toNat) (qAi i (j - i).toNat):=by
     have e:qAe i (j - i).toNat=(qAi i (j - i).toNat).map .v:=by unfold qAe qAi;rw [List.map_map];rfl
     rw [e]
     exact qBF (by simp [qAi,flat])
    exact (qDC (f:=true) R2 r (Nat.le_refl _) fun _=>Frss.of_lf R2 r (qCq _ _)).le f2.1
   ·exact Sim.stuck
  ·exact Sim.stuck
 | .lrng a,A,X,h,M,σ,σh,R,rs=>by
  rw [pe,ev];dsimp only
  refine Sim.bind (qAO a A X h M σ σh R rs) ?_
  intro x M1 v h1 f1 R1 q1;dsimp only
  obtain ⟨t,fr⟩:=x
  dsimp only
  split
  ·rename_i j
   cases qAm q1.1
   dsimp only
   split
   ·have r:qAK A X h1 (qAe 0 j.toNat) (qAi 0 j.toNat):=by
     have e:qAe 0 j.toNat=(qAi 0 j.toNat).map .v:=by unfold qAe qAi;rw [List.map_map];rfl
     rw [e]
     exact qBF (by simp [qAi,flat])
    exact (qDC (f:=true) R1 r (Nat.le_refl _) fun _=>Frss.of_lf R1 r (qCq 0 _)).le f1.1
   ·exact Sim.stuck
  ·exact Sim.stuck
 | .meth m a as,A,X,h,M,σ,σh,R,rs=>by
  rw [pe,ev];dsimp only
  refine Sim.bind (qAO a A X h M σ σh R rs) ?_
  intro x M1 v h1 f1 R1 q1;dsimp only
  obtain ⟨t,fr⟩:=x
  dsimp only
  split
  ·rename_i n
   have q:=q1.1
   unfold Rep at q
   obtain ⟨p,ep,rfl⟩:=q
   obtain ⟨ts,vs,e1,e2,e3⟩:=R1.at_ n p ep
   dsimp only
   rw [qAS e2]
   dsimp only
   refine Sim.bind (qBX as A X h1 M1 σ σh R1 (R.keepS f1 rs)) ?_
   intro y M2 w h2 f2 R2 q2;dsimp only
   exact (qGQ R2 ep q2.1).le (Nat.le_trans f1.1 f2.1)
  ·exact Sim.stuck
theorem qBX:∀ (e:Es) (A X:List Nat) (h:AH) (M:Mem) (σ:TS) (σh:List (Option V)),RelM gl A X h M -> qBY A X h σ σh -> Sim gl A X h (QEs gl A X h.length) (pes gl P e σ M) (evs F e σh h)
 | .nil,A,X,h,M,σ,σh,R,rs=>by
  rw [pes,evs]
  have r:qAK A X h [] []:=by unfold qAK;rfl
  exact ⟨[],h,rfl,Frm.refl A h,R,r,fun _=>Frss.of_lf R r rfl⟩
 | .cons a as,A,X,h,M,σ,σh,R,rs=>by
  rw [pes,evs];dsimp only
  refine Sim.bind (qAO a A X h M σ σh R rs) ?_
  intro x M1 v h1 f1 R1 q1;dsimp only
  obtain ⟨fp1,hp1,R1',hlt1⟩:∃ fp1:List Nat,(x.2=true -> FP X h1 x.1 v fp1/\fp1.Nodup)/\RelM gl A (X++fp1) h1 M1/\∀ a∈fp1,h.length<=a:=by
   cases hx2:x.2 with
   | true=>
    obtain ⟨fp2,a,b,c,d⟩:=q1.2 hx2
    exact ⟨fp2,fun _=>⟨a,b⟩,d,c⟩
   | false=>exact ⟨[],(fun z=>by cases z),by rw [List.append_nil];exact R1,fun a ha=>by simp at ha⟩
  have hX:∀ a∈X,a∈X++fp1:=fun a z=>List.mem_append_left _ z
  have hn:∀ a o,a∉X -> h[a]?=some o -> a∉X++fp1/\h1[a]?=some o:=fun a o x y=>⟨by
   rw [List.mem_append];rintro (z | z)
   ·exact x z
   ·have:=hlt1 a z;have:=qAM y;omega,(R.keepN f1 a o x y).2⟩
  refine Sim.bindW hX R.sub (Frm.refl A h1) (qBX as A (X++fp1) h1 M1 σ σh R1' (qBS (fun _ _ e=>e) hn rs)) ?_
  intro y M2 w h2 f2 R2 q2;dsimp only
  refine ⟨_,h2,rfl,f2,R2.weak hX R.sub,?_,fun e=>?_⟩
  ·show qAK A X h2 (x.1::y.map (·.1)) (v::w)
   unfold qAK
   exact ⟨v,w,rfl,R1.keep f2 q1.1,qAN (fun _ _ e=>e) (fun a o x y=>⟨fun z=>x (hX _ z),y⟩) _ q2.1⟩
  ·rw [List.all_cons,Bool.and_eq_true] at e
   obtain ⟨a1,b1⟩:=hp1 e.1
   obtain ⟨fp2,a2,b2,c2,d2⟩:=q2.2 e.2
   refine ⟨fp1++fp2,?_,?_,?_,by rw [<- List.append_assoc];exact d2⟩
   ·show FPs X h2 (x.1::y.map (·.1)) (v::w) _
    unfold FPs
    exact ⟨v,w,fp1,fp2,rfl,qCz (R1.keepN f2) _ a1,qA6 (fun a o x y=>⟨fun z=>x (hX _ z),y⟩) _ a2,rfl⟩
   ·rw [List.nodup_append]
    refine ⟨b1,b2,?_⟩
    rintro a ha b hb rfl
    exact (qB2 _ a2 a hb).1 (List.mem_append_right _ ha)
   ·intro a ha
    rcases List.mem_append.mp ha with z | z
    ·exact hlt1 a z
    ·exact Nat.le_trans f1.1 (c2 a z)
theorem qIg:∀ (e:Es) (A X:List Nat) (h:AH) (M:Mem) (σ:TS) (σh:List (Option V)),RelM gl A X h M -> qBY A X h σ σh -> Sim gl A X h (fun b b' _ _=>b=b') (pec gl P e σ M) (evc F e σh h)
 | .nil,A,X,h,M,σ,σh,R,rs=>by
  rw [pec,evc]
  exact ⟨true,h,rfl,Frm.refl A h,R,rfl⟩
 | .cons a as,A,X,h,M,σ,σh,R,rs=>by
  rw [pec,evc]
  exact qD2 (qAO a A X h M σ σh R rs)
theorem qHQ:∀ (e:Itr) (A X:List Nat) (h:AH) (M:Mem) (σ:TS) (σh:List (Option V)),RelM gl A X h M -> qBY A X h σ σh -> Sim gl A X h (fun s sh h' _=>qBb A X h' sh s.1 s.2) (pei gl P e σ M) (evi F e σh h)
 | .list a,A,X,h,M,σ,σh,R,rs=>by
  rw [pei,evi];dsimp only
  refine Sim.bind (qAO a A X h M σ σh R rs) ?_
  intro x M1 v h1 f1 R1 q1;dsimp only
  refine Sim.ofO fun s es=>?_
  obtain ⟨p,sh,rfl,e1,e2⟩:=qH2 R1 q1.1 es
  exact ⟨sh,h1,e1,Frm.refl A h1,R1,e2⟩
 | .rng1 a,A,X,h,M,σ,σh,R,rs=>by
  rw [pei,evi];dsimp only
  refine Sim.bind (qAO a A X h M σ σh R rs) ?_
  intro x M1 v h1 f1 R1 q1;dsimp only
  obtain ⟨t,fr⟩:=x
  dsimp only
  split
  ·cases qAm q1.1
   dsimp only
   split
   ·exact ⟨_,h1,rfl,Frm.refl A h1,R1,.rng 0 _⟩
   ·exact Sim.stuck
  ·exact Sim.stuck
 | .rng2 a b,A,X,h,M,σ,σh,R,rs=>by
  rw [pei,evi];dsimp only
  refine Sim.bind (qAO a A X h M σ σh R rs) ?_
  intro x M1 v h1 f1 R1 q1;dsimp only
  refine Sim.bind (qAO b A X h1 M1 σ σh R1 (R.keepS f1 rs)) ?_
  intro y M2 w h2 f2 R2 q2;dsimp only
  obtain ⟨t,fr⟩:=x
  obtain ⟨u,fu⟩:=y
  dsimp only
  split
  ·cases qAm q1.1
   cases qAm q2.1
   dsimp only
   split
   ·exact ⟨_,h2,rfl,Frm.refl A h2,R2,.rng _ _⟩
   ·exact Sim.stuck
  ·exact Sim.stuck
 | .zip a b,A,X,h,M,σ,σh,R,rs=>by
  rw [pei,evi];dsimp only
  refine Sim.bind (qAO a A X h M σ σh R rs) ?_
  intro x M1 v h1 f1 R1 q1;dsimp only
  refine Sim.bind (qAO b A X h1 M1 σ σh R1 (R.keepS f1 rs)) ?_
  intro y M2 w h2 f2 R2 q2;dsimp only
  refine Sim.ofO fun s es=>Sim.ofO fun t et=>?_
  obtain ⟨p,vs,rfl,e1,e2⟩:=qBk R2 (R1.keep f2 q1.1) es
  obtain ⟨q,us,rfl,e3,e4⟩:=qBk R2 q2.1 et
  dsimp only
  rw [e1,e3]
  exact ⟨_,h2,rfl,Frm.refl A h2,R2,.zip p q _ _ _ _ e2 e4⟩
 | .zip3 a b c,A,X,h,M,σ,σh,R,rs=>by
  rw [pei,evi];dsimp only
  refine Sim.bind (qAO a A X h M σ σh R rs) ?_
  intro x M1 v h1 f1 R1 q1;dsimp only
  refine Sim.bind (qAO b A X h1 M1 σ σh R1 (R.keepS f1 rs)) ?_
  intro y M2 w h2 f2 R2 q2;dsimp only
  refine Sim.bind (qAO c A X h2 M2 σ σh R2 (R1.keepS f2 (R.keepS f1 rs))) ?_
  intro z M3 v3 h3 f3 R3 q3;dsimp only
  refine Sim.ofO fun s es=>Sim.ofO fun t et=>Sim.ofO fun u eu=>?_
  obtain ⟨p,vs,rfl,e1,e2⟩:=qBk R3 (R2.keep f3 (R1.keep f2 q1.1)) es
  obtain ⟨q,us,rfl,e3,e4⟩:=qBk R3 (R2.keep f3 q2.1) et
  obtain ⟨r,ws,rfl,e5,e6⟩:=qBk R3 q3.1 eu
  dsimp only
  rw [e1,e3,e5]
  exact ⟨_,h3,rfl,Frm.refl A h3,R3,.zip3 p q r _ _ _ _ _ _ e2 e4 e6⟩
 | .enum a,A,X,h,M,σ,σh,R,rs=>by
  rw [pei,evi];dsimp only
  refine Sim.bind (qAO a A X h M σ σh R rs) ?_
  intro x M1 v h1 f1 R1 q1;dsimp only
  refine Sim.ofO fun s es=>?_
  obtain ⟨p,vs,rfl,e1,e2⟩:=qBk R1 q1.1 es
  dsimp only
  rw [e1]
  exact ⟨_,h1,rfl,Frm.refl A h1,R1,.enum p _ _ e2⟩
 | .revd a,A,X,h,M,σ,σh,R,rs=>by
  rw [pei,evi];dsimp only
  refine Sim.bind (qAO a A X h M σ σh R rs) ?_
  intro x M1 v h1 f1 R1 q1;dsimp only
  refine Sim.ofO fun s es=>?_
  obtain ⟨p,vs,rfl,e1,e2⟩:=qBk R1 q1.1 es
  dsimp only
  rw [e1]
  obtain ⟨vs',e1',k1'⟩:=qAJ e2
  have hl:vs.length=s.1.length:=by rw [e1] at e1';cases e1';exact (qAB (reps_iff.mp k1')).symm
  dsimp only
  rw [hl]
  exact ⟨_,h1,rfl,Frm.refl A h1,R1,.rvd p _ _ e2⟩
 | .rvr a,A,X,h,M,σ,σh,R,rs=>by
  rw [pei,evi];dsimp only
  refine Sim.bind (qAO a A X h M σ σh R rs) ?_
  intro x M1 v h1 f1 R1 q1;dsimp only
  obtain ⟨t,fr⟩:=x
  dsimp only
  split
  ·cases qAm q1.1
   dsimp only
   split
   ·exact ⟨_,h1,rfl,Frm.refl A h1,R1,.rngd _ _⟩
   ·exact Sim.stuck
  ·exact Sim.stuck
end
end
end PI
namespace PI
open L2 (V)
mutual
theorem qFS {X Af Xf:List Nat} {h:AH} (hX:∀ a o,(∀ vs,o≠O.lst false vs) -> h[a]?=some o -> a∉X -> a∉Xf):∀ (t:T) (n:Nat) {w:V} {fp:List Nat},FP X h t w fp -> (∀ (k:Nat) a,fp[k]?=some a -> Af[n + k]?=some a) ->
  (thaw n t).2.length=fp.length/\Rep Af Xf h (thaw n t).1 w/\∀ (k:Nat) ts',(thaw n t).2[k]?=some ts' -> ∃ a vs,fp[k]?=some a/\h[a]?=some (.lst false vs)/\qAK Af Xf h ts' vs
 | .v x,n,w,fp,p,ha=>by unfold FP at p;obtain ⟨p1,rfl⟩:=p;rw [show thaw n (.v x)=(.v x,[]) by simp [thaw]];exact ⟨rfl,by unfold Rep;exact p1,fun k ts' e=>by simp at e⟩
 | .cell _,n,w,fp,p,ha=>by unfold FP at p;exact p.elim
 | .ob o,n,w,fp,p,ha=>by unfold FP at p;obtain ⟨⟨a,rfl,q1,q2⟩,rfl⟩:=p;rw [show thaw n (.ob o)=(.ob o,[]) by simp [thaw]];exact ⟨rfl,by unfold Rep;exact ⟨a,rfl,hX a _ (by intro _ z;cases z) q2 q1,q2⟩,fun k ts' e=>by simp at e⟩
 | .fz _,n,w,fp,p,ha=>by unfold FP at p;exact p.elim
 | .lst ts,n,w,fp,p,ha=>by
  unfold FP at p
  obtain ⟨a,vs,f,rfl,q1,q2,q3,rfl⟩:=p
  obtain ⟨l,r,c⟩:=qC6 hX ts n q3 (fun k a e=>ha k a (by rw [List.getElem?_append_left (List.getElem?_eq_some_iff.mp e).1];exact e))
  rw [thaw]
  refine ⟨by simp [l],?_,fun k ts' e=>?_⟩
  ·show Rep Af Xf h (.cell _) _
   unfold Rep
   refine ⟨a,ha _ a ?_,rfl⟩
   rw [l,List.getElem?_append_right (Nat.le_refl _),Nat.sub_self]
   rfl
  ·dsimp only at e
   by_cases hk:k < f.length
   ·rw [List.getElem?_append_left (by rw [l];exact hk)] at e
    obtain ⟨b,us,e1,e2,e3⟩:=c k ts' e
    exact ⟨b,us,by rw [List.getElem?_append_left hk];exact e1,e2,e3⟩
   ·rw [List.getElem?_append_right (by rw [l];omega),l] at e
    have hk2:k - f.length=0:=by
     have:=(List.getElem?_eq_some_iff.mp e).1
     simp at this;omega
    rw [hk2] at e
    simp at e
    subst e
    exact ⟨a,vs,by rw [List.getElem?_append_right (by omega),hk2];rfl,q2,r⟩
 | .tup ts,n,w,fp,p,ha=>by
  unfold FP at p
  obtain ⟨a,vs,rfl,q1,q2,q3⟩:=p
  obtain ⟨l,r,c⟩:=qC6 hX ts n q3 ha
  rw [thaw]
  refine ⟨l,?_,c⟩
  show Rep Af Xf h (.tup _) _
  unfold Rep
  exact ⟨a,vs,rfl,hX a _ (by intro _ z;cases z) q2 q1,q2,r⟩
theorem qC6 {X Af Xf:List Nat} {h:AH} (hX:∀ a o,(∀ vs,o≠O.lst false vs) -> h[a]?=some o -> a∉X -> a∉Xf):∀ (ts:List T) (n:Nat) {ws:List V} {fp:List Nat},FPs X h ts ws fp -> (∀ (k:Nat) a,fp[k]?=some a -> Af[n + k]?=some a) ->
  (qCW n ts).2.length=fp.length/\qAK Af Xf h (qCW n ts).1 ws/\∀ (k:Nat) ts',(qCW n ts).2[k]?=some ts' -> ∃ a vs,fp[k]?=some a/\h[a]?=some (.lst false vs)/\qAK Af Xf h ts' vs
 | [],n,ws,fp,p,ha=>by unfold FPs at p;obtain ⟨rfl,rfl⟩:=p;rw [qCW];exact ⟨rfl,by unfold qAK;rfl,fun k ts' e=>by simp at e⟩
 | t::ts,n,ws,fp,p,ha=>by
  unfold FPs at p
  obtain ⟨v,vs,f1,f2,rfl,q1,q2,rfl⟩:=p
  obtain ⟨l1,r1,c1⟩:=qFS hX t n q1 (fun k a e=>ha k a (by rw [List.getElem?_append_left (List.getElem?_eq_some_iff.mp e).1];exact e))
  obtain ⟨l2,r2,c2⟩:=qC6 hX ts (n + (thaw n t).2.length) q2 (fun k a e=>by
   have:=ha (f1.length + k) a (by rw [List.getElem?_append_right (by omega),Nat.add_sub_cancel_left];exact e)
   rw [l1,Nat.add_assoc];exact this)
  rw [qCW]
  refine ⟨by dsimp only;rw [List.length_append,List.length_append,l2,l1],?_,fun k ts' e=>?_⟩
  ·show qAK Af Xf h (_::_) _
   unfold qAK
   exact ⟨v,vs,rfl,r1,r2⟩
  ·dsimp only at e
   by_cases hk:k < f1.length
   ·rw [List.getElem?_append_left (by rw [l1];exact hk)] at e
    obtain ⟨b,us,e1,e2,e3⟩:=c1 k ts' e
    exact ⟨b,us,by rw [List.getElem?_append_left hk];exact e1,e2,e3⟩
   ·rw [List.getElem?_append_right (by rw [l1];omega)] at e
    obtain ⟨b,us,e1,e2,e3⟩:=c2 _ ts' e
    rw [l1] at e1
    exact ⟨b,us,by rw [List.getElem?_append_right (by omega)];exact e1,e2,e3⟩
end
theorem RelM.thaw {gl:List T} {A X fp:List Nat} {h:AH} {M:Mem} {t:T} {w:V} (R:RelM gl A (X++fp) h M) (hA:∀ a∈A,a∈X) (p:FP X h t w fp) (nd:fp.Nodup):
  RelM gl (A++fp) (X++fp) h (M++(PI.thaw M.length t).2)/\Rep (A++fp) (X++fp) h (PI.thaw M.length t).1 w:=by
 have hX:∀ a o,(∀ vs,o≠O.lst false vs) -> h[a]?=some o -> a∉X -> a∉X++fp:=fun a o hno e x=>by
  rw [List.mem_append];rintro (z | z)
  ·exact x z
  ·obtain ⟨_,us,e2⟩:=qEX t p a z
   rw [e] at e2;cases e2;exact hno _ rfl
 obtain ⟨l,r,c⟩:=qFS (Af:=A++fp) hX t M.length p (fun k a e=>by rw [<- R.len,List.getElem?_append_right (by omega),Nat.add_sub_cancel_left];exact e)
 refine ⟨⟨by simp [R.len,l],?_,?_,R.lt,fun n a e=>?_,fun g t e=>?_⟩,r⟩
 ·rw [List.nodup_append]
  exact ⟨R.nd,nd,by rintro a ha b hb rfl;exact (qEX t p a hb).1 (hA a ha)⟩
 ·intro a ha
  rcases List.mem_append.mp ha with z | z
  ·exact List.mem_append_left _ (hA a z)
  ·exact List.mem_append_right _ z
 ·by_cases hn:n < A.length
  ·rw [List.getElem?_append_left hn] at e
   obtain ⟨ts,vs,e1,e2,e3⟩:=R.at_ n a e
   exact ⟨ts,vs,by rw [List.getElem?_append_left (by rw [<- R.len];exact hn)];exact e1,e2,qAN (fun k b eb=>by rw [List.getElem?_append_left (List.getElem?_eq_some_iff.mp eb).1];exact eb) (fun a o x y=>⟨x,y⟩) ts e3⟩
  ·rw [List.getElem?_append_right (by omega)] at e
   have hk:n - A.length < (PI.thaw M.length t).2.length:=by rw [l];exact (List.getElem?_eq_some_iff.mp e).1
   obtain ⟨b,us,e1,e2,e3⟩:=c (n - A.length) _ (List.getElem?_eq_getElem hk)
   rw [e] at e1;cases e1
   have hnm:n - M.length=n - A.length:=by rw [R.len]
   exact ⟨_,us,by rw [List.getElem?_append_right (by rw [<- R.len];omega),hnm];exact List.getElem?_eq_getElem hk,e2,e3⟩
 ·exact qAt (fun k b eb=>by rw [List.getElem?_append_left (List.getElem?_eq_some_iff.mp eb).1];exact eb) (fun a o x y=>⟨x,y⟩) t (R.glo g t e)
noncomputable def RelO (gl:List T) (A X:List Nat) (n:Nat) (h:AH) (M:Mem):PO -> Out -> Prop
 | .nx σ,.nx σh=>qBY A X h σ σh
 | .bk σ,.bk σh=>qBY A X h σ σh
 | .ct σ,.ct σh=>qBY A X h σ σh
 | .rt t,.rt w=>QE gl A X n t w h M
 | _,_=>False
theorem RelO.le {gl:List T} {A X:List Nat} {n m:Nat} {h:AH} {M:Mem} {o:PO} {oh:Out} (r:RelO gl A X n h M o oh) (l:m<=n):RelO gl A X m h M o oh:=by
 cases o<;>cases oh<;>first | exact r | exact QE.le r l
noncomputable def SimS (gl:List T) (A X:List Nat) (h:AH):RSt -> RS -> Prop
 | .ok (o,M'),r=>∃ oh h' B,r=.ok (oh,h')/\Frm A h h'/\(∀ b∈B,h.length<=b)/\RelM gl (A++B) (X++B) h' M'/\RelO gl (A++B) (X++B) h.length h' M' o oh
 | .exc c M',r=>∃ h' B,r=.exc c h'/\Frm A h h'/\(∀ b∈B,h.length<=b)/\RelM gl (A++B) (X++B) h' M'
 | .stuck,_=>True
theorem SimS.stuck {gl:List T} {A X:List Nat} {h:AH} {r:RS}:SimS gl A X h .stuck r:=trivial
theorem SimS.mk {gl:List T} {A X:List Nat} {h:AH} {M:Mem} {o:PO} {oh:Out} (R:RelM gl A X h M) (ro:RelO gl A X h.length h M o oh):SimS gl A X h (.ok (o,M)) (.ok (oh,h)):=
 ⟨oh,h,[],rfl,Frm.refl A h,fun b hb=>by simp at hb,by simpa using R,by simpa using ro⟩
theorem SimS.pre {gl:List T} {A X:List Nat} {h h1:AH} {r:RSt} {rh:RS} (s:SimS gl A X h1 r rh) (f:Frm A h h1):SimS gl A X h r rh:=by
 cases r with
 | ok p=>
  obtain ⟨o,M'⟩:=p
  obtain ⟨oh,h',B,e,f1,hB,R,ro⟩:=s
  exact ⟨oh,h',B,e,f.trans f1,fun b hb=>Nat.le_trans f.1 (hB b hb),R,ro.le f.1⟩
 | exc c M'=>
  obtain ⟨h',B,e,f1,hB,R⟩:=s
  exact ⟨h',B,e,f.trans f1,fun b hb=>Nat.le_trans f.1 (hB b hb),R⟩
 | stuck=>trivial
theorem Sim.bindS {α β:Type} {gl:List T} {A X:List Nat} {h:AH} {Q:α -> β -> AH -> Mem -> Prop} {r:PR (α×Mem)} {rh:Res (β×AH)} {f:α×Mem -> RSt} {g:β×AH -> RS}
  (s:Sim gl A X h Q r rh) (k:∀ x M' y h',Frm A h h' -> RelM gl A X h' M' -> Q x y h' M' -> SimS gl A X h' (f (x,M')) (g (y,h'))):SimS gl A X h (r.bind f) (rh.bind g):=by
 cases r with
 | ok p=>
  obtain ⟨x,M'⟩:=p
  obtain ⟨y,h',rfl,f1,R1,q⟩:=s
  exact (k x M' y h' f1 R1 q).pre f1
 | exc c M'=>
  obtain ⟨h',rfl,f1,R1⟩:=s
  exact ⟨h',[],rfl,f1,fun b hb=>by simp at hb,by simpa using R1⟩
 | stuck=>trivial
theorem SimS.bind {gl:List T} {A X:List Nat} {h:AH} {r:RSt} {rh:RS} {f:PO×Mem -> RSt} {g:Out×AH -> RS}
  (s:SimS gl A X h r rh) (k:∀ o M' oh h' B,Frm A h h' -> (∀ b∈B,h.length<=b) -> RelM gl (A++B) (X++B) h' M' -> RelO gl (A++B) (X++B) h.length h' M' o oh -> SimS gl (A++B) (X++B) h' (f (o,M')) (g (oh,h'))\/(f (o,M')=.ok (o,M')/\g (oh,h')=.ok (oh,h'))):SimS gl A X h (r.bind f) (rh.bind g):=by
 cases r with
 | ok p=>
  obtain ⟨o,M'⟩:=p
  obtain ⟨oh,h',B,rfl,f1,hB,R,ro⟩:=s
  rw [PR.bind_ok,Res.bind_ok]
  rcases k o M' oh h' B f1 hB R ro with s2 | ⟨e1,e2⟩
  ·revert s2
   generalize f (o,M')=r2
   generalize g (oh,h')=rh2
   intro s2
   cases r2 with
   | ok p2=>
    obtain ⟨o2,M2⟩:=p2
    obtain ⟨oh2,h2,B2,rfl,f2,hB2,R2,ro2⟩:=s2
    rw [List.append_assoc,List.append_assoc] at R2 ro2
    exact ⟨oh2,h2,B++B2,rfl,f1.trans2 hB f2,fun b hb=>by
     rcases List.mem_append.mp hb with z | z
     ·exact hB b z
     ·exact Nat.le_trans f1.1 (hB2 b z),R2,ro2.le f1.1⟩
   | exc c M2=>
    obtain ⟨h2,B2,rfl,f2,hB2,R2⟩:=s2
    rw [List.append_assoc,List.append_assoc] at R2
    exact ⟨h2,B++B2,rfl,f1.trans2 hB f2,fun b hb=>by
     rcases List.mem_append.mp hb with z | z
     ·exact hB b z
     ·exact Nat.le_trans f1.1 (hB2 b z),R2⟩
   | stuck=>trivial
  ·rw [e1,e2]
   exact ⟨oh,h',B,rfl,f1,hB,R,ro⟩
 | exc c M'=>
  obtain ⟨h',B,rfl,f1,hB,R⟩:=s
  exact ⟨h',B,rfl,f1,hB,R⟩
 | stuck=>trivial
theorem qDU {A X B:List Nat} {h h':AH} (hs:∀ a∈A,a∈X) (f:Frm A h h') (hB:∀ b∈B,h.length<=b):∀ a o,a∉X -> h[a]?=some o -> a∉X++B/\h'[a]?=some o:=fun a o x y=>⟨by
 rw [List.mem_append];rintro (z | z)
 ·exact x z
 ·have:=hB a z;have:=qAM y;omega,(f.2 a (qAM y) fun z=>x (hs _ z)).trans y⟩
theorem qBO {A B:List Nat}:∀ (n:Nat) a,A[n]?=some a -> (A++B)[n]?=some a:=fun n a e=>by rw [List.getElem?_append_left (List.getElem?_eq_some_iff.mp e).1];exact e
theorem qF1 {gl:List T} {s:Src} {its:List T} {d:qCZ} {g:Tg} {b:TS -> Mem -> RSt} {b':List (Option V) -> AH -> RS}
  (hb:∀ A X h M σ σh,RelM gl A X h M -> qBY A X h σ σh -> SimS gl A X h (b σ M) (b' σh h)):∀ (r:List T) (i:Nat) (σ:TS) (σh:List (Option V)) (M:Mem) (h:AH) (A X:List Nat),
   its.drop i=r -> i<=its.length -> RelM gl A X h M -> qBb A X h s its d -> qBY A X h σ σh -> SimS gl A X h (qBV d g b r σ M) (qGO s g b' r.length i σh h)
 | [],i,σ,σh,M,h,A,X,hr,hi,R,sr,rs=>by
  have hi':i=its.length:=by
   have:=List.drop_eq_nil_iff.mp hr;omega
  subst hi'
  show SimS gl A X h (.ok (.nx σ,M)) (if qBB h its.length s then _ else _)
  rw [if_pos (qDm sr)]
  exact SimS.mk R rs
 | x::r,i,σ,σh,M,h,A,X,hr,hi,R,sr,rs=>by
  have ex:its[i]?=some x:=by
   have:(its.drop i)[0]?=some x:=by rw [hr];rfl
   rwa [List.getElem?_drop,Nat.add_zero] at this
  have hi2:i + 1<=its.length:=(List.getElem?_eq_some_iff.mp ex).1
  have hr2:its.drop (i + 1)=r:=by
   rw [<- List.drop_drop,hr];rfl
  obtain ⟨w,ext,ey,rx⟩:=qCw R sr ex
  have fy:Frm A h (h++ext):=Frm.app A h ext
  rw [List.length_cons]
  unfold qBV qGO
  rw [ey]
  dsimp only
  cases es:qA8 g x σ with
  | none=>exact SimS.stuck
  | some σ1=>
   obtain ⟨σh1,esh,rs1⟩:=qA7 es rx (R.keepS fy rs)
   rw [esh]
   dsimp only
   refine SimS.bind ((hb A X _ M σ1 σh1 (R.up ext) rs1).pre fy) ?_
   intro o M2 oh h2 B f2 hB R2 ro
   have nxt:∀ σ2 σh2,qBY (A++B) (X++B) h2 σ2 σh2 -> SimS gl (A++B) (X++B) h2 (if qAb d M2=true then qBV d g b r σ2 M2 else .stuck) (qGO s g b' r.length (i + 1) σh2 h2):=fun σ2 σh2 rs2=>by
    split
    ·rename_i hd
     exact qF1 hb r (i + 1) σ2 σh2 M2 h2 _ _ hr2 hi2 R2 (qCt sr (qDU R.sub f2 hB) R2 hd qBO) rs2
    ·exact SimS.stuck
   cases o with
   | nx σ2=>cases oh<;>first | exact .inl (nxt _ _ ro) | exact ro.elim
   | ct σ2=>cases oh<;>first | exact .inl (nxt _ _ ro) | exact ro.elim
   | bk σ2=>cases oh<;>first | exact .inl (SimS.mk R2 ro) | exact ro.elim
   | rt t=>cases oh<;>first | exact .inr ⟨rfl,rfl⟩ | exact ro.elim
theorem qCN {gl:List T} {c:TS -> Mem -> PR (Bool×Mem)} {c':List (Option V) -> AH -> Res (Bool×AH)} {b:TS -> Mem -> RSt} {b':List (Option V) -> AH -> RS}
  (hc:∀ A X h M σ σh,RelM gl A X h M -> qBY A X h σ σh -> Sim gl A X h (fun b b' _ _=>b=b') (c σ M) (c' σh h))
  (hb:∀ A X h M σ σh,RelM gl A X h M -> qBY A X h σ σh -> SimS gl A X h (b σ M) (b' σh h)):∀ (n:Nat) (σ:TS) (σh:List (Option V)) (M:Mem) (h:AH) (A X:List Nat),
   RelM gl A X h M -> qBY A X h σ σh -> SimS gl A X h (qB0 c b n σ M) (qBo c' b' n σh h)
 | 0,σ,σh,M,h,A,X,R,rs=>SimS.stuck
 | n + 1,σ,σh,M,h,A,X,R,rs=>by
  unfold qB0 qBo
  refine Sim.bindS (hc A X h M σ σh R rs) ?_
  rintro t M1 t' h1 f1 R1 rfl
  dsimp only
  cases t with
  | false=>exact SimS.mk R1 (R.keepS f1 rs)
  | true=>
   simp only [if_true]
   refine SimS.bind (hb A X h1 M1 σ σh R1 (R.keepS f1 rs)) ?_
   intro o M2 oh h2 B f2 hB R2 ro
   cases o with
   | nx σ2=>cases oh<;>first | exact .inl (qCN hc hb n _ _ M2 h2 _ _ R2 ro) | exact ro.elim
   | ct σ2=>cases oh<;>first | exact .inl (qCN hc hb n _ _ M2 h2 _ _ R2 ro) | exact ro.elim
   | bk σ2=>cases oh<;>first | exact .inl (SimS.mk R2 ro) | exact ro.elim
   | rt t=>cases oh<;>first | exact .inr ⟨rfl,rfl⟩ | exact ro.elim
section
variable {gl:List T} {P:Nat -> List T -> Mem -> PR (TB×Mem)} {F:Nat -> List V -> AH -> RV} (C:List Nat)
variable (hF:∀ f ts ws A X h M,RelM gl A X h M -> qAK A X h ts ws -> Sim gl A X h (QE gl A X h.length) (P f ts M) (F f ws h))
include hF
omit hF in
theorem Res.bind_assoc {α β γ:Type} (r:Res α) (f:α -> Res β) (g:β -> Res γ):(r.bind f).bind g=r.bind fun a=>(f a).bind g:=by cases r<;>rfl
omit hF in
theorem qEn (e:E) (σ:List (Option V)):∀ (as:Es) (h:AH),evs F (as.snoc e) σ h=(evs F as σ h).bind fun p=>(ev F e σ p.2).bind fun q=>.ok (p.1++[q.1],q.2)
 | .nil,h=>by
  show evs F (.cons e .nil) σ h=_
  rw [evs,evs,Res.bind_ok]
  rfl
 | .cons a as,h=>by
  show evs F (.cons a (as.snoc e)) σ h=_
  rw [evs,evs]
  dsimp only
  rw [Res.bind_assoc]
  congr 1
  funext p
  rw [qEn e σ as,Res.bind_assoc,Res.bind_assoc]
  congr 1
  funext q
  rw [Res.bind_assoc,Res.bind_ok]
  rfl
noncomputable def qMU (gl:List T) (A X:List Nat) (h:AH):PR (TB×Mem) -> RV -> Prop
 | .ok ((.lst ts,_),M1),r=>∃ h1 vs,r=.ok (.ref h1.length,h1++[.lst false vs])/\Frm A h h1/\RelM gl A X h1 M1/\qAK A X h1 ts vs
 | _,_=>True
omit hF in
theorem RelM.cellN {gl:List T} {A X:List Nat} {h:AH} {M:Mem} {ts:List T} {vs:List V} (R:RelM gl A X h M) (r:qAK A X h ts vs):RelM gl (A++[h.length]) (X++[h.length]) (h++[.lst false vs]) (M++[ts]):=by
 have hn:∀ a o,a∉X -> h[a]?=some o -> a∉X++[h.length]/\(h++[O.lst false vs])[a]?=some o:=qDU R.sub (Frm.app A h _) (fun b hb=>by simp at hb;omega)
 refine ⟨by simp [R.len],?_,fun a ha=>?_,fun a ha=>?_,fun n a e=>?_,fun g t e=>qAt qBO hn t (R.glo g t e)⟩
 ·rw [List.nodup_append]
  refine ⟨R.nd,by simp,fun a ha b hb=>?_⟩
  have:=R.lt a (R.sub a ha)
  simp at hb
  omega
 ·rcases List.mem_append.mp ha with z | z
  ·exact List.mem_append_left _ (R.sub a z)
  ·exact List.mem_append_right _ z
 ·rcases List.mem_append.mp ha with z | z
  ·have:=R.lt a z;simp;omega
  ·simp at z;simp [z]
 ·by_cases hlt:n < A.length
  ·rw [List.getElem?_append_left hlt] at e
   obtain ⟨us,ws,e1,e2,e3⟩:=R.at_ n a e
   exact ⟨us,ws,by rw [List.getElem?_append_left (by rw [<- R.len];exact hlt)];exact e1,by rw [List.getElem?_append_left (qAM e2)];exact e2,qAN qBO hn us e3⟩
  ·have hl:=(List.getElem?_eq_some_iff.mp e).1
   have hnn:n=A.length:=by simp at hl;omega
   subst hnn
   simp at e
   subst e
   exact ⟨ts,vs,by rw [R.len];simp,by simp,qAN qBO hn ts r⟩
omit hF in
theorem qF4 {e:E} (h:qIh e=true):(∃ as,e=.lst as)\/∃ a b,e=.bin .add a b:=by
 unfold qIh at h
 split at h
 ·exact .inr ⟨_,_,rfl⟩
 ·exact .inl ⟨_,rfl⟩
 ·cases h
theorem qIF (e:E) (he:qIh e=true) (A X:List Nat) (h:AH) (M:Mem) (σ:TS) (σh:List (Option V)) (R:RelM gl A X h M) (rs:qBY A X h σ σh):qMU gl A X h (pe gl P e σ M) (ev F e σh h):=by
 rcases qF4 he with ⟨as,rfl⟩ | ⟨a,b,rfl⟩
 ·rw [pe,ev];dsimp only
  have s1:=qBX hF as A X h M σ σh R rs
  revert s1
  generalize pes gl P as σ M=r
  generalize evs F as σh h=rh
  intro s1
  cases r with
  | stuck=>trivial
  | exc c M'=>trivial
  | ok p=>
   obtain ⟨x,M1⟩:=p
   obtain ⟨w,h1,rfl,f1,R1,q⟩:=s1
   rw [PR.bind_ok,Res.bind_ok]
   dsimp only
   rw [<- q.len]
   split
   ·exact ⟨h1,w,rfl,f1,R1,q.1⟩
   ·trivial
 ·rw [pe,ev];dsimp only
  have s1:=qAO hF a A X h M σ σh R rs
  revert s1
  generalize pe gl P a σ M=r
  generalize ev F a σh h=rh
  intro s1
  cases r with
  | stuck=>trivial
  | exc c M'=>trivial
  | ok p=>
   obtain ⟨x,M1⟩:=p
   obtain ⟨v,h1,rfl,f1,R1,q1⟩:=s1
   rw [PR.bind_ok,Res.bind_ok]
   dsimp only
   have s2:=qAO hF b A X h1 M1 σ σh R1 (R.keepS f1 rs)
   revert s2
   generalize pe gl P b σ M1=r
   generalize ev F b σh h1=rh
   intro s2
   cases r with
   | stuck=>trivial
   | exc c M'=>trivial
   | ok p=>
    obtain ⟨y,M2⟩:=p
    obtain ⟨w,h2,rfl,f2,R2,q2⟩:=s2
    rw [PR.bind_ok,Res.bind_ok]
    dsimp only
    have rx:=R1.keep f2 q1.1
    cases eb:qA4 M2 .add x.1 y.1 with
    | none=>trivial
    | some r=>
     rw [PR.ofO_some,PR.bind_ok]
     unfold qA4 at eb
     split at eb
     ·cases eb;trivial
     ·cases eb
     ·rename_i e1 e2
      dsimp only at eb
      split at eb
      ·split at eb
       ·cases eb;trivial
       ·cases eb
      rename_i u0 u1 u2
      clear u2
      obtain ⟨xs,m1,eb⟩:=Option.bind_eq_some_iff.mp eb
      obtain ⟨ys,m2,eb⟩:=Option.bind_eq_some_iff.mp eb
      split at eb
      ·rename_i hl
       cases eb
       obtain ⟨a1,vs,rfl,g1,k1⟩:=qEv R2 rx m1
       obtain ⟨a2,us,rfl,g2,k2⟩:=qEv R2 q2.1 m2
       refine ⟨h2,vs++us,?_,f1.trans f2,R2,reps_iff.mpr (qAh (reps_iff.mp k1) (reps_iff.mp k2))⟩
       show (match qAW h2 a1,qAW h2 a2 with | some xs,some ys=>if xs.length + ys.length<=lim then newL (xs++ys) h2 else .stuck | _,_=>_)=_
       rw [g1,g2]
       dsimp only
       rw [<- qAB (reps_iff.mp k1),<- qAB (reps_iff.mp k2),if_pos hl]
       rfl
      ·cases eb
     ·cases eb
omit hF in
omit hF in
omit hF in
omit hF in
omit hF in
omit hF in
omit hF in
omit hF in
noncomputable def SimN (gl:List T) (A X:List Nat) (D n0:Nat) (h:AH):RSt -> RS -> Prop
 | .ok (o,M'),r=>∃ oh h',r=.ok (oh,h')/\Frm (A++[D]) h h'/\RelM gl A X h' M'/\RelO gl A X n0 h' M' o oh
 | .exc _ _,_=>False
 | .stuck,_=>True
omit hF in
theorem SimN.pre {A X:List Nat} {D n0:Nat} {h h1:AH} {r:RSt} {rh:RS} (s:SimN gl A X D n0 h1 r rh) (f:Frm (A++[D]) h h1):SimN gl A X D n0 h r rh:=by
 match r,s with
 | .ok (o,M'),⟨oh,h',e,f1,R,ro⟩=>exact ⟨oh,h',e,f.trans f1,R,ro⟩
 | .exc _ _,z=>exact z.elim
 | .stuck,_=>trivial
omit hF in
theorem Frm.more {A:List Nat} {D:Nat} {h h':AH} (f:Frm A h h'):Frm (A++[D]) h h':=⟨f.1,fun j hj hA=>f.2 j hj fun z=>hA (List.mem_append_left _ z)⟩
mutual
theorem qKr:∀ (s:S) (A X:List Nat) (h:AH) (M:Mem) (σ:TS) (σh:List (Option V)),RelM gl A X h M -> qBY A X h σ σh -> SimS gl A X h (px gl P C s σ M) (ex F s σh h)
 | .asg g e,A,X,h,M,σ,σh,R,rs=>by
  rw [px,ex];dsimp only
  have se:=qAO hF e A X h M σ σh R rs
  have tp:=fun he=>qIF hF e he A X h M σ σh R rs
  revert se tp
  generalize pe gl P e σ M=r
  generalize ev F e σh h=rh
  intro se tp
  cases r with
  | stuck=>trivial
  | exc c M'=>
   obtain ⟨h',rfl,f1,R1⟩:=se
   exact ⟨h',[],rfl,f1,fun b hb=>by simp at hb,by simpa using R1⟩
  | ok p=>
   obtain ⟨x,M1⟩:=p
   obtain ⟨w,h1,rfl,f1,R1,q⟩:=se
   rw [PR.bind_ok,Res.bind_ok]
   dsimp only
   have gen:∀ {g:Tg} {σ1:TS},qA8 g x.1 σ=some σ1 -> SimS gl A X h (.ok (.nx σ1,M1)) (match store g w σh h1 with | some σ1=>.ok (.nx σ1,h1) | none=>.stuck):=fun e=>by
    obtain ⟨σh1,e2,rs2⟩:=qA7 e q.1 (R.keepS f1 rs)
    rw [e2]
    exact (SimS.mk (o:=.nx _) (oh:=.nx _) R1 rs2).pre f1
   cases g with
   | name i=>
    dsimp only
    split
    ·rename_i hc
     rw [Bool.and_eq_true] at hc
     obtain ⟨fp,p,nd,l,R'⟩:=q.2 hc.2
     obtain ⟨R2,r2⟩:=R'.thaw R.sub p nd
     refine ⟨.nx (σh.set i (some w)),h1,fp,rfl,f1,l,R2,?_⟩
     exact qAy i (qBS qBO (qDU R.sub f1 l) rs) (show qHO _ _ h1 (some _) (some w) from r2)
    ·split
     ·rename_i hc
      rw [Bool.and_eq_true] at hc
      have tp:=tp hc.2
      obtain ⟨x1,x2⟩:=x
      dsimp only
      split
      ·rename_i ts
       obtain ⟨h0,vs,e0,f0,R0,r0⟩:=tp
       cases e0
       refine ⟨.nx (σh.set i (some (.ref h0.length))),_,[h0.length],rfl,f0.trans (Frm.app A h0 _),fun b hb=>by simp at hb;have:=f0.1;omega,R0.cellN r0,?_⟩
       refine qAy i (qBS qBO (qDU R0.sub (Frm.app A h0 _) (fun b hb=>by simp at hb;omega)) (R.keepS f0 rs)) (show qHO _ _ _ (some _) (some _) from ?_)
       have rc:Rep (A++[h0.length]) (X++[h0.length]) (h0++[O.lst false vs]) (.cell M1.length) (.ref h0.length):=by
        unfold Rep
        exact ⟨h0.length,by rw [<- R0.len];simp,rfl⟩
       exact rc
      ·exact SimS.stuck
     ·exact gen (g:=.name i) rfl
   | tup is=>
    dsimp only
    split
    ·rename_i σ1 e;exact gen e
    ·exact SimS.stuck
 | .par i j a b,A,X,h,M,σ,σh,R,rs=>by
  rw [px,ex];dsimp only
  refine Sim.bindS (qAO hF a A X h M σ σh R rs) ?_
  intro x M1 v h1 f1 R1 q1;dsimp only
  refine Sim.bindS (qAO hF b A X h1 M1 σ σh R1 (R.keepS f1 rs)) ?_
  intro y M2 w h2 f2 R2 q2;dsimp only
  refine SimS.mk R2 ?_
  exact qAy j (qAy i (R1.keepS f2 (R.keepS f1 rs)) (show qHO _ _ h2 (some _) (some v) from R1.keep f2 q1.1)) (show qHO _ _ h2 (some _) (some w) from q2.1)
 | .put o i v,A,X,h,M,σ,σh,R,rs=>by
  rw [px,ex];dsimp only
  refine Sim.bindS (qAO hF v A X h M σ σh R rs) ?_
  intro x M1 vx h1 f1 R1 q1;dsimp only
  refine Sim.bindS (qAO hF o A X h1 M1 σ σh R1 (R.keepS f1 rs)) ?_
  intro y M2 w h2 f2 R2 q2;dsimp only
  refine Sim.bindS (qAO hF i A X h2 M2 σ σh R2 (R1.keepS f2 (R.keepS f1 rs))) ?_
  intro z M3 u h3 f3 R3 q3;dsimp only
  obtain ⟨ty,fy⟩:=y
  obtain ⟨tz,fz⟩:=z
  dsimp only
  split
  ·rename_i n k
   cases qAm q3.1
   have q:=R2.keep f3 q2.1
   unfold Rep at q
   obtain ⟨p,ep,rfl⟩:=q
   obtain ⟨ts2,vs2,g1,g2,g3⟩:=R3.at_ n p ep
   rw [g1]
   dsimp only
   rw [show qAW h3 p=some vs2 by unfold qAW;rw [g2]]
   dsimp only
   rw [<- qAB (reps_iff.mp g3)]
   split
   ·rename_i j ej
    try simp only [ej]
    obtain ⟨R4,f4⟩:=R3.put ep (reps_iff.mpr (qAy j (reps_iff.mp g3) (R2.keep f3 (R1.keep f2 q1.1))))
    exact (SimS.mk (o:=.nx σ) (oh:=.nx σh) R4 (R3.keepS f4 (R2.keepS f3 (R1.keepS f2 (R.keepS f1 rs))))).pre f4
   ·exact SimS.stuck
  ·exact SimS.stuck
 | .expr e,A,X,h,M,σ,σh,R,rs=>by
  rw [px,ex];dsimp only
  refine Sim.bindS (qAO hF e A X h M σ σh R rs) ?_
  intro x M1 v h1 f1 R1 q1;dsimp only
  exact SimS.mk (o:=.nx σ) (oh:=.nx σh) R1 (R.keepS f1 rs)
 | .ret e,A,X,h,M,σ,σh,R,rs=>by
  rw [px,ex];dsimp only
  have se:=qAO hF e A X h M σ σh R rs
  revert se
  generalize pe gl P e σ M=r
  generalize ev F e σh h=rh
  intro se
  cases r with
  | stuck=>trivial
  | exc c M'=>
   obtain ⟨h',rfl,f1,R1⟩:=se
   exact ⟨h',[],rfl,f1,fun b hb=>by simp at hb,by simpa using R1⟩
  | ok p=>
   obtain ⟨x,M1⟩:=p
   obtain ⟨w,h1,rfl,f1,R1,q⟩:=se
   exact ⟨.rt w,h1,[],rfl,f1,fun b hb=>by simp at hb,by simpa using R1,by simpa using (show RelO gl A X h.length h1 M1 (.rt x) (.rt w) from q)⟩
 | .retc as e,A,X,h,M,σ,σh,R,rs=>by
  rw [px,ex];dsimp only
  rw [show ev F (.tup (as.snoc e)) σh h=(evs F (as.snoc e) σh h).bind fun p=>if p.1.length<=lim then newT p.1 p.2 else .stuck from by rw [ev],qEn,Res.bind_assoc,Res.bind_assoc]
  refine Sim.bindS (qBX hF as A X h M σ σh R rs) ?_
  intro x M1 v h1 f1 R1 q1;dsimp only
  rw [Res.bind_assoc]
  have se:=qAO hF e A X h1 M1 σ σh R1 (R.keepS f1 rs)
  revert se
  generalize pe gl P e σ M1=r
  generalize ev F e σh h1=rh
  intro se
  cases r with
  | stuck=>trivial
  | exc c M'=>
   obtain ⟨h',rfl,f2,R2⟩:=se
   exact ⟨h',[],rfl,f2,fun b hb=>by simp at hb,by simpa using R2⟩
  | ok p=>
   obtain ⟨y,M2⟩:=p
   obtain ⟨w,h2,rfl,f2,R2,q⟩:=se
   rw [PR.bind_ok,Res.bind_ok,Res.bind_ok]
   dsimp only
   split
   ·rename_i hc
    obtain ⟨fp,p,nd,l,R'⟩:=q.2 hc.1
    obtain ⟨R3,r3⟩:=R'.thaw R.sub p nd
    have ll:(v++[w]).length<=lim:=by
     have:=qAB (reps_iff.mp q1.1)
     rw [List.length_map] at this
     rw [List.length_append,<- this]
     exact hc.2
    rw [if_pos ll]
    have rp:Rep (A++fp) (X++fp) (h2++[O.tup (v++[w])]) (.tup (x.map (·.1)++[(thaw M2.length y.1).1])) (.ref h2.length):=by
     unfold Rep
     refine ⟨h2.length,v++[w],rfl,fun z=>by have:=R3.lt _ z;omega,by simp,?_⟩
     have g1:=qAN (qBO (B:=fp)) (qDU R1.sub (f2.trans (Frm.app A h2 [O.tup (v++[w])])) l) _ q1.1
     have g2:=R3.keep (Frm.app (A++fp) h2 [O.tup (v++[w])]) r3
     exact reps_iff.mpr (qAh (reps_iff.mp g1) ⟨w,[],rfl,g2,rfl⟩)
    exact ⟨.rt (.ref h2.length),h2++[O.tup (v++[w])],fp,rfl,f2.trans (Frm.app A h2 _),l,R3.up _,⟨rp,fun e=>by cases e⟩⟩
   ·exact SimS.stuck
 | .ifs c t u,A,X,h,M,σ,σh,R,rs=>by
  rw [px,ex];dsimp only
  refine Sim.bindS (qD2 (qAO hF c A X h M σ σh R rs)) ?_
  rintro x M1 v h1 f1 R1 rfl;dsimp only
  cases x with
  | true=>simp only [if_true];exact qCo t A X h1 M1 σ σh R1 (R.keepS f1 rs)
  | false=>simp only [Bool.false_eq_true,if_false];exact qCo u A X h1 M1 σ σh R1 (R.keepS f1 rs)
 | .for_ g it b,A,X,h,M,σ,σh,R,rs=>by
  rw [px,ex];dsimp only
  refine Sim.bindS (qHQ hF it A X h M σ σh R rs) ?_
  intro s M1 sh h1 f1 R1 q1;dsimp only
  rw [qEZ q1]
  exact qF1 (fun A X h M σ σh R rs=>qCo b A X h M σ σh R rs) s.1 0 σ σh M1 h1 A X rfl (Nat.zero_le _) R1 q1 (R.keepS f1 rs)
 | .while_ c b,A,X,h,M,σ,σh,R,rs=>by
  rw [px,ex];dsimp only
  exact qCN (fun A X h M σ σh R rs=>qD2 (qAO hF c A X h M σ σh R rs)) (fun A X h M σ σh R rs=>qCo b A X h M σ σh R rs) qJh σ σh M h A X R rs
 | .stop,A,X,h,M,σ,σh,R,rs=>by rw [px,ex];exact SimS.stuck
theorem qCo:∀ (s:Ss) (A X:List Nat) (h:AH) (M:Mem) (σ:TS) (σh:List (Option V)),RelM gl A X h M -> qBY A X h σ σh -> SimS gl A X h (pxs gl P C s σ M) (exs F s σh h)
 | .nil,A,X,h,M,σ,σh,R,rs=>by rw [pxs,exs];exact SimS.mk (o:=.nx σ) (oh:=.nx σh) R rs
 | .cons s r,A,X,h,M,σ,σh,R,rs=>by
  rw [pxs,exs];dsimp only
  refine SimS.bind (qKr s A X h M σ σh R rs) ?_
  intro o M1 oh h1 B f1 hB R1 ro
  cases o with
  | nx σ2=>cases oh<;>first | exact .inl (qCo r _ _ h1 M1 _ _ R1 ro) | exact ro.elim
  | ct σ2=>cases oh<;>first | exact .inr ⟨rfl,rfl⟩ | exact ro.elim
  | bk σ2=>cases oh<;>first | exact .inr ⟨rfl,rfl⟩ | exact ro.elim
  | rt t=>cases oh<;>first | exact .inr ⟨rfl,rfl⟩ | exact ro.elim
end
end
end PI
namespace PI
open L2 (V)
section
variable {gl:List T} {A X B:List Nat} {h h':AH} {M M1:Mem}
theorem mapM_cons {α β:Type} {f:α -> Option β} {x:α} {xs:List α} {ys:List β} (e:(x::xs).mapM f=some ys):∃ y ys',f x=some y/\xs.mapM f=some ys'/\ys=y::ys':=by
 rw [List.mapM_cons] at e
 cases hf:f x with
 | none=>rw [hf] at e;cases e
 | some y=>
  rw [hf] at e
  cases hg:xs.mapM f with
  | none=>rw [hg] at e;cases e
  | some ys'=>rw [hg] at e;cases e;exact ⟨y,ys',rfl,rfl,rfl⟩
theorem mapM_nil {α β:Type} {f:α -> Option β} {ys:List β} (e:([]:List α).mapM f=some ys):ys=[]:=by
 rw [List.mapM_nil] at e;cases e;rfl
theorem qBt {A1 X1:List Nat} {f:T -> Option T} (hf:∀ t t' w,f t=some t' -> Rep A1 X1 h t w -> Rep A X h t' w):∀ {ts ts':List T} {vs:List V},ts.mapM f=some ts' -> qAK A1 X1 h ts vs -> qAK A X h ts' vs
 | [],ts',vs,e,r=>by cases mapM_nil e;unfold qAK at r ⊢;exact r
 | t::ts,ts',vs,e,r=>by
  obtain ⟨y,ys,e1,e2,rfl⟩:=mapM_cons e
  unfold qAK at r ⊢
  obtain ⟨v,vs',rfl,a,b⟩:=r
  exact ⟨v,vs',rfl,hf _ _ _ e1 a,qBt hf e2 b⟩
theorem qEz (R:RelM gl (A++B) (X++B) h M1) (hB:∀ b∈B,b∉X):∀ (d:Nat) (t t':T) (w:V),qAg M1 A.length d t=some t' -> Rep (A++B) (X++B) h t w -> Rep A X h t' w:=by
 have hu:∀ (t:T) (w:V),t.und A.length=true -> Rep (A++B) (X++B) h t w -> Rep A X h t w:=fun t w u r=>qFq (fun n hn=>List.getElem?_append_left hn) (fun a ha=>List.mem_append_left _ ha) t r u
 have hX:∀ a,a∉X++B -> a∉X:=fun a x z=>x (List.mem_append_left _ z)
 intro d
 induction d with
 | zero=>
  intro t t' w e r
  unfold qAg at e
  split at e
  ·rename_i u;cases e;exact hu _ w u r
  ·cases e
 | succ d ih=>
  intro t t' w e r
  unfold qAg at e
  split at e
  ·rename_i u;cases e;exact hu _ w u r
  ·rename_i u
   cases t with
   | v x=>cases e
   | ob o=>cases e
   | fz ts=>cases e
   | lst ts=>
    obtain ⟨ts',e1,rfl⟩:=Option.map_eq_some_iff.mp e
    unfold Rep at r ⊢
    obtain ⟨a,vs,rfl,q1,q2,q3⟩:=r
    exact ⟨a,vs,rfl,hX a q1,q2,qBt ih e1 q3⟩
   | tup ts=>
    obtain ⟨ts',e1,rfl⟩:=Option.map_eq_some_iff.mp e
    unfold Rep at r ⊢
    obtain ⟨a,vs,rfl,q1,q2,q3⟩:=r
    exact ⟨a,vs,rfl,hX a q1,q2,qBt ih e1 q3⟩
   | cell n=>
    obtain ⟨ts,e0,e⟩:=Option.bind_eq_some_iff.mp (show (M1[n]?).bind _=_ from e)
    obtain ⟨ts',e1,rfl⟩:=Option.map_eq_some_iff.mp e
    have hn:A.length<=n:=by
     unfold T.und at u;simpa using u
    unfold Rep at r ⊢
    obtain ⟨a,ea,rfl⟩:=r
    obtain ⟨ts2,vs,g1,g2,g3⟩:=R.at_ n a ea
    rw [e0] at g1;cases g1
    rw [List.getElem?_append_right hn] at ea
    exact ⟨a,vs,rfl,hB a (List.mem_of_getElem? ea),g2,qBt ih e1 g3⟩
mutual
theorem qG6 (n:Nat):∀ (t:T),t.lf=true -> t.und n=true
 | .v x,_=>rfl
 | .cell _,l=>by unfold T.lf at l;cases l
 | .ob _,_=>rfl
 | .fz _,l=>by unfold T.lf at l;cases l
 | .lst _,l=>by unfold T.lf at l;cases l
 | .tup ts,l=>by unfold T.lf at l;unfold T.und;exact qDz n ts l
theorem qDz (n:Nat):∀ (ts:List T),T.lfs ts=true -> T.unds n ts=true
 | [],_=>rfl
 | t::ts,l=>by unfold T.lfs at l;rw [Bool.and_eq_true] at l;unfold T.unds;rw [qG6 n t l.1,qDz n ts l.2];rfl
end
theorem qF9 {n0:Nat} {f:T -> Option (List Nat)} (hf:∀ t l,f t=some l -> t.und n0=true -> t.lf=true):∀ {ts:List T} {ls:List (List Nat)},ts.mapM f=some ls -> T.unds n0 ts=true -> T.lfs ts=true
 | [],ls,e,u=>rfl
 | t::ts,ls,e,u=>by
  obtain ⟨y,ys,e1,e2,rfl⟩:=mapM_cons e
  unfold T.unds at u;rw [Bool.and_eq_true] at u
  unfold T.lfs
  rw [hf t _ e1 u.1,qF9 hf e2 u.2];rfl
theorem qFo {n0:Nat}:∀ (d:Nat) (t:T) (l:List Nat),qCh M1 n0 d t=some l -> t.und n0=true -> t.lf=true:=by
 intro d
 induction d with
 | zero=>intro t l e u;unfold qCh at e;split at e<;>first | assumption | cases e
 | succ d ih=>
  intro t l e u
  unfold qCh at e
  split at e
  ·assumption
  ·cases t with
   | tup ts=>
    obtain ⟨ls,e1,rfl⟩:=Option.map_eq_some_iff.mp e
    unfold T.und at u
    unfold T.lf
    exact qF9 ih e1 u
   | cell n=>
    dsimp only at e
    split at e
    ·rename_i hn;unfold T.und at u;simp at u;omega
    ·cases e
   | v x=>cases e
   | ob o=>cases e
   | fz ts=>cases e
   | lst ts=>cases e
theorem qDL {A1 X1:List Nat} {n0:Nat} {f:T -> Option (List Nat)} {g:T -> Option T} (hf:∀ t l t' w,f t=some l -> g t=some t' -> Rep A1 X1 h t w -> ∃ fp,FP X h t' w fp/\fp.map some=l.map (A1[·]?)/\∀ n∈l,n0<=n):
  ∀ {ts ts':List T} {ls:List (List Nat)} {vs:List V},ts.mapM f=some ls -> ts.mapM g=some ts' -> qAK A1 X1 h ts vs -> ∃ fp,FPs X h ts' vs fp/\fp.map some=ls.flatten.map (A1[·]?)/\∀ n∈ls.flatten,n0<=n
 | [],ts',ls,vs,e,e',r=>by
  cases mapM_nil e;cases mapM_nil e'
  unfold qAK at r
  exact ⟨[],by unfold FPs;exact ⟨r,rfl⟩,rfl,fun n hn=>by simp at hn⟩
 | t::ts,ts',ls,vs,e,e',r=>by
  obtain ⟨y,ys,e1,e2,rfl⟩:=mapM_cons e
  obtain ⟨z,zs,e3,e4,rfl⟩:=mapM_cons e'
  unfold qAK at r
  obtain ⟨v,vs',rfl,a,b⟩:=r
  obtain ⟨f1,p1,q1,n1⟩:=hf _ _ _ _ e1 e3 a
  obtain ⟨f2,p2,q2,n2⟩:=qDL hf e2 e4 b
  refine ⟨f1++f2,by unfold FPs;exact ⟨v,vs',f1,f2,rfl,p1,p2,rfl⟩,by simp [q1,q2],fun n hn=>?_⟩
  rw [List.flatten_cons] at hn
  rcases List.mem_append.mp hn with z | z
  ·exact n1 n z
  ·exact n2 n z
theorem qCa {n0:Nat} {d:Nat} {t t':T} (u:t.und n0=true) (e:qAg M1 n0 d t=some t'):t'=t:=by
 cases d<;>(unfold qAg at e;rw [if_pos u] at e;cases e;rfl)
theorem qGa (R:RelM gl (A++B) (X++B) h M1) (hB:∀ b∈B,b∉X):∀ (d:Nat) (t:T) (l:List Nat) (t':T) (w:V),qCh M1 A.length d t=some l -> qAg M1 A.length d t=some t' -> Rep (A++B) (X++B) h t w ->
  ∃ fp,FP X h t' w fp/\fp.map some=l.map ((A++B)[·]?)/\∀ n∈l,A.length<=n:=by
 have hX:∀ a,a∉X++B -> a∉X:=fun a x z=>x (List.mem_append_left _ z)
 have lfc:∀ {d:Nat} {t t':T} {w:V},t.lf=true -> qAg M1 A.length d t=some t' -> Rep (A++B) (X++B) h t w -> ∃ fp:List Nat,FP X h t' w fp/\fp.map some=([]:List Nat).map ((A++B)[·]?)/\∀ n∈([]:List Nat),A.length<=n:=by
  intro d t t' w l e r
  cases qCa (qG6 _ t l) e
  exact ⟨[],qCz (fun a o x y=>⟨hX a x,y⟩) _ (qHc _ r l),rfl,fun n hn=>by simp at hn⟩
 intro d
 induction d with
 | zero=>
  intro t l t' w e e' r
  unfold qCh at e
  split at e
  ·rename_i hl;cases e;exact lfc hl e' r
  ·cases e
 | succ d ih=>
  intro t l t' w e e' r
  unfold qCh at e
  split at e
  ·rename_i hl;cases e;exact lfc hl e' r
  ·rename_i hl
   have hu:t.und A.length≠true:=fun u=>hl (qFo (M1:=M1) (d + 1) t l (by unfold qCh;rw [if_neg hl];exact e) u)
   unfold qAg at e'
   rw [if_neg hu] at e'
   cases t with
   | tup ts=>
    obtain ⟨ls,e1,rfl⟩:=Option.map_eq_some_iff.mp e
    obtain ⟨ts',e2,rfl⟩:=Option.map_eq_some_iff.mp e'
    unfold Rep at r
    obtain ⟨a,vs,rfl,q1,q2,q3⟩:=r
    obtain ⟨fp,p1,p2,p3⟩:=qDL ih e1 e2 q3
    exact ⟨fp,by unfold FP;exact ⟨a,vs,rfl,hX a q1,q2,p1⟩,p2,p3⟩
   | cell n=>
    dsimp only at e e'
    split at e
    ·rename_i hn
     obtain ⟨ts,e0,e⟩:=Option.bind_eq_some_iff.mp e
     obtain ⟨ls,e1,rfl⟩:=Option.map_eq_some_iff.mp e
     rw [e0] at e'
     dsimp only [Option.bind_some] at e'
     obtain ⟨ts',e2,rfl⟩:=Option.map_eq_some_iff.mp e'
     unfold Rep at r
     obtain ⟨a,ea,rfl⟩:=r
     obtain ⟨ts2,vs,g1,g2,g3⟩:=R.at_ n a ea
     rw [e0] at g1;cases g1
     obtain ⟨fp,p1,p2,p3⟩:=qDL ih e1 e2 g3
     have ea2:=ea
     rw [List.getElem?_append_right hn] at ea2
     refine ⟨fp++[a],by unfold FP;exact ⟨a,vs,fp,rfl,hB a (List.mem_of_getElem? ea2),g2,p1,rfl⟩,?_,fun m hm=>?_⟩
     ·rw [List.map_append,List.map_append,p2]
      simp [ea]
     ·rcases List.mem_append.mp hm with z | z
      ·exact p3 m z
      ·simp at z;omega
    ·cases e
   | v x=>cases e
   | ob o=>cases e
   | fz ts=>cases e
   | lst ts=>cases e
theorem qC2 {X' Y:List Nat} (R:RelM gl (A++B) Y h M1) (hX:∀ a∈X',a∈Y) (hA:∀ a∈A,a∈X') (hc:(M1.take A.length).all (T.unds A.length)=true) (hg:∀ (g:Nat) t,gl[g]?=some t -> Rep A X' h t (.ref g)):RelM gl A X' h (M1.take A.length):=by
 have l:=R.len
 rw [List.length_append] at l
 refine ⟨by rw [List.length_take];omega,(List.nodup_append.mp R.nd).1,hA,fun a ha=>R.lt a (hX a ha),fun n a e=>?_,hg⟩
 have hn:=(List.getElem?_eq_some_iff.mp e).1
 obtain ⟨ts,vs,e1,e2,e3⟩:=R.at_ n a (qBO n a e)
 refine ⟨ts,vs,by rw [List.getElem?_take_of_lt hn];exact e1,e2,qBp (fun n hn=>List.getElem?_append_left hn) hX ts e3 ?_⟩
 rw [List.all_eq_true] at hc
 refine hc ts (List.mem_of_getElem? (i:=n) ?_)
 rw [List.getElem?_take_of_lt hn];exact e1
theorem qDk (R0:RelM gl A X h M) (f:Frm A h h') (hB:∀ b∈B,h.length<=b) (R:RelM gl (A++B) (X++B) h' M1) {x:TB} {w:V} (q:QE gl (A++B) (X++B) h.length x w h' M1):Sim gl A X h (QE gl A X h.length) (qB8 M.length x M1) (.ok (w,h')):=by
 have hBX:∀ b∈B,b∉X:=fun b z y=>by have:=hB b z;have:=R0.lt b y;omega
 have hX:∀ a,a∉X++B -> a∉X:=fun a x z=>x (List.mem_append_left _ z)
 have hg:∀ {Z:List Nat},(∀ a∈Z,h.length<=a) -> ∀ (g:Nat) t,gl[g]?=some t -> Rep A (X++Z) h' t (.ref g):=fun hZ g t e=>qAt (fun _ _ e=>e) (fun a o x y=>⟨by
   rw [List.mem_append];rintro (z | z)
   ·exact x z
   ·have:=hZ a z;have:=qAM y;omega,(R0.keepN f a o x y).2⟩) t (R0.glo g t e)
 unfold qB8
 rw [<- R0.len]
 split
 ·rename_i hl
  have hB0:B=[]:=by
   have:=R.len
   rw [List.length_append,hl] at this
   exact List.length_eq_zero_iff.mp (by omega)
  subst hB0
  rw [List.append_nil,List.append_nil] at R q
  exact ⟨w,h',rfl,f,R,q⟩
 split
 ·rename_i hc
  refine Sim.ofO fun t' et=>?_
  have R':RelM gl A X h' (M1.take A.length):=by
   have:=qC2 (X':=X++[]) R (fun a ha=>by simp at ha;exact List.mem_append_left _ ha) (fun a ha=>by simp;exact R0.sub a ha) hc (hg fun a ha=>by simp at ha)
   simpa using this
  refine ⟨w,h',rfl,f,R',qEz R hBX 6 _ _ _ et q.1,fun e=>?_⟩
  rw [Bool.or_eq_true] at e
  rcases e with e | e
  ·obtain ⟨fp,p,nd,l,Rf⟩:=q.2 e
   cases qCa (qHR A.length _ p) et
   refine ⟨fp,qCz (fun a o x y=>⟨hX a x,y⟩) _ p,nd,l,qC2 Rf (fun a ha=>?_) (fun a ha=>List.mem_append_left _ (R0.sub a ha)) hc (hg l)⟩
   rcases List.mem_append.mp ha with z | z
   ·exact List.mem_append_left _ (List.mem_append_left _ z)
   ·exact List.mem_append_right _ z
  ·unfold frR at e
   split at e
   ·rename_i l el
    have ndl:l.Nodup:=by simpa using e
    obtain ⟨fp,p,pm,pn⟩:=qGa R hBX 6 _ _ _ _ el et q.1
    have fB:∀ a∈fp,a∈B:=fun a ha=>by
     have:some a∈fp.map some:=List.mem_map_of_mem ha
     rw [pm] at this
     obtain ⟨n,hn,en⟩:=List.mem_map.mp this
     rw [List.getElem?_append_right (pn n hn)] at en
     exact List.mem_of_getElem? en
    have nd:fp.Nodup:=by
     have:(fp.map some).Nodup:=by
      rw [pm]
      refine List.pairwise_map.mpr (List.Pairwise.imp_of_mem ?_ ndl)
      intro n m hn hm hnm e
      have:(A++B)[n]?∈fp.map some:=by rw [pm];exact List.mem_map_of_mem hn
      obtain ⟨a,_,ea⟩:=List.mem_map.mp this
      exact hnm ((List.getElem?_inj (List.getElem?_eq_some_iff.mp ea.symm).1 R.nd).mp e)
     exact (List.pairwise_map.mp this).imp fun {a b} z e=>z (by rw [e])
    refine ⟨fp,p,nd,fun a ha=>hB a (fB a ha),qC2 R (fun a ha=>?_) (fun a ha=>List.mem_append_left _ (R0.sub a ha)) hc (hg fun a ha=>hB a (fB a ha))⟩
    rcases List.mem_append.mp ha with z | z
    ·exact List.mem_append_left _ z
    ·exact List.mem_append_right _ (fB a z)
   ·cases e
 ·exact Sim.stuck
end
theorem qDQ {A X:List Nat} {h:AH} (n:Nat):∀ {ts:List T} {ws:List V},qAK A X h ts ws -> qBY A X h (ts.map some++List.replicate n none) (ws.map some++List.replicate n none)
 | [],ws,r=>by
  unfold qAK at r;subst r
  show qBY A X h (List.replicate n none) (List.replicate n none)
  induction n with
  | zero=>rfl
  | succ n ih=>exact ⟨none,_,rfl,trivial,ih⟩
 | t::ts,ws,r=>by
  unfold qAK at r
  obtain ⟨v,vs,rfl,a,b⟩:=r
  exact ⟨some v,_,rfl,a,qDQ n b⟩
theorem qJr (gl:List T) (tb:List Fn) (Cs:List (List Nat)):∀ (k f:Nat) (ts:List T) (ws:List V) (A X:List Nat) (h:AH) (M:Mem),RelM gl A X h M -> qAK A X h ts ws -> Sim gl A X h (QE gl A X h.length) (Pk gl tb Cs k f ts M) (Fk tb k f ws h)
 | 0,f,ts,ws,A,X,h,M,R,rs=>Sim.stuck
 | k + 1,f,ts,ws,A,X,h,M,R,rs=>by
  unfold Pk Fk
  cases ed:tb[f]? with
  | none=>exact Sim.stuck
  | some d=>
   dsimp only
   rw [<- qAB (reps_iff.mp rs)]
   split
   ·have s:=qCo (Cs.getD f []) (qJr gl tb Cs k) d.body A X h M _ _ R (qDQ (d.nslot - d.npar) rs)
    revert s
    generalize pxs gl (Pk gl tb Cs k) (Cs.getD f []) d.body (ts.map some++List.replicate (d.nslot - d.npar) none) M=r
    generalize exs (Fk tb k) d.body (ws.map some++List.replicate (d.nslot - d.npar) none) h=rh
    intro s
    cases r with
    | stuck=>exact Sim.stuck
    | exc c M1=>
     obtain ⟨h',B,rfl,f1,hB,R1⟩:=s
     show Sim gl A X h _ (if _ then _ else if _ then _ else _) _
     split
     ·rename_i hl
      have hB0:B=[]:=by
       have:=R1.len
       rw [List.length_append,hl,R.len] at this
       exact List.length_eq_zero_iff.mp (by omega)
      subst hB0
      rw [List.append_nil,List.append_nil] at R1
      exact ⟨h',rfl,f1,R1⟩
     split
     ·rename_i hc
      refine ⟨h',rfl,f1,?_⟩
      rw [<- R.len] at hc ⊢
      exact qC2 R1 (fun a ha=>List.mem_append_left _ ha) R.sub hc fun g t e=>R.keep f1 (R.glo g t e)
     ·exact Sim.stuck
    | ok p=>
     obtain ⟨o,M1⟩:=p
     obtain ⟨oh,h',B,rfl,f1,hB,R1,ro⟩:=s
     rw [Res.bind_ok]
     cases o with
     | nx σ=>
      cases oh<;>first | exact ro.elim | skip
      have r:Rep (A++B) (X++B) h' (.v .non) .non:=by unfold Rep;exact ⟨rfl,rfl⟩
      exact qDk R f1 hB R1 (show QE gl (A++B) (X++B) h.length (.v .non,true) .non h' M1 from ⟨r,fun _=>Frs.of_lf R1 r rfl⟩)
     | rt t=>
      cases oh<;>first | exact ro.elim | skip
      exact qDk R f1 hB R1 ro
     | bk σ=>exact Sim.stuck
     | ct σ=>exact Sim.stuck
   ·exact Sim.stuck
noncomputable def glT (gs:List O):List T:=gs.map fun o=>match o with | .tup xs=>.tup (xs.map .v) | .lst _ xs=>.fz (xs.map .v) | .ob _=>.v .non
noncomputable def qJO (gs:List O):Bool:=gs.all fun o=>match o with | .tup xs=>xs.all flat | _=>false
theorem qJm {gs:List O} {tb:List Fn} {Cs:List (List Nat)} {k i:Nat} {ns:List Int} {b:Bool} {M':Mem} (hg:qJO gs=true) (e:Pk (glT gs) tb Cs k i [.fz (ns.map fun n=>.v (.int n))] []=.ok ((.v (.bl true),b),M')):
  ∃ h',Fk tb k i [.ref gs.length] (gs++[.lst true (ns.map V.int)])=.ok (.bl true,h'):=by
 have R:RelM (glT gs) [] [] (gs++[.lst true (ns.map V.int)]) []:=by
  refine ⟨rfl,List.nodup_nil,fun a ha=>by simp at ha,fun a ha=>by simp at ha,fun n a e=>by simp at e,fun g t eg=>?_⟩
  unfold glT at eg
  rw [List.getElem?_map] at eg
  obtain ⟨o,eo,rfl⟩:=Option.map_eq_some_iff.mp eg
  unfold qJO at hg
  rw [List.all_eq_true] at hg
  have ho:=hg o (List.mem_of_getElem? eo)
  cases o with
  | lst _ _=>cases ho
  | ob _=>cases ho
  | tup xs=>
   dsimp only
   unfold Rep
   exact ⟨g,xs,rfl,by simp,by rw [List.getElem?_append_left (List.getElem?_eq_some_iff.mp eo).1];exact eo,qBF ho⟩
 have rs:qAK [] [] (gs++[O.lst true (ns.map V.int)]) [.fz (ns.map fun n=>.v (.int n))] [.ref gs.length]:=by
  unfold qAK
  refine ⟨_,[],rfl,?_,by unfold qAK;rfl⟩
  unfold Rep
  refine ⟨gs.length,ns.map V.int,rfl,by simp,by simp,?_⟩
  have:ns.map (fun n=>T.v (.int n))=(ns.map V.int).map .v:=by rw [List.map_map];rfl
  rw [this]
  exact qBF (by simp [flat])
 have s:=qJr (glT gs) tb Cs k i _ _ [] [] _ [] R rs
 rw [e] at s
 obtain ⟨w,h',e1,_,_,q⟩:=s
 cases qAm q.1
 exact ⟨h',e1⟩
end PI
namespace PI
open L2 (V)
noncomputable def qKB (t:T):Option TB:=match t with | .v (.int i)=>some (iT (-i)) | _=>none
noncomputable def qKf (M:Mem) (p k x:T):Option Mem:=match p,k with
 | .cell n,.v (.int j)=>(M[n]?).bind fun xs=>(L2.ixN xs.length j).map fun j=>M.set n (xs.set j x)
 | _,_=>none
noncomputable def qJ9 (M:Mem) (n:Nat) (x:T):Option Mem:=(M[n]?).bind fun xs=>if xs.length < lim then some (M.set n (xs++[x])) else none
noncomputable def qJv (t:T):Option (List T):=match t with | .v (.int j)=>if -1000000<=j/\j<=1000000 then some (qAe 0 j.toNat) else none | _=>none
section
variable {gl:List T} {P:Nat -> List T -> Mem -> PR (TB×Mem)} {C:List Nat} {σ:TS} {M:Mem} {a b c e:E} {as lo hi:Es}
@[simp] theorem pe_var (i:Nat):pe gl P (.var i) σ M=match σ[i]? with | some (some t)=>.ok ((t,t.lf),M) | _=>.stuck:=Eq.trans rfl rfl
@[simp] theorem pe_int (i:Int):pe gl P (.cst (.int i)) σ M=.ok (iT i,M):=Eq.trans rfl rfl
@[simp] theorem pe_bl (i:Bool):pe gl P (.cst (.bl i)) σ M=.ok (bT i,M):=Eq.trans rfl rfl
@[simp] theorem pe_non:pe gl P (.cst .non) σ M=.ok ((.v .non,true),M):=Eq.trans rfl rfl
@[simp] theorem pe_str (s:PySem.Str):pe gl P (.cst (.str s)) σ M=.ok ((.v (.str s),true),M):=Eq.trans rfl rfl
@[simp] theorem pe_glob (g:Nat):pe gl P (.glob g) σ M=match gl[g]? with | some t=>.ok ((t,t.lf),M) | none=>.stuck:=Eq.trans rfl rfl
@[simp] theorem qLu (op:BOp):pe gl P (.bin op a b) σ M=(pe gl P a σ M).bind fun p=>(pe gl P b σ p.2).bind fun q=>(PR.ofO (qA4 q.2 op p.1.1 q.1.1)).bind fun r=>.ok (r,q.2):=Eq.trans rfl rfl
@[simp] theorem qLn:pe gl P (.neg a) σ M=(pe gl P a σ M).bind fun p=>(PR.ofO (qKB p.1.1)).bind fun r=>.ok (r,p.2):=by
 show PR.bind _ _=_
 dsimp only
 congr 1;funext p
 obtain ⟨⟨p1,p3⟩,p2⟩:=p
 dsimp only
 unfold qKB
 cases p1<;>first | rfl | skip
 rename_i x
 cases x<;>rfl
@[simp] theorem qLY (op:COp):pe gl P (.cmp op a b) σ M=(pe gl P a σ M).bind fun p=>(pe gl P b σ p.2).bind fun q=>(PR.ofO (qA5 q.2 op p.1.1 q.1.1)).bind fun r=>.ok (bT r,q.2):=Eq.trans rfl rfl
@[simp] theorem qKW (o1 o2:COp):pe gl P (.cmp2 o1 o2 a b c) σ M=(pe gl P a σ M).bind fun p=>(pe gl P b σ p.2).bind fun q=>(PR.ofO (qA5 q.2 o1 p.1.1 q.1.1)).bind fun r=>
  if r=true then (pe gl P c σ q.2).bind fun z=>(PR.ofO (qA5 z.2 o2 q.1.1 z.1.1)).bind fun r=>.ok (bT r,z.2) else .ok (bT false,q.2):=Eq.trans rfl rfl
@[simp] theorem qK5 (o1 o2 o3:COp):pe gl P (.cmp3 o1 o2 o3 a b c d) σ M=(pe gl P a σ M).bind fun p=>(pe gl P b σ p.2).bind fun q=>(PR.ofO (qA5 q.2 o1 p.1.1 q.1.1)).bind fun r=>
  if r=true then (pe gl P c σ q.2).bind fun z=>(PR.ofO (qA5 z.2 o2 q.1.1 z.1.1)).bind fun r=>(if r=true then (pe gl P d σ z.2).bind fun w=>(PR.ofO (qA5 w.2 o3 z.1.1 w.1.1)).bind fun r=>.ok (bT r,w.2) else .ok (bT false,z.2)) else .ok (bT false,q.2):=Eq.trans rfl rfl
@[simp] theorem pe_and:pe gl P (.and a b) σ M=(pB (pe gl P a σ M)).bind fun p=>if p.1=true then pe gl P b σ p.2 else .ok (bT false,p.2):=Eq.trans rfl rfl
@[simp] theorem pe_or:pe gl P (.or a b) σ M=(pB (pe gl P a σ M)).bind fun p=>if p.1=true then .ok (bT true,p.2) else pe gl P b σ p.2:=Eq.trans rfl rfl
@[simp] theorem pe_not:pe gl P (.not a) σ M=(pB (pe gl P a σ M)).bind fun p=>.ok (bT (!p.1),p.2):=Eq.trans rfl rfl
@[simp] theorem qLT:pe gl P (.ite c a b) σ M=(pB (pe gl P c σ M)).bind fun p=>if p.1=true then pe gl P a σ p.2 else pe gl P b σ p.2:=Eq.trans rfl rfl
@[simp] theorem pe_call (f:Nat):pe gl P (.call f as) σ M=(pes gl P as σ M).bind fun p=>(P f (p.1.map (·.1)) p.2).nx:=Eq.trans rfl rfl
@[simp] theorem qLD (f:BF):pe gl P (.blt f as) σ M=(pes gl P as σ M).bind fun p=>(PR.ofO (qBy p.2 f (p.1.map (·.1)))).bind fun r=>.ok (r,p.2):=Eq.trans rfl rfl
@[simp] theorem qLc (ts:List String):pe gl P (.isi a ts) σ M=(pe gl P a σ M).bind fun p=>(PR.ofO (qAc p.2 p.1.1)).bind fun t=>.ok (bT (ts.any (qB5 t)),p.2):=Eq.trans rfl rfl
@[simp] theorem qLi:pe gl P (.idx a b) σ M=(pe gl P a σ M).bind fun p=>(pe gl P b σ p.2).bind fun q=>(PR.ofO (qFA q.2 p.1.1 q.1.1)).bind fun r=>.ok (r,q.2):=Eq.trans rfl rfl
@[simp] theorem qMA:pe gl P (.sl a lo hi) σ M=(pe gl P a σ M).bind fun p=>(pes gl P lo σ p.2).bind fun l=>(pes gl P hi σ l.2).bind fun u=>
  (PR.ofO (p.1.1.its u.2)).bind fun xs=>(PR.ofO (qAs (l.1.map (·.1)))).bind fun i=>(PR.ofO (qAs (u.1.map (·.1)))).bind fun j=>(PR.ofO (qHt p.1.1 xs i.head? j.head?)).bind fun r=>.ok (r,u.2):=Eq.trans rfl rfl
@[simp] theorem pe_lst:pe gl P (.lst as) σ M=(pes gl P as σ M).bind fun p=>if p.1.length<=lim then .ok ((.lst (p.1.map (·.1)),p.1.all (·.2)),p.2) else .stuck:=Eq.trans rfl rfl
@[simp] theorem pe_tup:pe gl P (.tup as) σ M=(pes gl P as σ M).bind fun p=>if p.1.length<=lim then .ok ((.tup (p.1.map (·.1)),p.1.all (·.2)),p.2) else .stuck:=Eq.trans rfl rfl
@[simp] theorem pe_comp (it:Itr) (src:List (Option Nat)) (g:Tg) (c:Es):pe gl P (.comp it src g c e) σ M=(pei gl P it σ M).bind fun p=>qAo p.1.2 g (pec gl P c) (pe gl P e) p.1.1 [] true (qB9 src σ) p.2:=Eq.trans rfl rfl
@[simp] theorem qLt:pe gl P (.app a b) σ M=(pe gl P a σ M).bind fun p=>match p.1.1 with
  | .cell n=>(pe gl P b σ p.2).bind fun q=>(PR.ofO (qJ9 q.2 n q.1.1)).bind fun M'=>.ok ((.v .non,true),M')
  | _=>.stuck:=by
 show PR.bind _ _=_
 dsimp only
 congr 1;funext p
 obtain ⟨⟨p1,p3⟩,p2⟩:=p
 dsimp only
 cases p1<;>dsimp only
 congr 1;funext q
 obtain ⟨⟨q1,q3⟩,q2⟩:=q
 dsimp only
 unfold qJ9
 rename_i n
 cases h:q2[n]? with
 | none=>rfl
 | some xs=>
  dsimp only [Option.bind_some]
  split<;>rfl
@[simp] theorem qK2 (m:Mt):pe gl P (.meth m a as) σ M=(pe gl P a σ M).bind fun p=>match p.1.1 with
  | .cell n=>(pes gl P as σ p.2).bind fun q=>PR.ofO (qGK m n (q.1.map (·.1)) q.2)
  | _=>.stuck:=Eq.trans rfl rfl
@[simp] theorem qKv:pe gl P .dnew σ M=.ok ((.ob (.dct []),true),M):=Eq.trans rfl rfl
@[simp] theorem qKm:pes gl P .nil σ M=.ok ([],M):=Eq.trans rfl rfl
@[simp] theorem qJ5:pes gl P (.cons a as) σ M=(pe gl P a σ M).bind fun p=>(pes gl P as σ p.2).bind fun q=>.ok (p.1::q.1,q.2):=Eq.trans rfl rfl
@[simp] theorem qCY:pec gl P .nil σ M=.ok (true,M):=Eq.trans rfl rfl
@[simp] theorem qGi:pec gl P (.cons a as) σ M=pB (pe gl P a σ M):=Eq.trans rfl rfl
@[simp] theorem qJw:pei gl P (.list a) σ M=(pe gl P a σ M).bind fun p=>(PR.ofO (qEO p.2 p.1.1)).bind fun s=>.ok (s,p.2):=Eq.trans rfl rfl
@[simp] theorem qJ7:pei gl P (.rng1 a) σ M=(pe gl P a σ M).bind fun p=>(PR.ofO (qJv p.1.1)).bind fun xs=>.ok ((xs,[]),p.2):=by
 show PR.bind _ _=_
 dsimp only
 congr 1;funext p
 obtain ⟨⟨p1,p3⟩,p2⟩:=p
 dsimp only
 unfold qJv
 cases p1<;>first | rfl | skip
 rename_i x
 cases x<;>first | rfl | skip
 dsimp only
 split<;>rfl
@[simp] theorem qKA:pei gl P (.zip3 a b c) σ M=(pe gl P a σ M).bind fun p=>(pe gl P b σ p.2).bind fun q=>(pe gl P c σ q.2).bind fun r=>(PR.ofO (qCG r.2 p.1.1)).bind fun s=>(PR.ofO (qCG r.2 q.1.1)).bind fun t=>(PR.ofO (qCG r.2 r.1.1)).bind fun u=>
  .ok ((qBD s.1 t.1 u.1,s.2++(t.2++u.2)),r.2):=Eq.trans rfl rfl
@[simp] theorem qKU:pei gl P (.zip a b) σ M=(pe gl P a σ M).bind fun p=>(pe gl P b σ p.2).bind fun q=>(PR.ofO (qCG q.2 p.1.1)).bind fun s=>(PR.ofO (qCG q.2 q.1.1)).bind fun t=>
  .ok ((List.zipWith (fun a b=>T.tup [a,b]) s.1 t.1,s.2++t.2),q.2):=Eq.trans rfl rfl
@[simp] theorem qJ3:pei gl P (.enum a) σ M=(pe gl P a σ M).bind fun p=>(PR.ofO (qCG p.2 p.1.1)).bind fun s=>.ok ((qCf 0 s.1,s.2),p.2):=Eq.trans rfl rfl
@[simp] theorem qJy:pei gl P (.revd a) σ M=(pe gl P a σ M).bind fun p=>(PR.ofO (qCG p.2 p.1.1)).bind fun s=>.ok ((s.1.reverse,s.2),p.2):=Eq.trans rfl rfl
variable {s:S} {r t u:Ss}
@[simp] theorem qK1 (i:Nat):px gl P C (.asg (.name i) e) σ M=(pe gl P e σ M).bind fun p=>if (C.contains i&&p.1.2)=true then .ok (.nx (σ.set i (some (thaw p.2.length p.1.1).1)),p.2++(thaw p.2.length p.1.1).2) else if (C.contains (i + 1000)&&qIh e)=true then (match p.1.1 with | .lst ts=>.ok (.nx (σ.set i (some (.cell p.2.length))),p.2++[ts]) | _=>.stuck) else .ok (.nx (σ.set i (some p.1.1)),p.2):=Eq.trans rfl rfl
@[simp] theorem qLQ (is:List Nat):px gl P C (.asg (.tup is) e) σ M=(pe gl P e σ M).bind fun p=>match qA8 (.tup is) p.1.1 σ with | some σ1=>.ok (.nx σ1,p.2) | none=>.stuck:=Eq.trans rfl rfl
@[simp] theorem qLa (i j:Nat):px gl P C (.par i j a b) σ M=(pe gl P a σ M).bind fun p=>(pe gl P b σ p.2).bind fun q=>.ok (.nx ((σ.set i (some p.1.1)).set j (some q.1.1)),q.2):=Eq.trans rfl rfl
@[simp] theorem qLP {o i v:E}:px gl P C (.put o i v) σ M=(pe gl P v σ M).bind fun x=>(pe gl P o σ x.2).bind fun p=>(pe gl P i σ p.2).bind fun k=>(PR.ofO (qKf k.2 p.1.1 k.1.1 x.1.1)).bind fun M'=>.ok (.nx σ,M'):=by
 show PR.bind _ _=_
 dsimp only
 congr 1;funext x;congr 1;funext p;congr 1;funext k
 obtain ⟨⟨k1,k3⟩,k2⟩:=k
 obtain ⟨⟨p1,p3⟩,p2⟩:=p
 dsimp only
 unfold qKf
 cases p1<;>first | rfl | skip
 rename_i n
 cases k1<;>first | rfl | skip
 rename_i y
 cases y<;>first | rfl | skip
 rename_i j
 dsimp only
 cases h:k2[n]? with
 | none=>rfl
 | some xs=>
  dsimp only [Option.bind_some]
  have hj:PI.ixN xs.length j=L2.ixN xs.length j:=rfl
  rw [hj]
  cases L2.ixN xs.length j with
  | none=>rfl
  | some j=>rfl
@[simp] theorem qK3:px gl P C (.expr e) σ M=(pe gl P e σ M).bind fun p=>.ok (.nx σ,p.2):=Eq.trans rfl rfl
@[simp] theorem qLo:px gl P C (.ret e) σ M=(pe gl P e σ M).bind fun p=>.ok (.rt p.1,p.2):=Eq.trans rfl rfl
@[simp] theorem qLe:px gl P C (.ifs c t u) σ M=(pB (pe gl P c σ M)).bind fun p=>if p.1=true then pxs gl P C t σ p.2 else pxs gl P C u σ p.2:=Eq.trans rfl rfl
@[simp] theorem qLF (g:Tg) (it:Itr):px gl P C (.for_ g it t) σ M=(pei gl P it σ M).bind fun p=>qBV p.1.2 g (pxs gl P C t) p.1.1 σ p.2:=Eq.trans rfl rfl
@[simp] theorem qJ4:px gl P C (.while_ c t) σ M=qB0 (fun σ M=>pB (pe gl P c σ M)) (pxs gl P C t) qJh σ M:=Eq.trans rfl rfl
@[simp] theorem qKs:px gl P C .stop σ M=.stuck:=Eq.trans rfl rfl
@[simp] theorem qKz:pxs gl P C .nil σ M=.ok (.nx σ,M):=Eq.trans rfl rfl
@[simp] theorem qGl:pxs gl P C (.cons s r) σ M=(px gl P C s σ M).bind fun p=>match p.1 with
  | .nx σ1=>pxs gl P C r σ1 p.2
  | o=>.ok (o,p.2):=Eq.trans rfl rfl
@[simp] theorem qMX (x:Bool):pB (.ok (bT x,M))=.ok (x,M):=Eq.trans rfl rfl
@[simp] theorem qM9 (x f:Bool):pB (.ok ((T.v (.bl x),f),M))=.ok (x,M):=Eq.trans rfl rfl
@[simp] theorem qJ0:pB .stuck=.stuck:=Eq.trans rfl rfl
@[simp] theorem qJ8 {α β:Type} (c:Nat) (M:Mem) (f:α -> PR β):(PR.exc c M:PR α).bind f=.exc c M:=Eq.trans rfl rfl
end
@[simp] theorem qM0 (x:V):T.lf (.v x)=true:=by rw [T.lf]
@[simp] theorem qKH (n:Nat):T.lf (.cell n)=false:=by rw [T.lf]<;>simp
@[simp] theorem qLj (xs:List T):T.lf (.lst xs)=false:=by rw [T.lf]<;>simp
@[simp] theorem qGz (x:T) (xs:List T):T.lfs (x::xs)=(x.lf&&T.lfs xs):=by rw [T.lfs]
@[simp] theorem iT1 (i:Int):(iT i).1=.v (.int i):=rfl
@[simp] theorem iT2 (i:Int):(iT i).2=true:=rfl
@[simp] theorem bT1 (i:Bool):(bT i).1=.v (.bl i):=rfl
@[simp] theorem bT2 (i:Bool):(bT i).2=true:=rfl
@[simp] theorem lT1 (xs:List T):(lT xs).1=.lst xs:=rfl
@[simp] theorem lT2 (xs:List T):(lT xs).2=T.lfs xs:=rfl
@[simp] theorem qMl (x:V):T.isV (.v x)=some x:=rfl
@[simp] theorem qH0 (x:List T):T.isV (.lst x)=none:=rfl
@[simp] theorem qKo (x:List T):T.isV (.tup x)=none:=rfl
@[simp] theorem qJ1 (x:Nat):T.isV (.cell x)=none:=rfl
section
variable {M:Mem} (i j:Int) (xs ys:List T)
@[simp] theorem qLg:qA4 M .add (.v (.int i)) (.v (.int j))=some (iT (i + j)):=rfl
@[simp] theorem qLb:qA4 M .sub (.v (.int i)) (.v (.int j))=some (iT (i - j)):=rfl
theorem qIn {i j:Int} (h:(-18446744073709551616 < i/\i < 18446744073709551616)\/(-18446744073709551616 < j/\j < 18446744073709551616)):qA4 M .mul (.v (.int i)) (.v (.int j))=some (iT (i * j)):=by
 show (if (qCC i||qCC j||(mid i&&mid j))=true then _ else _)=_
 rw [if_pos]
 rcases h with h | h
 ·have:qCC i=true:=by unfold qCC two64;exact decide_eq_true h
  rw [this];rfl
 ·have:qCC j=true:=by unfold qCC two64;exact decide_eq_true h
  rw [this,Bool.or_true];rfl
theorem qIC {i j:Int} (h:0 < j/\j < 1073741824):qA4 M .fdiv (.v (.int i)) (.v (.int j))=some (iT (i / j)):=by
 show (if 0 < j/\(j < 1073741824\/mid j=true) then _ else _)=_
 rw [if_pos ⟨h.1,.inl h.2⟩]
theorem qJF {i j:Int} (h:0 < j):qA4 M .mod (.v (.int i)) (.v (.int j))=some (iT (i % j)):=by
 show (if 0 < j then _ else _)=_
 rw [if_pos h]
theorem qJo {i j:Int} (h:0<=j/\j<=1000/\i.natAbs < 18446744073709551616):qA4 M .pow (.v (.int i)) (.v (.int j))=some (iT (i ^ j.toNat)):=by
 show (if 0<=j/\j<=1000/\i.natAbs < 18446744073709551616 then _ else _)=_
 rw [if_pos h]
theorem qJs {xs ys:List T} (h:xs.length + ys.length<=lim):qA4 M .add (.lst xs) (.lst ys)=some (lT (xs++ys)):=by
 show (if xs.length + ys.length<=lim then _ else _)=_
 rw [if_pos h]
@[simp] theorem qKG:qA5 M .lt (.v (.int i)) (.v (.int j))=some (decide (i < j)):=rfl
@[simp] theorem qL3:qA5 M .le (.v (.int i)) (.v (.int j))=some (decide (i<=j)):=rfl
@[simp] theorem qKy:qA5 M .gt (.v (.int i)) (.v (.int j))=some (decide (j < i)):=rfl
@[simp] theorem qKK:qA5 M .ge (.v (.int i)) (.v (.int j))=some (decide (j<=i)):=rfl
@[simp] theorem qKM:qA5 M .eq (.v (.int i)) (.v (.int j))=some (decide (i=j)):=by
 show some (i==j)=_
 congr 1
@[simp] theorem qLX:qBy M .list [.lst xs]=some (lT xs):=rfl
@[simp] theorem qLK:qBy M .list [.tup xs]=some (lT xs):=rfl
@[simp] theorem qG9:qBy M .max [.v (.int i),.v (.int j)]=some (iT (if j > i then j else i)):=rfl
@[simp] theorem qJK:qBy M .min [.v (.int i),.v (.int j)]=some (iT (if j < i then j else i)):=rfl
@[simp] theorem qMO:qBy M .abs [.v (.int i)]=some (iT (if i < 0 then -i else i)):=rfl
@[simp] theorem qL0:qBy M .int [.v (.int i)]=some (iT i):=rfl
@[simp] theorem qM3:qAc M (.v (.int i))=some "int":=rfl
@[simp] theorem qMu (b:Bool):qAc M (.v (.bl b))=some "bool":=rfl
@[simp] theorem qM7:qAc M (.lst xs)=some "list":=rfl
@[simp] theorem qM5:qAc M (.tup xs)=some "tuple":=rfl
@[simp] theorem qM4 (kvs:List (Int×V)):qAc M (.ob (.dct kvs))=some "dict":=rfl
@[simp] theorem qMs:qAc M (.v .non)=some "NoneType":=rfl
@[simp] theorem qLw:qEO M (.lst xs)=some (xs,[]):=rfl
@[simp] theorem qLU:qEO M (.tup xs)=some (xs,[]):=rfl
@[simp] theorem qLL:qEO M (.fz xs)=some (xs,[]):=rfl
@[simp] theorem qLG:qCG M (.lst xs)=some (xs,[]):=rfl
end
@[simp] theorem lk0 {α:Type} (x0:α) (l:List α):(x0::l)[0]?=some x0:=rfl
@[simp] theorem st0 {α:Type} (x0 y:α) (l:List α):(x0::l).set 0 y=y::l:=rfl
@[simp] theorem lk1 {α:Type} (x0 x1:α) (l:List α):(x0::x1::l)[1]?=some x1:=rfl
@[simp] theorem st1 {α:Type} (x0 x1 y:α) (l:List α):(x0::x1::l).set 1 y=x0::y::l:=rfl
@[simp] theorem lk2 {α:Type} (x0 x1 x2:α) (l:List α):(x0::x1::x2::l)[2]?=some x2:=rfl
@[simp] theorem st2 {α:Type} (x0 x1 x2 y:α) (l:List α):(x0::x1::x2::l).set 2 y=x0::x1::y::l:=rfl
@[simp] theorem lk3 {α:Type} (x0 x1 x2 x3:α) (l:List α):(x0::x1::x2::x3::l)[3]?=some x3:=rfl
@[simp] theorem st3 {α:Type} (x0 x1 x2 x3 y:α) (l:List α):(x0::x1::x2::x3::l).set 3 y=x0::x1::x2::y::l:=rfl
@[simp] theorem lk4 {α:Type} (x0 x1 x2 x3 x4:α) (l:List α):(x0::x1::x2::x3::x4::l)[4]?=some x4:=rfl
@[simp] theorem st4 {α:Type} (x0 x1 x2 x3 x4 y:α) (l:List α):(x0::x1::x2::x3::x4::l).set 4 y=x0::x1::x2::x3::y::l:=rfl
@[simp] theorem lk5 {α:Type} (x0 x1 x2 x3 x4 x5:α) (l:List α):(x0::x1::x2::x3::x4::x5::l)[5]?=some x5:=rfl
@[simp] theorem st5 {α:Type} (x0 x1 x2 x3 x4 x5 y:α) (l:List α):(x0::x1::x2::x3::x4::x5::l).set 5 y=x0::x1::x2::x3::x4::y::l:=rfl
@[simp] theorem lk6 {α:Type} (x0 x1 x2 x3 x4 x5 x6:α) (l:List α):(x0::x1::x2::x3::x4::x5::x6::l)[6]?=some x6:=rfl
@[simp] theorem st6 {α:Type} (x0 x1 x2 x3 x4 x5 x6 y:α) (l:List α):(x0::x1::x2::x3::x4::x5::x6::l).set 6 y=x0::x1::x2::x3::x4::x5::y::l:=rfl
@[simp] theorem lk7 {α:Type} (x0 x1 x2 x3 x4 x5 x6 x7:α) (l:List α):(x0::x1::x2::x3::x4::x5::x6::x7::l)[7]?=some x7:=rfl
@[simp] theorem st7 {α:Type} (x0 x1 x2 x3 x4 x5 x6 x7 y:α) (l:List α):(x0::x1::x2::x3::x4::x5::x6::x7::l).set 7 y=x0::x1::x2::x3::x4::x5::x6::y::l:=rfl
@[simp] theorem lk8 {α:Type} (x0 x1 x2 x3 x4 x5 x6 x7 x8:α) (l:List α):(x0::x1::x2::x3::x4::x5::x6::x7::x8::l)[8]?=some x8:=rfl
@[simp] theorem st8 {α:Type} (x0 x1 x2 x3 x4 x5 x6 x7 x8 y:α) (l:List α):(x0::x1::x2::x3::x4::x5::x6::x7::x8::l).set 8 y=x0::x1::x2::x3::x4::x5::x6::x7::y::l:=rfl
@[simp] theorem lk9 {α:Type} (x0 x1 x2 x3 x4 x5 x6 x7 x8 x9:α) (l:List α):(x0::x1::x2::x3::x4::x5::x6::x7::x8::x9::l)[9]?=some x9:=rfl
@[simp] theorem st9 {α:Type} (x0 x1 x2 x3 x4 x5 x6 x7 x8 x9 y:α) (l:List α):(x0::x1::x2::x3::x4::x5::x6::x7::x8::x9::l).set 9 y=x0::x1::x2::x3::x4::x5::x6::x7::x8::y::l:=rfl
@[simp] theorem qM6 {α:Type} (x0 x1 x2 x3 x4 x5 x6 x7 x8 x9 x10:α) (l:List α):(x0::x1::x2::x3::x4::x5::x6::x7::x8::x9::x10::l)[10]?=some x10:=rfl
@[simp] theorem qMq {α:Type} (x0 x1 x2 x3 x4 x5 x6 x7 x8 x9 x10 y:α) (l:List α):(x0::x1::x2::x3::x4::x5::x6::x7::x8::x9::x10::l).set 10 y=x0::x1::x2::x3::x4::x5::x6::x7::x8::x9::y::l:=rfl
@[simp] theorem qMy {α:Type} (x0 x1 x2 x3 x4 x5 x6 x7 x8 x9 x10 x11:α) (l:List α):(x0::x1::x2::x3::x4::x5::x6::x7::x8::x9::x10::x11::l)[11]?=some x11:=rfl
@[simp] theorem qMz {α:Type} (x0 x1 x2 x3 x4 x5 x6 x7 x8 x9 x10 x11 y:α) (l:List α):(x0::x1::x2::x3::x4::x5::x6::x7::x8::x9::x10::x11::l).set 11 y=x0::x1::x2::x3::x4::x5::x6::x7::x8::x9::x10::y::l:=rfl
@[simp] theorem qMo {α:Type} (x0 x1 x2 x3 x4 x5 x6 x7 x8 x9 x10 x11 x12:α) (l:List α):(x0::x1::x2::x3::x4::x5::x6::x7::x8::x9::x10::x11::x12::l)[12]?=some x12:=rfl
@[simp] theorem qMt {α:Type} (x0 x1 x2 x3 x4 x5 x6 x7 x8 x9 x10 x11 x12 y:α) (l:List α):(x0::x1::x2::x3::x4::x5::x6::x7::x8::x9::x10::x11::x12::l).set 12 y=x0::x1::x2::x3::x4::x5::x6::x7::x8::x9::x10::x11::y::l:=rfl
@[simp] theorem qNA {α:Type} (x0 x1 x2 x3 x4 x5 x6 x7 x8 x9 x10 x11 x12 x13:α) (l:List α):(x0::x1::x2::x3::x4::x5::x6::x7::x8::x9::x10::x11::x12::x13::l)[13]?=some x13:=rfl
@[simp] theorem qMw {α:Type} (x0 x1 x2 x3 x4 x5 x6 x7 x8 x9 x10 x11 x12 x13 y:α) (l:List α):(x0::x1::x2::x3::x4::x5::x6::x7::x8::x9::x10::x11::x12::x13::l).set 13 y=x0::x1::x2::x3::x4::x5::x6::x7::x8::x9::x10::x11::x12::y::l:=rfl
@[simp] theorem qM1 {α:Type} (x0 x1 x2 x3 x4 x5 x6 x7 x8 x9 x10 x11 x12 x13 x14:α) (l:List α):(x0::x1::x2::x3::x4::x5::x6::x7::x8::x9::x10::x11::x12::x13::x14::l)[14]?=some x14:=rfl
@[simp] theorem qMp {α:Type} (x0 x1 x2 x3 x4 x5 x6 x7 x8 x9 x10 x11 x12 x13 x14 y:α) (l:List α):(x0::x1::x2::x3::x4::x5::x6::x7::x8::x9::x10::x11::x12::x13::x14::l).set 14 y=x0::x1::x2::x3::x4::x5::x6::x7::x8::x9::x10::x11::x12::x13::y::l:=rfl
@[simp] theorem qM8 {α:Type} (x0 x1 x2 x3 x4 x5 x6 x7 x8 x9 x10 x11 x12 x13 x14 x15:α) (l:List α):(x0::x1::x2::x3::x4::x5::x6::x7::x8::x9::x10::x11::x12::x13::x14::x15::l)[15]?=some x15:=rfl
@[simp] theorem qMr {α:Type} (x0 x1 x2 x3 x4 x5 x6 x7 x8 x9 x10 x11 x12 x13 x14 x15 y:α) (l:List α):(x0::x1::x2::x3::x4::x5::x6::x7::x8::x9::x10::x11::x12::x13::x14::x15::l).set 15 y=x0::x1::x2::x3::x4::x5::x6::x7::x8::x9::x10::x11::x12::x13::x14::y::l:=rfl
theorem qA3 {gl:List T} {tb:List Fn} {Cs:List (List Nat)} {k f:Nat} {vs:List T} {M:Mem} {np ns:Nat} {b:Ss} (ht:tb[f]?=some ⟨np,ns,b⟩) (hl:vs.length=np/\np<=ns) (hk:1<=k):
  Pk gl tb Cs k f vs M=qGV M.length (pxs gl (Pk gl tb Cs (k - 1)) (Cs.getD f []) b (vs.map some++List.replicate (ns - np) none) M):=by
 obtain ⟨k,rfl⟩:∃ j,k=j + 1:=⟨k - 1,by omega⟩
 rw [Pk,ht]
 dsimp only
 rw [if_pos hl]
 rfl
theorem qAd {M M1:Mem} {t:TB} (h:M1.length=M.length):qGV M.length (.ok (.rt t,M1))=.ok (t,M1):=by
 show qB8 M.length t M1=_
 unfold qB8
 rw [if_pos h]
noncomputable def N (n:Nat):T:=.v (.int (n:Int))
noncomputable def NL (L:List Nat):T:=.lst (L.map N)
theorem qIR (n:Nat):qAe 0 n=(List.range n).map N:=by
 unfold qAe N
 simp
theorem qI1 (L:List Nat):T.lfs (L.map N)=true:=by
 induction L with
 | nil=>rfl
 | cons x L ih=>rw [List.map_cons,qGz,ih];rfl
theorem qMh (n:Nat):(N n).lf=true:=by unfold N;rfl
theorem qEN {M:Mem} {d:Nat}:∀ (L K:List Nat),L.length=K.length -> qAz (eqT M d) (L.map N) (K.map N)=some (List.zipWith (fun (a b:Nat)=>decide (a=b)) L K)
 | [],[],_=>rfl
 | [],_::_,h=>by simp at h
 | _::_,[],h=>by simp at h
 | a::L,b::K,h=>by
  have e:eqT M d (N a) (N b)=some (decide (a=b)):=by
   have:eqF (.int (a:Int)) (.int (b:Int))=some (decide (a=b)):=by
    show some ((a:Int)==(b:Int))=_
    congr 1
    rw [Bool.eq_iff_iff,beq_iff_eq,decide_eq_true_eq]
    omega
   cases d<;>(unfold eqT;exact this)
  rw [List.map_cons,List.map_cons,qAz,e,qEN L K (by simpa using h)]
  rfl
theorem qGC:∀ (L K:List Nat),L.length=K.length -> ((List.zipWith (fun (a b:Nat)=>decide (a=b)) L K).all id=decide (L=K))
 | [],[],_=>rfl
 | [],_::_,h=>by simp at h
 | _::_,[],h=>by simp at h
 | a::L,b::K,h=>by
  rw [List.zipWith_cons_cons,List.all_cons,qGC L K (by simpa using h)]
  by_cases h1:a=b<;>by_cases h2:L=K<;>simp [h1,h2]
theorem qFg {M:Mem} {d:Nat} (L K:List Nat):eqT M (d + 1) (NL L) (NL K)=some (decide (L=K)):=by
 unfold eqT
 show (if (L.map N).length=(K.map N).length then (qAz (eqT M d) (L.map N) (K.map N)).map (fun bs=>bs.all id) else some false)=_
 rw [List.length_map,List.length_map]
 by_cases h:L.length=K.length
 ·rw [if_pos h,qEN L K h,Option.map_some,qGC L K h]
 ·rw [if_neg h]
  congr 1
  symm
  exact decide_eq_false (fun e=>h (by rw [e]))
open L2 (V)
@[simp] theorem qJu {d:qCZ} {g:Tg} {b:TS -> Mem -> RSt} {σ:TS} {M:Mem}:qBV d g b [] σ M=.ok (.nx σ,M):=rfl
@[simp] theorem qE5 {i:Nat} {b:TS -> Mem -> RSt} {x:T} {r:List T} {σ:TS} {M:Mem}:qBV [] (.name i) b (x::r) σ M=(b (σ.set i (some x)) M).bind fun p=>match p.1 with
   | .nx σ2=>qBV [] (.name i) b r σ2 p.2
   | .ct σ2=>qBV [] (.name i) b r σ2 p.2
   | .bk σ2=>.ok (.nx σ2,p.2)
   | .rt t=>.ok (.rt t,p.2):=rfl
theorem qFl {c:TS -> Mem -> PR (Bool×Mem)} {e:TS -> Mem -> PR (TB×Mem)} {M:Mem} {σ:TS} (p:Nat -> Bool) (f:Nat -> T) (fr:Nat -> Bool):∀ (its:List Nat) (ys:List T) (b:Bool) (o:Option T),ys.length + its.length<=lim ->
  (∀ x∈its,c (some (N x)::σ) M=.ok (p x,M)) -> (∀ x∈its,p x=true -> e (some (N x)::σ) M=.ok ((f x,fr x),M)) ->
  qAo [] (.name 0) c e (its.map N) ys b (o::σ) M=.ok ((.lst (ys++(its.filter p).map f),b&&(its.filter p).all fr),M)
 | [],ys,b,o,hl,hc,he=>by simp [qAo]
 | x::r,ys,b,o,hl,hc,he=>by
  rw [List.map_cons]
  unfold qAo
  rw [show qA8 (.name 0) (N x) (o::σ)=some (some (N x)::σ) from rfl]
  dsimp only
  rw [hc x (List.mem_cons_self ..)]
  rw [PR.bind_ok]
  dsimp only
  cases hp:p x with
  | true=>
   rw [if_pos rfl,he x (List.mem_cons_self ..) hp,PR.bind_ok]
   dsimp only
   rw [if_pos ⟨by simp at hl;omega,rfl⟩]
   rw [qFl p f fr r (ys++[f x]) (b&&fr x) (some (N x)) (by simp at hl ⊢;omega) (fun y hy=>hc y (List.mem_cons_of_mem _ hy)) (fun y hy=>he y (List.mem_cons_of_mem _ hy))]
   rw [List.filter_cons_of_pos hp]
   simp [Bool.and_assoc]
  | false=>
   rw [if_neg (by decide),if_pos (show qAb [] M=true from rfl)]
   rw [qFl p f fr r ys b (some (N x)) (by simp at hl ⊢;omega) (fun y hy=>hc y (List.mem_cons_of_mem _ hy)) (fun y hy=>he y (List.mem_cons_of_mem _ hy))]
   rw [List.filter_cons_of_neg (by rw [hp];decide)]
theorem qH7 {c:TS -> Mem -> PR (Bool×Mem)} {e:TS -> Mem -> PR (TB×Mem)} {M:Mem} {σ:TS} {o:Option T} {its:List Nat} (p:Nat -> Bool) (g:Nat -> Nat) (hl:its.length<=lim)
  (hc:∀ x∈its,c (some (N x)::σ) M=.ok (p x,M)) (he:∀ x∈its,p x=true -> e (some (N x)::σ) M=.ok ((N (g x),true),M)):
  qAo [] (.name 0) c e (its.map N) [] true (o::σ) M=.ok ((NL ((its.filter p).map g),true),M):=by
 rw [qFl p (fun x=>N (g x)) (fun _=>true) its [] true o (by simpa using hl) hc he]
 unfold NL
 simp
@[simp] theorem qLO {M:Mem} (a b:Nat):qA4 M .add (N a) (N b)=some (N (a + b),true):=by unfold N;simp [iT]
open L2 (V)
noncomputable def nE (n:Nat):E:=.cst (.int (n:Int))
@[simp] theorem qL5 {gl:List T} {P:Nat -> List T -> Mem -> PR (TB×Mem)} {σ:TS} {M:Mem} (n:Nat):pe gl P (nE n) σ M=.ok ((N n,true),M):=by unfold nE;rw [pe_int];rfl
section
variable {M:Mem} (a b:Nat) (xs:List T)
@[simp] theorem lfN:(N a).lf=true:=qMh a
@[simp] theorem qMk:(N a).isV=some (.int (a:Int)):=rfl
@[simp] theorem qM2:qAc M (N a)=some "int":=rfl
@[simp] theorem qMI (L:List Nat):qAc M (NL L)=some "list":=rfl
theorem qCs {a b:Nat} (h:a < 18446744073709551616\/b < 18446744073709551616):qA4 M .mul (N a) (N b)=some (N (a * b),true):=by
 unfold N;rw [qIn (by omega)];unfold iT;simp
theorem qFt {a b:Nat} (h:0 < b/\b < 1073741824):qA4 M .fdiv (N a) (N b)=some (N (a / b),true):=by
 unfold N;rw [qIC (by omega)];unfold iT;simp
theorem qCe {a b:Nat} (h:0 < b):qA4 M .mod (N a) (N b)=some (N (a % b),true):=by
 unfold N;rw [qJF (by omega)];unfold iT;simp
theorem qG8 {a b:Nat} (h:b<=1000/\a < 1000000):qA4 M .pow (N a) (N b)=some (N (a ^ b),true):=by
 unfold N;rw [qJo (by omega)];unfold iT;simp
@[simp] theorem qJp:qA5 M .lt (N a) (N b)=some (decide (a < b)):=by unfold N;rw [qKG];simp
@[simp] theorem qK4:qA5 M .gt (N a) (N b)=some (decide (b < a)):=by unfold N;rw [qKy];simp
@[simp] theorem qMK:qA5 M .ge (N a) (N b)=some (decide (b<=a)):=by unfold N;rw [qKK];simp
@[simp] theorem qFD:qA5 M .eq (N a) (N b)=some (decide (a=b)):=by unfold N;rw [qKM];congr 1;rw [Bool.eq_iff_iff,decide_eq_true_eq,decide_eq_true_eq];omega
@[simp] theorem qIm:qA5 M .ne (N a) (N b)=some (!decide (a=b)):=by
 show ((eqT M 4 (N a) (N b)).map (!·))=_
 rw [show eqT M 4 (N a) (N b)=some (decide (a=b)) from qFD (M:=M) a b];rfl
@[simp] theorem qDj:qFA M (.lst xs) (N a)=(xs[a]?).map fun t=>(t,t.lf):=by
 show ((L2.ixN xs.length (a:Int)).bind fun j=>(xs[j]?).map fun t=>(t,t.lf))=_
 unfold L2.ixN
 rw [if_pos (by omega)]
 split
 ·simp
 ·rw [List.getElem?_eq_none (by omega)];rfl
@[simp] theorem qLV:qBy M .len [.lst xs]=some (N xs.length,true):=rfl
@[simp] theorem qLI:qBy M .len [.tup xs]=some (N xs.length,true):=rfl
@[simp] theorem qLH:qBy M .len [.fz xs]=some (N xs.length,true):=rfl
@[simp] theorem qLv:qBy M .max [N a,N b]=some (N (max a b),true):=by
 unfold N;rw [qG9];unfold iT
 congr 4
 split<;>omega
@[simp] theorem qLm:qBy M .min [N a,N b]=some (N (min a b),true):=by
 unfold N;rw [qJK];unfold iT
 congr 4
 split<;>omega
@[simp] theorem qMn:qBy M .int [N a]=some (N a,true):=rfl
@[simp] theorem qLq (t:Bool):qBy M .int [.v (.bl t)]=some (N t.toNat,true):=by cases t<;>rfl
@[simp] theorem qLz:qBy M .bits [N a]=some (N (PySem.Builtin.Int.intBits (a:Int)),true):=rfl
end
theorem qGJ {n:Nat} (hn:n<=1000000):qJv (N n)=some ((List.range n).map N):=by
 show (if -1000000<=(n:Int)/\(n:Int)<=1000000 then some (qAe 0 (n:Int).toNat) else none)=_
 rw [if_pos (by omega),Int.toNat_natCast,qIR]
theorem qKb {M:Mem} {n:Nat} {xs:List T} {x:T} (h:M[n]?=some xs) (hl:xs.length < lim):qJ9 M n x=some (M.set n (xs++[x])):=by
 unfold qJ9
 rw [h]
 show (if xs.length < lim then _ else _)=_
 rw [if_pos hl]
@[simp] theorem qJA (n a:Nat):thaw n (N a)=(N a,[]):=by unfold N;simp [thaw]
@[simp] theorem qLx {M:Mem} (L:List Nat):qEO M (NL L)=some (L.map N,[]):=rfl
@[simp] theorem qLh {M:Mem} (x f:Bool):pB (PR.ok ((T.v (V.bl x),f),M))=.ok (x,M):=Eq.trans rfl rfl
open L2 (V)
open L2 (V)
@[simp] theorem qL8 {M:Mem} {n j:Nat} {x:T}:qKf M (.cell n) (N j) x=(M[n]?).bind fun xs=>if j < xs.length then some (M.set n (xs.set j x)) else none:=by
 show ((M[n]?).bind fun xs=>(L2.ixN xs.length (j:Int)).map fun j=>M.set n (xs.set j x))=_
 congr 1
 funext xs
 unfold L2.ixN
 rw [if_pos (by omega)]
 by_cases h:j < xs.length
 ·rw [if_pos (by omega),if_pos h];simp
 ·rw [if_neg (by omega),if_neg h];rfl
@[simp] theorem qL1 {M:Mem} {n a:Nat}:qFA M (.cell n) (N a)=(M[n]?).bind fun xs=>(xs[a]?).map fun t=>(t,t.lf):=by
 show ((M[n]?).bind fun xs=>(L2.ixN xs.length (a:Int)).bind fun j=>(xs[j]?).map fun t=>(t,t.lf))=_
 congr 1
 funext xs
 exact qDj (M:=M) a xs
open L2 (V)
@[simp] theorem qLS (a:Nat):qKB (N a)=some (iT (-(a:Int))):=rfl
@[simp] theorem qLd (a:Int):qKB (.v (.int a))=some (iT (-a)):=rfl
@[simp] theorem qMa (a:Nat):qAs [N a]=some [(a:Int)]:=rfl
@[simp] theorem qMf:qAs []=some []:=rfl
@[simp] theorem qL9 {M:Mem} (xs:List T):T.its M (.lst xs)=some xs:=rfl
@[simp] theorem qMP {M:Mem} (xs:List T):T.its M (.fz xs)=some xs:=rfl
@[simp] theorem qMV {M:Mem} (xs:List T):T.its M (.tup xs)=some xs:=rfl
@[simp] theorem qMc {M:Mem} (L:List Nat):T.its M (NL L)=some (L.map N):=rfl
@[simp] theorem qLE (ys xs:List T) (lo hi:Option Int):qHt (.lst ys) xs lo hi=some (lT (qD6 xs lo hi)):=rfl
@[simp] theorem qLR (ys xs:List T) (lo hi:Option Int):qHt (.fz ys) xs lo hi=some (lT (qD6 xs lo hi)):=rfl
@[simp] theorem qLs (L:List Nat) (xs:List T) (lo hi:Option Int):qHt (NL L) xs lo hi=some (lT (qD6 xs lo hi)):=rfl
@[simp] theorem qLl (n:Nat) (xs:List T) (lo hi:Option Int):qHt (.cell n) xs lo hi=some (lT (qD6 xs lo hi)):=rfl
@[simp] theorem qKw {M:Mem} (xs:List T):T.lis M (.lst xs)=some xs:=rfl
@[simp] theorem qMZ {M:Mem} (xs:List T):T.lis M (.fz xs)=some xs:=rfl
@[simp] theorem qML {M:Mem} (L:List Nat):T.lis M (NL L)=some (L.map N):=rfl
theorem qIE (xs:List T) (k:Nat):qD6 xs (some (k:Int)) (some ((k + 1:Nat):Int))=(xs.drop k).take 1:=by
 unfold qD6
 rw [HT.sIx_nat,HT.sIx_nat]
 by_cases h:k < xs.length
 ·rw [Nat.min_eq_left (by omega),Nat.min_eq_left (by omega),show k + 1 - k=1 by omega]
 ·rw [Nat.min_eq_right (by omega),Nat.min_eq_right (by omega),List.drop_eq_nil_of_le (Nat.le_refl _),List.drop_eq_nil_of_le (by omega)]
  simp
open L2 (V)
@[simp] theorem qJz (i j:Nat) (a b:T) (σ:TS):qA8 (.tup [i,j]) (.tup [a,b]) σ=some ((σ.set i (some a)).set j (some b)):=rfl
@[simp] theorem qIU (σ:TS):qB9 [] σ=[]:=rfl
@[simp] theorem qIK (r:List (Option Nat)) (σ:TS):qB9 (none::r) σ=none::qB9 r σ:=rfl
@[simp] theorem qHd (j:Nat) (r:List (Option Nat)) (σ:TS):qB9 (some j::r) σ=(σ[j]?).join::qB9 r σ:=rfl
open L2 (V)
theorem qGG (x:V) (f:Bool) (M1:Mem):∃ b M2,qGV ([]:Mem).length (.ok (.rt (.v x,f),M1))=.ok ((.v x,b),M2):=by
 show ∃ b M2,qB8 0 (.v x,f) M1=_
 unfold qB8
 by_cases h:M1.length=0
 ·rw [if_pos h];exact ⟨f,M1,rfl⟩
 ·rw [if_neg h,if_pos (by simp)]
  rw [show qAg M1 0 6 (T.v x)=some (.v x) by unfold qAg;rw [if_pos (by unfold T.und;rfl)]]
  exact ⟨_,_,rfl⟩
open L2 (V)
mutual
theorem qGw:∀ t:T,T.beq t t=true
 | .v x=>by unfold T.beq;simp
 | .cell x=>by unfold T.beq;simp
 | .ob x=>by unfold T.beq;simp
 | .fz xs=>by unfold T.beq;exact qBM xs
 | .lst xs=>by unfold T.beq;exact qBM xs
 | .tup xs=>by unfold T.beq;exact qBM xs
theorem qBM:∀ ts:List T,T.beqs ts ts=true
 | []=>rfl
 | t::ts=>by unfold T.beqs;rw [qGw t,qBM ts];rfl
end
mutual
theorem qGS {a b:Nat} (h:a<=b):∀ t:T,t.und a=true -> t.und b=true
 | .v x,_=>rfl
 | .cell k,e=>by unfold T.und at e ⊢;simp at e ⊢;omega
 | .ob x,_=>rfl
 | .fz xs,e=>by unfold T.und at e ⊢;exact qA2 h xs e
 | .lst xs,e=>by unfold T.und at e ⊢;exact qA2 h xs e
 | .tup xs,e=>by unfold T.und at e ⊢;exact qA2 h xs e
theorem qA2 {a b:Nat} (h:a<=b):∀ ts:List T,T.unds a ts=true -> T.unds b ts=true
 | [],_=>rfl
 | t::ts,e=>by unfold T.unds at e ⊢;rw [Bool.and_eq_true] at e;rw [qGS h t e.1,qA2 h ts e.2];rfl
end
noncomputable def FlatM (M:Mem):Prop:=∀ c∈M,T.unds 0 c=true
theorem FlatM.all {M:Mem} (h:FlatM M) (n:Nat):M.all (T.unds n)=true:=by
 rw [List.all_eq_true]
 exact fun c hc=>qA2 (Nat.zero_le _) c (h c hc)
theorem FlatM.app {A B:Mem} (h:FlatM A) (k:FlatM B):FlatM (A++B):=fun c hc=>by
 rcases List.mem_append.mp hc with z | z
 ·exact h c z
 ·exact k c z
open L2 (V)
theorem qFN (n:Nat):∀ L:List Nat,qCW n (L.map N)=(L.map N,[])
 | []=>by simp [qCW]
 | x::L=>by
  rw [List.map_cons,qCW,qJA]
  dsimp only
  rw [List.length_nil,Nat.add_zero,qFN n L]
  rfl
@[simp] theorem qH9 (n:Nat) (L:List Nat):thaw n (NL L)=(.cell n,[L.map N]):=by
 unfold NL
 rw [thaw,qFN]
 rfl
theorem qFz {M:Mem} {n:Nat} {ts:List T} (h:M[n]?=some ts):qAb [(n,ts)] M=true:=by
 unfold qAb
 simp [h,qBM]
theorem qDg {M:Mem} {n:Nat} {ts:List T} (h:M[n]?=some ts):qEO M (.cell n)=some (ts,[(n,ts)]):=by
 unfold qEO;dsimp only;rw [h];rfl
theorem qLM {M:Mem} {n:Nat} {ts:List T} (h:M[n]?=some ts):qAc M (.cell n)=some "list":=by
 unfold qAc;dsimp only;rw [h];rfl
open L2 (V)
structure IsL (M:Mem) (t:T) (L:List Nat):Prop where
 its:t.its M=some (L.map N)
 lis:t.lis M=some (L.map N)
 ty:qAc M t=some "list"
 src:∃ d,qEO M t=some (L.map N,d)/\qCG M t=some (L.map N,d)/\qAb d M=true
 nv:t.isV=none
theorem IsL.nl (M:Mem) (L:List Nat):IsL M (NL L) L:=⟨rfl,rfl,rfl,⟨[],rfl,rfl,rfl⟩,rfl⟩
theorem IsL.cell {M:Mem} {n:Nat} {L:List Nat} (h:M[n]?=some (L.map N)):IsL M (.cell n) L:=⟨h,h,qLM h,⟨_,qDg h,qDg h,qFz h⟩,rfl⟩
section
variable {M:Mem} {t u:T} {L K:List Nat}
theorem IsL.len (h:IsL M t L):qBy M .len [t]=some (N L.length,true):=by
 show (t.its M).map _=_
 rw [h.its,Option.map_some,List.length_map];rfl
theorem IsL.list (h:IsL M t L):qBy M .list [t]=some (NL L,true):=by
 show (t.its M).map lT=_
 rw [h.its,Option.map_some]
 show some (T.lst (L.map N),T.lfs (L.map N))=_
 rw [qI1];rfl
theorem qHP:∀ L:List Nat,qBd (L.map N)=some (L.map fun (n:Nat)=>(n:Int))
 | []=>rfl
 | x::L=>by
  show (qBd (L.map N)).map _=_
  rw [qHP L];rfl
theorem qEP:∀ L:List Nat,(L.map fun (n:Nat)=>(n:Int)).sum=((L.sum:Nat):Int)
 | []=>rfl
 | x::L=>by rw [List.map_cons,List.sum_cons,qEP L,List.sum_cons];simp
theorem IsL.sum (h:IsL M t L):qBy M .sum [t]=some (N L.sum,true):=by
 show (t.lis M).bind _=_
 rw [h.lis,Option.bind_some,qHP,Option.map_some,qEP];rfl
theorem IsL.idx (h:IsL M t L) {i:Nat} {x:Nat} (e:L[i]?=some x):qFA M t (N i)=some (N x,true):=by
 show ((t.its M).bind fun xs=>(L2.ixN xs.length (i:Int)).bind fun j=>(xs[j]?).map fun t=>(t,t.lf))=_
 rw [h.its,Option.bind_some]
 have:=qDj (M:=M) i (L.map N)
 rw [show qFA M (.lst (L.map N)) (N i)=((L2.ixN (L.map N).length (i:Int)).bind fun j=>((L.map N)[j]?).map fun t=>(t,t.lf)) from rfl] at this
 rw [this,List.getElem?_map,e]
 simp
theorem IsL.eq (h:IsL M t L) (k:IsL M u K):eqT M 4 t u=some (decide (L=K)):=by
 have:=qFg (M:=M) (d:=3) L K
 unfold eqT at this ⊢
 rw [h.nv,k.nv,h.lis,k.lis]
 exact this
theorem IsL.cne (h:IsL M t L) (k:IsL M u K):qA5 M .ne t u=some (!decide (L=K)):=by
 show (eqT M 4 t u).map (!·)=_
 rw [h.eq k];rfl
end
theorem qC8 {gl:List T} {P:Nat -> List T -> Mem -> PR (TB×Mem)} {e:TS -> Mem -> PR (TB×Mem)} {σ:TS} {I:Mem -> Prop} {R:Nat -> Prop}:∀ (its ys:List Nat) (b:Bool) (o:Option T) (M:Mem),ys.length + its.length<=lim -> I M ->
  (∀ x∈its,∀ M,I M -> ∃ y M',e (some (N x)::σ) M=.ok ((N y,true),M')/\I M'/\R y) ->
  ∃ K M',qAo [] (.name 0) (pec gl P .nil) e (its.map N) (ys.map N) b (o::σ) M=.ok ((NL (ys++K),b),M')/\I M'/\K.length=its.length/\∀ y∈K,R y
 | [],ys,b,o,M,hl,hI,he=>⟨[],M,by simp [qAo,NL],hI,rfl,fun y hy=>by simp at hy⟩
 | x::r,ys,b,o,M,hl,hI,he=>by
  obtain ⟨y,M1,e1,i1,r1⟩:=he x (List.mem_cons_self ..) M hI
  rw [List.map_cons]
  unfold qAo
  rw [show qA8 (.name 0) (N x) (o::σ)=some (some (N x)::σ) from rfl]
  dsimp only
  rw [qCY,PR.bind_ok]
  dsimp only
  rw [if_pos rfl,e1,PR.bind_ok]
  dsimp only
  rw [if_pos ⟨by simp at hl ⊢;omega,rfl⟩]
  obtain ⟨K,M2,e2,i2,l2,r2⟩:=qC8 (gl:=gl) (P:=P) (I:=I) (R:=R) r (ys++[y]) b (some (N x)) M1 (by simp at hl ⊢;omega) i1 (fun y hy=>he y (List.mem_cons_of_mem _ hy))
  refine ⟨y::K,M2,?_,i2,by simp [l2],fun z hz=>?_⟩
  ·rw [show ys.map N++[N y]=(ys++[y]).map N by simp,Bool.and_true,e2]
   simp
  ·rcases List.mem_cons.mp hz with h1 | h1
   ·rw [h1];exact r1
   ·exact r2 z h1
theorem qET {gl:List T} {P:Nat -> List T -> Mem -> PR (TB×Mem)} {d:qCZ} {e:TS -> Mem -> PR (TB×Mem)} {M:Mem} (f:Nat -> Nat -> Nat) (hd:qAb d M=true):∀ (A B ys:List Nat) (b:Bool) (o1 o2:Option T),ys.length + A.length<=lim ->
  (∀ x y,x∈A -> y∈B -> e [some (N x),some (N y)] M=.ok ((N (f x y),true),M)) ->
  qAo d (.tup [0,1]) (pec gl P .nil) e (List.zipWith (fun a b=>T.tup [a,b]) (A.map N) (B.map N)) (ys.map N) b [o1,o2] M=.ok ((NL (ys++List.zipWith f A B),b),M)
 | [],B,ys,b,o1,o2,hl,he=>by simp [qAo,NL]
 | x::A,[],ys,b,o1,o2,hl,he=>by simp [qAo,NL]
 | x::A,y::B,ys,b,o1,o2,hl,he=>by
  rw [List.map_cons,List.map_cons,List.zipWith_cons_cons]
  unfold qAo
  rw [show qA8 (.tup [0,1]) (.tup [N x,N y]) [o1,o2]=some [some (N x),some (N y)] from rfl]
  dsimp only
  rw [qCY,PR.bind_ok]
  dsimp only
  rw [if_pos rfl,he x y (List.mem_cons_self ..) (List.mem_cons_self ..),PR.bind_ok]
  dsimp only
  rw [if_pos ⟨by simp at hl ⊢;omega,hd⟩]
  rw [show ys.map N++[N (f x y)]=(ys++[f x y]).map N by simp,Bool.and_true]
  rw [qET f hd A B (ys++[f x y]) b _ _ (by simp at hl ⊢;omega) (fun u v hu hv=>he u v (List.mem_cons_of_mem _ hu) (List.mem_cons_of_mem _ hv))]
  simp
open L2 (V)
open L2 (V)
theorem qMD (K:List Nat):lT (K.map N)=(NL K,true):=by unfold lT;rw [qI1];rfl
theorem getD_some {L:List Nat} {i:Nat} (h:i < L.length):L[i]?=some (L.getD i 0):=by
 rw [List.getD_eq_getElem?_getD,List.getElem?_eq_getElem h];rfl
end PI
namespace PI
open L2 (V)
noncomputable def IsS (M:Mem) (t:T) (ts:List T):Prop:=t=.lst ts\/∃ m,t=.cell m/\M[m]?=some ts
section
variable {M C:Mem} {t:T} {ts:List T}
theorem IsS.app (h:IsS M t ts):IsS (M++C) t ts:=by
 rcases h with h | ⟨m,h,e⟩
 ·exact .inl h
 ·exact .inr ⟨m,h,by rw [List.getElem?_append_left (List.getElem?_eq_some_iff.mp e).1];exact e⟩
theorem IsS.its (h:IsS M t ts):t.its M=some ts:=by rcases h with rfl | ⟨m,rfl,e⟩;rfl;exact e
theorem IsS.lis (h:IsS M t ts):t.lis M=some ts:=by rcases h with rfl | ⟨m,rfl,e⟩;rfl;exact e
theorem IsS.ty (h:IsS M t ts):qAc M t=some "list":=by rcases h with rfl | ⟨m,rfl,e⟩;rfl;exact qLM e
theorem IsS.nv (h:IsS M t ts):t.isV=none:=by rcases h with rfl | ⟨m,rfl,e⟩<;>rfl
theorem IsS.lf (h:IsS M t ts):t.lf=false:=by rcases h with rfl | ⟨m,rfl,e⟩<;>simp
theorem IsS.src (h:IsS M t ts):∃ d,qEO M t=some (ts,d)/\qCG M t=some (ts,d)/\∀ C,qAb d (M++C)=true:=by
 rcases h with rfl | ⟨m,rfl,e⟩
 ·exact ⟨[],rfl,rfl,fun _=>rfl⟩
 ·exact ⟨_,qDg e,qDg e,fun C=>qFz (by rw [List.getElem?_append_left (List.getElem?_eq_some_iff.mp e).1];exact e)⟩
theorem IsS.len (h:IsS M t ts):qBy M .len [t]=some (N ts.length,true):=by
 show (t.its M).map _=_
 rw [h.its,Option.map_some];rfl
theorem IsS.idx (h:IsS M t ts) (i:Nat):qFA M t (N i)=(ts[i]?).map fun t=>(t,t.lf):=by
 have a:qFA M t (N i)=qFA M (.lst ts) (N i):=by
  show (t.its M).bind _=_
  rw [h.its];rfl
 rw [a,qDj]
theorem IsS.list (h:IsS M t ts):qBy M .list [t]=some (lT ts):=by
 show (t.its M).map lT=_
 rw [h.its];rfl
theorem IsS.eqT {u:T} {us:List T} {d:Nat} {bs:List Bool} (h:IsS M t ts) (k:IsS M u us) (hl:ts.length=us.length) (e:qAz (eqT M d) ts us=some bs):PI.eqT M (d + 1) t u=some (bs.all id):=by
 unfold PI.eqT
 rw [h.nv,k.nv,h.lis,k.lis]
 dsimp only
 rw [if_pos hl,e];rfl
end
noncomputable def WfM (M:Mem):Prop:=M.all (T.unds M.length)=true
theorem WfM.app {M C:Mem} (h:WfM M) (hC:∀ c∈C,T.unds (M++C).length c=true):WfM (M++C):=by
 unfold WfM at *
 rw [List.all_eq_true] at h ⊢
 intro c hc
 rcases List.mem_append.mp hc with z | z
 ·exact qA2 (by simp) c (h c z)
 ·exact hC c z
theorem WfM.one {M:Mem} (h:WfM M) {ts:List T} (l:T.lfs ts=true):WfM (M++[ts]):=h.app fun c hc=>by rw [List.mem_singleton.mp hc];exact qDz _ _ l
end PI
namespace My
open PySem PySem.Spec PyProof.Rows L2 PI
noncomputable def top (i:Nat):Stmt:=PySem.Challenge.pw_healhalves_k01_signs_and_sums.main.body.getD i (.Pass ⟨0,0,0,0⟩)
noncomputable def Tb:Tbl:=⟨[⟨"is_whole",top 1,["thing"],["thing"]⟩,
 ⟨"is_number_below",top 2,["thing","end"],["thing","end"]⟩,
 ⟨"is_sign",top 4,["thing"],["thing"]⟩,
 ⟨"sum_of",top 5,["signs"],["signs"]⟩,
 ⟨"added",top 6,["one","other"],["one","other"]⟩,
 ⟨"_law_begun",top 8,["_law_script","_law_k"],["_law_script","_law_k","_law_cell","_law_number","_law_mixed"]⟩,
 ⟨"_law_take",top 9,["_law_state","_law_many"],["_law_state","_law_many","_law_digit","_law_made","_law_turn"]⟩,
 ⟨"_law_is",top 10,["_law_found","_law_due"],["_law_found","_law_due"]⟩,
 ⟨"law",top 11,["_law_script"],["_law_script","_law_odd","_law_k","_law_state","_law_one","_law_other","_law_handed","_law_found","_law_left","_law_right","_law_told","_law_at"]⟩],
 [],
 ["len","sum","max","min","list","int","range","zip","isinstance","bool"],[],[]⟩
noncomputable def gs:List O:=[]
end My
namespace My
open PySem PySem.Spec PI
open L2 (V)
noncomputable def b0:Ss:=(.cons (.ret (.and (.isi (.var 0) ["int"]) (.not (.isi (.var 0) ["bool"])))) .nil)
theorem t0:Tb.fns[0]?=some ⟨1,1,b0⟩:=by kernel_rfl
noncomputable def b1:Ss:=(.cons (.ret (.and (.call 0 (.cons (.var 0) .nil)) (.cmp2 .le .lt (nE 0) (.var 0) (.var 1)))) .nil)
theorem t1:Tb.fns[1]?=some ⟨2,2,b1⟩:=by kernel_rfl
noncomputable def b2:Ss:=(.cons (.ret (.call 1 (.cons (.var 0) (.cons (nE 2) .nil)))) .nil)
theorem t2:Tb.fns[2]?=some ⟨1,1,b2⟩:=by kernel_rfl
noncomputable def b3:Ss:=(.cons (.ret (.bin .mod (.blt .sum (.cons (.var 0) .nil)) (nE 2))) .nil)
theorem t3:Tb.fns[3]?=some ⟨1,1,b3⟩:=by kernel_rfl
noncomputable def b4:Ss:=(.cons (.ret (.comp (.zip (.var 0) (.var 1)) [none,none] (.tup [0,1]) .nil (.call 3 (.cons (.lst (.cons (.var 0) (.cons (.var 1) .nil))) .nil)))) .nil)
theorem t4:Tb.fns[4]?=some ⟨2,2,b4⟩:=by kernel_rfl
noncomputable def b5:Ss:=(.cons (.asg (.name 2) (.idx (.bin .add (.sl (.var 0) (.cons (.var 1) .nil) (.cons (.bin .add (.var 1) (nE 1)) .nil)) (.lst (.cons (nE 0) .nil))) (nE 0))) (.cons (.asg (.name 3) (.blt .max (.cons (.var 2) (.cons (.bin .sub (.neg (nE 1)) (.var 2)) .nil)))) (.cons (.asg (.name 4) (.bin .mod (.bin .add (.bin .add (.bin .add (.bin .mod (.var 3) (nE 2147483629)) (.bin .mul (nE 7919) (.var 1))) (.bin .mul (.bin .mul (nE 104729) (.var 1)) (.var 1))) (nE 11)) (nE 2147483629))) (.cons (.ret (.lst (.cons (.var 3) (.cons (.var 4) (.cons (.cmp .ge (.var 3) (.bin .pow (nE 10) (nE 18))) .nil))))) .nil))))
theorem t5:Tb.fns[5]?=some ⟨2,5,b5⟩:=by kernel_rfl
noncomputable def qLy:Ss:=(.cons (.put (.var 0) (nE 1) (.bin .mod (.bin .add (.bin .mul (.idx (.var 0) (nE 1)) (nE 48271)) (nE 11)) (nE 2147483647))) (.cons (.asg (.name 3) (.bin .add (.bin .mul (.var 3) (nE 2147483587)) (.bin .mod (.bin .mul (.idx (.var 0) (nE 1)) (.idx (.var 0) (nE 1))) (nE 2147483587)))) .nil))
noncomputable def b6:Ss:=(.cons (.ifs (.idx (.var 0) (nE 2)) (.cons (.asg (.name 2) (.bin .mod (.idx (.var 0) (nE 0)) (.var 1))) (.cons (.put (.var 0) (nE 0) (.bin .fdiv (.idx (.var 0) (nE 0)) (.var 1))) (.cons (.put (.var 0) (nE 2) (.cmp .gt (.idx (.var 0) (nE 0)) (nE 0))) (.cons (.ret (.var 2)) .nil)))) .nil) (.cons (.asg (.name 3) (nE 0)) (.cons (.for_ (.name 4) (.rng1 (.bin .add (nE 1) (.blt .int (.cons (.cmp .gt (.var 1) (.bin .pow (nE 10) (nE 6))) .nil)))) qLy) (.cons (.ret (.bin .mod (.bin .fdiv (.var 3) (nE 64)) (.var 1))) .nil))))
theorem t6:Tb.fns[6]?=some ⟨2,5,b6⟩:=by kernel_rfl
noncomputable def b7:Ss:=(.cons (.ret (.and (.isi (.var 0) ["int"]) (.and (.not (.isi (.var 0) ["bool"])) (.cmp .eq (.var 0) (.var 1))))) .nil)
theorem t7:Tb.fns[7]?=some ⟨2,2,b7⟩:=by kernel_rfl
noncomputable def qI5:Ss:=(.cons (.ifs (.not (.call 7 (.cons (.var 10) (.cons (.blt .int (.cons (.cmp .ne (.var 8) (.var 9)) .nil)) .nil)))) (.cons (.ret (.cst (V.bl false))) .nil) .nil) .nil)
noncomputable def qKD:Ss:=(.cons (.asg (.name 3) (.call 5 (.cons (.var 0) (.cons (.var 2) .nil)))) (.cons (.asg (.name 4) (.comp (.rng1 (.call 6 (.cons (.var 3) (.cons (nE 41) .nil)))) [none,some 3] (.name 0) .nil (.call 6 (.cons (.var 1) (.cons (nE 2) .nil))))) (.cons (.asg (.name 5) (.comp (.list (.var 4)) [none,some 3] (.name 0) .nil (.call 6 (.cons (.var 1) (.cons (nE 2) .nil))))) (.cons (.asg (.name 6) (.lst (.cons (.blt .list (.cons (.var 4) .nil)) (.cons (.blt .list (.cons (.var 5) .nil)) .nil)))) (.cons (.ifs (.not (.call 7 (.cons (.call 3 (.cons (.idx (.var 6) (nE 0)) .nil)) (.cons (.bin .mod (.blt .len (.cons (.comp (.list (.var 4)) [none] (.name 0) (.cons (.cmp .eq (.var 0) (nE 1)) .nil) (.var 0)) .nil)) (nE 2)) .nil)))) (.cons (.ret (.cst (V.bl false))) .nil) .nil) (.cons (.asg (.name 7) (.call 4 (.cons (.idx (.var 6) (nE 0)) (.cons (.idx (.var 6) (nE 1)) .nil)))) (.cons (.ifs (.or (.not (.isi (.var 7) ["list"])) (.or (.cmp .ne (.blt .len (.cons (.var 7) .nil)) (.blt .len (.cons (.var 4) .nil))) (.cmp .ne (.var 6) (.lst (.cons (.var 4) (.cons (.var 5) .nil)))))) (.cons (.ret (.cst (V.bl false))) .nil) .nil) (.cons (.for_ (.tup [8,9,10]) (.zip3 (.var 4) (.var 5) (.var 7)) qI5) (.cons (.expr (.app (.var 7) (nE 0))) (.cons (.ifs (.or (.cmp .ne (.call 4 (.cons (.idx (.var 6) (nE 0)) (.cons (.idx (.var 6) (nE 1)) .nil))) (.sl (.var 7) .nil (.cons (.neg (nE 1)) .nil))) (.cmp .ne (.call 4 (.cons (.idx (.var 6) (nE 0)) (.cons (.idx (.var 6) (nE 0)) .nil))) (.bin .mul (.lst (.cons (nE 0) .nil)) (.blt .len (.cons (.var 4) .nil))))) (.cons (.ret (.cst (V.bl false))) .nil) .nil) (.cons (.asg (.name 11) (.call 6 (.cons (.var 3) (.cons (nE 15) .nil)))) (.cons (.asg (.name 10) (.call 2 (.cons (.idx (.var 1) (.var 11)) .nil))) (.cons (.ifs (.or (.not (.isi (.var 10) ["bool"])) (.cmp .ne (.var 10) (.cmp .lt (.var 11) (nE 2)))) (.cons (.ret (.cst (V.bl false))) .nil) .nil) .nil)))))))))))))
noncomputable def b8:Ss:=(.cons (.asg (.name 1) (.lst (.cons (nE 0) (.cons (nE 1) (.cons (nE 2) (.cons (.neg (nE 1)) (.cons (.cst (V.bl true)) (.cons (.cst (V.bl false)) (.cons (.cst V.non) (.cons (.cst (V.str "0")) (.cons (.cst (V.str "1")) (.cons (.lst (.cons (nE 1) .nil)) (.cons (.tup (.cons (nE 0) .nil)) (.cons .dnew (.cons (.bin .pow (nE 10) (nE 30)) (.cons (.neg (nE 2)) (.cons (.cst (V.str "")) .nil))))))))))))))))) (.cons (.for_ (.name 2) (.rng1 (.blt .max (.cons (nE 1) (.cons (.blt .min (.cons (nE 63) (.cons (.blt .len (.cons (.var 0) .nil)) .nil))) .nil)))) qKD) (.cons (.ret (.cst (V.bl true))) .nil)))
theorem t8:Tb.fns[8]?=some ⟨1,12,b8⟩:=by kernel_rfl
noncomputable def Cs:List (List Nat):=List.replicate 8 []++[[3,7]]
noncomputable abbrev I (x:Int):T:=.v (.int x)
noncomputable def stT (a b:Nat) (c:Bool):List T:=[N a,N b,.v (.bl c)]
noncomputable def qIW (M:Mem) (n:Nat):Prop:=∃ a b c,M[n]?=some (stT a b c)/\b < 2147483647
theorem qKi {k:Nat} (hk:1<=k) {M:Mem} {n m a b:Nat} (hm:0 < m/\m<=1000000) (e:M[n]?=some [N a,N b,.v (.bl true)]) (e':∀ y,(M.set n y)[n]?=some y):
  Pk (glT gs) Tb.fns Cs k 6 [.cell n,N m] M=.ok ((N (a % m),true),M.set n [N (a / m),N b,.v (.bl (decide (0 < a / m)))]):=by
 rw [qA3 t6 ⟨rfl,by decide⟩ hk,b6,show Cs.getD 6 []=[] from rfl]
 simp (disch:=omega) [qCe,qFt,e,e']
 rw [qAd (by simp)]
theorem pw6 {M:Mem}:qA4 M .pow (N 10) (N 6)=some (N 1000000,true):=by rw [qG8 (by decide)]
theorem ml1 {M:Mem} (x:Nat):qA4 M .mul (N x) (N 48271)=some (N (x * 48271),true):=qCs (.inr (by decide))
theorem ml2 {M:Mem} (x:Nat):qA4 M .mul (N x) (N 2147483587)=some (N (x * 2147483587),true):=qCs (.inr (by decide))
theorem qKu {k:Nat} (hk:1<=k) {M:Mem} {n m a b:Nat} (hm:0 < m/\m<=1000000) (e:M[n]?=some [N a,N b,.v (.bl false)]) (e':∀ y,(M.set n y)[n]?=some y) (hb:b < 2147483647) {b':Nat} (hb':(b * 48271 + 11) % 2147483647=b') (hq:b' < 2147483647):
  Pk (glT gs) Tb.fns Cs k 6 [.cell n,N m] M=.ok ((N ((0 * 2147483587 + b' * b' % 2147483587) / 64 % m),true),M.set n [N a,N b',.v (.bl false)]):=by
 rw [qA3 t6 ⟨rfl,by decide⟩ hk,b6,show Cs.getD 6 []=[] from rfl]
 have hm3:¬ (1000000 < m):=Nat.not_lt.mpr hm.2
 have hm2:∀ {M:Mem},qA5 M .gt (N m) (N 1000000)=some false:=fun {M}=>(qK4 m 1000000).trans (by rw [decide_eq_false hm3])
 have ml3:∀ {M:Mem},qA4 M .mul (N b') (N b')=some (N (b' * b'),true):=fun {M}=>qCs (.inl (Nat.lt_trans hq (by decide)))
 have md1:∀ {M:Mem} (x:Nat),qA4 M .mod (N x) (N 2147483647)=some (N (x % 2147483647),true):=fun {M} x=>qCe (by decide)
 have md2:∀ {M:Mem} (x:Nat),qA4 M .mod (N x) (N 2147483587)=some (N (x % 2147483587),true):=fun {M} x=>qCe (by decide)
 have md3:∀ {M:Mem} (x:Nat),qA4 M .mod (N x) (N m)=some (N (x % m),true):=fun {M} x=>qCe hm.1
 have fd:∀ {M:Mem} (x:Nat),qA4 M .fdiv (N x) (N 64)=some (N (x / 64),true):=fun {M} x=>qFt (by decide)
 have rg:qJv (N 1)=some [N 0]:=qGJ (by decide)
 simp [hb',ml1,ml2,ml3,md1,md2,md3,fd,pw6,rg,hm2,qLy,e,e']
 rw [qAd (by simp)]
theorem take {k:Nat} (hk:1<=k) {M:Mem} {n m:Nat} (g:qIW M n) (hm:0 < m/\m<=1000000):∃ d M',Pk (glT gs) Tb.fns Cs k 6 [.cell n,N m] M=.ok ((N d,true),M')/\d < m/\qIW M' n/\M'.length=M.length/\∀ j,j≠n -> M'[j]?=M[j]?:=by
 obtain ⟨a,b,c,e,hb⟩:=g
 have hn:n < M.length:=(List.getElem?_eq_some_iff.mp e).1
 have e':∀ y,(M.set n y)[n]?=some y:=fun y=>List.getElem?_set_self hn
 cases c with
 | true=>exact ⟨_,_,qKi hk hm e e',Nat.mod_lt _ hm.1,⟨a / m,b,decide (0 < a / m),e' _,hb⟩,by simp,fun j hj=>by rw [List.getElem?_set_ne (Ne.symm hj)]⟩
 | false=>
  have hq:(b * 48271 + 11) % 2147483647 < 2147483647:=Nat.mod_lt _ (by decide)
  exact ⟨_,_,qKu hk hm e e' hb rfl hq,Nat.mod_lt _ hm.1,⟨a,_,false,e' _,hq⟩,by simp,fun j hj=>by rw [List.getElem?_set_ne (Ne.symm hj)]⟩
theorem qKS {k:Nat} (hk:1<=k) (ns:List Int) {kk:Nat} (hkk:kk<=63) (M:Mem):∃ a b c,Pk (glT gs) Tb.fns Cs k 5 [.fz (ns.map fun n=>.v (.int n)),N kk] M=.ok ((.lst (stT a b c),true),M)/\b < 2147483647:=by
 generalize hS:ns.map (fun n=>T.v (V.int n))=S
 obtain ⟨cl,hcl⟩:∃ cl:Int,((S.drop kk).take 1++[N 0])[0]?=some (.v (.int cl)):=by
  rw [<- hS]
  cases h:ns.drop kk with
  | nil=>exact ⟨0,by rw [<- List.map_drop,h];rfl⟩
  | cons x r=>exact ⟨x,by rw [<- List.map_drop,h];rfl⟩
 obtain ⟨num,hnum⟩:∃ num:Nat,(if -1 - cl > cl then -1 - cl else cl)=(num:Int):=⟨(if -1 - cl > cl then -1 - cl else cl).toNat,by split<;>omega⟩
 have hl:((S.drop kk).take 1).length + [N 0].length<=lim:=by
  have:((S.drop kk).take 1).length<=1:=List.length_take_le _ _
  simp [lim];omega
 have c1:∀ {M:Mem},qA4 M .add (.lst (qD6 S (some (kk:Int)) (some ((kk:Int) + 1)))) (.lst [N 0])=some (.lst ((S.drop kk).take 1++[N 0]),T.lfs ((S.drop kk).take 1++[N 0])):=fun {M}=>by
  rw [show ((kk:Int) + 1)=((kk + 1:Nat):Int) by omega,qIE,qJs hl];rfl
 generalize (S.drop kk).take 1++[N 0]=W at hcl c1
 have mx:∀ {M:Mem},qBy M .max [.v (.int cl),.v (.int (-1 - cl))]=some (N num,true):=fun {M}=>by rw [qG9];unfold iT;rw [hnum];rfl
 have md:∀ {M:Mem} (x:Nat),qA4 M .mod (N x) (N 2147483629)=some (N (x % 2147483629),true):=fun {M} x=>qCe (by decide)
 have m1:∀ {M:Mem} (x:Nat),qA4 M .mul (N 7919) (N x)=some (N (7919 * x),true):=fun {M} x=>qCs (.inl (by decide))
 have m2:∀ {M:Mem} (x:Nat),qA4 M .mul (N 104729) (N x)=some (N (104729 * x),true):=fun {M} x=>qCs (.inl (by decide))
 have m3:∀ {M:Mem} (x:Nat),qA4 M .mul (N x) (N kk)=some (N (x * kk),true):=fun {M} x=>qCs (.inr (Nat.lt_of_le_of_lt hkk (by decide)))
 have pw:∀ {M:Mem},qA4 M .pow (N 10) (N 18)=some (N 1000000000000000000,true):=fun {M}=>by rw [qG8 (by decide)]
 refine ⟨num,(num % 2147483629 + 7919 * kk + 104729 * kk * kk + 11) % 2147483629,decide (1000000000000000000<=num),?_,Nat.lt_trans (Nat.mod_lt _ (by decide)) (by decide)⟩
 rw [qA3 t5 ⟨rfl,by decide⟩ hk,b5,show Cs.getD 5 []=[] from rfl]
 simp [c1,hcl,mx,md,m1,m2,m3,pw,stT,lim]
 rw [qAd rfl]
structure Kept (n:Nat) (M M':Mem):Prop where
 good:qIW M' n
 len:M'.length=M.length
 oth:∀ j,j≠n -> M'[j]?=M[j]?
theorem Kept.trans {n:Nat} {A B C:Mem} (x:Kept n A B) (y:Kept n B C):Kept n A C:=⟨y.good,y.len.trans x.len,fun j hj=>(y.oth j hj).trans (x.oth j hj)⟩
theorem qGW {k:Nat} (hk:1<=k) {M:Mem} {n m:Nat} (g:qIW M n) (hm:0 < m/\m<=1000000):∃ d M',Pk (glT gs) Tb.fns Cs k 6 [.cell n,N m] M=.ok ((N d,true),M')/\d < m/\Kept n M M':=by
 obtain ⟨d,M',e,h1,h2,h3,h4⟩:=take hk g hm
 exact ⟨d,M',e,h1,h2,h3,h4⟩
section
variable {k:Nat}
theorem f0t (hk:1<=k) {M:Mem} {t:T} (h:qAc M t=some "int"):Pk (glT gs) Tb.fns Cs k 0 [t] M=.ok (bT true,M):=by
 rw [qA3 t0 ⟨rfl,by decide⟩ hk,b0,show Cs.getD 0 []=[] from rfl]
 simp [h,qB5,qAd]
theorem f0f (hk:1<=k) {M:Mem} {t:T} (h:qAc M t=some "bool"\/qAc M t=some "NoneType"\/qAc M t=some "str"\/qAc M t=some "list"\/qAc M t=some "tuple"\/qAc M t=some "dict"):Pk (glT gs) Tb.fns Cs k 0 [t] M=.ok (bT false,M):=by
 rw [qA3 t0 ⟨rfl,by decide⟩ hk,b0,show Cs.getD 0 []=[] from rfl]
 rcases h with h | h | h | h | h | h<;>simp [h,qB5,qAd]
theorem sgF (hk:3<=k) {M:Mem} {t:T} (h:qAc M t=some "bool"\/qAc M t=some "NoneType"\/qAc M t=some "str"\/qAc M t=some "list"\/qAc M t=some "tuple"\/qAc M t=some "dict"):Pk (glT gs) Tb.fns Cs k 2 [t] M=.ok (bT false,M):=by
 have e:Pk (glT gs) Tb.fns Cs (k - 1) 1 [t,N 2] M=.ok (bT false,M):=by
  have:=f0f (k:=k - 1 - 1) (by omega) h
  rw [qA3 t1 ⟨rfl,by decide⟩ (by omega),b1,show Cs.getD 1 []=[] from rfl]
  simp [this,qAd,bT]
 rw [qA3 t2 ⟨rfl,by decide⟩ (by omega),b2,show Cs.getD 2 []=[] from rfl]
 simp [e,qAd]
theorem sgI (hk:3<=k) {M:Mem} (x:Int):Pk (glT gs) Tb.fns Cs k 2 [I x] M=.ok (bT (decide (0<=x/\x < 2)),M):=by
 have e:Pk (glT gs) Tb.fns Cs (k - 1) 1 [I x,N 2] M=.ok (bT (decide (0<=x/\x < 2)),M):=by
  have:=f0t (k:=k - 1 - 1) (by omega) (M:=M) (t:=I x) rfl
  have c1:qA5 M .le (N 0) (I x)=some (decide (0<=x)):=rfl
  have c2:qA5 M .lt (I x) (N 2)=some (decide (x < 2)):=rfl
  rw [qA3 t1 ⟨rfl,by decide⟩ (by omega),b1,show Cs.getD 1 []=[] from rfl]
  by_cases h:0<=x
  ·simp [this,c1,c2,h,qAd,bT]
  ·simp [this,c1,c2,h,qAd,bT]
 rw [qA3 t2 ⟨rfl,by decide⟩ (by omega),b2,show Cs.getD 2 []=[] from rfl]
 generalize decide (0<=x/\x < 2)=bb at *
 simp [e,qAd]
noncomputable def odd:List T:=[N 0,N 1,N 2,I (-1),.v (.bl true),.v (.bl false),.v .non,.v (.str "0"),.v (.str "1"),.lst [N 1],.tup [N 0],.ob (.dct []),I 1000000000000000000000000000000,I (-2),.v (.str "")]
theorem qJT {a:Nat} (h:a < 15):∃ t,odd[a]?=some t/\∀ (k:Nat) (M:Mem),3<=k -> Pk (glT gs) Tb.fns Cs k 2 [t] M=.ok (bT (decide (a < 2)),M):=by
 have tf:∀ (t:T),(∀ M,qAc M t=some "bool"\/qAc M t=some "NoneType"\/qAc M t=some "str"\/qAc M t=some "list"\/qAc M t=some "tuple"\/qAc M t=some "dict") -> ∀ (k:Nat) (M:Mem),3<=k -> Pk (glT gs) Tb.fns Cs k 2 [t] M=.ok (bT false,M):=fun t h k M hk=>sgF hk (h M)
 have ti:∀ (x:Int) (b:Bool),decide (0<=x/\x < 2)=b -> ∀ (k:Nat) (M:Mem),3<=k -> Pk (glT gs) Tb.fns Cs k 2 [I x] M=.ok (bT b,M):=fun x b e k M hk=>by rw [<- e];exact sgI hk x
 rcases (by omega:a=0\/a=1\/a=2\/a=3\/a=4\/a=5\/a=6\/a=7\/a=8\/a=9\/a=10\/a=11\/a=12\/a=13\/a=14) with rfl | rfl | rfl | rfl | rfl | rfl | rfl | rfl | rfl | rfl | rfl | rfl | rfl | rfl | rfl
 ·exact ⟨_,rfl,ti 0 _ (by decide)⟩
 ·exact ⟨_,rfl,ti 1 _ (by decide)⟩
 ·exact ⟨_,rfl,ti 2 _ (by decide)⟩
 ·exact ⟨_,rfl,ti (-1) _ (by decide)⟩
 ·exact ⟨_,rfl,tf _ fun _=>.inl rfl⟩
 ·exact ⟨_,rfl,tf _ fun _=>.inl rfl⟩
 ·exact ⟨_,rfl,tf _ fun _=>.inr (.inl rfl)⟩
 ·exact ⟨_,rfl,tf _ fun _=>.inr (.inr (.inl rfl))⟩
 ·exact ⟨_,rfl,tf _ fun _=>.inr (.inr (.inl rfl))⟩
 ·exact ⟨_,rfl,tf _ fun _=>.inr (.inr (.inr (.inl rfl)))⟩
 ·exact ⟨_,rfl,tf _ fun _=>.inr (.inr (.inr (.inr (.inl rfl))))⟩
 ·exact ⟨_,rfl,tf _ fun _=>.inr (.inr (.inr (.inr (.inr rfl))))⟩
 ·exact ⟨_,rfl,ti 1000000000000000000000000000000 _ (by decide)⟩
 ·exact ⟨_,rfl,ti (-2) _ (by decide)⟩
 ·exact ⟨_,rfl,tf _ fun _=>.inr (.inr (.inl rfl))⟩
theorem f3 (hk:1<=k) (L:List Nat) (M:Mem):Pk (glT gs) Tb.fns Cs k 3 [NL L] M=.ok ((N (L.sum % 2),true),M):=by
 rw [qA3 t3 ⟨rfl,by decide⟩ hk,b3,show Cs.getD 3 []=[] from rfl]
 have sm:=(IsL.nl M L).sum
 have md:qA4 M .mod (N L.sum) (N 2)=some (N (L.sum % 2),true):=qCe (by decide)
 generalize NL L=Y at *
 simp [sm,md,qAd]
theorem qKj (hk:1<=k) (x y:Nat) (M:Mem):Pk (glT gs) Tb.fns Cs k 3 [.lst [N x,N y]] M=.ok ((N ((x + y) % 2),true),M):=by
 have:=f3 hk [x,y] M
 simpa [NL] using this
noncomputable def ad (A B:List Nat):List Nat:=List.zipWith (fun a b=>(a + b) % 2) A B
theorem f4 (hk:2<=k) (A B:List Nat) (hl:A.length<=100) (M:Mem):Pk (glT gs) Tb.fns Cs k 4 [NL A,NL B] M=.ok ((NL (ad A B),true),M):=by
 rw [qA3 t4 ⟨rfl,by decide⟩ (by omega),b4,show Cs.getD 4 []=[] from rfl]
 have c:=qET (gl:=glT gs) (P:=Pk (glT gs) Tb.fns Cs (k - 1)) (d:=[]) (e:=pe (glT gs) (Pk (glT gs) Tb.fns Cs (k - 1)) (.call 3 (.cons (.lst (.cons (.var 0) (.cons (.var 1) .nil))) .nil))) (M:=M) (fun a b=>(a + b) % 2) rfl A B [] true none none (by simp [lim];omega) (fun x y _ _=>by
  simp [qKj (k:=k - 1) (by omega) x y M,lim])
 rw [List.nil_append,List.map_nil] at c
 have s1:qCG M (NL A)=some (A.map N,[]):=rfl
 have s2:qCG M (NL B)=some (B.map N,[]):=rfl
 unfold ad
 generalize List.zipWith (fun a b=>(a + b) % 2) A B=Z at *
 generalize NL A=Y1 at *
 generalize NL B=Y2 at *
 generalize A.map N=LA at *
 generalize B.map N=LB at *
 simp [s1,s2,c,-qCY,qAd]
theorem f7 (hk:1<=k) (x y:Nat) (M:Mem):Pk (glT gs) Tb.fns Cs k 7 [N x,N y] M=.ok (bT (decide (x=y)),M):=by
 rw [qA3 t7 ⟨rfl,by decide⟩ hk,b7,show Cs.getD 7 []=[] from rfl]
 have e:qA5 M .eq (N x) (N y)=some (decide (x=y)):=qFD x y
 generalize decide (x=y)=bb at *
 simp [qB5,e,-qFD,qAd]
end
end My
namespace My
open PySem PySem.Spec PI
open L2 (V)
noncomputable def d_0:S:=(.asg (.name 3) (.call 5 (.cons (.var 0) (.cons (.var 2) .nil))))
noncomputable def d_1:S:=(.asg (.name 4) (.comp (.rng1 (.call 6 (.cons (.var 3) (.cons (nE 41) .nil)))) [none,some 3] (.name 0) .nil (.call 6 (.cons (.var 1) (.cons (nE 2) .nil)))))
noncomputable def d_2:S:=(.asg (.name 5) (.comp (.list (.var 4)) [none,some 3] (.name 0) .nil (.call 6 (.cons (.var 1) (.cons (nE 2) .nil)))))
noncomputable def d_3:S:=(.asg (.name 6) (.lst (.cons (.blt .list (.cons (.var 4) .nil)) (.cons (.blt .list (.cons (.var 5) .nil)) .nil))))
noncomputable def d_4:S:=(.ifs (.not (.call 7 (.cons (.call 3 (.cons (.idx (.var 6) (nE 0)) .nil)) (.cons (.bin .mod (.blt .len (.cons (.comp (.list (.var 4)) [none] (.name 0) (.cons (.cmp .eq (.var 0) (nE 1)) .nil) (.var 0)) .nil)) (nE 2)) .nil)))) (.cons (.ret (.cst (V.bl false))) .nil) .nil)
noncomputable def d_5:S:=(.asg (.name 7) (.call 4 (.cons (.idx (.var 6) (nE 0)) (.cons (.idx (.var 6) (nE 1)) .nil))))
noncomputable def d_6:S:=(.ifs (.or (.not (.isi (.var 7) ["list"])) (.or (.cmp .ne (.blt .len (.cons (.var 7) .nil)) (.blt .len (.cons (.var 4) .nil))) (.cmp .ne (.var 6) (.lst (.cons (.var 4) (.cons (.var 5) .nil)))))) (.cons (.ret (.cst (V.bl false))) .nil) .nil)
noncomputable def d_7:S:=(.for_ (.tup [8,9,10]) (.zip3 (.var 4) (.var 5) (.var 7)) qI5)
noncomputable def d_8:S:=(.expr (.app (.var 7) (nE 0)))
noncomputable def d_9:S:=(.ifs (.or (.cmp .ne (.call 4 (.cons (.idx (.var 6) (nE 0)) (.cons (.idx (.var 6) (nE 1)) .nil))) (.sl (.var 7) .nil (.cons (.neg (nE 1)) .nil))) (.cmp .ne (.call 4 (.cons (.idx (.var 6) (nE 0)) (.cons (.idx (.var 6) (nE 0)) .nil))) (.bin .mul (.lst (.cons (nE 0) .nil)) (.blt .len (.cons (.var 4) .nil))))) (.cons (.ret (.cst (V.bl false))) .nil) .nil)
noncomputable def qKY:S:=(.asg (.name 11) (.call 6 (.cons (.var 3) (.cons (nE 15) .nil))))
noncomputable def qKn:S:=(.asg (.name 10) (.call 2 (.cons (.idx (.var 1) (.var 11)) .nil)))
noncomputable def qK0:S:=(.ifs (.or (.not (.isi (.var 10) ["bool"])) (.cmp .ne (.var 10) (.cmp .lt (.var 11) (nE 2)))) (.cons (.ret (.cst (V.bl false))) .nil) .nil)
theorem qMQ:qKD=(.cons d_0 (.cons d_1 (.cons d_2 (.cons d_3 (.cons d_4 (.cons d_5 (.cons d_6 (.cons d_7 (.cons d_8 (.cons d_9 (.cons qKY (.cons qKn (.cons qK0 .nil))))))))))))):=rfl
theorem qA0 {gl:List T} {P:Nat -> List T -> Mem -> PR (TB×Mem)} {C:List Nat} {s:S} {r:Ss} {σ σ':TS} {M M':Mem} (e:px gl P C s σ M=.ok (.nx σ',M')):pxs gl P C (.cons s r) σ M=pxs gl P C r σ' M':=by
 rw [qGl,e];rfl
theorem qL7 {M:Mem} {a k:Nat} (hk:k<=1000):qA4 M .mul (.lst [N a]) (N k)=some (NL (List.replicate k a),true):=by
 show (if 0<=(k:Int)/\[N a].length * (k:Int).toNat<=lim/\(k:Int) < 1000000 then some (lT (List.replicate (k:Int).toNat [N a]).flatten) else none)=_
 rw [if_pos ⟨by omega,by simp [lim];omega,by omega⟩,Int.toNat_natCast]
 have:(List.replicate k [N a]).flatten=(List.replicate k a).map N:=by
  induction k with
  | zero=>rfl
  | succ k ih=>rw [List.replicate_succ,List.flatten_cons,ih (by omega),List.replicate_succ,List.map_cons];rfl
 rw [this,qMD]
theorem qEf:∀ {L:List Nat},(∀ x∈L,x < 2) -> L.sum=(L.filter fun x=>decide (x=1)).length
 | [],_=>rfl
 | x::L,h=>by
  have hx:=h x (List.mem_cons_self ..)
  rw [List.sum_cons,qEf fun y hy=>h y (List.mem_cons_of_mem _ hy),List.filter_cons]
  rcases (by omega:x=0\/x=1) with rfl | rfl
  ·simp
  ·simp;omega
theorem qGZ (xs:List T) (y:T):qD6 (xs++[y]) none (some (-1))=xs:=by
 unfold qD6
 rw [HT.sIx_none]
 have:HT.sIx (xs++[y]).length (xs++[y]).length (some (-1))=xs.length:=by
  unfold HT.sIx
  dsimp only
  rw [if_pos (by decide),List.length_append]
  simp
  omega
 rw [this]
 simp
theorem qGq {d:qCZ} {a b c:Nat} {f:TS -> Mem -> RSt} {x y z:T} {r:List T} {σ σ2:TS} {M:Mem} (hd:qAb d M=true) (h:f (((σ.set a (some x)).set b (some y)).set c (some z)) M=.ok (.nx σ2,M)):qBV d (.tup [a,b,c]) f (.tup [x,y,z]::r) σ M=qBV d (.tup [a,b,c]) f r σ2 M:=by
 show PR.bind (f (((σ.set a (some x)).set b (some y)).set c (some z)) M) _=_
 rw [h,PR.bind_ok]
 dsimp only
 rw [if_pos hd]
theorem tri {l r:Nat} (hl:l < 2) (hr:r < 2):(l + r) % 2=(!decide (l=r)).toNat:=by
 rcases (by omega:l=0\/l=1) with rfl | rfl<;>rcases (by omega:r=0\/r=1) with rfl | rfl<;>rfl
section
variable {k:Nat}
theorem qJJ (hk:1<=k) {d:qCZ} {M:Mem} (hd:qAb d M=true) {a0 a1 a2 a3 a4 a5 a6 a7 a11:Option T}:∀ (A B:List Nat) (o8 o9 o10:Option T),A.length=B.length -> (∀ x∈A,x < 2) -> (∀ x∈B,x < 2) ->
  ∃ p8 p9 p10,qBV d (.tup [8,9,10]) (pxs (glT gs) (Pk (glT gs) Tb.fns Cs k) [3,7] qI5) (qBD (A.map N) (B.map N) ((ad A B).map N)) [a0,a1,a2,a3,a4,a5,a6,a7,o8,o9,o10,a11] M=.ok (.nx [a0,a1,a2,a3,a4,a5,a6,a7,p8,p9,p10,a11],M)
 | [],B,o8,o9,o10,_,_,_=>⟨o8,o9,o10,by simp [qBD,qBV]⟩
 | x::A,[],o8,o9,o10,h,_,_=>by simp at h
 | x::A,y::B,o8,o9,o10,h,hA,hB=>by
  obtain ⟨p8,p9,p10,e⟩:=qJJ hk hd (a0:=a0) (a1:=a1) (a2:=a2) (a3:=a3) (a4:=a4) (a5:=a5) (a6:=a6) (a7:=a7) (a11:=a11) A B (some (N x)) (some (N y)) (some (N ((x + y) % 2))) (by simpa using h) (fun z hz=>hA z (List.mem_cons_of_mem _ hz)) (fun z hz=>hB z (List.mem_cons_of_mem _ hz))
  refine ⟨p8,p9,p10,?_⟩
  have q:=tri (hA x (List.mem_cons_self ..)) (hB y (List.mem_cons_self ..))
  have e7:=f7 (k:=k) hk ((x + y) % 2) (!decide (x=y)).toNat M
  rw [decide_eq_true q] at e7
  have ne:qA5 M .ne (N x) (N y)=some (!decide (x=y)):=qIm x y
  have body:pxs (glT gs) (Pk (glT gs) Tb.fns Cs k) [3,7] qI5 [a0,a1,a2,a3,a4,a5,a6,a7,some (N x),some (N y),some (N ((x + y) % 2)),a11] M=.ok (.nx [a0,a1,a2,a3,a4,a5,a6,a7,some (N x),some (N y),some (N ((x + y) % 2)),a11],M):=by
   rw [qI5]
   generalize (!decide (x=y))=bb at *
   generalize (x + y) % 2=zz at *
   simp [ne,-qIm,e7,bT]
  rw [List.map_cons,List.map_cons,show ad (x::A) (y::B)=(x + y) % 2::ad A B from rfl,List.map_cons,qBD]
  rw [qGq hd (σ2:=[a0,a1,a2,a3,a4,a5,a6,a7,some (N x),some (N y),some (N ((x + y) % 2)),a11]) body]
  exact e
theorem qFI:∀ A:List Nat,(∀ x∈A,x < 2) -> ad A A=List.replicate A.length 0
 | [],_=>rfl
 | x::A,h=>by
  show (x + x) % 2::ad A A=_
  rw [qFI A fun y hy=>h y (List.mem_cons_of_mem _ hy),List.length_cons,List.replicate_succ]
  congr 1
  omega
theorem qHw (hk:6<=k) (ns:List Int) {i:Nat} (hi:i<=62) {M:Mem} {o3 o4 o5 o6 o7 o8 o9 o10 o11:Option T}:∃ p3 p4 p5 p6 p7 p8 p9 p10 p11 M',pxs (glT gs) (Pk (glT gs) Tb.fns Cs k) [3,7] qKD [some (.fz (ns.map fun n=>.v (.int n))),some (.lst odd),some (N i),o3,o4,o5,o6,o7,o8,o9,o10,o11] M=.ok (.nx [some (.fz (ns.map fun n=>.v (.int n))),some (.lst odd),some (N i),p3,p4,p5,p6,p7,p8,p9,p10,p11],M'):=by
 obtain ⟨a,b,c,e1,hb⟩:=qKS (k:=k) (by omega) ns (kk:=i) (by omega) M
 have g0:qIW (M++[stT a b c]) M.length:=⟨a,b,c,by simp,hb⟩
 obtain ⟨n,M1,e2,hn,k1⟩:=qGW (k:=k) (by omega) g0 (m:=41) (by omega)
 obtain ⟨A,M2,e3,k2,lA,sA⟩:=qC8 (gl:=glT gs) (P:=Pk (glT gs) Tb.fns Cs k) (e:=pe (glT gs) (Pk (glT gs) Tb.fns Cs k) (.call 6 (.cons (.var 1) (.cons (nE 2) .nil)))) (σ:=[some (.cell M.length)]) (I:=fun M'=>Kept M.length M1 M') (R:=fun y=>y < 2) (List.range n) [] true none M1 (by simp [lim];omega) ⟨k1.good,rfl,fun _ _=>rfl⟩ (fun x _ M' hJ=>by
  obtain ⟨d,M'',e,hd,kk⟩:=qGW (k:=k) (by omega) hJ.good (m:=2) (by omega)
  exact ⟨d,M'',by simp [e],hJ.trans kk,hd⟩)
 rw [List.nil_append,List.map_nil] at e3
 rw [List.length_range] at lA
 obtain ⟨B,M3,e4,k3,lB,sB⟩:=qC8 (gl:=glT gs) (P:=Pk (glT gs) Tb.fns Cs k) (e:=pe (glT gs) (Pk (glT gs) Tb.fns Cs k) (.call 6 (.cons (.var 1) (.cons (nE 2) .nil)))) (σ:=[some (.cell M.length)]) (I:=fun M'=>Kept M.length M2 M') (R:=fun y=>y < 2) A [] true none M2 (by simp [lim];omega) ⟨k2.good,rfl,fun _ _=>rfl⟩ (fun x _ M' hJ=>by
  obtain ⟨d,M'',e,hd,kk⟩:=qGW (k:=k) (by omega) hJ.good (m:=2) (by omega)
  exact ⟨d,M'',by simp [e],hJ.trans kk,hd⟩)
 rw [List.nil_append,List.map_nil] at e4
 have lAB:A.length=B.length:=by omega
 have l40:A.length<=40:=by omega
 have th:thaw M.length (.lst (stT a b c))=(.cell M.length,[stT a b c]):=rfl
 have rg:=qGJ (n:=n) (by omega)
 have M3l:M3.length=M.length + 1:=by
  have:=k1.len;have:=k2.len;have:=k3.len
  simp at *;omega
 generalize hZ:(ns.map fun n=>T.v (.int n))=Z at *
 have srcA:qEO M2 (NL A)=some (A.map N,[]):=rfl
 have x0:px (glT gs) (Pk (glT gs) Tb.fns Cs k) [3,7] d_0 [some (.fz Z),some (.lst odd),some (N i),o3,o4,o5,o6,o7,o8,o9,o10,o11] M=.ok (.nx [some (.fz Z),some (.lst odd),some (N i),some (.cell M.length),o4,o5,o6,o7,o8,o9,o10,o11],M++[stT a b c]):=by
  rw [d_0];generalize odd=OO;simp [e1,th]
 have x1:px (glT gs) (Pk (glT gs) Tb.fns Cs k) [3,7] d_1 [some (.fz Z),some (.lst odd),some (N i),some (.cell M.length),o4,o5,o6,o7,o8,o9,o10,o11] (M++[stT a b c])=.ok (.nx [some (.fz Z),some (.lst odd),some (N i),some (.cell M.length),some (NL A),o5,o6,o7,o8,o9,o10,o11],M2):=by
  rw [d_1];generalize odd=OO
  generalize NL A=Y at *
  generalize (M++[stT a b c])=MM at *
  simp [e2,rg,e3,-qCY]
 have x2:px (glT gs) (Pk (glT gs) Tb.fns Cs k) [3,7] d_2 [some (.fz Z),some (.lst odd),some (N i),some (.cell M.length),some (NL A),o5,o6,o7,o8,o9,o10,o11] M2=.ok (.nx [some (.fz Z),some (.lst odd),some (N i),some (.cell M.length),some (NL A),some (NL B),o6,o7,o8,o9,o10,o11],M3):=by
  rw [d_2];generalize odd=OO
  generalize NL A=Y at *
  generalize NL B=Y2 at *
  simp [srcA,e4,-qCY]
 have la:qBy M3 .list [NL A]=some (NL A,true):=(IsL.nl M3 A).list
 have lb:qBy M3 .list [NL B]=some (NL B,true):=(IsL.nl M3 B).list
 have x3:px (glT gs) (Pk (glT gs) Tb.fns Cs k) [3,7] d_3 [some (.fz Z),some (.lst odd),some (N i),some (.cell M.length),some (NL A),some (NL B),o6,o7,o8,o9,o10,o11] M3=.ok (.nx [some (.fz Z),some (.lst odd),some (N i),some (.cell M.length),some (NL A),some (NL B),some (.lst [NL A,NL B]),o7,o8,o9,o10,o11],M3):=by
  rw [d_3];generalize odd=OO
  generalize NL A=Y at *
  generalize NL B=Y2 at *
  simp [la,lb,lim]
 have i0:∀ {M:Mem},qFA M (.lst [NL A,NL B]) (N 0)=some (NL A,false):=fun {M}=>by rw [qDj];unfold NL;simp
 have i1:∀ {M:Mem},qFA M (.lst [NL A,NL B]) (N 1)=some (NL B,false):=fun {M}=>by rw [qDj];unfold NL;simp
 have fA:=fun (M:Mem)=>f3 (k:=k) (by omega) A M
 have c4:=qH7 (c:=pec (glT gs) (Pk (glT gs) Tb.fns Cs k) (.cons (.cmp .eq (.var 0) (nE 1)) .nil)) (e:=pe (glT gs) (Pk (glT gs) Tb.fns Cs k) (.var 0)) (σ:=[]) (M:=M3) (o:=none) (its:=A) (fun x=>decide (x=1)) (fun x=>x) (by simp [lim];omega) (fun x _=>by
  have:=qFD (M:=M3) x 1
  generalize decide (x=1)=bb at *
  simp [this,-qFD]) (fun x _ _=>by simp)
 rw [List.map_id'] at c4
 have l4:qBy M3 .len [NL (A.filter fun x=>decide (x=1))]=some (N (A.filter fun x=>decide (x=1)).length,true):=(IsL.nl M3 _).len
 have m4:qA4 M3 .mod (N (A.filter fun x=>decide (x=1)).length) (N 2)=some (N (A.sum % 2),true):=by rw [qCe (by decide),<- qEf sA]
 have e74:=f7 (k:=k) (by omega) (A.sum % 2) (A.sum % 2) M3
 rw [decide_eq_true rfl] at e74
 have srcA3:qEO M3 (NL A)=some (A.map N,[]):=rfl
 have x4:px (glT gs) (Pk (glT gs) Tb.fns Cs k) [3,7] d_4 [some (.fz Z),some (.lst odd),some (N i),some (.cell M.length),some (NL A),some (NL B),some (.lst [NL A,NL B]),o7,o8,o9,o10,o11] M3=.ok (.nx [some (.fz Z),some (.lst odd),some (N i),some (.cell M.length),some (NL A),some (NL B),some (.lst [NL A,NL B]),o7,o8,o9,o10,o11],M3):=by
  have fA:=fA M3
  rw [d_4];generalize odd=OO
  generalize T.lst [NL A,NL B]=HH at *
  generalize NL (A.filter fun x=>decide (x=1))=Y3 at *
  generalize NL A=Y at *
  generalize NL B=Y2 at *
  generalize A.sum % 2=zz at *
  simp [i0,fA,srcA3,c4,l4,m4,e74,bT,-qGi]
 obtain ⟨C,hC⟩:∃ C,C=ad A B:=⟨_,rfl⟩
 have lC:C.length=A.length:=by rw [hC];unfold ad;simp;omega
 have fC:=fun (M:Mem)=>f4 (k:=k) (by omega) A B (by omega) M
 rw [<- hC] at fC
 have thC:thaw M3.length (NL C)=(.cell M3.length,[C.map N]):=qH9 _ _
 have x5:px (glT gs) (Pk (glT gs) Tb.fns Cs k) [3,7] d_5 [some (.fz Z),some (.lst odd),some (N i),some (.cell M.length),some (NL A),some (NL B),some (.lst [NL A,NL B]),o7,o8,o9,o10,o11] M3=.ok (.nx [some (.fz Z),some (.lst odd),some (N i),some (.cell M.length),some (NL A),some (NL B),some (.lst [NL A,NL B]),some (.cell M3.length),o8,o9,o10,o11],M3++[C.map N]):=by
  have fC:=fC M3
  rw [d_5];generalize odd=OO
  generalize T.lst [NL A,NL B]=HH at *
  generalize NL A=Y at *
  generalize NL B=Y2 at *
  simp [i0,i1,fC,thC]
 obtain ⟨M4,hM4⟩:∃ M4,M4=M3++[C.map N]:=⟨_,rfl⟩
 have at4:M4[M3.length]?=some (C.map N):=by rw [hM4];simp
 have isC:IsL M4 (.cell M3.length) C:=IsL.cell at4
 rw [<- hM4] at x5
 have nh:qA5 M4 .ne (.lst [NL A,NL B]) (.lst [NL A,NL B])=some false:=by
  have e1:eqT M4 3 (NL A) (NL A)=some true:=by
   have:=qFg (M:=M4) (d:=2) A A
   simpa using this
  have e2:eqT M4 3 (NL B) (NL B)=some true:=by
   have:=qFg (M:=M4) (d:=2) B B
   simpa using this
  show (eqT M4 4 (.lst [NL A,NL B]) (.lst [NL A,NL B])).map (!·)=_
  unfold eqT
  simp only [qH0,qKw,if_true]
  unfold qAz
  rw [e1]
  unfold qAz
  rw [e2]
  rfl
 have x6:px (glT gs) (Pk (glT gs) Tb.fns Cs k) [3,7] d_6 [some (.fz Z),some (.lst odd),some (N i),some (.cell M.length),some (NL A),some (NL B),some (.lst [NL A,NL B]),some (.cell M3.length),o8,o9,o10,o11] M4=.ok (.nx [some (.fz Z),some (.lst odd),some (N i),some (.cell M.length),some (NL A),some (NL B),some (.lst [NL A,NL B]),some (.cell M3.length),o8,o9,o10,o11],M4):=by
  have l1:=isC.len
  have l2:qBy M4 .len [NL A]=some (N A.length,true):=(IsL.nl M4 A).len
  have ty:=isC.ty
  rw [lC] at l1
  rw [d_6];generalize odd=OO
  generalize NL A=Y at *
  generalize NL B=Y2 at *
  simp [ty,qB5,l1,l2,lim,nh]
 have sC4:qCG M4 (.cell M3.length)=some (C.map N,[(M3.length,C.map N)]):=qDg at4
 have dC4:qAb [(M3.length,C.map N)] M4=true:=qFz at4
 obtain ⟨p8,p9,p10,eL⟩:=qJJ (k:=k) (by omega) (d:=[(M3.length,C.map N)]) (M:=M4) dC4 (a0:=some (.fz Z)) (a1:=some (.lst odd)) (a2:=some (N i)) (a3:=some (.cell M.length)) (a4:=some (NL A)) (a5:=some (NL B)) (a6:=some (.lst [NL A,NL B])) (a7:=some (.cell M3.length)) (a11:=o11) A B o8 o9 o10 lAB sA sB
 rw [<- hC] at eL
 have x7:px (glT gs) (Pk (glT gs) Tb.fns Cs k) [3,7] d_7 [some (.fz Z),some (.lst odd),some (N i),some (.cell M.length),some (NL A),some (NL B),some (.lst [NL A,NL B]),some (.cell M3.length),o8,o9,o10,o11] M4=.ok (.nx [some (.fz Z),some (.lst odd),some (N i),some (.cell M.length),some (NL A),some (NL B),some (.lst [NL A,NL B]),some (.cell M3.length),p8,p9,p10,o11],M4):=by
  have s1:qCG M4 (NL A)=some (A.map N,[]):=rfl
  have s2:qCG M4 (NL B)=some (B.map N,[]):=rfl
  rw [d_7]
  generalize odd=OO at *
  generalize T.lst [NL A,NL B]=HH at *
  generalize NL A=Y at *
  generalize NL B=Y2 at *
  simp [s1,s2,sC4,eL]
 obtain ⟨M5,hM5⟩:∃ M5,M5=M4.set M3.length (C.map N++[N 0]):=⟨_,rfl⟩
 have lt5:M3.length < M4.length:=by rw [hM4];simp
 have at5:M5[M3.length]?=some (C.map N++[N 0]):=by rw [hM5,List.getElem?_set_self lt5]
 have x8:px (glT gs) (Pk (glT gs) Tb.fns Cs k) [3,7] d_8 [some (.fz Z),some (.lst odd),some (N i),some (.cell M.length),some (NL A),some (NL B),some (.lst [NL A,NL B]),some (.cell M3.length),p8,p9,p10,o11] M4=.ok (.nx [some (.fz Z),some (.lst odd),some (N i),some (.cell M.length),some (NL A),some (NL B),some (.lst [NL A,NL B]),some (.cell M3.length),p8,p9,p10,o11],M5):=by
  have ap:=qKb (x:=N 0) at4 (by simp [lim];omega)
  rw [<- hM5] at ap
  rw [d_8];generalize odd=OO
  generalize T.lst [NL A,NL B]=HH at *
  generalize NL A=Y at *
  generalize NL B=Y2 at *
  simp [ap]
 have x9:px (glT gs) (Pk (glT gs) Tb.fns Cs k) [3,7] d_9 [some (.fz Z),some (.lst odd),some (N i),some (.cell M.length),some (NL A),some (NL B),some (.lst [NL A,NL B]),some (.cell M3.length),p8,p9,p10,o11] M5=.ok (.nx [some (.fz Z),some (.lst odd),some (N i),some (.cell M.length),some (NL A),some (NL B),some (.lst [NL A,NL B]),some (.cell M3.length),p8,p9,p10,o11],M5):=by
  have fC5:=fC M5
  have fA5:=f4 (k:=k) (by omega) A A (by omega) M5
  rw [qFI A sA] at fA5
  have it5:(T.cell M3.length).its M5=some (C.map N++[N 0]):=at5
  have sl5:T.lst (qD6 (C.map N++[N 0]) none (some (-1)))=NL C:=by rw [qGZ];rfl
  have ne1:qA5 M5 .ne (NL C) (NL C)=some false:=by
   have:=(IsL.nl M5 C).cne (IsL.nl M5 C)
   simpa using this
  have ne2:qA5 M5 .ne (NL (List.replicate A.length 0)) (NL (List.replicate A.length 0))=some false:=by
   have:=(IsL.nl M5 (List.replicate A.length 0)).cne (IsL.nl M5 (List.replicate A.length 0))
   simpa using this
  have l2:qBy M5 .len [NL A]=some (N A.length,true):=(IsL.nl M5 A).len
  have ml:=qL7 (M:=M5) (a:=0) (k:=A.length) (by omega)
  rw [d_9];generalize odd=OO
  generalize T.lst [NL A,NL B]=HH at *
  generalize NL (List.replicate A.length 0)=Y0 at *
  generalize NL A=Y at *
  generalize NL B=Y2 at *
  generalize NL C=Y3 at *
  generalize C.map N++[N 0]=Y4 at *
  simp [i0,i1,fC5,fA5,it5,qAs,iT,sl5,ne1,ne2,l2,ml,lim]
 have g5:qIW M5 M.length:=by
  obtain ⟨a',b',c',q,hb'⟩:=k3.good
  refine ⟨a',b',c',?_,hb'⟩
  rw [hM5,List.getElem?_set_ne (by omega),hM4,List.getElem?_append_left (by omega)]
  exact q
 obtain ⟨p,M6,e10,hp,k6⟩:=qGW (k:=k) (by omega) g5 (m:=15) (by omega)
 obtain ⟨t,et,ft⟩:=qJT hp
 have x10:px (glT gs) (Pk (glT gs) Tb.fns Cs k) [3,7] qKY [some (.fz Z),some (.lst odd),some (N i),some (.cell M.length),some (NL A),some (NL B),some (.lst [NL A,NL B]),some (.cell M3.length),p8,p9,p10,o11] M5=.ok (.nx [some (.fz Z),some (.lst odd),some (N i),some (.cell M.length),some (NL A),some (NL B),some (.lst [NL A,NL B]),some (.cell M3.length),p8,p9,p10,some (N p)],M6):=by
  rw [qKY];generalize odd=OO
  generalize T.lst [NL A,NL B]=HH at *
  generalize NL A=Y at *
  generalize NL B=Y2 at *
  simp [e10]
 have x11:px (glT gs) (Pk (glT gs) Tb.fns Cs k) [3,7] qKn [some (.fz Z),some (.lst odd),some (N i),some (.cell M.length),some (NL A),some (NL B),some (.lst [NL A,NL B]),some (.cell M3.length),p8,p9,p10,some (N p)] M6=.ok (.nx [some (.fz Z),some (.lst odd),some (N i),some (.cell M.length),some (NL A),some (NL B),some (.lst [NL A,NL B]),some (.cell M3.length),p8,p9,some (.v (.bl (decide (p < 2)))),some (N p)],M6):=by
  have ft:=ft k M6 (by omega)
  rw [qKn];generalize odd=OO at *
  generalize T.lst [NL A,NL B]=HH at *
  generalize NL A=Y at *
  generalize NL B=Y2 at *
  generalize decide (p < 2)=bb at *
  simp [et,ft,bT]
 have x12:px (glT gs) (Pk (glT gs) Tb.fns Cs k) [3,7] qK0 [some (.fz Z),some (.lst odd),some (N i),some (.cell M.length),some (NL A),some (NL B),some (.lst [NL A,NL B]),some (.cell M3.length),p8,p9,some (.v (.bl (decide (p < 2)))),some (N p)] M6=.ok (.nx [some (.fz Z),some (.lst odd),some (N i),some (.cell M.length),some (NL A),some (NL B),some (.lst [NL A,NL B]),some (.cell M3.length),p8,p9,some (.v (.bl (decide (p < 2)))),some (N p)],M6):=by
  have lt:qA5 M6 .lt (N p) (N 2)=some (decide (p < 2)):=qJp p 2
  have nb:∀ b:Bool,qA5 M6 .ne (.v (.bl b)) (.v (.bl b))=some false:=fun b=>by cases b<;>rfl
  rw [qK0];generalize odd=OO at *
  generalize T.lst [NL A,NL B]=HH at *
  generalize NL A=Y at *
  generalize NL B=Y2 at *
  generalize decide (p < 2)=bb at *
  simp [qB5,lt,-qJp,nb,bT]
 refine ⟨some (.cell M.length),some (NL A),some (NL B),some (.lst [NL A,NL B]),some (.cell M3.length),p8,p9,some (.v (.bl (decide (p < 2)))),some (N p),M6,?_⟩
 rw [qMQ,qA0 x0,qA0 x1,qA0 x2,qA0 x3,qA0 x4,qA0 x5,qA0 x6,qA0 x7,qA0 x8,qA0 x9,qA0 x10,qA0 x11,qA0 x12]
 rfl
theorem qLf (hk:6<=k) (ns:List Int):∀ (m i:Nat) (M:Mem) (o2 o3 o4 o5 o6 o7 o8 o9 o10 o11:Option T),i + m<=63 -> ∃ σ' M',qBV [] (.name 2) (pxs (glT gs) (Pk (glT gs) Tb.fns Cs k) [3,7] qKD) ((List.range' i m).map N) [some (.fz (ns.map fun n=>.v (.int n))),some (.lst odd),o2,o3,o4,o5,o6,o7,o8,o9,o10,o11] M=.ok (.nx σ',M')
 | 0,i,M,o2,o3,o4,o5,o6,o7,o8,o9,o10,o11,h=>⟨_,M,rfl⟩
 | m + 1,i,M,o2,o3,o4,o5,o6,o7,o8,o9,o10,o11,h=>by
  obtain ⟨p3,p4,p5,p6,p7,p8,p9,p10,p11,M1,e⟩:=qHw hk ns (i:=i) (by omega) (M:=M) (o3:=o3) (o4:=o4) (o5:=o5) (o6:=o6) (o7:=o7) (o8:=o8) (o9:=o9) (o10:=o10) (o11:=o11)
  obtain ⟨σ',M',e'⟩:=qLf hk ns m (i + 1) M1 (some (N i)) p3 p4 p5 p6 p7 p8 p9 p10 p11 (by omega)
  refine ⟨σ',M',?_⟩
  rw [List.range'_succ,List.map_cons,qE5,show ∀ a b c d e f g h i j k l z:Option T,[a,b,c,d,e,f,g,h,i,j,k,l].set 2 z=[a,b,z,d,e,f,g,h,i,j,k,l] from fun _ _ _ _ _ _ _ _ _ _ _ _ _=>rfl,e,PR.bind_ok]
  exact e'
end
theorem main:∀ ns:List Int,ns.length<=63 -> ∃ h',Fk Tb.fns 30 8 [.ref gs.length] (qDn gs ns)=.ok (.bl true,h'):=by
 intro ns hn
 obtain ⟨σ',M',e⟩:=qLf (k:=29) (by omega) ns (max 1 (min 63 ns.length)) 0 [] none none none none none none none none none none (by omega)
 rw [<- List.range_eq_range'] at e
 have key:∃ b M2,Pk (glT gs) Tb.fns Cs 30 8 [.fz (ns.map fun n=>.v (.int n))] []=.ok ((.v (.bl true),b),M2):=by
  rw [qA3 t8 ⟨rfl,by decide⟩ (by omega),show Cs.getD 8 []=[3,7] from rfl]
  clear hn
  have pw:∀ {M:Mem},qA4 M .pow (N 10) (N 30)=some (I 1000000000000000000000000000000,true):=fun {M}=>rfl
  have od:[N 0,N 1,N 2,.v (.int (-1)),.v (.bl true),.v (.bl false),.v .non,.v (.str "0"),.v (.str "1"),.lst [N 1],.tup [N 0],.ob (.dct []),I 1000000000000000000000000000000,.v (.int (-2)),.v (.str "")]=odd:=rfl
  have ex:pxs (glT gs) (Pk (glT gs) Tb.fns Cs (30 - 1)) [3,7] b8 ([T.fz (ns.map fun n=>.v (.int n))].map some++List.replicate (12 - 1) none) []=.ok (.rt (bT true),M'):=by
   rw [b8]
   simp (disch:=omega) [qGJ,e,pw,lim,iT,od]
  rw [ex]
  exact qGG _ _ _
 obtain ⟨b,M2,e2⟩:=key
 exact qJm rfl e2
end My
namespace PySem.W.Fast
theorem tw14934856434307640132:True:=trivial
theorem tw11496339616276169707:True:=trivial
theorem tw18039068679271976613:True:=trivial
theorem tw14967612326763905913:True:=trivial
theorem tw3602386285333925194:True:=trivial
theorem tw12198651344856744321:True:=trivial
theorem tw9902541336529673266:True:=trivial
theorem tw12491477484880763673:True:=trivial
theorem tw12689057806586866247:True:=trivial
theorem tw13462735288062959616:True:=trivial
theorem tw18344041919159936282:True:=trivial
theorem tw10518862010420570927:True:=trivial
theorem tw1260725712310727056:True:=trivial
theorem tw15171122420418706216:True:=trivial
theorem tw15948445446469893569:True:=trivial
theorem tw16161384744194188071:True:=trivial
theorem tw8617467570041931212:True:=trivial
theorem tw2575119864678043139:True:=trivial
theorem tw12962328086626863764:True:=trivial
theorem tw13279942820113728049:True:=trivial
theorem tw16247997035065104306:True:=trivial
theorem tw11366541520125356190:True:=trivial
theorem tw13408478196030446327:True:=trivial
theorem tw7729476869982867339:True:=trivial
theorem tw12547076153090427438:True:=trivial
theorem tw1763694813835981702:True:=trivial
theorem tw16708430483667434811:True:=trivial
theorem tw16948154361799021327:True:=trivial
theorem tw18349048921787259606:True:=trivial
theorem tw1555228090343766225:True:=trivial
theorem tw13722615493310271519:True:=trivial
theorem tw7557125143047209331:True:=trivial
theorem tw9558603832208420293:True:=trivial
theorem tw4483742782832780801:True:=trivial
theorem tw13730434818824828966:True:=trivial
theorem tw17217058930282935028:True:=trivial
theorem tw9241263482284924338:True:=trivial
theorem tw3747235770606076591:True:=trivial
theorem tw6862271980062495338:True:=trivial
theorem tw5457369025516725635:True:=trivial
theorem tw4491709134912107942:True:=trivial
theorem tw4385806183957343439:True:=trivial
theorem tw18366401617471443224:True:=trivial
theorem tw860794809175878407:True:=trivial
theorem tw10332419155952851422:True:=trivial
theorem tw10482075241752492850:True:=trivial
theorem tw2503493769284754497:True:=trivial
theorem tw9718031539486650572:True:=trivial
theorem tw4756851332771961989:True:=trivial
theorem tw1652334293147269275:True:=trivial
theorem tw8812519609263022081:True:=trivial
theorem tw5643385767541916481:True:=trivial
theorem tw10128387192231561534:True:=trivial
theorem tw3131351081090681126:True:=trivial
theorem tw16360174885583700682:True:=trivial
theorem tw18092588902989107877:True:=trivial
theorem tw15813179600063781505:True:=trivial
theorem tw10338539074917381618:True:=trivial
theorem tw7110089466569596966:True:=trivial
theorem tw13558444829948736692:True:=trivial
theorem tw1314048970780351630:True:=trivial
theorem tw6201892100937318933:True:=trivial
theorem tw11315191824458631494:True:=trivial
theorem tw11182447324254237073:True:=trivial
end PySem.W.Fast
namespace My
open PySem PySem.Spec PyProof.Rows L2 PI
theorem dks:∀ d∈Tb.ds,qKc d:=by
 intro d hd
 simp only [Tb,List.mem_cons,List.not_mem_nil,or_false] at hd
 rcases hd with rfl | rfl | rfl | rfl | rfl | rfl | rfl | rfl | rfl
 all_goals exact ⟨⟨rfl,rfl,rfl,by decide +kernel,rfl,by decide +kernel,by decide +kernel⟩,fun _ _ _ _ _ _ us hl=>by first | (obtain rfl:=PI.len0 hl;rfl) | (obtain ⟨_,rfl⟩:=PI.len1 hl;rfl) | (obtain ⟨_,_,rfl⟩:=PI.len2 hl;rfl) | (obtain ⟨_,_,_,rfl⟩:=PI.len3 hl;rfl) | (obtain ⟨_,_,_,_,rfl⟩:=PI.len4 hl;rfl) | (obtain ⟨_,_,_,_,_,rfl⟩:=PI.len5 hl;rfl) | (obtain ⟨_,_,_,_,_,_,rfl⟩:=PI.len6 hl;rfl)⟩
theorem all_mk {l:PySem.W.OpenLaw} {w:World} {K:PySem.W.Frag} {h:Heap} {mg:Str -> Option Value} {fa:Addr} (X:K.In h) (G:h.Ns mainGlobals mg) (hfa:mg "law"=some (.ref fa))
  (hds:∀ d∈Tb.ds,qJl K d)
  (z_len:PySem.W.nsIn K mainGlobals "len"=some none)
  (z_sum:PySem.W.nsIn K mainGlobals "sum"=some none)
  (z_max:PySem.W.nsIn K mainGlobals "max"=some none)
  (z_min:PySem.W.nsIn K mainGlobals "min"=some none)
  (z_list:PySem.W.nsIn K mainGlobals "list"=some none)
  (z_int:PySem.W.nsIn K mainGlobals "int"=some none)
  (z_range:PySem.W.nsIn K mainGlobals "range"=some none)
  (z_zip:PySem.W.nsIn K mainGlobals "zip"=some none)
  (z_isinstance:PySem.W.nsIn K mainGlobals "isinstance"=some none)
  (z_bool:PySem.W.nsIn K mainGlobals "bool"=some none)
  (main:∀ ns:List Int,ns.length<=63 -> ∃ h',Fk Tb.fns 30 8 [.ref gs.length] (qDn gs ns)=.ok (.bl true,h')):
  ∃ fd:FuncData,(∀ (s:Shared) (v:Value),BindsTo s fd ⟨[v],[]⟩ [("_law_script",v)])/\∀ base:Heap,K.In base -> base.Ns mainGlobals mg -> FnOk l.prog w K mg base CX0 30 fa fd ["_law_script"] (qGd K):=by
 obtain ⟨fas,fds,hT⟩:=qHM X G Tb.ds hds dks
 have O:qGo K mg [] Tb fas fds:=by
  refine ⟨hT,fun x e hx=>?_,fun x hx=>?_,fun a ha=>nomatch ha⟩
  ·have hx2:List.lookup x ([]:List (Str×E))=some e:=hx
   simp only [List.lookup_cons,List.lookup_nil] at hx2
   cases hx2
  ·have hx2:x∈(["len","sum","max","min","list","int","range","zip","isinstance","bool"]:List Str):=List.contains_iff_mem.mp hx
   simp only [List.mem_cons,List.not_mem_nil,or_false] at hx2
   rcases hx2 with rfl | rfl | rfl | rfl | rfl | rfl | rfl | rfl | rfl | rfl
   ·exact PySem.W.mg_none_of X G z_len
   ·exact PySem.W.mg_none_of X G z_sum
   ·exact PySem.W.mg_none_of X G z_max
   ·exact PySem.W.mg_none_of X G z_min
   ·exact PySem.W.mg_none_of X G z_list
   ·exact PySem.W.mg_none_of X G z_int
   ·exact PySem.W.mg_none_of X G z_range
   ·exact PySem.W.mg_none_of X G z_zip
   ·exact PySem.W.mg_none_of X G z_isinstance
   ·exact PySem.W.mg_none_of X G z_bool
 have hG:qEd K [] gs:=True.intro
 obtain ⟨a,f,e1,e2,F,_,em,_⟩:=hT 8 _ rfl
 have e:=hfa.symm.trans em
 cases e
 exact ⟨f,qKN F (dks _ (List.mem_of_getElem? (i:=8) rfl)) rfl,fun base _ _=>qFh O hG (i:=8) rfl e1 e2 rfl main⟩
theorem walk {l:PySem.W.OpenLaw} {q:Program} {loose:List Str} {XP:(Str -> Option Value) -> Heap -> Prop} {YP:World -> Heap -> Prop} {d:DefRec} {K:Params -> PySem.W.Frag} (hn:l.most=some 63) (hdf:d.params.defaults=[])
  (hY:∀ (w:World) (h:Heap),YP w h -> (K w.params).In h)
  (F:∀ (w:World) (mg:Str -> Option Value) (fa:Addr) (h:Heap),(K w.params).In h -> h.Ns mainGlobals mg -> mg d.name=some (.ref fa) ->
   ∃ fd:FuncData,(∀ (s:Shared) (u:Value),BindsTo s fd ⟨[u],[]⟩ [("_law_script",u)])/\∀ base:Heap,(K w.params).In base -> base.Ns mainGlobals mg -> FnOk l.prog w (K w.params) mg base CX0 30 fa fd ["_law_script"] (qGd (K w.params))):
  PySem.W.WalkO q loose XP YP l.row.toRowW d [] (fun f vs=>PySem.call f vs):=
 L2.walk_of (n:=63) (k:=30) (x:="_law_script") (CX:=fun _=>CX0) (sp:=fun w=>qGd (K w.params)) hn (by decide) hdf ⟨rfl,by decide,by decide,rfl⟩ hY F (fun _ _ a ns hl hO hS=>⟨a,ns,rfl,hO,hS,hl,fun _=>rfl⟩) fun _ _ _ _ _ z=>z
end My
open PySem PySem.W PyProof.Rows
set_option maxRecDepth 100000 in
set_option maxHeartbeats 0 in
theorem PySem.Challenge.cw_healhalves_k01_signs_and_sums_holds : PySem.Challenge.rw_healhalves_k01_signs_and_sums.Holds := by
 w_on;o_law;k_head;(case hw=>w_witness2)
 k_fill
 refine My.walk (l:=PySem.Challenge.rw_healhalves_k01_signs_and_sums) rfl rfl (fun w h Y=>PySem.W.kIn_of Y) ?F
 case F=>
  intro w mg fa h KX G hmg
  refine' My.all_mk KX G hmg ?ds ?z_len ?z_sum ?z_max ?z_min ?z_list ?z_int ?z_range ?z_zip ?z_isinstance ?z_bool My.main
  case ds=>
   intro d hd
   simp only [My.Tb,List.mem_cons,List.not_mem_nil,or_false] at hd
   rcases hd with rfl | rfl | rfl | rfl | rfl | rfl | rfl | rfl | rfl
   all_goals exact ⟨_,_,_,_,_,_,_,_,_,_,by k_is,by k_is,by k_is,by k_is⟩
  all_goals (try k_is)
