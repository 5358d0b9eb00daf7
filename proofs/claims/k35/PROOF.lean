import PyProof.Rows.All
import Wide.All
import OpenK.AllK
import Wide.FinOn
import Lean
import PyProof.EqAt
import PyProof.EqKinds
import PyProof.TupleCall
import PyProof.NeKinds
import PyProof.ZipIter
import PyProof.ReprRoads
import KE.KRevIter
import PyProof.EnumMake
import PyProof.EnumFor
import PyProof.WalksEnum
import PyProof.Rows.EnumRows
import PySem.Challenge.RW_healhalves_k35_orders_looked_at
set_option bootstrap.genMatcherCode false
set_option compiler.extract_closed false
set_option genSizeOf false
set_option genSizeOfSpec false
set_option Elab.async false
set_option linter.all false
set_option maxRecDepth 100000
namespace L2
open PySem PySem.Spec PyProof.Rows
noncomputable abbrev Key:=Sum Int Str
noncomputable def qL2:Key -> Value -> Bool
 | .inl k,v=>Value.isInt k v
 | .inr x,v=>Value.isStrOf x v
noncomputable def qOm (w:World):Key -> Int
 | .inl k=>hashInt k
 | .inr x=>hashStr w x
theorem qAY:∀ {k:Key} {v:Value},qL2 k v=true -> (∃ i t,k=Sum.inl i/\v=Value.int i t)\/(∃ x t,k=Sum.inr x/\v=Value.str x t)
 | .inl i,v,h=>by
  obtain ⟨t,e⟩:=Value.isInt_shape (k:=i) (v:=v) h
  exact .inl ⟨i,t,rfl,e⟩
 | .inr x,v,h=>by
  obtain ⟨t,e⟩:=Value.isStrOf_shape (x:=x) (v:=v) h
  exact .inr ⟨x,t,rfl,e⟩
theorem qL5 (a b:Int):decide ((Sum.inl a:Key)=Sum.inl b)=(a==b):=by
 by_cases e:a=b
 ·subst e;simp
 ·have h:¬ (Sum.inl a:Key)=Sum.inl b:=fun q=>e (Sum.inl.inj q)
  rw [decide_eq_false h]
  exact (beq_eq_false_iff_ne.mpr e).symm
theorem qKg (a b:Str):decide ((Sum.inr a:Key)=Sum.inr b)=decide (a=b):=by
 by_cases e:a=b
 ·subst e;simp
 ·have h:¬ (Sum.inr a:Key)=Sum.inr b:=fun q=>e (Sum.inr.inj q)
  rw [decide_eq_false h,decide_eq_false e]
theorem qL0 (a:Int) (b:Str):decide ((Sum.inl a:Key)=Sum.inr b)=false:=decide_eq_false (fun q=>nomatch q)
theorem qLR (a:Str) (b:Int):decide ((Sum.inr a:Key)=Sum.inl b)=false:=decide_eq_false (fun q=>nomatch q)
noncomputable def qGL (prog:Program) (w:World):PySem.KeyKind prog w Key where
 is:=qL2
 hash:=qOm w
 inj:=fun v a b ha hb=>by
  rcases qAY ha with ⟨i,t,rfl,rfl⟩ | ⟨x,t,rfl,rfl⟩
  ·rcases qAY hb with ⟨j,u,rfl,e⟩ | ⟨y,u,rfl,e⟩
   ·injection e with e1 _;rw [e1]
   ·exact nomatch e
  ·rcases qAY hb with ⟨j,u,rfl,e⟩ | ⟨y,u,rfl,e⟩
   ·exact nomatch e
   ·injection e with e1 _;rw [e1]
 byValue:=fun k v h=>by
  rcases qAY h with ⟨i,t,rfl,rfl⟩ | ⟨x,t,rfl,rfl⟩<;>rfl
 pyHash:=fun hv h=>by
  rcases qAY hv with ⟨i,t,rfl,rfl⟩ | ⟨x,t,rfl,rfl⟩
  ·exact wpAny_pyHash_int h
  ·exact wpAny_pyHash_str h
 eqBool:=fun hu hv h=>by
  rcases qAY hu with ⟨i,t,rfl,rfl⟩ | ⟨x,t,rfl,rfl⟩
  ·rcases qAY hv with ⟨j,u,rfl,rfl⟩ | ⟨y,u,rfl,rfl⟩
   ·rw [qL5] at h;exact wpAny_eqBool_int h
   ·rw [qL0] at h;exact SeqAt.EqAt.int_str i t y u _ _ _ _ h
  ·rcases qAY hv with ⟨j,u,rfl,rfl⟩ | ⟨y,u,rfl,rfl⟩
   ·rw [qLR] at h;exact SeqAt.EqAt.str_int x t j u _ _ _ _ h
   ·rw [qKg] at h;exact wpAny_eqBool_str h
 «strs»:=fun k x t v h=>by
  rcases qAY h with ⟨i,u,rfl,e⟩ | ⟨y,u,rfl,e⟩
  ·exact nomatch e
  ·injection e with e1 _
   subst e1
   cases v<;>rfl
open PySem PySem.Spec PyProof.Rows
inductive V where
 | non | bl (b:Bool) | int (i:Int) | str (x:Str) | byt (b:Array UInt8) | flt (b:UInt64) | ref (a:Addr) | ty (n:String)
 deriving DecidableEq
noncomputable def RelV:V -> Value -> Prop
 | .non,u=>u=Value.none
 | .bl b,u=>u=Value.bool b
 | .int i,u=>∃ t,u=Value.int i t
 | .str x,u=>∃ t,u=Value.str x t
 | .byt b,u=>∃ t,u=Value.bytes b t
 | .flt b,u=>∃ t,u=Value.float b t
 | .ref a,u=>u=Value.ref a
 | .ty n,u=>u=Value.type n
noncomputable abbrev Vals:List V -> List Value -> Prop:=Paired RelV
theorem Vals.length {xs:List V} {us:List Value} (r:Vals xs us):xs.length=us.length:=Paired.length r
theorem Vals.get:∀ {xs:List V} {us:List Value} {i:Nat} {x:V},Vals xs us -> xs[i]?=some x -> ∃ u,us[i]?=some u/\RelV x u
 | _,_,_,_,.nil,e=>by simp at e
 | _,_,0,_,.cons r _,e=>by simp at e;subst e;exact ⟨_,rfl,r⟩
 | _,_,i + 1,x,.cons _ t,e=>by
  obtain ⟨u,h1,h2⟩:=Vals.get (i:=i) (x:=x) t (by simpa using e)
  exact ⟨u,by simpa using h1,h2⟩
theorem Vals.set {x:V} {u:Value} (r:RelV x u):∀ {xs:List V} {us:List Value} (i:Nat),Vals xs us -> Vals (xs.set i x) (us.set i u)
 | _,_,_,.nil=>.nil
 | _,_,0,.cons _ t=>.cons r t
 | _,_,i + 1,.cons q t=>.cons q (Vals.set r i t)
theorem Vals.append:∀ {xs ys:List V} {us ws:List Value},Vals xs us -> Vals ys ws -> Vals (xs++ys) (us++ws)
 | _,_,_,_,.nil,s=>s
 | _,_,_,_,.cons r t,s=>.cons r (Vals.append t s)
theorem Vals.take:∀ {xs:List V} {us:List Value} (n:Nat),Vals xs us -> Vals (xs.take n) (us.take n)
 | _,_,0,_=>.nil
 | _,_,_ + 1,.nil=>.nil
 | _,_,n + 1,.cons r t=>.cons r (Vals.take n t)
theorem Vals.drop:∀ {xs:List V} {us:List Value} (n:Nat),Vals xs us -> Vals (xs.drop n) (us.drop n)
 | _,_,0,r=>r
 | _,_,_ + 1,.nil=>.nil
 | _,_,n + 1,.cons _ t=>Vals.drop n t
noncomputable def RelO:Option V -> Option Value -> Prop
 | some v,some u=>RelV v u
 | none,none=>True
 | _,_=>False
noncomputable def KV {κ:Type}:List (κ×V) -> List (κ×Value) -> Prop:=Paired fun (p:κ×V) (q:κ×Value)=>p.1=q.1/\RelV p.2 q.2
noncomputable def kV:Key -> V
 | .inl i=>.int i
 | .inr x=>.str x
inductive HO where
 | lst (xs:List V)
 | tup (xs:List V)
 | dK (kvs:List (Key×V)) | dT (kvs:List (List Key×V))
 | set (S:Int -> Bool) (n:Nat)
 | ins (C dx:Addr) (fs:List (Str×V))
 | own (x:Addr)
 | xd (fs:List (Str×V))
 | met (f x:Addr)
 | rng (lo hi:Int)
 | frz (o:Obj) (u:HO)
 | tbl (ps:Array Value)
 | ext (φ:Heap -> Prop)
noncomputable abbrev Hp:=Addr -> Option HO
noncomputable def upd (H:Hp) (a:Addr) (o:HO):Hp:=fun b=>if b=a then some o else H b
theorem qAO {H:Hp} {a:Addr} {o:HO}:upd H a o a=some o:=by unfold upd;rw [if_pos rfl]
theorem qAH {H:Hp} {a b:Addr} {o:HO} (h:b≠a):upd H a o b=H b:=by unfold upd;rw [if_neg h]
theorem ne_of_none {H:Hp} {a b:Addr} {o:HO} (h:H a=some o) (h':H b=none):a≠b:=by
 intro e;subst e;rw [h] at h';cases h'
section
variable (P:Program) (w:World)
noncomputable def ObjOk (H:Hp) (h:Heap) (a:Addr):HO -> Prop
 | .lst xs=>xs.length<=sizeLine/\∃ (its:List Value) (n:Nat),Vals xs its/\h.get? a=some { cls:=.type "list",data:=.seq its.toArray n }
 | .tup xs=>xs.length<=sizeLine/\∃ its:List Value,Vals xs its/\IsTup h a its.toArray
 | .dK kvs=>kvs.length<=sizeLine/\(a==sysModules)=false/\∃ vs,KV kvs vs/\h.DictOf (qGL P w) a vs
 | .dT kvs=>kvs.length<=sizeLine/\(a==sysModules)=false/\∃ xs:List (List Key×Addr×Value),
   Paired (fun (p:List Key×V) (q:List Key×Addr×Value)=>p.1=q.1/\H q.2.1=some (.tup (p.1.map kV))/\RelV p.2 q.2.2) kvs xs/\
   ∃ o es ep,h.get? a=some o/\o.ExactDict/\o.data=.dict es ep/\es.toList=xs.map (entryOfKey (tupleKind (qGL P w)))/\(xs.map (·.1)).Nodup
 | .set S n=>h.SetOf (intKind P w) a S n
 | .ins C dx fs=>H dx=some (.own a)/\fs.length<=1000/\dx≠a/\h.get? a=some (PySem.W.instObj C dx)/\
   ∃ mA,h.Ns1 dx mA/\(∀ f,RelO (fs.lookup f) (mA f))/\PySem.Within mA (fs.map (·.1))
 | .own _=>∃ o,h.get? a=some o
 | .xd fs=>∃ mA,h.Ns1 a mA/\∀ f,RelO (fs.lookup f) (mA f)
 | .rng lo hi=>∃ t u v,h.get? a=some { cls:=.type "range",data:=.fields #[.int lo t,.int hi u,.int 1 v] }
 | .frz o u=>h.get? a=some o/\ObjOk H h a u
 | .tbl ps=>h.get? a=some { cls:=.none,data:=.fields ps }
 | .met f x=>h.get? a=some (PySem.W.methodObj (.ref f) (.ref x))
 | .ext φ=>φ h/\(∃ o,h.get? a=some o)/\∀ h1 h2:Heap,φ h1 -> (∀ o,h1.get? a=some o -> h2.get? a=some o) -> φ h2
noncomputable def HOk (H:Hp) (h:Heap):Prop:=∀ a o,H a=some o -> ObjOk P w H h a o
end
section
variable {P:Program} {w:World} {H H':Hp} {h h':Heap} {a:Addr} {o:HO}
theorem ObjOk.lt (x:ObjOk P w H h a o):a < h.objs.size:=by
 cases o with
 | lst xs=>obtain ⟨_,_,_,_,e⟩:=x;exact Heap.lt_size e
 | tup xs=>obtain ⟨_,_,_,p⟩:=x;exact p.lt
 | dK kvs=>obtain ⟨_,_,_,_,o,_,_,e,_⟩:=x;exact Heap.lt_size e
 | dT kvs=>obtain ⟨_,_,_,_,o,_,_,e,_⟩:=x;exact Heap.lt_size e
 | set S n=>obtain ⟨o,_,_,_,e,_⟩:=x;exact Heap.lt_size e
 | ins C dx fs=>obtain ⟨_,_,_,e,_⟩:=x;exact Heap.lt_size e
 | own y=>obtain ⟨_,e⟩:=x;exact Heap.lt_size e
 | xd fs=>obtain ⟨_,⟨_,_,_,e,_⟩,_⟩:=x;exact Heap.lt_size e
 | rng lo hi=>obtain ⟨_,_,_,e⟩:=x;exact Heap.lt_size e
 | frz ob u=>obtain ⟨e,_⟩:=x;exact Heap.lt_size e
 | tbl ps=>exact Heap.lt_size (show h.get? a=some _ from x)
 | met f y=>exact Heap.lt_size (show h.get? a=some _ from x)
 | ext φ=>obtain ⟨_,⟨_,e⟩,_⟩:=x;exact Heap.lt_size e
theorem Paired.mapP {α β:Type} {F G:α -> β -> Prop}:∀ {l₁:List α} {l₂:List β},Paired F l₁ l₂ -> (∀ a b,F a b -> G a b) -> Paired G l₁ l₂
 | _,_,.nil,_=>.nil
 | _,_,.cons r t,f=>.cons (f _ _ r) (Paired.mapP t f)
theorem ObjOk.stay (x:ObjOk P w H h a o) (k:∀ b u,(b=a\/H b=some (.own a)) -> h.get? b=some u -> h'.get? b=some u)
  (ho:∀ b,H b=some (.own a) -> H' b=some (.own a)) (ht:∀ b xs,H b=some (.tup xs) -> H' b=some (.tup xs)):ObjOk P w H' h' a o:=by
 induction o with
 | lst xs=>obtain ⟨z,its,n,r,e⟩:=x;exact ⟨z,its,n,r,k _ _ (.inl rfl) e⟩
 | tup xs=>obtain ⟨z,its,r,ob,e,c⟩:=x;exact ⟨z,its,r,ob,k _ _ (.inl rfl) e,c⟩
 | dK kvs=>obtain ⟨z,y,vs,r,ob,es,ep,e,c⟩:=x;exact ⟨z,y,vs,r,ob,es,ep,k _ _ (.inl rfl) e,c⟩
 | dT kvs=>
  obtain ⟨z,y,xs,r,ob,es,ep,e,c⟩:=x
  exact ⟨z,y,xs,Paired.mapP r fun p q z=>⟨z.1,ht _ _ z.2.1,z.2.2⟩,ob,es,ep,k _ _ (.inl rfl) e,c⟩
 | set S n=>obtain ⟨ob,es,ep,t,e,c⟩:=x;exact ⟨ob,es,ep,t,k _ _ (.inl rfl) e,c⟩
 | ins C dx fs=>
  obtain ⟨d,z,ne,e,mA,⟨od,es,ep,e2,c⟩,r⟩:=x
  exact ⟨ho _ d,z,ne,k _ _ (.inl rfl) e,mA,⟨od,es,ep,k _ _ (.inr d) e2,c⟩,r⟩
 | own y=>obtain ⟨ob,e⟩:=x;exact ⟨ob,k _ _ (.inl rfl) e⟩
 | xd fs=>obtain ⟨mA,⟨od,es,ep,e,c⟩,r⟩:=x;exact ⟨mA,⟨od,es,ep,k _ _ (.inl rfl) e,c⟩,r⟩
 | rng lo hi=>obtain ⟨t,u,v,e⟩:=x;exact ⟨t,u,v,k _ _ (.inl rfl) e⟩
 | frz ob u ih=>obtain ⟨e,q⟩:=x;exact ⟨k _ _ (.inl rfl) e,ih q⟩
 | tbl ps=>
  have e:h.get? a=some { cls:=.none,data:=.fields ps }:=x
  show h'.get? a=some { cls:=.none,data:=.fields ps }
  exact k a _ (.inl rfl) e
 | met f y=>
  have e:h.get? a=some (PySem.W.methodObj (.ref f) (.ref y)):=x
  show h'.get? a=some (PySem.W.methodObj (.ref f) (.ref y))
  exact k a _ (.inl rfl) e
 | ext φ=>obtain ⟨p,⟨o,e⟩,st⟩:=x;exact ⟨st _ _ p fun o q=>k _ _ (.inl rfl) q,⟨o,k _ _ (.inl rfl) e⟩,st⟩
theorem HOk.lt (x:HOk P w H h) (e:H a=some o):a < h.objs.size:=(x a o e).lt
theorem HOk.fresh (x:HOk P w H h) (e:h.objs.size<=a):H a=none:=by
 cases q:H a with
 | none=>rfl
 | some u=>exact absurd (Nat.lt_of_lt_of_le (x.lt q) e) (Nat.lt_irrefl _)
theorem HOk.kept (x:HOk P w H h) (k:∀ b u,h.get? b=some u -> h'.get? b=some u):HOk P w H h':=fun a o e=>
 (x a o e).stay (fun b u _ q=>k b u q) (fun _ q=>q) fun _ _ q=>q
theorem HOk.laid (x:HOk P w H h) (k:∀ b u,h.get? b=some u -> h'.get? b=some u) (hp:h.objs.size<=a) (new:ObjOk P w (upd H a o) h' a o):HOk P w (upd H a o) h':=fun b u e=>by
 have hn:=x.fresh hp
 by_cases hb:b=a
 ·subst hb;rw [qAO] at e;cases e;exact new
 ·rw [qAH hb] at e
  exact (x b u e).stay (fun c v _ q=>k c v q) (fun c q=>by rw [qAH (ne_of_none q hn)];exact q) fun c xs q=>by rw [qAH (ne_of_none q hn)];exact q
end
noncomputable def Rd (H:Hp) (a:Addr) (u:HO):Prop:=H a=some u\/∃ o,H a=some (.frz o u)
theorem Rd.ok {P:Program} {w:World} {H:Hp} {h:Heap} {a:Addr} {u:HO} (r:Rd H a u) (x:HOk P w H h):ObjOk P w H h a u:=by
 rcases r with r | ⟨o,r⟩
 ·exact x a u r
 ·obtain ⟨_,q⟩:=x a _ r
  exact q
noncomputable def Mut:Option HO -> Prop
 | some (.lst _)=>True
 | some (.dK _)=>True
 | some (.dT _)=>True
 | some (.set _ _)=>True
 | some (.ins _ _ _)=>True
 | some (.ext _)=>True
 | _=>False
section
variable {P:Program} {w:World} {H:Hp} {h h':Heap} {x e:Addr} {o':HO}
theorem HOk.write (ok:HOk P w H h) (mu:Mut (H x)) (he:e=x\/H e=some (.own x)) (k:∀ b u,b≠e -> h.get? b=some u -> h'.get? b=some u) (heo:∃ u,h'.get? e=some u)
  (new:ObjOk P w (upd H x o') h' x o'):HOk P w (upd H x o') h':=fun b u q=>by
 have nown:∀ c y,H c=some (.own y) -> c≠x:=fun c y r z=>by subst z;rw [r] at mu;exact mu
 have ntup:∀ c xs,H c=some (.tup xs) -> c≠x:=fun c xs r z=>by subst z;rw [r] at mu;exact mu
 by_cases hb:b=x
 ·subst hb;rw [qAO] at q;cases q;exact new
 ·rw [qAH hb] at q
  by_cases hbe:b=e
  ·have q':H b=some (.own x):=by
    rcases he with z | z
    ·exact absurd (hbe.trans z) hb
    ·rw [hbe];exact z
   rw [q] at q';cases q'
   obtain ⟨v,hv⟩:=heo
   exact ⟨v,by rw [hbe];exact hv⟩
  ·refine (ok b u q).stay (fun c v hc r=>k c v ?_ r) (fun c r=>by rw [qAH (nown c b r)];exact r) fun c xs r=>by rw [qAH (ntup c xs r)];exact r
   rcases hc with rfl | hc
   ·exact hbe
   ·rintro rfl
    rcases he with z | z
    ·exact nown c b hc z
    ·rw [hc] at z;cases z;exact hb rfl
end
structure Un (fs ex:List Addr) (H H':Hp) (h h':Heap):Prop where
 keep:∀ b o,h.get? b=some o -> H b=none -> b∉fs -> b∉ex -> h'.get? b=some o
 slot:∀ b o,h.get? b=some o -> H b=none -> b∈fs -> b∉ex -> ∃ sl,h'.get? b=some { o with slots:=sl }
 free:∀ b o,h.get? b=some o -> H b=none -> b∉ex -> H' b=none
 there:∀ b o,h.get? b=some o -> b∉ex -> ∃ o',h'.get? b=some o'
 tups:∀ b xs,H b=some (.tup xs) -> H' b=some (.tup xs)
 frzs:∀ b o u,H b=some (.frz o u) -> H' b=some (.frz o u)
 tbls:∀ b ps,H b=some (.tbl ps) -> ∃ more,H' b=some (.tbl (ps++more))
section
variable {fs fs' ex ex':List Addr} {H H1 H2:Hp} {h h1 h2 h':Heap} {a x e:Addr} {o:HO}
theorem Un.any (u:Un fs ex H H1 h h1) {b:Addr} {ob:Obj} (q:h.get? b=some ob) (n:H b=none) (hx:b∉ex):∃ sl,h1.get? b=some { ob with slots:=sl }:=by
 by_cases hb:b∈fs
 ·exact u.slot b ob q n hb hx
 ·exact ⟨ob.slots,u.keep b ob q n hb hx⟩
theorem Un.kept (k:∀ b u,h.get? b=some u -> h'.get? b=some u):Un fs ex H H h h':=
 ⟨fun b ob q _ _ _=>k b ob q,fun b ob q _ _ _=>⟨ob.slots,k b ob q⟩,fun _ _ _ n _=>n,fun b ob q _=>⟨ob,k b ob q⟩,fun _ _ q=>q,fun _ _ _ q=>q,fun _ ps q=>⟨#[],by rw [q];simp⟩⟩
theorem Un.refl:Un fs ex H H h h:=Un.kept fun _ _ q=>q
theorem Un.laid (k:∀ b u,h.get? b=some u -> h'.get? b=some u) (hp:h.objs.size<=a) (hn:H a=none):Un fs ex H (upd H a o) h h' where
 keep:=fun b u q _ _ _=>k b u q
 slot:=fun b u q _ _ _=>⟨u.slots,k b u q⟩
 free:=fun b u q n _=>by rw [qAH (Nat.ne_of_lt (Nat.lt_of_lt_of_le (Heap.lt_size q) hp))];exact n
 there:=fun b u q _=>⟨u,k b u q⟩
 tups:=fun b xs q=>by rw [qAH (ne_of_none q hn)];exact q
 frzs:=fun b u xs q=>by rw [qAH (ne_of_none q hn)];exact q
 tbls:=fun b ps q=>⟨#[],by rw [qAH (ne_of_none q hn),q];simp⟩
theorem Un.write (mu:Mut (H x)) (he:e=x\/H e=some (.own x)) (k:∀ b u,b≠e -> h.get? b=some u -> h'.get? b=some u) (heo:∃ u,h'.get? e=some u):Un fs ex H (upd H x o) h h':=by
 have hx:∀ b,H b=none -> b≠x:=fun b n z=>by subst z;rw [n] at mu;exact mu
 have hb:∀ b,H b=none -> b≠e:=fun b n z=>by
  subst z
  rcases he with r | r
  ·exact hx b n r
  ·rw [n] at r;cases r
 have hm:∀ b u,H b=some u -> ¬ Mut (some u) -> b≠x:=fun b u q nm z=>by subst z;rw [q] at mu;exact nm mu
 refine ⟨fun b u q n _ _=>k b u (hb b n) q,fun b u q n _ _=>⟨u.slots,k b u (hb b n) q⟩,fun b u q n _=>by rw [qAH (hx b n)];exact n,fun b u q _=>?_,
  fun b xs q=>by rw [qAH (hm b _ q fun z=>z)];exact q,fun b u xs q=>by rw [qAH (hm b _ q fun z=>z)];exact q,fun b ps q=>⟨#[],by rw [qAH (hm b _ q fun z=>z),q];simp⟩⟩
 by_cases hbe:b=e
 ·subst hbe;exact heo
 ·exact ⟨u,k b u hbe q⟩
end
noncomputable def trk (h:Heap) (H:Hp):List Addr:=(List.range h.objs.size).filter fun a=>(H a).isSome
noncomputable def qHW (h:Heap) (H:Hp):Heap:=PySem.W.hideAll h (trk h H)
theorem qF9 (h:Heap) (H:Hp):(qHW h H).objs.size=h.objs.size:=PySem.W.hideAll_size _ _
theorem qHU {h:Heap} {H:Hp} {b:Addr} {o:Obj} (e:h.get? b=some o) (n:H b=none):(qHW h H).get? b=some o:=
 PySem.W.hideAll_get _ e fun hm=>by
  have q:(H b).isSome=true:=(List.mem_filter.mp hm).2
  rw [n] at q;simp at q
theorem qJD {h:Heap} {H:Hp} {b:Addr} {o:Obj} (e:(qHW h H).get? b=some o):h.get? b=some o/\H b=none:=by
 have e':h.get? b=some o:=PySem.W.of_hideAll (trk h H) e
 refine ⟨e',?_⟩
 cases q:H b with
 | none=>rfl
 | some x=>
  have hm:b∈trk h H:=List.mem_filter.mpr ⟨List.mem_range.mpr (Heap.lt_size e'),by simp [q]⟩
  have z:(qHW h H).get? b=none:=PySem.W.hideAll_none (trk h H) hm
  rw [z] at e;cases e
noncomputable def qJq (g h:Heap) (L:Addr):List (Addr×Obj):=(List.range h.objs.size).filterMap fun a=>if a=L\/(g.get? a).isSome=true then none else (h.get? a).map fun o=>(a,o)
noncomputable def qCH (g h:Heap) (L d:Addr):List (Addr×Obj):=(qJq g h L).filter fun p=>decide (p.1≠d)
open PySem PySem.Spec PyProof.Rows
structure Mod (K:PySem.W.Frag) (mg:Str -> Option Value) (base:Heap):Prop where
 kin:K.In base
 glob:base.Ns mainGlobals mg
 blt:∃ mb,base.Ns builtinsNs mb/\∀ x:Str,x≠"__name__" -> mb x=bootBuiltins x
 nolimit:base.NoLimit
structure Cx where
 prog:Program
 w:World
 K:PySem.W.Frag
 mg:Str -> Option Value
 base:Heap
 A:Around
 N:List Str
 s₀:Shared
 H₀:Hp
 env:Env
 outer:List Env
 stack:List Env
 ex:List Addr
 fn:Str -> Bool
 calm:Bool
 pn:List (Addr×Obj)
 xe:Value -> Shared -> Prop
noncomputable def frs (l:List Env):List Addr:=l.filterMap (·.frame)
noncomputable abbrev Cx.fs (X:Cx):List Addr:=frs X.outer
noncomputable def Vis (sc:Scope) (x:Str):Prop:=sc.names.lookup x=some .local\/sc.names.lookup x=some .cell\/sc.names.lookup x=some .free
noncomputable def Loc (sc:Scope) (x:Str):Prop:=sc.names.lookup x=some .local\/sc.names.lookup x=some .cell
noncomputable def qOZ (env:Env) (h:Heap) (m:Str -> Option Value) (x:Str) (u:Value):Prop:=
 (env.kindOf x=some .local/\m x=some u)\/((env.kindOf x=some .cell\/env.kindOf x=some .free)/\∃ c,env.cells.lookup x=some c/\h.IsCell c (some u))
structure Cx.Ok (X:Cx):Prop where
 mod:Mod X.K X.mg X.base
 kind:X.env.scope.kind=.function
 glob:X.env.globals=mainGlobals
 blt:X.env.builtins=builtinsNs
 above:X.s₀.heap.objs.size<=X.env.locals
 inj:∀ x y c,X.env.cells.lookup x=some c -> X.env.cells.lookup y=some c -> x=y
 has:∀ x,(X.env.kindOf x=some .cell\/X.env.kindOf x=some .free) -> ∃ c,X.env.cells.lookup x=some c
 cab:∀ x c,X.fn x=true -> X.env.cells.lookup x=some c -> X.s₀.heap.objs.size<=c
 hd:X.calm=true -> X.A.handled=none
 frames:X.A.frames=some X.stack
 stk:X.stack=X.outer\/(X.stack=X.env::X.outer/\X.env.frame=some X.env.locals)
 exf:∀ b∈X.ex,b≠X.env.locals/\∀ x c,X.env.cells.lookup x=some c -> c≠b
 bs:∀ b o,X.base.get? b=some o -> X.s₀.heap.get? b=some o/\X.H₀ b=none
 bsz:X.base.objs.size<=X.s₀.heap.objs.size
 noex:∀ b o,X.base.get? b=some o -> b∉X.ex
 exfs:∀ b∈X.ex,b∉X.fs
 funs:X.s₀.heap.FunFrames X.base X.outer
 frf:∀ b∈X.fs,X.H₀ b=none
structure Inv (X:Cx) (pins:List (Addr×Obj)) (σ:List (Option V)) (H:Hp) (s:Shared):Prop where
 ok:X.Ok
 os:s.os=X.s₀.os
 bare:AllBare s.gens
 base:Un X.fs X.ex X.H₀ H X.s₀.heap s.heap
 loc:∃ m,s.heap.Ns X.env.locals m/\∀ (i:Nat) (x:Str) (v:V),X.N[i]?=some x -> σ[i]?=some (some v) -> Vis X.env.scope x -> ∃ u,RelV v u/\qOZ X.env s.heap m x u
 cell:∀ x c,X.env.cells.lookup x=some c -> ∃ v,s.heap.IsCell c v
 free:H X.env.locals=none
 freeC:∀ x c,X.env.cells.lookup x=some c -> H c=none
 pin:∀ p∈X.pn++pins,s.heap.get? p.1=some p.2/\H p.1=none/\p.1≠X.env.locals/\p.1∉X.fs/\∀ v,p.2.data≠.cell v
 hok:HOk X.prog X.w H s.heap
 len:σ.length=X.N.length
section
variable {X:Cx} {pins:List (Addr×Obj)} {σ:List (Option V)} {H H':Hp} {s:Shared} {h':Heap}
theorem Cx.Ok.nofr (ok:X.Ok) {b:Addr} {o:Obj} (e:X.base.get? b=some o):b∉X.fs:=fun hb=>by
 have:=(ok.funs.mem hb).1
 rw [e] at this;cases this
theorem Inv.bs (I:Inv X pins σ H s):∀ b o,X.base.get? b=some o -> s.heap.get? b=some o/\H b=none:=fun b o e=>
 ⟨I.base.keep b o (I.ok.bs b o e).1 (I.ok.bs b o e).2 (I.ok.nofr e) (I.ok.noex b o e),I.base.free b o (I.ok.bs b o e).1 (I.ok.bs b o e).2 (I.ok.noex b o e)⟩
theorem Inv.bk (I:Inv X pins σ H s):∀ b o,X.base.get? b=some o -> s.heap.get? b=some o:=fun b o e=>(I.bs b o e).1
theorem Inv.mod (I:Inv X pins σ H s):Mod X.K X.mg X.base:=I.ok.mod
theorem Inv.kIn (I:Inv X pins σ H s):X.K.In s.heap:=I.ok.mod.kin.keeps I.bk
theorem Inv.lt (I:Inv X pins σ H s):X.env.locals < s.heap.objs.size:=let ⟨_,hn,_⟩:=I.loc;hn.lt
theorem Inv.sz (I:Inv X pins σ H s):X.s₀.heap.objs.size<=s.heap.objs.size:=Nat.le_trans I.ok.above (Nat.le_of_lt I.lt)
theorem Inv.nofs (I:Inv X pins σ H s) {a:Addr} (h:s.heap.objs.size<=a):a∉X.fs:=fun hb=>by
 obtain ⟨_,o,ho,_⟩:=I.ok.funs.mem hb
 exact absurd (Nat.lt_of_lt_of_le (Heap.lt_size ho) (Nat.le_trans I.sz h)) (Nat.lt_irrefl _)
theorem Inv.cne (I:Inv X pins σ H s):∀ x c,X.env.cells.lookup x=some c -> c≠X.env.locals:=fun x c e z=>by
 obtain ⟨v,o,ho,hd⟩:=I.cell x c e
 obtain ⟨m,⟨o',es,ep,ho',hd',_⟩,_⟩:=I.loc
 rw [z,ho'] at ho;cases ho;rw [hd'] at hd;cases hd
theorem Inv.funs (I:Inv X pins σ H s):s.heap.FunFrames X.base X.outer:=by
 have all:∀ (l:List Env),(∀ b∈frs l,b∈X.fs) -> X.s₀.heap.FunFrames X.base l -> s.heap.FunFrames X.base l:=by
  intro l
  induction l with
  | nil=>intro _ _;trivial
  | cons env r ih=>
   intro hs hl
   obtain ⟨hk,⟨L,o,hf,hn,ho,hd⟩,hr⟩:=hl
   have hL:L∈X.fs:=hs L (by unfold frs;rw [List.filterMap_cons,hf];exact List.mem_cons_self)
   obtain ⟨sl,e⟩:=I.base.slot L o ho (I.ok.frf L hL) hL fun z=>I.ok.exfs L z hL
   exact ⟨hk,⟨L,_,hf,hn,e,hd⟩,ih (fun b hb=>hs b (by unfold frs;rw [List.filterMap_cons,hf];exact List.mem_cons_of_mem _ hb)) hr⟩
 exact all X.outer (fun _ hb=>hb) I.ok.funs
theorem Inv.stack (I:Inv X pins σ H s):s.heap.FunFrames X.base X.stack:=by
 rcases I.ok.stk with e | ⟨e,hf⟩
 ·rw [e];exact I.funs
 ·rw [e]
  obtain ⟨m,hn,_⟩:=I.loc
  refine .cons (by rw [I.ok.kind];decide) hf hn ?_ I.funs
  exact Heap.get?_none_of_le (Nat.le_trans I.ok.bsz I.ok.above)
theorem Inv.stkSub (I:Inv X pins σ H s):∀ b∈frs X.stack,b∈X.env.locals::X.fs:=fun b hb=>by
 rcases I.ok.stk with e | ⟨e,hf⟩
 ·rw [e] at hb;exact List.mem_cons_of_mem _ hb
 ·rw [e] at hb
  unfold frs at hb
  rw [List.filterMap_cons,hf] at hb
  exact hb
theorem Inv.stkFree (I:Inv X pins σ H s):∀ b∈frs X.stack,H b=none:=fun b hb=>by
 rcases List.mem_cons.mp (I.stkSub b hb) with e | hb
 ·rw [e];exact I.free
 ·obtain ⟨_,o,ho,_⟩:=I.ok.funs.mem hb
  exact I.base.free b o ho (I.ok.frf b hb) fun z=>I.ok.exfs b z hb
theorem Inv.step {g':Array GenState} {t':Nat} {d':Drawn} {ch:List Addr} (I:Inv X pins σ H s)
  (hch:∀ b∈ch,(b∈X.ex\/X.s₀.heap.objs.size<=b)/\b≠X.env.locals/\(∀ x c,X.env.cells.lookup x=some c -> c≠b)/\∀ p∈X.pn++pins,p.1≠b)
  (keep:∀ b o,b≠X.env.locals -> b∉X.fs -> b∉ch -> s.heap.get? b=some o -> H b=none -> h'.get? b=some o)
  (slot:∀ b o,b≠X.env.locals -> b∈X.fs -> b∉ch -> s.heap.get? b=some o -> H b=none -> ∃ sl,h'.get? b=some { o with slots:=sl }) (free:∀ b o,b∉ch -> s.heap.get? b=some o -> H b=none -> H' b=none)
  (there:∀ b o,b∉ch -> s.heap.get? b=some o -> ∃ o',h'.get? b=some o')
  (tups:∀ b xs,H b=some (.tup xs) -> H' b=some (.tup xs)) (frzs:∀ b o u,H b=some (.frz o u) -> H' b=some (.frz o u)) (tbls:∀ b ps,H b=some (.tbl ps) -> ∃ more,H' b=some (.tbl (ps++more)))
  (ns:∀ m,s.heap.Ns X.env.locals m -> h'.Ns X.env.locals m) (hok:HOk X.prog X.w H' h') (hg:AllBare g'):
  Inv X pins σ H' { s with heap:=h',gens:=g',drawn:=d',toks:=t' }:=by
 have neL:∀ b o,X.s₀.heap.get? b=some o -> b≠X.env.locals:=fun b o e=>Nat.ne_of_lt (Nat.lt_of_lt_of_le (Heap.lt_size e) I.ok.above)
 have neC:∀ b o,X.s₀.heap.get? b=some o -> b∉X.ex -> b∉ch:=fun b o e hx hb=>by
  rcases (hch b hb).1 with z | z
  ·exact hx z
  ·exact absurd (Nat.lt_of_lt_of_le (Heap.lt_size e) z) (Nat.lt_irrefl _)
 have cellK:∀ x c,X.env.cells.lookup x=some c -> ∀ v,s.heap.IsCell c v -> h'.IsCell c v:=fun x c e v ⟨o,ho,hd⟩=>by
  have nch:c∉ch:=fun z=>(hch c z).2.2.1 x c e rfl
  by_cases hc:c∈X.fs
  ·obtain ⟨sl,q⟩:=slot c o (I.cne x c e) hc nch ho (I.freeC x c e)
   exact ⟨_,q,hd⟩
  ·exact ⟨o,keep c o (I.cne x c e) hc nch ho (I.freeC x c e),hd⟩
 refine ⟨I.ok,I.os,hg,⟨fun b o e n hb hx=>?_,fun b o e n hb hx=>?_,fun b o e n hx=>?_,fun b o e hx=>?_,fun b xs e=>tups b xs (I.base.tups b xs e),fun b o xs e=>frzs b o xs (I.base.frzs b o xs e),fun b ps e=>?_⟩,?_,fun x c e=>?_,?_,fun x c e=>?_,fun p hp=>?_,hok,I.len⟩
 ·exact keep b o (neL b o e) hb (neC b o e hx) (I.base.keep b o e n hb hx) (I.base.free b o e n hx)
 ·obtain ⟨sl,e1⟩:=I.base.slot b o e n hb hx
  obtain ⟨sl',e2⟩:=slot b _ (neL b o e) hb (neC b o e hx) e1 (I.base.free b o e n hx)
  exact ⟨sl',e2⟩
 ·obtain ⟨o',e1⟩:=I.base.there b o e hx
  exact free b o' (neC b o e hx) e1 (I.base.free b o e n hx)
 ·obtain ⟨o',e1⟩:=I.base.there b o e hx
  exact there b o' (neC b o e hx) e1
 ·obtain ⟨m1,e1⟩:=I.base.tbls b ps e
  obtain ⟨m2,e2⟩:=tbls b _ e1
  exact ⟨m1++m2,by rw [e2,Array.append_assoc]⟩
 ·obtain ⟨m,hn,hl⟩:=I.loc
  refine ⟨m,ns m hn,fun i x v e1 e2 e3=>?_⟩
  obtain ⟨u,r,l⟩:=hl i x v e1 e2 e3
  refine ⟨u,r,?_⟩
  rcases l with l | ⟨k,c,e,z⟩
  ·exact .inl l
  ·exact .inr ⟨k,c,e,cellK x c e _ z⟩
 ·obtain ⟨v,z⟩:=I.cell x c e
  exact ⟨v,cellK x c e v z⟩
 ·obtain ⟨m,⟨o,_,_,ho,_⟩,_⟩:=I.loc
  exact free _ o (fun z=>(hch _ z).2.1 rfl) ho I.free
 ·obtain ⟨v,o,ho,hd⟩:=I.cell x c e
  exact free c o (fun z=>(hch c z).2.2.1 x c e rfl) ho (I.freeC x c e)
 ·obtain ⟨e,n,ne,nf,d⟩:=I.pin p hp
  have nch:p.1∉ch:=fun z=>(hch p.1 z).2.2.2 p hp rfl
  exact ⟨keep p.1 p.2 ne nf nch e n,free p.1 p.2 nch e n,ne,nf,d⟩
theorem Inv.un {t':Nat} (I:Inv X pins σ H s) (u:Un X.fs [] H H' s.heap h') (hok:HOk X.prog X.w H' h'):Inv X pins σ H' { s with heap:=h',toks:=t' }:=by
 obtain ⟨m,⟨o,es,ep,ho,r⟩,_⟩:=id I.loc
 obtain ⟨sl,hL⟩:=u.any ho I.free (by simp)
 exact I.step (g':=s.gens) (d':=s.drawn) (ch:=[]) (fun _ z=>nomatch z) (fun b o _ hb _ e n=>u.keep b o e n hb (by simp)) (fun b o _ hb _ e n=>u.slot b o e n hb (by simp)) (fun b o _ e n=>u.free b o e n (by simp)) (fun b o _ e=>u.there b o e (by simp)) u.tups u.frzs u.tbls (fun m' hm=>by
  obtain ⟨o',es',ep',ho',r'⟩:=hm
  rw [ho] at ho';cases ho'
  exact ⟨_,es',ep',hL,r'⟩) hok I.bare
theorem Inv.call {g':Array GenState} {t':Nat} {d':Drawn} {ch:List Addr} (I:Inv X pins σ H s) (u:Un (frs X.stack) ch H H' s.heap h') (hok:HOk X.prog X.w H' h') (hg:AllBare g')
  (hch:∀ b∈ch,(b∈X.ex\/X.s₀.heap.objs.size<=b)/\b≠X.env.locals/\(∀ x c,X.env.cells.lookup x=some c -> c≠b)/\∀ p∈X.pn++pins,p.1≠b):
  Inv X pins σ H' { s with heap:=h',gens:=g',drawn:=d',toks:=t' }:=by
 obtain ⟨m,⟨o,es,ep,ho,r⟩,_⟩:=id I.loc
 obtain ⟨sl,hL⟩:=u.any ho I.free fun z=>(hch _ z).2.1 rfl
 exact I.step (ch:=ch) hch (fun b o hL hb hc e n=>u.keep b o e n (fun z=>(List.mem_cons.mp (I.stkSub b z)).elim hL hb) hc) (fun b o _ _ hc e n=>u.any e n hc) (fun b o hc e n=>u.free b o e n hc) (fun b o hc e=>u.there b o e hc) u.tups u.frzs u.tbls (fun m' hm=>by
  obtain ⟨o',es',ep',ho',r'⟩:=hm
  rw [ho] at ho';cases ho'
  exact ⟨_,es',ep',hL,r'⟩) hok hg
theorem Inv.turned {t':Nat} {it:Addr} (I:Inv X pins σ H s) (k:∀ b o,b≠it -> s.heap.get? b=some o -> h'.get? b=some o) (hn:H it=none) (hL:it≠X.env.locals)
  (h1:it∈X.ex\/X.s₀.heap.objs.size<=it) (h2:∀ x c,X.env.cells.lookup x=some c -> c≠it) (h3:∀ p∈X.pn++pins,p.1≠it):Inv X pins σ H { s with heap:=h',toks:=t' }:=by
 have nit:∀ b u,H b=some u -> b≠it:=fun b u e z=>by rw [z,hn] at e;cases e
 refine I.step (g':=s.gens) (d':=s.drawn) (ch:=[it]) (fun b hb=>?_) (fun b o _ _ hc e _=>k b o (fun z=>hc (by simp [z])) e) (fun b o _ _ hc e _=>⟨o.slots,k b o (fun z=>hc (by simp [z])) e⟩) (fun _ _ _ _ n=>n)
  (fun b o hc e=>⟨o,k b o (fun z=>hc (by simp [z])) e⟩) (fun _ _ e=>e) (fun _ _ _ e=>e) (fun b ps e=>⟨#[],by rw [e];simp⟩) (fun m hm=>?_) (fun b u e=>?_) I.bare
 ·have e:b=it:=by simpa using hb
  subst e
  exact ⟨h1,hL,h2,h3⟩
 ·obtain ⟨o,es,ep,ho,r⟩:=hm
  exact ⟨o,es,ep,k _ o (Ne.symm hL) ho,r⟩
 ·refine (I.hok b u e).stay (fun c v hc q=>k c v ?_ q) (fun _ q=>q) fun _ _ q=>q
  rcases hc with z | z
  ·rw [z];exact nit b u e
  ·exact nit c _ z
theorem Inv.tok (I:Inv X pins σ H s) (t:Nat):Inv X pins σ H { s with toks:=t }:=I.un (h':=s.heap) (t':=t) Un.refl I.hok
theorem Inv.kept {t':Nat} (I:Inv X pins σ H s) (k:∀ b u,s.heap.get? b=some u -> h'.get? b=some u):Inv X pins σ H { s with heap:=h',toks:=t' }:=I.un (Un.kept k) (I.hok.kept k)
theorem Inv.laid {a:Addr} {o:HO} {t':Nat} (I:Inv X pins σ H s) (k:∀ b u,s.heap.get? b=some u -> h'.get? b=some u) (hp:s.heap.objs.size<=a) (new:ObjOk X.prog X.w (upd H a o) h' a o):
  Inv X pins σ (upd H a o) { s with heap:=h',toks:=t' }:=I.un (Un.laid k hp (I.hok.fresh hp)) (I.hok.laid k hp new)
theorem Inv.write {x e:Addr} {o:HO} {t':Nat} (I:Inv X pins σ H s) (mu:Mut (H x)) (he:e=x\/H e=some (.own x)) (k:∀ b u,b≠e -> s.heap.get? b=some u -> h'.get? b=some u) (heo:∃ u,h'.get? e=some u)
  (new:ObjOk X.prog X.w (upd H x o) h' x o):Inv X pins σ (upd H x o) { s with heap:=h',toks:=t' }:=I.un (Un.write mu he k heo) (I.hok.write mu he k heo new)
theorem Inv.pins_of {pins':List (Addr×Obj)} (I:Inv X pins σ H s) (h:∀ p∈pins',s.heap.get? p.1=some p.2/\H p.1=none/\p.1≠X.env.locals/\p.1∉X.fs/\∀ v,p.2.data≠.cell v):Inv X pins' σ H s:=
 ⟨I.ok,I.os,I.bare,I.base,I.loc,I.cell,I.free,I.freeC,fun p hp=>(List.mem_append.mp hp).elim (fun z=>I.pin p (List.mem_append_left _ z)) (h p),I.hok,I.len⟩
theorem qFC {N:List Str} (hN:N.Nodup) {i j:Nat} {x:Str} (a:N[i]?=some x) (b:N[j]?=some x):i=j:=by
 obtain ⟨h1,e1⟩:=List.getElem?_eq_some_iff.mp a
 obtain ⟨h2,e2⟩:=List.getElem?_eq_some_iff.mp b
 exact (List.getElem_inj hN).mp (e1.trans e2.symm)
theorem qEC {M:Model} {A:Around} {E:Value -> Shared -> Prop} {i:Nat} {x:Str} {v:V} {u:Value} {Q:Unit -> Shared -> Prop} (I:Inv X pins σ H s) (hN:X.N.Nodup) (hi:X.N[i]?=some x) (hx:Loc X.env.scope x) (r:RelV v u)
  (h:∀ s',Inv X pins (σ.set i (some v)) H s' -> (∃ a,Heap.SameBut a s.heap s'.heap/\(a=X.env.locals\/X.env.cells.lookup x=some a)) -> Q () s') (hf:X.fn x=true\/X.env.scope.names.lookup x=some .local:=by first | exact .inl rfl | exact .inr rfl | assumption):wpAny M A (storeName X.env x u) Q E s:=by
 obtain ⟨m,hn,hl⟩:=id I.loc
 have hcls:(X.env.scope.kind==.class||(X.env.scope.kind==.module&&X.env.locals != X.env.globals))=false:=by rw [I.ok.kind];rfl
 have hiσ:i < σ.length:=by rw [I.len];exact (List.getElem?_eq_some_iff.mp hi).1
 have cne:=I.cne
 have tracked:∀ {a:Addr} {h':Heap},(∃ o,s.heap.get? a=some o/\H a=none) -> Heap.SameBut a s.heap h' -> HOk X.prog X.w H h':=fun {a h'} ha hs b ob e=>by
  obtain ⟨_,_,hfree⟩:=ha
  refine (I.hok b ob e).stay (fun c w' hc q=>(hs.2 c ?_).trans q) (fun _ q=>q) fun _ _ q=>q
  rintro rfl
  rcases hc with rfl | hc
  ·rw [hfree] at e;cases e
  ·rw [hfree] at hc;cases hc
 rcases hx with hk | hk
 ·refine wpAny_storeName_local hk hn (fun h' hn' hs=>?_) hcls
  obtain ⟨oL,_,_,hoL,_⟩:=id hn
  refine h _ ⟨I.ok,I.os,I.bare,⟨fun b o e n hb hx=>?_,fun b o e n hb hx=>?_,I.base.free,fun b o e hx=>?_,I.base.tups,I.base.frzs,I.base.tbls⟩,⟨_,hn',fun j y v' e1 e2 e3=>?_⟩,fun y c e=>?_,I.free,I.freeC,fun p hp=>?_,tracked ⟨oL,hoL,I.free⟩ hs,by simpa using I.len⟩ ⟨_,hs,.inl rfl⟩
  ·exact (hs.2 b (Nat.ne_of_lt (Nat.lt_of_lt_of_le (Heap.lt_size e) I.ok.above))).trans (I.base.keep b o e n hb hx)
  ·obtain ⟨sl,e1⟩:=I.base.slot b o e n hb hx
   exact ⟨sl,(hs.2 b (Nat.ne_of_lt (Nat.lt_of_lt_of_le (Heap.lt_size e) I.ok.above))).trans e1⟩
  ·obtain ⟨o',e1⟩:=I.base.there b o e hx
   exact ⟨o',(hs.2 b (Nat.ne_of_lt (Nat.lt_of_lt_of_le (Heap.lt_size e) I.ok.above))).trans e1⟩
  ·by_cases hj:j=i
   ·subst hj
    rw [hi] at e1;cases e1
    rw [List.getElem?_set_self hiσ] at e2
    cases e2
    exact ⟨u,r,.inl ⟨hk,by simp⟩⟩
   ·rw [List.getElem?_set_ne (Ne.symm hj)] at e2
    obtain ⟨u',r',q⟩:=hl j y v' e1 e2 e3
    refine ⟨u',r',?_⟩
    rcases q with ⟨k,e⟩ | ⟨k,c,e,z⟩
    ·refine .inl ⟨k,?_⟩
     have:y≠x:=fun e=>hj (qFC hN e1 (e ▸ hi))
     simp [this,e]
    ·exact .inr ⟨k,c,e,z.sameBut hs (cne y c e)⟩
  ·obtain ⟨w',z⟩:=I.cell y c e
   exact ⟨w',z.sameBut hs (cne y c e)⟩
  ·obtain ⟨e,n,ne,nf,d⟩:=I.pin p hp
   exact ⟨(hs.2 p.1 ne).trans e,n,ne,nf,d⟩
 ·have hfn:X.fn x=true:=by
   rcases hf with z | z
   ·exact z
   ·rw [z] at hk;cases hk
  obtain ⟨c,hc⟩:=I.ok.has x (.inl hk)
  obtain ⟨w',z⟩:=I.cell x c hc
  refine wpAny_storeName_cell I.ok.kind hk hc z (fun h' hc' hs=>?_)
  obtain ⟨oc,hoc,hocd⟩:=id z
  refine h { s with heap:=h' } ⟨I.ok,I.os,I.bare,⟨fun b o e n hb hx=>?_,fun b o e n hb hx=>?_,I.base.free,fun b o e hx=>?_,I.base.tups,I.base.frzs,I.base.tbls⟩,⟨m,hn.sameBut hs (Ne.symm (cne x c hc)),fun j y v' e1 e2 e3=>?_⟩,fun y c' e=>?_,I.free,I.freeC,fun p hp=>?_,tracked ⟨oc,hoc,I.freeC x c hc⟩ hs,by simpa using I.len⟩ ⟨c,hs,.inr hc⟩
  ·exact (hs.2 b (Nat.ne_of_lt (Nat.lt_of_lt_of_le (Heap.lt_size e) (I.ok.cab x c hfn hc)))).trans (I.base.keep b o e n hb hx)
  ·obtain ⟨sl,e1⟩:=I.base.slot b o e n hb hx
   exact ⟨sl,(hs.2 b (Nat.ne_of_lt (Nat.lt_of_lt_of_le (Heap.lt_size e) (I.ok.cab x c hfn hc)))).trans e1⟩
  ·obtain ⟨o',e1⟩:=I.base.there b o e hx
   exact ⟨o',(hs.2 b (Nat.ne_of_lt (Nat.lt_of_lt_of_le (Heap.lt_size e) (I.ok.cab x c hfn hc)))).trans e1⟩
  ·by_cases hj:j=i
   ·subst hj
    rw [hi] at e1;cases e1
    rw [List.getElem?_set_self hiσ] at e2
    cases e2
    exact ⟨u,r,.inr ⟨.inl hk,c,hc,hc'⟩⟩
   ·rw [List.getElem?_set_ne (Ne.symm hj)] at e2
    obtain ⟨u',r',q⟩:=hl j y v' e1 e2 e3
    refine ⟨u',r',?_⟩
    rcases q with q | ⟨k,c',e,z'⟩
    ·exact .inl q
    ·refine .inr ⟨k,c',e,z'.sameBut hs ?_⟩
     rintro rfl
     exact hj (qFC hN e1 (I.ok.inj _ _ _ e hc ▸ hi))
  ·by_cases hcc:c'=c
   ·subst hcc;exact ⟨_,hc'⟩
   ·obtain ⟨w2,z2⟩:=I.cell y c' e
    exact ⟨w2,z2.sameBut hs hcc⟩
  ·obtain ⟨e,n,ne,nf,d⟩:=I.pin p hp
   refine ⟨(hs.2 p.1 ?_).trans e,n,ne,nf,d⟩
   intro q
   rw [q,hoc] at e
   have q':oc=p.2:=Option.some.inj e
   exact d w' (by rw [<- q'];exact hocd)
theorem qBv {M:Model} {A:Around} {E:Value -> Shared -> Prop} {i:Nat} {x:Str} {v:V} {u:Value} {Q:Unit -> Shared -> Prop} (I:Inv X pins σ H s) (hN:X.N.Nodup) (hi:X.N[i]?=some x) (hx:Loc X.env.scope x) (r:RelV v u)
  (h:∀ s',Inv X pins (σ.set i (some v)) H s' -> Q () s') (hf:X.fn x=true\/X.env.scope.names.lookup x=some .local:=by first | exact .inl rfl | exact .inr rfl | assumption):wpAny M A (storeName X.env x u) Q E s:=
 qEC I hN hi hx r (fun s' I' _=>h s' I') hf
theorem Inv.call' {s':Shared} {ch:List Addr} (I:Inv X pins σ H s) (ho:s'.os=s.os) (u:Un (frs X.stack) ch H H' s.heap s'.heap) (hok:HOk X.prog X.w H' s'.heap) (hg:AllBare s'.gens)
  (hch:∀ b∈ch,(b∈X.ex\/X.s₀.heap.objs.size<=b)/\b≠X.env.locals/\(∀ x c,X.env.cells.lookup x=some c -> c≠b)/\∀ p∈X.pn++pins,p.1≠b):Inv X pins σ H' s':=by
 obtain ⟨h',g',d',t',o'⟩:=s'
 have e:o'=s.os:=ho
 subst e
 exact I.call (g':=g') (t':=t') (d':=d') u hok hg hch
end
noncomputable abbrev XK:=Value -> Option Addr -> Hp -> Prop
noncomputable abbrev St:=List (Option V)
noncomputable abbrev VK:=V -> Hp -> Prop
noncomputable abbrev TE:=St -> Hp -> VK -> Prop
noncomputable abbrev TT:=St -> Hp -> (Bool -> Hp -> Prop) -> Prop
noncomputable abbrev TA:=St -> Hp -> (List V -> Hp -> Prop) -> Prop
structure qG4 where
 nx:St -> Hp -> Prop
 rt:VK
 bk:St -> Hp -> Prop:=fun _ _=>False
 ct:St -> Hp -> Prop:=fun _ _=>False
noncomputable abbrev TS:=qG4 -> St -> Hp -> Prop
noncomputable def EP (X:Cx) (pins:List (Addr×Obj)) (σ:St) (Q:VK) (u:Value) (s':Shared):Prop:=∃ v H',Inv X pins σ H' s'/\RelV v u/\Q v H'
noncomputable def TP (X:Cx) (pins:List (Addr×Obj)) (σ:St) (Q:Bool -> Hp -> Prop) (b:Bool) (s':Shared):Prop:=∃ H',Inv X pins σ H' s'/\Q b H'
noncomputable def AP (X:Cx) (pins:List (Addr×Obj)) (σ:St) (Q:List V -> Hp -> Prop) (us:List Value) (s':Shared):Prop:=∃ vs H',Inv X pins σ H' s'/\Vals vs us/\Q vs H'
noncomputable def SP (X:Cx) (pins:List (Addr×Obj)) (D:qG4) (f:Flow) (s':Shared):Prop:=
 match f with
 | .next=>∃ σ' H',Inv X pins σ' H' s'/\D.nx σ' H'
 | .brk=>∃ σ' H',Inv X pins σ' H' s'/\D.bk σ' H'
 | .cont=>∃ σ' H',Inv X pins σ' H' s'/\D.ct σ' H'
 | .ret u=>∃ v σ' H',Inv X pins σ' H' s'/\RelV v u/\D.rt v H'
noncomputable def PE (X:Cx) (e:Expr) (t:TE):Prop:=
 ∀ (pins:List (Addr×Obj)) (s:Shared) (σ:St) (H:Hp) (Q:VK),Inv X pins σ H s -> t σ H Q -> wpAny (model X.prog X.w) X.A (eval e X.env) (EP X pins σ Q) X.xe s
noncomputable def PT (X:Cx) (e:Expr) (t:TT):Prop:=
 ∀ (pins:List (Addr×Obj)) (s:Shared) (σ:St) (H:Hp) (Q:Bool -> Hp -> Prop),Inv X pins σ H s -> t σ H Q -> wpAny (model X.prog X.w) X.A (isTrue e X.env (eval e X.env)) (TP X pins σ Q) X.xe s
noncomputable def PW (X:Cx) (e:Expr) (t:TT):Prop:=
 ∀ (whole:Sem Value) (pins:List (Addr×Obj)) (s:Shared) (σ:St) (H:Hp) (Q:Bool -> Hp -> Prop),Inv X pins σ H s -> t σ H Q -> wpAny (model X.prog X.w) X.A (isTrue e X.env whole) (TP X pins σ Q) X.xe s
theorem PW.pt {X:Cx} {e:Expr} {t:TT} (h:PW X e t):PT X e t:=h _
noncomputable def PA (X:Cx) (es:List Expr) (t:TA):Prop:=
 ∀ (pos:Pos) (pins:List (Addr×Obj)) (s:Shared) (σ:St) (H:Hp) (Q:List V -> Hp -> Prop),Inv X pins σ H s -> t σ H Q -> wpAny (model X.prog X.w) X.A (spliced (backTo pos (starEach es X.env))) (AP X pins σ Q) X.xe s
noncomputable def PS (X:Cx) (st:Stmt) (t:TS):Prop:=
 ∀ (pins:List (Addr×Obj)) (s:Shared) (σ:St) (H:Hp) (D:qG4),Inv X pins σ H s -> t D σ H -> wpAny (model X.prog X.w) X.A (exec st X.env) (SP X pins D) X.xe s
noncomputable def PSs (X:Cx) (st:List Stmt) (t:TS):Prop:=
 ∀ (pins:List (Addr×Obj)) (s:Shared) (σ:St) (H:Hp) (D:qG4),Inv X pins σ H s -> t D σ H -> wpAny (model X.prog X.w) X.A (execs st X.env) (SP X pins D) X.xe s
theorem thn {α:Type} {t:Sem α} {Q Q':α -> Shared -> Prop} {M:Model} {A:Around} {E:Value -> Shared -> Prop} {s:Shared} (h:wpAny M A t Q E s) (hQ:∀ a s,Q a s -> Q' a s):wpAny M A t Q' E s:=wpAny_mono h hQ fun _ _ x=>x
open PySem PySem.Spec PyProof.Rows
section
variable {X:Cx}
theorem bin {a b:Expr} {ta tb:TE} (ha:PE X a ta) (hb:PE X b tb) {pins:List (Addr×Obj)} {s:Shared} {σ:St} {H:Hp} {R:V -> V -> Hp -> Prop} (I:Inv X pins σ H s) (h:ta σ H fun x H1=>tb σ H1 fun y H2=>R x y H2)
  {α:Type} {Q:α -> Shared -> Prop} {f:Value -> Value -> Sem α}
  (hf:∀ v u s2 x y H2,Inv X pins σ H2 s2 -> RelV x v -> RelV y u -> R x y H2 -> wpAny (model X.prog X.w) X.A (f v u) Q X.xe s2):
  wpAny (model X.prog X.w) X.A (eval a X.env) (fun v s₁=>wpAny (model X.prog X.w) X.A (eval b X.env) (fun u s₂=>wpAny (model X.prog X.w) X.A (f v u) Q X.xe s₂) X.xe s₁) X.xe s:=by
 refine thn (ha pins s σ H _ I h) fun v s1 ⟨x,H1,I1,r1,q1⟩=>?_
 refine thn (hb pins s1 σ H1 _ I1 q1) fun u s2 ⟨y,H2,I2,r2,q2⟩=>?_
 exact hf v u s2 x y H2 I2 r1 r2 q2
noncomputable def qOe (i:Nat):TE:=fun σ H Q=>∃ v,σ[i]?=some (some v)/\Q v H
noncomputable def tC (v:V):TE:=fun _ H Q=>Q v H
theorem pe_var {i:Nat} {x:Str} {pos:Pos} (hN:X.N[i]?=some x) (hv:Vis X.env.scope x) (hd:(x==("__debug__":Str))=false:=by decide) (hcd:(x==("__classdict__":Str))=false:=by decide):PE X (.Name x pos) (qOe i):=by
 intro pins s σ H Q I h
 obtain ⟨v,e,h⟩:=h
 obtain ⟨m,hn,hl⟩:=I.loc
 obtain ⟨u,r,l⟩:=hl i x v hN e hv
 have fin:EP X pins σ Q u s:=⟨v,H,I,r,h⟩
 rcases l with ⟨hk,hm⟩ | ⟨hk,c,hc,hcell⟩
 ·exact wpAny_Name (wpAny_loadName_local I.ok.kind hk hn hm fin) hd
 ·rcases hk with hk | hk
  ·exact wpAny_Name (wpAny_loadName_cell I.ok.kind hk hc hcell fin) hd
  ·exact wpAny_Name (wpAny_loadName_free I.ok.kind hk hc hcell fin hcd) hd
theorem pe_int {i j pos}:PE X (.Constant (.int i) j pos) (tC (.int i)):=fun _ _ _ H _ I h=>wpAny_Constant_int ⟨.int i,H,I.tok _,⟨_,rfl⟩,h⟩
theorem pe_bl {b j pos}:PE X (.Constant (.bool b) j pos) (tC (.bl b)):=fun _ _ _ H _ I h=>Constant_bool ⟨.bl b,H,I,rfl,h⟩
theorem pe_non {j pos}:PE X (.Constant .none j pos) (tC .non):=fun _ _ _ H _ I h=>Constant_none ⟨.non,H,I,rfl,h⟩
theorem pe_str {x j pos}:PE X (.Constant (.str x) j pos) (tC (.str x)):=fun _ _ _ H _ I h=>Calls.Constant_str ⟨.str x,H,I.tok _,⟨_,rfl⟩,h⟩
noncomputable def Gl (X:Cx) (x:Str):Prop:=X.env.kindOf x=some .globalImplicit
theorem qEc {E:Value -> Shared -> Prop} {pins:List (Addr×Obj)} {s:Shared} {σ:St} {H:Hp} {x:Str} {u:Value} {pos:Pos} {Q:Value -> Shared -> Prop} (I:Inv X pins σ H s) (hg:Gl X x) (hm:X.mg x=some u) (h:Q u s)
  (hd:(x==("__debug__":Str))=false:=by decide):wpAny (model X.prog X.w) X.A (eval (.Name x pos) X.env) Q E s:=
 Calls.Name_function_global I.ok.kind hg (Calls.loadGlobal_global (by rw [I.ok.glob];exact I.mod.glob.keeps I.bk) hm h) hd
theorem ld_blt {E:Value -> Shared -> Prop} {pins:List (Addr×Obj)} {s:Shared} {σ:St} {H:Hp} {x:Str} {u:Value} {pos:Pos} {Q:Value -> Shared -> Prop} (I:Inv X pins σ H s) (hg:Gl X x) (hm:X.mg x=none) (hv:bootBuiltins x=some u) (h:Q u s)
  (hn:x≠"__name__":=by decide) (hd:(x==("__debug__":Str))=false:=by decide):wpAny (model X.prog X.w) X.A (eval (.Name x pos) X.env) Q E s:=by
 obtain ⟨mb,h1,h2⟩:=I.mod.blt
 exact Calls.Name_function_global I.ok.kind hg (Calls.loadGlobal_builtin (by rw [I.ok.glob];exact I.mod.glob.keeps I.bk) hm (by rw [I.ok.blt];exact h1.keeps I.bk) ((h2 x hn).trans hv) h) hd
theorem pe_glob {x:Str} {v:V} {u:Value} {pos:Pos} (hg:Gl X x) (hm:X.mg x=some u) (r:RelV v u) (hd:(x==("__debug__":Str))=false:=by decide):PE X (.Name x pos) (tC v):=
 fun _ _ _ H _ I h=>qEc I hg hm ⟨v,H,I,r,h⟩ hd
theorem pe_bltn {x:Str} {v:V} {u:Value} {pos:Pos} (hg:Gl X x) (hm:X.mg x=none) (hv:bootBuiltins x=some u) (r:RelV v u) (hn:x≠"__name__":=by decide) (hd:(x==("__debug__":Str))=false:=by decide):PE X (.Name x pos) (tC v):=
 fun _ _ _ H _ I h=>ld_blt I hg hm hv ⟨v,H,I,r,h⟩ hn hd
variable {a b:Expr} {ta tb:TE} {pos:Pos}
noncomputable def tB (t:TE):TT:=fun σ H Q=>t σ H fun x H1=>∃ c,x=.bl c/\Q c H1
theorem pt_val {e:Expr} {t:TE} (h:PE X e t) (he:∀ whole,isTrue e X.env whole=(do let v <- whole;standAt e.pos;holding [v] (truthy v)):=by intro _;rfl):PT X e (tB t):=by
 intro pins s σ H Q I hw
 refine isTrue_plain (thn (h pins s σ H _ I hw) fun v s1 ⟨x,H1,I1,r1,q1⟩=>?_) (he _)
 obtain ⟨d,rfl,q⟩:=q1
 cases r1
 exact wpAny_truthy_bool ⟨H1,I1,q⟩
variable {tA tB':TT} {qCH:List Expr}
noncomputable def tAnd (t u:TT):TT:=fun σ H Q=>t σ H fun c H1=>if c=true then u σ H1 Q else Q false H1
noncomputable def tOr (t u:TT):TT:=fun σ H Q=>t σ H fun c H1=>if c=true then Q true H1 else u σ H1 Q
noncomputable def qO3 (t:TT):TT:=fun σ H Q=>t σ H fun c H1=>Q (!c) H1
theorem pw_and1 (ha:PT X a tA):PW X (.BoolOp .And [a] pos) tA:=by
 intro wh pins s σ H Q I h
 refine isTrue_and (thn (ha pins s σ H Q I h) fun c s1 e=>?_)
 cases c with
 | true=>exact isTrue_and_nil e
 | false=>exact e
theorem pw_or1 (ha:PT X a tA):PW X (.BoolOp .Or [a] pos) tA:=by
 intro wh pins s σ H Q I h
 refine isTrue_or (thn (ha pins s σ H Q I h) fun c s1 e=>?_)
 cases c with
 | false=>exact isTrue_or_nil e
 | true=>exact e
theorem pw_and (ha:PT X a tA) (hb:PW X (.BoolOp .And (b::qCH) pos) tB'):PW X (.BoolOp .And (a::b::qCH) pos) (tAnd tA tB'):=by
 intro wh pins s σ H Q I h
 refine isTrue_and (thn (ha pins s σ H _ I h) fun c s1 ⟨H1,I1,q1⟩=>?_)
 cases c with
 | true=>exact hb wh pins s1 σ H1 Q I1 q1
 | false=>exact ⟨H1,I1,q1⟩
theorem pw_or (ha:PT X a tA) (hb:PW X (.BoolOp .Or (b::qCH) pos) tB'):PW X (.BoolOp .Or (a::b::qCH) pos) (tOr tA tB'):=by
 intro wh pins s σ H Q I h
 refine isTrue_or (thn (ha pins s σ H _ I h) fun c s1 ⟨H1,I1,q1⟩=>?_)
 cases c with
 | true=>exact ⟨H1,I1,q1⟩
 | false=>exact hb wh pins s1 σ H1 Q I1 q1
theorem pt_not (ha:PT X a tA):PT X (.UnaryOp .Not a pos) (qO3 tA):=by
 intro pins s σ H Q I h
 exact isTrue_not (ha pins s σ H (fun c H1=>Q (!c) H1) I h)
noncomputable def tAndV (ta tb:TE):TE:=fun σ H Q=>ta σ H fun x H1=>∃ c,x=.bl c/\if c=true then tb σ H1 Q else Q (.bl false) H1
noncomputable def tOrV (ta tb:TE):TE:=fun σ H Q=>ta σ H fun x H1=>∃ c,x=.bl c/\if c=true then Q (.bl true) H1 else tb σ H1 Q
noncomputable def qNL (ta:TE):TE:=fun σ H Q=>ta σ H fun x H1=>∃ c,x=.bl c/\Q (.bl (!c)) H1
theorem pe_one {op} {t:TE} (h:PE X a t):PE X (.BoolOp op [a] pos) t:=fun pins s σ H Q I hw=>BoolOp_one (h pins s σ H Q I hw)
theorem pe_and (ha:PE X a ta) (hb:PE X (.BoolOp .And (b::qCH) pos) tb):PE X (.BoolOp .And (a::b::qCH) pos) (tAndV ta tb):=by
 intro pins s σ H Q I h
 refine BoolOp_and (thn (ha pins s σ H _ I h) fun v s1 ⟨x,H1,I1,r1,q1⟩=>?_)
 obtain ⟨c,rfl,q1⟩:=q1
 cases r1
 refine wpAny_truthy_bool ?_
 cases c with
 | true=>exact hb pins s1 σ H1 Q I1 q1
 | false=>exact ⟨.bl false,H1,I1,rfl,q1⟩
theorem pe_or (ha:PE X a ta) (hb:PE X (.BoolOp .Or (b::qCH) pos) tb):PE X (.BoolOp .Or (a::b::qCH) pos) (tOrV ta tb):=by
 intro pins s σ H Q I h
 refine BoolOp_or (thn (ha pins s σ H _ I h) fun v s1 ⟨x,H1,I1,r1,q1⟩=>?_)
 obtain ⟨c,rfl,q1⟩:=q1
 cases r1
 refine wpAny_truthy_bool ?_
 cases c with
 | false=>exact hb pins s1 σ H1 Q I1 q1
 | true=>exact ⟨.bl true,H1,I1,rfl,q1⟩
theorem pe_not (ha:PE X a ta):PE X (.UnaryOp .Not a pos) (qNL ta):=by
 intro pins s σ H Q I h
 refine UnaryOp_ (thn (ha pins s σ H _ I h) fun v s1 ⟨x,H1,I1,r1,q1⟩=>?_)
 obtain ⟨c,rfl,q1⟩:=q1
 cases r1
 exact not_of (wpAny_truthy_bool ⟨.bl (!c),H1,I1,rfl,q1⟩)
end
open PySem PySem.Spec PyProof.Rows
noncomputable def SqL (K:PySem.W.Frag) (H:Hp) (a:Addr) (xs:List V):Prop:=
 Rd H a (.lst xs)\/
  ∃ (o:Obj) (its:Array Value) (n:Nat),K.lookup a=some o/\o.cls=.type "list"/\o.dict=none/\o.data=.seq its n/\its.size<=sizeLine/\Vals xs its.toList
noncomputable def SqT (K:PySem.W.Frag) (H:Hp) (a:Addr) (xs:List V):Prop:=
 Rd H a (.tup xs)\/
  ∃ (o:Obj) (its:Array Value) (n:Nat),K.lookup a=some o/\o.cls=.type "tuple"/\o.data=.seq its n/\its.size<=sizeLine/\Vals xs its.toList
noncomputable def qPD:Value -> Option V
 | .none=>some .non
 | .bool b=>some (.bl b)
 | .int i _=>some (.int i)
 | .str x _=>some (.str x)
 | .bytes b _=>some (.byt b)
 | .float b _=>some (.flt b)
 | .ref a=>some (.ref a)
 | .type n=>some (.ty n)
 | _=>none
theorem RelV.abs {x:V} {u:Value} (r:RelV x u):qPD u=some x:=by
 cases x with
 | non=>cases r;rfl
 | bl _=>cases r;rfl
 | int _=>obtain ⟨t,rfl⟩:=r;rfl
 | str _=>obtain ⟨t,rfl⟩:=r;rfl
 | byt _=>obtain ⟨t,rfl⟩:=r;rfl
 | flt _=>obtain ⟨t,rfl⟩:=r;rfl
 | ref _=>cases r;rfl
 | ty _=>cases r;rfl
theorem RelV.inj {x y:V} {u:Value} (r:RelV x u) (q:RelV y u):x=y:=Option.some.inj (r.abs.symm.trans q.abs)
theorem Vals.inj:∀ {xs ys:List V} {us:List Value},Vals xs us -> Vals ys us -> xs=ys
 | _,_,_,.nil,.nil=>rfl
 | _,_,_,.cons r t,.cons r' t'=>by rw [r.inj r',Vals.inj t t']
section
variable {X:Cx} {pins:List (Addr×Obj)} {σ:St} {H:Hp} {s:Shared} {a:Addr} {xs ys:List V}
theorem Inv.list (I:Inv X pins σ H s) (h:SqL X.K H a xs):∃ its:List Value,Vals xs its/\PlainL s.heap a its.toArray/\xs.length<=sizeLine:=by
 rcases h with h | ⟨o,its,n,hk,hc,hd,hs,hz,r⟩
 ·obtain ⟨z,its,n,r,e⟩:=h.ok I.hok
  exact ⟨its,r,⟨_,n,e,rfl,rfl,rfl⟩,z⟩
 ·refine ⟨its.toList,r,⟨o,n,I.kIn a o hk,hc,hd,by simpa using hs⟩,?_⟩
  have e:=r.length
  simp only [Array.length_toList] at e
  omega
theorem Inv.tuple (I:Inv X pins σ H s) (h:SqT X.K H a xs):∃ its:List Value,Vals xs its/\IsTup s.heap a its.toArray/\xs.length<=sizeLine:=by
 rcases h with h | ⟨o,its,n,hk,hc,hs,hz,r⟩
 ·obtain ⟨z,its,r,p⟩:=h.ok I.hok
  exact ⟨its,r,p,z⟩
 ·refine ⟨its.toList,r,⟨o,I.kIn a o hk,hc,n,by simpa using hs⟩,?_⟩
  have e:=r.length
  simp only [Array.length_toList] at e
  omega
theorem Inv.list_inj (I:Inv X pins σ H s) (h:SqL X.K H a xs) (h':SqL X.K H a ys):xs=ys:=by
 obtain ⟨its,r,⟨o,n,e,_,_,d⟩,_⟩:=I.list h
 obtain ⟨its',r',⟨o',n',e',_,_,d'⟩,_⟩:=I.list h'
 rw [e] at e';cases e'
 rw [d] at d'
 injection d' with d1 _
 have:its=its':=by simpa using congrArg Array.toList d1
 subst this
 exact r.inj r'
theorem Inv.tuple_inj (I:Inv X pins σ H s) (h:SqT X.K H a xs) (h':SqT X.K H a ys):xs=ys:=by
 obtain ⟨its,r,⟨o,e,_,n,d⟩,_⟩:=I.tuple h
 obtain ⟨its',r',⟨o',e',_,n',d'⟩,_⟩:=I.tuple h'
 rw [e] at e';cases e'
 rw [d] at d'
 injection d' with d1 _
 have:its=its':=by simpa using congrArg Array.toList d1
 subst this
 exact r.inj r'
end
noncomputable abbrev Cx.wish (X:Cx) (E:Value -> Shared -> Prop):Cx:={ X with xe:=E }
noncomputable abbrev Cx.nox (X:Cx):Cx:=X.wish fun _ _=>False
theorem Cx.Ok.wish {X:Cx} (ok:X.Ok) (E:Value -> Shared -> Prop):(X.wish E).Ok:=
 ⟨ok.mod,ok.kind,ok.glob,ok.blt,ok.above,ok.inj,ok.has,ok.cab,ok.hd,ok.frames,ok.stk,ok.exf,ok.bs,ok.bsz,ok.noex,ok.exfs,ok.funs,ok.frf⟩
theorem Cx.Ok.unwish {X:Cx} {E:Value -> Shared -> Prop} (ok:(X.wish E).Ok):X.Ok:=
 ⟨ok.mod,ok.kind,ok.glob,ok.blt,ok.above,ok.inj,ok.has,ok.cab,ok.hd,ok.frames,ok.stk,ok.exf,ok.bs,ok.bsz,ok.noex,ok.exfs,ok.funs,ok.frf⟩
section
variable {X:Cx} {pins:List (Addr×Obj)} {σ:St} {H:Hp} {s:Shared} {E:Value -> Shared -> Prop}
theorem Inv.wish (I:Inv X pins σ H s) (E:Value -> Shared -> Prop):Inv (X.wish E) pins σ H s:=⟨I.ok.wish E,I.os,I.bare,I.base,I.loc,I.cell,I.free,I.freeC,I.pin,I.hok,I.len⟩
theorem Inv.unwish (I:Inv (X.wish E) pins σ H s):Inv X pins σ H s:=⟨I.ok.unwish,I.os,I.bare,I.base,I.loc,I.cell,I.free,I.freeC,I.pin,I.hok,I.len⟩
theorem SP.unwish {D:qG4} {f:Flow} {s':Shared} (h:SP (X.wish E) pins D f s'):SP X pins D f s':=by
 cases f with
 | next=>obtain ⟨σ',H',I,q⟩:=h;exact ⟨σ',H',I.unwish,q⟩
 | brk=>obtain ⟨σ',H',I,q⟩:=h;exact ⟨σ',H',I.unwish,q⟩
 | cont=>obtain ⟨σ',H',I,q⟩:=h;exact ⟨σ',H',I.unwish,q⟩
 | ret u=>obtain ⟨v,σ',H',I,r,q⟩:=h;exact ⟨v,σ',H',I.unwish,r,q⟩
theorem PSs.nox {st:List Stmt} {t:TS} (h:PSs X.nox st t):PSs X st t:=fun pins s σ H D I hw=>
 wpAny_mono (h pins s σ H D (I.wish _) hw) (fun _ _ q=>q.unwish) fun _ _ z=>False.elim z
end
section
variable {X:Cx} {st:Stmt} {qCH:List Stmt} {t u:TS} {e:Expr} {te:TE} {pos:Pos}
noncomputable def qNA:TS:=fun D σ H=>D.nx σ H
noncomputable def qOa (t u:TS):TS:=fun D σ H=>t { D with nx:=u D } σ H
theorem pss_nil:PSs X [] qNA:=fun _ _ σ H _ I h=>wpAny_execs_nil ⟨σ,H,I,h⟩
theorem pss_cons (h1:PS X st t) (h2:PSs X qCH u):PSs X (st::qCH) (qOa t u):=by
 intro pins s σ H D I h
 refine wpAny_execs_cons (thn (h1 pins s σ H { D with nx:=u D } I h) fun f s1 q=>?_)
 cases f with
 | next=>
  obtain ⟨σ',H',I',q⟩:=q
  exact h2 pins s1 σ' H' D I' q
 | ret v=>exact q
 | brk=>exact q
 | cont=>exact q
theorem Inv.quiet {pins:List (Addr×Obj)} {σ:St} {H:Hp} {s:Shared} (I:Inv X pins σ H s):interactive X.env=false:=by simp [interactive,I.ok.kind]
noncomputable def qMo (te:TE):TS:=fun D σ H=>te σ H fun _ H1=>D.nx σ H1
theorem ps_expr (he:PE X e te) (hs:swapsWith e none pos.line X.env=pure false:=by rfl):PS X (.Expr e pos) (qMo te):=by
 intro pins s σ H D I h
 exact wpAny_Expr_any (thn (he pins s σ H _ I h) fun v s1 ⟨x,H1,I1,r1,q1⟩=>⟨σ,H1,I1,q1⟩) I.quiet hs
noncomputable def qOp (te:TE):TS:=fun D σ H=>te σ H D.rt
theorem ps_ret (he:PE X e te):PS X (.Return (some e) pos) (qOp te):=by
 intro pins s σ H D I h
 exact wpAny_Return_some (thn (he pins s σ H _ I h) fun v s1 ⟨x,H1,I1,r1,q1⟩=>⟨x,σ,H1,I1,r1,q1⟩)
noncomputable def qON (c:TT) (t u:TS):TS:=fun D σ H=>c σ H fun b H1=>if b=true then t D σ H1 else u D σ H1
theorem ps_if {c:Expr} {a b:List Stmt} {tc:TT} (hc:PT X c tc) (ha:PSs X a t) (hb:PSs X b u):PS X (.If c a b pos) (qON tc t u):=by
 intro pins s σ H D I h
 refine wpAny_If (thn (hc pins s σ H _ I h) fun d s1 ⟨H1,I1,q1⟩=>?_)
 cases d with
 | true=>exact ha pins s1 σ H1 D I1 q1
 | false=>exact hb pins s1 σ H1 D I1 q1
end
noncomputable abbrev TG:=V -> St -> Hp -> (St -> Hp -> Prop) -> Prop
noncomputable abbrev TGs:=List V -> St -> Hp -> (St -> Hp -> Prop) -> Prop
noncomputable def PG (X:Cx) (target:Expr) (t:TG):Prop:=
 ∀ (pins:List (Addr×Obj)) (s:Shared) (σ:St) (H:Hp) (v:V) (u:Value) (Q:St -> Hp -> Prop),Inv X pins σ H s -> RelV v u -> t v σ H Q ->
  wpAny (model X.prog X.w) X.A (assign target X.env u) (fun _ s'=>∃ σ' H',Inv X pins σ' H' s'/\Q σ' H') X.xe s
noncomputable def PGs (X:Cx) (ts:List Expr) (t:TGs):Prop:=
 ∀ (pins:List (Addr×Obj)) (s:Shared) (σ:St) (H:Hp) (vs:List V) (us:List Value) (Q:St -> Hp -> Prop),Inv X pins σ H s -> Vals vs us -> t vs σ H Q ->
  wpAny (model X.prog X.w) X.A (assignInOrder ((assignEach ts X.env).map (·.2)) us) (fun _ s'=>∃ σ' H',Inv X pins σ' H' s'/\Q σ' H') X.xe s
noncomputable abbrev qNF:=V -> V -> V -> Hp -> (Hp -> Prop) -> Prop
noncomputable def qNm (X:Cx) (t:qNF):Prop:=
 ∀ (pins:List (Addr×Obj)) (s:Shared) (σ:St) (H:Hp) (o i v:V) (ov iv u:Value) (Q:Hp -> Prop),Inv X pins σ H s -> RelV o ov -> RelV i iv -> RelV v u -> t o i v H Q ->
  wpAny (model X.prog X.w) X.A (setItem ov iv u) (fun _ s'=>∃ H',Inv X pins σ H' s'/\Q H') X.xe s
section
variable {X:Cx} {pos:Pos}
noncomputable def qKT (i:Nat):TG:=fun v σ H Q=>Q (σ.set i (some v)) H
theorem pg_name {i:Nat} {x:Str} (hN:X.N.Nodup) (hi:X.N[i]?=some x) (hx:Loc X.env.scope x) (hf:X.fn x=true\/X.env.scope.names.lookup x=some .local:=by first | exact .inl rfl | exact .inr rfl | assumption):PG X (.Name x pos) (qKT i):=by
 intro pins s σ H v u Q I r h
 exact wpAny_assign_Name (qBv I hN hi hx r (fun s' I'=>⟨_,H,I',h⟩) hf)
noncomputable def qOi:TGs:=fun vs σ H Q=>vs=[]/\Q σ H
noncomputable def qNG (t:TG) (u:TGs):TGs:=fun vs σ H Q=>∃ v r,vs=v::r/\t v σ H fun σ' H'=>u r σ' H' Q
theorem pgs_nil:PGs X [] qOi:=by
 intro pins s σ H vs us Q I r h
 obtain ⟨e,h⟩:=h
 subst e
 cases r
 exact assignInOrder_nil ⟨σ,H,I,h⟩
theorem pgs_cons {e:Expr} {es:List Expr} {t:TG} {u:TGs} (h1:PG X e t) (h2:PGs X es u)
  (hs:(assignEach (e::es) X.env).map (·.2)=assign e X.env::(assignEach es X.env).map (·.2):=by rfl):PGs X (e::es) (qNG t u):=by
 intro pins s σ H vs us Q I r h
 obtain ⟨v,vr,e1,h⟩:=h
 subst e1
 cases r with
 | cons r rr=>
  rw [hs]
  refine assignInOrder_cons (thn (h1 pins s σ H _ _ _ I r h) fun _ s1 ⟨σ1,H1,I1,q1⟩=>?_)
  exact h2 pins s1 σ1 H1 _ _ Q I1 rr q1
noncomputable def qO2 (K:PySem.W.Frag) (n:Nat) (t:TGs):TG:=fun v σ H Q=>∃ a xs,v=.ref a/\SqT K H a xs/\xs.length=n/\t xs σ H Q
theorem pg_tup {es:List Expr} {k:Nat} {t:TGs} {n:Nat} (hc:X.calm=true) (h:PGs X es t)
  (hn:(assignEach es X.env).length=n:=by rfl) (hst:(assignEach es X.env).findIdx? (·.1)=none:=by rfl):PG X (.Tuple es k pos) (qO2 X.K n t):=by
 intro pins s σ H v u Q I r hw
 obtain ⟨a,xs,e1,hq,hl,hw⟩:=hw
 subst e1
 cases r
 obtain ⟨its,rv,ht,hz⟩:=I.tuple hq
 refine assign_Tuple_tuple (I.ok.hd hc) ht (by simp [hn,<- hl,rv.length]) hst fun h' hx=>?_
 have I1:Inv X pins σ H { s with heap:=h' }:=I.kept (t':=s.toks) fun b o e=>hx b o (Nat.ne_of_lt (Heap.lt_size e)) e
 exact h pins _ σ H xs _ Q I1 (by simpa using rv) hw
noncomputable def qOo (to ti:TE) (t:qNF):TG:=fun v σ H Q=>to σ H fun o H1=>ti σ H1 fun i H2=>t o i v H2 fun H3=>Q σ H3
theorem pg_sub {o i:Expr} {to ti:TE} {t:qNF} (ho:PE X o to) (hi:PE X i ti) (hs:qNm X t)
  (ha:∀ v,assign (.Subscript o i pos) X.env v=(do
   let ov <- holding [v] (eval o X.env)
   let iv <- holding [v,ov] (eval i X.env)
   standAt pos
   holding [v,ov,iv] (setItem ov iv v)
   release [v,ov,iv] []):=by intro _;rfl):PG X (.Subscript o i pos) (qOo to ti t):=by
 intro pins s σ H v u Q I r h
 rw [ha]
 refine wpAny_bind (wpAny_holding (thn (ho pins s σ H _ I h) fun ov s1 ⟨x,H1,I1,r1,q1⟩=>?_))
 refine wpAny_bind (wpAny_holding (thn (hi pins s1 σ H1 _ I1 q1) fun iv s2 ⟨y,H2,I2,r2,q2⟩=>?_))
 refine wpAny_bind (wpAny_standAt (wpAny_bind (wpAny_holding (thn (hs pins s2 σ H2 x y v ov iv u _ I2 r1 r2 r q2) fun _ s3 ⟨H3,I3,q3⟩=>?_))))
 exact wpAny_release ⟨σ,H3,I3,q3⟩
noncomputable def tAsg (te:TE) (g:TG):TS:=fun D σ H=>te σ H fun x H1=>g x σ H1 D.nx
theorem ps_asg {tg e:Expr} {te:TE} {g:TG} (he:PE X e te) (hg:PG X tg g) (hs:swapsWithSole [tg] e pos.line X.env=pure false:=by rfl) (hw:swappedStores [tg] e X.env=pure none:=by rfl)
  (h1:(assignEach [tg] X.env).map (·.2)=[assign tg X.env]:=by rfl):PS X (.Assign [tg] e pos) (tAsg te g):=by
 intro pins s σ H D I h
 refine wpAny_Assign_stores (thn (he pins s σ H _ I h) fun v s1 ⟨x,H1,I1,r1,q1⟩=>?_) hs hw
 rw [h1]
 exact thn (hg pins s1 σ H1 x v _ I1 r1 q1) fun _ s2 q=>q
end
section
variable {X:Cx} {pos:Pos}
noncomputable def qLj (c:TT) (tb:TS):TS:=fun D σ H=>∃ W:Nat -> St -> Hp -> Prop,(∃ m,W m σ H)/\∀ m σ H,W m σ H ->
 c σ H fun b H1=>if b=true then ∃ N:St -> Hp -> Prop,(∀ σ' H',N σ' H' -> ∃ m',m' < m/\W m' σ' H')/\tb { D with nx:=N,ct:=N,bk:=D.nx } σ H1 else D.nx σ H1
theorem ps_while {c:Expr} {body:List Stmt} {tc:TT} {tb:TS} (hp:PassesOwn (model X.prog X.w) X.A X.env X.xe) (hc:PT X c tc) (hb:PSs X body tb):PS X (.While c body [] pos) (qLj tc tb):=by
 intro pins s σ H D I h
 obtain ⟨W,⟨m0,w0⟩,qJP⟩:=h
 refine wpAny_While (codeAny_whileLoop (fun n s'=>∃ σ' H',Inv X pins σ' H' s'/\W n σ' H') ?_ m0 ⟨σ,H,I,w0⟩)
 rintro n s1 ⟨σ1,H1,I1,w1⟩
 refine wpAny_passesOwn hp (thn (hc pins s1 σ1 H1 _ I1 (qJP n σ1 H1 w1)) fun b s2 ⟨H2,I2,q2⟩=>?_)
 cases b with
 | true=>
  obtain ⟨N,hN,q2⟩:=q2
  rw [if_pos rfl]
  refine wpAny_passesOwn hp (thn (hb pins s2 σ1 H2 _ I2 q2) fun f s3 q3=>?_)
  cases f with
  | next=>
   obtain ⟨σ3,H3,I3,n3⟩:=q3
   obtain ⟨m',hm,w3⟩:=hN σ3 H3 n3
   exact ⟨m',hm,σ3,H3,I3,w3⟩
  | cont=>
   obtain ⟨σ3,H3,I3,n3⟩:=q3
   obtain ⟨m',hm,w3⟩:=hN σ3 H3 n3
   exact ⟨m',hm,σ3,H3,I3,w3⟩
  | brk=>exact q3
  | ret v=>exact q3
 | false=>
  rw [if_neg Bool.false_ne_true]
  exact wpAny_execs_nil ⟨σ1,H2,I2,q2⟩
end
structure It where
 go:Nat -> Hp -> Prop
 yld:Nat -> Hp -> V -> Hp -> Prop
 stop:Nat -> Hp -> Prop
noncomputable def qEB (X:Cx) (pins:List (Addr×Obj)) (H:Hp) (b:Addr):Prop:=
 H b=none/\b≠X.env.locals/\b∉X.fs/\(b∈X.ex\/X.s₀.heap.objs.size<=b)/\(∀ x c,X.env.cells.lookup x=some c -> c≠b)/\∀ p∈X.pn++pins,p.1≠b
theorem Inv.fpOk {X:Cx} {pins:List (Addr×Obj)} {σ:St} {H H':Hp} {s:Shared} {b:Addr} (I:Inv X pins σ H s) (hb:s.heap.objs.size<=b) (hn:H' b=none):qEB X pins H' b:=by
 refine ⟨hn,Nat.ne_of_gt (Nat.lt_of_lt_of_le I.lt hb),I.nofs hb,.inr (Nat.le_trans I.sz hb),fun x c e z=>?_,fun p hp z=>?_⟩
 ·obtain ⟨v,q⟩:=I.cell x c e
  exact absurd (Nat.lt_of_lt_of_le q.lt (by rw [z];exact hb)) (Nat.lt_irrefl _)
 ·exact absurd (Nat.lt_of_lt_of_le (Heap.lt_size (I.pin p hp).1) (by rw [z];exact hb)) (Nat.lt_irrefl _)
structure qFr (P:Program) (w:World) (K:PySem.W.Frag) (tg:Expr) (J:It) (fp:List Addr) (it:Addr) (tn:Nat -> Heap -> Prop):Prop where
 mem:it∈fp
 obj:∀ i h,tn i h -> ∀ b∈fp,∃ o,h.get? b=some o/\∀ v,o.data≠.cell v
 keep:∀ i h h',tn i h -> (∀ b∈fp,∀ o,h.get? b=some o -> h'.get? b=some o) -> tn i h'
 item:∀ (X:Cx),X.prog=P -> X.w=w -> X.K=K -> X.calm=true -> ∀ (i:Nat) (pins:List (Addr×Obj)) (s:Shared) (σ:St) (H:Hp) (E:Value -> Shared -> Prop),Inv X pins σ H s -> (∀ b∈fp,qEB X pins H b) -> tn i s.heap -> J.go i H ->
  wpAny (model P w) X.A (pyNext (.ref it)) (fun r s1=>∃ u,r=some u/\
   wpAny (model P w) X.A (letOwnedTupleGo tg (.ref it) u) (fun _ s2=>∃ x H',Inv X pins σ H' s2/\RelV x u/\J.yld i H x H'/\tn (i + 1) s2.heap/\∀ b∈fp,H' b=none) E s1) E s
 done:∀ (X:Cx),X.prog=P -> X.w=w -> X.K=K -> X.calm=true -> ∀ (i:Nat) (pins:List (Addr×Obj)) (s:Shared) (σ:St) (H:Hp) (E:Value -> Shared -> Prop),Inv X pins σ H s -> (∀ b∈fp,qEB X pins H b) -> tn i s.heap -> J.stop i H ->
  wpAny (model P w) X.A (pyNext (.ref it)) (fun r s1=>r=none/\Inv X pins σ H s1) E s
 self:∀ (A:Around) (i:Nat) (s:Shared) (Q:Value -> Shared -> Prop) (E:Value -> Shared -> Prop),tn i s.heap -> Q (.ref it) s -> wpAny (model P w) A (pyIter (.ref it)) Q E s
noncomputable abbrev TI:=St -> Hp -> (It -> Hp -> Prop) -> Prop
noncomputable def PIE (X:Cx) (pins:List (Addr×Obj)) (σ:St) (tg:Expr) (R:It -> Hp -> Prop) (itv:Value) (s2:Shared):Prop:=
 ∃ (it:Addr) (fp:List Addr) (tn:Nat -> Heap -> Prop) (J:It) (H':Hp),itv=.ref it/\Inv X pins σ H' s2/\qFr X.prog X.w X.K tg J fp it tn/\tn 0 s2.heap/\(∀ b∈fp,qEB X pins H' b)/\R J H'
noncomputable def PI (X:Cx) (tg iter:Expr) (wi:TI):Prop:=
 ∀ (pins:List (Addr×Obj)) (s:Shared) (σ:St) (H:Hp) (R:It -> Hp -> Prop),Inv X pins σ H s -> wi σ H R ->
  wpAny (model X.prog X.w) X.A (eval iter X.env) (fun v s1=>wpAny (model X.prog X.w) X.A (pyIter v) (PIE X pins σ tg R) X.xe s1) X.xe s
theorem go_of {M:Model} {A:Around} {E:Value -> Shared -> Prop} {s:Shared} {tg:Expr} {it:Addr} {u:Value} {o:Obj} {n:String} {vs:Array Value} {Q:Unit -> Shared -> Prop} (ho:s.heap.get? it=some o) (hc:o.cls=.type n) (hd:o.data=.fields vs)
  (hn:["enumerate","zip","dict_itemiterator","dict_reverseitemiterator","odict_iterator","itertools.zip_longest","itertools.pairwise"].contains n=false) (hQ:Q () s):wpAny M A (letOwnedTupleGo tg (.ref it) u) Q E s:=by
 unfold letOwnedTupleGo
 cases tg<;>first
  | exact wpAny_pure hQ
  | (cases u<;>first
    | exact wpAny_pure hQ
    | (refine wpAny_bind (wpAny_load ho ?_)
       rw [hc,hd]
       show wpAny M A (if (["enumerate","zip","dict_itemiterator","dict_reverseitemiterator","odict_iterator","itertools.zip_longest","itertools.pairwise"].contains n&&vs[0]?==some (rawInt _))=true then _ else _) Q E s
       rw [if_neg (by intro h;rw [hn,Bool.false_and] at h;cases h)]
       exact wpAny_pure hQ))
noncomputable def Itl (K:PySem.W.Frag) (a:Addr):It:=
 ⟨fun i H=>∃ xs x,SqL K H a xs/\xs[i]?=some x,fun i H x H'=>H'=H/\∀ xs,SqL K H a xs -> xs[i]?=some x,fun i H=>∃ xs,SqL K H a xs/\xs.length<=i⟩
noncomputable def Itt (K:PySem.W.Frag) (a:Addr):It:=
 ⟨fun i H=>∃ xs x,SqT K H a xs/\xs[i]?=some x,fun i H x H'=>H'=H/\∀ xs,SqT K H a xs -> xs[i]?=some x,fun i H=>∃ xs,SqT K H a xs/\xs.length<=i⟩
noncomputable def Itr (lo:Int) (n:Nat):It:=⟨fun i _=>i < n,fun i H x H'=>H'=H/\x=.int (lo + i),fun i _=>n<=i⟩
theorem turn_list {P:Program} {w:World} {K:PySem.W.Frag} {tg:Expr} (a it:Addr):qFr P w K tg (Itl K a) [it] it (fun i h=>h.IsListIter it a i) where
 mem:=by simp
 obj:=fun i h st b hb=>by
  have e:b=it:=by simpa using hb
  subst e
  obtain ⟨o,e,c,d⟩:=st
  exact ⟨o,e,fun v z=>by rw [d] at z;cases z⟩
 keep:=fun i h h' st k=>st.at fun o e=>k it (by simp) o e
 item:=by
  intro X hP hw hK hc i pins s σ H E I hf st hg
  subst hP hw hK
  obtain ⟨xs,x,hq,hx⟩:=hg
  obtain ⟨its,rv,p,hz⟩:=I.list hq
  obtain ⟨u,hu,ru⟩:=rv.get hx
  obtain ⟨f0,f1,f2,f3,f4,f5⟩:=hf it (by simp)
  refine wpAny_pyNext_list_item st p.isList (x:=u) (by simpa using hu) fun h' st' sb=>?_
  have I1:Inv X pins σ H { s with heap:=h' }:=I.turned (t':=s.toks) (fun b o hb e=>(sb.2 b hb).trans e) f0 f1 f3 f4 f5
  obtain ⟨o,e,c,d⟩:=id st'
  exact ⟨u,rfl,go_of (s:={ s with heap:=h' }) e c d (by decide) ⟨x,H,I1,ru,⟨rfl,fun ys hy=>by rw [I.list_inj hy hq];exact hx⟩,st',fun b hb=>(hf b hb).1⟩⟩
 done:=by
  intro X hP hw hK hc i pins s σ H E I hf st hg
  subst hP hw hK
  obtain ⟨xs,hq,hx⟩:=hg
  obtain ⟨its,rv,p,hz⟩:=I.list hq
  obtain ⟨f0,f1,f2,f3,f4,f5⟩:=hf it (by simp)
  have hl:=rv.length
  exact wpAny_pyNext_list_end (I.ok.hd hc) st p.isList (by simp;omega) fun h' eb=>⟨rfl,I.turned (t':=s.toks) (fun b o hb e=>eb b o hb e) f0 f1 f3 f4 f5⟩
 self:=fun _ _ _ _ _ st h=>wpAny_pyIter_listiter st h
theorem turn_tuple {P:Program} {w:World} {K:PySem.W.Frag} {tg:Expr} (a it:Addr):qFr P w K tg (Itt K a) [it] it (fun i h=>h.IsTupleIter it a i) where
 mem:=by simp
 obj:=fun i h st b hb=>by
  have e:b=it:=by simpa using hb
  subst e
  obtain ⟨o,e,c,d⟩:=st
  exact ⟨o,e,fun v z=>by rw [d] at z;cases z⟩
 keep:=fun i h h' st k=>st.at fun o e=>k it (by simp) o e
 item:=by
  intro X hP hw hK hc i pins s σ H E I hf st hg
  subst hP hw hK
  obtain ⟨xs,x,hq,hx⟩:=hg
  obtain ⟨its,rv,p,hz⟩:=I.tuple hq
  obtain ⟨u,hu,ru⟩:=rv.get hx
  obtain ⟨f0,f1,f2,f3,f4,f5⟩:=hf it (by simp)
  refine wpAny_pyNext_tuple_item st (show s.heap.IsTuple a its.toArray from p) (x:=u) (by simpa using hu) fun h' st' sb=>?_
  have I1:Inv X pins σ H { s with heap:=h' }:=I.turned (t':=s.toks) (fun b o hb e=>(sb.2 b hb).trans e) f0 f1 f3 f4 f5
  obtain ⟨o,e,c,d⟩:=id st'
  exact ⟨u,rfl,go_of (s:={ s with heap:=h' }) e c d (by decide) ⟨x,H,I1,ru,⟨rfl,fun ys hy=>by rw [I.tuple_inj hy hq];exact hx⟩,st',fun b hb=>(hf b hb).1⟩⟩
 done:=by
  intro X hP hw hK hc i pins s σ H E I hf st hg
  subst hP hw hK
  obtain ⟨xs,hq,hx⟩:=hg
  obtain ⟨its,rv,p,hz⟩:=I.tuple hq
  obtain ⟨f0,f1,f2,f3,f4,f5⟩:=hf it (by simp)
  have hl:=rv.length
  exact wpAny_pyNext_tuple_end (I.ok.hd hc) st (show s.heap.IsTuple a its.toArray from p) (by simp;omega) fun h' eb=>⟨rfl,I.turned (t':=s.toks) (fun b o hb e=>eb b o hb e) f0 f1 f3 f4 f5⟩
 self:=fun _ _ _ _ _ st h=>wpAny_pyIter_tupleiter st h
theorem qFS {P:Program} {w:World} {K:PySem.W.Frag} {tg:Expr} (it:Addr) (lo:Int) (n:Nat):qFr P w K tg (Itr lo n) [it] it (fun i h=>IsRangeIter h it (lo + (i:Nat) * 1) ((n:Int) - (i:Nat)) 1) where
 mem:=by simp
 obj:=fun i h st b hb=>by
  have e:b=it:=by simpa using hb
  subst e
  exact ⟨_,st,fun v z=>by
   have z':Data.fields _=Data.cell v:=z
   cases z'⟩
 keep:=fun i h h' st k=>k it (by simp) _ st
 item:=by
  intro X hP hw hK hc i pins s σ H E I hf st hg
  subst hP hw hK
  obtain ⟨f0,f1,f2,f3,f4,f5⟩:=hf it (by simp)
  have W:=Walks.range (prog:=X.prog) (w:=X.w) (I.ok.hd hc) it lo 1 n
  refine W.item i s _ _ hg st fun v h' tk hv st' kk=>?_
  obtain ⟨t,rfl⟩:=hv
  have I1:Inv X pins σ H { s with heap:=h',toks:=tk }:=I.turned (fun b o hb e=>kk b o (by simpa using hb) e) f0 f1 f3 f4 f5
  refine ⟨_,rfl,go_of (s:={ s with heap:=h',toks:=tk }) (n:="range_iterator") st' rfl rfl (by decide) ⟨.int (lo + i),H,I1,⟨t,?_⟩,⟨rfl,rfl⟩,st',fun b hb=>(hf b hb).1⟩⟩
  rw [Int.mul_one]
 done:=by
  intro X hP hw hK hc i pins s σ H E I hf st hg
  subst hP hw hK
  obtain ⟨f0,f1,f2,f3,f4,f5⟩:=hf it (by simp)
  exact wpAny_pyNext_range_end (I.ok.hd hc) st (by have:n<=i:=hg;omega) fun h' eb=>⟨rfl,I.turned (t':=s.toks) (fun b o hb e=>eb b o hb e) f0 f1 f3 f4 f5⟩
 self:=fun _ _ _ _ _ st h=>wpAny_pyIter_rangeiter st h
open PySem PySem.Spec PyProof.Rows
section
variable {X:Cx} {tg:Expr}
theorem qE7 {pins:List (Addr×Obj)} {σ:St} {H:Hp} {s:Shared} {R:It -> Hp -> Prop} {E:Value -> Shared -> Prop} {lo hi:Int} {t u v:Tok} {tk:Nat} (I:Inv X pins σ H s) (h1:-(2 ^ 62)<=lo) (h2:lo < 2 ^ 62) (h3:-(2 ^ 62)<=hi) (h4:hi < 2 ^ 62)
  (q:R (Itr lo (hi - lo).toNat) H):wpAny (model X.prog X.w) X.A (pyIter (.ref s.heap.objs.size)) (PIE X pins σ tg R) E { s with heap:=s.heap.push { cls:=.type "range",data:=.fields #[.int lo t,.int hi u,.int 1 v] },toks:=tk }:=by
 refine wpAny_pyIter_range (IsRange.new ..) (small_one h1 h2 h3 h4) ?_
 have I1:Inv X pins σ H { s with heap:=s.heap.push { cls:=.type "range",data:=.fields #[.int lo t,.int hi u,.int 1 v] },toks:=tk }:=I.kept fun b o e=>Heap.get?_push_of_some _ e
 refine ⟨(s.heap.push { cls:=.type "range",data:=.fields #[.int lo t,.int hi u,.int 1 v] }).objs.size,[(s.heap.push { cls:=.type "range",data:=.fields #[.int lo t,.int hi u,.int 1 v] }).objs.size],_,_,H,rfl,
  I1.kept (t':=tk) fun b o e=>Heap.get?_push_of_some _ e,qFS _ lo (hi - lo).toNat,?_,fun b hb=>?_,q⟩
 ·have e1:lo + ((0:Nat):Int) * 1=lo:=by simp
  have e2:(((hi - lo).toNat:Nat):Int) - ((0:Nat):Int)=Builtin.Range.rangeSize lo hi 1:=by rw [rangeSize_one];split<;>omega
  show IsRangeIter _ _ (lo + ((0:Nat):Int) * 1) ((((hi - lo).toNat:Nat):Int) - ((0:Nat):Int)) 1
  rw [e1,e2]
  exact Heap.get?_push_size _ rfl
 ·have e:b=(s.heap.push { cls:=.type "range",data:=.fields #[.int lo t,.int hi u,.int 1 v] }).objs.size:=by simpa using hb
  subst e
  exact I1.fpOk (Nat.le_refl _) (I1.hok.fresh (Nat.le_refl _))
noncomputable def qNT (ta:TA):TI:=fun σ H R=>ta σ H fun vs H1=>∃ j:Int,vs=[.int j]/\-(2 ^ 62)<=j/\j < 2 ^ 62/\R (Itr 0 j.toNat) H1
noncomputable def qMd (ta:TA):TI:=fun σ H R=>ta σ H fun vs H1=>∃ i j:Int,vs=[.int i,.int j]/\(-(2 ^ 62)<=i/\i < 2 ^ 62/\-(2 ^ 62)<=j/\j < 2 ^ 62)/\R (Itr i (j - i).toNat) H1
theorem pi_range1 {a:Expr} {ta:TA} {p pos:Pos} (hg:Gl X "range") (hm:X.mg "range"=none) (ha:PA X [a] ta) (hs:starEach [a] X.env=[(false,eval a X.env)]:=by rfl):PI X tg (.Call (.Name "range" p) [a] [] pos) (qNT ta):=by
 intro pins s σ H R I h
 refine Call_ (ld_blt I hg hm boot_range (PyProof.Rows.callWith_type1 (thn (ha pos pins s σ H _ I h) fun us s1 ⟨vs,H1,I1,r1,q1⟩=>?_) hs rfl))
 obtain ⟨j,e,q1,q2,q⟩:=q1
 subst e
 cases r1 with
 | cons r rr=>
  cases rr
  obtain ⟨t,rfl⟩:=r
  exact call_range_1 (qE7 I1 (by omega) (by omega) q1 q2 (by simpa using q))
theorem pi_range2 {a b:Expr} {ta:TA} {p pos:Pos} (hg:Gl X "range") (hm:X.mg "range"=none) (ha:PA X [a,b] ta) (hs:starEach [a,b] X.env=[(false,eval a X.env),(false,eval b X.env)]:=by rfl) (hs2:starEach [b] X.env=[(false,eval b X.env)]:=by rfl):
  PI X tg (.Call (.Name "range" p) [a,b] [] pos) (qMd ta):=by
 intro pins s σ H R I h
 refine Call_ (ld_blt I hg hm boot_range (PyProof.Rows.callWith_type1 (thn (ha pos pins s σ H _ I h) fun us s1 ⟨vs,H1,I1,r1,q1⟩=>?_) (by rw [hs,hs2]) (by rw [hs2];rfl)))
 obtain ⟨i,j,e,⟨q1,q2,q3,q4⟩,q⟩:=q1
 subst e
 cases r1 with
 | cons r rr=>
  cases rr with
  | cons r' rr=>
   cases rr
   obtain ⟨t,rfl⟩:=r
   obtain ⟨t',rfl⟩:=r'
   exact call_range_2 (qE7 I1 q1 q2 q3 q4 q)
noncomputable def qOh (wi:TI) (g:TG) (tb:TS):TS:=fun D σ H=>wi σ H fun J H1=>∃ W:Nat -> Nat -> St -> Hp -> Prop,(∃ m,W 0 m σ H1)/\∀ i m σ H,W i m σ H ->
 (J.stop i H/\D.nx σ H)\/(J.go i H/\∃ N:St -> Hp -> Prop,(∀ σ' H',N σ' H' -> ∃ m',m' < m/\W (i + 1) m' σ' H')/\∀ x H',J.yld i H x H' -> g x σ H' fun σ2 H2=>tb { D with nx:=N,ct:=N,bk:=D.nx } σ2 H2)
noncomputable def qDx (fp:List Addr) (h:Heap):List (Addr×Obj):=fp.filterMap fun b=>(h.get? b).map fun o=>(b,o)
theorem qBY {fp:List Addr} {h:Heap} {b:Addr} {o:Obj} (hb:b∈fp) (e:h.get? b=some o):(b,o)∈qDx fp h:=List.mem_filterMap.mpr ⟨b,hb,by rw [e];rfl⟩
theorem qHF {fp:List Addr} {h:Heap} {p:Addr×Obj} (hp:p∈qDx fp h):p.1∈fp/\h.get? p.1=some p.2:=by
 obtain ⟨b,hb,e⟩:=List.mem_filterMap.mp hp
 cases q:h.get? b with
 | none=>rw [q] at e;cases e
 | some o=>
  rw [q] at e
  have e':(b,o)=p:=Option.some.inj e
  subst e'
  exact ⟨hb,q⟩
theorem Inv.pinned {pins:List (Addr×Obj)} {σ:St} {H:Hp} {s:Shared} {fp:List Addr} (I:Inv X pins σ H s) (hf:∀ b∈fp,qEB X pins H b) (ho:∀ b∈fp,∃ o,s.heap.get? b=some o/\∀ v,o.data≠.cell v):Inv X (pins++qDx fp s.heap) σ H s:=
 I.pins_of fun p hp=>(List.mem_append.mp hp).elim (fun z=>I.pin p (List.mem_append_right _ z)) fun z=>by
  obtain ⟨hb,e⟩:=qHF z
  obtain ⟨f0,f1,f2,_⟩:=hf p.1 hb
  obtain ⟨o,e',d⟩:=ho p.1 hb
  rw [e] at e';cases e'
  exact ⟨e,f0,f1,f2,d⟩
theorem Inv.unpinned {pins pl:List (Addr×Obj)} {σ:St} {H:Hp} {s:Shared} (I:Inv X (pins++pl) σ H s):Inv X pins σ H s:=I.pins_of fun p hp=>I.pin p (List.mem_append_right _ (List.mem_append_left _ hp))
theorem ps_for {iter:Expr} {body:List Stmt} {wi:TI} {g:TG} {tb:TS} {pos:Pos} (hp:PassesOwn (model X.prog X.w) X.A X.env X.xe) (hc:X.calm=true) (hi:PI X tg iter wi) (hg:PG X tg g) (hb:PSs X body tb)
  (hs:∀ x,foldedSetIterable iter X.env x=pure x:=by intro _;rfl):PS X (.For tg iter body [] pos) (qOh wi g tb):=by
 intro pins s σ H D I h
 refine wpAny_For (thn (hi pins s σ H _ I h) fun v s1 h1=>thn h1 fun itv s2 h2=>?_) hs
 obtain ⟨it,fp,tn,J,H2,e,I2,T,st2,f2,W,⟨m0,w0⟩,qJP⟩:=h2
 subst e
 have stat:∀ {H':Hp},(∀ b∈fp,H' b=none) -> ∀ b∈fp,qEB X pins H' b:=fun hn b hb=>⟨hn b hb,(f2 b hb).2⟩
 refine codeAny_forLoop_any (fun n s'=>∃ i σ' H',Inv X pins σ' H' s'/\tn i s'.heap/\(∀ b∈fp,H' b=none)/\W i n σ' H') ?_ m0 ⟨0,σ,H2,I2,st2,fun b hb=>(f2 b hb).1,w0⟩
 rintro n s3 ⟨i,σ3,H3,I3,st3,fr3,w3⟩
 rcases qJP i n σ3 H3 w3 with ⟨stop,qn⟩ | ⟨go,N,hN,step⟩
 ·refine wpAny_passesOwn hp (thn (T.done X rfl rfl rfl hc i pins s3 σ3 H3 X.xe I3 (stat fr3) st3 stop) fun r s4 ⟨hr,I4⟩=>?_)
  subst hr
  exact wpAny_execs_nil ⟨σ3,H3,I4,qn⟩
 ·refine wpAny_passesOwn hp (thn (T.item X rfl rfl rfl hc i pins s3 σ3 H3 X.xe I3 (stat fr3) st3 go) fun r s4 ⟨u,hr,h4⟩=>?_)
  subst hr
  refine wpAny_passesOwn hp (thn h4 fun _ s5 ⟨x,H5,I5,r5,y5,st5,fr5⟩=>?_)
  have I5':=I5.pinned (stat fr5) (T.obj _ _ st5)
  refine wpAny_passesOwn hp (thn (hg _ s5 σ3 H5 x u _ I5' r5 (step x H5 y5)) fun _ s6 ⟨σ6,H6,I6,q6⟩=>?_)
  refine wpAny_passesOwn hp (thn (hb _ s6 σ6 H6 _ I6 q6) fun f s7 q7=>?_)
  have again:∀ {σ7:St} {H7:Hp},Inv X (pins++qDx fp s5.heap) σ7 H7 s7 -> N σ7 H7 -> ∃ m,m < n/\∃ i σ' H',Inv X pins σ' H' s7/\tn i s7.heap/\(∀ b∈fp,H' b=none)/\W i m σ' H':=fun {σ7 H7} I7 n7=>by
   obtain ⟨m',hm,w7⟩:=hN σ7 H7 n7
   refine ⟨m',hm,i + 1,σ7,H7,I7.unpinned,T.keep _ _ _ st5 fun b hb o e=>(I7.pin (b,o) (List.mem_append_right _ (List.mem_append_right _ (qBY hb e)))).1,fun b hb=>?_,w7⟩
   obtain ⟨o,e,d⟩:=T.obj _ _ st5 b hb
   exact (I7.pin (b,o) (List.mem_append_right _ (List.mem_append_right _ (qBY hb e)))).2.1
  cases f with
  | next=>obtain ⟨σ7,H7,I7,n7⟩:=q7;exact again I7 n7
  | cont=>obtain ⟨σ7,H7,I7,n7⟩:=q7;exact again I7 n7
  | brk=>obtain ⟨σ7,H7,I7,q7⟩:=q7;exact ⟨σ7,H7,I7.unpinned,q7⟩
  | ret v=>obtain ⟨x7,σ7,H7,I7,r7,q7⟩:=q7;exact ⟨x7,σ7,H7,I7.unpinned,r7,q7⟩
end
open PySem PySem.Spec PyProof.Rows
noncomputable abbrev R2:=V -> V -> Hp -> VK -> Prop
noncomputable def OpR (X:Cx) (f:Value -> Value -> Sem Value) (r:R2):Prop:=
 ∀ (pins:List (Addr×Obj)) (s:Shared) (σ:St) (H:Hp) (x y:V) (v u:Value) (Q:VK),Inv X pins σ H s -> RelV x v -> RelV y u -> r x y H Q ->
  wpAny (model X.prog X.w) X.A (f v u) (EP X pins σ Q) X.xe s
noncomputable def UnR (X:Cx) (f:Value -> Sem Value) (r:V -> Hp -> VK -> Prop):Prop:=
 ∀ (pins:List (Addr×Obj)) (s:Shared) (σ:St) (H:Hp) (x:V) (v:Value) (Q:VK),Inv X pins σ H s -> RelV x v -> r x H Q ->
  wpAny (model X.prog X.w) X.A (f v) (EP X pins σ Q) X.xe s
noncomputable def qA6 (X:Cx) (f:Value) (r:List V -> Hp -> VK -> Prop):Prop:=
 ∀ (pins:List (Addr×Obj)) (s:Shared) (σ:St) (H:Hp) (xs:List V) (us:List Value) (Q:VK),Inv X pins σ H s -> Vals xs us -> r xs H Q ->
  wpAny (model X.prog X.w) X.A (call f us) (EP X pins σ Q) X.xe s
noncomputable def tOp (r:R2) (ta tb:TE):TE:=fun σ H Q=>ta σ H fun x H1=>tb σ H1 fun y H2=>r x y H2 Q
noncomputable def tUn (r:V -> Hp -> VK -> Prop) (ta:TE):TE:=fun σ H Q=>ta σ H fun x H1=>r x H1 Q
noncomputable def rI (C:Int -> Int -> Prop) (g:Int -> Int -> V):R2:=fun x y H Q=>∃ i j,x=.int i/\y=.int j/\C i j/\Q (g i j) H
noncomputable def rI0 (g:Int -> Int -> V):R2:=fun x y H Q=>∃ i j,x=.int i/\y=.int j/\Q (g i j) H
noncomputable def rU (g:Int -> V):V -> Hp -> VK -> Prop:=fun x H Q=>∃ i,x=.int i/\Q (g i) H
section
variable {X:Cx} {a b c:Expr} {ta tb tc:TE} {pos:Pos}
theorem qAd (ha:PE X a ta) (hb:PE X b tb) {pins:List (Addr×Obj)} {s:Shared} {σ:St} {H:Hp} {R:V -> V -> Hp -> Prop} (I:Inv X pins σ H s)
  (h:ta σ H fun x H1=>tb σ H1 fun y H2=>R x y H2) {Q:Value -> Shared -> Prop} {f:Value -> Value -> Sem Value}
  (hf:∀ v u s2 x y H2,Inv X pins σ H2 s2 -> RelV x v -> RelV y u -> R x y H2 -> wpAny (model X.prog X.w) X.A (f v u) Q X.xe s2):
  wpAny (model X.prog X.w) X.A (eval a X.env) (fun v s₁=>wpAny (model X.prog X.w) X.A (eval b X.env) (fun u s₂=>wpAny (model X.prog X.w) X.A (f v u) Q X.xe s₂) X.xe s₁) X.xe s:=by
 refine thn (ha pins s σ H _ I h) fun v s1 ⟨x,H1,I1,r1,q1⟩=>?_
 refine thn (hb pins s1 σ H1 _ I1 q1) fun u s2 ⟨y,H2,I2,r2,q2⟩=>?_
 exact hf v u s2 x y H2 I2 r1 r2 q2
theorem pe_op {op:Operator} {r:R2} (ho:OpR X (binaryOp op) r) (ha:PE X a ta) (hb:PE X b tb):PE X (.BinOp a op b pos) (tOp r ta tb):=by
 intro pins s σ H Q I h
 exact wpAny_BinOp (qAd ha hb I h fun v u s2 x y H2 I2 rx ry q=>ho pins s2 σ H2 x y v u Q I2 rx ry q)
theorem pe_un {op:UnaryOp} {r:V -> Hp -> VK -> Prop} (ho:UnR X (unaryOp op) r) (ha:PE X a ta):PE X (.UnaryOp op a pos) (tUn r ta):=by
 intro pins s σ H Q I h
 exact UnaryOp_ (thn (ha pins s σ H _ I h) fun v s1 ⟨x,H1,I1,r1,q1⟩=>ho pins s1 σ H1 x v Q I1 r1 q1)
theorem opI {f:Value -> Value -> Sem Value} {C:Int -> Int -> Prop} {g:Int -> Int -> Int}
  (rule:∀ (i j:Int) (t u:Tok) (s:Shared) (Q:Value -> Shared -> Prop) (E:Value -> Shared -> Prop),C i j -> Q (.int (g i j) s.toks) { s with toks:=s.toks + 1 } -> wpAny (model X.prog X.w) X.A (f (.int i t) (.int j u)) Q E s):
  OpR X f (rI C fun i j=>.int (g i j)):=by
 intro pins s σ H x y v u Q I rx ry h
 obtain ⟨i,j,rfl,rfl,hc,q⟩:=h
 obtain ⟨t,rfl⟩:=rx
 obtain ⟨t',rfl⟩:=ry
 exact rule i j t t' s _ _ hc ⟨.int (g i j),H,I.tok _,⟨_,rfl⟩,q⟩
theorem qMP {f:Value -> Value -> Sem Value} {g:Int -> Int -> Int}
  (rule:∀ (i j:Int) (t u:Tok) (s:Shared) (Q:Value -> Shared -> Prop) (E:Value -> Shared -> Prop),Q (.int (g i j) s.toks) { s with toks:=s.toks + 1 } -> wpAny (model X.prog X.w) X.A (f (.int i t) (.int j u)) Q E s):
  OpR X f (rI0 fun i j=>.int (g i j)):=by
 intro pins s σ H x y v u Q I rx ry h
 obtain ⟨i,j,rfl,rfl,q⟩:=h
 obtain ⟨t,rfl⟩:=rx
 obtain ⟨t',rfl⟩:=ry
 exact rule i j t t' s _ _ ⟨.int (g i j),H,I.tok _,⟨_,rfl⟩,q⟩
theorem qMN {f:Value -> Value -> Sem Value} {g:Int -> Int -> Bool}
  (rule:∀ (i j:Int) (t u:Tok) (s:Shared) (Q:Value -> Shared -> Prop) (E:Value -> Shared -> Prop),Q (.bool (g i j)) s -> wpAny (model X.prog X.w) X.A (f (.int i t) (.int j u)) Q E s):
  OpR X f (rI0 fun i j=>.bl (g i j)):=by
 intro pins s σ H x y v u Q I rx ry h
 obtain ⟨i,j,rfl,rfl,q⟩:=h
 obtain ⟨t,rfl⟩:=rx
 obtain ⟨t',rfl⟩:=ry
 exact rule i j t t' s _ _ ⟨.bl (g i j),H,I,rfl,q⟩
noncomputable def CDiv (i j:Int):Prop:=0 < j/\j < 1073741824
noncomputable def CPow (i j:Int):Prop:=0<=j/\j<=1000000/\i.natAbs < 2 ^ 64
noncomputable def CMul (i j:Int):Prop:=(-(2 ^ 64) < i/\i < 2 ^ 64)\/(-(2 ^ 64) < j/\j < 2 ^ 64)
theorem CMul.ok {i j:Int} (h:CMul i j):IntMulOk i j:=by
 rcases h with ⟨h1,h2⟩ | ⟨h1,h2⟩
 ·exact .of_left (intBits_le_64 h1 h2)
 ·exact .of_right (intBits_le_64 h1 h2)
theorem two_pow_nn (k:Nat):(0:Int)<=2 ^ k:=by
 rw [two_pow_cast]
 exact Int.natCast_nonneg _
theorem op_add:OpR X (binaryOp .Add) (rI0 fun i j=>.int (i + j)):=qMP fun _ _ _ _ _ _ _ q=>add_int q
theorem op_sub:OpR X (binaryOp .Sub) (rI0 fun i j=>.int (i - j)):=qMP fun _ _ _ _ _ _ _ q=>sub_int q
theorem op_mul:OpR X (binaryOp .Mult) (rI CMul fun i j=>.int (i * j)):=opI fun _ _ _ _ _ _ _ hc q=>mul_int q hc.ok
theorem op_fdiv:OpR X (binaryOp .FloorDiv) (rI CDiv fun i j=>.int (i / j)):=opI fun i j _ _ _ _ _ hc q=>by
 have h1:(0:Int) < j:=hc.1
 have h2:j < 1073741824:=hc.2
 exact floordiv_int (by omega) (by rw [Int.fdiv_eq_ediv_of_nonneg i (by omega)];exact q) (.inl (PyProof.noPylong_small (by omega)))
theorem op_mod:OpR X (binaryOp .Mod) (rI (fun _ j=>0 < j) fun i j=>.int (i % j)):=opI fun i j _ _ _ _ _ hc q=>by
 have h1:(0:Int) < j:=hc
 exact mod_int' (by omega) (by rw [Int.fmod_eq_emod_of_nonneg i (by omega)];exact q)
theorem op_modN:OpR X (binaryOp .Mod) (rI (fun _ j=>j≠0) fun i j=>.int (i.fmod j)):=opI fun _ _ _ _ _ _ _ hc q=>mod_int' hc q
theorem op_pow:OpR X (binaryOp .Pow) (rI CPow fun i j=>.int (i ^ j.toNat)):=opI fun _ _ _ _ _ _ _ hc q=>pow_int_small hc.1 hc.2.1 hc.2.2 q
theorem op_shr:OpR X (binaryOp .RShift) (rI (fun _ j=>0<=j) fun i j=>.int (i / 2 ^ j.toNat)):=opI fun i j _ _ _ _ _ hc q=>
 rshift_int hc (by rw [Int.fdiv_eq_ediv_of_nonneg i (two_pow_nn _)];exact q)
theorem op_and:OpR X (binaryOp .BitAnd) (rI0 fun i j=>.int (Builtin.bitAnd i j)):=qMP fun _ _ _ _ _ _ _ q=>and_int q
theorem op_xor:OpR X (binaryOp .BitXor) (rI0 fun i j=>.int (Builtin.bitXor i j)):=qMP fun _ _ _ _ _ _ _ q=>xor_int q
theorem unI {f:Value -> Sem Value} {g:Int -> Int}
  (rule:∀ (i:Int) (t:Tok) (s:Shared) (Q:Value -> Shared -> Prop) (E:Value -> Shared -> Prop),Q (.int (g i) s.toks) { s with toks:=s.toks + 1 } -> wpAny (model X.prog X.w) X.A (f (.int i t)) Q E s):
  UnR X f (rU fun i=>.int (g i)):=by
 intro pins s σ H x v Q I rx h
 obtain ⟨i,rfl,q⟩:=h
 obtain ⟨t,rfl⟩:=rx
 exact rule i t s _ _ ⟨.int (g i),H,I.tok _,⟨_,rfl⟩,q⟩
theorem un_neg:UnR X (unaryOp .USub) (rU fun i=>.int (-i)):=unI fun _ _ _ _ _ q=>neg_int q
end
section
variable {X:Cx} {a b c:Expr} {ta tb tc:TE} {pos:Pos}
theorem qIO {pins:List (Addr×Obj)} {σ:St} {H:Hp} {s:Shared} {Q:VK} {k k':Bool} (I:Inv X pins σ H s) (q:Q (.bl k) H) (e:k=k'):EP X pins σ Q (.bool k') s:=by
 subst e
 exact ⟨.bl k,H,I,rfl,q⟩
theorem op_lt:OpR X (compareOp .Lt) (rI0 fun i j=>.bl (decide (i < j))):=qMN fun _ _ _ _ _ _ _ q=>lt_int q
theorem op_le:OpR X (compareOp .LtE) (rI0 fun i j=>.bl (decide (i<=j))):=qMN fun _ _ _ _ _ _ _ q=>le_int q
theorem op_gt:OpR X (compareOp .Gt) (rI0 fun i j=>.bl (decide (j < i))):=qMN fun _ _ _ _ _ _ _ q=>gt_int q
theorem op_ge:OpR X (compareOp .GtE) (rI0 fun i j=>.bl (decide (j<=i))):=qMN fun _ _ _ _ _ _ _ q=>ge_int q
theorem op_isN:OpR X (compareOp .Is) (fun x y H Q=>y=.non/\Q (.bl (decide (x=.non))) H):=by
 intro pins s σ H x y v u Q I rx ry h
 obtain ⟨rfl,q⟩:=h
 cases ry
 refine is_none_gen (qIO I q ?_)
 cases x<;>first
  | (cases rx;rfl)
  | (obtain ⟨t,rfl⟩:=rx;rfl)
theorem op_notN:OpR X (compareOp .IsNot) (fun x y H Q=>y=.non/\Q (.bl (!decide (x=.non))) H):=by
 intro pins s σ H x y v u Q I rx ry h
 obtain ⟨rfl,q⟩:=h
 cases ry
 refine isnot_none_gen (qIO I q ?_)
 cases x<;>first
  | (cases rx;rfl)
  | (obtain ⟨t,rfl⟩:=rx;rfl)
theorem OpR.or {f:Value -> Value -> Sem Value} {r r':R2} (h:OpR X f r) (h':OpR X f r'):OpR X f (fun x y H Q=>r x y H Q\/r' x y H Q):=by
 intro pins s σ H x y v u Q I rx ry q
 rcases q with q | q
 ·exact h pins s σ H x y v u Q I rx ry q
 ·exact h' pins s σ H x y v u Q I rx ry q
theorem pe_cmpR {op:CmpOp} {r:R2} (ho:OpR X (compareOp op) r) (ha:PE X a ta) (hb:PE X b tb) (hm:behindInMarks op b=false):PE X (.Compare a [op] [b] pos) (tOp r ta tb):=by
 intro pins s σ H Q I h
 exact wpAny_Compare1 (qAd ha hb I h fun v u s2 x y H2 I2 rx ry q=>ho pins s2 σ H2 x y v u Q I2 rx ry q) hm
noncomputable def qKW (t:TE):TT:=fun σ H Q=>t σ H fun x H'=>∃ k,x=.bl k/\Q k H'
theorem pt_cmpR {op:CmpOp} {r:R2} (ho:OpR X (compareOp op) r) (ha:PE X a ta) (hb:PE X b tb) (hm:behindInMarks op b=false):PT X (.Compare a [op] [b] pos) (qKW (tOp r ta tb)):=by
 intro pins s σ H Q I h
 refine wpAny_isTrue_Compare1 (thn (ha pins s σ H _ I h) fun v s1 ⟨x,H1,I1,r1,q1⟩=>thn (hb pins s1 σ H1 _ I1 q1) fun u s2 ⟨y,H2,I2,r2,q2⟩=>
  thn (ho pins s2 σ H2 x y v u _ I2 r1 r2 q2) fun c s3 ⟨z,H3,I3,r3,k,e,q3⟩=>?_) hm
 subst e
 cases r3
 exact wpAny_truthy_bool ⟨H3,I3,q3⟩
noncomputable def tChain (r r':R2) (ta tb tc:TE):TE:=fun σ H Q=>ta σ H fun x H1=>tb σ H1 fun y H2=>r x y H2 fun z H3=>∃ k,z=.bl k/\
 (if k=true then tc σ H3 fun w' H4=>r' y w' H4 Q else Q (.bl false) H3)
theorem pe_chain {op op':CmpOp} {r r':R2} (ho:OpR X (compareOp op) r) (ho':OpR X (compareOp op') r') (ha:PE X a ta) (hb:PE X b tb) (hc:PE X c tc)
  (hm:lastMarks [op,op'] [b,c]=false:=by with_unfolding_all rfl):PE X (.Compare a [op,op'] [b,c] pos) (tChain r r' ta tb tc):=by
 intro pins s σ H Q I h
 refine Compare_chain (thn (ha pins s σ H _ I h) fun v s1 ⟨x,H1,I1,r1,q1⟩=>chain_link (thn (hb pins s1 σ H1 _ I1 q1) fun u s2 ⟨y,H2,I2,r2,q2⟩=>
  thn (ho pins s2 σ H2 x y v u _ I2 r1 r2 q2) fun d s3 ⟨z,H3,I3,r3,k,e,q3⟩=>?_)) hm
 subst e
 cases r3
 refine wpAny_truthy_bool ?_
 cases k with
 | false=>exact ite_ff ⟨.bl false,H3,I3,rfl,q3⟩
 | true=>exact ite_tt (chain_last (thn (hc pins s3 σ H3 _ I3 q3) fun w' s4 ⟨z',H4,I4,r4,q4⟩=>ho' pins s4 σ H4 y z' u w' Q I4 r2 r4 q4))
theorem pt_chain {op op':CmpOp} {r r':R2} (ho:OpR X (compareOp op) r) (ho':OpR X (compareOp op') r') (ha:PE X a ta) (hb:PE X b tb) (hc:PE X c tc)
  (hm:lastMarks [op,op'] [b,c]=false:=by with_unfolding_all rfl):PT X (.Compare a [op,op'] [b,c] pos) (qKW (tChain r r' ta tb tc)):=by
 intro pins s σ H Q I h
 refine isTrue_chain (thn (ha pins s σ H _ I h) fun v s1 ⟨x,H1,I1,r1,q1⟩=>test_link (thn (hb pins s1 σ H1 _ I1 q1) fun u s2 ⟨y,H2,I2,r2,q2⟩=>
  thn (ho pins s2 σ H2 x y v u _ I2 r1 r2 q2) fun d s3 ⟨z,H3,I3,r3,k,e,q3⟩=>?_)) hm
 subst e
 cases r3
 refine wpAny_truthy_bool ?_
 cases k with
 | false=>
  obtain ⟨k',e',q'⟩:=q3
  cases e'
  exact ite_ff ⟨H3,I3,q'⟩
 | true=>
  refine ite_tt (test_last (thn (hc pins s3 σ H3 _ I3 q3) fun w' s4 ⟨z',H4,I4,r4,q4⟩=>thn (ho' pins s4 σ H4 y z' u w' _ I4 r2 r4 q4) fun d' s5 ⟨z2,H5,I5,r5,k2,e2,q5⟩=>?_))
  subst e2
  cases r5
  exact wpAny_truthy_bool ⟨H5,I5,q5⟩
theorem qFA:(sizeLine:Nat) < 2 ^ 63:=by rw [sizeLine_eq];decide
theorem vals1 {x:V} {us:List Value} (r:Vals [x] us):∃ u,us=[u]/\RelV x u:=by
 cases r with
 | cons r1 r2=>cases r2;exact ⟨_,rfl,r1⟩
theorem vals2 {x y:V} {us:List Value} (r:Vals [x,y] us):∃ u w',us=[u,w']/\RelV x u/\RelV y w':=by
 cases r with
 | cons r1 r2=>
  cases r2 with
  | cons r3 r4=>cases r4;exact ⟨_,_,rfl,r1,r3⟩
theorem call_max2 (hc:X.calm=true):qA6 X (.builtin "max") (fun xs H Q=>∃ i j,xs=[.int i,.int j]/\Q (.int (if j > i then j else i)) H):=by
 intro pins s σ H xs us Q I r h
 obtain ⟨i,j,rfl,q⟩:=h
 obtain ⟨u,w',rfl,⟨t,rfl⟩,⟨t',rfl⟩⟩:=vals2 r
 refine max_two_ints (I.ok.hd hc) fun h' tk k=>⟨_,H,I.kept k,?_,q⟩
 by_cases hj:j > i
 ·rw [if_pos hj,if_pos hj];exact ⟨_,rfl⟩
 ·rw [if_neg hj,if_neg hj];exact ⟨_,rfl⟩
theorem call_min2 (hc:X.calm=true):qA6 X (.builtin "min") (fun xs H Q=>∃ i j,xs=[.int i,.int j]/\Q (.int (if j < i then j else i)) H):=by
 intro pins s σ H xs us Q I r h
 obtain ⟨i,j,rfl,q⟩:=h
 obtain ⟨u,w',rfl,⟨t,rfl⟩,⟨t',rfl⟩⟩:=vals2 r
 refine min_two_ints (I.ok.hd hc) fun h' tk k=>⟨_,H,I.kept k,?_,q⟩
 by_cases hj:j < i
 ·rw [if_pos hj,if_pos hj];exact ⟨_,rfl⟩
 ·rw [if_neg hj,if_neg hj];exact ⟨_,rfl⟩
theorem call_int1:qA6 X (.type "int") (fun xs H Q=>(∃ i,xs=[.int i]/\Q (.int i) H)\/∃ k,xs=[.bl k]/\Q (.int (if k then 1 else 0)) H):=by
 intro pins s σ H xs us Q I r h
 rcases h with ⟨i,rfl,q⟩ | ⟨k,rfl,q⟩
 ·obtain ⟨u,rfl,t,rfl⟩:=vals1 r
  exact call_int_int ⟨.int i,H,I,⟨_,rfl⟩,q⟩
 ·obtain ⟨u,rfl,r1⟩:=vals1 r
  cases r1
  exact call_int_bool ⟨.int (if k then 1 else 0),H,I.tok _,⟨_,rfl⟩,q⟩
end
open PySem PySem.Spec PyProof.Rows
section
variable {prog:Program} {w:World} {A:Around} {E:Value -> Shared -> Prop} {s:Shared} {K:PySem.W.Frag} {x dx C f:Addr} {mA:Str -> Option Value} {name:Str} {v:Value}
end
section
variable {P:Program} {w:World} {H H':Hp} {h h':Heap} {a C dx:Addr} {fs fs':List (Str×V)}
end
section
variable {X:Cx} {pins:List (Addr×Obj)} {σ:St} {H:Hp} {s:Shared} {a C dx:Addr} {fs:List (Str×V)} {f:Str} {v:V} {A:Around} {E:Value -> Shared -> Prop}
end
section
variable {X:Cx} {o e value:Expr} {f:Str} {pos pos' tpos:Pos} {ta tv:TE}
end
section
variable {X:Cx} {pins:List (Addr×Obj)} {σ:St} {H:Hp} {s:Shared} {A:Around} {E:Value -> Shared -> Prop} {Q:Value -> Shared -> Prop} {c:Value} {b:Bool}
end
open PySem PySem.Spec PyProof.Rows
structure Room (k:Nat) (A:Around):Prop where
 hd:A.handled=none
 dp:A.depth + 3 * k + 5 < recursionLimit
 un:A.units + 16 * k + 200 < cLine
 gd:A.guards=some []
theorem Room.deeper {k:Nat} {A:Around} (r:Room (k + 1) A) (env:Env):Room k (A.deeper env):=
 ⟨r.hd,by have:=r.dp;show A.depth + 1 + 3 * k + 5 < _;omega,by have:=r.un;show A.units + 3 + 16 * k + 200 < _;omega,r.gd⟩
theorem Room.depth {k:Nat} {A:Around} (r:Room k A):A.depth < recursionLimit:=by have:=r.dp;omega
theorem Room.units {k:Nat} {A:Around} (r:Room k A):A.units + 64 < cLine:=by have:=r.un;omega
noncomputable def qN0:TA:=fun _ H Q=>Q [] H
noncomputable def qNJ (ta:TE) (tr:TA):TA:=fun σ H Q=>ta σ H fun x H1=>tr σ H1 fun xs H2=>Q (x::xs) H2
section
variable {X:Cx} {e:Expr} {es:List Expr} {te:TE} {t:TA} {pos:Pos}
theorem pa_nil:PA X [] qN0:=fun _ _ _ _ H Q I h=>Calls.spliced_nil ⟨[],H,I,.nil,h⟩
theorem pa_cons (ha:PE X e te) (hr:PA X es t) (hs:starEach (e::es) X.env=(false,eval e X.env)::starEach es X.env:=by rfl):PA X (e::es) (qNJ te t):=by
 intro pos pins s σ H Q I h
 rw [hs]
 show wpAny _ _ (spliced ((false,eval e X.env)::backTo pos (starEach es X.env))) _ _ s
 refine Calls.spliced_cons (thn (ha pins s σ H _ I h) fun u s1 ⟨x,H1,I1,r1,q1⟩=>?_)
 exact thn (hr pos pins s1 σ H1 _ I1 q1) fun us s2 ⟨xs,H2,I2,r2,q2⟩=>⟨x::xs,H2,I2,.cons r1 r2,q2⟩
noncomputable def qOP (t:TA):TE:=fun σ H Q=>t σ H fun xs H1=>xs.length<=sizeLine/\∀ p,H1 p=none -> Q (.ref p) (upd H1 p (.tup xs))
noncomputable def qPE (t:TA):TE:=fun σ H Q=>t σ H fun xs H1=>xs.length<=sizeLine/\∀ p,H1 p=none -> Q (.ref p) (upd H1 p (.lst xs))
theorem pe_tup {x1} (h:PA X es t):PE X (.Tuple es x1 pos) (qOP t):=by
 intro pins s σ H Q I hq
 refine wpAny_Tuple_spliced (thn (h pos pins s σ H _ I hq) fun us s1 ⟨xs,H1,I1,r,z,q⟩=>⟨by rw [<- r.length];exact z,?_⟩)
 have hf:H1 s1.heap.objs.size=none:=I1.hok.fresh (Nat.le_refl _)
 refine ⟨.ref s1.heap.objs.size,upd H1 s1.heap.objs.size (.tup xs),I1.laid (t':=s1.toks) (fun b u e=>Heap.get?_push_of_some _ e) (Nat.le_refl _) ?_,rfl,q _ hf⟩
 exact ⟨z,us,r,⟨_,Heap.get?_push_size _ rfl,rfl,_,rfl⟩⟩
theorem pe_lst (h:PA X es t):PE X (.List es pos) (qPE t):=by
 intro pins s σ H Q I hq
 refine wpAny_List_spliced (thn (h pos pins s σ H _ I hq) fun us s1 ⟨xs,H1,I1,r,z,q⟩=>⟨by rw [<- r.length];exact z,?_⟩)
 have hf:H1 s1.heap.objs.size=none:=I1.hok.fresh (Nat.le_refl _)
 refine ⟨.ref s1.heap.objs.size,upd H1 s1.heap.objs.size (.lst xs),I1.laid (t':=s1.toks) (fun b u e=>Heap.get?_push_of_some _ e) (Nat.le_refl _) ?_,rfl,q _ hf⟩
 exact ⟨z,us,0,r,Heap.get?_push_size _ rfl⟩
end
noncomputable abbrev Sp:=List V -> Hp -> VK -> XK -> Prop
noncomputable abbrev CXT:=List Env -> Hp -> Shared -> XK -> Value -> Shared -> Prop
structure qMJ (P:Program) (w:World) (K:PySem.W.Frag) (mg:Str -> Option Value) (base:Heap) (A:Around) (outer:List Env) (s:Shared) (H:Hp):Prop where
 frames:A.frames=some outer
 mod:Mod K mg base
 bs:∀ b o,base.get? b=some o -> s.heap.get? b=some o/\H b=none
 bsz:base.objs.size<=s.heap.objs.size
 funs:s.heap.FunFrames base outer
 frf:∀ b∈frs outer,H b=none
 hok:HOk P w H s.heap
 bare:AllBare s.gens
noncomputable def CE (outer:List Env) (P:Program) (w:World) (H:Hp) (s:Shared) (Q:VK) (u:Value) (s':Shared):Prop:=
 ∃ v H',s'.os=s.os/\AllBare s'.gens/\Un (frs outer) [] H H' s.heap s'.heap/\HOk P w H' s'.heap/\RelV v u/\Q v H'
noncomputable def CR (CX:CXT) (outer:List Env) (P:Program) (w:World) (H:Hp) (s:Shared) (Q:VK) (E:XK) (r:Result) (s':Shared):Prop:=
 match r with
 | .ok (.ret u)=>CE outer P w H s Q u s'
 | .ok _=>False
 | .error e=>CX outer H s E e s'
structure FnOk (P:Program) (w:World) (K:PySem.W.Frag) (mg:Str -> Option Value) (base:Heap) (CX:CXT) (k:Nat) (f:Addr) (fd:FuncData) (ps:List Str) (sp:Sp):Prop where
 len:∀ vs H Q E,sp vs H Q E -> vs.length=ps.length
 run:∀ (A:Around) (outer:List Env) (s:Shared) (H:Hp) (args:Args) (us:List Value) (vs:List V) (Q:VK) (E:XK),Room k A -> qMJ P w K mg base A outer s H -> BindsTo s fd args (ps.zip us) -> Vals vs us -> sp vs H Q E ->
  codeAny (model P w) A (.call (.ref f) args) (CR CX outer P w H s Q E) s
section
variable {X:Cx} {pins:List (Addr×Obj)} {σ:St} {H:Hp} {s s':Shared}
theorem Inv.env0 (I:Inv X pins σ H s):qMJ X.prog X.w X.K X.mg X.base X.A X.stack s H:=
 ⟨I.ok.frames,I.ok.mod,I.bs,Nat.le_trans I.ok.bsz I.sz,I.stack,I.stkFree,I.hok,I.bare⟩
theorem Inv.after {Q:VK} {u:Value} (I:Inv X pins σ H s) (h:CE X.stack X.prog X.w H s Q u s'):EP X pins σ Q u s':=by
 obtain ⟨v,H',os,bare,un,hok,r,q⟩:=h
 obtain ⟨hh,g,d,t,os'⟩:=s'
 obtain rfl:os'=s.os:=os
 exact ⟨v,H',I.call (h':=hh) (g':=g) (d':=d) (t':=t) (ch:=[]) un hok bare (fun b z=>absurd z (by simp)),r,q⟩
end
noncomputable def tCall (sp:Sp) (dvs:List V) (E:XK) (t:TA):TE:=fun σ H Q=>t σ H fun vs H1=>sp (vs++dvs) H1 Q E
noncomputable def Binds (K:PySem.W.Frag) (fd:FuncData) (ps:List Str) (ds:List Value):Prop:=
 ∀ (s:Shared) (us:List Value),K.In s.heap -> (us++ds).length=ps.length -> BindsTo s fd ⟨us,[]⟩ (ps.zip (us++ds))
theorem Binds.all {K:PySem.W.Frag} {fd:FuncData} {ps:List Str} (h:∀ us:List Value,us.length=ps.length -> bindArgs fd ⟨us,[]⟩=pure (ps.zip us)):Binds K fd ps []:=fun s us _ hl=>by
 rw [List.append_nil] at hl ⊢
 exact .of_eq (h us hl)
noncomputable def qE9 (CX:CXT) (X:Cx) (E:XK):Prop:=∀ (pins:List (Addr×Obj)) (σ:St) (H:Hp) (s:Shared) (e:Value) (s':Shared),Inv X pins σ H s -> CX X.stack H s E e s' -> X.xe e s'
section
variable {X:Cx} {CX:CXT} {k:Nat} {f C:Addr} {fd:FuncData} {ps:List Str} {sp:Sp} {dvs:List V} {ds:List Value} {E:XK} {x m:Str} {p pos apos:Pos} {e o:Expr} {es:List Expr} {ta:TE} {t:TA}
theorem qIa {pins:List (Addr×Obj)} {σ:St} {H:Hp} {s:Shared} {Q:VK} {us:List Value} {vs:List V} (F:FnOk X.prog X.w X.K X.mg X.base CX k f fd ps sp) (hr:Room k X.A) (hb:Binds X.K fd ps ds) (hd:Vals dvs ds) (hx:qE9 CX X E)
  (I:Inv X pins σ H s) (r:Vals vs us) (h:sp (vs++dvs) H Q E):wpAny (model X.prog X.w) X.A (call (.ref f) us) (EP X pins σ Q) X.xe s:=by
 have r2:Vals (vs++dvs) (us++ds):=r.append hd
 have hl:(us++ds).length=ps.length:=by rw [<- r2.length];exact F.len _ _ _ _ h
 refine wpAny_call (codeAny_mono (F.run X.A X.stack s H ⟨us,[]⟩ (us++ds) (vs++dvs) Q E hr I.env0 (hb s us I.kIn hl) r2 h) fun r s' hq=>?_)
 cases r with
 | error e=>exact hx pins σ H s e s' I hq
 | ok fl=>
  cases fl with
  | ret u=>exact I.after hq
  | next=>exact False.elim hq
  | brk=>exact False.elim hq
  | cont=>exact False.elim hq
theorem pe_call (F:FnOk X.prog X.w X.K X.mg X.base CX k f fd ps sp) (hr:Room k X.A) (hg:Gl X x) (hm:X.mg x=some (.ref f)) (hk:PySem.W.keepIn X.K (.ref f)=true) (hb:Binds X.K fd ps ds) (hd:Vals dvs ds) (hx:qE9 CX X E)
  (ha:PA X (e::es) t) (hdb:(x==("__debug__":Str))=false:=by decide) (he:starEach (e::es) X.env=(false,eval e X.env)::starEach es X.env:=by rfl) (hpl:(backTo pos (starEach es X.env)).any (·.1)=false:=by rfl):
  PE X (.Call (.Name x p) (e::es) [] pos) (tCall sp dvs E t):=by
 intro pins s σ H Q I h
 refine wpAny_Call_Name_kw (qEc I hg hm ?_ hdb)
 refine PySem.W.callWith_K (h₀:=X.base) I.ok.mod.kin hk (thn (ha pos pins s σ H _ I h) fun us s1 ⟨vs,H1,I1,r,q⟩=>⟨I1.kIn,?_⟩) he hpl
 exact qIa F hr hb hd hx I1 r q
theorem pe_call0 (F:FnOk X.prog X.w X.K X.mg X.base CX k f fd ps sp) (hr:Room k X.A) (hg:Gl X x) (hm:X.mg x=some (.ref f)) (hk:PySem.W.keepIn X.K (.ref f)=true) (hb:Binds X.K fd ps ds) (hd:Vals dvs ds) (hx:qE9 CX X E)
  (hdb:(x==("__debug__":Str))=false:=by decide):PE X (.Call (.Name x p) [] [] pos) (tCall sp dvs E qN0):=by
 intro pins s σ H Q I h
 refine wpAny_Call_Name_kw (qEc I hg hm ?_ hdb)
 exact PySem.W.callWith_K0 I.kIn hk (qIa (us:=[]) F hr hb hd hx I .nil h)
end
section
variable {X:Cx} {CX:CXT} {k:Nat} {f C:Addr} {fd:FuncData} {ps ks:List Str} {sp:Sp} {E:XK} {x m:Str} {p pos apos kpos:Pos} {e o:Expr} {es:List Expr} {kws:List Keyword} {te ta:TE} {t tk:TA} {nm:Option Str}
variable {g:List Value -> List Value -> List Value} {gV:List V -> List V -> List V}
end
structure qBS (N P:List Str) (sc:Scope):Prop where
 kind:sc.kind=.function
 co:sc.isCoroutine=false
 gen:sc.isGenerator=false
 nd:N.Nodup
 pre:N.take P.length=P
 par:∀ x∈P,sc.names.lookup x=some .local\/sc.names.lookup x=some .cell
 nofree:∀ y∈sc.names,y.2≠.free
theorem qDz {kindOf:Str -> Option NameKind} {x:Str}:∀ {binds:List (Str×Value)} {m:Str -> Option Value},(∀ v,(x,v)∉binds) -> bindL kindOf binds m x=m x
 | [],_,_=>rfl
 | (n,v)::r,m,h=>by
  unfold bindL
  rw [qDz fun w hw=>h w (List.mem_cons_of_mem _ hw)]
  split
  ·have:x≠n:=by rintro rfl;exact h v List.mem_cons_self
   simp [this]
  ·rfl
theorem qDh {kindOf:Str -> Option NameKind} {x:Str}:∀ {binds:List (Str×Value)} {m:Str -> Option Value},(∀ v,(x,v)∉binds) -> bindC kindOf binds m x=m x
 | [],_,_=>rfl
 | (n,v)::r,m,h=>by
  unfold bindC
  rw [qDh fun w hw=>h w (List.mem_cons_of_mem _ hw)]
  split
  ·rfl
  ·have:x≠n:=by rintro rfl;exact h v List.mem_cons_self
   simp [this]
theorem qDt {kindOf:Str -> Option NameKind} {x:Str} {v:Value}:∀ {P:List Str} {vs:List Value} {i:Nat} {m:Str -> Option Value},P.Nodup -> P[i]?=some x -> vs[i]?=some v -> kindOf x=some .local ->
  bindL kindOf (P.zip vs) m x=some v
 | [],_,_,_,_,h,_,_=>by simp at h
 | _::_,[],_,_,_,_,h,_=>by simp at h
 | p::P,w::vs,0,m,nd,h1,h2,hk=>by
  simp at h1 h2;subst h1;subst h2
  show bindL kindOf ((p,w)::P.zip vs) m p=_
  unfold bindL
  rw [qDz fun v hv=>(List.nodup_cons.mp nd).1 (List.of_mem_zip hv).1,if_pos hk]
  simp
 | p::P,w::vs,i + 1,m,nd,h1,h2,hk=>by
  show bindL kindOf ((p,w)::P.zip vs) m x=_
  unfold bindL
  exact qDt (i:=i) (List.nodup_cons.mp nd).2 (by simpa using h1) (by simpa using h2) hk
theorem qD1 {kindOf:Str -> Option NameKind} {x:Str} {v:Value}:∀ {P:List Str} {vs:List Value} {i:Nat} {m:Str -> Option Value},P.Nodup -> P[i]?=some x -> vs[i]?=some v -> kindOf x≠some .local ->
  bindC kindOf (P.zip vs) m x=some v
 | [],_,_,_,_,h,_,_=>by simp at h
 | _::_,[],_,_,_,_,h,_=>by simp at h
 | p::P,w::vs,0,m,nd,h1,h2,hk=>by
  simp at h1 h2;subst h1;subst h2
  show bindC kindOf ((p,w)::P.zip vs) m p=_
  unfold bindC
  rw [qDh fun v hv=>(List.nodup_cons.mp nd).1 (List.of_mem_zip hv).1,if_neg hk]
  simp
 | p::P,w::vs,i + 1,m,nd,h1,h2,hk=>by
  show bindC kindOf ((p,w)::P.zip vs) m x=_
  unfold bindC
  exact qD1 (i:=i) (List.nodup_cons.mp nd).2 (by simpa using h1) (by simpa using h2) hk
noncomputable def start (N:List Str) (vs:List V):St:=vs.map some++List.replicate (N.length - vs.length) none
noncomputable def cxOf (CX:CXT) (P:Program) (w:World) (K:PySem.W.Frag) (mg:Str -> Option Value) (base:Heap) (N:List Str) (qual:Str) (scope:Scope) (f:Addr) (cd:Value) (A:Around) (outer:List Env) (s:Shared) (H:Hp) (E:XK):Cx where
 prog:=P
 w:=w
 K:=K
 mg:=mg
 base:=base
 A:=A.deeper (envOfC qual scope s.heap.objs.size f cd)
 N:=N
 s₀:=s
 H₀:=H
 env:=envOfC qual scope s.heap.objs.size f cd
 outer:=outer
 stack:=envOfC qual scope s.heap.objs.size f cd::outer
 ex:=[]
 calm:=true
 fn:=fun _=>true
 pn:=[]
 xe:=fun e s'=>wpAny (model P w) (A.deeper (envOfC qual scope s.heap.objs.size f cd)) (leaving (envOfC qual scope s.heap.objs.size f cd) e) (fun _ s''=>CX outer H s E e s'') (fun e' s''=>CX outer H s E e' s'') s'
theorem qEp {sc:Scope} {n:Nat} {x:Str} (h:sc.names.lookup x=some .cell):∃ c,(cellsFrom n sc.names []).lookup x=some c:=by
 have q:=PySem.W.cellsFrom_some sc.names n [] (.inl h)
 exact Option.isSome_iff_exists.mp q
theorem qGG {CX:CXT} {P:Program} {w:World} {K:PySem.W.Frag} {mg:Str -> Option Value} {base:Heap} {N ps:List Str} {qual:Str} {scope:Scope} {f:Addr} {cd:Value} {A:Around} {outer:List Env} {s s1:Shared} {H:Hp} {E:XK} {us:List Value} {vs:List V}
  (S:qBS N ps scope) (hd:A.handled=none) (e0:qMJ P w K mg base A outer s H) (hl:vs.length=ps.length) (r:Vals vs us)
  (x:InCallC s s.heap.objs.size (bindL (envOfC qual scope s.heap.objs.size f cd).kindOf (ps.zip us) fun _=>none) (cellsFrom (s.heap.objs.size + 1) scope.names []) (bindC (envOfC qual scope s.heap.objs.size f cd).kindOf (ps.zip us) fun _=>none) s1):
  Inv (cxOf CX P w K mg base N qual scope f cd A outer s H E) [] (start N vs) H s1:=by
 have hpl:ps.length<=N.length:=by have:=congrArg List.length S.pre;rw [List.length_take] at this;omega
 obtain ⟨h1,tk,rfl,hk⟩:=x.done
 have noA:∀ b:Addr,b∉(cxOf CX P w K mg base N qual scope f cd A outer s H E).ex:=fun b z=>absurd (show b∈([]:List Addr) from z) (by simp)
 refine ⟨⟨e0.mod,S.kind,rfl,rfl,Nat.le_refl _,fun y z c h1 h2=>?_,fun y hy=>?_,fun y c _ h=>?_,fun _=>hd,Around.frames_deeper e0.frames,.inr ⟨rfl,rfl⟩,fun b z=>absurd z (noA b),e0.bs,e0.bsz,fun b _ _=>noA b,fun b z=>absurd z (noA b),e0.funs,e0.frf⟩,
  rfl,e0.bare,Un.kept hk,⟨_,x.toInCall.ns,fun i y v h1 h2 h3=>?_⟩,fun y c h=>⟨_,x.cell y c h⟩,e0.hok.fresh (Nat.le_refl _),fun y c h=>?_,fun p hp=>absurd (show p∈([]:List (Addr×Obj)) from hp) (by simp),e0.hok.kept hk,?_⟩
 ·exact name_of_addr x.apart (PySem.mem_of_lookup h1) (PySem.mem_of_lookup h2)
 ·have hy:scope.names.lookup y=some .cell\/scope.names.lookup y=some .free:=hy
  rcases hy with hy | hy
  ·exact qEp hy
  ·exact absurd rfl (S.nofree _ (PySem.mem_of_lookup hy))
 ·exact Nat.le_of_lt (x.above y c (PySem.mem_of_lookup h))
 ·have hi:i < vs.length:=by
   unfold start at h2
   by_cases hi:i < vs.length
   ·exact hi
   ·rw [List.getElem?_append_right (by simpa using hi)] at h2
    rw [List.getElem?_replicate] at h2
    split at h2<;>cases h2
  have ha:vs[i]?=some v:=by
   unfold start at h2
   rw [List.getElem?_append_left (by simpa using hi),List.getElem?_map] at h2
   cases e:vs[i]? with
   | none=>rw [e] at h2;cases h2
   | some a=>rw [e] at h2;cases h2;rfl
  obtain ⟨u,hu,rv⟩:=r.get ha
  have hp:ps[i]?=some y:=by
   rw [<- S.pre,List.getElem?_take_of_lt (by omega)];exact h1
  have ndP:ps.Nodup:=by rw [<- S.pre];exact S.nd.sublist (List.take_sublist _ _)
  refine ⟨u,rv,?_⟩
  rcases S.par y (List.mem_of_getElem? hp) with k | k
  ·exact .inl ⟨k,qDt ndP hp hu k⟩
  ·obtain ⟨c,e⟩:=qEp (n:=s.heap.objs.size + 1) k
   refine .inr ⟨.inl k,c,e,?_⟩
   have q:=x.cell y c e
   rw [qD1 ndP hp hu (by show scope.names.lookup y≠_;rw [k];decide)] at q
   exact q
 ·exact e0.hok.fresh (Nat.le_of_lt (x.above y c (PySem.mem_of_lookup h)))
 ·unfold start
  show _=N.length
  rw [List.length_append,List.length_map,List.length_replicate]
  omega
theorem qM1 {CX:CXT} {P:Program} {w:World} {K:PySem.W.Frag} {mg:Str -> Option Value} {base:Heap} {k:Nat} {f:Addr} {name qual:Str} {params:Arguments} {body:List Stmt} {scope:Scope} {dV kV doc pm cdv ct oc:Value} {an od:Option Addr}
  {osl:Array (Option Value)} {N ps:List Str} {sp:Sp} (lk:K.lookup f=some ⟨oc,od,.func (PySem.W.fnOf name qual params body scope dV kV doc pm an cdv ct),osl⟩) (hcd:PySem.W.codeIn K cdv qual=true) (S:qBS N ps scope)
  (len:∀ vs H Q E,sp vs H Q E -> vs.length=ps.length)
  (hbody:∀ (A:Around) (outer:List Env) (s:Shared) (H:Hp) (vs:List V) (Q:VK) (E:XK),Room k (A.deeper (envOfC qual scope s.heap.objs.size f cdv)) -> sp vs H Q E ->
   ∃ t,PSs (cxOf CX P w K mg base N qual scope f cdv A outer s H E) body t/\t { nx:=fun _ H'=>Q .non H',rt:=Q } (start N vs) H):
  FnOk P w K mg base CX (k + 1) f (PySem.W.fnOf name qual params body scope dV kV doc pm an cdv ct) ps sp:=by
 refine ⟨len,fun A outer s H args us vs Q E hr e0 hb r hsp=>?_⟩
 have hl:=len _ _ _ _ hsp
 have KX:K.In s.heap:=e0.mod.kin.keeps fun b o e=>(e0.bs b o e).1
 have lim:s.heap.NoLimit:=e0.mod.nolimit.keeps fun b o e=>(e0.bs b o e).1
 have hkind:∀ y∈ps.zip us,scope.names.lookup y.1=some .local\/(scope.names.lookup y.1=some .cell/\((cellsFrom (s.heap.objs.size + 1) scope.names []).lookup y.1).isSome=true):=fun ⟨n,v⟩ hy=>by
  rcases S.par n (List.of_mem_zip hy).1 with q | q
  ·exact .inl q
  ·exact .inr ⟨q,PySem.W.cellsFrom_some _ _ _ (.inl q)⟩
 refine codeAny_call_function hr.depth (KX _ _ lk) rfl S.co S.gen rfl (PySem.W.codeRec_of KX hcd) (hb _ _ _ _ ?_)
 refine wpAny_newFunctionEnv_cells S.kind hkind fun env he s1 x=>?_
 subst he
 refine ⟨lim.keeps x.toInCall.keep,codeAny_func ?_⟩
 obtain ⟨t,ht,hq⟩:=hbody A outer s H vs Q E (hr.deeper _) hsp
 have I:Inv (cxOf CX P w K mg base N qual scope f cdv A outer s H E) [] (start N vs) H s1:=qGG S hr.hd e0 hl r x
 refine wpAny_mono (ht [] s1 (start N vs) H _ I hq) (fun fl s' hs=>?_) fun e s' hs=>hs
 have fin:∀ {σ':St} {H':Hp} {v:V} {u:Value},Inv (cxOf CX P w K mg base N qual scope f cdv A outer s H E) [] σ' H' s' -> RelV v u -> Q v H' -> CE outer P w H s Q u s':=
  fun {σ' H' v u} J rv q=>⟨v,H',J.os,J.bare,J.base,J.hok,rv,q⟩
 cases fl with
 | ret u=>
  obtain ⟨v,σ',H',J,rv,q⟩:=hs
  exact fin J rv q
 | next=>
  obtain ⟨σ',H',J,q⟩:=hs
  exact fin (v:=V.non) (u:=Value.none) J rfl q
 | brk=>
  obtain ⟨_,_,_,q⟩:=hs
  exact False.elim q
 | cont=>
  obtain ⟨_,_,_,q⟩:=hs
  exact False.elim q
open PySem PySem.Spec PyProof.Rows
section
variable {X:Cx} {x:Str} {p pos:Pos} {e:Expr} {es:List Expr} {t:TA} {id T:String} {r:List V -> Hp -> VK -> Prop}
noncomputable def tCB (r:List V -> Hp -> VK -> Prop) (t:TA):TE:=fun σ H Q=>t σ H fun vs H1=>r vs H1 Q
theorem pe_callB (hc:qA6 X (.builtin id) r) (hg:Gl X x) (hm:X.mg x=none) (hv:bootBuiltins x=some (.builtin id)) (ha:PA X (e::es) t) (hn:x≠"__name__":=by decide) (hdb:(x==("__debug__":Str))=false:=by decide)
  (he:starEach (e::es) X.env=(false,eval e X.env)::starEach es X.env:=by rfl) (hpl:(backTo pos (starEach es X.env)).any (·.1)=false:=by rfl):PE X (.Call (.Name x p) (e::es) [] pos) (tCB r t):=by
 intro pins s σ H Q I h
 refine wpAny_Call_Name_kw (ld_blt I hg hm hv ?_ hn hdb)
 exact PyProof.Rows.callWith_builtin1 (thn (ha pos pins s σ H _ I h) fun us s1 ⟨vs,H1,I1,r1,q1⟩=>hc pins s1 σ H1 vs us Q I1 r1 q1) he hpl
theorem pe_callTy (hc:qA6 X (.type T) r) (hg:Gl X x) (hm:X.mg x=none) (hv:bootBuiltins x=some (.type T)) (ha:PA X (e::es) t) (hn:x≠"__name__":=by decide) (hdb:(x==("__debug__":Str))=false:=by decide)
  (he:starEach (e::es) X.env=(false,eval e X.env)::starEach es X.env:=by rfl) (hpl:(backTo pos (starEach es X.env)).any (·.1)=false:=by rfl):PE X (.Call (.Name x p) (e::es) [] pos) (tCB r t):=by
 intro pins s σ H Q I h
 refine wpAny_Call_Name_kw (ld_blt I hg hm hv ?_ hn hdb)
 exact PyProof.Rows.callWith_type1 (thn (ha pos pins s σ H _ I h) fun us s1 ⟨vs,H1,I1,r1,q1⟩=>hc pins s1 σ H1 vs us Q I1 r1 q1) he hpl
end
end L2
namespace HT
open PySem PyProof.Rows
section
open PySem.SeqAt
open PySem.AutoSeq1 (wpAny_loadPart')
open PySem.MeetsSeq PySem.MeetsSeq2 PySem.MeetsSeq3
end
section
variable {prog:Program} {w:World} {A:Around} {E:Value -> Shared -> Prop} {s:Shared}
theorem cat_tup {t b:Addr} {vs ws:List Value} {Q:Value -> Shared -> Prop} (ht:IsTup s.heap t vs.toArray) (hb:IsTup s.heap b ws.toArray) (hv:vs≠[])
  (h1:ws=[] -> Q (.ref t) s) (h2:ws≠[] -> Q (.ref s.heap.objs.size) { s with heap:=s.heap.push { cls:=.type "tuple",data:=.seq (vs++ws).toArray } })
  (hsz:vs.length + ws.length<=sizeLine):wpAny (model prog w) A (binaryOp .Add (.ref t) (.ref b)) Q E s:=by
 obtain ⟨⟨cls,dd,data,sl⟩,ho,hc,n,hd⟩:=id ht
 obtain ⟨⟨cls2,dd2,data2,sl2⟩,ho2,hc2,n2,hd2⟩:=id hb
 simp only at hc hd hc2 hd2
 subst hc hd hc2 hd2
 have e:vs.toArray++ws.toArray=(vs++ws).toArray:=by simp
 by_cases hw:ws=[]
 ·exact concat_meets ⟨_,ho,rfl⟩ ⟨_,ho2,rfl⟩ noFill_tuple_add seq_tuple_add PySem.F.slot_tuple_add PySem.F.entry_tuple_add (PySem.F.args_tuple_add_2 _ _)
   (tuple_addW1 t b vs.toArray ws.toArray n n2 dd dd2 sl sl2 (by simpa using hv) (by simp [hw])) ⟨ho,ho2,h1 hw⟩
 ·refine concat_meets ⟨_,ho,rfl⟩ ⟨_,ho2,rfl⟩ noFill_tuple_add seq_tuple_add PySem.F.slot_tuple_add PySem.F.entry_tuple_add (PySem.F.args_tuple_add_2 _ _)
   (tuple_addW2 t b vs.toArray ws.toArray n n2 dd dd2 sl sl2 (by simpa using hv) (by simpa using hw) (by rw [List.size_toArray,List.size_toArray];exact hsz)) ⟨ho,ho2,?_⟩
  rw [e]
  exact h2 hw
noncomputable def sIx (n d:Nat):Option Int -> Nat
 | none=>d
 | some v=>if v < 0 then (v + (n:Int)).toNat else min v.toNat n
theorem sIx_none (n d:Nat):sIx n d none=d:=rfl
theorem sIx_nat (n d k:Nat):sIx n d (some (k:Int))=min k n:=by
 show (if (k:Int) < 0 then ((k:Int) + (n:Int)).toNat else min (k:Int).toNat n)=min k n
 rw [if_neg (by omega),Int.toNat_natCast]
theorem qLO (n d:Nat) (hd:d<=n) (o:Option Int):sIx n d o<=n:=by
 cases o with
 | none=>exact hd
 | some v=>
  show (if v < 0 then (v + (n:Int)).toNat else min v.toNat n)<=n
  by_cases hv:v < 0
  ·rw [if_pos hv];omega
  ·rw [if_neg hv];exact Nat.min_le_right _ _
theorem qGn (v:Int) (n d:Nat):(if v < 0 then max (v + (n:Int)) 0 else min v (n:Int))=((sIx n d (some v):Nat):Int):=by
 show (if v < 0 then max (v + (n:Int)) 0 else min v (n:Int))=(((if v < 0 then (v + (n:Int)).toNat else min v.toNat n):Nat):Int)
 by_cases hv:v < 0
 ·simp only [if_pos hv];omega
 ·simp only [if_neg hv];omega
theorem qFQ (lo hi:Option Int) (n:Nat):Builtin.Slice.sliceAdjust lo hi 1 (n:Int)=(((sIx n 0 lo:Nat):Int),((sIx n n hi:Nat):Int)):=by
 have h1:¬ ((1:Int) < 0):=by omega
 unfold Builtin.Slice.sliceAdjust
 simp only [h1,if_false]
 refine Prod.ext ?_ ?_
 ·cases lo with
  | none=>rfl
  | some v=>exact qGn v n 0
 ·cases hi with
  | none=>rfl
  | some v=>exact qGn v n n
theorem qFV (i j:Nat):Builtin.Slice.slicePlaces (i:Int) (j:Int) 1=j - i:=by
 unfold Builtin.Slice.slicePlaces
 have h1:(1:Int) > 0:=by omega
 simp only [h1,if_true,Int.ediv_one]
 split<;>omega
theorem qCt {v:Value} {o:Option Int} {Q:Option Int -> Shared -> Prop} (p:IsPart v o) (h:Q o s):wpAny (model prog w) A (Builtin.Slice.slicePartIndex v) Q E s:=by
 cases p with
 | none=>exact slicePart_none h
 | int i t=>exact slicePart_int h
theorem qCK {sl:Addr} {vl vu:Value} {lo hi:Option Int} {n:Nat} {Q:Int×Int×Nat -> Shared -> Prop} (hs:s.heap.IsSliceOf sl vl vu .none) (pl:IsPart vl lo) (pu:IsPart vu hi)
  (h:Q (((sIx n 0 lo:Nat):Int),1,sIx n n hi - sIx n 0 lo) s):wpAny (model prog w) A (Builtin.Slice.sliceApplied (.ref sl) (pure (n:Int))) Q E s:=by
 obtain ⟨os,hos,hcs,hds⟩:=id hs
 unfold Builtin.Slice.sliceApplied Builtin.Slice.sliceFields
 refine wpAny_bind (wpAny_bind (wpAny_field hos hds (x:=vl) rfl (wpAny_bind (wpAny_field hos hds (x:=vu) rfl (wpAny_bind (wpAny_field hos hds (x:=.none) rfl (wpAny_pure ?_)))))))
 refine wpAny_bind (slicePart_none ?_)
 show wpAny _ _ (if ((1:Int)==0)=true then _ else _) _ _ s
 rw [if_neg (by decide)]
 refine wpAny_bind (qCt pl (wpAny_bind (qCt pu (wpAny_bind (wpAny_pure ?_)))))
 show wpAny _ _ (match Builtin.Slice.sliceAdjust lo hi 1 (n:Int) with | (lo,hi)=>pure (lo,(1:Int),Builtin.Slice.slicePlaces lo hi 1)) _ _ s
 rw [qFQ lo hi n]
 show wpAny _ _ (pure (((sIx n 0 lo:Nat):Int),(1:Int),Builtin.Slice.slicePlaces ((sIx n 0 lo:Nat):Int) ((sIx n n hi:Nat):Int) 1)) _ _ s
 rw [qFV]
 exact wpAny_pure h
theorem qHn (xs:Array Value) (i k:Nat):((List.range k).filterMap fun (m:Nat)=>xs[((i:Int) + (m:Int) * 1).toNat]?).toArray=((xs.toList.drop i).take k).toArray:=by
 have e:(fun (m:Nat)=>xs[((i:Int) + (m:Int) * 1).toNat]?)=fun m=>xs[i + m]?:=by
  funext m
  have:((i:Int) + (m:Int) * 1).toNat=i + m:=by omega
  rw [this]
 rw [e]
 have:=pick_run xs i k
 rw [List.filterMap_map] at this
 have e2:((fun x=>xs[x]?)∘fun x=>i + x)=fun m=>xs[i + m]?:=rfl
 rw [e2] at this
 rw [this]
theorem getItem_tuple_cut {t sl:Addr} {items:Array Value} {vl vu:Value} {lo hi:Option Int} {Q:Value -> Shared -> Prop} (ht:IsTup s.heap t items) (hs:s.heap.IsSliceOf sl vl vu .none) (pl:IsPart vl lo) (pu:IsPart vu hi)
  (hw:¬ (sIx items.size 0 lo=0/\sIx items.size items.size hi=items.size))
  (h:Q (.ref s.heap.objs.size) { s with heap:=s.heap.push { cls:=.type "tuple",data:=.seq ((items.toList.drop (sIx items.size 0 lo)).take (sIx items.size items.size hi - sIx items.size 0 lo)).toArray } })
  (hsz:items.size<=sizeLine):wpAny (model prog w) A (getItem (.ref t) (.ref sl)) Q E s:=by
 have htake:sizeOk (.seq ((items.toList.drop (sIx items.size 0 lo)).take (sIx items.size items.size hi - sIx items.size 0 lo)).toArray):=by
  show ((items.toList.drop (sIx items.size 0 lo)).take (sIx items.size items.size hi - sIx items.size 0 lo)).toArray.size<=sizeLine
  rw [List.size_toArray,List.length_take,List.length_drop,Array.length_toList]
  omega
 have hj:sIx items.size items.size hi<=items.size:=qLO _ _ (Nat.le_refl _) hi
 obtain ⟨os,hos,hcs,hds⟩:=id hs
 have hTs:s.TypeIs (.ref sl) "slice":=⟨os,hos,hcs⟩
 unfold getItem
 try with_reducible refine wpAny_holding ?_
 first | refine wpAny_bind (wpAny_pure ?_) | skip
 refine wpAny_bind (wpAny_sequenceKey ht.typeIs (by decide) ?_)
 refine wpAny_bind (wpAny_callSpecial?_slot (name:=Str.ofString "__getitem__") ht.typeIs PyProof.Rows.slot_tuple_getitem
  (wpAny_call_entry PyProof.Rows.slot_tuple_getitem ht.typeIs entry_tuple_getitem ?_ (args_tuple_getitem _ _)))
 show wpAny _ _ (Builtin.Tuple.tupleItemsOf (.ref t) >>=_) _ _ s
 refine wpAny_bind (tupleItemsOf_ ht ?_)
 refine wpAny_bind (wpAny_typeOf hTs ?_)
 rw [if_pos (by decide)]
 refine wpAny_bind (qCK hs pl pu ?_)
 have hno:¬ ((((sIx items.size 0 lo:Nat):Int)==0&&(1:Int)==1&&(sIx items.size items.size hi - sIx items.size 0 lo)==items.size)=true):=by
  intro q
  rw [Bool.and_eq_true,Bool.and_eq_true] at q
  have q1:((sIx items.size 0 lo:Nat):Int)=0:=eq_of_beq q.1.1
  have q2:sIx items.size items.size hi - sIx items.size 0 lo=items.size:=eq_of_beq q.2
  exact hw ⟨by omega,by omega⟩
 show wpAny _ _ (if (((sIx items.size 0 lo:Nat):Int)==0&&(1:Int)==1&&(sIx items.size items.size hi - sIx items.size 0 lo)==items.size)=true then _ else _) _ _ s
 rw [if_neg hno,qHn]
 first
  | exact wpAny_bind (m:=Builtin.Tuple.tupleExact _) (wpAny_newObj_type (wpAny_pure ⟨_,rfl,wpAny_pure h⟩) htake)
  | exact wpAny_bind (m:=Builtin.Tuple.tupleExact _) (wpAny_newObj_type (wpAny_bind (wpAny_pure (wpAny_pure ⟨_,rfl,wpAny_pure h⟩))) htake)
  | exact wpAny_bind (wpAny_bind (m:=Builtin.Tuple.tupleExact _) (wpAny_newObj_type (wpAny_pure (wpAny_pure ⟨_,rfl,wpAny_pure h⟩)) htake))
  | exact wpAny_bind (wpAny_bind (m:=Builtin.Tuple.tupleExact _) (wpAny_newObj_type (wpAny_pure ⟨_,rfl,wpAny_pure h⟩) htake))
end
end HT
namespace L2
open PySem PySem.Spec PyProof.Rows
noncomputable abbrev TO:=St -> Hp -> (Option Int -> Hp -> Prop) -> Prop
noncomputable def PO (X:Cx) (e:Option Expr) (t:TO):Prop:=
 ∀ (pins:List (Addr×Obj)) (s:Shared) (σ:St) (H:Hp) (Q:Option Int -> Hp -> Prop),Inv X pins σ H s -> t σ H Q ->
  wpAny (model X.prog X.w) X.A (evalPart e X.env) (fun u s'=>∃ o H',Inv X pins σ H' s'/\IsPart u o/\Q o H') X.xe s
noncomputable def qJQ:TO:=fun _ H Q=>Q none H
noncomputable def qM0 (t:TE):TO:=fun σ H Q=>t σ H fun x H1=>∃ i,x=.int i/\Q (some i) H1
section
variable {X:Cx} {e:Expr} {te:TE} {lo hi:Option Expr} {tl th:TO} {pos p2:Pos}
theorem po_none:PO X none qJQ:=by
 intro pins s σ H Q I h
 rw [evalPart_none]
 exact wpAny_pure ⟨none,H,I,.none,h⟩
theorem po_some (h:PE X e te):PO X (some e) (qM0 te):=by
 intro pins s σ H Q I hw
 rw [evalPart_some]
 refine thn (h pins s σ H _ I hw) fun u s1 ⟨x,H1,I1,r1,q1⟩=>?_
 obtain ⟨i,rfl,q⟩:=q1
 obtain ⟨t,rfl⟩:=r1
 exact ⟨some i,H1,I1,.int i t,q⟩
noncomputable def SlR (X:Cx) (r:V -> Option Int -> Option Int -> Hp -> VK -> Prop):Prop:=
 ∀ (pins:List (Addr×Obj)) (s:Shared) (σ:St) (H:Hp) (x:V) (v vl vu:Value) (lo hi:Option Int) (sl:Addr) (Q:VK),Inv X pins σ H s -> RelV x v -> s.heap.IsSliceOf sl vl vu .none -> IsPart vl lo -> IsPart vu hi -> r x lo hi H Q ->
  ∃ T id,typeLookup (.type T) "__getitem__"=pure (some (.builtin id))/\s.TypeIs v T/\wpAny (model X.prog X.w) X.A (getItem v (.ref sl)) (EP X pins σ Q) X.xe s
theorem SlR.or {r r':V -> Option Int -> Option Int -> Hp -> VK -> Prop} (h:SlR X r) (h':SlR X r'):SlR X (fun x lo hi H Q=>r x lo hi H Q\/r' x lo hi H Q):=by
 intro pins s σ H x v vl vu lo hi sl Q I rx hs pl pu q
 rcases q with q | q
 ·exact h pins s σ H x v vl vu lo hi sl Q I rx hs pl pu q
 ·exact h' pins s σ H x v vl vu lo hi sl Q I rx hs pl pu q
noncomputable def tSl (r:V -> Option Int -> Option Int -> Hp -> VK -> Prop) (te:TE) (tl th:TO):TE:=fun σ H Q=>te σ H fun x H1=>tl σ H1 fun l H2=>th σ H2 fun u H3=>r x l u H3 Q
theorem pe_slice {r:V -> Option Int -> Option Int -> Hp -> VK -> Prop} (hr:SlR X r) (he:PE X e te) (hl:PO X lo tl) (hu:PO X hi th):PE X (.Subscript e (.Slice lo hi none p2) pos) (tSl r te tl th):=by
 intro pins s σ H Q I h
 refine Subscript_ (thn (he pins s σ H _ I h) fun v s1 ⟨x,H1,I1,r1,q1⟩=>?_)
 refine wpAny_Slice (thn (hl pins s1 σ H1 _ I1 q1) fun vl s2 ⟨l,H2,I2,pl,q2⟩=>thn (hu pins s2 σ H2 _ I2 q2) fun vu s3 ⟨u,H3,I3,pu,q3⟩=>?_)
 rw [evalPart_none]
 refine wpAny_pure ?_
 have I4:Inv X pins σ H3 { s3 with heap:=s3.heap.push { cls:=.type "slice",data:=.fields #[vl,vu,.none] } }:=I3.kept (t':=s3.toks) fun b ob q=>Heap.get?_push_of_some _ q
 obtain ⟨T,id,hT,ht,hg⟩:=hr pins { s3 with heap:=s3.heap.push { cls:=.type "slice",data:=.fields #[vl,vu,.none] } } σ H3 x v vl vu l u s3.heap.objs.size Q I4 r1 (Heap.IsSliceOf.new ..) pl pu q3
 show wpAny (model X.prog X.w) X.A (subscriptTail e (.Slice lo hi none p2) v (.ref s3.heap.objs.size)) (EP X pins σ Q) X.xe { s3 with heap:=s3.heap.push { cls:=.type "slice",data:=.fields #[vl,vu,.none] } }
 exact tail_any (ops:=[.ref s3.heap.objs.size,v]) ht hT hg (by with_unfolding_all rfl)
noncomputable def cutV (xs:List V) (lo hi:Option Int):List V:=(xs.drop (HT.sIx xs.length 0 lo)).take (HT.sIx xs.length xs.length hi - HT.sIx xs.length 0 lo)
theorem qCk (xs:List V) (lo hi:Option Int):(cutV xs lo hi).length<=xs.length:=by
 unfold cutV
 rw [List.length_take,List.length_drop]
 omega
noncomputable def qOX (K:PySem.W.Frag):V -> Option Int -> Option Int -> Hp -> VK -> Prop:=fun x lo hi H Q=>∃ a xs,x=.ref a/\SqT K H a xs/\
 ¬ (HT.sIx xs.length 0 lo=0/\HT.sIx xs.length xs.length hi=xs.length)/\∀ p,H p=none -> Q (.ref p) (upd H p (.tup (cutV xs lo hi)))
theorem sl_tup:SlR X (qOX X.K):=by
 intro pins s σ H x v vl vu lo hi sl Q I rx hs pl pu h
 obtain ⟨a,xs,rfl,hx,hw,q⟩:=h
 cases rx
 obtain ⟨its,r,ht,hz⟩:=I.tuple hx
 have hlen:its.toArray.size=xs.length:=by rw [List.size_toArray];exact r.length.symm
 refine ⟨"tuple",_,PyProof.Rows.slot_tuple_getitem.lookup,ht.typeIs,?_⟩
 refine HT.getItem_tuple_cut ht hs pl pu (by rw [hlen];exact hw) ?_ (by rw [hlen];exact hz)
 rw [hlen]
 refine ⟨.ref s.heap.objs.size,_,I.laid (t':=s.toks) (o:=.tup (cutV xs lo hi)) (fun b ob q=>Heap.get?_push_of_some _ q) (Nat.le_refl _) ?_,rfl,q _ (I.hok.fresh (Nat.le_refl _))⟩
 exact ⟨Nat.le_trans (qCk xs lo hi) hz,_,(r.drop (HT.sIx xs.length 0 lo)).take (HT.sIx xs.length xs.length hi - HT.sIx xs.length 0 lo),IsTup.new _ _⟩
noncomputable def rCatT (K:PySem.W.Frag):R2:=fun x y H Q=>∃ a b xs ys,x=.ref a/\y=.ref b/\SqT K H a xs/\SqT K H b ys/\xs≠[]/\xs.length + ys.length<=sizeLine/\
 (ys=[] -> Q (.ref a) H)/\(ys≠[] -> ∀ p,H p=none -> Q (.ref p) (upd H p (.tup (xs++ys))))
theorem Vals.nil_iff {xs:List V} {us:List Value} (r:Vals xs us):us=[]↔xs=[]:=by
 cases r with
 | nil=>simp
 | cons _ _=>simp
theorem op_catT:OpR X (binaryOp .Add) (rCatT X.K):=by
 intro pins s σ H x y v u Q I rx ry h
 obtain ⟨a,b,xs,ys,rfl,rfl,ha,hb,hx,hz,q1,q2⟩:=h
 cases rx
 cases ry
 obtain ⟨its,r1,p1,_⟩:=I.tuple ha
 obtain ⟨its2,r2,p2,_⟩:=I.tuple hb
 refine HT.cat_tup p1 p2 (fun z=>hx (r1.nil_iff.mp z)) (fun z=>⟨.ref a,H,I,rfl,q1 (r2.nil_iff.mp z)⟩) (fun z=>?_) (by rw [<- r1.length,<- r2.length];exact hz)
 refine ⟨.ref s.heap.objs.size,_,I.laid (t':=s.toks) (o:=.tup (xs++ys)) (fun b ob q=>Heap.get?_push_of_some _ q) (Nat.le_refl _) ?_,rfl,q2 (fun w=>z (r2.nil_iff.mpr w)) _ (I.hok.fresh (Nat.le_refl _))⟩
 exact ⟨by rw [List.length_append];exact hz,_,r1.append r2,IsTup.new _ _⟩
end
open PySem PySem.Spec PyProof.Rows
noncomputable def ixN (n:Nat) (i:Int):Option Nat:=if 0<=i then (if i < n then some i.toNat else none) else if -(n:Int)<=i then some (i + n).toNat else none
noncomputable def atI {α:Type} (xs:List α) (i:Int):Option α:=(ixN xs.length i).bind fun j=>xs[j]?
theorem qFs {n:Nat} {i:Int} {j:Nat} (h:ixN n i=some j):seqIndex? i n=some j/\j < n/\-(n:Int)<=i/\i < n:=by
 unfold ixN at h
 by_cases h0:0<=i
 ·rw [if_pos h0] at h
  by_cases h1:i < n
  ·rw [if_pos h1] at h
   have e:i.toNat=j:=Option.some.inj h
   exact ⟨by rw [seqIndex_of h0 h1,e],by omega,by omega,h1⟩
  ·rw [if_neg h1] at h;cases h
 ·rw [if_neg h0] at h
  by_cases h1:-(n:Int)<=i
  ·rw [if_pos h1] at h
   have e:(i + n).toNat=j:=Option.some.inj h
   exact ⟨by rw [seqIndex_neg (by omega) h1,e],by omega,h1,by omega⟩
  ·rw [if_neg h1] at h;cases h
theorem qF6 {α:Type} {xs:List α} {i:Int} {v:α} (h:atI xs i=some v):∃ j,seqIndex? i xs.length=some j/\xs[j]?=some v/\j < xs.length/\-(xs.length:Int)<=i/\i < xs.length:=by
 unfold atI at h
 cases e:ixN xs.length i with
 | none=>rw [e] at h;cases h
 | some j=>
  rw [e] at h
  obtain ⟨h1,h2,h3,h4⟩:=qFs e
  exact ⟨j,h1,h,h2,h3,h4⟩
noncomputable def PlainIx (b:Expr):Prop:=∀ o i,subscripted b false o i=operate [o,i] (getItem o i)
noncomputable def IxR (X:Cx) (r:R2):Prop:=
 ∀ (value slice:Expr) (pins:List (Addr×Obj)) (s:Shared) (σ:St) (H:Hp) (x y:V) (v u:Value) (Q:VK),Inv X pins σ H s -> RelV x v -> RelV y u -> r x y H Q ->
  subscripted slice false v u=operate [v,u] (getItem v u) -> wpAny (model X.prog X.w) X.A (subscriptTail value slice v u) (EP X pins σ Q) X.xe s
noncomputable def MtR (X:Cx) (id:String) (r:V -> List V -> Hp -> VK -> Prop):Prop:=
 ∀ (pins:List (Addr×Obj)) (s:Shared) (σ:St) (H:Hp) (x:V) (xs:List V) (v:Value) (us:List Value) (Q:VK),Inv X pins σ H s -> RelV x v -> Vals xs us -> r x xs H Q ->
  wpAny (model X.prog X.w) X.A (call (.builtin id) (v::us)) (EP X pins σ Q) X.xe s
section
variable {X:Cx} {a b:Expr} {ta tb:TE} {pos:Pos}
theorem IxR.or {r r':R2} (h:IxR X r) (h':IxR X r'):IxR X (fun x y H Q=>r x y H Q\/r' x y H Q):=by
 intro value slice pins s σ H x y v u Q I rx ry q hs
 rcases q with q | q
 ·exact h value slice pins s σ H x y v u Q I rx ry q hs
 ·exact h' value slice pins s σ H x y v u Q I rx ry q hs
theorem pe_ix {r:R2} (hr:IxR X r) (ha:PE X a ta) (hb:PE X b tb) (hs:PlainIx b):PE X (.Subscript a b pos) (tOp r ta tb):=by
 intro pins s σ H Q I h
 exact Subscript_ (qAd ha hb I h fun v u s2 x y H2 I2 rx ry q=>hr a b pins s2 σ H2 x y v u Q I2 rx ry q (hs _ _))
noncomputable def qOR (K:PySem.W.Frag):R2:=fun x y H Q=>∃ p xs i v,x=.ref p/\y=.int i/\SqL K H p xs/\atI xs i=some v/\Q v H
noncomputable def qPH (K:PySem.W.Frag):R2:=fun x y H Q=>∃ p xs i v,x=.ref p/\y=.int i/\SqT K H p xs/\atI xs i=some v/\Q v H
theorem ix_list:IxR X (qOR X.K):=by
 intro value slice pins s σ H x y v u Q I rx ry h hs
 obtain ⟨p,xs,i,z,rfl,rfl,hq,he,q⟩:=h
 cases rx
 obtain ⟨t,rfl⟩:=ry
 obtain ⟨its,r,pl,hz⟩:=I.list hq
 obtain ⟨j,h1,h2,h3,h4,h5⟩:=qF6 he
 obtain ⟨w,ew,rw'⟩:=r.get h2
 have hl:=r.length
 have hn:=qFA
 have fin:EP X pins σ Q w s:=⟨z,H,I,rw',q⟩
 by_cases h0:0<=i
 ·have hj:i.toNat=j:=by
   rw [seqIndex_of h0 h5] at h1
   exact Option.some.inj h1
  exact item_listR pl.isList h0 (by omega) (by rw [hj];simpa using ew) fin hs
 ·have hj:(i + (its.toArray.size:Int)).toNat=j:=by
   rw [seqIndex_neg (by omega) h4] at h1
   rw [List.size_toArray,<- hl]
   exact Option.some.inj h1
  exact subscriptTail_builtinR (x:=w) pl.isList.typeIs slot_list_getitem.lookup
   (wpAny_getItem_list_neg (Q:=fun r s'=>r=w/\EP X pins σ Q r s') pl.isList (by omega) (by rw [List.size_toArray]<;>omega) (by omega) (by rw [hj];simpa using ew) ⟨rfl,fin⟩) hs
theorem ix_tup:IxR X (qPH X.K):=by
 intro value slice pins s σ H x y v u Q I rx ry h hs
 obtain ⟨p,xs,i,z,rfl,rfl,hq,he,q⟩:=h
 cases rx
 obtain ⟨t,rfl⟩:=ry
 obtain ⟨its,r,pl,hz⟩:=I.tuple hq
 obtain ⟨j,h1,h2,h3,h4,h5⟩:=qF6 he
 obtain ⟨w,ew,rw'⟩:=r.get h2
 have hl:=r.length
 have hn:=qFA
 have fin:EP X pins σ Q w s:=⟨z,H,I,rw',q⟩
 exact subscriptTail_builtinR (x:=w) pl.typeIs slot_tuple_getitem.lookup
  (getItem_tuple (j:=j) (Q:=fun r s'=>r=w/\EP X pins σ Q r s') pl (by omega) (by omega) (by rw [List.size_toArray,<- hl];exact h1) (by simpa using ew) ⟨rfl,fin⟩) hs
theorem qFg (its:List Value) (n j:Nat) (u:Value):Obj.mapSeq (·.setIfInBounds j u) { cls:=.type "list",data:=.seq its.toArray n }={ cls:=.type "list",data:=.seq (its.set j u).toArray n }:=by
 simp [Obj.mapSeq]
theorem Inv.lst {pins:List (Addr×Obj)} {σ:St} {H:Hp} {s:Shared} {p:Addr} {xs:List V} (I:Inv X pins σ H s) (h:H p=some (.lst xs)):
  ∃ (its:List Value) (n:Nat),Vals xs its/\s.heap.get? p=some { cls:=.type "list",data:=.seq its.toArray n }/\xs.length<=sizeLine:=by
 obtain ⟨z,its,n,r,e⟩:=I.hok p _ h
 exact ⟨its,n,r,e,z⟩
theorem Inv.lstUpd {pins:List (Addr×Obj)} {σ:St} {H:Hp} {s:Shared} {p:Addr} {xs ys:List V} {its its':List Value} {n n':Nat} {f:Obj -> Obj} (I:Inv X pins σ H s) (h:H p=some (.lst xs))
  (ho:s.heap.get? p=some { cls:=.type "list",data:=.seq its.toArray n }) (hf:f { cls:=.type "list",data:=.seq its.toArray n }={ cls:=.type "list",data:=.seq its'.toArray n' }) (r:Vals ys its') (hz:ys.length<=sizeLine) (t:Nat):
  Inv X pins σ (upd H p (.lst ys)) { s with heap:=s.heap.update p f,toks:=t }:=by
 have e:(s.heap.update p f).get? p=some { cls:=.type "list",data:=.seq its'.toArray n' }:=by
  rw [Heap.get?_update_self f ho (by rw [hf]<;>rfl),hf]
 refine I.write (x:=p) (e:=p) (by rw [h];trivial) (.inl rfl) (fun b u hb q=>(Heap.get?_update_other _ _ (Ne.symm hb)).trans q) ⟨_,e⟩ ?_
 exact ⟨hz,its',n',r,e⟩
noncomputable def qMm:V -> V -> V -> Hp -> (Hp -> Prop) -> Prop:=fun o i v H Q=>∃ p xs k j,o=.ref p/\i=.int k/\H p=some (.lst xs)/\ixN xs.length k=some j/\Q (upd H p (.lst (xs.set j v)))
theorem set_list:qNm X qMm:=by
 intro pins s σ H o i v ov iv u Q I ro ri rv h
 obtain ⟨p,xs,k,j,rfl,rfl,hp,hj,q⟩:=h
 cases ro
 obtain ⟨t,rfl⟩:=ri
 obtain ⟨its,n,r,ho,hz⟩:=I.lst hp
 obtain ⟨h1,h2,h3,h4⟩:=qFs hj
 have hl:=r.length
 have hn:=qFA
 have I':Inv X pins σ (upd H p (.lst (xs.set j v))) { s with heap:=s.heap.update p (Obj.mapSeq (·.setIfInBounds j u)) }:=
  I.lstUpd hp ho (qFg its n j u) (r.set rv j) (by rw [List.length_set];exact hz) s.toks
 by_cases h0:0<=k
 ·have hk:k.toNat=j:=by
   rw [seqIndex_of h0 h4] at h1
   exact Option.some.inj h1
  exact PySem.W.ki_setAt ho h0 (by omega) (by rw [List.size_toArray,<- hl];exact h4) (by rw [hk];exact ⟨_,I',q⟩)
 ·have hk:(k + (its.toArray.size:Int)).toNat=j:=by
   rw [seqIndex_neg (by omega) h3] at h1
   rw [List.size_toArray,<- hl]
   exact Option.some.inj h1
  exact PySem.W.ki_setBack ho (by omega) (by rw [List.size_toArray,<- hl];exact h3) (by omega) (by rw [hk];exact ⟨_,I',q⟩)
theorem qDy (lo hi:Option Int) (n:Nat):(sliceBounds lo hi none n).1=((HT.sIx n 0 lo:Nat):Int)/\(sliceBounds lo hi none n).2.1=((HT.sIx n n hi:Nat):Int)/\(sliceBounds lo hi none n).2.2=1:=by
 refine ⟨?_,?_,rfl⟩
 ·cases lo with
  | none=>simp [sliceBounds,HT.sIx]
  | some i=>
   simp only [sliceBounds,HT.sIx,Option.getD_none,show (1:Int) > 0 by decide,if_true]
   by_cases h:i < 0
   ·simp only [h,if_true]<;>omega
   ·simp only [h,if_false]<;>omega
 ·cases hi with
  | none=>simp [sliceBounds,HT.sIx]
  | some i=>
   simp only [sliceBounds,HT.sIx,Option.getD_none,show (1:Int) > 0 by decide,if_true]
   by_cases h:i < 0
   ·simp only [h,if_true]<;>omega
   ·simp only [h,if_false]<;>omega
theorem qDL (its:List Value) (lo hi:Option Int):slicePick its.toArray lo hi none=((its.drop (HT.sIx its.length 0 lo)).take (HT.sIx its.length its.length hi - HT.sIx its.length 0 lo)).toArray:=by
 obtain ⟨h1,h2,h3⟩:=qDy lo hi its.toArray.size
 unfold slicePick
 rw [h1,h2,h3]
 simp only [sliceRange_one,pick_run,List.size_toArray]<;>rfl
noncomputable def qOg (K:PySem.W.Frag):V -> Option Int -> Option Int -> Hp -> VK -> Prop:=fun x lo hi H Q=>∃ a xs,x=.ref a/\SqL K H a xs/\∀ p,H p=none -> Q (.ref p) (upd H p (.lst (cutV xs lo hi)))
theorem sl_list:SlR X (qOg X.K):=by
 intro pins s σ H x v vl vu lo hi sl Q I rx hs pl pu h
 obtain ⟨a,xs,rfl,hx,q⟩:=h
 cases rx
 obtain ⟨its,r,ht,hz⟩:=I.list hx
 have hlen:=r.length
 refine ⟨"list",_,slot_list_getitem.lookup,ht.isList.typeIs,?_⟩
 refine wpAny_getItem_list_slice ht.isList hs pl pu .none (by simp) ?_ (by rw [List.size_toArray]<;>omega)
 rw [qDL,<- hlen]
 refine ⟨.ref s.heap.objs.size,_,I.laid (t':=s.toks) (o:=.lst (cutV xs lo hi)) (fun b ob q=>Heap.get?_push_of_some _ q) (Nat.le_refl _) ?_,rfl,q _ (I.hok.fresh (Nat.le_refl _))⟩
 exact ⟨Nat.le_trans (qCk xs lo hi) hz,_,0,(r.drop (HT.sIx xs.length 0 lo)).take (HT.sIx xs.length xs.length hi - HT.sIx xs.length 0 lo),Heap.get?_push_size _ rfl⟩
theorem call_len_seq:qA6 X (.builtin "len") (fun xs H Q=>∃ p ys,xs=[.ref p]/\(SqL X.K H p ys\/SqT X.K H p ys)/\Q (.int ys.length) H):=by
 intro pins s σ H xs us Q I r h
 obtain ⟨p,ys,rfl,hq,q⟩:=h
 obtain ⟨u,rfl,rx⟩:=vals1 r
 cases rx
 have hn:=qFA
 rcases hq with hq | hq
 ·obtain ⟨its,r',pl,hz⟩:=I.list hq
  have hlen:=r'.length
  exact Calls.call_len_list pl.isList (by simp only [List.size_toArray]<;>omega) ⟨.int ys.length,H,I.tok _,⟨s.toks + 1,by rw [List.size_toArray,hlen]⟩,q⟩
 ·obtain ⟨its,r',pl,hz⟩:=I.tuple hq
  have hlen:=r'.length
  exact len_tuple pl (by simp only [List.size_toArray]<;>omega) ⟨.int ys.length,H,I.tok _,⟨s.toks + 1,by rw [List.size_toArray,hlen]⟩,q⟩
theorem call_tuple_of:qA6 X (.type "tuple") (fun xs H Q=>∃ p ys,xs=[.ref p]/\((SqL X.K H p ys/\∀ l,H l=none -> Q (.ref l) (upd H l (.tup ys)))\/(SqT X.K H p ys/\Q (.ref p) H))):=by
 intro pins s σ H xs us Q I r h
 obtain ⟨p,ys,rfl,h⟩:=h
 obtain ⟨u,rfl,rx⟩:=vals1 r
 cases rx
 rcases h with ⟨hq,q⟩ | ⟨hq,q⟩
 ·obtain ⟨its,r',pl,hz⟩:=I.list hq
  have hlen:=r'.length
  refine call_tuple_list pl.isList (fun h' kp=>?_) (by simp only [List.size_toArray]<;>omega)
  have I1:Inv X pins σ H { s with heap:=h' }:=I.kept (t':=s.toks) kp
  have I2:Inv X pins σ (upd H h'.objs.size (.tup ys)) { s with heap:=h'.push { cls:=.type "tuple",data:=.seq its.toArray } }:=
   I1.laid (t':=s.toks) (fun b o e=>Heap.get?_push_of_some _ e) (Nat.le_refl _) (show ObjOk X.prog X.w _ _ _ (.tup ys) from ⟨hz,its,r',IsTup.new _ _⟩)
  exact ⟨.ref h'.objs.size,_,I2,rfl,q _ (I1.hok.fresh (Nat.le_refl _))⟩
 ·obtain ⟨its,r',pl,hz⟩:=I.tuple hq
  exact call_tuple_same pl ⟨.ref p,H,I,rfl,q⟩
noncomputable def tyV (K:PySem.W.Frag) (T:String) (x:V) (H:Hp):Prop:=match x with
 | .str _=>T="str"
 | .int _=>T="int"
 | .ref p=>(T="list"/\∃ xs,SqL K H p xs)\/(T="tuple"/\∃ o,K.lookup p=some o/\o.cls=.type "tuple"/\o.dict=none)\/
   (T="dict"/\((∃ kvs,H p=some (.dK kvs))\/∃ kvs,H p=some (.dT kvs)))\/(T="set"/\∃ S n,H p=some (.set S n))
 | _=>False
theorem qIl {pins:List (Addr×Obj)} {σ:St} {H:Hp} {s:Shared} {T:String} {x:V} {v:Value} (I:Inv X pins σ H s) (r:RelV x v) (ty:tyV X.K T x H):
  s.TypeIs v T/\∀ a,v=.ref a -> ∃ ob,s.heap.get? a=some ob/\ob.dict=none:=by
 cases x with
 | str z=>
  obtain ⟨t,rfl⟩:=r
  cases (show T="str" from ty)
  exact ⟨typeIs_str s z t,fun _ e=>nomatch e⟩
 | int i=>
  obtain ⟨t,rfl⟩:=r
  cases (show T="int" from ty)
  exact ⟨typeIs_int s i t,fun _ e=>nomatch e⟩
 | ref p=>
  cases r
  rcases ty with ⟨rfl,xs,hq⟩ | ⟨rfl,o,hk,hc,hd⟩ | ⟨rfl,hk⟩ | ⟨rfl,S,n,hk⟩
  ·obtain ⟨its,_,pl,_⟩:=I.list hq
   refine ⟨pl.isList.typeIs,fun a e=>?_⟩
   cases e
   obtain ⟨o,n,e,c,hd,_⟩:=pl
   exact ⟨o,e,hd⟩
  ·refine ⟨⟨o,I.kIn p o hk,hc⟩,fun a e=>?_⟩
   cases e
   exact ⟨o,I.kIn _ o hk,hd⟩
  ·have z:∃ o,s.heap.get? p=some o/\o.ExactDict:=by
    rcases hk with ⟨kvs,hk⟩ | ⟨kvs,hk⟩
    ·obtain ⟨_,_,_,_,o,_,_,e,ex,_⟩:=I.hok p _ hk
     exact ⟨o,e,ex⟩
    ·obtain ⟨_,_,_,_,o,_,_,e,ex,_⟩:=I.hok p _ hk
     exact ⟨o,e,ex⟩
   obtain ⟨o,e,ex⟩:=z
   refine ⟨⟨o,e,ex.1⟩,fun a e2=>?_⟩
   cases e2
   exact ⟨o,e,ex.2.1⟩
  ·obtain ⟨o,_,_,_,e,ex,_⟩:=I.hok p _ hk
   refine ⟨⟨o,e,ex.1⟩,fun a e2=>?_⟩
   cases e2
   exact ⟨o,e,ex.2.1⟩
 | _=>exact False.elim ty
noncomputable def qO9 (K:PySem.W.Frag) (T:String) (r:V -> List V -> Hp -> VK -> Prop) (to:TE):TE:=fun σ H Q=>to σ H fun x H1=>tyV K T x H1/\r x [] H1 Q
noncomputable def tBM (K:PySem.W.Frag) (T:String) (r:V -> List V -> Hp -> VK -> Prop) (to:TE) (t:TA):TE:=fun σ H Q=>to σ H fun x H1=>tyV K T x H1/\t σ H1 fun xs H2=>r x xs H2 Q
variable {o e:Expr} {es:List Expr} {to:TE} {t:TA} {name:Str} {apos cpos:Pos} {T id:String} {r:V -> List V -> Hp -> VK -> Prop}
theorem pe_bm0 (pa:PlainAttrs T) (slot:Slot T name id) (hty:typeOf (.builtin id)=pure (.type "method_descriptor")) (hm:MtR X id r) (ho:PE X o to)
  (hbase:attributeBase o name X.env (eval o X.env)=eval o X.env:=by rfl) (hline:(apos.endLine==cpos.line)=true:=by rfl):PE X (.Call (.Attribute o name apos) [] [] cpos) (qO9 X.K T r to):=by
 intro pins s σ H Q I h
 refine wpAny_Call_method0_late hbase hline (thn (ho pins s σ H _ I h) fun v s1 ⟨x,H1,I1,r1,ty,q1⟩=>?_)
 obtain ⟨h1,h2⟩:=qIl I1 r1 ty
 exact ⟨T,id,pa,slot,hty,h1,h2,Calls.callWith_builtin rfl (PySem.evalArgs_none (hm pins s1 σ H1 x [] v [] Q I1 r1 .nil q1))⟩
theorem pe_bm (pa:PlainAttrs T) (slot:Slot T name id) (hty:typeOf (.builtin id)=pure (.type "method_descriptor")) (hm:MtR X id r) (ho:PE X o to) (ha:PA X (e::es) t)
  (hbase:attributeBase o name X.env (eval o X.env)=eval o X.env:=by rfl)
  (hfew:((backTo cpos (starEach (e::es) X.env)).all (fun x=>!x.1)&&(backToKw cpos (keywordEach [] X.env)).all (fun x=>x.1.isSome)
   && decide ((e::es).length + ([]:List Keyword).length + (if ([]:List Keyword).isEmpty then 0 else 1) < 30))=true:=by rfl)
  (hline:(apos.endLine==cpos.line)=true:=by rfl) (hs:starEach (e::es) X.env=(false,eval e X.env)::starEach es X.env:=by rfl) (hplain:(backTo cpos (starEach es X.env)).any (·.1)=false:=by rfl):
  PE X (.Call (.Attribute o name apos) (e::es) [] cpos) (tBM X.K T r to t):=by
 intro pins s σ H Q I h
 refine wpAny_Call_method_late hbase hfew hline rfl (thn (ho pins s σ H _ I h) fun v s1 ⟨x,H1,I1,r1,ty,q1⟩=>?_)
 obtain ⟨h1,h2⟩:=qIl I1 r1 ty
 refine ⟨T,id,pa,slot,hty,h1,h2,?_⟩
 have hA:=ha cpos pins s1 σ H1 _ I1 q1
 rw [hs] at hA ⊢
 refine Calls.callWith_builtin (by show (false||(backTo cpos (starEach es X.env)).any (·.1))=false;rw [hplain]<;>rfl) (Calls.evalArgs_plain ?_)
 exact thn hA fun us s2 ⟨vs,H2,I2,r2,q2⟩=>hm pins s2 σ H2 x vs v us Q I2 r1 r2 q2
end
open PySem PySem.Spec PyProof.Rows
noncomputable def MtM (X:Cx) (id:String) (r:V -> List V -> Hp -> VK -> Prop):Prop:=
 ∀ (pins:List (Addr×Obj)) (s:Shared) (σ:St) (H:Hp) (x:V) (xs:List V) (v:Value) (us:List Value) (Q:VK),Inv X pins σ H s -> RelV x v -> Vals xs us -> r x xs H Q ->
  wpAny (model X.prog X.w) X.A (call (.builtin id) (v::us)) (EP X pins σ Q) X.xe s
theorem Vals.one:∀ {x:V} {us:List Value},Vals [x] us -> ∃ u,us=[u]/\RelV x u
 | _,_,.cons r .nil=>⟨_,rfl,r⟩
theorem Vals.zero:∀ {us:List Value},Vals [] us -> us=[]
 | _,.nil=>rfl
theorem Vals.dropLast {xs:List V} {us:List Value} (h:Vals xs us):Vals xs.dropLast us.dropLast:=by
 induction h with
 | nil=>exact .nil
 | cons r t ih=>
  cases t with
  | nil=>exact .nil
  | cons q t'=>exact .cons r ih
theorem Vals.reverse {xs:List V} {us:List Value} (h:Vals xs us):Vals xs.reverse us.reverse:=by
 induction h with
 | nil=>exact .nil
 | cons r t ih=>rw [List.reverse_cons,List.reverse_cons];exact Vals.append ih (.cons r .nil)
theorem Vals.rep {xs:List V} {us:List Value} (h:Vals xs us):∀ k:Nat,Vals (List.replicate k xs).flatten (List.replicate k us).flatten
 | 0=>.nil
 | k + 1=>by
  rw [List.replicate_succ,List.replicate_succ,List.flatten_cons,List.flatten_cons]
  exact Vals.append h (Vals.rep h k)
theorem qDk (its:List Value):∀ (k:Nat) (acc:List Value),
  List.foldl (fun x1 x2=>x1++x2) acc.toArray (List.replicate k its.toArray)=(acc++(List.replicate k its).flatten).toArray
 | 0,acc=>by simp
 | k + 1,acc=>by
  have e:acc.toArray++its.toArray=(acc++its).toArray:=by simp
  have e2:(acc++its)++(List.replicate k its).flatten=acc++(List.replicate (k + 1) its).flatten:=by
   rw [List.replicate_succ,List.flatten_cons,List.append_assoc]
  rw [<- e2,<- qDk its k (acc++its),<- e,List.replicate_succ,List.foldl_cons]
section
variable {X:Cx} {pins:List (Addr×Obj)} {σ:St} {H:Hp} {s:Shared} {l b:Addr} {xs ys zs:List V}
theorem Inv.lset {its its':List Value} {n:Nat} {f:Array Value -> Array Value} {t':Nat} (I:Inv X pins σ H s) (hH:H l=some (.lst xs))
  (e:s.heap.get? l=some { cls:=.type "list",data:=.seq its.toArray n }) (hf:f its.toArray=its'.toArray) (hv:Vals ys its') (hz:ys.length<=sizeLine):
  Inv X pins σ (upd H l (.lst ys)) { s with heap:=s.heap.update l (Obj.mapSeq f),toks:=t' }:=by
 have q:=PySem.IsL.update e f
 rw [hf] at q
 refine I.write (x:=l) (e:=l) (by rw [hH];exact trivial) (.inl rfl) (fun b' u hb hu=>(Heap.get?_update_other s.heap (Obj.mapSeq f) (Ne.symm hb)).trans hu) ⟨_,q⟩ ?_
 exact ⟨hz,its',_,hv,q⟩
theorem Inv.lnew {its:List Value} {t':Nat} (I:Inv X pins σ H s) (hv:Vals ys its) (hz:ys.length<=sizeLine):
  Inv X pins σ (upd H s.heap.objs.size (.lst ys)) { s with heap:=s.heap.push { cls:=.type "list",data:=.seq its.toArray },toks:=t' }:=
 I.laid (fun _ _ q=>Heap.get?_push_of_some _ q) (Nat.le_refl _) ⟨hz,its,0,hv,Heap.get?_push_size _ rfl⟩
theorem Inv.fresh (I:Inv X pins σ H s):H s.heap.objs.size=none:=I.hok.fresh (Nat.le_refl _)
theorem Inv.lstM (I:Inv X pins σ H s) (hH:H l=some (.lst xs)):xs.length<=sizeLine/\∃ (its:List Value) (n:Nat),Vals xs its/\xs.length=its.length/\s.heap.get? l=some { cls:=.type "list",data:=.seq its.toArray n }:=by
 obtain ⟨z,its,n,r,e⟩:=I.hok l _ hH
 exact ⟨z,its,n,r,r.length,e⟩
theorem qHY {n:Nat} (h:n<=sizeLine):Builtin.List.listTooLong n=false:=by
 unfold Builtin.List.listTooLong
 exact decide_eq_false (by omega)
end
section
variable {X:Cx}
noncomputable def qJJ:V -> List V -> Hp -> VK -> Prop:=fun x vs H Q=>∃ l xs y,x=.ref l/\vs=[y]/\H l=some (.lst xs)/\xs.length < sizeLine/\Q .non (upd H l (.lst (xs++[y])))
theorem mt_append:MtM X "list.append" qJJ:=by
 intro pins s σ H x vs v us Q I rx rv h
 obtain ⟨l,xs,y,rfl,rfl,hH,hz,q⟩:=h
 cases rx
 obtain ⟨u,rfl,ru⟩:=rv.one
 obtain ⟨z,its,n,r,hl,e⟩:=I.lstM hH
 refine call_meets F.slot_list_append ⟨_,e,rfl⟩ F.entry_list_append (F.args_list_append_2 _ _) (PySem.list_append l its.toArray n u (by rw [List.size_toArray];omega)) ⟨e,?_⟩
 refine ⟨.non,_,I.lset (its':=its++[u]) hH e (by simp) (r.append (.cons ru .nil)) ?_,rfl,q⟩
 rw [List.length_append,List.length_singleton]
 omega
noncomputable def rCat:R2:=fun x y H Q=>∃ l b xs zs,x=.ref l/\y=.ref b/\H l=some (.lst xs)/\H b=some (.lst zs)/\xs.length + zs.length<=sizeLine/\∀ p,H p=none -> Q (.ref p) (upd H p (.lst (xs++zs)))
theorem op_cat:OpR X (binaryOp .Add) rCat:=by
 intro pins s σ H x y v u Q I rx ry h
 obtain ⟨l,b,xs,zs,rfl,rfl,hH,hB,hz,q⟩:=h
 cases rx
 cases ry
 obtain ⟨z,its,n,r,hl,e⟩:=I.lstM hH
 obtain ⟨z2,its2,n2,r2,hl2,e2⟩:=I.lstM hB
 refine PySem.P.add_list e e2 ?_ (by rw [List.size_toArray,List.size_toArray];omega)
 have ea:its.toArray++its2.toArray=(its++its2).toArray:=by simp
 rw [ea]
 exact ⟨.ref _,_,I.lnew (t':=s.toks) (r.append r2) (by rw [List.length_append];omega),rfl,q _ I.fresh⟩
noncomputable def rRep:R2:=fun x y H Q=>∃ l k xs,x=.ref l/\y=.int k/\H l=some (.lst xs)/\-(2 ^ 63)<=k/\k < 2 ^ 63/\xs.length * k.toNat<=sizeLine/\
 ∀ p,H p=none -> Q (.ref p) (upd H p (.lst (List.replicate k.toNat xs).flatten))
theorem qJx {α:Type} (xs:List α) (k:Nat):(List.replicate k xs).flatten.length=k * xs.length:=by
 induction k with
 | zero=>simp
 | succ k ih=>rw [List.replicate_succ,List.flatten_cons,List.length_append,ih,Nat.succ_mul,Nat.add_comm]
theorem op_rep:OpR X (binaryOp .Mult) rRep:=by
 intro pins s σ H x y v u Q I rx ry h
 obtain ⟨l,k,xs,rfl,rfl,hH,h1,h2,hz,q⟩:=h
 cases rx
 obtain ⟨t,rfl⟩:=ry
 obtain ⟨z,its,n,r,hl,e⟩:=I.lstM hH
 have hlen:its.toArray.size * k.toNat<=sizeLine:=by rw [List.size_toArray,<- hl];exact hz
 have hcap:¬ its.toArray.size * k.toNat > (2 ^ 63 - 1) / 8:=by
  have:(sizeLine:Nat)<=(2 ^ 63 - 1) / 8:=by decide
  omega
 have hfit:¬ (!Builtin.List.listFitsIndex k)=true:=by
  rw [fitsIndex_both h1 h2]
  exact Bool.false_ne_true
 have hlong:¬ Builtin.List.listTooLong (its.toArray.size * k.toNat)=true:=by
  rw [qHY hlen]
  exact Bool.false_ne_true
 have hnew:List.foldl (fun x1 x2=>x1++x2) #[] (List.replicate (if its.toArray.isEmpty=true then 0 else k.toNat) its.toArray)=(List.replicate k.toNat its).flatten.toArray:=by
  have f0:∀ m:Nat,List.foldl (fun x1 x2=>x1++x2) #[] (List.replicate m its.toArray)=(List.replicate m its).flatten.toArray:=fun m=>by
   have:=qDk its m []
   rw [List.nil_append] at this
   exact this
  rw [f0]
  cases its with
  | nil=>simp
  | cons a r'=>rw [if_neg (by simp)]
 refine wpAny_binaryOp_repeat_ref (T:="list") (U:="int") (by decide) ⟨_,e,rfl⟩ (fun s'=>typeIs_int s' k t) noFill_list_mul F.fills_int_mul F.slot_int_rmul repeat_list F.slot_int_index.lookup
  (call_meets F.slot_int_rmul (typeIs_int s k t) F.entry_int_rmul (F.args_int_rmul_2 _ _) (int___rmul___int_list k t l its.toArray n)
   ⟨e,rfl,⟨_,e,rfl⟩,call_meets F.slot_list_mul ⟨_,e,rfl⟩ F.entry_list_mul (F.args_list_mul_2 _ _) (AutoListH.list___mul___list_int_3 l its.toArray n k t hfit hcap hlong) ⟨e,?_⟩⟩)
 rw [hnew]
 exact ⟨.ref _,_,I.lnew (t':=s.toks) (r.rep k.toNat) (by rw [qJx,Nat.mul_comm];exact hz),rfl,q _ I.fresh⟩
end
section
variable {prog:Program} {w:World} {A:Around} {E:Value -> Shared -> Prop} {s:Shared}
end
section
variable {X:Cx}
end
end L2
namespace Att
open PySem PySem.W PySem.Calls PyProof.Rows
theorem qCi {P:Params} {h:Heap}:∀ (ns:List Int) (vs:List Value),WellAll P h vs (ns.map WData.int) -> IntsAre vs ns:=by
 intro ns
 induction ns with
 | nil=>
  intro vs w
  rw [List.map_nil] at w
  cases w
  exact .nil
 | cons n ns ih=>
  intro vs w
  rw [List.map_cons] at w
  cases w with
  | cons a b=>
   cases a
   exact .cons _ _ (ih _ b)
theorem qGQ {l:OpenLaw} {n:Nat} (hn:l.most=some n) {P:Params} {h:Heap} {args:List WData} {vals:List Value}
  (hpre:l.row.toRowW.claim.pre args=true) (hwl:WellAll P h vals args):
  ∃ a vs ns,vals=[Value.ref a]/\args=[WData.list (ns.map WData.int)]/\h.get? a=some { cls:=.type "list",data:=.seq vs.toArray }/\IntsAre vs ns/\ns.length<=n:=by
 have hsh:WShape.hasAll [] args [.list .int]=true:=(pre_splitW hpre).1
 have hc:l.pre.holds [] { args:=args }=true:=(pre_splitW hpre).2
 obtain ⟨d,r,rfl,h1,h2⟩:=hasAllW_cons hsh
 obtain rfl:=hasAllW_nil h2
 obtain ⟨xs,rfl,h3⟩:=hasW_list h1
 obtain ⟨ns,rfl⟩:=items_int h3
 have hlen:ns.length<=n:=by
  unfold OpenLaw.pre at hc
  have h4:(WTm.not (.lt (.lit (.int (n:Int))) (.len (.arg 0)))).holds [] { args:=[.list (ns.map .int)] }=true:=by
   have h4:=(holds_andW hc).1
   rw [hn] at h4
   exact h4
  have h5:=condW_of h4 (w_not (w_lt w_lit (w_len_list (w_arg rfl))))
  rw [List.length_map] at h5
  refine Nat.le_of_not_lt fun q=>?_
  have q':(n:Int) < ((ns.length:Nat):Int):=by omega
  first
   | (rw [decide_eq_true q'] at h5;exact absurd h5 (by decide))
   | (simp at h5;omega)
 cases hwl with
 | cons w1 w2=>
  cases w2
  cases w1 with
  | list ho hall=>exact ⟨_,_,ns,rfl,rfl,ho,qCi ns _ hall,hlen⟩
theorem qFy (l:OpenLaw) (args:List WData):l.row.toRowW.claim.post args (.bool true) args=true:=
 postW_of (r:=l.row.toRowW) (X:=(true==true))
  (show WShape.has [] (.bool true) .bool=true by first | rfl | decide | simp [WShape.has,WShape.arms,WShape.armsAll])
  (show (WTm.eq .res (.lit (.bool true))).value [] { args:=args,res:=some (.bool true),after:=args }=some (.bool (true==true)) from w_eq_bool (w_res rfl) w_lit) rfl
theorem attach_call {l:OpenLaw} {n:Nat} {q:Program} {loose:List Str} {XP:(Str -> Option Value) -> Heap -> Prop} {YP:World -> Heap -> Prop} {d:DefRec}
  (hn:l.most=some n) (hdf:d.params.defaults=[])
  (call:∀ (w:World) (s₀ s₁:Shared) (mg mb:Str -> Option Value) (fa:Addr) (o:Obj) (pm cd doc:Value) (a:Addr) (vs:List Value) (ns:List Int),
   Ground q loose [] XP w s₀ mg mb s₁.heap -> YP w s₁.heap ->
   s₁.heap.get? fa=some o -> o.data=.func (docDef d.name d.params d.body d.scope pm cd doc) -> s₁.heap.CodeRec cd d.name -> mg d.name=some (.ref fa) ->
   s₁.heap.get? a=some { cls:=.type "list",data:=.seq vs.toArray } -> IntsAre vs ns -> ns.length<=n -> s₁.gens=#[] ->
   codeAny (model l.prog w) callerA (.call (.ref fa) ⟨[.ref a],[]⟩) (fun r s'=>r=.ok (.ret (.bool true))/\OldK s₁.heap s'.heap/\s'.os=s₁.os/\AllBare s'.gens) s₁):
  WalkO q loose XP YP l.row.toRowW d [] (fun f vs=>PySem.call f vs):=by
 intro w s₀ s₁ mg mb G Y fa o pm cd doc dV kV ho hd hcd hD hmg hg args vals as hpre hlay hrd hwl hlo
 obtain rfl:dV=.none:=Dflts.none hD hdf
 obtain rfl:kV=.none:=Dflts.noKw hD
 obtain ⟨a,vs,ns,rfl,rfl,hobj,hints,hlen⟩:=qGQ hn hpre hwl
 refine enter_call (codeAny_mono (call w s₀ s₁ mg mb fa o pm cd doc a vs ns G Y ho (fd_plain hd) hcd hmg hobj hints hlen hg) fun r s' hq=>?_)
 obtain ⟨rfl,h2,h3,h4⟩:=hq
 exact ⟨.inl ⟨.bool true,.bool true,[],rfl,fun _=>rfl,.bool true,qFy l _,fun _=>⟨List.Pairwise.nil,fun _ hm=>(nomatch hm)⟩⟩,h2,h3,h4⟩
section
variable {prog:Program} {w:World} {A:Around} {E:Value -> Shared -> Prop} {s:Shared} {K:Frag}
end
end Att
namespace L2
open PySem PySem.Spec PyProof.Rows
theorem qBw:∀ {vs:List Value} {ns:List Int},IntsAre vs ns -> Vals (ns.map V.int) vs
 | _,_,.nil=>.nil
 | _,_,.cons n t h=>.cons ⟨t,rfl⟩ (qBw h)
noncomputable def Only (H:Hp):Prop:=∀ b,H b=none\/∃ o xs,H b=some (.frz o (.lst xs))
theorem qHg {P:Program} {w:World} {K:PySem.W.Frag} {mg mb:Str -> Option Value} {CX:CXT} {k:Nat} {fa a:Addr} {fd:FuncData} {x:Str} {sp:Sp} {s₁:Shared} {vs:List Value} {ns:List Int}
  (KX:K.In s₁.heap) (hns:s₁.heap.Ns mainGlobals mg) (hb:s₁.heap.Ns builtinsNs mb) (hbb:∀ x:Str,x≠"__name__" -> mb x=bootBuiltins x) (hlim:s₁.heap.NoLimit) (hg:s₁.gens=#[])
  (ha:s₁.heap.get? a=some { cls:=.type "list",data:=.seq vs.toArray }) (hi:IntsAre vs ns) (hl:ns.length<=sizeLine) (hr:Room k callerA)
  (F:∀ base:Heap,K.In base -> base.Ns mainGlobals mg -> FnOk P w K mg base CX k fa fd [x] sp) (hbind:∀ (s:Shared) (u:Value),BindsTo s fd ⟨[u],[]⟩ [(x,u)])
  (hsp:∀ H:Hp,Only H -> SqL K H a (ns.map V.int) -> sp [.ref a] H (fun v _=>v=.bl true) fun _ _ _=>False)
  (hCX:∀ H e s',CX [] H s₁ (fun _ _ _=>False) e s' -> False):
  codeAny (model P w) callerA (.call (.ref fa) ⟨[.ref a],[]⟩) (fun r s'=>r=.ok (.ret (.bool true))/\OldK s₁.heap s'.heap/\s'.os=s₁.os/\AllBare s'.gens) s₁:=by
 have rv:=qBw hi
 have lenV:=hi.length
 have core:∀ H:Hp,Only H -> SqL K H a (ns.map V.int) -> HOk P w H s₁.heap -> (∀ b,H b≠none -> b=a) -> (H a≠none -> K.lookup a=none) ->
   codeAny (model P w) callerA (.call (.ref fa) ⟨[.ref a],[]⟩) (fun r s'=>r=.ok (.ret (.bool true))/\OldK s₁.heap s'.heap/\s'.os=s₁.os/\AllBare s'.gens) s₁:=by
  intro H hO hS hok hA hK
  have base_of:∀ {b:Addr} {o:Obj},s₁.heap.get? b=some o -> H b=none -> (qHW s₁.heap H).get? b=some o:=fun e n=>qHU e n
  have noA:∀ {b:Addr} {o:Obj} {es:Array DictEntry} {ep:Nat},s₁.heap.get? b=some o -> o.data=.dict es ep -> H b=none:=fun {b o es ep} e d=>by
   cases q:H b with
   | none=>rfl
   | some u=>
    have e':b=a:=hA b (by rw [q];simp)
    subst e'
    rw [ha] at e;cases e
    have d':Data.seq vs.toArray _=Data.dict es ep:=d
    cases d'
  have nsK:∀ {b:Addr} {m:Str -> Option Value},s₁.heap.Ns b m -> (qHW s₁.heap H).Ns b m:=fun {b m} ⟨o,es,ep,e,d,r⟩=>⟨o,es,ep,base_of e (noA e d),d,r⟩
  have hKb:K.In (qHW s₁.heap H):=fun b o e=>base_of (KX b o e) (by
   cases q:H b with
   | none=>rfl
   | some u=>
    have e':b=a:=hA b (by rw [q];simp)
    subst e'
    rw [hK (by rw [q];simp)] at e;cases e)
  have hM:Mod K mg (qHW s₁.heap H):=⟨hKb,nsK hns,⟨mb,nsK hb,hbb⟩,let ⟨mc,h1,h2⟩:=hlim;⟨mc,nsK h1,h2⟩⟩
  have e0:qMJ P w K mg (qHW s₁.heap H) callerA [] s₁ H:=⟨rfl,hM,fun b o e=>qJD e,Nat.le_of_eq (qF9 _ _),trivial,fun b hb=>absurd (show b∈([]:List Addr) from hb) (by simp),hok,.of_eq hg⟩
  refine codeAny_mono ((F _ hKb (nsK hns)).run callerA [] s₁ H ⟨[.ref a],[]⟩ [.ref a] [.ref a] _ _ hr e0 (hbind s₁ (.ref a)) (.cons rfl .nil) (hsp H hO hS)) fun r s' h=>?_
  cases r with
  | error e=>exact (hCX H e s' h).elim
  | ok fl=>
   cases fl with
   | next=>exact False.elim h
   | brk=>exact False.elim h
   | cont=>exact False.elim h
   | ret u=>
    obtain ⟨v,H',os,bare,un,hok',r',q⟩:=h
    have q':v=.bl true:=q
    subst q'
    obtain rfl:u=Value.bool true:=r'
    refine ⟨rfl,OldK.of_keep fun b o e=>?_,os,bare⟩
    cases q:H b with
    | none=>exact un.keep b o e q (by intro z;exact absurd (show b∈([]:List Addr) from z) (by simp)) (by simp)
    | some u=>
     rcases hO b with z | ⟨ob,xs,z⟩
     ·rw [q] at z;cases z
     ·have z2:=un.frzs b ob _ z
      obtain ⟨e1,_⟩:=hok b _ z
      obtain ⟨e2,_⟩:=hok' b _ z2
      rw [e] at e1;cases e1
      exact e2
 cases hk:K.lookup a with
 | some o=>
  have e:=KX a o hk
  rw [ha] at e
  cases e
  refine core (fun _=>none) (fun _=>.inl rfl) (.inr ⟨_,vs.toArray,_,hk,rfl,rfl,rfl,by rw [List.size_toArray,lenV];exact hl,by simpa using rv⟩) (fun b u z=>by have z':(none:Option HO)=some u:=z;cases z') (fun b z=>absurd rfl z) fun z=>absurd rfl z
 | none=>
  refine core (fun b=>if b=a then some (.frz { cls:=.type "list",data:=.seq vs.toArray } (.lst (ns.map V.int))) else none) (fun b=>?_) (.inl (.inr ⟨{ cls:=.type "list",data:=.seq vs.toArray },if_pos rfl⟩)) (fun b u z=>?_) (fun b z=>?_) fun _=>hk
  ·by_cases hb:b=a
   ·exact .inr ⟨_,_,if_pos hb⟩
   ·exact .inl (if_neg hb)
  ·by_cases hb:b=a
   ·have z':=(if_pos hb).symm.trans z
    cases z'
    subst hb
    exact ⟨ha,by rw [List.length_map];exact hl,vs,_,rv,ha⟩
   ·have z':=(if_neg hb).symm.trans z
    cases z'
  ·by_cases hb:b=a
   ·exact hb
   ·exact absurd (if_neg hb) z
open PySem PySem.Spec PyProof.Rows
theorem walk_of {l:PySem.W.OpenLaw} {n k:Nat} {q:Program} {loose:List Str} {XP:(Str -> Option Value) -> Heap -> Prop} {YP:World -> Heap -> Prop} {d:DefRec} {K:Params -> PySem.W.Frag} {CX:World -> CXT} {sp:World -> Sp} {x:Str}
  (hn:l.most=some n) (hn2:n<=sizeLine) (hdf:d.params.defaults=[]) (hr:Room k callerA)
  (hY:∀ (w:World) (h:Heap),YP w h -> (K w.params).In h)
  (F:∀ (w:World) (mg:Str -> Option Value) (fa:Addr) (h:Heap),(K w.params).In h -> h.Ns mainGlobals mg -> mg d.name=some (.ref fa) ->
   ∃ fd:FuncData,(∀ (s:Shared) (u:Value),BindsTo s fd ⟨[u],[]⟩ [(x,u)])/\
    ∀ base:Heap,(K w.params).In base -> base.Ns mainGlobals mg -> FnOk l.prog w (K w.params) mg base (CX w) k fa fd [x] (sp w))
  (hsp:∀ (w:World) (H:Hp) (a:Addr) (ns:List Int),ns.length<=n -> Only H -> SqL (K w.params) H a (ns.map V.int) -> sp w [.ref a] H (fun v _=>v=.bl true) fun _ _ _=>False)
  (hCX:∀ (w:World) (H:Hp) (s:Shared) (e:Value) (s':Shared),CX w [] H s (fun _ _ _=>False) e s' -> False):
  PySem.W.WalkO q loose XP YP l.row.toRowW d [] (fun f vs=>PySem.call f vs):=by
 refine Att.attach_call hn hdf fun w s₀ s₁ mg mb fa o pm cd doc a vs ns G Y ho hd hcd hmg hobj hints hlen hg=>?_
 have KX:=hY w _ Y
 obtain ⟨fd,hb,hF⟩:=F w mg fa _ KX G.T.g hmg
 exact qHg KX G.T.g G.T.b G.T.builtins G.T.nolimit hg hobj hints (Nat.le_trans hlen hn2) hr hF hb (fun H hO hS=>hsp w H a ns hlen hO hS) fun H e s'=>hCX w H s₁ e s'
open PySem PySem.Spec PyProof.Rows
noncomputable def qBg (s:Stmt):Arguments:=match s with
 | .FunctionDef _ a _ _ _ _ _ _ _ _=>a
 | _=>{ posonlyargs:=[],args:=[],vararg:=none,kwonlyargs:=[],kw_defaults:=[],kwarg:=none,defaults:=[] }
noncomputable def defBody (s:Stmt):List Stmt:=match s with
 | .FunctionDef _ _ b _ _ _ _ _ _ _=>b
 | _=>[]
noncomputable def defScope (s:Stmt):Scope:=match s with
 | .FunctionDef _ _ _ _ _ _ sc _ _ _=>sc
 | _=>{ kind:=.function,names:=[],isGenerator:=false,isCoroutine:=false }
noncomputable abbrev CX0:CXT:=fun _ _ _ _ _ _=>False
noncomputable abbrev E0:XK:=fun _ _ _=>False
theorem pass0 {X:Cx}:qE9 CX0 X E0:=fun _ _ _ _ _ _ _ h=>h.elim
structure Fun (K:PySem.W.Frag) (x qual:Str) (st:Stmt) (f:Addr) (fd:FuncData):Prop where
 ex:∃ (oc:Value) (od:Option Addr) (kV doc pm:Value) (an:Option Addr) (cdv ct:Value) (osl:Array (Option Value)),
  fd=PySem.W.fnOf x qual (qBg st) (defBody st) (defScope st) .none kV doc pm an cdv ct/\K.lookup f=some ⟨oc,od,.func fd,osl⟩/\PySem.W.codeIn K cdv qual=true
 kp:PySem.W.keepIn K (.ref f)=true
section
variable {P:Program} {w:World} {K:PySem.W.Frag} {mg:Str -> Option Value} {base:Heap}
theorem Fun.ok {x qual:Str} {st:Stmt} {f:Addr} {fd:FuncData} {N ps:List Str} {k:Nat} {sp:Sp} (F:Fun K x qual st f fd) (S:qBS N ps (defScope st)) (len:∀ vs H Q E,sp vs H Q E -> vs.length=ps.length)
  (hbody:∀ (cdv:Value) (A:Around) (outer:List Env) (s:Shared) (H:Hp) (vs:List V) (Q:VK) (E:XK),Room k (A.deeper (envOfC qual (defScope st) s.heap.objs.size f cdv)) -> sp vs H Q E ->
   ∃ t,PSs (cxOf CX0 P w K mg base N qual (defScope st) f cdv A outer s H E).nox (defBody st) t/\t { nx:=fun _ H'=>Q .non H',rt:=Q } (start N vs) H):FnOk P w K mg base CX0 (k + 1) f fd ps sp:=by
 obtain ⟨oc,od,kV,doc,pm,an,cdv,ct,osl,rfl,lk,hcd⟩:=F.ex
 refine qM1 lk hcd S len fun A outer s H vs Q E hr hsp=>?_
 obtain ⟨t,h,q⟩:=hbody cdv A outer s H vs Q E hr hsp
 exact ⟨t,h.nox,q⟩
theorem Fun.binds {x qual:Str} {st:Stmt} {f:Addr} {fd:FuncData} {ps:List Str} (F:Fun K x qual st f fd)
  (h:∀ (kV doc pm:Value) (an:Option Addr) (cdv ct:Value) (us:List Value),us.length=ps.length -> bindArgs (PySem.W.fnOf x qual (qBg st) (defBody st) (defScope st) .none kV doc pm an cdv ct) ⟨us,[]⟩=pure (ps.zip us)):Binds K fd ps []:=by
 obtain ⟨oc,od,kV,doc,pm,an,cdv,ct,osl,rfl,lk,hcd⟩:=F.ex
 exact .all (h kV doc pm an cdv ct)
theorem qIq {x qual:Str} {st:Stmt} {f:Addr} {oc:Value} {od an:Option Addr} {osl:Array (Option Value)} {kV doc pm cdv ct:Value} (l:K.lookup f=some ⟨oc,od,.func (PySem.W.fnOf x qual (qBg st) (defBody st) (defScope st) .none kV doc pm an cdv ct),osl⟩)
  (c:PySem.W.codeIn K cdv qual=true) (k:PySem.W.keepIn K (.ref f)=true):Fun K x qual st f (PySem.W.fnOf x qual (qBg st) (defBody st) (defScope st) .none kV doc pm an cdv ct):=⟨⟨oc,od,kV,doc,pm,an,cdv,ct,osl,rfl,l,c⟩,k⟩
end
section
variable {X:Cx}
end
noncomputable def qFH (H H':Hp):Prop:=∀ b o,H b=some o -> H' b=some o
end L2
namespace L2
open PySem PySem.Spec PyProof.Rows
open PySem PySem.Spec PyProof.Rows
section
variable (P:Program) (w:World)
end
section
variable {P:Program} {w:World} {H H':Hp} {h h':Heap} {a:Addr} {o:HO}
end
section
variable {P:Program} {w:World} {H:Hp} {h h':Heap} {x e:Addr} {o':HO}
end
section
variable {fs fs' ex ex':List Addr} {H H1 H2:Hp} {h h1 h2 h':Heap} {a x e:Addr} {o:HO}
end
open PySem PySem.Spec PyProof.Rows
section
variable {X:Cx} {pins:List (Addr×Obj)} {σ:List (Option V)} {H H':Hp} {s:Shared} {h':Heap}
end
open PySem PySem.Spec PyProof.Rows
section
variable {X:Cx}
variable {a b:Expr} {ta tb:TE} {pos:Pos}
variable {tA tB':TT} {qCH:List Expr}
end
open PySem PySem.Spec PyProof.Rows
section
variable {X:Cx} {pins:List (Addr×Obj)} {σ:St} {H:Hp} {s:Shared} {a:Addr} {xs ys:List V}
end
section
variable {X:Cx} {pins:List (Addr×Obj)} {σ:St} {H:Hp} {s:Shared} {E:Value -> Shared -> Prop}
end
section
variable {X:Cx} {st:Stmt} {qCH:List Stmt} {t u:TS} {e:Expr} {te:TE} {pos:Pos}
end
section
variable {X:Cx} {pos:Pos}
end
section
variable {X:Cx} {pos:Pos}
end
open PySem PySem.Spec PyProof.Rows
section
variable {X:Cx} {tg:Expr}
end
open PySem PySem.Spec PyProof.Rows
section
variable {X:Cx} {a b c:Expr} {ta tb tc:TE} {pos:Pos}
end
section
variable {X:Cx} {a b c:Expr} {ta tb tc:TE} {pos:Pos}
end
open PySem PySem.Spec PyProof.Rows
section
variable {prog:Program} {w:World} {A:Around} {E:Value -> Shared -> Prop} {s:Shared} {K:PySem.W.Frag} {x dx C f:Addr} {mA:Str -> Option Value} {name:Str} {v:Value}
end
section
variable {P:Program} {w:World} {H H':Hp} {h h':Heap} {a C dx:Addr} {fs fs':List (Str×V)}
end
section
variable {X:Cx} {pins:List (Addr×Obj)} {σ:St} {H:Hp} {s:Shared} {a C dx:Addr} {fs:List (Str×V)} {f:Str} {v:V} {A:Around} {E:Value -> Shared -> Prop}
end
section
variable {X:Cx} {o e value:Expr} {f:Str} {pos pos' tpos:Pos} {ta tv:TE}
end
section
variable {X:Cx} {pins:List (Addr×Obj)} {σ:St} {H:Hp} {s:Shared} {A:Around} {E:Value -> Shared -> Prop} {Q:Value -> Shared -> Prop} {c:Value} {b:Bool}
end
open PySem PySem.Spec PyProof.Rows
section
variable {X:Cx} {e:Expr} {es:List Expr} {te:TE} {t:TA} {pos:Pos}
end
section
variable {X:Cx} {pins:List (Addr×Obj)} {σ:St} {H:Hp} {s s':Shared}
end
section
variable {X:Cx} {CX:CXT} {k:Nat} {f C:Addr} {fd:FuncData} {ps:List Str} {sp:Sp} {dvs:List V} {ds:List Value} {E:XK} {x m:Str} {p pos apos:Pos} {e o:Expr} {es:List Expr} {ta:TE} {t:TA}
end
section
variable {X:Cx} {CX:CXT} {k:Nat} {f C:Addr} {fd:FuncData} {ps ks:List Str} {sp:Sp} {E:XK} {x m:Str} {p pos apos kpos:Pos} {e o:Expr} {es:List Expr} {kws:List Keyword} {te ta:TE} {t tk:TA} {nm:Option Str}
variable {g:List Value -> List Value -> List Value} {gV:List V -> List V -> List V}
end
open PySem PySem.Spec PyProof.Rows
section
variable {X:Cx} {x:Str} {p pos:Pos} {e:Expr} {es:List Expr} {t:TA} {id T:String} {r:List V -> Hp -> VK -> Prop}
end
open PySem PySem.Spec PyProof.Rows
section
variable {κ:Type} [DecidableEq κ]
noncomputable def qFp (kvs:List (κ×V)) (k:κ):Option V:=(kvs.find? fun kv=>decide (kv.1=k)).map (·.2)
noncomputable def qIe (kvs:List (κ×V)) (k:κ) (v:V):List (κ×V):=
 if (kvs.any fun kv=>decide (kv.1=k))=true then kvs.map (fun kv=>if kv.1=k then (kv.1,v) else kv) else kvs++[(k,v)]
noncomputable def qLx (kvs:List (κ×V)) (k:κ):List (κ×V):=kvs.filter fun kv=>decide (kv.1≠k)
theorem qDC {p:κ×V} {r:List (κ×V)} {k:κ} (e:p.1=k):qFp (p::r) k=some p.2:=by simp [qFp,List.find?_cons,e]
theorem qDI {p:κ×V} {r:List (κ×V)} {k:κ} (e:¬ p.1=k):qFp (p::r) k=qFp r k:=by simp [qFp,List.find?_cons,e]
theorem qFE (k:κ):∀ kvs:List (κ×V),(kvs.any fun kv=>decide (kv.1=k))=(qFp kvs k).isSome
 | []=>rfl
 | p::r=>by
  rw [List.any_cons]
  by_cases e:p.1=k
  ·simp only [qDC e,decide_eq_true e,Bool.true_or,Option.isSome_some]
  ·rw [qDI e,decide_eq_false e,Bool.false_or];exact qFE k r
theorem RelO.isSome_eq {o:Option V} {u:Option Value} (r:RelO o u):o.isSome=u.isSome:=by
 cases o with
 | none=>cases u with
  | none=>rfl
  | some _=>exact (show False from r).elim
 | some _=>cases u with
  | none=>exact (show False from r).elim
  | some _=>rfl
theorem RelO.getD {o:Option V} {u:Option Value} {d:V} {d':Value} (r:RelO o u) (rd:RelV d d'):RelV (o.getD d) (u.getD d'):=by
 cases o with
 | none=>cases u with
  | none=>exact rd
  | some _=>exact (show False from r).elim
 | some _=>cases u with
  | none=>exact (show False from r).elim
  | some _=>exact r
theorem KV.val {kvs:List (κ×V)} {vs:List (κ×Value)} (r:KV kvs vs) (k:κ):RelO (qFp kvs k) (valueAt vs k):=by
 unfold KV at r
 induction r with
 | nil=>exact True.intro
 | @cons p q ps qs h t ih=>
  obtain ⟨h1,h2⟩:=h
  by_cases e:p.1=k
  ·have e':q.1=k:=h1.symm.trans e
   have b:valueAt (q::qs) k=some q.2:=by simp [valueAt,List.find?_cons,e']
   rw [qDC e,b];exact h2
  ·have e':¬ q.1=k:=fun z=>e (h1.trans z)
   have b:valueAt (q::qs) k=valueAt qs k:=by simp [valueAt,List.find?_cons,e']
   rw [qDI e,b];exact ih
theorem KV.any {kvs:List (κ×V)} {vs:List (κ×Value)} (r:KV kvs vs) (k:κ):(kvs.any fun kv=>decide (kv.1=k))=vs.any fun kv=>decide (kv.1=k):=by
 unfold KV at r
 induction r with
 | nil=>rfl
 | cons h t ih=>rw [List.any_cons,List.any_cons,ih,h.1]
theorem KV.repl {kvs:List (κ×V)} {vs:List (κ×Value)} (r:KV kvs vs) (k:κ) {y:V} {u:Value} (ry:RelV y u):
  KV (kvs.map fun kv=>if kv.1=k then (kv.1,y) else kv) (vs.map fun kv=>if kv.1=k then (kv.1,u) else kv):=by
 unfold KV at r ⊢
 induction r with
 | nil=>exact .nil
 | @cons p q ps qs h t ih=>
  rw [List.map_cons,List.map_cons]
  refine .cons ?_ ih
  obtain ⟨h1,h2⟩:=h
  by_cases e:p.1=k
  ·rw [if_pos e,if_pos (h1.symm.trans e)];exact ⟨h1,ry⟩
  ·rw [if_neg e,if_neg (fun z=>e (h1.trans z))];exact ⟨h1,h2⟩
theorem KV.put {kvs:List (κ×V)} {vs:List (κ×Value)} (r:KV kvs vs) (k:κ) {y:V} {u:Value} (ry:RelV y u):KV (qIe kvs k y) (stored vs k u):=by
 unfold qIe stored
 rw [r.any k]
 by_cases e:(vs.any fun kv=>decide (kv.1=k))=true
 ·rw [if_pos e,if_pos e];exact r.repl k ry
 ·rw [if_neg e,if_neg e];exact Paired.snoc r ⟨rfl,ry⟩
theorem KV.drop {kvs:List (κ×V)} {vs:List (κ×Value)} (r:KV kvs vs) (k:κ):KV (qLx kvs k) (without vs k):=by
 unfold KV at r ⊢
 unfold qLx without
 induction r with
 | nil=>exact .nil
 | @cons p q ps qs h t ih=>
  obtain ⟨h1,h2⟩:=h
  rw [List.filter_cons,List.filter_cons]
  by_cases e:p.1=k
  ·have a:¬ decide (p.1≠k)=true:=by simp [e]
   have b:¬ decide (q.1≠k)=true:=by simp [h1.symm.trans e]
   rw [if_neg a,if_neg b];exact ih
  ·have e':¬ q.1=k:=fun z=>e (h1.trans z)
   have a:decide (p.1≠k)=true:=by simp [e]
   have b:decide (q.1≠k)=true:=by simp [e']
   rw [if_pos a,if_pos b];exact .cons ⟨h1,h2⟩ ih
theorem KV.length {kvs:List (κ×V)} {vs:List (κ×Value)} (r:KV kvs vs):kvs.length=vs.length:=Paired.length r
end
noncomputable abbrev KT (H:Hp):List (List Key×V) -> List (List Key×Addr×Value) -> Prop:=Paired fun p q=>p.1=q.1/\H q.2.1=some (.tup (p.1.map kV))/\RelV p.2 q.2.2
theorem KT.val {H:Hp} {kvs:List (List Key×V)} {xs:List (List Key×Addr×Value)} (r:KT H kvs xs) (k:List Key):RelO (qFp kvs k) ((atKey xs k).map (·.2)):=by
 induction r with
 | nil=>exact True.intro
 | @cons p q ps qs h t ih=>
  obtain ⟨h1,_,h2⟩:=h
  by_cases e:p.1=k
  ·have e':q.1=k:=h1.symm.trans e
   have b:atKey (q::qs) k=some q.2:=by simp [atKey,List.find?_cons,e']
   rw [qDC e,b];exact h2
  ·have e':¬ q.1=k:=fun z=>e (h1.trans z)
   have b:atKey (q::qs) k=atKey qs k:=by simp [atKey,List.find?_cons,e']
   rw [qDI e,b];exact ih
theorem KT.repl {H:Hp} {kvs:List (List Key×V)} {xs:List (List Key×Addr×Value)} (r:KT H kvs xs) (k:List Key) {y:V} {u:Value} (ry:RelV y u):
  KT H (kvs.map fun kv=>if kv.1=k then (kv.1,y) else kv) (xs.map (putAt k u)):=by
 induction r with
 | nil=>exact .nil
 | @cons p q ps qs h t ih=>
  rw [List.map_cons,List.map_cons]
  refine .cons ?_ ih
  obtain ⟨h1,h2,h3⟩:=h
  unfold putAt
  by_cases e:p.1=k
  ·rw [if_pos e,if_pos (h1.symm.trans e)];exact ⟨h1,h2,ry⟩
  ·rw [if_neg e,if_neg (fun z=>e (h1.trans z))];exact ⟨h1,h2,h3⟩
theorem KT.put {H:Hp} {kvs:List (List Key×V)} {xs:List (List Key×Addr×Value)} (r:KT H kvs xs) (k:List Key) {b:Addr} {y:V} {u:Value} (hb:H b=some (.tup (k.map kV))) (ry:RelV y u):
  KT H (qIe kvs k y) (storedH xs k b u):=by
 have e:(kvs.any fun kv=>decide (kv.1=k))=(atKey xs k).isSome:=by
  rw [qFE,(r.val k).isSome_eq,Option.isSome_map]
 unfold qIe storedH
 rw [e]
 by_cases q:(atKey xs k).isSome=true
 ·rw [if_pos q,if_pos q];exact r.repl k ry
 ·rw [if_neg q,if_neg q];exact Paired.snoc r ⟨rfl,hb,ry⟩
theorem KT.keeps {H H':Hp} {kvs:List (List Key×V)} {xs:List (List Key×Addr×Value)} (r:KT H kvs xs) (ht:∀ b ys,H b=some (.tup ys) -> H' b=some (.tup ys)):KT H' kvs xs:=
 Paired.mapP r fun _ _ z=>⟨z.1,ht _ _ z.2.1,z.2.2⟩
section
variable {P:Program} {w:World} {H:Hp} {h:Heap} {a:Addr}
end
noncomputable def DGet (H:Hp) (a:Addr) (y:V) (r:Option V):Prop:=
 (∃ kvs k,Rd H a (.dK kvs)/\y=kV k/\r=qFp kvs k)\/∃ kvs k b,Rd H a (.dT kvs)/\y=.ref b/\H b=some (.tup (k.map kV))/\r=qFp kvs k
noncomputable def DPut (H:Hp) (a:Addr) (y v:V) (H':Hp):Prop:=
 (∃ kvs k,H a=some (.dK kvs)/\y=kV k/\kvs.length < sizeLine/\H'=upd H a (.dK (qIe kvs k v)))\/
 ∃ kvs k b,H a=some (.dT kvs)/\y=.ref b/\H b=some (.tup (k.map kV))/\kvs.length < sizeLine/\H'=upd H a (.dT (qIe kvs k v))
theorem DGet.k {H:Hp} {a:Addr} {kvs:List (Key×V)} {k:Key} (e:H a=some (.dK kvs)):DGet H a (kV k) (qFp kvs k):=.inl ⟨kvs,k,.inl e,rfl,rfl⟩
theorem DGet.t {H:Hp} {a b:Addr} {kvs:List (List Key×V)} {k:List Key} (e:H a=some (.dT kvs)) (eb:H b=some (.tup (k.map kV))):DGet H a (.ref b) (qFp kvs k):=.inr ⟨kvs,k,b,.inl e,rfl,eb,rfl⟩
theorem DPut.k {H:Hp} {a:Addr} {kvs:List (Key×V)} {k:Key} {v:V} (e:H a=some (.dK kvs)) (hl:kvs.length < sizeLine):DPut H a (kV k) v (upd H a (.dK (qIe kvs k v))):=.inl ⟨kvs,k,e,rfl,hl,rfl⟩
theorem DPut.t {H:Hp} {a b:Addr} {kvs:List (List Key×V)} {k:List Key} {v:V} (e:H a=some (.dT kvs)) (eb:H b=some (.tup (k.map kV))) (hl:kvs.length < sizeLine):
  DPut H a (.ref b) v (upd H a (.dT (qIe kvs k v))):=.inr ⟨kvs,k,b,e,rfl,eb,hl,rfl⟩
section
variable {X:Cx} {pins:List (Addr×Obj)} {σ:St} {H:Hp} {s:Shared} {a:Addr} {y v:V} {u r:Value} {o:Option V} {A:Around} {E:Value -> Shared -> Prop}
end
section
variable {X:Cx} {pins:List (Addr×Obj)} {σ:St} {H:Hp} {s:Shared} {a:Addr} {kvs:List (Key×V)} {k:Key} {u:Value} {A:Around} {E:Value -> Shared -> Prop}
end
section
variable {X:Cx} {o i e value:Expr} {pos pos' tpos:Pos} {td ty tv:TE}
end
section
variable {X:Cx} {pos:Pos}
end
structure M1 (X:Cx) (o:Expr) (m:Str) (apos:Pos) (e:Expr) (cpos:Pos):Prop where
 base:attributeBase o m X.env (eval o X.env)=eval o X.env
 few:((backTo cpos (starEach [e] X.env)).all (fun x=>!x.1)&&(backToKw cpos (keywordEach [] X.env)).all (fun x=>x.1.isSome)
  && decide (([e]:List Expr).length + ([]:List Keyword).length + (if ([]:List Keyword).isEmpty then 0 else 1) < 30))=true
 line:(apos.endLine==cpos.line)=true
 trees:backTo cpos (starEach [e] X.env)=[(false,eval e X.env)]
structure M2 (X:Cx) (o:Expr) (m:Str) (apos:Pos) (e f:Expr) (cpos:Pos):Prop where
 base:attributeBase o m X.env (eval o X.env)=eval o X.env
 few:((backTo cpos (starEach [e,f] X.env)).all (fun x=>!x.1)&&(backToKw cpos (keywordEach [] X.env)).all (fun x=>x.1.isSome)
  && decide (([e,f]:List Expr).length + ([]:List Keyword).length + (if ([]:List Keyword).isEmpty then 0 else 1) < 30))=true
 line:(apos.endLine==cpos.line)=true
 trees:backTo cpos (starEach [e,f] X.env)=[(false,eval e X.env),(false,eval f X.env)]
section
variable {X:Cx} {pins:List (Addr×Obj)} {σ:St} {H:Hp} {s:Shared} {a:Addr} {y d:V} {u r:Value} {o:Option V} {A:Around} {E:Value -> Shared -> Prop}
end
section
variable {X:Cx} {o e f:Expr} {apos cpos:Pos} {td ty tx:TE}
end
section
variable {X:Cx} {pins:List (Addr×Obj)} {σ:St} {H:Hp} {s:Shared} {a:Addr} {kvs:List (Key×V)} {A:Around} {E:Value -> Shared -> Prop}
end
section
variable {X:Cx} {pins:List (Addr×Obj)} {σ:St} {H:Hp} {s:Shared} {a:Addr} {y:V} {u:Value} {A:Around} {E:Value -> Shared -> Prop}
end
end L2
namespace Att
open PySem PySem.W PySem.Calls PyProof.Rows
section
variable {prog:Program} {w:World} {A:Around} {E:Value -> Shared -> Prop} {s:Shared} {K:Frag}
end
end Att
namespace L2
open PySem PySem.Spec PyProof.Rows
open PySem PySem.Spec PyProof.Rows
end L2
set_option maxHeartbeats 4000000
namespace L2
open PySem PySem.Spec PyProof.Rows
noncomputable def qFo (cells:List (Str×Addr)):List (Str×NameKind) -> List (Str×Addr) -> List (Str×Addr)
 | [],cs=>cs
 | (n,k)::r,cs=>qFo cells r (if k=.free then (match cells.lookup n with | some c=>(n,c)::cs | none=>cs) else cs)
theorem qBJ {scope:Scope} {env:Env} (h:∀ y∈scope.names,y.2=.free -> ∃ c,env.cells.lookup y.1=some c):closureFor scope env=pure (qFo env.cells scope.names []):=by
 simp only [closureFor]
 generalize scope.names=names at h
 have key:∀ (names:List (Str×NameKind)) (cs:List (Str×Addr)),(∀ y∈names,y.2=.free -> ∃ c,env.cells.lookup y.1=some c) ->
   (forIn names cs fun x r=>if (x.2==NameKind.free)=true then do let c <- cellOf env x.1;pure (ForInStep.yield ((x.1,c)::r)) else pure (ForInStep.yield r))=(pure (qFo env.cells names cs):Sem _):=by
  intro names
  induction names with
  | nil=>intro cs _;rfl
  | cons y r ih=>
   intro cs hy
   obtain ⟨n,k⟩:=y
   rw [List.forIn_cons]
   by_cases hk:k=.free
   ·subst hk
    obtain ⟨c,hc⟩:=hy (n,.free) List.mem_cons_self rfl
    have hc':List.lookup n env.cells=some c:=hc
    have e:cellOf env n=pure c:=by unfold cellOf;rw [hc']
    simp only [beq_self_eq_true,if_true,e,pure_bind,qFo,hc']
    exact ih _ fun y hm=>hy y (List.mem_cons_of_mem _ hm)
   ·have hb:(k==NameKind.free)=false:=by simpa using hk
    simp only [hb,Bool.false_eq_true,if_false,pure_bind,qFo,if_neg hk]
    exact ih _ fun y hm=>hy y (List.mem_cons_of_mem _ hm)
 rw [key names [] h]
 rfl
theorem qIH {cells:List (Str×Addr)} {x:Str} {c:Addr}:∀ {names:List (Str×NameKind)} {cs:List (Str×Addr)},(qFo cells names cs).lookup x=some c -> cs.lookup x=some c\/cells.lookup x=some c
 | [],cs,h=>.inl h
 | (n,k)::r,cs,h=>by
  unfold qFo at h
  rcases qIH h with h2 | h2
  ·clear h
   by_cases hk:k=.free
   ·rw [if_pos hk] at h2
    cases e:cells.lookup n with
    | none=>rw [e] at h2;exact .inl h2
    | some c'=>
     rw [e] at h2
     simp only [List.lookup_cons] at h2
     cases hx:x==n with
     | true=>
      have hx':x=n:=by simpa using hx
      rw [hx] at h2
      subst hx'
      cases h2
      exact .inr e
     | false=>
      rw [hx] at h2
      exact .inl h2
   ·rw [if_neg hk] at h2
    exact .inl h2
  ·exact .inr h2
theorem qId {cells:List (Str×Addr)} {x:Str} {c:Addr} (hc:cells.lookup x=some c):∀ {names:List (Str×NameKind)} {cs:List (Str×Addr)},((x,NameKind.free)∈names\/cs.lookup x=some c) -> (∀ c',cs.lookup x=some c' -> c'=c) -> (qFo cells names cs).lookup x=some c
 | [],cs,h,_=>by
  rcases h with h | h
  ·exact nomatch h
  ·exact h
 | (n,k)::r,cs,h,hu=>by
  unfold qFo
  refine qId hc ?_ ?_
  ·rcases h with h | h
   ·rcases List.mem_cons.mp h with h | h
    ·cases h
     right
     rw [if_pos rfl,hc]
     simp
    ·exact .inl h
   ·right
    by_cases hk:k=.free
    ·rw [if_pos hk]
     cases e:cells.lookup n with
     | none=>exact h
     | some c'=>
      simp only [List.lookup_cons]
      cases hx:x==n with
      | true=>
       have hx':x=n:=by simpa using hx
       subst hx'
       rw [hc] at e
       cases e
       rfl
      | false=>exact h
    ·rw [if_neg hk];exact h
  ·intro c' h'
   by_cases hk:k=.free
   ·rw [if_pos hk] at h'
    cases e:cells.lookup n with
    | none=>rw [e] at h';exact hu c' h'
    | some c2=>
     rw [e] at h'
     simp only [List.lookup_cons] at h'
     cases hx:x==n with
     | true=>
      have hx':x=n:=by simpa using hx
      subst hx'
      rw [hx] at h'
      rw [hc] at e
      cases e
      cases h'
      rfl
     | false=>
      rw [hx] at h'
      exact hu c' h'
   ·rw [if_neg hk] at h'
    exact hu c' h'
theorem qCF {env:Env}:∀ {names:List (Str×NameKind)} {x:Str},names.lookup x=some .free ->
  (names.map fun (n,k)=>if (k==NameKind.free&&env.scope.kind==.function&&env.kindOf n==some .cell) then (n,NameKind.cell) else (n,k)).lookup x=some .cell\/
  (names.map fun (n,k)=>if (k==NameKind.free&&env.scope.kind==.function&&env.kindOf n==some .cell) then (n,NameKind.cell) else (n,k)).lookup x=some .free
 | [],_,h=>by simp at h
 | (n,k)::r,x,h=>by
  have ih:=@qCF env r x
  simp only [List.map_cons]
  cases hx:x==n with
  | true=>
   simp only [List.lookup_cons,hx] at h
   cases h
   by_cases hc:(NameKind.free==NameKind.free&&env.scope.kind==.function&&env.kindOf n==some .cell)=true
   ·rw [if_pos hc];left;simp [List.lookup_cons,hx]
   ·rw [if_neg hc];right;simp [List.lookup_cons,hx]
  | false=>
   simp only [List.lookup_cons,hx] at h
   by_cases hc:(k==NameKind.free&&env.scope.kind==.function&&env.kindOf n==some .cell)=true
   ·rw [if_pos hc];simp only [List.lookup_cons,hx];exact ih h
   ·rw [if_neg hc];simp only [List.lookup_cons,hx];exact ih h
theorem qBN {env:Env}:∀ {names:List (Str×NameKind)} {x:Str},
  ((names.map fun (n,k)=>if (k==NameKind.free&&env.scope.kind==.function&&env.kindOf n==some .cell) then (n,NameKind.cell) else (n,k)).lookup x=some .cell\/
  (names.map fun (n,k)=>if (k==NameKind.free&&env.scope.kind==.function&&env.kindOf n==some .cell) then (n,NameKind.cell) else (n,k)).lookup x=some .free) -> names.lookup x=some .free\/names.lookup x=some .cell
 | [],_,h=>by simp at h
 | (n,k)::r,x,h=>by
  have ih:=@qBN env r x
  simp only [List.map_cons] at h
  cases hx:x==n with
  | true=>
   simp only [List.lookup_cons,hx]
   by_cases hc:(k==NameKind.free&&env.scope.kind==.function&&env.kindOf n==some .cell)=true
   ·rw [if_pos hc] at h
    have hk:k=.free:=by
     cases k<;>first | rfl | (simp at hc)
    rw [hk];exact .inl rfl
   ·rw [if_neg hc] at h
    simp only [List.lookup_cons,hx] at h
    exact h.symm
  | false=>
   simp only [List.lookup_cons,hx]
   by_cases hc:(k==NameKind.free&&env.scope.kind==.function&&env.kindOf n==some .cell)=true
   ·rw [if_pos hc] at h;simp only [List.lookup_cons,hx] at h;exact ih h
   ·rw [if_neg hc] at h;simp only [List.lookup_cons,hx] at h;exact ih h
theorem qBd:∀ (names:List (Str×NameKind)) (a:Nat) (acc:List (Str×Addr)),cellsFrom a names acc=cellsFrom a names []++acc
 | [],a,acc=>rfl
 | (n,k)::r,a,acc=>by
  unfold cellsFrom
  split
  ·rw [qBd r (a + 1) ((n,a)::acc),qBd r (a + 1) [(n,a)],List.append_assoc];rfl
  ·exact qBd r a acc
theorem qDE {x:Str} {c:Addr}:∀ {names:List (Str×NameKind)} {a:Nat},(x,c)∈cellsFrom a names [] -> (x,NameKind.cell)∈names
 | [],a,h=>nomatch h
 | (n,k)::r,a,h=>by
  unfold cellsFrom at h
  split at h
  ·rename_i hk
   rw [qBd,List.mem_append] at h
   rcases h with h | h
   ·exact List.mem_cons_of_mem _ (qDE h)
   ·have:(x,c)=(n,a):=List.mem_singleton.mp h
    cases this
    rw [beq_iff_eq.mp hk];exact List.mem_cons_self
  ·exact List.mem_cons_of_mem _ (qDE h)
theorem qFK {x:Str}:∀ {names:List (Str×NameKind)} {a:Nat},(x,NameKind.cell)∈names -> ∃ c,(cellsFrom a names []).lookup x=some c
 | [],a,h=>nomatch h
 | (n,k)::r,a,h=>by
  unfold cellsFrom
  rcases List.mem_cons.mp h with h | h
  ·cases h
   rw [if_pos (by decide),qBd,List.lookup_append]
   cases (cellsFrom (a + 1) r []).lookup x with
   | none=>exact ⟨a,by simp⟩
   | some c=>exact ⟨c,rfl⟩
  ·split
   ·obtain ⟨c,hc⟩:=qFK (a:=a + 1) h
    exact ⟨c,by rw [qBd,List.lookup_append,hc];rfl⟩
   ·exact qFK h
noncomputable def qBP (X:Cx) (scope:Scope) (C:Addr):List (Str×Addr):=cellsFrom (C + 1) scope.names (qFo X.env.cells scope.names [])
noncomputable def cxComp (X:Cx) (scope:Scope) (C:Addr) (fp:List Addr) (s₂:Shared) (H₂:Hp) (N:List Str):Cx:=
 { X with N:=N,s₀:=s₂,H₀:=H₂,env:=compEnvC scope (qBP X scope C) C X.env,outer:=X.stack,ex:=fp,fn:=fun x=>decide (scope.names.lookup x=some .cell),pn:=[],xe:=fun _ _=>False }
noncomputable def inner (src:List (Option Nat)) (σ:St):St:=src.map fun o=>match o with | none=>none | some j=>(σ[j]?).join
structure CompScope (X:Cx) (scope:Scope) (N:List Str) (src:List (Option Nat)):Prop where
 kind:scope.kind=.function
 uniq:∀ y∈scope.names,scope.names.lookup y.1=some y.2
 frees:∀ y∈scope.names,y.2=NameKind.free -> X.env.kindOf y.1=some .cell\/X.env.kindOf y.1=some .free
 nd:N.Nodup
 len:src.length=N.length
 from_:∀ (i:Nat) x j,N[i]?=some x -> src[i]?=some (some j) -> X.N[j]?=some x/\scope.names.lookup x=some .free
theorem qAc {x:Str} {k:NameKind}:∀ {names:List (Str×NameKind)},names.lookup x=some k -> (x,k)∈names
 | [],h=>by simp at h
 | (n,k')::r,h=>by
  cases hx:x==n with
  | true=>
   simp only [List.lookup_cons,hx] at h
   have hx':x=n:=by simpa using hx
   cases h
   subst hx'
   exact List.mem_cons_self
  | false=>
   simp only [List.lookup_cons,hx] at h
   exact List.mem_cons_of_mem _ (qAc h)
section
variable {X:Cx} {pins:List (Addr×Obj)} {σ:St} {H₂:Hp} {s₂:Shared} {scope:Scope} {N:List Str} {src:List (Option Nat)} {fp:List Addr}
theorem CompScope.cells (S:CompScope X scope N src) (ok:X.Ok):∀ y∈scope.names,y.2=.free -> ∃ c,X.env.cells.lookup y.1=some c:=fun y hy hk=>ok.has y.1 (S.frees y hy hk)
theorem CompScope.names (S:CompScope X scope N src):∀ y∈scope.names,y.2=NameKind.local -> scope.names.lookup y.1=some .local:=fun y hy hk=>by rw [<- hk];exact S.uniq y hy
theorem qAo {C:Addr} {h₁:Heap} (ow:CellsOk h₁ (C + 1) (cellsFrom (C + 1) scope.names [])) {x:Str} {c:Addr} (h:(qBP X scope C).lookup x=some c):
  ((x,c)∈cellsFrom (C + 1) scope.names []/\(x,NameKind.cell)∈scope.names/\h₁.IsCell c none/\C < c)\/X.env.cells.lookup x=some c:=by
 unfold qBP at h
 rw [qBd,List.lookup_append] at h
 cases e:(cellsFrom (C + 1) scope.names []).lookup x with
 | some c'=>
  rw [e] at h
  cases h
  have m:=PySem.mem_of_lookup e
  exact .inl ⟨m,qDE m,(ow.empty x c m).1,(ow.empty x c m).2⟩
 | none=>
  rw [e] at h
  rcases qIH (show (qFo X.env.cells scope.names []).lookup x=some c by simpa using h) with h | h
  ·simp at h
  ·exact .inr h
theorem qCu (S:CompScope X scope N src) {C:Addr} {x:Str} {c:Addr} (hf:scope.names.lookup x=some .free) (h:X.env.cells.lookup x=some c):(qBP X scope C).lookup x=some c:=by
 unfold qBP
 rw [qBd,List.lookup_append]
 have:(cellsFrom (C + 1) scope.names []).lookup x=none:=by
  cases e:(cellsFrom (C + 1) scope.names []).lookup x with
  | none=>rfl
  | some c'=>
   have:=S.uniq _ (qDE (PySem.mem_of_lookup e))
   rw [hf] at this;cases this
 rw [this,qId h (.inl (qAc hf)) (by intro c' h';simp at h')];rfl
theorem qI6 (S:CompScope X scope N src) (I:Inv X pins σ H₂ s₂) (f2:∀ b∈fp,qEB X pins H₂ b) (ob:∀ b∈fp,∃ o,s₂.heap.get? b=some o/\∀ v,o.data≠.cell v) {C:Addr} (hC:s₂.heap.objs.size<=C) {h₁:Heap} (ow:CellsOk h₁ (C + 1) (cellsFrom (C + 1) scope.names [])):
  (cxComp X scope C fp s₂ H₂ N).Ok:=by
 have lt:∀ x c,X.env.cells.lookup x=some c -> c < s₂.heap.objs.size:=fun x c h=>let ⟨v,q⟩:=I.cell x c h;q.lt
 refine ⟨I.ok.mod,S.kind,I.ok.glob,I.ok.blt,hC,fun x y c h1 h2=>?_,fun x hx=>?_,fun x c hf h=>?_,I.ok.hd,I.ok.frames,.inl rfl,fun b hb=>⟨?_,fun x c h=>?_⟩,fun b o e=>I.bs b o e,?_,fun b o e hb=>?_,fun b hb=>?_,I.stack,I.stkFree⟩
 ·rcases qAo ow h1 with ⟨m1,_,_,g1⟩ | g1<;>rcases qAo ow h2 with ⟨m2,_,_,g2⟩ | g2
  ·exact PySem.name_of_addr ow.apart m1 m2
  ·exact absurd (Nat.lt_trans (Nat.lt_of_lt_of_le (lt y c g2) hC) g1) (Nat.lt_irrefl _)
  ·exact absurd (Nat.lt_trans (Nat.lt_of_lt_of_le (lt x c g1) hC) g2) (Nat.lt_irrefl _)
  ·exact I.ok.inj x y c g1 g2
 ·rcases qBN hx with hf | hf
  ·obtain ⟨c,hc⟩:=S.cells I.ok (x,.free) (qAc hf) rfl
   exact ⟨c,qCu S hf hc⟩
  ·obtain ⟨c,hc⟩:=qFK (a:=C + 1) (qAc hf)
   exact ⟨c,by show (qBP X scope C).lookup x=_;unfold qBP;rw [qBd,List.lookup_append,hc];rfl⟩
 ·have hf':scope.names.lookup x=some .cell:=of_decide_eq_true hf
  rcases qAo ow h with ⟨_,_,_,g⟩ | g
  ·exact Nat.le_of_lt (Nat.lt_of_le_of_lt hC g)
  ·unfold cxComp at h
   have h:(qBP X scope C).lookup x=some c:=h
   obtain ⟨c',hc'⟩:=qFK (a:=C + 1) (qAc hf')
   have e:(qBP X scope C).lookup x=some c':=by unfold qBP;rw [qBd,List.lookup_append,hc'];rfl
   rw [e] at h;cases h
   have:=(ow.empty x c (PySem.mem_of_lookup hc')).2
   exact Nat.le_trans hC (Nat.le_of_succ_le this)
 ·obtain ⟨o,e,_⟩:=ob b hb
  exact Nat.ne_of_lt (Nat.lt_of_lt_of_le (Heap.lt_size e) hC)
 ·rcases qAo ow h with ⟨_,_,_,g⟩ | g
  ·obtain ⟨o,e,_⟩:=ob b hb
   exact Nat.ne_of_gt (Nat.lt_trans (Nat.lt_of_lt_of_le (Heap.lt_size e) hC) g)
  ·exact (f2 b hb).2.2.2.2.1 x c g
 ·exact Nat.le_trans I.ok.bsz I.sz
 ·rcases (f2 b hb).2.2.2.1 with z | z
  ·exact I.ok.noex b o e z
  ·exact absurd (Nat.lt_of_lt_of_le (Heap.lt_size e) (Nat.le_trans I.ok.bsz z)) (Nat.lt_irrefl _)
 ·intro hz
  rcases List.mem_cons.mp (I.stkSub b hz) with e | e
  ·exact (f2 b hb).2.1 e
  ·exact (f2 b hb).2.2.1 e
theorem qDe (S:CompScope X scope N src) (I:Inv X pins σ H₂ s₂) (f2:∀ b∈fp,qEB X pins H₂ b) (ob:∀ b∈fp,∃ o,s₂.heap.get? b=some o/\∀ v,o.data≠.cell v) {C:Addr} {h₁:Heap} {m:Str -> Option Value} {tk n:Nat}
  (hC:s₂.heap.objs.size < C) (keep:∀ b o,s₂.heap.get? b=some o -> h₁.get? b=some o) (hD:h₁.get? s₂.heap.objs.size=some { cls:=.type "list",data:=.seq #[] n }) (hn:h₁.Ns C m) (ow:CellsOk h₁ (C + 1) (cellsFrom (C + 1) scope.names [])):
  Inv (cxComp X scope C fp s₂ H₂ N) [] (inner src σ) (upd H₂ s₂.heap.objs.size (.lst [])) { s₂ with heap:=h₁,toks:=tk }:=by
 have lt:∀ x c,X.env.cells.lookup x=some c -> c < s₂.heap.objs.size:=fun x c h=>let ⟨v,q⟩:=I.cell x c h;q.lt
 have hfr:H₂ s₂.heap.objs.size=none:=I.hok.fresh (Nat.le_refl _)
 refine ⟨qI6 S I f2 ob (Nat.le_of_lt hC) ow,rfl,I.bare,Un.laid keep (Nat.le_refl _) hfr,⟨m,hn,fun i x v e1 e2 e3=>?_⟩,fun x c h=>?_,?_,fun x c h=>?_,fun p hp=>absurd (show p∈([]:List (Addr×Obj)) from hp) (by simp),I.hok.laid keep (Nat.le_refl _) ⟨by simp,[],n,.nil,hD⟩,?_⟩
 ·have e2':(inner src σ)[i]?=some (some v):=e2
  unfold inner at e2'
  rw [List.getElem?_map] at e2'
  cases q:src[i]? with
  | none=>rw [q] at e2';cases e2'
  | some o=>
   rw [q] at e2'
   cases o with
   | none=>cases e2'
   | some j=>
    have ej:(σ[j]?).join=some v:=Option.some.inj e2'
    have ej':σ[j]?=some (some v):=by
     cases z:σ[j]? with
     | none=>rw [z] at ej;cases ej
     | some w=>rw [z] at ej;exact congrArg some ej
    obtain ⟨n1,n2⟩:=S.from_ i x j e1 q
    obtain ⟨m0,hn0,hl⟩:=I.loc
    have hfr':=S.frees (x,.free) (qAc n2) rfl
    obtain ⟨u,r,l⟩:=hl j x v n1 ej' (by rcases hfr' with z | z;exact .inr (.inl z);exact .inr (.inr z))
    refine ⟨u,r,.inr ⟨qCF n2,?_⟩⟩
    rcases l with ⟨k,_⟩ | ⟨_,c,hc,o,ho,hd⟩
    ·have k':X.env.kindOf x=some .local:=k
     rcases hfr' with z | z
     ·have z':X.env.kindOf x=some .cell:=z
      rw [k'] at z';cases z'
     ·have z':X.env.kindOf x=some .free:=z
      rw [k'] at z';cases z'
    ·exact ⟨c,qCu S n2 hc,o,keep c o ho,hd⟩
 ·rcases qAo ow h with ⟨_,_,g,_⟩ | g
  ·exact ⟨none,g⟩
  ·obtain ⟨v,o,ho,hd⟩:=I.cell x c g
   exact ⟨v,o,keep c o ho,hd⟩
 ·show upd H₂ s₂.heap.objs.size (.lst []) C=none
  rw [qAH (Nat.ne_of_gt hC)]
  exact I.hok.fresh (Nat.le_of_lt hC)
 ·rcases qAo ow h with ⟨_,_,_,g⟩ | g
  ·rw [qAH (Nat.ne_of_gt (Nat.lt_trans hC g))]
   exact I.hok.fresh (Nat.le_of_lt (Nat.lt_trans hC g))
  ·rw [qAH (Nat.ne_of_lt (lt x c g))]
   exact I.freeC x c g
 ·show (inner src σ).length=N.length
  unfold inner
  rw [List.length_map,S.len]
theorem qDi (I:Inv X pins σ H₂ s₂) (f2:∀ b∈fp,qEB X pins H₂ b) {C:Addr} {pins':List (Addr×Obj)} {σ':St} {H':Hp} {s':Shared} {h':Heap} (hC:s₂.heap.objs.size<=C) (J:Inv (cxComp X scope C fp s₂ H₂ N) pins' σ' H' s')
  (kp:∀ b o,b≠C -> s'.heap.get? b=some o -> h'.get? b=some o):Inv X pins σ H' { s' with heap:=h' }:=by
 have neC:∀ b o,s₂.heap.get? b=some o -> b≠C:=fun b o e=>Nat.ne_of_lt (Nat.lt_of_lt_of_le (Heap.lt_size e) hC)
 have B:=J.base
 refine I.call' (s':={ s' with heap:=h' }) (ch:=fp) J.os ⟨fun b o e n hb hx=>kp b o (neC b o e) (B.keep b o e n hb hx),fun b o e n hb hx=>?_,B.free,fun b o e hx=>?_,B.tups,B.frzs,B.tbls⟩ (fun a o e=>?_) J.bare fun b hb=>⟨(f2 b hb).2.2.2.1,(f2 b hb).2.1,(f2 b hb).2.2.2.2⟩
 ·obtain ⟨sl,q⟩:=B.slot b o e n hb hx
  exact ⟨sl,kp b _ (neC b o e) q⟩
 ·obtain ⟨o',q⟩:=B.there b o e hx
  exact ⟨o',kp b o' (neC b o e) q⟩
 ·have nC:H' C=none:=J.free
  have ne:∀ b u,H' b=some u -> b≠C:=fun b u q z=>by rw [z,nC] at q;cases q
  refine (J.hok a o e).stay (fun c v hc q=>kp c v ?_ q) (fun _ q=>q) fun _ _ q=>q
  rcases hc with z | z
  ·rw [z];exact ne a o e
  ·exact ne c _ z
end
noncomputable def PTs (X:Cx) (ifs:List Expr) (t:TT):Prop:=
 ∀ (pins:List (Addr×Obj)) (s:Shared) (σ:St) (H:Hp) (Q:Bool -> Hp -> Prop),Inv X pins σ H s -> t σ H Q ->
  wpAny (model X.prog X.w) X.A (forIn ifs true fun c r=>if r=true then do let ok <- isTrue c X.env (eval c X.env);pure (ForInStep.yield ok) else pure (ForInStep.yield r)) (TP X pins σ Q) X.xe s
theorem pts_nil {X:Cx}:PTs X [] (fun _ H Q=>Q true H):=fun pins s σ H Q I h=>wpAny_pure ⟨H,I,h⟩
theorem pts_one {X:Cx} {c:Expr} {t:TT} (hc:PT X c t):PTs X [c] t:=by
 intro pins s σ H Q I h
 rw [List.forIn_cons]
 simp only [if_true]
 refine wpAny_bind (wpAny_bind (thn (hc pins s σ H Q I h) fun b s1 q=>?_))
 exact wpAny_pure (wpAny_pure q)
noncomputable def tComp (wi:TI) (src:List (Option Nat)) (g:TG) (tc:TT) (te:TE):TE:=fun σ H Q=>wi σ H fun J H1=>∀ D,H1 D=none ->
 ∃ W:Nat -> Nat -> List V -> St -> Hp -> Prop,(∃ m,W 0 m [] (inner src σ) (upd H1 D (.lst [])))/\∀ i m ys σ' H',W i m ys σ' H' -> H' D=some (.lst ys) ->
  (J.stop i H'/\Q (.ref D) H')\/
  (J.go i H'/\∀ x H2,J.yld i H' x H2 -> g x σ' H2 fun σ3 H3=>tc σ3 H3 fun b H4=>
   if b=true then te σ3 H4 fun y H5=>H5 D=some (.lst ys)/\ys.length < sizeLine/\∃ m',m' < m/\W (i + 1) m' (ys++[y]) σ3 (upd H5 D (.lst (ys++[y])))
   else H4 D=some (.lst ys)/\∃ m',m' < m/\W (i + 1) m' ys σ3 H4)
section
variable {X:Cx} {pins:List (Addr×Obj)} {σ:St} {H₂:Hp} {s₂:Shared} {scope:Scope} {N:List Str} {src:List (Option Nat)}
theorem qEe {M:Model} {A:Around} {E:Value -> Shared -> Prop} {s:Shared} {scope:Scope} {globals:Addr} {cl:List (Str×Addr)} {qual:Str} {env:Env} {Q:Env -> Shared -> Prop}
  (h:Q (newEnv scope s.heap.objs.size globals (cellsFrom (s.heap.objs.size + 1) scope.names cl) qual none .none (some env) builtinsNs) { s with heap:=pushCells (s.heap.push { cls:=.type "dict",data:=.dict #[] }) scope.names }):
  wpAny M A (newFunctionEnv scope globals cl [] qual none .none (some env)) Q E s:=by
 simp only [newFunctionEnv,Option.isSome_some,if_true]
 refine wpAny_bind (wpAny_alloc ?_)
 refine wpAny_bind (wpAny_layCells _ (fun name kind cells=>by cases hkc:kind==NameKind.cell<;>simp [hkc]) _ _ _ _ ?_)
 rw [show ({ s with heap:=s.heap.push { cls:=.type "dict",data:=.dict #[] } }:Shared).heap.objs.size=s.heap.objs.size + 1 from Heap.size_push ..]
 refine wpAny_bind ?_
 rw [List.forIn_nil]
 exact wpAny_pure (wpAny_pure h)
theorem qEs {elt tg iter:Expr} {ifs:List Expr} {pos:Pos} {g:TG} {tc:TT} {te:TE} {it:Addr} {fp:List Addr} {tn:Nat -> Heap -> Prop} {J:It} {Q:VK} {E:Value -> Shared -> Prop} {RR:Value -> Addr -> Result -> Shared -> Prop}
  (hc:X.calm=true) (S:CompScope X scope N src) (I2:Inv X pins σ H₂ s₂) (T:qFr X.prog X.w X.K tg J fp it tn) (st2:tn 0 s₂.heap) (f2:∀ b∈fp,qEB X pins H₂ b)
  (hg:∀ C fp s H,PG (cxComp X scope C fp s H N) tg g) (ht:∀ C fp s H,PTs (cxComp X scope C fp s H N) ifs tc) (he:∀ C fp s H,PE (cxComp X scope C fp s H N) elt te)
  (h:∀ D,H₂ D=none -> ∃ W:Nat -> Nat -> List V -> St -> Hp -> Prop,(∃ m,W 0 m [] (inner src σ) (upd H₂ D (.lst [])))/\∀ i m ys σ' H',W i m ys σ' H' -> H' D=some (.lst ys) ->
   (J.stop i H'/\Q (.ref D) H')\/
   (J.go i H'/\∀ x H2,J.yld i H' x H2 -> g x σ' H2 fun σ3 H3=>tc σ3 H3 fun b H4=>
    if b=true then te σ3 H4 fun y H5=>H5 D=some (.lst ys)/\ys.length < sizeLine/\∃ m',m' < m/\W (i + 1) m' (ys++[y]) σ3 (upd H5 D (.lst (ys++[y])))
    else H4 D=some (.lst ys)/\∃ m',m' < m/\W (i + 1) m' ys σ3 H4))
  (hRR:∀ (D C:Addr) (σ':St) (H':Hp) (s':Shared),s₂.heap.objs.size<=C -> Inv (cxComp X scope C fp s₂ H₂ N) [] σ' H' s' -> Q (.ref D) H' -> RR (.ref D) C (.ok .next) s'):
  wpAny (model X.prog X.w) X.A (newList []) (fun acc s₃=>wpAny (model X.prog X.w) X.A (newFunctionEnv scope X.env.globals (qFo X.env.cells scope.names []) [] X.env.qual none .none (some X.env)) (fun cenv s₄=>
   codeAny (model X.prog X.w) X.A (.compStart (.ListComp elt [⟨tg,iter,ifs,0⟩] scope pos) 0 (.ref it) acc { cenv with scope:=relabel scope X.env }) (RR acc cenv.locals) s₄) E s₃) E s₂:=by
 refine wpAny_newObj_type (qEe ?_)
 dsimp only
 generalize hH2:s₂.heap.push { cls:=.type "list",dict:=none,data:=.seq ([]:List Value).toArray }=P2
 have hC:P2.objs.size=s₂.heap.objs.size + 1:=by rw [<- hH2,Heap.size_push]
 have ow:=cellsFrom_ok scope.names (P2.push { cls:=.type "dict",data:=.dict #[] }) (P2.objs.size + 1) [] ⟨fun _ _ hm=>(nomatch hm),List.Pairwise.nil⟩ (by rw [Heap.size_push];exact Nat.le_refl _)
 rw [Heap.size_push] at ow
 generalize hh1:pushCells (P2.push { cls:=.type "dict",data:=.dict #[] }) scope.names=h₁ at ow ⊢
 have kp:∀ b o,P2.get? b=some o -> h₁.get? b=some o:=fun b o e=>hh1 ▸ pushCells_keeps _ _ b o (Heap.get?_push_of_some _ e)
 have hns₁:h₁.Ns P2.objs.size (fun _=>none):=hh1 ▸ (Heap.Ns.new P2 (.type "dict")).keeps (pushCells_keeps _ _)
 have old:∀ b o,s₂.heap.get? b=some o -> h₁.get? b=some o:=fun b o e=>kp b o (hH2 ▸ Heap.get?_push_of_some _ e)
 have hacc:h₁.get? s₂.heap.objs.size=some { cls:=.type "list",data:=.seq #[] }:=kp _ _ (hH2 ▸ Heap.get?_push_size _ rfl)
 have st1:tn 0 h₁:=T.keep _ _ _ st2 fun b _ o e=>old b o e
 have ob:=T.obj _ _ st2
 have lt:s₂.heap.objs.size < P2.objs.size:=by rw [hC];exact Nat.lt_succ_self _
 have I3:=qDe (tk:=s₂.toks) S I2 f2 ob lt old hacc hns₁ ow
 obtain ⟨W,⟨m0,w0⟩,step⟩:=h s₂.heap.objs.size I2.fresh
 have fpn:∀ b∈fp,b≠s₂.heap.objs.size:=fun b hb=>by
  obtain ⟨o,e,_⟩:=ob b hb
  exact Nat.ne_of_lt (Heap.lt_size e)
 have fok:∀ {pins':List (Addr×Obj)} {H':Hp},(∀ b∈fp,H' b=none) -> (∀ p∈pins',p.1∉fp) -> ∀ b∈fp,qEB (cxComp X scope P2.objs.size fp s₂ H₂ N) pins' H' b:=fun {pins' H'} hn hp b hb=>by
  have okc:=I3.ok
  exact ⟨hn b hb,(okc.exf b hb).1,okc.exfs b hb,.inl hb,(okc.exf b hb).2,fun p hp' z=>hp p (by simpa [cxComp] using hp') (z ▸ hb)⟩
 have loop:∀ s₃:Shared,s₃={ s₂ with heap:=h₁,toks:=s₂.toks } ->
   codeAny (model X.prog X.w) X.A (.compLoop (.ListComp elt [⟨tg,iter,ifs,0⟩] scope pos) 0 (.ref it) (.ref s₂.heap.objs.size) (compEnvC scope (qBP X scope P2.objs.size) P2.objs.size X.env))
    (RR (.ref s₂.heap.objs.size) P2.objs.size) s₃:=by
  rintro s₃ rfl
  refine codeAny_loop rfl (fun n s'=>∃ i ys σ' H',Inv (cxComp X scope P2.objs.size fp s₂ H₂ N) [] σ' H' s'/\tn i s'.heap/\(∀ b∈fp,H' b=none)/\H' s₂.heap.objs.size=some (.lst ys)/\W i n ys σ' H') (fun n s' hI=>?_) m0
   ⟨0,[],inner src σ,_,I3,st1,fun b hb=>by rw [qAH (fpn b hb)];exact (f2 b hb).1,qAO,w0⟩
  obtain ⟨i,ys,σ3,H3,J3,st3,fr3,hD3,w3⟩:=hI
  show wpAny _ X.A ((compTurn (.ListComp elt [⟨tg,iter,ifs,0⟩] scope pos) 0 (.ref it) (.ref s₂.heap.objs.size) _).onRaise (fun x=>do noteFrame x _;theTreesLotGoes x)) _ _ s'
  refine wpAny_noted ?_
  rw [compTurn_list]
  have never:∀ {α:Type} {t:Sem α} {Q1:α -> Shared -> Prop} {E1:Value -> Shared -> Prop} {s1:Shared},wpAny (model X.prog X.w) X.A t Q1 (fun _ _=>False) s1 -> wpAny (model X.prog X.w) X.A t Q1 E1 s1:=fun h=>wpAny_mono h (fun _ _ q=>q) fun _ _ f=>f.elim
  refine wpAny_bind (wpAny_standAt (wpAny_bind ?_))
  rcases step i n ys σ3 H3 w3 hD3 with ⟨stop,qn⟩ | ⟨go,qJP⟩
  ·refine never (thn (T.done (cxComp X scope P2.objs.size fp s₂ H₂ N) rfl rfl rfl hc i [] s' σ3 H3 _ J3 (fok fr3 (by simp)) st3 stop) fun r s4 ⟨hr,I4⟩=>?_)
   subst hr
   exact wpAny_pure (hRR _ _ σ3 H3 s4 (Nat.le_of_lt lt) I4 qn)
  ·refine never (thn (T.item (cxComp X scope P2.objs.size fp s₂ H₂ N) rfl rfl rfl hc i [] s' σ3 H3 _ J3 (fok fr3 (by simp)) st3 go) fun r s4 ⟨u,hr,h4⟩=>?_)
   subst hr
   refine wpAny_bind (never (thn h4 fun _ s5 ⟨x,H5,I5,r5,y5,st5,fr5⟩=>?_))
   have I5':=I5.pinned (fok fr5 (by simp)) (T.obj _ _ st5)
   have kept:∀ {σ7:St} {H7:Hp} {s7:Shared},Inv (cxComp X scope P2.objs.size fp s₂ H₂ N) ([]++qDx fp s5.heap) σ7 H7 s7 -> Inv (cxComp X scope P2.objs.size fp s₂ H₂ N) [] σ7 H7 s7/\tn (i + 1) s7.heap/\∀ b∈fp,H7 b=none:=fun {σ7 H7 s7} I7=>by
    refine ⟨I7.unpinned,T.keep _ _ _ st5 fun b hb o e=>(I7.pin (b,o) (List.mem_append_right _ (List.mem_append_right _ (qBY hb e)))).1,fun b hb=>?_⟩
    obtain ⟨o,e,d⟩:=T.obj _ _ st5 b hb
    exact (I7.pin (b,o) (List.mem_append_right _ (List.mem_append_right _ (qBY hb e)))).2.1
   refine wpAny_bind (never (thn (hg _ _ _ _ _ s5 σ3 H5 x u _ I5' r5 (qJP x H5 y5)) fun _ s6 ⟨σ6,H6,I6,q6⟩=>?_))
   refine wpAny_bind (never (thn (ht _ _ _ _ _ s6 σ6 H6 _ I6 q6) fun b s7 ⟨H7,I7,q7⟩=>?_))
   cases b with
   | false=>
    rw [if_neg (by decide)] at q7
    obtain ⟨hD7,m',hm,w7⟩:=q7
    obtain ⟨I7',st7,fr7⟩:=kept I7
    exact wpAny_pure ⟨rfl,m',hm,i + 1,ys,σ6,H7,I7',st7,fr7,hD7,w7⟩
   | true=>
    rw [if_pos rfl] at q7
    refine wpAny_bind (wpAny_bind (never (thn (he _ _ _ _ _ s7 σ6 H7 _ I7 q7) fun yv s8 ⟨y,H8,I8,r8,hD8,hz,m',hm,w8⟩=>?_)))
    refine wpAny_bind (never (thn (mt_append (X:=cxComp X scope P2.objs.size fp s₂ H₂ N) _ s8 σ6 H8 (.ref s₂.heap.objs.size) [y] _ [yv] (fun v H'=>v=.non/\H'=upd H8 s₂.heap.objs.size (.lst (ys++[y]))) I8 rfl (.cons r8 .nil) ⟨_,ys,y,rfl,rfl,hD8,hz,rfl,rfl⟩) fun _ s9 ⟨v9,H9,I9,_,_,e9⟩=>?_))
    subst e9
    obtain ⟨I9',st9,fr9⟩:=kept I9
    exact wpAny_pure (wpAny_pure ⟨rfl,m',hm,i + 1,_,σ6,_,I9',st9,fr9,qAO,w8⟩)
 exact codeAny_compStart_list (loop _ rfl) (T.self _ 0 _ _ _ st1 (loop _ rfl))
end
end L2
namespace L2
open PySem PySem.Spec PyProof.Rows
section
variable {X:Cx} {scope:Scope} {N:List Str} {src:List (Option Nat)} {elt tg iter:Expr} {ifs:List Expr} {pos:Pos} {wi:TI} {g:TG} {tc:TT} {te:TE}
theorem pe_comp (hc:X.calm=true) (hi:PI X tg iter wi) (S:CompScope X scope N src)
  (hg:∀ C fp s H,PG (cxComp X scope C fp s H N) tg g) (ht:∀ C fp s H,PTs (cxComp X scope C fp s H N) ifs tc) (he:∀ C fp s H,PE (cxComp X scope C fp s H N) elt te)
  (hs:∀ x,foldedSetIterable iter X.env x=pure x:=by intro _;rfl):PE X (.ListComp elt [⟨tg,iter,ifs,0⟩] scope pos) (tComp wi src g tc te):=by
 intro pins s σ H Q I h
 rw [eval_ListComp]
 refine wpAny_comprehension_free (use:=none) rfl hs (qBJ (S.cells I.ok)) S.kind S.names (thn (hi pins s σ H _ I h) fun v s1 h1=>thn h1 fun itv s2 h2=>?_)
 obtain ⟨it,fp,tn,J,H2,rfl,I2,T,st2,f2,hW⟩:=h2
 refine qEs (Q:=Q) (RR:=fun acc C=>compPost (model X.prog X.w) X.A X.xe none (EP X pins σ Q) acc C) hc S I2 T st2 f2 hg ht he hW ?_
 intro D C σ' H' s' hC J q
 obtain ⟨m,hn,_⟩:=id J.loc
 exact ⟨m,hn,fun h' hs'=>⟨.ref D,H',qDi I2 f2 hC J (fun b o hb e=>hs'.extBut b o hb e),rfl,q⟩⟩
theorem ps_setcomp {i:Nat} {x:Str} {pos' spos:Pos} (hc:X.calm=true) (hi:PI X tg iter wi) (S:CompScope X scope N src)
  (hg:∀ C fp s H,PG (cxComp X scope C fp s H N) tg g) (ht:∀ C fp s H,PTs (cxComp X scope C fp s H N) ifs tc) (he:∀ C fp s H,PE (cxComp X scope C fp s H N) elt te)
  (hsw:swapsWith (.ListComp elt [⟨tg,iter,ifs,0⟩] scope pos) (some (.Name x pos')) spos.line X.env=pure true)
  (hN:X.N.Nodup) (hx:X.N[i]?=some x) (hl:X.env.scope.names.lookup x=some .local)
  (hs:∀ x,foldedSetIterable iter X.env x=pure x:=by intro _;rfl):PS X (.Assign [.Name x pos'] (.ListComp elt [⟨tg,iter,ifs,0⟩] scope pos) spos) (tAsg (tComp wi src g tc te) (qKT i)):=by
 intro pins s σ H D I h
 rw [exec_Assign_Name_used _ _ _ _ hsw]
 refine wpAny_bind (wpAny_standAt (wpAny_bind ?_))
 show wpAny _ X.A (do let _ <- comprehension (.ListComp elt [⟨tg,iter,ifs,0⟩] scope pos) scope X.env _ (newList []) false (eval iter X.env) (some (assign (.Name x pos') X.env))) _ _ s
 refine wpAny_bind (wpAny_mono (wpAny_comprehension_free (use:=some (assign (.Name x pos') X.env)) (Q:=fun _ s'=>SP X pins D .next s') rfl hs (qBJ (S.cells I.ok)) S.kind S.names
  (thn (hi pins s σ H _ I h) fun v s1 h1=>thn h1 fun itv s2 h2=>?_)) (fun _ s' hq=>wpAny_pure (wpAny_pure hq)) fun _ _ e=>e)
 obtain ⟨it,fp,tn,J,H2,rfl,I2,T,st2,f2,hW⟩:=h2
 refine qEs (Q:=fun v H'=>D.nx (σ.set i (some v)) H') (RR:=fun acc C=>compPost (model X.prog X.w) X.A X.xe (some (assign (.Name x pos') X.env)) (fun _ s'=>SP X pins D .next s') acc C) hc S I2 T st2 f2 hg ht he hW ?_
 intro L C σ' H' s' hC J q
 obtain ⟨m,hn,_⟩:=id J.loc
 have I3:Inv X pins σ H' s':=qDi (h':=s'.heap) I2 f2 hC J (fun b o hb e=>e)
 show wpAny _ X.A (assign (.Name x pos') X.env (.ref L)) _ _ _
 have nL:X.env.locals≠C:=Nat.ne_of_lt (Nat.lt_of_lt_of_le I2.lt hC)
 refine wpAny_assign_Name (qEC I3 hN hx (.inl hl) (show RelV (.ref L) (.ref L) from rfl) (fun s4 I4 hsb=>?_) (.inr hl))
 obtain ⟨a,sb,ha⟩:=hsb
 have ha':a≠C:=by
  rcases ha with z | z
  ·rw [z];exact nL
  ·obtain ⟨v,hv⟩:=I2.cell x a z
   exact Nat.ne_of_lt (Nat.lt_of_lt_of_le hv.lt hC)
 refine ⟨m,hn.sameBut sb (Ne.symm ha'),fun h5 sb5=>?_⟩
 have I5:Inv X pins (σ.set i (some (V.ref L))) H' { s4 with heap:=h5,toks:=s4.toks }:=I4.turned (it:=C) (fun b o hb e=>sb5.extBut b o hb e) J.free (Ne.symm nL) (.inr (Nat.le_trans I2.sz hC)) (fun y c e z=>by
   obtain ⟨v,hv⟩:=I2.cell y c e
   exact absurd (Nat.lt_of_lt_of_le hv.lt (by rw [z];exact hC)) (Nat.lt_irrefl _)) fun p hp z=>absurd (Nat.lt_of_lt_of_le (Heap.lt_size (I2.pin p hp).1) (by rw [z];exact hC)) (Nat.lt_irrefl _)
 exact ⟨_,H',I5,q⟩
end
end L2
namespace PI
open L2 (V Key)
open PySem (Str)
inductive BOp | add | sub | mul | fdiv | mod | pow | band | shr | bxor
 deriving DecidableEq
inductive COp | lt | le | gt | ge | eq | ne | inn | notin | is | isnot
 deriving DecidableEq
inductive BF | len | sum | all | any | max | min | int | tuple | repr | bits
 deriving DecidableEq
inductive Tg | name (i:Nat) | tup (is:List Nat)
 deriving DecidableEq
mutual
inductive E
 | var (i:Nat) | cst (v:V) | glob (g:Nat)
 | bin (op:BOp) (a b:E) | neg (a:E)
 | cmp (op:COp) (a b:E) | cmp2 (o1 o2:COp) (a b c:E)
 | and (a b:E) | or (a b:E) | not (a:E)
 | call (f:Nat) (as:Es) | blt (f:BF) (as:Es) | isi (a:E) (ts:List String)
 | idx (a b:E) | sl (a:E) (lo hi:Es) | rev (a:E)  | lst (as:Es) | tup (as:Es)
 | comp (it:Itr) (src:List (Option Nat)) (g:Tg) (c:Es) (e:E)
 | app (a b:E) | lrng (a:E) | dnew
inductive Es | nil | cons (a:E) (as:Es)
inductive Itr | list (a:E) | rng1 (a:E) | rng2 (a b:E) | zip (a b:E)   | rng3 (a b:E)
end
mutual
inductive S
 | asg (g:Tg) (e:E)  | put (o i v:E)
 | expr (e:E) | ret (e:E)  | ifs (c:E) (t u:Ss)
 | for_ (g:Tg) (it:Itr) (b:Ss) | while_ (c:E) (b:Ss)    | stop
inductive Ss | nil | cons (s:S) (r:Ss)
end
inductive Ob | dct (kvs:List (Int×V)) | exn (c:Str)
 deriving DecidableEq
inductive O | lst (fz:Bool) (xs:List V) | tup (xs:List V) | ob (o:Ob)
 deriving DecidableEq
noncomputable abbrev AH:=List O
noncomputable abbrev St:=List (Option V)
inductive Res (α:Type) | ok (a:α) | exc (c:Nat) (h:AH) | stuck
noncomputable def Res.bind {α β:Type}:Res α -> (α -> Res β) -> Res β
 | .ok a,f=>f a
 | .exc c h,_=>.exc c h
 | .stuck,_=>.stuck
noncomputable def Res.nx {α:Type}:Res α -> Res α
 | .ok a=>.ok a
 | .exc _ _=>.stuck
 | .stuck=>.stuck
@[simp] theorem Res.bind_ok {α β:Type} (a:α) (f:α -> Res β):(Res.ok a).bind f=f a:=rfl
noncomputable abbrev RV:=Res (V×AH)
noncomputable def items (h:AH) (a:Nat):Option (List V):=match h[a]? with
 | some (.lst _ xs)=>some xs
 | some (.tup xs)=>some xs
 | _=>none
noncomputable def qAJ (h:AH) (a:Nat):Option (List V):=match h[a]? with
 | some (.lst _ xs)=>some xs
 | _=>none
noncomputable def qAU (h:AH) (a:Nat):Option (List V):=match h[a]? with
 | some (.tup xs)=>some xs
 | _=>none
noncomputable def qLv (h:AH) (a:Nat):Option (List (Int×V)):=match h[a]? with
 | some (.ob (.dct kvs))=>some kvs
 | _=>none
noncomputable def qKa (h:AH) (a:Nat):Option Str:=match h[a]? with
 | some (.ob (.exn c))=>some c
 | _=>none
noncomputable def qAw (h:AH) (a:Nat):Option (List V):=match h[a]? with
 | some (.lst false xs)=>some xs
 | _=>none
noncomputable def lim:Nat:=100000
noncomputable def newL (xs:List V) (h:AH):RV:=.ok (.ref h.length,h++[.lst false xs])
noncomputable def newT (xs:List V) (h:AH):RV:=.ok (.ref h.length,h++[.tup xs])
noncomputable def flat:V -> Bool
 | .non=>true | .bl _=>true | .int _=>true | .str _=>true | _=>false
noncomputable def eqF:V -> V -> Option Bool
 | .int i,.int j=>some (i==j)
 | .bl i,.bl j=>some (i==j)
 | .str i,.str j=>some (i==j)
 | .non,.non=>some true
 | .int i,.bl b=>some (i==(if b then 1 else 0))
 | .bl b,.int i=>some ((if b then 1 else 0)==i)
 | .non,.int _=>some false | .int _,.non=>some false
 | .non,.bl _=>some false | .bl _,.non=>some false
 | .non,.str _=>some false | .str _,.non=>some false
 | .int _,.str _=>some false | .str _,.int _=>some false
 | .bl _,.str _=>some false | .str _,.bl _=>some false
 | _,_=>none
noncomputable def qCm (f:V -> V -> Option Bool):List V -> List V -> Option (List Bool)
 | [],[]=>some []
 | x::xs,y::ys=>match f x y,qCm f xs ys with
  | some b,some bs=>some (b::bs)
  | _,_=>none
 | _,_=>none
noncomputable def eqD (h:AH):Nat -> V -> V -> Option Bool
 | 0,x,y=>eqF x y
 | n + 1,.ref a,.ref b=>match h[a]?,h[b]? with
  | some (.lst _ xs),some (.lst _ ys)=>if a=b then some true else if xs.length=ys.length then (qCm (eqD h n) xs ys).map fun bs=>bs.all id else some false
  | some (.tup xs),some (.tup ys)=>if a=b then some true else if xs.length=ys.length then (qCm (eqD h n) xs ys).map fun bs=>bs.all id else (qCm (eqD h n) (xs.take ys.length) (ys.take xs.length)).map fun _=>false
  | some (.lst _ _),some (.tup _)=>some false
  | some (.tup _),some (.lst _ _)=>some false
  | _,_=>none
 | _ + 1,.ref a,y=>if (items h a).isSome&&flat y then some false else none
 | _ + 1,x,.ref b=>if flat x&&(items h b).isSome then some false else none
 | _ + 1,x,y=>eqF x y
noncomputable abbrev ixN (n:Nat) (i:Int):Option Nat:=L2.ixN n i
noncomputable abbrev cut (xs:List V) (lo hi:Option Int):List V:=L2.cutV xs lo hi
noncomputable def two64:Int:=18446744073709551616
noncomputable def small (i:Int):Bool:=decide (-two64 < i/\i < two64)
noncomputable def mid (i:Int):Bool:=decide (i.natAbs.log2 < 9000)
noncomputable def qFm (x y:V) (f:Int -> Int -> RV):RV:=match x with
 | .int i=>(match y with | .int j=>f i j | _=>.stuck)
 | _=>.stuck
theorem qAl {x y:V} {f:Int -> Int -> RV} {r:V×AH} (e:qFm x y f=.ok r):∃ i j,x=.int i/\y=.int j/\f i j=.ok r:=by
 unfold qFm at e
 split at e
 ·split at e
  ·exact ⟨_,_,rfl,rfl,e⟩
  ·cases e
 ·cases e
noncomputable def qHv (x:V) (f:Nat -> RV):RV:=match x with
 | .ref a=>f a
 | _=>.stuck
theorem qBE {x:V} {f:Nat -> RV} {r:V×AH} (e:qHv x f=.ok r):∃ a,x=.ref a/\f a=.ok r:=by
 unfold qHv at e
 split at e
 ·exact ⟨_,rfl,e⟩
 ·cases e
noncomputable def qLU:BOp -> V -> V -> AH -> RV
 | .add,x,y,h=>(match x with
  | .ref a=>qHv y fun b=>(match qAw h a,qAw h b with
   | some xs,some ys=>if xs.length + ys.length<=lim then newL (xs++ys) h else .stuck
   | _,_=>(match qAU h a,qAU h b with
    | some xs,some ys=>if xs≠[]/\xs.length + ys.length<=lim then (if ys=[] then .ok (.ref a,h) else newT (xs++ys) h) else .stuck
    | _,_=>.stuck))
  | x=>qFm x y fun i j=>.ok (.int (i + j),h))
 | .sub,x,y,h=>qFm x y fun i j=>.ok (.int (i - j),h)
 | .mul,x,y,h=>(match x with
  | .ref a=>(match y with
   | .int k=>(match qAw h a with
    | some xs=>if 0<=k/\xs.length * k.toNat<=lim/\k < 1000000 then newL (List.replicate k.toNat xs).flatten h else .stuck
    | none=>.stuck)
   | _=>.stuck)
  | x=>qFm x y fun i j=>if small i||small j||(mid i&&mid j) then .ok (.int (i * j),h) else .stuck)
 | .fdiv,x,y,h=>qFm x y fun i j=>if 0 < j/\(j < 1073741824\/mid j=true) then .ok (.int (i / j),h) else if j < 0/\mid j=true then .ok (.int (i.fdiv j),h) else .stuck
 | .mod,x,y,h=>qFm x y fun i j=>if 0 < j then .ok (.int (i % j),h) else if j < 0 then .ok (.int (i.fmod j),h) else .stuck
 | .pow,x,y,h=>qFm x y fun i j=>if 0<=j/\j<=1000/\i.natAbs < 18446744073709551616 then .ok (.int (i ^ j.toNat),h) else .stuck
 | .band,x,y,h=>qFm x y fun i j=>.ok (.int (PySem.Builtin.bitAnd i j),h)
 | .shr,x,y,h=>qFm x y fun i j=>if 0<=j/\j<=1000 then .ok (.int (i / 2 ^ j.toNat),h) else .stuck
 | .bxor,x,y,h=>qFm x y fun i j=>.ok (.int (PySem.Builtin.bitXor i j),h)
noncomputable def qKF (x y:V) (f:Int -> Int -> Bool):Option Bool:=match x with
 | .int i=>(match y with | .int j=>some (f i j) | _=>none)
 | _=>none
theorem qCN {x y:V} {f:Int -> Int -> Bool} {r:Bool} (e:qKF x y f=some r):∃ i j,x=.int i/\y=.int j/\f i j=r:=by
 unfold qKF at e
 split at e
 ·split at e
  ·exact ⟨_,_,rfl,rfl,Option.some.inj e⟩
  ·cases e
 ·cases e
noncomputable def isC (x y:V) (f:Bool -> Bool):Option Bool:=match y with
 | .non=>some (f (decide (x=.non)))
 | .bl d=>(match x with | .bl c=>some (f (c==d)) | _=>none)
 | _=>none
theorem qGT {x y:V} {f:Bool -> Bool} {r:Bool} (e:isC x y f=some r):(y=.non/\f (decide (x=.non))=r)\/∃ c d,x=.bl c/\y=.bl d/\f (c==d)=r:=by
 unfold isC at e
 split at e
 ·exact .inl ⟨rfl,Option.some.inj e⟩
 ·split at e
  ·exact .inr ⟨_,_,rfl,rfl,Option.some.inj e⟩
  ·cases e
 ·cases e
noncomputable def qMH:COp -> V -> V -> AH -> Option Bool
 | .lt,x,y,_=>qKF x y fun i j=>decide (i < j)
 | .le,x,y,_=>qKF x y fun i j=>decide (i<=j)
 | .gt,x,y,_=>qKF x y fun i j=>decide (j < i)
 | .ge,x,y,_=>qKF x y fun i j=>decide (j<=i)
 | .eq,x,y,h=>eqD h 4 x y
 | .ne,x,y,h=>(eqD h 4 x y).map (!·)
 | .inn,_,_,_=>none
 | .notin,_,_,_=>none
 | .is,x,y,_=>isC x y id
 | .isnot,x,y,_=>isC x y (!·)
noncomputable def qKC (op:COp) (x y:V) (h:AH):RV:=match qMH op x y h with
 | some b=>.ok (.bl b,h)
 | none=>.stuck
noncomputable def qBe:List V -> Option (List Int)
 | []=>some []
 | .int i::r=>(qBe r).map (i::·)
 | _::_=>none
noncomputable def qBl:List V -> Option (List Bool)
 | []=>some []
 | .bl b::r=>(qBl r).map (b::·)
 | _::_=>none
noncomputable def qBO:List V -> Option (List Int)
 | []=>some []
 | .int i::r=>(qBO r).map (i::·)
 | .bl b::r=>(qBO r).map ((if b=true then 1 else 0)::·)
 | _::_=>none
noncomputable def qBb (lo:Int) (n:Nat):List V:=(List.range n).map fun (i:Nat)=>V.int (lo + (i:Int))
noncomputable def ins (x:Int):List Int -> List Int
 | []=>[x]
 | y::r=>if x<=y then x::y::r else y::ins x r
noncomputable def one (as:List V) (f:V -> RV):RV:=match as with
 | [a]=>f a
 | _=>.stuck
theorem qBM {as:List V} {f:V -> RV} {r:V×AH} (e:one as f=.ok r):∃ a,as=[a]/\f a=.ok r:=by
 unfold one at e
 split at e
 ·exact ⟨_,rfl,e⟩
 ·cases e
noncomputable def two (as:List V) (f:V -> V -> RV):RV:=match as with
 | [a,b]=>f a b
 | _=>.stuck
theorem two_inv {as:List V} {f:V -> V -> RV} {r:V×AH} (e:two as f=.ok r):∃ a b,as=[a,b]/\f a b=.ok r:=by
 unfold two at e
 split at e
 ·exact ⟨_,_,rfl,e⟩
 ·cases e
noncomputable def qHM:V -> Option PySem.PyData
 | .non=>some .none
 | .bl b=>some (.bool b)
 | .int i=>some (.int i)
 | .str x=>some (.str x)
 | _=>none
noncomputable def qEx (f:V -> Option PySem.PyData):List V -> Option (List PySem.PyData)
 | []=>some []
 | x::r=>(f x).bind fun d=>(qEx f r).map fun ds=>d::ds
noncomputable def dat (h:AH):Nat -> V -> Option PySem.PyData
 | 0,x=>qHM x
 | n + 1,x=>match x with
  | .ref a=>(match h[a]? with
   | some (.lst _ xs)=>(qEx (dat h n) xs).map .list
   | some (.tup xs)=>(qEx (dat h n) xs).map .tuple
   | _=>none)
  | y=>qHM y
noncomputable def qFa (d:PySem.PyData):Option V:=if d.showable=true/\d.shown.length<=PySem.sizeLine then some (.str d.shown) else none
noncomputable def qHK (h:AH) (x:V):Option PySem.PyData:=match x with
 | .ref a=>(match h[a]? with | some (.ob (.dct []))=>some (.dict []) | _=>dat h 3 (.ref a))
 | y=>qHM y
noncomputable def qKD (h:AH) (x:V):Option PySem.PyData:=match x with
 | .ref a=>(match h[a]? with | some (.tup xs)=>(qEx (qHK h) xs).map .tuple | some (.ob (.dct []))=>some (.dict []) | _=>dat h 4 (.ref a))
 | y=>qHM y
noncomputable def qMK (h:AH) (x:V):RV:=match (qKD h x).bind qFa with
 | some v=>.ok (v,h)
 | none=>.stuck
noncomputable def qMC:BF -> List V -> AH -> RV
 | .len,as,h=>one as fun x=>qHv x fun a=>(match items h a with | some xs=>.ok (.int xs.length,h) | none=>.stuck)
 | .sum,as,h=>one as fun x=>qHv x fun a=>(match qAJ h a with
  | some xs=>match qBO xs with | some is=>.ok (.int is.sum,h) | none=>.stuck
  | none=>.stuck)
 | .all,as,h=>one as fun x=>qHv x fun a=>(match qAJ h a with
  | some xs=>match qBl xs with | some bs=>.ok (.bl (bs.all id),h) | none=>.stuck
  | none=>.stuck)
 | .any,as,h=>one as fun x=>qHv x fun a=>(match qAJ h a with
  | some xs=>match qBl xs with | some bs=>.ok (.bl (bs.any id),h) | none=>.stuck
  | none=>.stuck)
 | .max,as,h=>two as fun x y=>qFm x y fun i j=>.ok (.int (if j > i then j else i),h)
 | .min,as,h=>two as fun x y=>qFm x y fun i j=>.ok (.int (if j < i then j else i),h)
 | .tuple,as,h=>one as fun x=>qHv x fun a=>(match h[a]? with | some (.lst _ xs)=>newT xs h | some (.tup _)=>.ok (.ref a,h) | _=>.stuck)
 | .int,as,h=>one as fun x=>(match x with | .int i=>.ok (.int i,h) | .bl b=>.ok (.int (if b then 1 else 0),h) | _=>.stuck)
 | .bits,as,h=>one as fun x=>(match x with | .int i=>.ok (.int ((PySem.Builtin.Int.intBits i:Nat):Int),h) | _=>.stuck)
 | .repr,as,h=>one as fun x=>qMK h x
noncomputable def qBK (h:AH):V -> Option String
 | .non=>some "NoneType"
 | .bl _=>some "bool"
 | .int _=>some "int"
 | .str _=>some "str"
 | .ref a=>match h[a]? with | some (.lst _ _)=>some "list" | some (.tup _)=>some "tuple" | some (.ob (.dct _))=>some "dict" | _=>none
 | _=>none
noncomputable def qAx (t c:String):Bool:=t==c||(t=="bool"&&c=="int")
inductive Src | list (a:Nat) | tupl (a:Nat) | rng (lo:Int) (n:Nat) | zip (a b:Nat) | enum (a:Nat) | rvd (a n:Nat) | rngd (lo:Int) (n:Nat)
noncomputable def qHB (h:AH):Src -> Option Nat
 | .list a=>(qAJ h a).map List.length
 | .tupl a=>(qAU h a).map List.length
 | .rng _ n=>some n
 | .zip a b=>match qAJ h a,qAJ h b with | some xs,some ys=>some (min xs.length ys.length) | _,_=>none
 | .enum a=>(qAJ h a).map List.length
 | .rvd _ n=>some n
 | .rngd _ n=>some n
noncomputable def qAa (h:AH) (i:Nat):Src -> Option (V×AH)
 | .list a=>match qAJ h a with | some xs=>xs[i]?.map fun x=>(x,h) | none=>none
 | .tupl a=>match qAU h a with | some xs=>xs[i]?.map fun x=>(x,h) | none=>none
 | .rng lo n=>if i < n then some (.int (lo + (i:Int)),h) else none
 | .zip a b=>match qAJ h a,qAJ h b with
  | some xs,some ys=>match xs[i]?,ys[i]? with | some x,some y=>some (.ref h.length,h++[.tup [x,y]]) | _,_=>none
  | _,_=>none
 | .enum a=>match qAJ h a with | some xs=>xs[i]?.map fun x=>(.ref h.length,h++[.tup [.int (i:Int),x]]) | none=>none
 | .rvd a n=>if i < n then (match qAJ h a with | some xs=>xs[n - 1 - i]?.map fun x=>(x,h) | none=>none) else none
 | .rngd lo n=>if i < n then some (.int (lo - (i:Int)),h) else none
noncomputable def qBc (h:AH) (i:Nat):Src -> Bool
 | .list a=>match qAJ h a with | some xs=>decide (xs.length<=i) | none=>false
 | .tupl a=>match qAU h a with | some xs=>decide (xs.length<=i) | none=>false
 | .rng _ n=>decide (n<=i)
 | .zip a b=>match qAJ h a,qAJ h b with | some xs,some ys=>decide (xs.length<=i\/ys.length<=i) | _,_=>false
 | .enum a=>match qAJ h a with | some xs=>decide (xs.length<=i) | none=>false
 | .rvd _ n=>decide (i=n)
 | .rngd _ n=>decide (n<=i)
noncomputable def qCw:List Nat -> List V -> St -> Option St
 | [],[],σ=>some σ
 | i::is,x::xs,σ=>qCw is xs (σ.set i (some x))
 | _,_,_=>none
noncomputable def store:Tg -> V -> St -> AH -> Option St
 | .name i,v,σ,_=>some (σ.set i (some v))
 | .tup is,.ref a,σ,h=>match qAU h a with | some xs=>qCw is xs σ | none=>none
 | .tup _,_,_,_=>none
noncomputable def qDp (s:Src) (g:Tg) (c:St -> AH -> Res (Bool×AH)) (e:St -> AH -> RV) (D:Nat):Nat -> Nat -> List V -> St -> AH -> RV
 | 0,i,_,_,h=>if qBc h i s then .ok (.ref D,h) else .stuck
 | n + 1,i,ys,σ,h=>match qAa h i s with
  | some (x,h1)=>match store g x σ h1 with
   | some σ1=>(c σ1 h1).bind fun (b,h2)=>
    if b then (e σ1 h2).bind fun (y,h3)=>if h3[D]?=some (.lst false ys)/\ys.length < lim then qDp s g c e D n (i + 1) (ys++[y]) σ1 (h3.set D (.lst false (ys++[y]))) else .stuck
    else if h2[D]?=some (.lst false ys) then qDp s g c e D n (i + 1) ys σ1 h2 else .stuck
   | none=>.stuck
  | none=>.stuck
noncomputable def asB (r:RV):Res (Bool×AH):=r.bind fun (v,h)=>match v with | .bl b=>.ok (b,h) | _=>.stuck
section
variable (F:Nat -> List V -> AH -> RV)
mutual
noncomputable def ev:E -> St -> AH -> RV
 | .var i=>fun σ h=>match σ[i]? with | some (some v)=>.ok (v,h) | _=>.stuck
 | .cst v=>fun _ h=>.ok (v,h)
 | .glob g=>fun _ h=>.ok (.ref g,h)
 | .bin op a b=>fun σ h=>(ev a σ h).bind fun (x,h1)=>(ev b σ h1).bind fun (y,h2)=>qLU op x y h2
 | .neg a=>fun σ h=>(ev a σ h).bind fun (x,h1)=>match x with | .int i=>.ok (.int (-i),h1) | _=>.stuck
 | .cmp op a b=>fun σ h=>(ev a σ h).bind fun (x,h1)=>(ev b σ h1).bind fun (y,h2)=>qKC op x y h2
 | .cmp2 o1 o2 a b c=>fun σ h=>(ev a σ h).bind fun (x,h1)=>(ev b σ h1).bind fun (y,h2)=>match qMH o1 x y h2 with
  | some true=>(ev c σ h2).bind fun (z,h3)=>qKC o2 y z h3
  | some false=>.ok (.bl false,h2)
  | none=>.stuck
 | .and a b=>fun σ h=>(asB (ev a σ h)).bind fun (x,h1)=>if x then ev b σ h1 else .ok (.bl false,h1)
 | .or a b=>fun σ h=>(asB (ev a σ h)).bind fun (x,h1)=>if x then .ok (.bl true,h1) else ev b σ h1
 | .not a=>fun σ h=>(asB (ev a σ h)).bind fun (x,h1)=>.ok (.bl (!x),h1)
 | .call f as=>fun σ h=>(evs as σ h).bind fun (xs,h1)=>(F f xs h1).nx
 | .blt f as=>fun σ h=>(evs as σ h).bind fun (xs,h1)=>qMC f xs h1
 | .isi a ts=>fun σ h=>(ev a σ h).bind fun (x,h1)=>match qBK h1 x with | some t=>.ok (.bl (ts.any (qAx t)),h1) | none=>.stuck
 | .idx a b=>fun σ h=>(ev a σ h).bind fun (x,h1)=>(ev b σ h1).bind fun (y,h2)=>match x,y with
  | .ref p,.int i=>match items h2 p with
   | some xs=>match (ixN xs.length i).bind fun j=>xs[j]? with | some v=>.ok (v,h2) | none=>.stuck
   | none=>.stuck
  | _,_=>.stuck
 | .rev a=>fun σ h=>(ev a σ h).bind fun (x,h1)=>qHv x fun p=>(match qAJ h1 p with | some xs=>newL xs.reverse h1 | none=>.stuck)
 | .sl a lo hi=>fun σ h=>(ev a σ h).bind fun (x,h1)=>(evs lo σ h1).bind fun (l,h2)=>(evs hi σ h2).bind fun (u,h3)=>
  match x,qBe l,qBe u with
  | .ref p,some l,some u=>match qAJ h3 p with
   | some xs=>newL (cut xs l.head? u.head?) h3
   | none=>match qAU h3 p with
    | some xs=>if HT.sIx xs.length 0 l.head?=0/\HT.sIx xs.length xs.length u.head?=xs.length then .stuck else newT (cut xs l.head? u.head?) h3
    | none=>.stuck
  | _,_,_=>.stuck
 | .lst as=>fun σ h=>(evs as σ h).bind fun (xs,h1)=>if xs.length<=lim then newL xs h1 else .stuck
 | .tup as=>fun σ h=>(evs as σ h).bind fun (xs,h1)=>if xs.length<=lim then newT xs h1 else .stuck
 | .comp it src g c e=>fun σ h=>(evi it σ h).bind fun (s,h1)=>match qHB (h1++[.lst false []]) s with
  | some n=>qDp s g (evc c) (ev e) h1.length n 0 [] (L2.inner src σ) (h1++[.lst false []])
  | none=>.stuck
 | .app a b=>fun σ h=>(ev a σ h).bind fun (x,h1)=>match x with
  | .ref p=>(match qAJ h1 p with
   | some _=>(ev b σ h1).bind fun (y,h2)=>match qAw h2 p with
    | some xs=>if xs.length < lim then .ok (.non,h2.set p (.lst false (xs++[y]))) else .stuck
    | none=>.stuck
   | none=>.stuck)
  | _=>.stuck
 | .lrng a=>fun σ h=>(ev a σ h).bind fun (x,h1)=>match x with | .int j=>if -1000000<=j/\j<=100000 then newL (qBb 0 j.toNat) h1 else .stuck | _=>.stuck
 | .dnew=>fun _ h=>.ok (.ref h.length,h++[.ob (.dct [])])
noncomputable def evs:Es -> St -> AH -> Res (List V×AH)
 | .nil=>fun _ h=>.ok ([],h)
 | .cons a as=>fun σ h=>(ev a σ h).bind fun (x,h1)=>(evs as σ h1).bind fun (xs,h2)=>.ok (x::xs,h2)
noncomputable def evc:Es -> St -> AH -> Res (Bool×AH)
 | .nil=>fun _ h=>.ok (true,h)
 | .cons a _=>fun σ h=>asB (ev a σ h)
noncomputable def evi:Itr -> St -> AH -> Res (Src×AH)
 | .list a=>fun σ h=>(ev a σ h).bind fun (x,h1)=>match x with | .ref p=>(match h1[p]? with | some (.lst _ _)=>.ok (.list p,h1) | some (.tup _)=>.ok (.tupl p,h1) | _=>.stuck) | _=>.stuck
 | .rng1 a=>fun σ h=>(ev a σ h).bind fun (x,h1)=>match x with | .int j=>if -1000000<=j/\j<=1000000 then .ok (.rng 0 j.toNat,h1) else .stuck | _=>.stuck
 | .rng2 a b=>fun σ h=>(ev a σ h).bind fun (x,h1)=>(ev b σ h1).bind fun (y,h2)=>match x,y with
  | .int i,.int j=>if (-1000000<=i/\i<=1000000)/\-1000000<=j/\j<=1000000 then .ok (.rng i (j - i).toNat,h2) else .stuck
  | _,_=>.stuck
 | .zip a b=>fun σ h=>(ev a σ h).bind fun (x,h1)=>(ev b σ h1).bind fun (y,h2)=>match x,y with
  | .ref p,.ref q=>match qAJ h2 p,qAJ h2 q with | some _,some _=>.ok (.zip p q,h2) | _,_=>.stuck
  | _,_=>.stuck
 | .rng3 a b=>fun σ h=>(ev a σ h).bind fun (x,h1)=>(ev b σ h1).bind fun (y,h2)=>match x,y with
  | .int i,.int j=>if (-1000000<=i/\i<=1000000)/\-1000000<=j/\j<=1000000 then .ok (.rngd i (i - j).toNat,h2) else .stuck
  | _,_=>.stuck
end
inductive Out | nx (σ:St) | rt (v:V) | bk (σ:St) | ct (σ:St)
noncomputable abbrev RS:=Res (Out×AH)
noncomputable def qHP (s:Src) (g:Tg) (b:St -> AH -> RS):Nat -> Nat -> St -> AH -> RS
 | 0,i,σ,h=>if qBc h i s then .ok (.nx σ,h) else .stuck
 | n + 1,i,σ,h=>match qAa h i s with
  | some (x,h1)=>match store g x σ h1 with
   | some σ1=>(b σ1 h1).bind fun (o,h2)=>match o with
    | .nx σ2=>qHP s g b n (i + 1) σ2 h2
    | .ct σ2=>qHP s g b n (i + 1) σ2 h2
    | .bk σ2=>.ok (.nx σ2,h2)
    | .rt v=>.ok (.rt v,h2)
   | none=>.stuck
  | none=>.stuck
noncomputable def qBo (c:St -> AH -> Res (Bool×AH)) (b:St -> AH -> RS):Nat -> St -> AH -> RS
 | 0,_,_=>.stuck
 | n + 1,σ,h=>(c σ h).bind fun (t,h1)=>if t then (b σ h1).bind fun (o,h2)=>match o with
   | .nx σ2=>qBo c b n σ2 h2
   | .ct σ2=>qBo c b n σ2 h2
   | .bk σ2=>.ok (.nx σ2,h2)
   | .rt v=>.ok (.rt v,h2)
  else .ok (.nx σ,h1)
noncomputable def qJO:Nat:=1000000
mutual
noncomputable def ex:S -> St -> AH -> RS
 | .asg g e=>fun σ h=>(ev F e σ h).bind fun (x,h1)=>match store g x σ h1 with | some σ1=>.ok (.nx σ1,h1) | none=>.stuck
 | .put o i v=>fun σ h=>(ev F v σ h).bind fun (x,h1)=>(ev F o σ h1).bind fun (p,h2)=>(ev F i σ h2).bind fun (k,h3)=>match p,k with
  | .ref a,.int k=>match qAw h3 a with
   | some xs=>match ixN xs.length k with | some j=>.ok (.nx σ,h3.set a (.lst false (xs.set j x))) | none=>.stuck
   | none=>.stuck
  | _,_=>.stuck
 | .expr e=>fun σ h=>(ev F e σ h).bind fun (_,h1)=>.ok (.nx σ,h1)
 | .ret e=>fun σ h=>(ev F e σ h).bind fun (x,h1)=>.ok (.rt x,h1)
 | .ifs c t u=>fun σ h=>(asB (ev F c σ h)).bind fun (x,h1)=>if x then exs t σ h1 else exs u σ h1
 | .for_ g it b=>fun σ h=>(evi F it σ h).bind fun (s,h1)=>match qHB h1 s with
  | some n=>qHP s g (exs b) n 0 σ h1
  | none=>.stuck
 | .while_ c b=>fun σ h=>qBo (fun σ h=>asB (ev F c σ h)) (exs b) qJO σ h
 | .stop=>fun _ _=>.stuck
noncomputable def exs:Ss -> St -> AH -> RS
 | .nil=>fun σ h=>.ok (.nx σ,h)
 | .cons s r=>fun σ h=>(ex s σ h).bind fun (o,h1)=>match o with
  | .nx σ1=>exs r σ1 h1
  | o=>.ok (o,h1)
end
end
structure Fn where
 npar:Nat
 nslot:Nat
 body:Ss
noncomputable def Fk (tb:List Fn):Nat -> Nat -> List V -> AH -> RV
 | 0,_,_,_=>.stuck
 | k + 1,f,vs,h=>match tb[f]? with
  | some d=>if vs.length=d.npar/\d.npar<=d.nslot then (exs (Fk tb k) d.body (vs.map some++List.replicate (d.nslot - d.npar) none) h).bind fun (o,h1)=>match o with
    | .nx _=>.ok (.non,h1)
    | .rt v=>.ok (v,h1)
    | _=>.stuck
   else .stuck
  | none=>.stuck
end PI
namespace PI
open PySem PySem.Spec PyProof.Rows
open L2 (V Hp HO Cx PE PT PA PS PSs TE TT TA TS VK upd qAO qAH SqL SqT qFH)
noncomputable def rv (φ:List Addr):V -> V -> Prop
 | .ref i,.ref a=>φ[i]?=some a
 | .non,.non=>True
 | .bl b,.bl c=>b=c
 | .int i,.int j=>i=j
 | .str x,.str y=>x=y
 | _,_=>False
noncomputable abbrev rvs (φ:List Addr):List V -> List V -> Prop:=Paired (rv φ)
noncomputable def ropt (φ:List Addr):Option V -> Option V -> Prop
 | some v,oc=>∃ w,oc=some w/\rv φ v w
 | none,_=>True
noncomputable abbrev rst (φ:List Addr):St -> St -> Prop:=Paired (ropt φ)
noncomputable def Ext (φ φ':List Addr):Prop:=∃ r,φ'=φ++r
theorem Ext.refl (φ:List Addr):Ext φ φ:=⟨[],by simp⟩
theorem Ext.trans {a b c:List Addr} (h:Ext a b) (g:Ext b c):Ext a c:=by
 obtain ⟨r,rfl⟩:=h
 obtain ⟨q,rfl⟩:=g
 exact ⟨r++q,by simp⟩
theorem Ext.get {φ φ':List Addr} (x:Ext φ φ') {i:Nat} {a:Addr} (h:φ[i]?=some a):φ'[i]?=some a:=by
 obtain ⟨r,rfl⟩:=x
 rw [List.getElem?_append_left (List.getElem?_eq_some_iff.mp h).1]
 exact h
theorem rv.mono {φ φ':List Addr} (x:Ext φ φ'):∀ {v w:V},rv φ v w -> rv φ' v w
 | .ref i,.ref a,h=>x.get h
 | .non,.non,h=>h
 | .bl _,.bl _,h=>h
 | .int _,.int _,h=>h
 | .str _,.str _,h=>h
 | .byt _,_,h=>by cases h
 | .flt _,_,h=>by cases h
 | .ty _,_,h=>by cases h
theorem rvs.mono {φ φ':List Addr} (x:Ext φ φ') {vs ws:List V} (h:rvs φ vs ws):rvs φ' vs ws:=L2.Paired.mapP h fun _ _ r=>rv.mono x r
theorem ropt.mono {φ φ':List Addr} (x:Ext φ φ'):∀ {v w:Option V},ropt φ v w -> ropt φ' v w
 | some v,oc,h=>by obtain ⟨w,e,r⟩:=h;exact ⟨w,e,rv.mono x r⟩
 | none,_,_=>trivial
theorem rst.mono {φ φ':List Addr} (x:Ext φ φ') {σ τ:St} (h:rst φ σ τ):rst φ' σ τ:=L2.Paired.mapP h fun _ _ r=>ropt.mono x r
theorem qAG {α β:Type} {R:α -> β -> Prop}:∀ {xs:List α} {ys:List β} {i:Nat} {x:α},Paired R xs ys -> xs[i]?=some x -> ∃ y,ys[i]?=some y/\R x y
 | _,_,_,_,.nil,e=>by simp at e
 | _,_,0,_,.cons r _,e=>by simp at e;subst e;exact ⟨_,rfl,r⟩
 | _,_,i + 1,x,.cons _ t,e=>by
  obtain ⟨u,h1,h2⟩:=qAG (i:=i) (x:=x) t (by simpa using e)
  exact ⟨u,by simpa using h1,h2⟩
theorem qA7 {α β:Type} {R:α -> β -> Prop} {x:α} {u:β} (r:R x u):∀ {xs:List α} {us:List β} (i:Nat),Paired R xs us -> Paired R (xs.set i x) (us.set i u)
 | _,_,_,.nil=>.nil
 | _,_,0,.cons _ t=>.cons r t
 | _,_,i + 1,.cons q t=>.cons q (qA7 r i t)
theorem qAP {α β:Type} {R:α -> β -> Prop}:∀ {xs ys:List α} {us ws:List β},Paired R xs us -> Paired R ys ws -> Paired R (xs++ys) (us++ws)
 | _,_,_,_,.nil,s=>s
 | _,_,_,_,.cons r t,s=>.cons r (qAP t s)
theorem qBC {α β:Type} {R:α -> β -> Prop}:∀ {xs:List α} {us:List β} (n:Nat),Paired R xs us -> Paired R (xs.take n) (us.take n)
 | _,_,0,_=>.nil
 | _,_,_ + 1,.nil=>.nil
 | _,_,n + 1,.cons r t=>.cons r (qBC n t)
theorem qCV {α β:Type} {R:α -> β -> Prop}:∀ {xs:List α} {us:List β} (n:Nat),Paired R xs us -> Paired R (xs.drop n) (us.drop n)
 | _,_,0,r=>r
 | _,_,_ + 1,.nil=>.nil
 | _,_,n + 1,.cons _ t=>qCV n t
theorem qCr {α β:Type} {R:α -> β -> Prop} {xs:List α} {us:List β} (h:Paired R xs us):∀ k:Nat,Paired R (List.replicate k xs).flatten (List.replicate k us).flatten
 | 0=>.nil
 | k + 1=>by
  rw [List.replicate_succ,List.replicate_succ,List.flatten_cons,List.flatten_cons]
  exact qAP h (qCr h k)
noncomputable def kk (p:Int×V):L2.Key×V:=(.inl p.1,p.2)
noncomputable def O.mu:O -> Bool
 | .lst false _=>true | .ob (.dct _)=>true | _=>false
noncomputable def exP (a C:Addr):Heap -> Prop:=fun h=>∃ o,h.get? a=some o/\o.cls=.ref C
noncomputable def ro (K:PySem.W.Frag) (φ:List Addr) (H:Hp) (a:Addr):O -> Prop
 | .lst false xs=>∃ ys,H a=some (.lst ys)/\rvs φ xs ys
 | .lst true xs=>∃ ys,((∃ o,H a=some (.frz o (.lst ys)))\/SqL K (fun _=>none) a ys)/\rvs φ xs ys
 | .tup xs=>∃ ys,SqT K H a ys/\rvs φ xs ys
 | .ob (.dct kvs)=>H a=some (.dK (kvs.map kk))
 | .ob (.exn x)=>∃ C,PySem.W.nsIn K mainGlobals x=some (some (.ref C))/\H a=some (.ext (exP a C))
structure Rl (K:PySem.W.Frag) (G:List Addr) (φ:List Addr) (h:AH) (H:Hp):Prop where
 len:φ.length=h.length
 glob:Ext G φ
 obj:∀ (i:Nat) o a,h[i]?=some o -> φ[i]?=some a -> ro K φ H a o
 inj:∀ (i j:Nat) x y a,x.mu=true -> y.mu=true -> h[i]?=some x -> h[j]?=some y -> φ[i]?=some a -> φ[j]?=some a -> i=j
section
variable {K:PySem.W.Frag} {G φ φ':List Addr} {h:AH} {H H':Hp} {a b p:Addr}
theorem qHS {xs:List V} (s:qFH H H') (q:SqT K H a xs):SqT K H' a xs:=by
 rcases q with (h | ⟨o,h⟩) | h
 ·exact .inl (.inl (s _ _ h))
 ·exact .inl (.inr ⟨o,s _ _ h⟩)
 ·exact .inr h
theorem qH2 {xs:List V} (q:SqL K (fun _=>none) a xs):SqL K H a xs:=by
 rcases q with (h | ⟨o,h⟩) | h
 ·cases h
 ·cases h
 ·exact .inr h
theorem qDW {o:HO} (hp:H p=none):qFH H (upd H p o):=fun b u e=>by rw [qAH (L2.ne_of_none e hp)];exact e
theorem ro.keep {o:O} (x:Ext φ φ') (s:qFH H H') (r:ro K φ H a o):ro K φ' H' a o:=by
 match o,r with
 | .lst false xs,⟨ys,e,r⟩=>exact ⟨ys,s _ _ e,rvs.mono x r⟩
 | .lst true xs,⟨ys,.inl ⟨o,e⟩,r⟩=>exact ⟨ys,.inl ⟨o,s _ _ e⟩,rvs.mono x r⟩
 | .lst true xs,⟨ys,.inr e,r⟩=>exact ⟨ys,.inr e,rvs.mono x r⟩
 | .tup xs,⟨ys,e,r⟩=>exact ⟨ys,qHS s e,rvs.mono x r⟩
 | .ob (.dct _),e=>exact s _ _ e
 | .ob (.exn _),⟨C,e1,e2⟩=>exact ⟨C,e1,s _ _ e2⟩
noncomputable def Wr (w:HO):Prop:=(∃ zs,w=.lst zs)\/∃ ks,w=.dK ks
theorem ro.wr {o:O} (m:o.mu=true) (r:ro K φ H a o):∃ w,H a=some w/\Wr w:=by
 match o,m,r with
 | .lst false xs,_,⟨ys,e,r⟩=>exact ⟨_,e,.inl ⟨_,rfl⟩⟩
 | .ob (.dct _),_,e=>exact ⟨_,e,.inr ⟨_,rfl⟩⟩
theorem Wr.ne {w v:HO} (h:Wr w) (e:H a=some v) (hb:H b=some w) (h1:∀ zs,v≠.lst zs) (h2:∀ ks,v≠.dK ks):a≠b:=fun z=>by
 subst z
 rw [e] at hb;cases hb
 rcases h with ⟨zs,rfl⟩ | ⟨ks,rfl⟩
 ·exact h1 _ rfl
 ·exact h2 _ rfl
theorem ro.other {o:O} {w w':HO} (hw:Wr w) (hb:H b=some w) (hne:o.mu=true -> a≠b) (r:ro K φ H a o):ro K φ (upd H b w') a o:=by
 match o,r with
 | .lst false xs,⟨ys,e,r⟩=>exact ⟨ys,by rw [qAH (hne rfl)];exact e,r⟩
 | .lst true xs,⟨ys,.inl ⟨o,e⟩,r⟩=>exact ⟨ys,.inl ⟨o,by rw [qAH (hw.ne e hb (fun _ z=>by cases z) (fun _ z=>by cases z))];exact e⟩,r⟩
 | .lst true xs,⟨ys,.inr e,r⟩=>exact ⟨ys,.inr e,r⟩
 | .tup xs,⟨ys,e,r⟩=>
  refine ⟨ys,?_,r⟩
  rcases e with (h | ⟨o,h⟩) | h
  ·exact .inl (.inl (by rw [qAH (hw.ne h hb (fun _ z=>by cases z) (fun _ z=>by cases z))];exact h))
  ·exact .inl (.inr ⟨o,by rw [qAH (hw.ne h hb (fun _ z=>by cases z) (fun _ z=>by cases z))];exact h⟩)
  ·exact .inr h
 | .ob (.dct _),e=>exact (by show upd H b _ a=_;rw [qAH (hne rfl)];exact e)
 | .ob (.exn _),⟨C,e1,e2⟩=>exact ⟨C,e1,by rw [qAH (hw.ne e2 hb (fun _ z=>by cases z) (fun _ z=>by cases z))];exact e2⟩
theorem Rl.at (R:Rl K G φ h H) {i:Nat} {o:O} (e:h[i]?=some o):∃ a,φ[i]?=some a/\ro K φ H a o:=by
 have hi:i < φ.length:=by rw [R.len];exact (List.getElem?_eq_some_iff.mp e).1
 exact ⟨φ[i],List.getElem?_eq_getElem hi,R.obj i o _ e (List.getElem?_eq_getElem hi)⟩
theorem Rl.new (R:Rl K G φ h H) (hp:H p=none) {o:O} {ob:HO} (n:ro K (φ++[p]) (upd H p ob) p o):Rl K G (φ++[p]) (h++[o]) (upd H p ob):=by
 have x:Ext φ (φ++[p]):=⟨[p],rfl⟩
 refine ⟨by simp [R.len],R.glob.trans x,fun i u a e1 e2=>?_,fun i j xs ys a m1 m2 e1 e2 e3 e4=>?_⟩
 ·by_cases hi:i < h.length
  ·rw [List.getElem?_append_left hi] at e1
   rw [List.getElem?_append_left (by rw [R.len];exact hi)] at e2
   exact (R.obj i u a e1 e2).keep x (qDW hp)
  ·have hi':i=h.length:=by
    have:=(List.getElem?_eq_some_iff.mp e1).1
    simp at this
    omega
   subst hi'
   simp at e1
   rw [<- R.len] at e2
   simp at e2
   subst e1 e2
   exact n
 ·have lt:∀ {k:Nat} {z:O},(h++[o])[k]?=some z -> (h[k]?=some z/\k < h.length)\/k=h.length:=fun {k zs} e=>by
   by_cases hk:k < h.length
   ·rw [List.getElem?_append_left hk] at e
    exact .inl ⟨e,hk⟩
   ·have:=(List.getElem?_eq_some_iff.mp e).1
    simp at this
    exact .inr (by omega)
  have old:∀ {k:Nat} {b:Addr},k < h.length -> (φ++[p])[k]?=some b -> φ[k]?=some b:=fun {k b} hk e=>by
   rwa [List.getElem?_append_left (by rw [R.len];exact hk)] at e
  have newA:∀ {b:Addr},(φ++[p])[h.length]?=some b -> b=p:=fun {b} e=>by
   rw [<- R.len] at e
   simp at e
   exact e.symm
  rcases lt e1 with ⟨e1,h1⟩ | rfl<;>rcases lt e2 with ⟨e2,h2⟩ | rfl
  ·exact R.inj i j xs ys a m1 m2 e1 e2 (old h1 e3) (old h2 e4)
  ·have ea:=newA e4
   subst ea
   obtain ⟨w,hz,_⟩:=(R.obj i _ a e1 (old h1 e3)).wr m1
   rw [hp] at hz;cases hz
  ·have ea:=newA e3
   subst ea
   obtain ⟨w,hz,_⟩:=(R.obj j _ a e2 (old h2 e4)).wr m2
   rw [hp] at hz;cases hz
  ·rfl
theorem Rl.more (R:Rl K G φ h H) (hp:H p=none) {ob:HO}:Rl K G φ h (upd H p ob):=
 ⟨R.len,R.glob,fun i u a e1 e2=>(R.obj i u a e1 e2).keep (Ext.refl _) (qDW hp),R.inj⟩
theorem Rl.exn (R:Rl K G φ h H) {i:Nat} {x:Str} (e:qKa h i=some x):∃ a C,φ[i]?=some a/\PySem.W.nsIn K mainGlobals x=some (some (.ref C))/\H a=some (.ext (exP a C)):=by
 unfold qKa at e
 split at e
 ·rename_i c q
  cases e
  obtain ⟨a,ea,C,r1,r2⟩:=R.at q
  exact ⟨a,C,ea,r1,r2⟩
 ·cases e
theorem Rl.newL (R:Rl K G φ h H) (hp:H p=none) {xs ys:List V} (r:rvs φ xs ys):Rl K G (φ++[p]) (h++[.lst false xs]) (upd H p (.lst ys)):=
 R.new hp ⟨ys,qAO,rvs.mono ⟨[p],rfl⟩ r⟩
theorem Rl.newT (R:Rl K G φ h H) (hp:H p=none) {xs ys:List V} (r:rvs φ xs ys):Rl K G (φ++[p]) (h++[.tup xs]) (upd H p (.tup ys)):=
 R.new hp ⟨ys,.inl (.inl qAO),rvs.mono ⟨[p],rfl⟩ r⟩
theorem Rl.lastRef (R:Rl K G φ h H):(φ++[p])[h.length]?=some p:=by rw [<- R.len];simp
theorem Rl.write (R:Rl K G φ h H) {i:Nat} {x y:O} {w':HO} (mx:x.mu=true) (my:y.mu=true) (e:h[i]?=some x) (ea:φ[i]?=some a) (n:ro K φ (upd H a w') a y):Rl K G φ (h.set i y) (upd H a w'):=by
 have hi:=(List.getElem?_eq_some_iff.mp e).1
 obtain ⟨w,hw,ww⟩:=(R.obj i _ a e ea).wr mx
 have lk:∀ {k:Nat} {z:O},z.mu=true -> (h.set i y)[k]?=some z -> ∃ z',z'.mu=true/\h[k]?=some z':=fun {k zs} m q=>by
  by_cases hk:k=i
  ·subst hk;exact ⟨x,mx,e⟩
  ·rw [List.getElem?_set_ne (Ne.symm hk)] at q;exact ⟨zs,m,q⟩
 refine ⟨by simp [R.len],R.glob,fun k u b e1 e2=>?_,fun k l us vs b m1 m2 e1 e2 e3 e4=>?_⟩
 ·by_cases hk:k=i
  ·subst hk
   rw [List.getElem?_set_self hi] at e1
   rw [ea] at e2
   cases e1
   cases e2
   exact n
  ·rw [List.getElem?_set_ne (Ne.symm hk)] at e1
   refine (R.obj k u b e1 e2).other ww hw fun mu hb=>?_
   subst hb
   exact hk (R.inj k i u x b mu mx e1 e e2 ea)
 ·obtain ⟨z1,n1,q1⟩:=lk m1 e1
  obtain ⟨z2,n2,q2⟩:=lk m2 e2
  exact R.inj k l z1 z2 b n1 n2 q1 q2 e3 e4
theorem Rl.set (R:Rl K G φ h H) {i:Nat} {xs ys zs:List V} (e:h[i]?=some (.lst false xs)) (ea:φ[i]?=some a) (r:rvs φ ys zs):Rl K G φ (h.set i (.lst false ys)) (upd H a (.lst zs)):=
 R.write rfl rfl e ea ⟨zs,qAO,r⟩
theorem Rl.dct (R:Rl K G φ h H) {i:Nat} {kvs:List (Int×V)} (e:qLv h i=some kvs):∃ a,φ[i]?=some a/\h[i]?=some (.ob (.dct kvs))/\H a=some (.dK (kvs.map kk)):=by
 unfold qLv at e
 split at e
 ·rename_i zs q
  cases e
  obtain ⟨a,ea,r⟩:=R.at q
  exact ⟨a,ea,q,r⟩
 ·cases e
theorem Rl.lst (R:Rl K G φ h H) {i:Nat} {xs:List V} (e:qAJ h i=some xs):∃ a ys,φ[i]?=some a/\SqL K H a ys/\rvs φ xs ys:=by
 unfold qAJ at e
 split at e
 ·rename_i fz zs q
  cases e
  obtain ⟨a,ea,r⟩:=R.at q
  cases fz with
  | false=>obtain ⟨ys,e,r⟩:=r;exact ⟨a,ys,ea,.inl (.inl e),r⟩
  | true=>
   obtain ⟨ys,e,r⟩:=r
   rcases e with ⟨o,e⟩ | e
   ·exact ⟨a,ys,ea,.inl (.inr ⟨o,e⟩),r⟩
   ·exact ⟨a,ys,ea,qH2 e,r⟩
 ·cases e
theorem Rl.tup (R:Rl K G φ h H) {i:Nat} {xs:List V} (e:qAU h i=some xs):∃ a ys,φ[i]?=some a/\SqT K H a ys/\rvs φ xs ys:=by
 unfold qAU at e
 split at e
 ·rename_i zs q
  cases e
  obtain ⟨a,ea,ys,e,r⟩:=R.at q
  exact ⟨a,ys,ea,e,r⟩
 ·cases e
theorem Rl.mut (R:Rl K G φ h H) {i:Nat} {xs:List V} (e:qAw h i=some xs):h[i]?=some (.lst false xs)/\∃ a ys,φ[i]?=some a/\H a=some (.lst ys)/\rvs φ xs ys:=by
 unfold qAw at e
 split at e
 ·rename_i zs q
  cases e
  obtain ⟨a,ea,ys,e,r⟩:=R.at q
  exact ⟨q,a,ys,ea,e,r⟩
 ·cases e
theorem Rl.its (R:Rl K G φ h H) {i:Nat} {xs:List V} (e:items h i=some xs):∃ a ys,φ[i]?=some a/\(SqL K H a ys\/SqT K H a ys)/\rvs φ xs ys:=by
 unfold items at e
 split at e
 ·rename_i fz zs q
  cases e
  obtain ⟨a,ys,h1,h2,h3⟩:=R.lst (i:=i) (xs:=xs) (by unfold qAJ;rw [q])
  exact ⟨a,ys,h1,.inl h2,h3⟩
 ·rename_i zs q
  cases e
  obtain ⟨a,ys,h1,h2,h3⟩:=R.tup (i:=i) (xs:=xs) (by unfold qAU;rw [q])
  exact ⟨a,ys,h1,.inr h2,h3⟩
 ·cases e
end
end PI
namespace PI
open PySem PySem.Spec PyProof.Rows
open L2 (V Hp HO Cx PE PT PA PS PSs PG TE TT TA TS VK upd qAO qAH SqL SqT qFH Inv RelV Vals EP TP AP SP OpR qA6 R2)
theorem Res.bind_inv {α β:Type} {r:Res α} {f:α -> Res β} {x:β} (h:r.bind f=.ok x):∃ a,r=.ok a/\f a=.ok x:=by
 cases r with
 | ok a=>exact ⟨a,rfl,h⟩
 | exc c h'=>cases h
 | stuck=>cases h
theorem qAB {φ:List Addr} {i:Int} {w:V} (h:rv φ (.int i) w):w=.int i:=by
 cases w with
 | int j=>exact congrArg V.int (show i=j from h).symm
 | _=>exact False.elim h
theorem qAu {φ:List Addr} {i:Bool} {w:V} (h:rv φ (.bl i) w):w=.bl i:=by
 cases w with
 | bl j=>exact congrArg V.bl (show i=j from h).symm
 | _=>exact False.elim h
theorem qA0 {φ:List Addr} {i:Str} {w:V} (h:rv φ (.str i) w):w=.str i:=by
 cases w with
 | str j=>exact congrArg V.str (show i=j from h).symm
 | _=>exact False.elim h
theorem qAr {φ:List Addr} {w:V} (h:rv φ .non w):w=.non:=by
 cases w with
 | non=>rfl
 | _=>exact False.elim h
theorem qAN {φ:List Addr} {i:Nat} {w:V} (h:rv φ (.ref i) w):∃ a,w=.ref a/\φ[i]?=some a:=by
 cases w with
 | ref j=>exact ⟨j,rfl,h⟩
 | _=>exact False.elim h
section
variable (K:PySem.W.Frag) (G:List Addr) (F:Nat -> List V -> AH -> RV)
noncomputable def tE (e:E):TE:=fun σc H Q=>∃ φ h σ v h',Rl K G φ h H/\rst φ σ σc/\ev F e σ h=.ok (v,h')/\∀ φ' H' w,Ext φ φ' -> Rl K G φ' h' H' -> rv φ' v w -> Q w H'
noncomputable def tB (r:St -> AH -> Res (Bool×AH)):TT:=fun σc H Q=>∃ φ h σ b h',Rl K G φ h H/\rst φ σ σc/\r σ h=.ok (b,h')/\∀ φ' H',Ext φ φ' -> Rl K G φ' h' H' -> Q b H'
noncomputable abbrev tT (e:E):TT:=tB K G (fun σ h=>asB (ev F e σ h))
noncomputable def tL (as:Es):TA:=fun σc H Q=>∃ φ h σ vs h',Rl K G φ h H/\rst φ σ σc/\evs F as σ h=.ok (vs,h')/\∀ φ' H' ws,Ext φ φ' -> Rl K G φ' h' H' -> rvs φ' vs ws -> Q ws H'
end
section
variable {X:Cx} {G:List Addr} {F:Nat -> List V -> AH -> RV}
theorem qAn {e:Expr} {t t':TE} (h:PE X e t) (w:∀ σ H Q,t' σ H Q -> t σ H Q):PE X e t':=fun pins s σ H Q I q=>h pins s σ H Q I (w σ H Q q)
theorem qHh {e:Expr} {t t':TT} (h:PT X e t) (w:∀ σ H Q,t' σ H Q -> t σ H Q):PT X e t':=fun pins s σ H Q I q=>h pins s σ H Q I (w σ H Q q)
theorem qLK {e:List Expr} {t t':TA} (h:PA X e t) (w:∀ σ H Q,t' σ H Q -> t σ H Q):PA X e t':=fun pos pins s σ H Q I q=>h pos pins s σ H Q I (w σ H Q q)
variable (X G F) in
noncomputable abbrev SE (e:Expr) (a:E):Prop:=PE X e (tE X.K G F a)
variable (X G F) in
noncomputable abbrev ST (e:Expr) (a:E):Prop:=PT X e (tT X.K G F a)
variable (X G F) in
noncomputable abbrev SA (es:List Expr) (as:Es):Prop:=PA X es (tL X.K G F as)
variable {K:PySem.W.Frag} {φ φ':List Addr} {h h1 h2:AH} {H:Hp} {σ σc:St} {a b:E} {x y:V}
theorem qBh (R:Rl K G φ h H) (rs:rst φ σ σc) (ea:ev F a σ h=.ok (x,h1)) (eb:ev F b σ h1=.ok (y,h2)) {Rr:V -> V -> Hp -> Prop}
  (k:∀ φ2 H2 xc yc,Ext φ φ2 -> Rl K G φ2 h2 H2 -> rv φ2 x xc -> rv φ2 y yc -> Rr xc yc H2):tE K G F a σc H (fun xc H1=>tE K G F b σc H1 (fun yc H2=>Rr xc yc H2)):=
 ⟨φ,h,σ,x,h1,R,rs,ea,fun φ1 H1 xc e1 R1 r1=>⟨φ1,h1,σ,y,h2,R1,rst.mono e1 rs,eb,fun φ2 H2 yc e2 R2 r2=>k φ2 H2 xc yc (e1.trans e2) R2 (rv.mono e2 r1) r2⟩⟩
theorem qKx {i:Nat} {n:Str} {pos:Pos} (hN:X.N[i]?=some n) (hv:L2.Vis X.env.scope n) (hd:(n==("__debug__":Str))=false) (hcd:(n==("__classdict__":Str))=false):SE X G F (.Name n pos) (.var i):=by
 refine qAn (L2.pe_var hN hv hd hcd) fun σc H Q q=>?_
 obtain ⟨φ,h,σ,v,h',R,rs,e,k⟩:=q
 unfold ev at e
 split at e
 ·rename_i w q
  cases e
  obtain ⟨oc,ec,r⟩:=qAG rs q
  obtain ⟨u,rfl,r⟩:=r
  exact ⟨u,ec,k φ H u (.refl _) R r⟩
 ·cases e
theorem qG2 {v:V} {w:V} {σc:St} {H:Hp} {Q:VK} (hr:∀ φ,rv φ v w) (q:tE K G F (.cst v) σc H Q):L2.tC w σc H Q:=by
 obtain ⟨φ,h,σ,v',h',R,rs,e,k⟩:=q
 unfold ev at e
 cases e
 exact k φ H w (.refl _) R (hr φ)
theorem qGK {i j pos}:SE X G F (.Constant (.int i) j pos) (.cst (.int i)):=qAn L2.pe_int fun _ _ _=>qG2 fun _=>rfl
theorem qLL {i j pos}:SE X G F (.Constant (.bool i) j pos) (.cst (.bl i)):=qAn L2.pe_bl fun _ _ _=>qG2 fun _=>rfl
theorem qIo {j pos}:SE X G F (.Constant .none j pos) (.cst .non):=qAn L2.pe_non fun _ _ _=>qG2 fun _=>trivial
theorem qIG {i j pos}:SE X G F (.Constant (.str i) j pos) (.cst (.str i)):=qAn L2.pe_str fun _ _ _=>qG2 fun _=>rfl
theorem qI7 {n:Str} {v:V} {u:Value} {pos:Pos} (hg:L2.Gl X n) (hm:X.mg n=some u) (r:RelV v u) (hv:∀ φ,rv φ v v) (hd:(n==("__debug__":Str))=false):SE X G F (.Name n pos) (.cst v):=
 qAn (L2.pe_glob hg hm r hd) fun _ _ _=>qG2 hv
theorem qIy {n:Str} {g:Nat} {a:Addr} {pos:Pos} (hg:L2.Gl X n) (hm:X.mg n=some (.ref a)) (hG:G[g]?=some a) (hd:(n==("__debug__":Str))=false):SE X G F (.Name n pos) (.glob g):=by
 refine qAn (L2.pe_glob (v:=.ref a) hg hm rfl hd) fun σc H Q q=>?_
 obtain ⟨φ,h,σ,v',h',R,rs,e,k⟩:=q
 unfold ev at e
 cases e
 exact k φ H (.ref a) (.refl _) R (R.glob.get hG)
noncomputable def opB:BOp -> Operator
 | .add=>.Add | .sub=>.Sub | .mul=>.Mult | .fdiv=>.FloorDiv | .mod=>.Mod | .pow=>.Pow | .band=>.BitAnd | .shr=>.RShift | .bxor=>.BitXor
noncomputable def qNe (i j:Int):Prop:=j≠0/\j.natAbs.log2 < 9000
theorem qHj:OpR X (binaryOp .FloorDiv) (L2.rI qNe fun i j=>.int (i.fdiv j)):=L2.opI fun _ _ _ _ _ _ _ hc q=>floordiv_int hc.1 q (.inl (PyProof.noPylong_of_log2 hc.2))
noncomputable def qNf (i j:Int):Prop:=i.natAbs.log2 < 9000/\j.natAbs.log2 < 9000
theorem qE8 {i:Int} (h:i.natAbs.log2 < 9000):Builtin.Int.intBits i<=2 ^ 20:=by
 unfold Builtin.Int.intBits
 have e:(2:Nat) ^ 20=1048576:=by decide
 rw [e]
 split<;>omega
theorem qJC:OpR X (binaryOp .Mult) (L2.rI qNf fun i j=>.int (i * j)):=L2.opI fun _ _ _ _ _ _ _ hc q=>mul_int q (IntMulOk.of_bits (qE8 hc.1) (qE8 hc.2))
theorem qFN {i:Int} (h:mid i=true):i.natAbs.log2 < 9000:=of_decide_eq_true h
noncomputable def qNy (K:PySem.W.Frag):BOp -> R2
 | .add=>fun x y H Q=>(L2.rI0 (fun i j=>.int (i + j)) x y H Q\/L2.rCat x y H Q)\/L2.rCatT K x y H Q
 | .sub=>L2.rI0 fun i j=>.int (i - j)
 | .mul=>fun x y H Q=>(L2.rI L2.CMul (fun i j=>.int (i * j)) x y H Q\/L2.rRep x y H Q)\/L2.rI qNf (fun i j=>.int (i * j)) x y H Q
 | .fdiv=>fun x y H Q=>L2.rI L2.CDiv (fun i j=>.int (i / j)) x y H Q\/L2.rI qNe (fun i j=>.int (i.fdiv j)) x y H Q
 | .mod=>fun x y H Q=>L2.rI (fun _ j=>0 < j) (fun i j=>.int (i % j)) x y H Q\/L2.rI (fun _ j=>j≠0) (fun i j=>.int (i.fmod j)) x y H Q
 | .pow=>L2.rI L2.CPow fun i j=>.int (i ^ j.toNat)
 | .band=>L2.rI0 fun i j=>.int (Builtin.bitAnd i j)
 | .shr=>L2.rI (fun _ j=>0<=j) fun i j=>.int (i / 2 ^ j.toNat)
 | .bxor=>L2.rI0 fun i j=>.int (Builtin.bitXor i j)
theorem qJr:∀ op,OpR X (binaryOp (opB op)) (qNy X.K op)
 | .add=>(L2.op_add.or L2.op_cat).or L2.op_catT
 | .sub=>L2.op_sub
 | .mul=>(L2.op_mul.or L2.op_rep).or qJC
 | .fdiv=>L2.op_fdiv.or qHj
 | .mod=>L2.op_mod.or L2.op_modN
 | .pow=>L2.op_pow
 | .band=>L2.op_and
 | .shr=>L2.op_shr
 | .bxor=>L2.op_xor
theorem qCs:lim<=sizeLine:=by decide
theorem qIE:lim < sizeLine:=by decide
theorem qEy {i:Int} (h:small i=true):-(2 ^ 64) < i/\i < 2 ^ 64:=by
 unfold small two64 at h
 have:=of_decide_eq_true h
 omega
theorem qJf {op:BOp} {v xc yc:V} {h':AH} {Q:VK} (e:qLU op x y h=.ok (v,h')) (R:Rl K G φ h H) (rx:rv φ x xc) (ry:rv φ y yc)
  (k:∀ φ' H' w,Ext φ φ' -> Rl K G φ' h' H' -> rv φ' v w -> Q w H'):qNy K op xc yc H Q:=by
 cases op with
 | add=>
  dsimp only [qLU] at e
  split at e
  ·replace e:=qBE e
   obtain ⟨b,rfl,e⟩:=e
   split at e
   ·rename_i xs ys e1 e2
    split at e
    ·rename_i hl
     cases e
     obtain ⟨q1,a1,ys1,ha1,hH1,r1⟩:=R.mut e1
     obtain ⟨q2,a2,ys2,ha2,hH2,r2⟩:=R.mut e2
     obtain ⟨b1,rfl,hb1⟩:=qAN rx
     obtain ⟨b2,rfl,hb2⟩:=qAN ry
     rw [ha1] at hb1;cases hb1
     rw [ha2] at hb2;cases hb2
     refine .inl (.inr ⟨a1,a2,ys1,ys2,rfl,rfl,hH1,hH2,?_,fun p hp=>k (φ++[p]) _ _ ⟨[p],rfl⟩ (R.newL hp (qAP r1 r2)) R.lastRef⟩)
     have l1:=Paired.length r1
     have l2:=Paired.length r2
     have:=qCs
     omega
    ·cases e
   ·split at e
    ·rename_i xs ys e1 e2
     split at e
     ·rename_i hl
      obtain ⟨a1,ys1,ha1,hH1,r1⟩:=R.tup e1
      obtain ⟨a2,ys2,ha2,hH2,r2⟩:=R.tup e2
      obtain ⟨b1,rfl,hb1⟩:=qAN rx
      obtain ⟨b2,rfl,hb2⟩:=qAN ry
      rw [ha1] at hb1;cases hb1
      rw [ha2] at hb2;cases hb2
      have l1:=Paired.length r1
      have l2:=Paired.length r2
      refine .inr ⟨a1,a2,ys1,ys2,rfl,rfl,hH1,hH2,?_,?_,fun z=>?_,fun z p hp=>?_⟩
      ·rintro rfl
       exact hl.1 (List.length_eq_zero_iff.mp l1)
      ·have:=qCs
       omega
      ·subst z
       rw [if_pos (List.length_eq_zero_iff.mp l2)] at e
       cases e
       exact k φ H _ (.refl _) R ha1
      ·rw [if_neg (fun q=>z (by subst q;exact List.length_eq_zero_iff.mp l2.symm))] at e
       cases e
       exact k (φ++[p]) _ _ ⟨[p],rfl⟩ (R.newT hp (qAP r1 r2)) R.lastRef
     ·cases e
    ·cases e
  ·replace e:=qAl e
   obtain ⟨i,j,rfl,rfl,e⟩:=e
   cases e;cases qAB rx;cases qAB ry
   exact .inl (.inl ⟨_,_,rfl,rfl,k φ H _ (.refl _) R rfl⟩)
 | sub=>
  replace e:=qAl e
  obtain ⟨i,j,rfl,rfl,e⟩:=e
  cases e;cases qAB rx;cases qAB ry
  exact ⟨_,_,rfl,rfl,k φ H _ (.refl _) R rfl⟩
 | mul=>
  dsimp only [qLU] at e
  split at e
  ·split at e
   ·split at e
    ·rename_i xs e1
     split at e
     ·rename_i hl
      obtain ⟨h0,hl,h3⟩:=hl
      cases e
      obtain ⟨q1,a1,ys1,ha1,hH1,r1⟩:=R.mut e1
      obtain ⟨b1,rfl,hb1⟩:=qAN rx
      rw [ha1] at hb1;cases hb1
      cases qAB ry
      refine .inl (.inr ⟨a1,_,ys1,rfl,rfl,hH1,by omega,by omega,?_,fun p hp=>k (φ++[p]) _ _ ⟨[p],rfl⟩ (R.newL hp (qCr r1 _)) R.lastRef⟩)
      have l1:=Paired.length r1
      have:=qCs
      rw [<- l1]
      omega
     ·cases e
    ·cases e
   ·cases e
  ·replace e:=qAl e
   obtain ⟨i,j,rfl,rfl,e⟩:=e
   split at e
   ·rename_i hs
    cases e;cases qAB rx;cases qAB ry
    rw [Bool.or_eq_true,Bool.or_eq_true,Bool.and_eq_true] at hs
    rcases hs with (z | z) | z
    ·exact .inl (.inl ⟨_,_,rfl,rfl,.inl (qEy z),k φ H _ (.refl _) R rfl⟩)
    ·exact .inl (.inl ⟨_,_,rfl,rfl,.inr (qEy z),k φ H _ (.refl _) R rfl⟩)
    ·exact .inr ⟨_,_,rfl,rfl,⟨qFN z.1,qFN z.2⟩,k φ H _ (.refl _) R rfl⟩
   ·cases e
 | fdiv=>
  replace e:=qAl e
  obtain ⟨i,j,rfl,rfl,e⟩:=e
  split at e
  ·rename_i hc
   cases e;cases qAB rx;cases qAB ry
   rcases hc.2 with z | z
   ·exact .inl ⟨_,_,rfl,rfl,⟨hc.1,z⟩,k φ H _ (.refl _) R rfl⟩
   ·refine .inr ⟨_,_,rfl,rfl,⟨by omega,qFN z⟩,?_⟩
    dsimp only
    rw [Int.fdiv_eq_ediv_of_nonneg _ (by omega)]
    exact k φ H _ (.refl _) R rfl
  ·split at e
   ·rename_i hc
    cases e;cases qAB rx;cases qAB ry
    exact .inr ⟨_,_,rfl,rfl,⟨by omega,qFN hc.2⟩,k φ H _ (.refl _) R rfl⟩
   ·cases e
 | mod=>
  replace e:=qAl e
  obtain ⟨i,j,rfl,rfl,e⟩:=e
  split at e
  ·rename_i hc
   cases e;cases qAB rx;cases qAB ry
   exact .inl ⟨_,_,rfl,rfl,hc,k φ H _ (.refl _) R rfl⟩
  ·split at e
   ·rename_i hc
    cases e;cases qAB rx;cases qAB ry
    exact .inr ⟨_,_,rfl,rfl,(by omega),k φ H _ (.refl _) R rfl⟩
   ·cases e
 | pow=>
  replace e:=qAl e
  obtain ⟨i,j,rfl,rfl,e⟩:=e
  split at e
  ·rename_i hc
   cases e;cases qAB rx;cases qAB ry
   refine ⟨_,_,rfl,rfl,⟨hc.1,by omega,by omega⟩,k φ H _ (.refl _) R rfl⟩
  ·cases e
 | band=>
  replace e:=qAl e
  obtain ⟨i,j,rfl,rfl,e⟩:=e
  cases e;cases qAB rx;cases qAB ry
  exact ⟨_,_,rfl,rfl,k φ H _ (.refl _) R rfl⟩
 | shr=>
  replace e:=qAl e
  obtain ⟨i,j,rfl,rfl,e⟩:=e
  split at e
  ·rename_i hc
   cases e;cases qAB rx;cases qAB ry
   refine ⟨_,_,rfl,rfl,hc.1,k φ H _ (.refl _) R rfl⟩
  ·cases e
 | bxor=>
  replace e:=qAl e
  obtain ⟨i,j,rfl,rfl,e⟩:=e
  cases e;cases qAB rx;cases qAB ry
  exact ⟨_,_,rfl,rfl,k φ H _ (.refl _) R rfl⟩
theorem qKs {op:BOp} {ea eb:Expr} {pos:Pos} (ha:SE X G F ea a) (hb:SE X G F eb b):SE X G F (.BinOp ea (opB op) eb pos) (.bin op a b):=by
 refine qAn (L2.pe_op (qJr op) ha hb) fun σc H Q q=>?_
 obtain ⟨φ,h,σ,v,h',R,rs,e,k⟩:=q
 unfold ev at e
 obtain ⟨⟨x,h1⟩,e1,e⟩:=Res.bind_inv e
 obtain ⟨⟨y,h2⟩,e2,e⟩:=Res.bind_inv e
 exact qBh R rs e1 e2 fun φ2 H2 xc yc x2 R2 r1 r2=>qJf e R2 r1 r2 fun φ' H' w x' R' r'=>k φ' H' w (x2.trans x') R' r'
theorem qIT {ea:Expr} {pos:Pos} (ha:SE X G F ea a):SE X G F (.UnaryOp .USub ea pos) (.neg a):=by
 refine qAn (L2.pe_un L2.un_neg ha) fun σc H Q q=>?_
 obtain ⟨φ,h,σ,v,h',R,rs,e,k⟩:=q
 unfold ev at e
 obtain ⟨⟨x,h1⟩,e1,e⟩:=Res.bind_inv e
 refine ⟨φ,h,σ,x,h1,R,rs,e1,fun φ1 H1 xc x1 R1 r1=>?_⟩
 dsimp only at e
 split at e
 ·cases e
  cases qAB r1
  exact ⟨_,rfl,k φ1 H1 _ x1 R1 rfl⟩
 ·cases e
end
end PI
namespace PI
open PySem PySem.Spec PyProof.Rows PySem.SeqAt
open L2 (V Hp HO Cx PE PT PA PS PSs PG TE TT TA TS VK upd qAO qAH SqL SqT qFH Inv RelV Vals EP TP AP SP OpR qA6 R2)
structure Eq3 (A:Around) (s:Shared) (u w:Value) (b:Bool):Prop where
 eq:EqAt A s u w b
 rc:RcAt A s u w b
 ne:RcNeAt A s u w (!b)
theorem qD4 {A:Around} {s:Shared} {φ:List Addr}:∀ {x y xc yc:V} {u w:Value} {b:Bool},eqF x y=some b -> rv φ x xc -> rv φ y yc -> RelV xc u -> RelV yc w -> Eq3 A s u w b:=by
 intro x y xc yc u w b e rx ry ru rw'
 cases x with
 | non=>
  cases qAr rx;cases ru
  cases y with
  | non=>cases qAr ry;cases rw';cases e;exact ⟨.same _,.none_none,.none_none⟩
  | bl j=>cases qAu ry;cases rw';cases e;exact ⟨.none_bool _,.none_bool _,.none_bool _⟩
  | int j=>cases qAB ry;obtain ⟨t,rfl⟩:=rw';cases e;exact ⟨.none_int _ _,.none_int _ _,.none_int _ _⟩
  | str j=>cases qA0 ry;obtain ⟨t,rfl⟩:=rw';cases e;exact ⟨.none_str _ _,.none_str _ _,.none_str _ _⟩
  | _=>cases e
 | bl i=>
  cases qAu rx;cases ru
  cases y with
  | non=>cases qAr ry;cases rw';cases e;exact ⟨.bool_none _,.bool_none _,.bool_none _⟩
  | bl j=>cases qAu ry;cases rw';cases e;exact ⟨.bool_bool _ _,.bool_bool _ _,.bool_bool _ _⟩
  | int j=>cases qAB ry;obtain ⟨t,rfl⟩:=rw';cases e;exact ⟨.bool_int _ _ _,.bool_int _ _ _,.bool_int _ _ _⟩
  | str j=>cases qA0 ry;obtain ⟨t,rfl⟩:=rw';cases e;exact ⟨.bool_str _ _ _,.bool_str _ _ _,.bool_str _ _ _⟩
  | _=>cases e
 | int i=>
  cases qAB rx;obtain ⟨t,rfl⟩:=ru
  cases y with
  | non=>cases qAr ry;cases rw';cases e;exact ⟨.int_none _ _,.int_none _ _,.int_none _ _⟩
  | bl j=>cases qAu ry;cases rw';cases e;exact ⟨.int_bool _ _ _,.int_bool _ _ _,.int_bool _ _ _⟩
  | int j=>cases qAB ry;obtain ⟨t,rfl⟩:=rw';cases e;exact ⟨.int_int _ _ _ _,.int_int _ _ _ _,.int_int _ _ _ _⟩
  | str j=>cases qA0 ry;obtain ⟨t,rfl⟩:=rw';cases e;exact ⟨.int_str _ _ _ _,.int_str _ _ _ _,.int_str _ _ _ _⟩
  | _=>cases e
 | str i=>
  cases qA0 rx;obtain ⟨t,rfl⟩:=ru
  cases y with
  | non=>cases qAr ry;cases rw';cases e;exact ⟨.str_none _ _,.str_none _ _,.str_none _ _⟩
  | bl j=>cases qAu ry;cases rw';cases e;exact ⟨.str_bool _ _ _,.str_bool _ _ _,.str_bool _ _ _⟩
  | int j=>cases qAB ry;obtain ⟨t,rfl⟩:=rw';cases e;exact ⟨.str_int _ _ _ _,.str_int _ _ _ _,.str_int _ _ _ _⟩
  | str j=>cases qA0 ry;obtain ⟨t,rfl⟩:=rw';cases e;exact ⟨.str_str _ _ _ _,.str_str _ _ _ _,.str_str _ _ _ _⟩
  | _=>cases e
 | _=>cases y<;>cases e
theorem qFI {φ:List Addr} {x y w:V} {b:Bool} (e:eqF x y=some b) (rx:rv φ x w) (ry:rv φ y w):b=true:=by
 cases x with
 | non=>cases qAr rx;cases y<;>first | exact False.elim ry | (cases e;rfl) | cases e
 | bl i=>cases qAu rx;cases y<;>first | exact False.elim ry | (rename_i j;cases (show j=i from ry);cases e;simp) | cases e
 | int i=>cases qAB rx;cases y<;>first | exact False.elim ry | (rename_i j;cases (show j=i from ry);cases e;simp) | cases e
 | str i=>cases qA0 rx;cases y<;>first | exact False.elim ry | (rename_i j;cases (show j=i from ry);cases e;simp) | cases e
 | _=>cases y<;>cases e
theorem qCQ {f:V -> V -> Option Bool}:∀ {xs ys:List V} {bs:List Bool},qCm f xs ys=some bs -> bs.length=xs.length/\ys.length=xs.length/\∀ (j:Nat) x y,xs[j]?=some x -> ys[j]?=some y -> ∃ b,bs[j]?=some b/\f x y=some b
 | [],[],bs,e=>by
  cases e
  exact ⟨rfl,rfl,fun j x y h=>by simp at h⟩
 | [],_::_,_,e=>by cases e
 | _::_,[],_,e=>by cases e
 | x::xs,y::ys,bs,e=>by
  unfold qCm at e
  split at e
  ·rename_i b bs' e1 e2
   cases e
   obtain ⟨l1,l2,k⟩:=qCQ e2
   refine ⟨by simp [l1],by simp [l2],fun j u v h1 h2=>?_⟩
   cases j with
   | zero=>simp at h1 h2;subst h1 h2;exact ⟨b,rfl,e1⟩
   | succ j=>obtain ⟨b',h3,h4⟩:=k j u v (by simpa using h1) (by simpa using h2);exact ⟨b',by simpa using h3,h4⟩
  ·cases e
theorem qDr (bs:List Bool):(List.range bs.length).all (fun j=>bs.getD j true)=bs.all id:=by
 rw [Bool.eq_iff_iff]
 simp only [List.all_eq_true,List.mem_range,id]
 constructor
 ·intro h b hb
  obtain ⟨j,hj,rfl⟩:=List.mem_iff_getElem.mp hb
  have:=h j hj
  rw [List.getD_eq_getElem?_getD,List.getElem?_eq_getElem hj] at this
  exact this
 ·intro h j hj
  rw [List.getD_eq_getElem?_getD,List.getElem?_eq_getElem hj]
  exact h _ (List.getElem_mem hj)
section
variable {X:Cx} {G φ:List Addr} {h:AH} {H:Hp} {pins:List (Addr×Obj)} {σ:L2.St} {s:Shared}
theorem qEv (I:Inv X pins σ H s) (R:Rl X.K G φ h H):∀ (n:Nat) {x y w:V} {b:Bool},eqD h n x y=some b -> rv φ x w -> rv φ y w -> b=true
 | 0,x,y,w,b,e,rx,ry=>qFI e rx ry
 | n + 1,x,y,w,b,e,rx,ry=>by
  have all:∀ {xs ys zs:List V} {bs:List Bool},rvs φ xs zs -> rvs φ ys zs -> qCm (eqD h n) xs ys=some bs -> bs.all id=true:=fun {xs ys zs bs} r1 r2 e=>by
   obtain ⟨l1,l2,k⟩:=qCQ e
   rw [List.all_eq_true]
   intro b hb
   obtain ⟨j,hj,rfl⟩:=List.mem_iff_getElem.mp hb
   have hx:j < xs.length:=by omega
   have hy:j < ys.length:=by omega
   obtain ⟨b',hb',e'⟩:=k j _ _ (List.getElem?_eq_getElem hx) (List.getElem?_eq_getElem hy)
   rw [List.getElem?_eq_getElem hj] at hb'
   cases hb'
   obtain ⟨z,hz,q1⟩:=qAG r1 (List.getElem?_eq_getElem hx)
   obtain ⟨z',hz',q2⟩:=qAG r2 (List.getElem?_eq_getElem hy)
   rw [hz] at hz';cases hz'
   exact qEv I R n e' q1 q2
  cases x with
  | ref a=>
   obtain ⟨p,rfl,hp⟩:=qAN rx
   cases y with
   | ref c=>
    have hc:φ[c]?=some p:=ry
    simp only [eqD] at e
    split at e
    ·rename_i f1 xs f2 ys e1 e2
     split at e
     ·cases e;rfl
     ·obtain ⟨p1,z1,q1,s1,r1⟩:=R.lst (i:=a) (xs:=xs) (by unfold qAJ;rw [e1])
      obtain ⟨p2,z2,q2,s2,r2⟩:=R.lst (i:=c) (xs:=ys) (by unfold qAJ;rw [e2])
      rw [hp] at q1;cases q1
      rw [hc] at q2;cases q2
      have:=I.list_inj s1 s2
      subst this
      split at e
      ·obtain ⟨bs,e3,rfl⟩:=Option.map_eq_some_iff.mp e
       exact all r1 r2 e3
      ·rename_i hne
       exact absurd ((Paired.length r1).trans (Paired.length r2).symm) hne
    ·rename_i xs ys e1 e2
     split at e
     ·cases e;rfl
     ·obtain ⟨p1,z1,q1,s1,r1⟩:=R.tup (i:=a) (xs:=xs) (by unfold qAU;rw [e1])
      obtain ⟨p2,z2,q2,s2,r2⟩:=R.tup (i:=c) (xs:=ys) (by unfold qAU;rw [e2])
      rw [hp] at q1;cases q1
      rw [hc] at q2;cases q2
      have:=I.tuple_inj s1 s2
      subst this
      split at e
      ·obtain ⟨bs,e3,rfl⟩:=Option.map_eq_some_iff.mp e
       exact all r1 r2 e3
      ·rename_i hne
       exact absurd ((Paired.length r1).trans (Paired.length r2).symm) hne
    ·rename_i f1 xs ys e1 e2
     obtain ⟨p1,z1,q1,s1,r1⟩:=R.lst (i:=a) (xs:=xs) (by unfold qAJ;rw [e1])
     obtain ⟨p2,z2,q2,s2,r2⟩:=R.tup (i:=c) (xs:=ys) (by unfold qAU;rw [e2])
     rw [hp] at q1;cases q1
     rw [hc] at q2;cases q2
     obtain ⟨i1,_,t1,_⟩:=I.list s1
     obtain ⟨i2,_,t2,_⟩:=I.tuple s2
     exact absurd rfl (ne_of_list_tuple t1.isList t2)
    ·rename_i xs f1 ys e1 e2
     obtain ⟨p1,z1,q1,s1,r1⟩:=R.tup (i:=a) (xs:=xs) (by unfold qAU;rw [e1])
     obtain ⟨p2,z2,q2,s2,r2⟩:=R.lst (i:=c) (xs:=ys) (by unfold qAJ;rw [e2])
     rw [hp] at q1;cases q1
     rw [hc] at q2;cases q2
     obtain ⟨i1,_,t1,_⟩:=I.tuple s1
     obtain ⟨i2,_,t2,_⟩:=I.list s2
     exact absurd rfl (ne_of_list_tuple t2.isList t1)
    ·cases e
   | _=>exact False.elim ry
  | _=>
   cases y with
   | ref c=>
    obtain ⟨p,rfl,hp⟩:=qAN ry
    exact False.elim rx
   | _=>exact qFI e rx ry
theorem qGg (I:Inv X pins σ H s) (R:Rl X.K G φ h H):∀ (n:Nat) {A:Around} {x y xc yc:V} {u w:Value} {b:Bool},A.units + n < cLine -> eqD h n x y=some b -> rv φ x xc -> rv φ y yc -> RelV xc u -> RelV yc w -> Eq3 A s u w b
 | 0,A,x,y,xc,yc,u,w,b,hu,e,rx,ry,ru,rw'=>qD4 e rx ry ru rw'
 | n + 1,A,x,y,xc,yc,u,w,b,hu,e,rx,ry,ru,rw'=>by
  have hu0:A.units < cLine:=by omega
  have hu1:A.in1.units + n < cLine:=by show A.units + 1 + n < cLine;omega
  have item:∀ {xs ys zs ts:List V} {us ws:List Value} {bs:List Bool},rvs φ xs zs -> rvs φ ys ts -> Vals zs us -> Vals ts ws -> qCm (eqD h n) xs ys=some bs -> us.length=bs.length/\ws.length=bs.length/\
    ∀ (j:Nat) (h1:j < us.toArray.size) (h2:j < ws.toArray.size),EqAt A.in1 s us.toArray[j] ws.toArray[j] (bs.getD j true):=fun {xs ys zs ts us ws bs} r1 r2 v1 v2 e=>by
   obtain ⟨l1,l2,k⟩:=qCQ e
   have n1:=Paired.length r1
   have n2:=Paired.length r2
   have n3:=v1.length
   have n4:=v2.length
   refine ⟨by omega,by omega,fun j h1 h2=>?_⟩
   have g1:j < us.length:=by simpa using h1
   have g2:j < ws.length:=by simpa using h2
   have hx:j < xs.length:=by omega
   have hy:j < ys.length:=by omega
   obtain ⟨b',hb',e'⟩:=k j _ _ (List.getElem?_eq_getElem hx) (List.getElem?_eq_getElem hy)
   obtain ⟨z,hz,q1⟩:=qAG r1 (List.getElem?_eq_getElem hx)
   obtain ⟨t,ht,q2⟩:=qAG r2 (List.getElem?_eq_getElem hy)
   obtain ⟨u',hu',q3⟩:=v1.get hz
   obtain ⟨w',hw',q4⟩:=v2.get ht
   rw [List.getElem?_eq_getElem g1] at hu'
   rw [List.getElem?_eq_getElem g2] at hw'
   cases hu'
   cases hw'
   rw [List.getD_eq_getElem?_getD,hb']
   have:=(qGg I R n (A:=A.in1) hu1 e' q1 q2 q3 q4).eq
   simpa using this
  have refs:∀ {a:Nat} {p:Addr} {v:V} {b:Bool},φ[a]?=some p -> (if (items h a).isSome&&flat v then some false else none)=some b -> b=false/\∃ its,s.heap.IsList p its\/s.heap.IsTuple p its:=fun {a p v b} hp e=>by
   cases ea:h[a]? with
   | none=>rw [show items h a=none from (by unfold items;rw [ea])] at e;cases e
   | some o=>
    have hb:b=false:=by
     split at e
     ·cases e;rfl
     ·cases e
    refine ⟨hb,?_⟩
    cases o with
    | lst f xs=>
     obtain ⟨p1,z1,q1,s1,r1⟩:=R.lst (i:=a) (xs:=xs) (by unfold qAJ;rw [ea])
     rw [hp] at q1;cases q1
     obtain ⟨i1,_,t1,_⟩:=I.list s1
     exact ⟨_,.inl t1.isList⟩
    | tup xs=>
     obtain ⟨p1,z1,q1,s1,r1⟩:=R.tup (i:=a) (xs:=xs) (by unfold qAU;rw [ea])
     rw [hp] at q1;cases q1
     obtain ⟨i1,_,t1,_⟩:=I.tuple s1
     exact ⟨_,.inr t1⟩
    | ob ks=>rw [show items h a=none from (by unfold items;rw [ea])] at e;cases e
  cases x with
  | ref a=>
   obtain ⟨p,rfl,hp⟩:=qAN rx
   cases ru
   cases y with
   | ref c=>
    obtain ⟨q,rfl,hq⟩:=qAN ry
    cases rw'
    have same:p=q -> b=true:=fun z=>by
     subst z
     exact qEv I R (n + 1) e rx (show rv φ (.ref c) (.ref p) from hq)
    simp only [eqD] at e
    split at e
    ·rename_i f1 xs f2 ys e1 e2
     obtain ⟨p1,z1,q1,s1,r1⟩:=R.lst (i:=a) (xs:=xs) (by unfold qAJ;rw [e1])
     obtain ⟨p2,z2,q2,s2,r2⟩:=R.lst (i:=c) (xs:=ys) (by unfold qAJ;rw [e2])
     rw [hp] at q1;cases q1
     rw [hq] at q2;cases q2
     obtain ⟨i1,v1,t1,_⟩:=I.list s1
     obtain ⟨i2,v2,t2,_⟩:=I.list s2
     split at e
     ·rename_i hac
      subst hac
      rw [hp] at hq;cases hq
      cases e
      have rc:=RcAt.lists (A:=A) (e:=fun _=>true) t1.isList t1.isList rfl hu0 fun j _ _=>EqAt.same _
      have ne:=RcNeAt.lists (A:=A) (e:=fun _=>true) t1.isList t1.isList rfl hu0 fun j _ _=>EqAt.same _
      have al:∀ l:List Nat,(l.all fun _=>true)=true:=fun l=>by simp
      rw [al] at rc ne
      exact ⟨.same _,rc,ne⟩
     ·split at e
      ·obtain ⟨bs,e3,rfl⟩:=Option.map_eq_some_iff.mp e
       obtain ⟨m1,m2,he⟩:=item r1 r2 v1 v2 e3
       have hsz:i1.toArray.size=i2.toArray.size:=by simp;omega
       have rc:=RcAt.lists (A:=A) (e:=fun j=>bs.getD j true) t1.isList t2.isList hsz hu0 he
       have ne:=RcNeAt.lists (A:=A) (e:=fun j=>bs.getD j true) t1.isList t2.isList hsz hu0 he
       have sz:i1.toArray.size=bs.length:=by simpa using m1
       rw [sz,qDr] at rc ne
       refine ⟨?_,rc,ne⟩
       by_cases hpq:p=q
       ·rw [same hpq];subst hpq;exact .same _
       ·exact .of_refs hpq rc
      ·rename_i hl
       cases e
       have n1:=Paired.length r1
       have n2:=Paired.length r2
       have n3:=v1.length
       have n4:=v2.length
       have hsz:(i1.toArray.size != i2.toArray.size)=true:=by simp;omega
       have rc:=RcAt.lists_lengths (A:=A) t1.isList t2.isList hsz hu0
       have ne:=RcNeAt.lists_lengths (A:=A) t1.isList t2.isList hsz hu0
       refine ⟨?_,rc,ne⟩
       by_cases hpq:p=q
       ·exact absurd (same hpq) (by decide)
       ·exact .of_refs hpq rc
    ·rename_i xs ys e1 e2
     obtain ⟨p1,z1,q1,s1,r1⟩:=R.tup (i:=a) (xs:=xs) (by unfold qAU;rw [e1])
     obtain ⟨p2,z2,q2,s2,r2⟩:=R.tup (i:=c) (xs:=ys) (by unfold qAU;rw [e2])
     rw [hp] at q1;cases q1
     rw [hq] at q2;cases q2
     obtain ⟨i1,v1,t1,_⟩:=I.tuple s1
     obtain ⟨i2,v2,t2,_⟩:=I.tuple s2
     have t1':s.heap.IsTuple p i1.toArray:=t1
     have t2':s.heap.IsTuple q i2.toArray:=t2
     split at e
     ·rename_i hac
      subst hac
      rw [hp] at hq;cases hq
      cases e
      have rc:=RcAt.tuples (A:=A) (e:=fun _=>true) t1' t1' hu0 fun j _ _=>EqAt.same _
      have ne:=RcNeAt.tuples (A:=A) (e:=fun _=>true) t1' t1' hu0 fun j _ _=>EqAt.same _
      have al:∀ l:List Nat,(l.all fun _=>true)=true:=fun l=>by simp
      rw [al] at rc ne
      simp only [beq_self_eq_true,Bool.and_self] at rc ne
      exact ⟨.same _,rc,ne⟩
     ·split at e
      ·obtain ⟨bs,e3,rfl⟩:=Option.map_eq_some_iff.mp e
       obtain ⟨m1,m2,he⟩:=item r1 r2 v1 v2 e3
       have hsz:i1.toArray.size=i2.toArray.size:=by simp;omega
       have rc:=RcAt.tuples (A:=A) (e:=fun j=>bs.getD j true) t1' t2' hu0 he
       have ne:=RcNeAt.tuples (A:=A) (e:=fun j=>bs.getD j true) t1' t2' hu0 he
       have sz:i1.toArray.size=bs.length:=by simpa using m1
       have sz2:i2.toArray.size=bs.length:=by simpa using m2
       rw [sz,sz2,Nat.min_self,qDr,beq_self_eq_true,Bool.and_true] at rc ne
       refine ⟨?_,rc,ne⟩
       by_cases hpq:p=q
       ·rw [same hpq];subst hpq;exact .same _
       ·exact .of_refs hpq rc
      ·rename_i hl
       have n1:=Paired.length r1
       have n2:=Paired.length r2
       have n3:=v1.length
       have n4:=v2.length
       obtain ⟨bs,e3,hb⟩:=Option.map_eq_some_iff.mp e
       subst hb
       have hsz:(i1.toArray.size==i2.toArray.size)=false:=by simp;omega
       obtain ⟨m1,m2,he⟩:=item (qBC ys.length r1) (qBC xs.length r2) (v1.take ys.length) (v2.take xs.length) e3
       have he':∀ (j:Nat) (h1:j < i1.toArray.size) (h2:j < i2.toArray.size),EqAt A.in1 s i1.toArray[j] i2.toArray[j] (bs.getD j true):=fun j h1 h2=>by
        have g1:j < i1.length:=by simpa using h1
        have g2:j < i2.length:=by simpa using h2
        have:=he j (by simp;omega) (by simp;omega)
        simpa using this
       have rc:=RcAt.tuples (A:=A) (e:=fun j=>bs.getD j true) t1' t2' hu0 he'
       have ne:=RcNeAt.tuples (A:=A) (e:=fun j=>bs.getD j true) t1' t2' hu0 he'
       rw [hsz,Bool.and_false] at rc ne
       refine ⟨?_,rc,ne⟩
       by_cases hpq:p=q
       ·exact absurd (same hpq) (by decide)
       ·exact .of_refs hpq rc
    ·rename_i f1 xs ys e1 e2
     cases e
     obtain ⟨p1,z1,q1,s1,r1⟩:=R.lst (i:=a) (xs:=xs) (by unfold qAJ;rw [e1])
     obtain ⟨p2,z2,q2,s2,r2⟩:=R.tup (i:=c) (xs:=ys) (by unfold qAU;rw [e2])
     rw [hp] at q1;cases q1
     rw [hq] at q2;cases q2
     obtain ⟨i1,_,t1,_⟩:=I.list s1
     obtain ⟨i2,_,t2,_⟩:=I.tuple s2
     exact ⟨.list_tuple t1.isList t2 hu0,.list_tuple t1.isList t2 hu0,.list_tuple t1.isList t2 hu0⟩
    ·rename_i xs f1 ys e1 e2
     cases e
     obtain ⟨p1,z1,q1,s1,r1⟩:=R.tup (i:=a) (xs:=xs) (by unfold qAU;rw [e1])
     obtain ⟨p2,z2,q2,s2,r2⟩:=R.lst (i:=c) (xs:=ys) (by unfold qAJ;rw [e2])
     rw [hp] at q1;cases q1
     rw [hq] at q2;cases q2
     obtain ⟨i1,_,t1,_⟩:=I.tuple s1
     obtain ⟨i2,_,t2,_⟩:=I.list s2
     exact ⟨.tuple_list t1 t2.isList hu0,.tuple_list t1 t2.isList hu0,.tuple_list t1 t2.isList hu0⟩
    ·cases e
   | non=>
    cases qAr ry;cases rw'
    rcases refs hp (show (if (items h a).isSome&&flat V.non then some false else none)=some b from e) with ⟨rfl,its,t | t⟩
    ·exact ⟨.list_none t hu0,.list_none t hu0,.list_none t hu0⟩
    ·exact ⟨.tuple_none t hu0,.tuple_none t hu0,.tuple_none t hu0⟩
   | bl j=>
    cases qAu ry;cases rw'
    rcases refs hp (show (if (items h a).isSome&&flat (V.bl j) then some false else none)=some b from e) with ⟨rfl,its,t | t⟩
    ·exact ⟨.list_bool _ t hu0,.list_bool _ t hu0,.list_bool _ t hu0⟩
    ·exact ⟨.tuple_bool _ t hu0,.tuple_bool _ t hu0,.tuple_bool _ t hu0⟩
   | int j=>
    cases qAB ry;obtain ⟨t',rfl⟩:=rw'
    rcases refs hp (show (if (items h a).isSome&&flat (V.int j) then some false else none)=some b from e) with ⟨rfl,its,t | t⟩
    ·exact ⟨.list_int _ _ t hu0,.list_int _ _ t hu0,.list_int _ _ t hu0⟩
    ·exact ⟨.tuple_int _ _ t hu0,.tuple_int _ _ t hu0,.tuple_int _ _ t hu0⟩
   | str j=>
    cases qA0 ry;obtain ⟨t',rfl⟩:=rw'
    rcases refs hp (show (if (items h a).isSome&&flat (V.str j) then some false else none)=some b from e) with ⟨rfl,its,t | t⟩
    ·exact ⟨.list_str _ _ t hu0,.list_str _ _ t hu0,.list_str _ _ t hu0⟩
    ·exact ⟨.tuple_str _ _ t hu0,.tuple_str _ _ t hu0,.tuple_str _ _ t hu0⟩
   | _=>exact False.elim ry
  | non=>
   cases y with
   | ref c=>
    obtain ⟨p,rfl,hp⟩:=qAN ry
    cases rw'
    cases qAr rx;cases ru
    rcases refs hp (show (if (items h c).isSome&&flat V.non then some false else none)=some b from (Bool.and_comm _ _) ▸ e) with ⟨rfl,its,t | t⟩
    ·exact ⟨.none_list t hu0,.none_list t hu0,.none_list t hu0⟩
    ·exact ⟨.none_tuple t hu0,.none_tuple t hu0,.none_tuple t hu0⟩
   | _=>exact qD4 e rx ry ru rw'
  | bl i=>
   cases y with
   | ref c=>
    obtain ⟨p,rfl,hp⟩:=qAN ry
    cases rw'
    cases qAu rx;cases ru
    rcases refs hp (show (if (items h c).isSome&&flat (V.bl i) then some false else none)=some b from (Bool.and_comm _ _) ▸ e) with ⟨rfl,its,t | t⟩
    ·exact ⟨.bool_list _ t hu0,.bool_list _ t hu0,.bool_list _ t hu0⟩
    ·exact ⟨.bool_tuple _ t hu0,.bool_tuple _ t hu0,.bool_tuple _ t hu0⟩
   | _=>exact qD4 e rx ry ru rw'
  | int i=>
   cases y with
   | ref c=>
    obtain ⟨p,rfl,hp⟩:=qAN ry
    cases rw'
    cases qAB rx;obtain ⟨t',rfl⟩:=ru
    rcases refs hp (show (if (items h c).isSome&&flat (V.int i) then some false else none)=some b from (Bool.and_comm _ _) ▸ e) with ⟨rfl,its,t | t⟩
    ·exact ⟨.int_list _ _ t hu0,.int_list _ _ t hu0,.int_list _ _ t hu0⟩
    ·exact ⟨.int_tuple _ _ t hu0,.int_tuple _ _ t hu0,.int_tuple _ _ t hu0⟩
   | _=>exact qD4 e rx ry ru rw'
  | str i=>
   cases y with
   | ref c=>
    obtain ⟨p,rfl,hp⟩:=qAN ry
    cases rw'
    cases qA0 rx;obtain ⟨t',rfl⟩:=ru
    rcases refs hp (show (if (items h c).isSome&&flat (V.str i) then some false else none)=some b from (Bool.and_comm _ _) ▸ e) with ⟨rfl,its,t | t⟩
    ·exact ⟨.str_list _ _ t hu0,.str_list _ _ t hu0,.str_list _ _ t hu0⟩
    ·exact ⟨.str_tuple _ _ t hu0,.str_tuple _ _ t hu0,.str_tuple _ _ t hu0⟩
   | _=>exact qD4 e rx ry ru rw'
  | _=>cases xc<;>exact False.elim rx
end
end PI
namespace PI
open PySem PySem.Spec PyProof.Rows PySem.SeqAt
open L2 (V Hp HO Cx PE PT PA PS PSs PG TE TT TA TS VK upd qAO qAH SqL SqT qFH Inv RelV Vals EP TP AP SP OpR qA6 R2)
theorem qJY {φ:List Addr}:∀ {x w:V},flat x=true -> rv φ x w -> w=x
 | .non,_,_,h=>qAr h
 | .bl _,_,_,h=>qAu h
 | .int _,_,_,h=>qAB h
 | .str _,_,_,h=>qA0 h
 | .ref _,_,f,_=>by cases f
 | .byt _,_,f,_=>by cases f
 | .flt _,_,f,_=>by cases f
 | .ty _,_,f,_=>by cases f
theorem qCP {φ:List Addr}:∀ {xs ws:List V},xs.all flat=true -> rvs φ xs ws -> ws=xs
 | _,_,_,.nil=>rfl
 | x::xs,w::ws,f,.cons r t=>by
  simp only [List.all_cons,Bool.and_eq_true] at f
  rw [qJY f.1 r,qCP f.2 t]
section
variable {X:Cx} {G:List Addr} {F:Nat -> List V -> AH -> RV}
noncomputable def opC:COp -> CmpOp
 | .lt=>.Lt | .le=>.LtE | .gt=>.Gt | .ge=>.GtE | .eq=>.Eq | .ne=>.NotEq | .inn=>.In | .notin=>.NotIn | .is=>.Is | .isnot=>.IsNot
variable (X G) in
noncomputable def qL7 (op:COp):R2:=fun x y H Q=>∃ φ h xa ya b,Rl X.K G φ h H/\rv φ xa x/\rv φ ya y/\qMH op xa ya h=some b/\Q (.bl b) H
theorem qEj {φ:List Addr} {x y:V} (r:rv φ x y):decide (x=V.non)=decide (y=V.non):=by
 by_cases hx:x=V.non
 ·subst hx;cases qAr r;rfl
 ·have hy:y≠V.non:=fun hy=>by subst hy;cases x<;>first | exact hx rfl | exact False.elim r
  rw [decide_eq_false hx,decide_eq_false hy]
theorem qCA (hu:X.A.units + 8 < cLine):∀ op,OpR X (compareOp (opC op)) (qL7 X G op):=by
 intro op pins s σ H x y v u Q I rx ry ⟨φ,h,xa,ya,b,R,r1,r2,e,q⟩
 cases op with
 | lt=>
  replace e:=qCN e
  obtain ⟨i,j,rfl,rfl,rfl⟩:=e
  cases qAB r1;cases qAB r2
  exact L2.op_lt pins s σ H _ _ v u Q I rx ry ⟨_,_,rfl,rfl,q⟩
 | le=>
  replace e:=qCN e
  obtain ⟨i,j,rfl,rfl,rfl⟩:=e
  cases qAB r1;cases qAB r2
  exact L2.op_le pins s σ H _ _ v u Q I rx ry ⟨_,_,rfl,rfl,q⟩
 | gt=>
  replace e:=qCN e
  obtain ⟨i,j,rfl,rfl,rfl⟩:=e
  cases qAB r1;cases qAB r2
  exact L2.op_gt pins s σ H _ _ v u Q I rx ry ⟨_,_,rfl,rfl,q⟩
 | ge=>
  replace e:=qCN e
  obtain ⟨i,j,rfl,rfl,rfl⟩:=e
  cases qAB r1;cases qAB r2
  exact L2.op_ge pins s σ H _ _ v u Q I rx ry ⟨_,_,rfl,rfl,q⟩
 | eq=>exact (qGg I R 4 (by omega) (show eqD h 4 xa ya=some b from e) r1 r2 rx ry).rc _ _ _ _ ⟨.bl b,H,I,rfl,q⟩
 | ne=>
  have e':(eqD h 4 xa ya).map (!·)=some b:=e
  obtain ⟨c,e1,rfl⟩:=Option.map_eq_some_iff.mp e'
  exact (qGg I R 4 (by omega) e1 r1 r2 rx ry).ne _ _ _ _ ⟨.bl (!c),H,I,rfl,q⟩
 | inn=>cases e
 | notin=>cases e
 | is=>
  rcases qGT (show isC xa ya id=some b from e) with ⟨rfl,rfl⟩ | ⟨c,d,rfl,rfl,rfl⟩
  ·cases qAr r2
   rw [qEj r1] at q
   exact L2.op_isN pins s σ H x _ v u Q I rx ry ⟨rfl,q⟩
  ·cases qAu r1;cases qAu r2
   cases (show v=Value.bool c from rx);cases (show u=Value.bool d from ry)
   exact PySem.wpAny_is_plain rfl ⟨.bl (c==d),H,I,(by cases c<;>cases d<;>rfl),q⟩
 | isnot=>
  rcases qGT (show isC xa ya (!·)=some b from e) with ⟨rfl,rfl⟩ | ⟨c,d,rfl,rfl,rfl⟩
  ·cases qAr r2
   rw [qEj r1] at q
   exact L2.op_notN pins s σ H x _ v u Q I rx ry ⟨rfl,q⟩
  ·cases qAu r1;cases qAu r2
   cases (show v=Value.bool c from rx);cases (show u=Value.bool d from ry)
   exact PySem.wpAny_isNot_plain rfl ⟨.bl (!(c==d)),H,I,(by cases c<;>cases d<;>rfl),q⟩
theorem qDJ:∀ {bs:List Bool} {us:List Value},Vals (bs.map V.bl) us -> LSm.BoolsAre us bs
 | [],_,.nil=>.nil
 | b::bs,u::us,.cons r t=>by
  cases (show u=Value.bool b from r)
  exact .cons b (qDJ t)
theorem qFZ {A:Around} {E:Value -> Shared -> Prop} {prog:Program} {w:World} {s:Shared} {l:Addr} {vs:List Value} {bs:List Bool} {Q:Value -> Shared -> Prop} (hh:A.handled=none) (hl:s.heap.IsList l vs.toArray) (hb:LSm.BoolsAre vs bs)
  (h:∀ h' tk,(∀ b x,s.heap.get? b=some x -> h'.get? b=some x) -> Q (.bool (bs.all id)) { s with heap:=h',toks:=tk }):wpAny (model prog w) A (call (.builtin "all") [.ref l]) Q E s:=by
 have hlt:l < s.heap.objs.size:=by obtain ⟨_,e,_⟩:=hl;exact Heap.lt_size e
 refine call_all_walk (wpAny_pyIter_list hl ?_)
 refine ⟨s.heap.objs.size,[s.heap.objs.size,l],[s.heap.objs.size],vs.toArray.size,_,_,fun i=>(bs[i]?).getD true,rfl,Walks.list (A:=A.in1) hh _ l (Nat.ne_of_lt hlt) vs.toArray,
  ⟨⟨_,Heap.get?_push_size _ rfl,rfl,rfl⟩,hl.push _⟩,fun i v s' Q' E' hP hQ=>?_,fun h' tk hk=>?_⟩
 ·obtain ⟨b,e,rfl⟩:=hb.get i v (by simpa using hP)
  simp only [e,Option.getD_some] at hQ
  exact wpAny_truthy_bool hQ
 ·have e:((List.range vs.toArray.size).all fun i=>(bs[i]?).getD true)=bs.all id:=by
   rw [List.size_toArray,hb.length];exact LSm.range_all bs
  rw [e]
  exact h h' tk (LSm.kept_iter hk)
theorem qFO {A:Around} {E:Value -> Shared -> Prop} {prog:Program} {w:World} {s:Shared} {l:Addr} {vs:List Value} {bs:List Bool} {Q:Value -> Shared -> Prop} (hh:A.handled=none) (hl:s.heap.IsList l vs.toArray) (hb:LSm.BoolsAre vs bs)
  (h:∀ h' tk,(∀ b x,s.heap.get? b=some x -> h'.get? b=some x) -> Q (.bool (bs.any id)) { s with heap:=h',toks:=tk }):wpAny (model prog w) A (call (.builtin "any") [.ref l]) Q E s:=by
 have hlt:l < s.heap.objs.size:=by obtain ⟨_,e,_⟩:=hl;exact Heap.lt_size e
 refine call_any_walk (wpAny_pyIter_list hl ?_)
 refine ⟨s.heap.objs.size,[s.heap.objs.size,l],[s.heap.objs.size],vs.toArray.size,_,_,fun i=>(bs[i]?).getD false,rfl,Walks.list (A:=A.in1) hh _ l (Nat.ne_of_lt hlt) vs.toArray,
  ⟨⟨_,Heap.get?_push_size _ rfl,rfl,rfl⟩,hl.push _⟩,fun i v s' Q' E' hP hQ=>?_,fun h' tk hk=>?_⟩
 ·obtain ⟨b,e,rfl⟩:=hb.get i v (by simpa using hP)
  simp only [e,Option.getD_some] at hQ
  exact wpAny_truthy_bool hQ
 ·have e:((List.range vs.toArray.size).any fun i=>(bs[i]?).getD false)=bs.any id:=by
   rw [List.size_toArray,hb.length];exact LSm.range_any bs
  rw [e]
  exact h h' tk (LSm.kept_iter hk)
theorem qEW:∀ {xs:List V} {is:List Int} {us:List Value},qBO xs=some is -> Vals xs us -> us.length=is.length/\∀ i v,us[i]?=some v -> NumOf (is.getD i 0) v
 | [],is,_,e,.nil=>by cases e;exact ⟨rfl,fun i v e=>by simp at e⟩
 | x::r,is,u::us,e,.cons a t=>by
  unfold qBO at e
  split at e
  ·rename_i e';cases e'
  ·rename_i e';cases e'
   obtain ⟨js,e1,rfl⟩:=Option.map_eq_some_iff.mp e
   obtain ⟨l,g⟩:=qEW e1 t
   refine ⟨by simp [l],fun i v q=>?_⟩
   cases i with
   | zero=>
    cases q
    obtain ⟨w,rfl⟩:=a
    exact .inl ⟨w,rfl⟩
   | succ i=>exact g i v q
  ·rename_i e';cases e'
   obtain ⟨js,e1,rfl⟩:=Option.map_eq_some_iff.mp e
   obtain ⟨l,g⟩:=qEW e1 t
   refine ⟨by simp [l],fun i v q=>?_⟩
   cases i with
   | zero=>
    cases q
    exact .inr ⟨_,a,rfl⟩
   | succ i=>exact g i v q
  ·cases e
theorem qCZ:∀ {xs:List V} {is:List Int},qBO xs=some is -> xs.all flat=true
 | [],_,_=>rfl
 | x::r,is,e=>by
  unfold qBO at e
  split at e
  ·rename_i e';cases e'
  ·rename_i e';cases e'
   obtain ⟨js,e1,rfl⟩:=Option.map_eq_some_iff.mp e
   rw [List.all_cons,qCZ e1];rfl
  ·rename_i e';cases e'
   obtain ⟨js,e1,rfl⟩:=Option.map_eq_some_iff.mp e
   rw [List.all_cons,qCZ e1];rfl
  ·cases e
theorem qFP {A:Around} {E:Value -> Shared -> Prop} {prog:Program} {w:World} {s:Shared} {l:Addr} {vs:List Value} {xs:List V} {is:List Int} {Q:Value -> Shared -> Prop} (hh:A.handled=none) (hl:s.heap.IsList l vs.toArray) (ei:qBO xs=some is) (hb:Vals xs vs)
  (h:∀ h' tk t',(∀ b x,s.heap.get? b=some x -> h'.get? b=some x) -> Q (.int is.sum t') { s with heap:=h',toks:=tk }):wpAny (model prog w) A (call (.builtin "sum") [.ref l]) Q E s:=by
 have hlt:l < s.heap.objs.size:=by obtain ⟨_,e,_⟩:=hl;exact Heap.lt_size e
 obtain ⟨hlen,hn⟩:=qEW ei hb
 refine call_sum_walkAnyB (wpAny_pyIter_list hl ?_)
 refine ⟨s.heap.objs.size,_,_,_,_,_,_,fun i=>is.getD i 0,rfl,(Walks.list (prog:=prog) (w:=w) (A:=A.in1) hh s.heap.objs.size l (Nat.ne_of_lt hlt) vs.toArray).toS,
  ⟨⟨_,Heap.get?_push_size _ rfl,rfl,rfl⟩,hl.push _⟩,fun b hb=>?_,fun i v hP=>hn i v (by simpa using hP),fun s' t' hm=>?_⟩
 ·rcases List.mem_cons.mp hb with rfl | hb
  ·exact Heap.lt_size (Heap.get?_push_size _ rfl)
  ·obtain rfl:=List.mem_singleton.mp hb
   obtain ⟨_,e,_⟩:=hl
   exact Heap.lt_size (Heap.get?_push_of_some _ e)
 ·obtain ⟨h',g',d',tk',os'⟩:=s'
  have e1:g'=s.gens:=hm.gens
  have e2:d'=s.drawn:=hm.drawn
  have e3:os'=s.os:=hm.os
  subst e1 e2 e3
  have e:=preSum_getD is vs.toArray.size
  rw [List.size_toArray,hlen,List.take_of_length_le (Nat.le_refl _),<- hlen,<- List.size_toArray] at e
  rw [e]
  exact h h' tk' t' fun b o e=>hm.heap b o (fun hb=>absurd (Heap.lt_size e) ((List.mem_singleton.mp hb) ▸ Nat.lt_irrefl _)) (Heap.get?_push_of_some _ e)
theorem qC1:∀ {xs:List V} {is:List Int},qBe xs=some is -> xs=is.map V.int
 | [],is,e=>by cases e;rfl
 | .int i::r,is,e=>by
  simp only [qBe] at e
  obtain ⟨js,e1,rfl⟩:=Option.map_eq_some_iff.mp e
  rw [qC1 e1]
  rfl
 | .non::_,_,e=>by cases e
 | .bl _::_,_,e=>by cases e
 | .str _::_,_,e=>by cases e
 | .ref _::_,_,e=>by cases e
 | .byt _::_,_,e=>by cases e
 | .flt _::_,_,e=>by cases e
 | .ty _::_,_,e=>by cases e
theorem qBm:∀ {xs:List V} {is:List Bool},qBl xs=some is -> xs=is.map V.bl
 | [],is,e=>by cases e;rfl
 | .bl i::r,is,e=>by
  simp only [qBl] at e
  obtain ⟨js,e1,rfl⟩:=Option.map_eq_some_iff.mp e
  rw [qBm e1]
  rfl
 | .non::_,_,e=>by cases e
 | .int _::_,_,e=>by cases e
 | .str _::_,_,e=>by cases e
 | .ref _::_,_,e=>by cases e
 | .byt _::_,_,e=>by cases e
 | .flt _::_,_,e=>by cases e
 | .ty _::_,_,e=>by cases e
theorem qBw:∀ {us:List Value} {ns:List Int},IntsAre us ns -> Vals (ns.map V.int) us
 | _,_,.nil=>.nil
 | _,_,.cons n t r=>.cons ⟨_,rfl⟩ (qBw r)
theorem qGU (is:List Int):(is.map V.int).all flat=true:=by simp [flat]
theorem qC2 (is:List Bool):(is.map V.bl).all flat=true:=by simp [flat]
noncomputable def fnB:BF -> Value
 | .len=>.builtin "len" | .sum=>.builtin "sum" | .all=>.builtin "all" | .any=>.builtin "any" | .max=>.builtin "max" | .min=>.builtin "min"
 | .int=>.type "int" | .tuple=>.type "tuple" | .repr=>.builtin "repr" | .bits=>.builtin "int.bit_length"
variable (X G) in
noncomputable def qMf (f:BF):List V -> Hp -> VK -> Prop:=fun xs H Q=>∃ φ h ws v h',Rl X.K G φ h H/\rvs φ ws xs/\qMC f ws h=.ok (v,h')/\∀ φ' H' w,Ext φ φ' -> Rl X.K G φ' h' H' -> rv φ' v w -> Q w H'
theorem qEi {φ:List Addr} {hp:Heap} {x v:V} {u:Value} {d:PyData} (e:qHM x=some d) (r:rv φ x v) (ru:RelV v u):(∃ as,Reads hp u d as)/\d.hasDict=false/\d.depth<=0:=by
 unfold qHM at e
 split at e
 ·cases e;cases qAr r;cases (show u=Value.none from ru);exact ⟨⟨_,.none⟩,rfl,Nat.le_refl _⟩
 ·cases e;cases qAu r;cases (show u=Value.bool _ from ru);exact ⟨⟨_,.bool _⟩,rfl,Nat.le_refl _⟩
 ·cases e;cases qAB r;obtain ⟨t,rfl⟩:=ru;exact ⟨⟨_,.int _ _⟩,rfl,Nat.le_refl _⟩
 ·cases e;cases qA0 r;obtain ⟨t,rfl⟩:=ru;exact ⟨⟨_,.str _ _⟩,rfl,Nat.le_refl _⟩
 ·cases e
theorem qEP {φ:List Addr} {hp:Heap} {n:Nat} {f:V -> Option PyData} (hf:∀ x v u d,f x=some d -> rv φ x v -> RelV v u -> (∃ as,Reads hp u d as)/\d.hasDict=false/\d.depth<=n):∀ (xs ys:List V) (us:List Value) (ds:List PyData),qEx f xs=some ds -> rvs φ xs ys -> Vals ys us -> (∃ as,ReadsAll hp us ds as)/\PyData.hasDictAll ds=false/\PyData.depthAll ds<=n
 | [],ys,us,ds,e,r,ru=>by
  cases e;cases r;cases ru
  exact ⟨⟨_,.nil⟩,rfl,Nat.zero_le _⟩
 | x::xs,ys,us,ds,e,r,ru=>by
  unfold qEx at e
  obtain ⟨d,e1,e⟩:=Option.bind_eq_some_iff.mp e
  obtain ⟨ds',e2,rfl⟩:=Option.map_eq_some_iff.mp e
  cases r with
  | cons r1 r2=>
   cases ru with
   | cons u1 u2=>
    obtain ⟨⟨as,q1⟩,q2,q3⟩:=hf _ _ _ _ e1 r1 u1
    obtain ⟨⟨bs,p1⟩,p2,p3⟩:=qEP hf xs _ _ ds' e2 r2 u2
    exact ⟨⟨_,.cons q1 p1⟩,by show (d.hasDict||PyData.hasDictAll ds')=false;rw [q2,p2];rfl,Nat.max_le.mpr ⟨q3,p3⟩⟩
theorem qFL {pins:List (Addr×Obj)} {s:Shared} {σ:L2.St} {H:Hp} {φ:List Addr} {h:AH} (I:Inv X pins σ H s) (R:Rl X.K G φ h H):∀ (n:Nat) (x v:V) (u:Value) (d:PyData),dat h n x=some d -> rv φ x v -> RelV v u -> (∃ as,Reads s.heap u d as)/\d.hasDict=false/\d.depth<=n
 | 0,x,v,u,d,e,r,ru=>qEi e r ru
 | n + 1,x,v,u,d,e,r,ru=>by
  unfold dat at e
  split at e
  ·rename_i a
   obtain ⟨p,rfl,hp⟩:=qAN r
   cases (show u=Value.ref p from ru)
   split at e
   ·rename_i f xs ey
    obtain ⟨ds,e1,rfl⟩:=Option.map_eq_some_iff.mp e
    obtain ⟨p',zs,hp',hs,rs⟩:=R.lst (show qAJ h a=some xs by unfold qAJ;rw [ey])
    rw [hp] at hp';cases hp'
    obtain ⟨its,rv',pl,_⟩:=I.list hs
    obtain ⟨o,ho,hc,m,hd⟩:=pl.isList
    obtain ⟨⟨as,q1⟩,q2,q3⟩:=qEP (qFL I R n) xs zs its ds e1 rs rv'
    exact ⟨⟨_,.list ho hc hd (by simpa using q1)⟩,q2,Nat.succ_le_succ q3⟩
   ·rename_i xs ey
    obtain ⟨ds,e1,rfl⟩:=Option.map_eq_some_iff.mp e
    obtain ⟨p',zs,hp',hs,rs⟩:=R.tup (show qAU h a=some xs by unfold qAU;rw [ey])
    rw [hp] at hp';cases hp'
    obtain ⟨its,rv',pl,_⟩:=I.tuple hs
    obtain ⟨o,ho,hc,m,hd⟩:=pl
    obtain ⟨⟨as,q1⟩,q2,q3⟩:=qEP (qFL I R n) xs zs its ds e1 rs rv'
    exact ⟨⟨_,.tuple ho hc hd (by simpa using q1)⟩,q2,Nat.succ_le_succ q3⟩
   ·cases e
  ·obtain ⟨a,b,c⟩:=qEi (hp:=s.heap) e r ru
   exact ⟨a,b,Nat.le_trans c (Nat.zero_le _)⟩
theorem qGx {pins:List (Addr×Obj)} {s:Shared} {σ:L2.St} {H:Hp} {φ:List Addr} {h:AH} (I:Inv X pins σ H s) (R:Rl X.K G φ h H) (x v:V) (u:Value) (d:PyData) (e:qHK h x=some d) (r:rv φ x v) (ru:RelV v u):
  (∃ as,Reads s.heap u d as/\(d.hasDict=true -> sysModules∉as))/\d.depth<=3:=by
 have go:∀ {as:List Addr},Reads s.heap u d as -> d.hasDict=false -> (∃ as,Reads s.heap u d as/\(d.hasDict=true -> sysModules∉as)):=fun {as} q z=>⟨as,q,fun y=>by rw [z] at y;cases y⟩
 unfold qHK at e
 split at e
 ·rename_i a
  split at e
  ·rename_i ey
   cases e
   obtain ⟨p,hp,hs⟩:=R.at ey
   obtain ⟨q,rfl,hq⟩:=qAN r
   rw [hp] at hq;cases hq
   cases (show u=Value.ref p from ru)
   obtain ⟨_,hne,vs,hkv,o,es,ep,h1,h2,h3,h4,h5,h6⟩:=(show L2.ObjOk X.prog X.w H s.heap p (.dK []) from I.hok p _ hs)
   cases hkv
   have he:es.toList=[]:=by cases hh:es.toList with | nil=>rfl | cons a b=>rw [hh] at h5;cases h5
   refine ⟨⟨_,.dict (as:=[]) (bs:=[]) h1 h2.1 h3 (by rw [he];exact .nil) (by rw [he];exact .nil),fun _ z=>?_⟩,by decide⟩
   simp at z
   rw [<- z] at hne
   simp at hne
  ·obtain ⟨⟨as,q1⟩,q2,q3⟩:=qFL I R 3 _ v u d e r ru
   exact ⟨go q1 q2,q3⟩
 ·obtain ⟨⟨as,q1⟩,q2,q3⟩:=qEi (hp:=s.heap) e r ru
  exact ⟨go q1 q2,Nat.le_trans q3 (Nat.zero_le _)⟩
theorem qEw {pins:List (Addr×Obj)} {s:Shared} {σ:L2.St} {H:Hp} {φ:List Addr} {h:AH} (I:Inv X pins σ H s) (R:Rl X.K G φ h H):∀ (xs ys:List V) (us:List Value) (ds:List PyData),qEx (qHK h) xs=some ds -> rvs φ xs ys -> Vals ys us ->
  (∃ as,ReadsAll s.heap us ds as)/\PyData.depthAll ds<=3/\(PyData.showableAll ds=true -> (∀ t∈PyData.shownAll ds,t.length<=sizeLine) -> ∃ bs,ReadAtMost s.heap (PyData.depthAll ds) bs/\ReprAllK X.prog X.w bs s.heap (PyData.depthAll ds) us (PyData.shownAll ds))
 | [],ys,us,ds,e,r,ru=>by
  cases e;cases r;cases ru
  exact ⟨⟨_,.nil⟩,Nat.zero_le _,fun _ _=>⟨[],(fun _ h=>nomatch h),by simp only [PyData.shownAll];exact .nil⟩⟩
 | x::xs,ys,us,ds,e,r,ru=>by
  unfold qEx at e
  obtain ⟨d,e1,e⟩:=Option.bind_eq_some_iff.mp e
  obtain ⟨ds',e2,rfl⟩:=Option.map_eq_some_iff.mp e
  cases r with
  | cons r1 r2=>
   cases ru with
   | cons u1 u2=>
    obtain ⟨⟨as,q1,q2⟩,q3⟩:=qGx I R _ _ _ _ e1 r1 u1
    obtain ⟨⟨bs,p1⟩,p2,p3⟩:=qEw I R xs _ _ ds' e2 r2 u2
    refine ⟨⟨_,.cons q1 p1⟩,Nat.max_le.mpr ⟨q3,p2⟩,fun hs hz=>?_⟩
    have hs':d.showable=true/\PyData.showableAll ds'=true:=by simpa [PyData.showableAll] using hs
    obtain ⟨b1,hb1,k1⟩:=ReprK.of_reads (prog:=X.prog) (w:=X.w) q1 hs'.1 q2 (hz _ (by simp only [PyData.shownAll];exact List.mem_cons_self ..))
    obtain ⟨b2,hb2,k2⟩:=p3 hs'.2 (fun t ht=>hz t (by simp only [PyData.shownAll];exact List.mem_cons_of_mem _ ht))
    refine ⟨b1++b2,?_,?_⟩
    ·intro b hm
     simp only [PyData.depthAll]
     rcases List.mem_append.mp hm with hm | hm
     ·obtain ⟨d',as',r',hd'⟩:=hb1 b hm
      exact ⟨d',as',r',Nat.le_trans hd' (Nat.le_max_left _ _)⟩
     ·obtain ⟨d',as',r',hd'⟩:=hb2 b hm
      exact ⟨d',as',r',Nat.le_trans hd' (Nat.le_max_right _ _)⟩
    ·simp only [PyData.depthAll,PyData.shownAll]
     exact .cons ((k1.more fun b hb=>List.mem_append_left _ hb).level_le (Nat.le_max_left _ _)) (k2.more_le (fun b hb=>List.mem_append_right _ hb) (Nat.le_max_right _ _))
theorem qDn (hc:X.calm=true) (hu:X.A.units + 8 < cLine) (hgd:X.A.guards=some []):∀ f,qA6 X (fnB f) (qMf X G f):=by
 intro f pins s σ H xs us Q I r ⟨φ,h,ws,v,h',R,rw',e,k⟩
 cases f with
 | len=>
  replace e:=qBM e
  obtain ⟨x0,rfl,e⟩:=e
  replace e:=qBE e
  obtain ⟨a,rfl,e⟩:=e
  split at e
  ·rename_i ys ey
   cases e
   cases rw' with
   | cons r1 t=>
    cases t
    obtain ⟨p,rfl,hp⟩:=qAN r1
    obtain ⟨p',zs,hp',hs,rs⟩:=R.its ey
    rw [hp] at hp';cases hp'
    refine L2.call_len_seq pins s σ H _ us Q I r ⟨p,zs,rfl,hs,?_⟩
    rw [<- Paired.length rs]
    exact k φ H _ (.refl _) R rfl
  ·cases e
 | sum=>
  replace e:=qBM e
  obtain ⟨x0,rfl,e⟩:=e
  replace e:=qBE e
  obtain ⟨a,rfl,e⟩:=e
  split at e
  ·rename_i ys ey
   split at e
   ·rename_i is ei
    cases e
    cases rw' with
    | cons r1 t=>
     cases t
     obtain ⟨p,rfl,hp⟩:=qAN r1
     obtain ⟨p',zs,hp',hs,rs⟩:=R.lst ey
     rw [hp] at hp';cases hp'
     have hz:=qCP (qCZ ei) rs
     subst hz
     obtain ⟨its,rv',pl,_⟩:=I.list hs
     obtain ⟨u,rfl,ru⟩:=L2.vals1 r
     cases ru
     exact qFP (I.ok.hd hc) pl.isList ei rv' fun h1 tk t' hk=>⟨.int is.sum,H,I.kept hk,⟨_,rfl⟩,k φ H _ (.refl _) R rfl⟩
   ·cases e
  ·cases e
 | all=>
  replace e:=qBM e
  obtain ⟨x0,rfl,e⟩:=e
  replace e:=qBE e
  obtain ⟨a,rfl,e⟩:=e
  split at e
  ·rename_i ys ey
   split at e
   ·rename_i is ei
    cases e
    cases rw' with
    | cons r1 t=>
     cases t
     obtain ⟨p,rfl,hp⟩:=qAN r1
     obtain ⟨p',zs,hp',hs,rs⟩:=R.lst ey
     rw [hp] at hp';cases hp'
     have hm:=qBm ei
     subst hm
     have hz:=qCP (qC2 is) rs
     subst hz
     obtain ⟨its,rv',pl,_⟩:=I.list hs
     obtain ⟨u,rfl,ru⟩:=L2.vals1 r
     cases ru
     exact qFZ (I.ok.hd hc) pl.isList (qDJ rv') fun h1 tk hk=>⟨.bl (is.all id),H,I.kept hk,rfl,k φ H _ (.refl _) R rfl⟩
   ·cases e
  ·cases e
 | any=>
  replace e:=qBM e
  obtain ⟨x0,rfl,e⟩:=e
  replace e:=qBE e
  obtain ⟨a,rfl,e⟩:=e
  split at e
  ·rename_i ys ey
   split at e
   ·rename_i is ei
    cases e
    cases rw' with
    | cons r1 t=>
     cases t
     obtain ⟨p,rfl,hp⟩:=qAN r1
     obtain ⟨p',zs,hp',hs,rs⟩:=R.lst ey
     rw [hp] at hp';cases hp'
     have hm:=qBm ei
     subst hm
     have hz:=qCP (qC2 is) rs
     subst hz
     obtain ⟨its,rv',pl,_⟩:=I.list hs
     obtain ⟨u,rfl,ru⟩:=L2.vals1 r
     cases ru
     exact qFO (I.ok.hd hc) pl.isList (qDJ rv') fun h1 tk hk=>⟨.bl (is.any id),H,I.kept hk,rfl,k φ H _ (.refl _) R rfl⟩
   ·cases e
  ·cases e
 | max=>
  replace e:=two_inv e
  obtain ⟨x0,y0,rfl,e⟩:=e
  replace e:=qAl e
  obtain ⟨i,j,rfl,rfl,e⟩:=e
  cases e
  cases rw' with
  | cons r1 t=>
   cases t with
   | cons r2 t=>
    cases t
    cases qAB r1;cases qAB r2
    exact L2.call_max2 hc pins s σ H _ us Q I r ⟨_,_,rfl,k φ H _ (.refl _) R rfl⟩
 | min=>
  replace e:=two_inv e
  obtain ⟨x0,y0,rfl,e⟩:=e
  replace e:=qAl e
  obtain ⟨i,j,rfl,rfl,e⟩:=e
  cases e
  cases rw' with
  | cons r1 t=>
   cases t with
   | cons r2 t=>
    cases t
    cases qAB r1;cases qAB r2
    exact L2.call_min2 hc pins s σ H _ us Q I r ⟨_,_,rfl,k φ H _ (.refl _) R rfl⟩
 | bits=>
  replace e:=qBM e
  obtain ⟨x0,rfl,e⟩:=e
  split at e
  ·cases e
   cases rw' with
   | cons r1 t=>
    cases t
    cases qAB r1
    obtain ⟨u,rfl,ru⟩:=L2.vals1 r
    obtain ⟨t,rfl⟩:=ru
    rename_i j
    exact call_int_bit_length ⟨.int ((Builtin.Int.intBits j:Nat):Int),H,I.tok _,⟨_,rfl⟩,k φ H _ (.refl _) R rfl⟩
  ·cases e
 | tuple=>
  replace e:=qBM e
  obtain ⟨x0,rfl,e⟩:=e
  replace e:=qBE e
  obtain ⟨a,rfl,e⟩:=e
  split at e
  ·rename_i fz ys ey
   cases e
   cases rw' with
   | cons r1 t=>
    cases t
    obtain ⟨p,rfl,hp⟩:=qAN r1
    obtain ⟨p',zs,hp',hs,rs⟩:=R.lst (i:=_) (xs:=ys) (by unfold qAJ;rw [ey])
    rw [hp] at hp';cases hp'
    exact L2.call_tuple_of pins s σ H _ us Q I r ⟨p,zs,rfl,.inl ⟨hs,fun l hl=>k (φ++[l]) _ _ ⟨[l],rfl⟩ (R.newT hl rs) R.lastRef⟩⟩
  ·rename_i ys ey
   cases e
   cases rw' with
   | cons r1 t=>
    cases t
    obtain ⟨p,rfl,hp⟩:=qAN r1
    obtain ⟨p',zs,hp',hs,rs⟩:=R.tup (i:=_) (xs:=ys) (by unfold qAU;rw [ey])
    rw [hp] at hp';cases hp'
    exact L2.call_tuple_of pins s σ H _ us Q I r ⟨p,zs,rfl,.inr ⟨hs,k φ H _ (.refl _) R hp⟩⟩
  ·cases e
 | int=>
  replace e:=qBM e
  obtain ⟨x0,rfl,e⟩:=e
  split at e
  ·cases e
   cases rw' with
   | cons r1 t=>
    cases t
    cases qAB r1
    exact L2.call_int1 pins s σ H _ us Q I r (.inl ⟨_,rfl,k φ H _ (.refl _) R rfl⟩)
  ·cases e
   cases rw' with
   | cons r1 t=>
    cases t
    cases qAu r1
    exact L2.call_int1 pins s σ H _ us Q I r (.inr ⟨_,rfl,k φ H _ (.refl _) R rfl⟩)
  ·cases e
 | repr=>
  replace e:=qBM e
  obtain ⟨x0,rfl,e⟩:=e
  unfold qMK at e
  split at e
  ·rename_i v0 ev0
   cases e
   obtain ⟨d,e1,e2⟩:=Option.bind_eq_some_iff.mp ev0
   unfold qFa at e2
   split at e2
   ·rename_i hsh
    cases e2
    cases rw' with
    | cons r1 t=>
     cases t
     obtain ⟨u,rfl,ru⟩:=L2.vals1 r
     cases x0 with
     | ref a=>
      obtain ⟨p,rfl,hp⟩:=qAN r1
      cases (show u=Value.ref p from ru)
      unfold qKD at e1
      dsimp only at e1
      split at e1
      ·rename_i ws ey
       obtain ⟨ds,e2,rfl⟩:=Option.map_eq_some_iff.mp e1
       obtain ⟨p',zs,hp',hs,rs⟩:=R.tup (show qAU h a=some ws by unfold qAU;rw [ey])
       rw [hp] at hp';cases hp'
       obtain ⟨its,rv',pl,_⟩:=I.tuple hs
       obtain ⟨o,ho,hc',m,hd⟩:=pl
       obtain ⟨⟨as,q1⟩,q2,q3⟩:=qEw I R ws zs its ds e2 rs rv'
       have hz':(tupleText (PyData.shownAll ds)).length<=sizeLine:=by simpa only [PyData.shown] using hsh.2
       obtain ⟨bs,hb,hk⟩:=q3 (by simpa [PyData.showable] using hsh.1) (fun t ht=>Nat.le_trans (tupleText_mem_le ht) hz')
       have hna:p∉bs:=not_mem_of_deeper (.tuple ho hc' hd (by simpa using q1)) (by simp only [PyData.depth];omega) hb
       refine call_repr_slot (by omega) ⟨o,ho,hc'⟩ F.slot_tuple_repr (call_tuple_reprK ho hc' hd hna (by simpa using hk) hgd (fun b _=>Clear.nil b) (by show X.A.units + 1 + _ < cLine;omega) (fun _ _ e=>e) (fun h1 u tk hk=>⟨_,_,rfl,?_⟩) hz')
       exact ⟨.str (PyData.shown (.tuple ds)),H,I.kept hk,⟨u,by simp only [PyData.shown]⟩,k φ H _ (.refl _) R rfl⟩
      ·rename_i ey
       cases e1
       obtain ⟨⟨as,q1,q2⟩,q3⟩:=qGx I R _ _ _ (.dict []) (show qHK h (.ref a)=some (.dict []) by unfold qHK;dsimp only;rw [ey]) r1 ru
       refine repr_of_reads' q1 hsh.1 q2 hgd (by omega) (fun b o e=>e) (fun h1 u tk hk=>?_) hsh.2
       exact ⟨.str (PyData.shown (.dict [])),H,I.kept hk,⟨_,rfl⟩,k φ H _ (.refl _) R rfl⟩
      obtain ⟨⟨as,q1⟩,q2,q3⟩:=qFL I R 4 _ _ _ d e1 r1 ru
      refine repr_of_reads' q1 hsh.1 (fun z=>by rw [q2] at z;cases z) hgd (by omega) (fun b o e=>e) (fun h1 u tk hk=>?_) hsh.2
      exact ⟨.str d.shown,H,I.kept hk,⟨_,rfl⟩,k φ H _ (.refl _) R rfl⟩
     | non=>
      cases e1;cases qAr r1;cases (show u=Value.none from ru)
      exact PySem.P.repr_of_none ⟨.str (PyData.shown .none),H,I.tok _,⟨_,rfl⟩,k φ H _ (.refl _) R rfl⟩
     | bl b=>
      cases e1;cases qAu r1;cases (show u=Value.bool b from ru)
      exact PySem.P.repr_of_bool ⟨.str (PyData.shown (.bool b)),H,I.tok _,⟨_,by cases b<;>rfl⟩,k φ H _ (.refl _) R rfl⟩
     | int i=>
      cases e1;cases qAB r1;obtain ⟨tt,rfl⟩:=ru
      exact PySem.P.repr_of_int (of_decide_eq_true hsh.1) ⟨.str (PyData.shown (.int i)),H,I.tok _,⟨_,rfl⟩,k φ H _ (.refl _) R rfl⟩
     | str x=>
      cases e1;cases qA0 r1;obtain ⟨tt,rfl⟩:=ru
      exact PySem.P.repr_of_str ⟨.str (PyData.shown (.str x)),H,I.tok _,⟨_,rfl⟩,k φ H _ (.refl _) R rfl⟩ hsh.2
     | _=>cases e1
   ·cases e2
  ·cases e
end
end PI
namespace PI
open PySem PySem.SeqAt
open AutoSeq1 (wpAny_loadPart')
open MeetsSeq MeetsSeq2 MeetsSeq3 SeqRoads2
end PI
namespace PI
open PySem PySem.Spec PyProof.Rows PySem.SeqAt
open L2 (V Hp HO Cx PE PT PA PS PSs PG PW TE TT TA TS VK upd qAO qAH SqL SqT qFH Inv RelV Vals EP TP AP SP OpR qA6 R2)
theorem qBi {r:RV} {b:Bool} {h:AH} (e:asB r=.ok (b,h)):r=.ok (.bl b,h):=by
 unfold asB at e
 obtain ⟨⟨v,h1⟩,e1,e2⟩:=Res.bind_inv e
 dsimp only at e2
 split at e2
 ·cases e2;exact e1
 ·cases e2
theorem qIY {r:RV} {b:Bool} {h:AH} (e:r=.ok (.bl b,h)):asB r=.ok (b,h):=by
 subst e
 rfl
section
variable {X:Cx} {G:List Addr} {F:Nat -> List V -> AH -> RV} {a b c:E} {as:Es} {ea eb ec:Expr} {es:List Expr} {pos:Pos}
theorem qDV {K:PySem.W.Frag} {σ:St} {H:Hp} {Q:Bool -> Hp -> Prop} (q:tT K G F a σ H Q):tE K G F a σ H (fun x H'=>∃ k,x=.bl k/\Q k H'):=by
 obtain ⟨φ,h,σa,b,h',R,rs,e,k⟩:=q
 exact ⟨φ,h,σa,.bl b,h',R,rs,qBi e,fun φ' H' w x' R' r'=>⟨b,qAu r',k φ' H' x' R'⟩⟩
theorem qAR (h:SE X G F ea a) (he:∀ whole,isTrue ea X.env whole=(do let v <- whole;standAt ea.pos;holding [v] (truthy v))):ST X G F ea a:=
 qHh (L2.pt_val h he) fun _ _ _ q=>qDV q
theorem qID {op:COp} {σc:St} {H:Hp} {Q:VK} (q:tE X.K G F (.cmp op a b) σc H Q):L2.tOp (qL7 X G op) (tE X.K G F a) (tE X.K G F b) σc H Q:=by
 obtain ⟨φ,h,σ,v,h',R,rs,e,k⟩:=q
 unfold ev at e
 obtain ⟨⟨x,h1⟩,e1,e⟩:=Res.bind_inv e
 obtain ⟨⟨y,h2⟩,e2,e⟩:=Res.bind_inv e
 refine qBh R rs e1 e2 fun φ2 H2 xc yc x2 R2 r1 r2=>?_
 unfold qKC at e
 dsimp only at e
 split at e
 ·rename_i t et
  cases e
  exact ⟨φ2,_,x,y,t,R2,r1,r2,et,k φ2 H2 _ x2 R2 rfl⟩
 ·cases e
theorem qLc {op:COp} (hu:X.A.units + 8 < cLine) (ha:SE X G F ea a) (hb:SE X G F eb b) (hm:behindInMarks (opC op) eb=false):SE X G F (.Compare ea [opC op] [eb] pos) (.cmp op a b):=
 qAn (L2.pe_cmpR (qCA hu op) ha hb hm) fun _ _ _=>qID
theorem qKe {op:COp} (hu:X.A.units + 8 < cLine) (ha:SE X G F ea a) (hb:SE X G F eb b) (hm:behindInMarks (opC op) eb=false):ST X G F (.Compare ea [opC op] [eb] pos) (.cmp op a b):=
 qHh (L2.pt_cmpR (qCA hu op) ha hb hm) fun _ _ _ q=>qID (qDV q)
theorem qEt {o1 o2:COp} {σc:St} {H:Hp} {Q:VK} (q:tE X.K G F (.cmp2 o1 o2 a b c) σc H Q):L2.tChain (qL7 X G o1) (qL7 X G o2) (tE X.K G F a) (tE X.K G F b) (tE X.K G F c) σc H Q:=by
 obtain ⟨φ,h,σ,v,h',R,rs,e,k⟩:=q
 unfold ev at e
 obtain ⟨⟨x,h1⟩,e1,e⟩:=Res.bind_inv e
 obtain ⟨⟨y,h2⟩,e2,e⟩:=Res.bind_inv e
 refine qBh R rs e1 e2 fun φ2 H2 xc yc x2 R2 r1 r2=>?_
 dsimp only at e
 split at e
 ·rename_i et
  refine ⟨φ2,_,x,y,true,R2,r1,r2,et,true,rfl,?_⟩
  rw [if_pos rfl]
  obtain ⟨⟨z,h3⟩,e3,e⟩:=Res.bind_inv e
  refine ⟨φ2,_,σ,z,h3,R2,rst.mono x2 rs,e3,fun φ3 H3 zc x3 R3 r3=>?_⟩
  unfold qKC at e
  dsimp only at e
  split at e
  ·rename_i t et
   cases e
   exact ⟨φ3,_,y,z,t,R3,rv.mono x3 r2,r3,et,k φ3 H3 _ (x2.trans x3) R3 rfl⟩
  ·cases e
 ·rename_i et
  cases e
  refine ⟨φ2,_,x,y,false,R2,r1,r2,et,false,rfl,?_⟩
  rw [if_neg (by decide)]
  exact k φ2 H2 _ x2 R2 rfl
 ·cases e
theorem qHt {o1 o2:COp} (hu:X.A.units + 8 < cLine) (ha:SE X G F ea a) (hb:SE X G F eb b) (hc:SE X G F ec c) (hm:lastMarks [opC o1,opC o2] [eb,ec]=false):SE X G F (.Compare ea [opC o1,opC o2] [eb,ec] pos) (.cmp2 o1 o2 a b c):=
 qAn (L2.pe_chain (qCA hu o1) (qCA hu o2) ha hb hc hm) fun _ _ _=>qEt
theorem qHV {o1 o2:COp} (hu:X.A.units + 8 < cLine) (ha:SE X G F ea a) (hb:SE X G F eb b) (hc:SE X G F ec c) (hm:lastMarks [opC o1,opC o2] [eb,ec]=false):ST X G F (.Compare ea [opC o1,opC o2] [eb,ec] pos) (.cmp2 o1 o2 a b c):=
 qHh (L2.pt_chain (qCA hu o1) (qCA hu o2) ha hb hc hm) fun _ _ _ q=>qEt (qDV q)
section
open L2
end
theorem qJ8 {σc:St} {H:Hp} {Q:VK} (q:tE X.K G F (.and a b) σc H Q):L2.tAndV (tE X.K G F a) (tE X.K G F b) σc H Q:=by
 obtain ⟨φ,h,σ,v,h',R,rs,e,k⟩:=q
 unfold ev at e
 obtain ⟨⟨x,h1⟩,e1,e⟩:=Res.bind_inv e
 refine ⟨φ,h,σ,.bl x,h1,R,rs,qBi e1,fun φ1 H1 w x1 R1 r1=>⟨x,qAu r1,?_⟩⟩
 dsimp only at e
 cases x with
 | true=>
  rw [if_pos rfl] at e ⊢
  exact ⟨φ1,h1,σ,v,h',R1,rst.mono x1 rs,e,fun φ2 H2 w2 x2 R2 r2=>k φ2 H2 w2 (x1.trans x2) R2 r2⟩
 | false=>
  rw [if_neg (by decide)] at e ⊢
  cases e
  exact k φ1 H1 _ x1 R1 rfl
theorem qLn {σc:St} {H:Hp} {Q:VK} (q:tE X.K G F (.or a b) σc H Q):L2.tOrV (tE X.K G F a) (tE X.K G F b) σc H Q:=by
 obtain ⟨φ,h,σ,v,h',R,rs,e,k⟩:=q
 unfold ev at e
 obtain ⟨⟨x,h1⟩,e1,e⟩:=Res.bind_inv e
 refine ⟨φ,h,σ,.bl x,h1,R,rs,qBi e1,fun φ1 H1 w x1 R1 r1=>⟨x,qAu r1,?_⟩⟩
 dsimp only at e
 cases x with
 | false=>
  rw [if_neg (by decide)] at e ⊢
  exact ⟨φ1,h1,σ,v,h',R1,rst.mono x1 rs,e,fun φ2 H2 w2 x2 R2 r2=>k φ2 H2 w2 (x1.trans x2) R2 r2⟩
 | true=>
  rw [if_pos rfl] at e ⊢
  cases e
  exact k φ1 H1 _ x1 R1 rfl
theorem qLQ {σc:St} {H:Hp} {Q:Bool -> Hp -> Prop} (q:tT X.K G F (.and a b) σc H Q):L2.tAnd (tT X.K G F a) (tT X.K G F b) σc H Q:=by
 obtain ⟨φ,h,σ,t,h',R,rs,e,k⟩:=q
 have e:=qBi e
 unfold ev at e
 obtain ⟨⟨x,h1⟩,e1,e⟩:=Res.bind_inv e
 refine ⟨φ,h,σ,x,h1,R,rs,e1,fun φ1 H1 x1 R1=>?_⟩
 dsimp only at e
 cases x with
 | true=>
  rw [if_pos rfl] at e ⊢
  exact ⟨φ1,h1,σ,t,h',R1,rst.mono x1 rs,qIY e,fun φ2 H2 x2 R2=>k φ2 H2 (x1.trans x2) R2⟩
 | false=>
  rw [if_neg (by decide)] at e ⊢
  cases e
  exact k φ1 H1 x1 R1
theorem qMY {σc:St} {H:Hp} {Q:Bool -> Hp -> Prop} (q:tT X.K G F (.or a b) σc H Q):L2.tOr (tT X.K G F a) (tT X.K G F b) σc H Q:=by
 obtain ⟨φ,h,σ,t,h',R,rs,e,k⟩:=q
 have e:=qBi e
 unfold ev at e
 obtain ⟨⟨x,h1⟩,e1,e⟩:=Res.bind_inv e
 refine ⟨φ,h,σ,x,h1,R,rs,e1,fun φ1 H1 x1 R1=>?_⟩
 dsimp only at e
 cases x with
 | false=>
  rw [if_neg (by decide)] at e ⊢
  exact ⟨φ1,h1,σ,t,h',R1,rst.mono x1 rs,qIY e,fun φ2 H2 x2 R2=>k φ2 H2 (x1.trans x2) R2⟩
 | true=>
  rw [if_pos rfl] at e ⊢
  cases e
  exact k φ1 H1 x1 R1
variable (X G F) in
noncomputable abbrev SW (e:Expr) (a:E):Prop:=PW X e (tT X.K G F a)
theorem qL3 {e:Expr} {t t':TT} (h:PW X e t) (w:∀ σ H Q,t' σ H Q -> t σ H Q):PW X e t':=fun wh pins s σ H Q I q=>h wh pins s σ H Q I (w σ H Q q)
theorem qLk {qCH:List Expr} (ha:SE X G F ea a) (hb:SE X G F (.BoolOp .And (eb::qCH) pos) b):SE X G F (.BoolOp .And (ea::eb::qCH) pos) (.and a b):=qAn (L2.pe_and ha hb) fun _ _ _=>qJ8
theorem qMw {qCH:List Expr} (ha:SE X G F ea a) (hb:SE X G F (.BoolOp .Or (eb::qCH) pos) b):SE X G F (.BoolOp .Or (ea::eb::qCH) pos) (.or a b):=qAn (L2.pe_or ha hb) fun _ _ _=>qLn
theorem qK1 {qCH:List Expr} (ha:ST X G F ea a) (hb:SW X G F (.BoolOp .And (eb::qCH) pos) b):SW X G F (.BoolOp .And (ea::eb::qCH) pos) (.and a b):=qL3 (L2.pw_and ha hb) fun _ _ _=>qLQ
theorem qNM {qCH:List Expr} (ha:ST X G F ea a) (hb:SW X G F (.BoolOp .Or (eb::qCH) pos) b):SW X G F (.BoolOp .Or (ea::eb::qCH) pos) (.or a b):=qL3 (L2.pw_or ha hb) fun _ _ _=>qMY
theorem qLd (ha:SE X G F ea a):SE X G F (.UnaryOp .Not ea pos) (.not a):=by
 refine qAn (L2.pe_not ha) fun σc H Q q=>?_
 obtain ⟨φ,h,σ,v,h',R,rs,e,k⟩:=q
 unfold ev at e
 obtain ⟨⟨x,h1⟩,e1,e⟩:=Res.bind_inv e
 cases e
 exact ⟨φ,h,σ,.bl x,_,R,rs,qBi e1,fun φ1 H1 w x1 R1 r1=>⟨x,qAu r1,k φ1 H1 _ x1 R1 rfl⟩⟩
theorem qLm (ha:ST X G F ea a):ST X G F (.UnaryOp .Not ea pos) (.not a):=by
 refine qHh (L2.pt_not ha) fun σc H Q q=>?_
 obtain ⟨φ,h,σ,t,h',R,rs,e,k⟩:=q
 have e:=qBi e
 unfold ev at e
 obtain ⟨⟨x,h1⟩,e1,e⟩:=Res.bind_inv e
 cases e
 exact ⟨φ,h,σ,x,_,R,rs,e1,fun φ1 H1 x1 R1=>k φ1 H1 x1 R1⟩
noncomputable def qAS:Expr -> Bool
 | .Starred ..=>false
 | _=>true
theorem qAD {e:Expr} {env:Env} (h:qAS e=true):starEach (e::es) env=(false,eval e env)::starEach es env:=by
 cases e<;>first | rfl | cases h
theorem qBT {env:Env}:∀ {es:List Expr},es.all qAS=true -> (backTo pos (starEach es env)).any (·.1)=false
 | [],_=>rfl
 | e::es,h=>by
  simp only [List.all_cons,Bool.and_eq_true] at h
  rw [qAD h.1]
  show (false||(backTo pos (starEach es env)).any (·.1))=false
  rw [qBT h.2]
  rfl
theorem qLe:SA X G F [] .nil:=by
 refine qLK L2.pa_nil fun σc H Q q=>?_
 obtain ⟨φ,h,σ,v,h',R,rs,e,k⟩:=q
 unfold evs at e
 cases e
 exact k φ H [] (.refl _) R .nil
theorem qJ4 (hn:qAS ea=true) (ha:SE X G F ea a) (hr:SA X G F es as):SA X G F (ea::es) (.cons a as):=by
 refine qLK (L2.pa_cons ha hr (qAD hn)) fun σc H Q q=>?_
 obtain ⟨φ,h,σ,v,h',R,rs,e,k⟩:=q
 unfold evs at e
 obtain ⟨⟨x,h1⟩,e1,e⟩:=Res.bind_inv e
 obtain ⟨⟨xs,h2⟩,e2,e⟩:=Res.bind_inv e
 cases e
 exact ⟨φ,h,σ,x,h1,R,rs,e1,fun φ1 H1 w x1 R1 r1=>⟨φ1,h1,σ,xs,_,R1,rst.mono x1 rs,e2,fun φ2 H2 ws x2 R2 r2=>k φ2 H2 _ (x1.trans x2) R2 (.cons (rv.mono x2 r1) r2)⟩⟩
theorem qKi (h:SA X G F es as):SE X G F (.List es pos) (.lst as):=by
 refine qAn (L2.pe_lst h) fun σc H Q q=>?_
 obtain ⟨φ,h,σ,v,h',R,rs,e,k⟩:=q
 unfold ev at e
 obtain ⟨⟨xs,h1⟩,e1,e⟩:=Res.bind_inv e
 refine ⟨φ,h,σ,xs,h1,R,rs,e1,fun φ1 H1 ws x1 R1 r1=>?_⟩
 dsimp only at e
 split at e
 ·rename_i hl
  cases e
  refine ⟨by rw [<- Paired.length r1];exact Nat.le_trans hl qCs,fun p hp=>k (φ1++[p]) _ _ (x1.trans ⟨[p],rfl⟩) (R1.newL hp r1) R1.lastRef⟩
 ·cases e
theorem qG3:SE X G F (.Dict [] [] pos) .dnew:=by
 intro pins s σc H Q I q
 obtain ⟨φ,h,σ,v,h',R,rs,e,k⟩:=q
 unfold ev at e
 cases e
 have hbig:sysModules < s.heap.objs.size:=Nat.lt_trans (by decide) (I.mod.glob.keeps I.bk).lt
 have hn:=I.hok.fresh (Nat.le_refl s.heap.objs.size)
 exact wpAny_Dict_empty ⟨.ref s.heap.objs.size,_,I.laid (a:=s.heap.objs.size) (o:=.dK []) (t':=s.toks) (fun _ _ q=>Heap.get?_push_of_some _ q) (Nat.le_refl _)
  ⟨Nat.zero_le _,beq_eq_false_iff_ne.mpr (Ne.symm (Nat.ne_of_lt hbig)),[],.nil,Heap.DictOf.new s.heap⟩,rfl,
  k (φ++[s.heap.objs.size]) _ _ ⟨[s.heap.objs.size],rfl⟩ (R.new hn (o:=.ob (.dct [])) qAO) R.lastRef⟩
theorem qIi {x1} (h:SA X G F es as):SE X G F (.Tuple es x1 pos) (.tup as):=by
 refine qAn (L2.pe_tup h) fun σc H Q q=>?_
 obtain ⟨φ,h,σ,v,h',R,rs,e,k⟩:=q
 unfold ev at e
 obtain ⟨⟨xs,h1⟩,e1,e⟩:=Res.bind_inv e
 refine ⟨φ,h,σ,xs,h1,R,rs,e1,fun φ1 H1 ws x1 R1 r1=>?_⟩
 dsimp only at e
 split at e
 ·rename_i hl
  cases e
  refine ⟨by rw [<- Paired.length r1];exact Nat.le_trans hl qCs,fun p hp=>k (φ1++[p]) _ _ (x1.trans ⟨[p],rfl⟩) (R1.newT hp r1) R1.lastRef⟩
 ·cases e
variable (G F) in
noncomputable def spF (K:PySem.W.Frag) (f:Nat):L2.Sp:=fun vs H Q _=>∃ φ h ws v h',Rl K G φ h H/\rvs φ ws vs/\F f ws h=.ok (v,h')/\∀ φ' H' w,Ext φ φ' -> Rl K G φ' h' H' -> rv φ' v w -> Q w H'
variable (X G F) in
structure FnS (f:Nat) (x:Str):Prop where
 ex:∃ k fa fd ps,L2.FnOk X.prog X.w X.K X.mg X.base L2.CX0 k fa fd ps (spF G F X.K f)/\L2.Room k X.A/\X.mg x=some (.ref fa)/\PySem.W.keepIn X.K (.ref fa)=true/\L2.Binds X.K fd ps []
theorem qG0 {f:Nat} {σc:St} {H:Hp} {Q:VK} (q:tE X.K G F (.call f as) σc H Q):L2.tCall (spF G F X.K f) [] L2.E0 (tL X.K G F as) σc H Q:=by
 obtain ⟨φ,h,σ,v,h',R,rs,e,k⟩:=q
 unfold ev at e
 obtain ⟨⟨xs,h1⟩,e1,e⟩:=Res.bind_inv e
 refine ⟨φ,h,σ,xs,h1,R,rs,e1,fun φ1 H1 ws x1 R1 r1=>?_⟩
 have e:F f xs h1=.ok (v,h'):=by
  have e:(F f xs h1).nx=.ok (v,h'):=e
  revert e
  generalize F f xs h1=r
  cases r<;>intro e<;>first | exact e | cases e
 refine ⟨φ1,h1,xs,v,h',R1,by rw [List.append_nil];exact r1,e,fun φ2 H2 w x2 R2 r2=>k φ2 H2 w (x1.trans x2) R2 r2⟩
theorem qI0 {f:Nat} {x:Str} {p:Pos} (hf:FnS X G F f x) (hg:L2.Gl X x) (hd:(x==("__debug__":Str))=false) (hn:qAS ea=true) (hs:es.all qAS=true) (ha:SA X G F (ea::es) as):SE X G F (.Call (.Name x p) (ea::es) [] pos) (.call f as):=by
 obtain ⟨k,fa,fd,ps,h1,h2,h3,h4,h5⟩:=hf.ex
 exact qAn (L2.pe_call h1 h2 hg h3 h4 h5 .nil L2.pass0 ha hd (qAD hn) (qBT hs)) fun _ _ _=>qG0
theorem qHy {f:Nat} {x:Str} {p:Pos} (hf:FnS X G F f x) (hg:L2.Gl X x) (hd:(x==("__debug__":Str))=false):SE X G F (.Call (.Name x p) [] [] pos) (.call f .nil):=by
 obtain ⟨k,fa,fd,ps,h1,h2,h3,h4,h5⟩:=hf.ex
 refine qAn (L2.pe_call0 h1 h2 hg h3 h4 h5 .nil L2.pass0 hd) fun σc H Q q=>?_
 obtain ⟨φ,h,σ,vs,h',R,rs,e,k⟩:=qG0 q
 unfold evs at e
 cases e
 exact k φ H [] (.refl _) R .nil
theorem qIX {f:BF} {σc:St} {H:Hp} {Q:VK} (q:tE X.K G F (.blt f as) σc H Q):L2.tCB (qMf X G f) (tL X.K G F as) σc H Q:=by
 obtain ⟨φ,h,σ,v,h',R,rs,e,k⟩:=q
 unfold ev at e
 obtain ⟨⟨xs,h1⟩,e1,e⟩:=Res.bind_inv e
 exact ⟨φ,h,σ,xs,h1,R,rs,e1,fun φ1 H1 ws x1 R1 r1=>⟨φ1,h1,xs,v,h',R1,r1,e,fun φ2 H2 w x2 R2 r2=>k φ2 H2 w (x1.trans x2) R2 r2⟩⟩
theorem qLi {f:BF} {x:Str} {p:Pos} (hc:X.calm=true) (hu:X.A.units + 8 < cLine) (hgd:X.A.guards=some []) (hg:L2.Gl X x) (hm:X.mg x=none) (hv:bootBuiltins x=some (fnB f)) (hn:qAS ea=true) (hs:es.all qAS=true) (ha:SA X G F (ea::es) as)
  (h1:x≠"__name__") (h2:(x==("__debug__":Str))=false):SE X G F (.Call (.Name x p) (ea::es) [] pos) (.blt f as):=by
 have rule:=qDn (G:=G) hc hu hgd f
 cases f
 all_goals first
  | exact qAn (L2.pe_callB rule hg hm hv ha h1 h2 (qAD hn) (qBT hs)) fun _ _ _=>qIX
  | exact qAn (L2.pe_callTy rule hg hm hv ha h1 h2 (qAD hn) (qBT hs)) fun _ _ _=>qIX
theorem qJG {apos cpos:Pos} (hc:X.calm=true) (hu:X.A.units + 8 < cLine) (hgd:X.A.guards=some []) (hbase:attributeBase ea "bit_length" X.env (eval ea X.env)=eval ea X.env) (hline:(apos.endLine==cpos.line)=true) (ha:SE X G F ea a):
  SE X G F (.Call (.Attribute ea "bit_length" apos) [] [] cpos) (.blt .bits (.cons a .nil)):=by
 have rule:L2.MtR X "int.bit_length" (fun x xs H Q=>∃ i,x=.int i/\xs=[]/\qMf X G .bits [.int i] H Q):=fun pins s σ H x xs v us Q I rx rs q=>by
  obtain ⟨i,rfl,rfl,q⟩:=q
  cases rs
  exact qDn (G:=G) hc hu hgd .bits pins s σ H [.int i] [v] Q I (.cons rx .nil) q
 refine qAn (L2.pe_bm0 PySem.F.plainAttrs_int PyProof.Rows.slot_int_bit_length PyProof.Rows.type_int_bit_length rule ha hbase hline) fun σc H Q q=>?_
 obtain ⟨φ,h,σ,v,h',R,rs,e,k⟩:=q
 unfold ev at e
 obtain ⟨⟨xs,h1⟩,e1,e2⟩:=Res.bind_inv e
 unfold evs evs at e1
 obtain ⟨⟨x,h2⟩,e3,e4⟩:=Res.bind_inv e1
 cases e4
 replace e2:qMC .bits [x] h1=.ok (v,h'):=e2
 cases x with
 | int i=>exact ⟨φ,h,σ,_,_,R,rs,e3,fun φ1 H1 w x1 R1 r1=>by
   cases qAB r1
   exact ⟨rfl,i,rfl,rfl,φ1,_,[.int i],v,h',R1,.cons rfl .nil,e2,fun φ2 H2 w x2 R2 r2=>k φ2 H2 w (x1.trans x2) R2 r2⟩⟩
 | _=>cases e2
noncomputable def qDo (t:String):Bool:=t=="int"||t=="bool"||t=="list"||t=="tuple"||t=="str"||t=="dict"
theorem qCg (K:PySem.W.Frag):∀ {t c:String},(t="NoneType"\/t="bool"\/t="int"\/t="str"\/t="list"\/t="tuple"\/t="dict") -> qDo c=true -> PySem.W.kitOne K (.type t) (.type c)=some (qAx t c):=by
 intro t c ht hc
 have hc':c="int"\/c="bool"\/c="list"\/c="tuple"\/c="str"\/c="dict":=by
  simp only [qDo,Bool.or_eq_true,beq_iff_eq] at hc
  rcases hc with ((((h | h) | h) | h) | h) | h<;>simp [h]
 rcases ht with rfl | rfl | rfl | rfl | rfl | rfl | rfl<;>rcases hc' with rfl | rfl | rfl | rfl | rfl | rfl<;>kernel_rfl
variable (X G) in
noncomputable def qO5 (c:String):List V -> Hp -> VK -> Prop:=fun xs H Q=>∃ φ h xa x t,xs=[x,.ty c]/\Rl X.K G φ h H/\rv φ xa x/\qBK h xa=some t/\Q (.bl (qAx t c)) H
theorem qGS {c:String} (hc:qDo c=true):qA6 X (.builtin "isinstance") (qO5 X G c):=by
 intro pins s σ H xs us Q I r ⟨φ,h,xa,x,t,e,R,rx,ht,q⟩
 subst e
 obtain ⟨u,u2,rfl,r1,r2⟩:=L2.vals2 r
 cases (show u2=Value.type c from r2)
 have fin:∀ tk,EP X pins σ Q (.bool (qAx t c)) { s with toks:=tk }:=fun tk=>⟨.bl (qAx t c),H,I.tok tk,rfl,q⟩
 cases xa with
 | non=>cases qAr rx;cases r1;cases ht;exact PySem.W.kia_one PySem.W.kitx_none I.kIn True.intro (qCg _ (by simp) hc) (fun z=>nomatch z) fin
 | bl i=>cases qAu rx;cases r1;cases ht;exact PySem.W.kia_one PySem.W.kitx_bool I.kIn True.intro (qCg _ (by simp) hc) (fun z=>nomatch z) fin
 | int i=>cases qAB rx;obtain ⟨t',rfl⟩:=r1;cases ht;exact PySem.W.kia_one PySem.W.kitx_int I.kIn True.intro (qCg _ (by simp) hc) (fun z=>nomatch z) fin
 | str i=>cases qA0 rx;obtain ⟨t',rfl⟩:=r1;cases ht;exact PySem.W.kia_one PySem.W.kitx_str I.kIn True.intro (qCg _ (by simp) hc) (fun z=>nomatch z) fin
 | ref i=>
  obtain ⟨p,rfl,hp⟩:=qAN rx
  cases r1
  cases ey:h[i]? with
  | none=>rw [show qBK h (.ref i)=none by simp only [qBK,ey]] at ht;cases ht
  | some o=>
   cases o with
   | lst fz ys=>
    rw [show qBK h (.ref i)=some "list" by simp only [qBK,ey]] at ht;cases ht
    obtain ⟨p',zs,hp',hs,rs⟩:=R.lst (i:=i) (xs:=ys) (by unfold qAJ;rw [ey])
    rw [hp] at hp';cases hp'
    obtain ⟨its,_,pl,_⟩:=I.list hs
    obtain ⟨o,ho,hcl,_⟩:=pl.isList
    exact PySem.W.kia_one PySem.W.kitx_list I.kIn ⟨o,ho,hcl⟩ (qCg _ (by simp) hc) (fun z=>nomatch z) fin
   | tup ys=>
    rw [show qBK h (.ref i)=some "tuple" by simp only [qBK,ey]] at ht;cases ht
    obtain ⟨p',zs,hp',hs,rs⟩:=R.tup (i:=i) (xs:=ys) (by unfold qAU;rw [ey])
    rw [hp] at hp';cases hp'
    obtain ⟨its,_,pl,_⟩:=I.tuple hs
    obtain ⟨o,ho,hcl,_⟩:=pl
    exact PySem.W.kia_one PySem.W.kitx_tuple I.kIn ⟨o,ho,hcl⟩ (qCg _ (by simp) hc) (fun z=>nomatch z) fin
   | ob ks=>
    cases ks with
    | exn c=>rw [show qBK h (.ref i)=none by simp only [qBK,ey]] at ht;cases ht
    | dct kvs=>
     rw [show qBK h (.ref i)=some "dict" by simp only [qBK,ey]] at ht
     cases ht
     obtain ⟨p',hp',hs⟩:=R.at ey
     rw [hp] at hp';cases hp'
     obtain ⟨_,_,vs,_,o,es,ep,h1,h2,_⟩:=(show L2.ObjOk X.prog X.w H s.heap p (.dK (kvs.map kk)) from I.hok p _ hs)
     exact PySem.W.kia_one PySem.W.kitx_dict I.kIn ⟨o,h1,h2.1⟩ (qCg _ (by simp) hc) (fun z=>nomatch z) fin
 | _=>cases ht
theorem qLJ {c:String} {xc:Str} {p pc:Pos} (hc:qDo c=true) (hg:L2.Gl X "isinstance") (hm:X.mg "isinstance"=none) (hgc:L2.Gl X xc) (hmc:X.mg xc=none) (hvc:bootBuiltins xc=some (.type c)) (hn1:xc≠"__name__") (hn2:(xc==("__debug__":Str))=false)
  (hn:qAS ea=true) (ha:SE X G F ea a):SE X G F (.Call (.Name "isinstance" p) [ea,.Name xc pc] [] pos) (.isi a [c]):=by
 refine qAn (L2.pe_callB (qGS (G:=G) hc) hg hm PyProof.Rows.boot_isinstance (L2.pa_cons ha (L2.pa_cons (L2.pe_bltn (v:=.ty c) hgc hmc hvc rfl hn1 hn2) L2.pa_nil rfl) (qAD hn)) (by decide) (by decide) (qAD hn) rfl) fun σc H Q q=>?_
 obtain ⟨φ,h,σ,v,h',R,rs,e,k⟩:=q
 unfold ev at e
 obtain ⟨⟨x,h1⟩,e1,e⟩:=Res.bind_inv e
 refine ⟨φ,h,σ,x,h1,R,rs,e1,fun φ1 H1 w x1 R1 r1=>?_⟩
 dsimp only at e
 split at e
 ·rename_i t et
  cases e
  refine ⟨φ1,_,x,w,t,rfl,R1,r1,et,?_⟩
  have:=k φ1 H1 (.bl ([c].any (qAx t))) x1 R1 rfl
  simpa using this
 ·cases e
noncomputable def qCe:Expr -> Bool
 | .Slice ..=>false
 | _=>true
theorem qFn {e:Expr} (h:qCe e=true):L2.PlainIx e:=by
 intro o i
 cases e<;>first | rfl | cases h
theorem qK7 (hb':qCe eb=true) (ha:SE X G F ea a) (hb:SE X G F eb b):SE X G F (.Subscript ea eb pos) (.idx a b):=by
 refine qAn (L2.pe_ix (L2.ix_list.or L2.ix_tup) ha hb (qFn hb')) fun σc H Q q=>?_
 obtain ⟨φ,h,σ,v,h',R,rs,e,k⟩:=q
 unfold ev at e
 obtain ⟨⟨x,h1⟩,e1,e⟩:=Res.bind_inv e
 obtain ⟨⟨y,h2⟩,e2,e⟩:=Res.bind_inv e
 refine qBh R rs e1 e2 fun φ2 H2 xc yc x2 R2 r1 r2=>?_
 cases x with
 | ref p=>
  cases y with
  | int i=>
   dsimp only at e
   split at e
   ·rename_i xs ex
    split at e
    ·rename_i w ew
     cases e
     obtain ⟨p',zs,hp',hs,rs'⟩:=R2.its ex
     obtain ⟨q,rfl,hq⟩:=qAN r1
     rw [hp'] at hq;cases hq
     cases qAB r2
     obtain ⟨j,ej,ew⟩:=Option.bind_eq_some_iff.mp ew
     obtain ⟨w',hw',rw'⟩:=qAG rs' ew
     have hat:L2.atI zs i=some w':=by
      unfold L2.atI
      rw [<- Paired.length rs']
      exact Option.bind_eq_some_iff.mpr ⟨j,ej,hw'⟩
     rcases hs with hs | hs
     ·exact .inl ⟨_,zs,i,w',rfl,rfl,hs,hat,k φ2 H2 w' x2 R2 rw'⟩
     ·exact .inr ⟨_,zs,i,w',rfl,rfl,hs,hat,k φ2 H2 w' x2 R2 rw'⟩
    ·cases e
   ·cases e
  | _=>cases e
 | _=>cases e
theorem qC4 {φ:List Addr} {xs ys:List V} (r:rvs φ xs ys) (lo hi:Option Int):rvs φ (L2.cutV xs lo hi) (L2.cutV ys lo hi):=by
 unfold L2.cutV
 rw [Paired.length r]
 exact qBC _ (qCV _ r)
variable (X G F) in
noncomputable def SO (o:Option Expr) (as:Es):Prop:=L2.PO X o fun σc H Q=>∃ φ h σ is h',Rl X.K G φ h H/\rst φ σ σc/\(∃ vs,evs F as σ h=.ok (vs,h')/\qBe vs=some is)/\∀ φ' H',Ext φ φ' -> Rl X.K G φ' h' H' -> Q is.head? H'
theorem qJn:SO X G F none .nil:=by
 intro pins s σc H Q I q
 obtain ⟨φ,h,σ,is,h',R,rs,⟨vs,e,ei⟩,k⟩:=q
 unfold evs at e
 cases e
 cases ei
 exact L2.po_none pins s σc H Q I (k φ H (.refl _) R)
theorem qEY (ha:SE X G F ea a):SO X G F (some ea) (.cons a .nil):=by
 intro pins s σc H Q I q
 obtain ⟨φ,h,σ,is,h',R,rs,⟨vs,e,ei⟩,k⟩:=q
 unfold evs at e
 obtain ⟨⟨x,h1⟩,e1,e⟩:=Res.bind_inv e
 unfold evs at e
 cases e
 refine L2.po_some ha pins s σc H Q I ⟨φ,h,σ,x,_,R,rs,e1,fun φ1 H1 w x1 R1 r1=>?_⟩
 have hm:=qC1 ei
 cases is with
 | nil=>cases hm
 | cons i r=>
  simp only [List.map_cons,List.cons.injEq] at hm
  obtain ⟨rfl,_⟩:=hm
  cases qAB r1
  exact ⟨i,rfl,k φ1 H1 x1 R1⟩
theorem qKw {lo hi:Option Expr} {al ah:Es} {p2:Pos} (ha:SE X G F ea a) (hl:SO X G F lo al) (hh:SO X G F hi ah):SE X G F (.Subscript ea (.Slice lo hi none p2) pos) (.sl a al ah):=by
 refine qAn (L2.pe_slice (L2.SlR.or L2.sl_list L2.sl_tup) ha hl hh) fun σc H Q q=>?_
 obtain ⟨φ,h,σ,v,h',R,rs,e,k⟩:=q
 unfold ev at e
 obtain ⟨⟨x,h1⟩,e1,e⟩:=Res.bind_inv e
 obtain ⟨⟨l,h2⟩,e2,e⟩:=Res.bind_inv e
 obtain ⟨⟨u,h3⟩,e3,e⟩:=Res.bind_inv e
 cases x with
 | ref p=>
  cases eil:qBe l with
  | none=>dsimp only at e;rw [eil] at e;cases e
  | some il=>
   cases eiu:qBe u with
   | none=>dsimp only at e;rw [eil,eiu] at e;cases e
   | some iu=>
    dsimp only at e
    rw [eil,eiu] at e
    dsimp only at e
    split at e
    ·rename_i xs ex
     cases e
     refine ⟨φ,h,σ,_,h1,R,rs,e1,fun φ1 H1 w x1 R1 r1=>?_⟩
     refine ⟨φ1,h1,σ,il,h2,R1,rst.mono x1 rs,⟨l,e2,eil⟩,fun φ2 H2 x2 R2=>?_⟩
     refine ⟨φ2,h2,σ,iu,h3,R2,rst.mono (x1.trans x2) rs,⟨u,e3,eiu⟩,fun φ3 H3 x3 R3=>?_⟩
     obtain ⟨p',zs,hp',hs,rs'⟩:=R3.lst ex
     obtain ⟨q,rfl,hq⟩:=qAN (rv.mono (x2.trans x3) r1)
     rw [hp'] at hq;cases hq
     exact .inl ⟨_,zs,rfl,hs,fun m hm=>k (φ3++[m]) _ _ ((x1.trans (x2.trans x3)).trans ⟨[m],rfl⟩) (R3.newL hm (qC4 rs' _ _)) R3.lastRef⟩
    ·split at e
     ·rename_i xs ex
      split at e
      ·cases e
      ·rename_i hw
       cases e
       refine ⟨φ,h,σ,_,h1,R,rs,e1,fun φ1 H1 w x1 R1 r1=>?_⟩
       refine ⟨φ1,h1,σ,il,h2,R1,rst.mono x1 rs,⟨l,e2,eil⟩,fun φ2 H2 x2 R2=>?_⟩
       refine ⟨φ2,h2,σ,iu,h3,R2,rst.mono (x1.trans x2) rs,⟨u,e3,eiu⟩,fun φ3 H3 x3 R3=>?_⟩
       obtain ⟨p',zs,hp',hs,rs'⟩:=R3.tup ex
       obtain ⟨q,rfl,hq⟩:=qAN (rv.mono (x2.trans x3) r1)
       rw [hp'] at hq;cases hq
       exact .inr ⟨_,zs,rfl,hs,by rw [<- Paired.length rs'];exact hw,fun m hm=>k (φ3++[m]) _ _ ((x1.trans (x2.trans x3)).trans ⟨[m],rfl⟩) (R3.newT hm (qC4 rs' _ _)) R3.lastRef⟩
     ·cases e
 | _=>cases e
section
open L2 PyProof.Rows
theorem qJ9 {X:L2.Cx} {e ek:Expr} {te:L2.TE} {tk:L2.TO} {p2 pos:Pos} (he:PE X e te) (hk:PO X (some ek) tk):PE X (.Subscript e (.Slice none none (some ek) p2) pos) (fun σ H Q=>te σ H fun x H1=>tk σ H1 fun o H2=>o=some (-1)/\∃ a xs,x=.ref a/\SqL X.K H2 a xs/\∀ p,H2 p=none -> Q (.ref p) (upd H2 p (.lst xs.reverse))):=by
 intro pins s σ H Q I h
 refine Subscript_ (thn (he pins s σ H _ I h) fun v s1 ⟨x,H1,I1,r1,q1⟩=>?_)
 refine wpAny_Slice ?_
 rw [evalPart_none]
 refine wpAny_pure (wpAny_pure (thn (hk pins s1 σ H1 _ I1 q1) fun vk s3 ⟨o,H3,I3,pk,ho,a,xs,hxa,hx,q⟩=>?_))
 subst ho
 subst hxa
 cases r1
 have I4:Inv X pins σ H3 { s3 with heap:=s3.heap.push { cls:=.type "slice",data:=.fields #[.none,.none,vk] } }:=I3.kept (t':=s3.toks) fun b ob q=>Heap.get?_push_of_some _ q
 obtain ⟨its,r,ht,hz⟩:=I4.list hx
 have hlen:=r.length
 show wpAny (model X.prog X.w) X.A (subscriptTail e (.Slice none none (some ek) p2) (.ref a) (.ref s3.heap.objs.size)) (EP X pins σ Q) X.xe { s3 with heap:=s3.heap.push { cls:=.type "slice",data:=.fields #[.none,.none,vk] } }
 refine tail_any (ops:=[.ref a,.ref s3.heap.objs.size]) (T:="list") ht.isList.typeIs slot_list_getitem.lookup (wpAny_getItem_list_slice ht.isList (Heap.IsSliceOf.new ..) .none .none pk (by decide) ?_ (by rw [List.size_toArray]<;>omega)) (by with_unfolding_all rfl)
 rw [PySem.W.krv_pick]
 refine ⟨.ref _,_,I4.laid (t':=s3.toks) (o:=.lst xs.reverse) (fun b ob q=>Heap.get?_push_of_some _ q) (Nat.le_refl _) ?_,rfl,q _ (I4.hok.fresh (Nat.le_refl _))⟩
 exact ⟨by rw [List.length_reverse];exact hz,_,0,r.reverse,Heap.get?_push_size _ rfl⟩
end
theorem qCq {φ:List Addr}:∀ {xs ys:List V},rvs φ xs ys -> rvs φ xs.reverse ys.reverse
 | _,_,.nil=>.nil
 | _,_,.cons r t=>by rw [List.reverse_cons,List.reverse_cons];exact qAP (qCq t) (.cons r .nil)
theorem qIn {ek:Expr} {p2:Pos} (ha:SE X G F ea a) (hk:SO X G F (some ek) (.cons (.cst (.int (-1))) .nil)):SE X G F (.Subscript ea (.Slice none none (some ek) p2) pos) (.rev a):=by
 refine qAn (qJ9 ha hk) fun σc H Q q=>?_
 obtain ⟨φ,h,σ,v,h',R,rs,e,k⟩:=q
 unfold ev at e
 obtain ⟨⟨x,h1⟩,e1,e⟩:=Res.bind_inv e
 replace e:=qBE e
 obtain ⟨p,rfl,e⟩:=e
 split at e
 ·rename_i xs ex
  cases e
  refine ⟨φ,h,σ,_,h1,R,rs,e1,fun φ1 H1 w x1 R1 r1=>?_⟩
  refine ⟨φ1,h1,σ,[-1],h1,R1,rst.mono x1 rs,⟨[.int (-1)],by unfold evs ev;rfl,rfl⟩,fun φ2 H2 x2 R2=>⟨rfl,?_⟩⟩
  obtain ⟨p',zs,hp',hs,rs'⟩:=R2.lst ex
  obtain ⟨q,rfl,hq⟩:=qAN (rv.mono x2 r1)
  rw [hp'] at hq;cases hq
  exact ⟨_,zs,rfl,hs,fun m hm=>k (φ2++[m]) _ _ ((x1.trans x2).trans ⟨[m],rfl⟩) (R2.newL hm (qCq rs')) R2.lastRef⟩
 ·cases e
section
open L2 PyProof.Rows
end
theorem qK9 {p p3:Pos} {n:Nat}:SE X G F (.UnaryOp .USub (.Constant (.int 1) n p) p3) (.cst (.int (-1))):=by
 refine qAn (qIT (G:=G) (F:=F) (a:=.cst (.int 1)) qGK) fun σc H Q q=>?_
 obtain ⟨φ,h,σ,v,h',R,rs,e,k⟩:=q
 refine ⟨φ,h,σ,v,h',R,rs,?_,k⟩
 unfold ev at e ⊢
 unfold ev
 exact e
theorem qK0 {apos cpos:Pos} (hbase:attributeBase ea "append" X.env (eval ea X.env)=eval ea X.env) (hline:(apos.endLine==cpos.line)=true) (hn:qAS eb=true) (ha:SE X G F ea a) (hb:SE X G F eb b):
  SE X G F (.Call (.Attribute ea "append" apos) [eb] [] cpos) (.app a b):=by
 refine qAn (L2.pe_bm PySem.F.plainAttrs_list PySem.F.slot_list_append PySem.F.type_list_append L2.mt_append ha (L2.pa_cons hb L2.pa_nil (qAD hn)) hbase (by rw [qAD hn];rfl) hline (qAD hn) rfl) fun σc H Q q=>?_
 obtain ⟨φ,h,σ,v,h',R,rs,e,k⟩:=q
 unfold ev at e
 obtain ⟨⟨x,h1⟩,e1,e⟩:=Res.bind_inv e
 dsimp only at e
 split at e
 ·rename_i p
  split at e
  ·rename_i ys ey
   obtain ⟨⟨y,h2⟩,e2,e⟩:=Res.bind_inv e
   dsimp only at e
   split at e
   ·rename_i xs ex
    split at e
    ·rename_i hl
     cases e
     refine ⟨φ,h,σ,_,h1,R,rs,e1,fun φ1 H1 w x1 R1 r1=>?_⟩
     obtain ⟨p1,zs1,hp1,hs1,_⟩:=R1.lst ey
     obtain ⟨q,rfl,hq⟩:=qAN r1
     rw [hp1] at hq;cases hq
     refine ⟨.inl ⟨rfl,_,hs1⟩,φ1,h1,σ,y,h2,R1,rst.mono x1 rs,e2,fun φ2 H2 yc x2 R2 r2=>?_⟩
     obtain ⟨q1,p2,zs2,hp2,hH2,rs2⟩:=R2.mut ex
     have:=x2.get hp1
     rw [hp2] at this;cases this
     refine ⟨_,zs2,yc,rfl,rfl,hH2,?_,k φ2 _ _ (x1.trans x2) (R2.set q1 hp2 (qAP rs2 (.cons r2 .nil))) trivial⟩
     rw [<- Paired.length rs2]
     exact Nat.lt_trans hl qIE
    ·cases e
   ·cases e
  ·cases e
 ·cases e
theorem Rl.same {K:PySem.W.Frag} {G φ:List Addr} {h:AH} {H H':Hp} (R:Rl K G φ h H) (s:qFH H H'):Rl K G φ h H':=⟨R.len,R.glob,fun i o a e1 e2=>(R.obj i o a e1 e2).keep (.refl _) s,R.inj⟩
theorem qD5 {φ:List Addr}:∀ {xs:List V},xs.all flat=true -> rvs φ xs xs
 | [],_=>.nil
 | x::xs,h=>by
  simp only [List.all_cons,Bool.and_eq_true] at h
  refine .cons ?_ (qD5 h.2)
  cases x<;>first | rfl | exact trivial | (cases h.1)
theorem qHI:qA6 X (.type "range") (fun xs H Q=>∃ j:Int,xs=[.int j]/\∀ p,H p=none -> Q (.ref p) (upd H p (.rng 0 j))):=by
 intro pins s σ H xs us Q I r ⟨j,e,q⟩
 subst e
 obtain ⟨u,rfl,ru⟩:=L2.vals1 r
 obtain ⟨t,rfl⟩:=ru
 refine call_range_1 ⟨.ref s.heap.objs.size,_,I.laid (fun _ _ q=>Heap.get?_push_of_some _ q) (Nat.le_refl _) ?_,rfl,q _ (I.hok.fresh (Nat.le_refl _))⟩
 exact ⟨_,_,_,Heap.get?_push_size _ rfl⟩
theorem qDQ {P:Nat -> V}:∀ {n:Nat} {acc:List Value},acc.length=n -> (∀ (j:Nat) v,acc[j]?=some v -> RelV (P j) v) -> Vals ((List.range n).map P) acc:=by
 intro n
 induction n with
 | zero=>intro acc hl _;cases acc with | nil=>exact .nil | cons _ _=>simp at hl
 | succ n ih=>
  intro acc hl ha
  have hne:acc≠[]:=by intro z;subst z;simp at hl
  rw [List.range_succ,List.map_append,<- List.dropLast_concat_getLast hne]
  have hd:acc.dropLast.length=n:=by rw [List.length_dropLast,hl];rfl
  refine qAP (ih hd fun j v e=>ha j v ?_) (.cons (ha n _ ?_) .nil)
  ·rw [<- List.dropLast_concat_getLast hne,List.getElem?_append_left (List.getElem?_eq_some_iff.mp e).1];exact e
  ·rw [List.getElem?_eq_getElem (by omega),List.getLast_eq_getElem]
   congr 1
   simp [hl]
theorem qDA (hc:X.calm=true):qA6 X (.type "list") (fun xs H Q=>∃ p,∃ j:Int,xs=[.ref p]/\H p=some (.rng 0 j)/\(-1000000<=j/\j<=100000)/\∀ l,H l=none -> Q (.ref l) (upd H l (.lst (qBb 0 j.toNat)))):=by
 intro pins s σ H xs us Q I r ⟨p,j,e,hp,hj,q⟩
 subst e
 obtain ⟨u,rfl,ru⟩:=L2.vals1 r
 cases ru
 obtain ⟨t,u,v,hr⟩:=I.hok p _ hp
 have hn:Builtin.Range.rangeSize 0 j 1=((j.toNat:Nat):Int):=by rw [rangeSize_one];split<;>omega
 refine call_list_range (I.ok.hd hc) hr (small_one (by omega) (by omega) (by omega) (by omega)) hn (by omega) fun h' tk acc' c' hk hS hI=>?_
 refine ⟨.ref s.heap.objs.size,_,I.laid (t':=tk) hk (Nat.le_refl _) ?_,rfl,q _ (I.hok.fresh (Nat.le_refl _))⟩
 obtain ⟨i1,i2⟩:=hI
 refine ⟨?_,acc'.toList,c',qDQ (by simpa using i1) fun k v e=>?_,by simpa using hS⟩
 ·have:=qCs
  unfold lim at this
  rw [qBb,List.length_map,List.length_range]
  omega
 ·obtain ⟨t',rfl⟩:=i2 k v (by simpa using e)
  exact ⟨t',by rw [Int.mul_one]⟩
theorem qJN {p p2 pos2:Pos} (hc:X.calm=true) (hg:L2.Gl X "list") (hm:X.mg "list"=none) (hg2:L2.Gl X "range") (hm2:X.mg "range"=none) (hn:qAS ea=true) (ha:SE X G F ea a):
  SE X G F (.Call (.Name "list" p) [.Call (.Name "range" p2) [ea] [] pos2] [] pos) (.lrng a):=by
 refine qAn (L2.pe_callTy (qDA hc) hg hm PyProof.Rows.boot_list (L2.pa_cons (L2.pe_callTy qHI hg2 hm2 PyProof.Rows.boot_range (L2.pa_cons ha L2.pa_nil (qAD hn)) (by decide) (by decide) (qAD hn) rfl) L2.pa_nil rfl) (by decide) (by decide) rfl rfl) fun σc H Q q=>?_
 obtain ⟨φ,h,σ,v,h',R,rs,e,k⟩:=q
 unfold ev at e
 obtain ⟨⟨x,h1⟩,e1,e⟩:=Res.bind_inv e
 refine ⟨φ,h,σ,x,h1,R,rs,e1,fun φ1 H1 w x1 R1 r1=>?_⟩
 cases x with
 | int j=>
  dsimp only at e
  split at e
  ·rename_i hj
   cases e
   cases qAB r1
   refine ⟨j,rfl,fun p hp=>⟨p,j,rfl,qAO,hj,fun l hl=>?_⟩⟩
   have hlp:l≠p:=by rintro rfl;rw [qAO] at hl;cases hl
   have R2:Rl X.K G φ1 h1 (upd H1 p (.rng 0 j)):=R1.same (qDW hp)
   exact k (φ1++[l]) _ _ (x1.trans ⟨[l],rfl⟩) (R2.newL hl (qD5 (by simp [qBb,flat]))) R2.lastRef
  ·cases e
 | _=>cases e
section
open L2 PyProof.Rows
end
section
open L2 PyProof.Rows
end
section
open L2 PyProof.Rows
end
section
open L2 PyProof.Rows
end
end
end PI
namespace PI
open PySem PySem.Spec PyProof.Rows PySem.SeqAt
open L2 (V Hp HO Cx PE PT PA PS PSs PG PW TE TT TA TS VK upd qAO qAH SqL SqT qFH Inv RelV Vals EP TP AP SP OpR qA6 R2 It qFr qEB)
noncomputable def Itz (K:PySem.W.Frag) (a b:Addr):It:=
 ⟨fun i H=>∃ xs ys x y,SqL K H a xs/\SqL K H b ys/\xs[i]?=some x/\ys[i]?=some y,
  fun i H v H'=>∃ p x y,H p=none/\v=.ref p/\H'=upd H p (.tup [x,y])/\(∀ xs,SqL K H a xs -> xs[i]?=some x)/\∀ ys,SqL K H b ys -> ys[i]?=some y,
  fun i H=>∃ xs ys,SqL K H a xs/\SqL K H b ys/\(xs.length<=i\/ys.length<=i)⟩
theorem qJK {X:Cx} {pins:List (Addr×Obj)} {σ:L2.St} {H:Hp} {s:Shared} {h':Heap} {T:Addr} {xs:List V} {its:List Value} {ch:List Addr} {t':Nat} (I:Inv X pins σ H s) (hf:∀ b∈ch,qEB X pins H b)
  (hT:s.heap.objs.size<=T) (k:∀ b o,b∉ch -> s.heap.get? b=some o -> h'.get? b=some o) (hp:IsTup h' T its.toArray) (hv:Vals xs its) (hz:xs.length<=sizeLine) (hTc:T∉ch):
  Inv X pins σ (upd H T (.tup xs)) { s with heap:=h',toks:=t' }:=by
 have hn:H T=none:=I.hok.fresh hT
 have neT:∀ b o,s.heap.get? b=some o -> b≠T:=fun b o e=>Nat.ne_of_lt (Nat.lt_of_lt_of_le (Heap.lt_size e) hT)
 refine I.step (g':=s.gens) (d':=s.drawn) (ch:=ch) (fun b hb=>⟨(hf b hb).2.2.2.1,(hf b hb).2.1,(hf b hb).2.2.2.2.1,(hf b hb).2.2.2.2.2⟩) (fun b o _ _ hc e _=>k b o hc e) (fun b o _ _ hc e _=>⟨o.slots,k b o hc e⟩)
  (fun b o _ e n=>by rw [qAH (neT b o e)];exact n) (fun b o hc e=>⟨o,k b o hc e⟩) (fun b ys e=>by rw [qAH (L2.ne_of_none e hn)];exact e) (fun b o u e=>by rw [qAH (L2.ne_of_none e hn)];exact e)
  (fun b ps e=>⟨#[],by rw [qAH (L2.ne_of_none e hn),e];simp⟩) (fun m hm=>?_) (fun b u e=>?_) I.bare
 ·obtain ⟨o,es,ep,ho,r⟩:=hm
  exact ⟨o,es,ep,k _ o (fun z=>(hf _ z).2.1 rfl) ho,r⟩
 ·by_cases hb:b=T
  ·subst hb
   rw [qAO] at e
   cases e
   exact ⟨hz,its,hv,hp⟩
  ·rw [qAH hb] at e
   have nc:∀ c u,H c=some u -> c∉ch:=fun c u q z=>by rw [(hf c z).1] at q;cases q
   refine (I.hok b u e).stay (fun c v hc q=>k c v ?_ q) (fun c q=>by rw [qAH (L2.ne_of_none q hn)];exact q) fun c ys q=>by rw [qAH (L2.ne_of_none q hn)];exact q
   rcases hc with z | z
   ·rw [z];exact nc b u e
   ·exact nc c _ z
theorem qHa {P:Program} {w:World} {K:PySem.W.Frag} {elts:List Expr} {kk:Nat} {tpos:Pos} (z TI TO i1 i2 a b:Addr) (D:ZipApart z TI TO i1 i2 a b):
  qFr P w K (.Tuple elts kk tpos) (Itz K a b) [z,TI,TO,i1,i2] z (fun i h=>IsZip h z TI TO .none/\IsPair h TI (.ref i1) (.ref i2)/\(∃ x y,IsPair h TO x y)/\h.IsListIter i1 a i/\h.IsListIter i2 b i) where
 mem:=by simp
 obj:=fun i h st c hc=>by
  obtain ⟨h1,h2,⟨x,y,h3⟩,⟨o4,e4,c4,d4⟩,⟨o5,e5,c5,d5⟩⟩:=st
  simp only [List.mem_cons,List.not_mem_nil,or_false] at hc
  rcases hc with rfl | rfl | rfl | rfl | rfl
  ·exact ⟨_,h1,fun v q=>by have q':Data.fields _=Data.cell v:=q;cases q'⟩
  ·exact ⟨_,h2,fun v q=>by have q':Data.seq _ _=Data.cell v:=q;cases q'⟩
  ·exact ⟨_,h3,fun v q=>by have q':Data.seq _ _=Data.cell v:=q;cases q'⟩
  ·exact ⟨o4,e4,fun v q=>by rw [d4] at q;cases q⟩
  ·exact ⟨o5,e5,fun v q=>by rw [d5] at q;cases q⟩
 keep:=fun i h h' st k=>by
  obtain ⟨h1,h2,⟨x,y,h3⟩,h4,h5⟩:=st
  exact ⟨k z (by simp) _ h1,k TI (by simp) _ h2,⟨x,y,k TO (by simp) _ h3⟩,h4.at fun o e=>k i1 (by simp) o e,h5.at fun o e=>k i2 (by simp) o e⟩
 item:=by
  intro X hP hw hK hc i pins s σ H E I hf st hg
  subst hP hw hK
  obtain ⟨xs,ys,x,y,hq1,hq2,hx,hy⟩:=hg
  obtain ⟨its1,rv1,p1,_⟩:=I.list hq1
  obtain ⟨its2,rv2,p2,_⟩:=I.list hq2
  obtain ⟨u,hu,ru⟩:=rv1.get hx
  obtain ⟨w',hw',rw'⟩:=rv2.get hy
  obtain ⟨h1,h2,⟨ta,tb,h3⟩,h4,h5⟩:=st
  refine wpAny_pyNext_zip_item D h1 h2 h3 h4 h5 p1.isList p2.isList (x:=u) (y:=w') (by simpa using hu) (by simpa using hw') fun h' z1 z2 z3 z4 z5 z6 z7=>?_
  refine ⟨_,rfl,wpAny_letOwnedTupleGo_zip z1 fun h'' g1 gs=>?_⟩
  have lt:∀ c∈[z,TI,TO,i1,i2],c≠s.heap.objs.size:=fun c hc=>by
   have ex:∃ o,s.heap.get? c=some o:=by
    simp only [List.mem_cons,List.not_mem_nil,or_false] at hc
    rcases hc with rfl | rfl | rfl | rfl | rfl
    ·exact ⟨_,h1⟩
    ·exact ⟨_,h2⟩
    ·exact ⟨_,h3⟩
    ·obtain ⟨o,e,_⟩:=h4;exact ⟨o,e⟩
    ·obtain ⟨o,e,_⟩:=h5;exact ⟨o,e⟩
   obtain ⟨o,e⟩:=ex
   exact Nat.ne_of_lt (Heap.lt_size e)
  have up:∀ c o,c≠z -> h'.get? c=some o -> h''.get? c=some o:=fun c o hz e=>gs.extBut c o hz e
  have kp:∀ c o,c∉[z,TI,TO,i1,i2] -> s.heap.get? c=some o -> h''.get? c=some o:=fun c o hn e=>by
   simp only [List.mem_cons,List.not_mem_nil,or_false,not_or] at hn
   exact up c o hn.1 (z7 c o hn.1 hn.2.2.1 hn.2.2.2.1 hn.2.2.2.2 e)
  have ht:IsTup h'' s.heap.objs.size #[u,w']:=⟨_,up _ _ (Ne.symm (lt z (by simp))) z5,rfl,_,rfl⟩
  have I1:=qJK (t':=s.toks) (xs:=[x,y]) (its:=[u,w']) I hf (Nat.le_refl _) kp ht (.cons ru (.cons rw' .nil)) (by show 2<=sizeLine;decide) (fun q=>lt _ q rfl)
  refine ⟨.ref s.heap.objs.size,_,I1,rfl,⟨s.heap.objs.size,x,y,I.hok.fresh (Nat.le_refl _),rfl,rfl,fun zs hz=>by rw [I.list_inj hz hq1];exact hx,fun zs hz=>by rw [I.list_inj hz hq2];exact hy⟩,
   ⟨g1,up _ _ D.TIz (z7 TI _ D.TIz D.TITO D.TIi1 D.TIi2 h2),⟨_,_,up _ _ D.TOz z2⟩,z3.at fun o e=>up _ o D.i1z e,z4.at fun o e=>up _ o D.i2z e⟩,fun c hc=>?_⟩
  rw [qAH (lt c hc)]
  exact (hf c hc).1
 done:=by
  intro X hP hw hK hc i pins s σ H E I hf st hg
  subst hP hw hK
  obtain ⟨xs,ys,hq1,hq2,hl⟩:=hg
  obtain ⟨its1,rv1,p1,_⟩:=I.list hq1
  obtain ⟨its2,rv2,p2,_⟩:=I.list hq2
  obtain ⟨h1,h2,⟨ta,tb,h3⟩,h4,h5⟩:=st
  have n1:=rv1.length
  have n2:=rv2.length
  refine wpAny_pyNext_zip_end (I.ok.hd hc) D h1 h2 h3 h4 h5 p1.isList p2.isList ?_ fun h' z7=>⟨rfl,?_⟩
  ·rcases hl with hl | hl
   ·left;simp;omega
   ·right;simp;omega
  ·have kp:∀ c o,c∉[z,TI,TO,i1,i2] -> s.heap.get? c=some o -> h'.get? c=some o:=fun c o hn e=>by
    simp only [List.mem_cons,List.not_mem_nil,or_false,not_or] at hn
    exact z7 c o hn.1 hn.2.2.1 hn.2.2.2.1 hn.2.2.2.2 e
   refine I.step (g':=s.gens) (d':=s.drawn) (t':=s.toks) (ch:=[z,TI,TO,i1,i2]) (fun b hb=>⟨(hf b hb).2.2.2.1,(hf b hb).2.1,(hf b hb).2.2.2.2.1,(hf b hb).2.2.2.2.2⟩) (fun b o _ _ hc e _=>kp b o hc e) (fun b o _ _ hc e _=>⟨o.slots,kp b o hc e⟩)
    (fun b o _ e n=>n) (fun b o hc e=>⟨o,kp b o hc e⟩) (fun b ys e=>e) (fun b o u e=>e) (fun b ps e=>⟨#[],by rw [e];simp⟩) (fun m hm=>?_) (fun b u e=>?_) I.bare
   ·obtain ⟨o,es,ep,ho,r⟩:=hm
    exact ⟨o,es,ep,kp _ o (fun z=>(hf _ z).2.1 rfl) ho,r⟩
   ·have nc:∀ c u,H c=some u -> c∉[z,TI,TO,i1,i2]:=fun c u q z=>by rw [(hf c z).1] at q;cases q
    refine (I.hok b u e).stay (fun c v hc q=>kp c v ?_ q) (fun c q=>q) fun c ys q=>q
    rcases hc with z | z
    ·rw [z];exact nc b u e
    ·exact nc c _ z
 self:=fun _ _ _ _ _ st h=>wpAny_pyIter_zip st.1 h
noncomputable def qPC (K:PySem.W.Frag) (ta:TA):L2.TI:=fun σ H R=>ta σ H fun vs H1=>∃ a b,vs=[.ref a,.ref b]/\(∃ xs,SqL K H1 a xs)/\(∃ ys,SqL K H1 b ys)/\R (Itz K a b) H1
theorem qKQ {X:Cx} {ea eb:Expr} {ta:TA} {p pos tpos:Pos} {elts:List Expr} {kk:Nat} (hg:L2.Gl X "zip") (hm:X.mg "zip"=none) (ha:PA X [ea,eb] ta) (h1:qAS ea=true) (h2:qAS eb=true):
  L2.PI X (.Tuple elts kk tpos) (.Call (.Name "zip" p) [ea,eb] [] pos) (qPC X.K ta):=by
 intro pins s σ H R I h
 refine Call_ (L2.ld_blt I hg hm PyProof.Rows.boot_zip (PyProof.Rows.callWith_type1 (L2.thn (ha pos pins s σ H _ I h) fun us s1 ⟨vs,H1,I1,r1,q1⟩=>?_) (qAD h1) (qBT (by simp [h2]))))
 obtain ⟨a,b,e,⟨xs,hq1⟩,⟨ys,hq2⟩,q⟩:=q1
 subst e
 cases r1 with
 | cons r rr=>
  cases rr with
  | cons r' rr=>
   cases rr
   cases r
   cases r'
   obtain ⟨its1,rv1,p1,_⟩:=I1.list hq1
   obtain ⟨its2,rv2,p2,_⟩:=I1.list hq2
   have a1:a < s1.heap.objs.size:=by obtain ⟨_,e,_⟩:=p1.isList;exact Heap.lt_size e
   have a2:b < s1.heap.objs.size:=by obtain ⟨_,e,_⟩:=p2.isList;exact Heap.lt_size e
   refine call_zip_2 p1.isList p2.isList fun h' hz hTI hTO hi1 hi2 _ hk=>?_
   refine wpAny_pyIter_zip hz ?_
   have I2:Inv X pins σ H1 { s1 with heap:=h' }:=I1.kept (t':=s1.toks) hk
   refine ⟨_,_,_,_,H1,rfl,I2,qHa _ _ _ _ _ a b (zipApart_new a1 a2),⟨hz,hTI,⟨_,_,hTO⟩,hi1,hi2⟩,fun c hc=>?_,q⟩
   have hge:s1.heap.objs.size<=c:=by
    simp only [List.mem_cons,List.not_mem_nil,or_false] at hc
    rcases hc with rfl | rfl | rfl | rfl | rfl
    ·exact Nat.le_add_right _ 4
    ·exact Nat.le_add_right _ 2
    ·exact Nat.le_add_right _ 3
    ·exact Nat.le_refl _
    ·exact Nat.le_add_right _ 1
   exact I1.fpOk hge (I1.hok.fresh hge)
end PI
namespace PI
open PySem PySem.Spec PyProof.Rows PySem.SeqAt
open L2 (V Hp HO Cx PE PT PA PS PSs PG PW TE TT TA TS VK upd qAO qAH SqL SqT qFH Inv RelV Vals EP TP AP SP OpR qA6 R2 It qFr qEB)
noncomputable def Ite (K:PySem.W.Frag) (a:Addr):It:=
 ⟨fun i H=>∃ xs x,SqL K H a xs/\xs[i]?=some x,
  fun i H v H'=>∃ p x,H p=none/\v=.ref p/\H'=upd H p (.tup [.int (i:Int),x])/\∀ xs,SqL K H a xs -> xs[i]?=some x,
  fun i H=>∃ xs,SqL K H a xs/\xs.length<=i⟩
noncomputable def Itv (K:PySem.W.Frag) (a:Addr) (n:Nat):It:=
 ⟨fun i H=>i < n/\∃ xs x,SqL K H a xs/\xs[n - 1 - i]?=some x,fun i H x H'=>H'=H/\∀ xs,SqL K H a xs -> xs[n - 1 - i]?=some x,fun i _=>i=n⟩
noncomputable def Itd (lo:Int) (n:Nat):It:=⟨fun i _=>i < n,fun i H x H'=>H'=H/\x=.int (lo - (i:Int)),fun i _=>n<=i⟩
theorem qGI {P:Program} {w:World} {K:PySem.W.Frag} {tg:Expr} (it:Addr) (lo:Int) (n:Nat):qFr P w K tg (Itd lo n) [it] it (fun i h=>IsRangeIter h it (lo + (i:Nat) * (-1)) ((n:Int) - (i:Nat)) (-1)) where
 mem:=by simp
 obj:=fun i h st b hb=>by
  have e:b=it:=by simpa using hb
  subst e
  exact ⟨_,st,fun v z=>by
   have z':Data.fields _=Data.cell v:=z
   cases z'⟩
 keep:=fun i h h' st k=>k it (by simp) _ st
 item:=by
  intro X hP hw hK hc i pins s σ H E I hf st hg
  subst hP hw hK
  obtain ⟨f0,f1,f2,f3,f4,f5⟩:=hf it (by simp)
  have W:=Walks.range (prog:=X.prog) (w:=X.w) (I.ok.hd hc) it lo (-1) n
  refine W.item i s _ _ hg st fun v h' tk hv st' kk=>?_
  obtain ⟨t,rfl⟩:=hv
  have I1:Inv X pins σ H { s with heap:=h',toks:=tk }:=I.turned (fun b o hb e=>kk b o (by simpa using hb) e) f0 f1 f3 f4 f5
  refine ⟨_,rfl,L2.go_of (s:={ s with heap:=h',toks:=tk }) (n:="range_iterator") st' rfl rfl (by decide) ⟨.int (lo - i),H,I1,⟨t,?_⟩,⟨rfl,rfl⟩,st',fun b hb=>(hf b hb).1⟩⟩
  congr 1
  omega
 done:=by
  intro X hP hw hK hc i pins s σ H E I hf st hg
  subst hP hw hK
  obtain ⟨f0,f1,f2,f3,f4,f5⟩:=hf it (by simp)
  exact wpAny_pyNext_range_end (I.ok.hd hc) st (by have:n<=i:=hg;omega) fun h' eb=>⟨rfl,I.turned (t':=s.toks) (fun b o hb e=>eb b o hb e) f0 f1 f3 f4 f5⟩
 self:=fun _ _ _ _ _ st h=>wpAny_pyIter_rangeiter st h
theorem qD9 (lo hi:Int):Builtin.Range.rangeSize lo hi (-1)=(((lo - hi).toNat:Nat):Int):=by
 unfold Builtin.Range.rangeSize
 simp
 split<;>omega
theorem qFf {i j:Int} (h1:-1000000<=i) (h2:i<=1000000) (h3:-1000000<=j) (h4:j<=1000000):Builtin.Range.small i j (-1)=true:=by
 unfold Builtin.Range.small
 rw [qD9]
 simp only [Builtin.Range.rangeFitsLong,Bool.and_eq_true,Bool.or_eq_true,decide_eq_true_eq,beq_iff_eq,show ¬ ((-1:Int) > 0) by decide,if_false]
 (repeat' split)<;>omega
noncomputable def qMR (ta:TA):L2.TI:=fun σ H R=>ta σ H fun vs H1=>∃ i j:Int,vs=[.int i,.int j,.int (-1)]/\(-1000000<=i/\i<=1000000/\-1000000<=j/\j<=1000000)/\R (Itd i (i - j).toNat) H1
theorem qGy {X:Cx} {tg a b c:Expr} {ta:TA} {p pos:Pos} (hg:L2.Gl X "range") (hm:X.mg "range"=none) (ha:PA X [a,b,c] ta) (h1:qAS a=true) (h2:qAS b=true) (h3:qAS c=true):
  L2.PI X tg (.Call (.Name "range" p) [a,b,c] [] pos) (qMR ta):=by
 intro pins s σ H R I h
 refine Call_ (L2.ld_blt I hg hm PyProof.Rows.boot_range (PyProof.Rows.callWith_type1 (L2.thn (ha pos pins s σ H _ I h) fun us s1 ⟨vs,H1,I1,r1,q1⟩=>?_) (qAD h1) (qBT (by simp [h2,h3]))))
 obtain ⟨i,j,e,⟨q1,q2,q3,q4⟩,q⟩:=q1
 subst e
 cases r1 with
 | cons r rr=>
  cases rr with
  | cons r' rr=>
   cases rr with
   | cons r'' rr=>
    cases rr
    obtain ⟨t,rfl⟩:=r
    obtain ⟨t',rfl⟩:=r'
    obtain ⟨t'',rfl⟩:=r''
    refine call_range_3 (by decide) ?_ (Or.inl (PyProof.noPylong_small (by omega)))
    refine wpAny_pyIter_range (IsRange.new ..) (qFf q1 q2 q3 q4) ?_
    have I2:Inv X pins σ H1 { s1 with heap:=s1.heap.push { cls:=.type "range",data:=.fields #[.int i t,.int j t',.int (-1) t''] },toks:=s1.toks }:=I1.kept fun b o e=>Heap.get?_push_of_some _ e
    refine ⟨(s1.heap.push { cls:=.type "range",data:=.fields #[.int i t,.int j t',.int (-1) t''] }).objs.size,[(s1.heap.push { cls:=.type "range",data:=.fields #[.int i t,.int j t',.int (-1) t''] }).objs.size],_,_,H1,rfl,
     I2.kept (t':=s1.toks) fun b o e=>Heap.get?_push_of_some _ e,qGI _ i (i - j).toNat,?_,fun b hb=>?_,q⟩
    ·show IsRangeIter _ _ (i + ((0:Nat):Int) * (-1)) ((((i - j).toNat:Nat):Int) - ((0:Nat):Int)) (-1)
     have e1:i + ((0:Nat):Int) * (-1)=i:=by simp
     have e2:(((i - j).toNat:Nat):Int) - ((0:Nat):Int)=Builtin.Range.rangeSize i j (-1):=by rw [qD9];simp
     rw [e1,e2]
     exact Heap.get?_push_size _ rfl
    ·have e:b=(s1.heap.push { cls:=.type "range",data:=.fields #[.int i t,.int j t',.int (-1) t''] }).objs.size:=by simpa using hb
     subst e
     exact I2.fpOk (Nat.le_refl _) (I2.hok.fresh (Nat.le_refl _))
end PI
namespace PI
open PySem PySem.Spec PyProof.Rows PySem.SeqAt
open L2 (V Hp HO Cx PE PT PA PS PSs PG PGs PW TE TT TA TS TG TGs VK upd qAO qAH SqL SqT qFH Inv RelV Vals EP TP AP SP OpR qA6 R2 It qFr qEB Itl Itt qG4)
section
variable (K:PySem.W.Frag) (G:List Addr)
noncomputable def tG (g:Tg):TG:=fun v σc H Q=>∃ φ h σ w σ',Rl K G φ h H/\rst φ σ σc/\rv φ w v/\store g w σ h=some σ'/\∀ σc',rst φ σ' σc' -> Q σc' H
noncomputable def tGs (is:List Nat):TGs:=fun vs σc H Q=>∃ φ σ ws σ',rst φ σ σc/\rvs φ ws vs/\qCw is ws σ=some σ'/\∀ σc',rst φ σ' σc' -> Q σc' H
end
section
variable {X:Cx} {G:List Addr} {F:Nat -> List V -> AH -> RV}
theorem qKL {e:Expr} {t t':TG} (h:PG X e t) (w:∀ v σ H Q,t' v σ H Q -> t v σ H Q):PG X e t':=fun pins s σ H v u Q I r q=>h pins s σ H v u Q I r (w v σ H Q q)
theorem qIm {e:List Expr} {t t':TGs} (h:PGs X e t) (w:∀ v σ H Q,t' v σ H Q -> t v σ H Q):PGs X e t':=fun pins s σ H v u Q I r q=>h pins s σ H v u Q I r (w v σ H Q q)
variable (X G) in
noncomputable abbrev SG (e:Expr) (g:Tg):Prop:=PG X e (tG X.K G g)
theorem qG9 {i:Nat} {x:Str} {pos:Pos} (hN:X.N.Nodup) (hi:X.N[i]?=some x) (hx:L2.Loc X.env.scope x) (hf:X.fn x=true\/X.env.scope.names.lookup x=some .local):SG X G (.Name x pos) (.name i):=by
 refine qKL (L2.pg_name hN hi hx hf) fun v σc H Q q=>?_
 obtain ⟨φ,h,σ,w,σ',R,rs,r,e,k⟩:=q
 unfold store at e
 cases e
 exact k _ (qA7 (R:=ropt φ) (show ropt φ (some w) (some v) from ⟨v,rfl,r⟩) i rs)
theorem qJe:PGs X [] (tGs []):=by
 refine qIm L2.pgs_nil fun vs σc H Q q=>?_
 obtain ⟨φ,σ,ws,σ',rs,r,e,k⟩:=q
 cases ws with
 | nil=>
  cases r
  cases e
  exact ⟨rfl,k _ rs⟩
 | cons _ _=>cases e
theorem qH1 {i:Nat} {is:List Nat} {x:Str} {pos:Pos} {es:List Expr} (hN:X.N.Nodup) (hi:X.N[i]?=some x) (hx:L2.Loc X.env.scope x) (hf:X.fn x=true\/X.env.scope.names.lookup x=some .local) (hs:PGs X es (tGs is)):
  PGs X (.Name x pos::es) (tGs (i::is)):=by
 refine qIm (L2.pgs_cons (L2.pg_name hN hi hx hf) hs rfl) fun vs σc H Q q=>?_
 obtain ⟨φ,σ,ws,σ',rs,r,e,k⟩:=q
 cases ws with
 | nil=>cases e
 | cons w ws=>
  cases r with
  | cons r1 rr=>exact ⟨_,_,rfl,φ,_,ws,σ',qA7 (R:=ropt φ) (show ropt φ (some w) (some _) from ⟨_,rfl,r1⟩) i rs,rr,e,k⟩
theorem qC5:∀ {is:List Nat} {xs:List V} {σ σ':St},qCw is xs σ=some σ' -> xs.length=is.length
 | [],[],_,_,_=>rfl
 | [],_::_,_,_,e=>by cases e
 | _::_,[],_,_,e=>by cases e
 | i::is,x::xs,σ,σ',e=>by
  have:=qC5 (show qCw is xs _=some σ' from e)
  simp [this]
theorem qLu {is:List Nat} {es:List Expr} {k:Nat} {pos:Pos} (hc:X.calm=true) (h:PGs X es (tGs is)) (hn:(assignEach es X.env).length=is.length) (hst:(assignEach es X.env).findIdx? (·.1)=none):SG X G (.Tuple es k pos) (.tup is):=by
 refine qKL (L2.pg_tup hc h hn hst) fun v σc H Q q=>?_
 obtain ⟨φ,h,σ,w,σ',R,rs,r,e,k⟩:=q
 cases w with
 | ref a=>
  unfold store at e
  dsimp only at e
  split at e
  ·rename_i xs ex
   obtain ⟨p,zs,hp,hs,rz⟩:=R.tup ex
   obtain ⟨q,rfl,hq⟩:=qAN r
   rw [hp] at hq;cases hq
   exact ⟨_,zs,rfl,hs,by rw [<- Paired.length rz];exact qC5 e,φ,σ,xs,σ',rs,rz,e,k⟩
  ·cases e
 | _=>cases e
noncomputable def IsJ (K:PySem.W.Frag) (φ:List Addr):Src -> It -> Prop
 | .list p,J=>∃ a,φ[p]?=some a/\J=Itl K a
 | .tupl p,J=>∃ a,φ[p]?=some a/\J=Itt K a
 | .rng lo n,J=>J=L2.Itr lo n
 | .zip p q,J=>∃ a b,φ[p]?=some a/\φ[q]?=some b/\J=Itz K a b
 | .enum p,J=>∃ a,φ[p]?=some a/\J=Ite K a
 | .rvd p n,J=>∃ a,φ[p]?=some a/\J=Itv K a n
 | .rngd lo n,J=>J=Itd lo n
theorem IsJ.mono {K:PySem.W.Frag} {φ φ':List Addr} (x:Ext φ φ'):∀ {s:Src} {J:It},IsJ K φ s J -> IsJ K φ' s J
 | .list _,_,⟨a,h,e⟩=>⟨a,x.get h,e⟩
 | .tupl _,_,⟨a,h,e⟩=>⟨a,x.get h,e⟩
 | .rng _ _,_,e=>e
 | .zip _ _,_,⟨a,b,h,g,e⟩=>⟨a,b,x.get h,x.get g,e⟩
 | .enum _,_,⟨a,h,e⟩=>⟨a,x.get h,e⟩
 | .rvd _ _,_,⟨a,h,e⟩=>⟨a,x.get h,e⟩
 | .rngd _ _,_,e=>e
section
variable {K:PySem.W.Frag} {φ:List Addr} {h h1:AH} {H H':Hp} {s:Src} {J:It} {i:Nat} {x v:V}
theorem IsJ.stop (j:IsJ K φ s J) (R:Rl K G φ h H) (e:qBc h i s=true):J.stop i H:=by
 cases s with
 | list p=>
  obtain ⟨a,ha,rfl⟩:=j
  unfold qBc at e
  dsimp only at e
  split at e
  ·rename_i xs ex
   obtain ⟨q,zs,hq,hs,rz⟩:=R.lst ex
   rw [ha] at hq;cases hq
   exact ⟨zs,hs,by rw [<- Paired.length rz];exact of_decide_eq_true e⟩
  ·cases e
 | tupl p=>
  obtain ⟨a,ha,rfl⟩:=j
  unfold qBc at e
  dsimp only at e
  split at e
  ·rename_i xs ex
   obtain ⟨q,zs,hq,hs,rz⟩:=R.tup ex
   rw [ha] at hq;cases hq
   exact ⟨zs,hs,by rw [<- Paired.length rz];exact of_decide_eq_true e⟩
  ·cases e
 | rng lo n=>
  cases j
  show n<=i
  exact of_decide_eq_true e
 | zip p q=>
  obtain ⟨a,b,ha,hb,rfl⟩:=j
  unfold qBc at e
  dsimp only at e
  split at e
  ·rename_i xs ys ex ey
   obtain ⟨a',zs,hq,hs,rz⟩:=R.lst ex
   obtain ⟨b',ws,hq',hs',rz'⟩:=R.lst ey
   rw [ha] at hq;cases hq
   rw [hb] at hq';cases hq'
   exact ⟨zs,ws,hs,hs',by rw [<- Paired.length rz,<- Paired.length rz'];exact of_decide_eq_true e⟩
  ·cases e
 | enum p=>
  obtain ⟨a,ha,rfl⟩:=j
  unfold qBc at e
  dsimp only at e
  split at e
  ·rename_i xs ex
   obtain ⟨q,zs,hq,hs,rz⟩:=R.lst ex
   rw [ha] at hq;cases hq
   exact ⟨zs,hs,by rw [<- Paired.length rz];exact of_decide_eq_true e⟩
  ·cases e
 | rvd p n=>
  obtain ⟨a,ha,rfl⟩:=j
  show i=n
  exact of_decide_eq_true e
 | rngd lo n=>
  cases j
  show n<=i
  exact of_decide_eq_true e
theorem IsJ.go (j:IsJ K φ s J) (R:Rl K G φ h H) (e:qAa h i s=some (x,h1)):J.go i H:=by
 cases s with
 | list p=>
  obtain ⟨a,ha,rfl⟩:=j
  unfold qAa at e
  dsimp only at e
  split at e
  ·rename_i xs ex
   obtain ⟨y,ey,e2⟩:=Option.map_eq_some_iff.mp e
   obtain ⟨q,zs,hq,hs,rz⟩:=R.lst ex
   rw [ha] at hq;cases hq
   obtain ⟨z,hz,_⟩:=qAG rz ey
   exact ⟨zs,z,hs,hz⟩
  ·cases e
 | tupl p=>
  obtain ⟨a,ha,rfl⟩:=j
  unfold qAa at e
  dsimp only at e
  split at e
  ·rename_i xs ex
   obtain ⟨y,ey,e2⟩:=Option.map_eq_some_iff.mp e
   obtain ⟨q,zs,hq,hs,rz⟩:=R.tup ex
   rw [ha] at hq;cases hq
   obtain ⟨z,hz,_⟩:=qAG rz ey
   exact ⟨zs,z,hs,hz⟩
  ·cases e
 | rng lo n=>
  cases j
  unfold qAa at e
  dsimp only at e
  split at e
  ·rename_i hl
   exact hl
  ·cases e
 | zip p q=>
  obtain ⟨a,b,ha,hb,rfl⟩:=j
  unfold qAa at e
  dsimp only at e
  split at e
  ·rename_i xs ys ex ey
   split at e
   ·rename_i u w eu ew
    obtain ⟨a',zs,hq,hs,rz⟩:=R.lst ex
    obtain ⟨b',ws,hq',hs',rz'⟩:=R.lst ey
    rw [ha] at hq;cases hq
    rw [hb] at hq';cases hq'
    obtain ⟨z,hz,_⟩:=qAG rz eu
    obtain ⟨z',hz',_⟩:=qAG rz' ew
    exact ⟨zs,ws,z,z',hs,hs',hz,hz'⟩
   ·cases e
  ·cases e
 | enum p=>
  obtain ⟨a,ha,rfl⟩:=j
  unfold qAa at e
  dsimp only at e
  split at e
  ·rename_i xs ex
   obtain ⟨y,ey,e2⟩:=Option.map_eq_some_iff.mp e
   obtain ⟨q,zs,hq,hs,rz⟩:=R.lst ex
   rw [ha] at hq;cases hq
   obtain ⟨z,hz,_⟩:=qAG rz ey
   exact ⟨zs,z,hs,hz⟩
  ·cases e
 | rvd p n=>
  obtain ⟨a,ha,rfl⟩:=j
  unfold qAa at e
  dsimp only at e
  split at e
  ·rename_i hi
   split at e
   ·rename_i xs ex
    obtain ⟨y,ey,e2⟩:=Option.map_eq_some_iff.mp e
    obtain ⟨q,zs,hq,hs,rz⟩:=R.lst ex
    rw [ha] at hq;cases hq
    obtain ⟨z,hz,_⟩:=qAG rz ey
    exact ⟨hi,zs,z,hs,hz⟩
   ·cases e
  ·cases e
 | rngd lo n=>
  cases j
  unfold qAa at e
  dsimp only at e
  split at e
  ·rename_i hl
   exact hl
  ·cases e
theorem IsJ.yld (j:IsJ K φ s J) (R:Rl K G φ h H) (e:qAa h i s=some (x,h1)) (y:J.yld i H v H'):∃ φ',Ext φ φ'/\Rl K G φ' h1 H'/\rv φ' x v:=by
 cases s with
 | list p=>
  obtain ⟨a,ha,rfl⟩:=j
  unfold qAa at e
  dsimp only at e
  split at e
  ·rename_i xs ex
   obtain ⟨y',ey,e2⟩:=Option.map_eq_some_iff.mp e
   cases e2
   obtain ⟨q,zs,hq,hs,rz⟩:=R.lst ex
   rw [ha] at hq;cases hq
   obtain ⟨z,hz,rz'⟩:=qAG rz ey
   obtain ⟨rfl,k⟩:=y
   have:=k zs hs
   rw [hz] at this;cases this
   exact ⟨φ,.refl _,R,rz'⟩
  ·cases e
 | tupl p=>
  obtain ⟨a,ha,rfl⟩:=j
  unfold qAa at e
  dsimp only at e
  split at e
  ·rename_i xs ex
   obtain ⟨y',ey,e2⟩:=Option.map_eq_some_iff.mp e
   cases e2
   obtain ⟨q,zs,hq,hs,rz⟩:=R.tup ex
   rw [ha] at hq;cases hq
   obtain ⟨z,hz,rz'⟩:=qAG rz ey
   obtain ⟨rfl,k⟩:=y
   have:=k zs hs
   rw [hz] at this;cases this
   exact ⟨φ,.refl _,R,rz'⟩
  ·cases e
 | rng lo n=>
  cases j
  unfold qAa at e
  dsimp only at e
  split at e
  ·cases e
   obtain ⟨rfl,rfl⟩:=y
   exact ⟨φ,.refl _,R,rfl⟩
  ·cases e
 | zip p q=>
  obtain ⟨a,b,ha,hb,rfl⟩:=j
  unfold qAa at e
  dsimp only at e
  split at e
  ·rename_i xs ys ex ey
   split at e
   ·rename_i u w eu ew
    cases e
    obtain ⟨a',zs,hq,hs,rz⟩:=R.lst ex
    obtain ⟨b',ws,hq',hs',rz'⟩:=R.lst ey
    rw [ha] at hq;cases hq
    rw [hb] at hq';cases hq'
    obtain ⟨z,hz,r1⟩:=qAG rz eu
    obtain ⟨z',hz',r2⟩:=qAG rz' ew
    obtain ⟨p',x',y',hn,rfl,rfl,k1,k2⟩:=y
    have t1:=k1 zs hs
    have t2:=k2 ws hs'
    rw [hz] at t1;cases t1
    rw [hz'] at t2;cases t2
    exact ⟨φ++[p'],⟨[p'],rfl⟩,R.newT hn (.cons r1 (.cons r2 .nil)),R.lastRef⟩
   ·cases e
  ·cases e
 | enum p=>
  obtain ⟨a,ha,rfl⟩:=j
  unfold qAa at e
  dsimp only at e
  split at e
  ·rename_i xs ex
   obtain ⟨y',ey,e2⟩:=Option.map_eq_some_iff.mp e
   cases e2
   obtain ⟨q,zs,hq,hs,rz⟩:=R.lst ex
   rw [ha] at hq;cases hq
   obtain ⟨z,hz,r1⟩:=qAG rz ey
   obtain ⟨p',x',hn,rfl,rfl,k⟩:=y
   have:=k zs hs
   rw [hz] at this;cases this
   exact ⟨φ++[p'],⟨[p'],rfl⟩,R.newT hn (.cons rfl (.cons r1 .nil)),R.lastRef⟩
  ·cases e
 | rvd p n=>
  obtain ⟨a,ha,rfl⟩:=j
  unfold qAa at e
  dsimp only at e
  split at e
  ·split at e
   ·rename_i xs ex
    obtain ⟨y',ey,e2⟩:=Option.map_eq_some_iff.mp e
    cases e2
    obtain ⟨q,zs,hq,hs,rz⟩:=R.lst ex
    rw [ha] at hq;cases hq
    obtain ⟨z,hz,rz'⟩:=qAG rz ey
    obtain ⟨rfl,k⟩:=y
    have:=k zs hs
    rw [hz] at this;cases this
    exact ⟨φ,.refl _,R,rz'⟩
   ·cases e
  ·cases e
 | rngd lo n=>
  cases j
  unfold qAa at e
  dsimp only at e
  split at e
  ·cases e
   obtain ⟨rfl,rfl⟩:=y
   exact ⟨φ,.refl _,R,rfl⟩
  ·cases e
end
variable (G F) in
noncomputable def tI (K:PySem.W.Frag) (it:Itr):L2.TI:=fun σc H R=>∃ φ h σ s h',Rl K G φ h H/\rst φ σ σc/\evi F it σ h=.ok (s,h')/\∀ φ' H' J,Ext φ φ' -> Rl K G φ' h' H' -> IsJ K φ' s J -> R J H'
variable (X G F) in
noncomputable abbrev SI (tg iter:Expr) (it:Itr):Prop:=L2.PI X tg iter (tI G F X.K it)
theorem qGk {tg e:Expr} {t t':L2.TI} (h:L2.PI X tg e t) (w:∀ σ H Q,t' σ H Q -> t σ H Q):L2.PI X tg e t':=fun pins s σ H Q I q=>h pins s σ H Q I (w σ H Q q)
variable {a b:E} {ea eb tg:Expr} {pos p:Pos}
noncomputable def qO0 (K:PySem.W.Frag) (tl:TE):L2.TI:=fun σ H R=>tl σ H fun x H1=>∃ a,x=.ref a/\(((∃ xs,SqL K H1 a xs)/\R (Itl K a) H1)\/((∃ xs,SqT K H1 a xs)/\R (Itt K a) H1))
theorem qKh {l:Expr} {tl:TE} (hl:PE X l tl):L2.PI X tg l (qO0 X.K tl):=by
 intro pins s σ H R I h
 refine L2.thn (hl pins s σ H _ I h) fun v s1 ⟨x,H1,I1,r1,q1⟩=>?_
 obtain ⟨a,e,q⟩:=q1
 subst e
 cases r1
 rcases q with ⟨⟨xs,hq⟩,q⟩ | ⟨⟨xs,hq⟩,q⟩
 ·obtain ⟨its,rv,p,hz⟩:=I1.list hq
  refine wpAny_pyIter_list p.isList ?_
  refine ⟨s1.heap.objs.size,[s1.heap.objs.size],_,_,H1,rfl,I1.kept (t':=s1.toks) fun b o e=>Heap.get?_push_of_some _ e,L2.turn_list a _,⟨_,Heap.get?_push_size _ rfl,rfl,rfl⟩,fun b hb=>?_,q⟩
  have e:b=s1.heap.objs.size:=by simpa using hb
  subst e
  exact I1.fpOk (Nat.le_refl _) (I1.hok.fresh (Nat.le_refl _))
 ·obtain ⟨its,rv,p,hz⟩:=I1.tuple hq
  refine wpAny_pyIter_tuple (show s1.heap.IsTuple a its.toArray from p) ?_
  refine ⟨s1.heap.objs.size,[s1.heap.objs.size],_,_,H1,rfl,I1.kept (t':=s1.toks) fun b o e=>Heap.get?_push_of_some _ e,L2.turn_tuple a _,⟨_,Heap.get?_push_size _ rfl,rfl,rfl⟩,fun b hb=>?_,q⟩
  have e:b=s1.heap.objs.size:=by simpa using hb
  subst e
  exact I1.fpOk (Nat.le_refl _) (I1.hok.fresh (Nat.le_refl _))
theorem qF3 (ha:SE X G F ea a):SI X G F tg ea (.list a):=by
 refine qGk (qKh ha) fun σc H Q q=>?_
 obtain ⟨φ,h,σ,s,h',R,rs,e,k⟩:=q
 unfold evi at e
 obtain ⟨⟨x,h1⟩,e1,e⟩:=Res.bind_inv e
 refine ⟨φ,h,σ,x,h1,R,rs,e1,fun φ1 H1 w x1 R1 r1=>?_⟩
 cases x with
 | ref p=>
  dsimp only at e
  cases ey:h1[p]? with
  | none=>rw [ey] at e;cases e
  | some o=>
   cases o with
   | lst fz ys=>
    rw [ey] at e
    cases e
    obtain ⟨q,zs,hq,hs,rz⟩:=R1.lst (i:=p) (xs:=ys) (by unfold qAJ;rw [ey])
    obtain ⟨q',rfl,hq'⟩:=qAN r1
    rw [hq] at hq';cases hq'
    exact ⟨_,rfl,.inl ⟨⟨zs,hs⟩,k φ1 H1 _ x1 R1 ⟨_,hq,rfl⟩⟩⟩
   | tup ys=>
    rw [ey] at e
    cases e
    obtain ⟨q,zs,hq,hs,rz⟩:=R1.tup (i:=p) (xs:=ys) (by unfold qAU;rw [ey])
    obtain ⟨q',rfl,hq'⟩:=qAN r1
    rw [hq] at hq';cases hq'
    exact ⟨_,rfl,.inr ⟨⟨zs,hs⟩,k φ1 H1 _ x1 R1 ⟨_,hq,rfl⟩⟩⟩
   | ob ks=>rw [ey] at e;cases e
 | _=>cases e
theorem qI5 (hg:L2.Gl X "range") (hm:X.mg "range"=none) (hn:qAS ea=true) (ha:SE X G F ea a):SI X G F tg (.Call (.Name "range" p) [ea] [] pos) (.rng1 a):=by
 refine qGk (L2.pi_range1 hg hm (L2.pa_cons ha L2.pa_nil (qAD hn)) (qAD hn)) fun σc H Q q=>?_
 obtain ⟨φ,h,σ,s,h',R,rs,e,k⟩:=q
 unfold evi at e
 obtain ⟨⟨x,h1⟩,e1,e⟩:=Res.bind_inv e
 refine ⟨φ,h,σ,x,h1,R,rs,e1,fun φ1 H1 w x1 R1 r1=>?_⟩
 cases x with
 | int j=>
  dsimp only at e
  split at e
  ·rename_i hj
   cases e
   cases qAB r1
   exact ⟨j,rfl,by omega,by omega,k φ1 H1 _ x1 R1 rfl⟩
  ·cases e
 | _=>cases e
theorem qJT (hg:L2.Gl X "range") (hm:X.mg "range"=none) (hn:qAS ea=true) (hn2:qAS eb=true) (ha:SE X G F ea a) (hb:SE X G F eb b):SI X G F tg (.Call (.Name "range" p) [ea,eb] [] pos) (.rng2 a b):=by
 refine qGk (L2.pi_range2 hg hm (L2.pa_cons ha (L2.pa_cons hb L2.pa_nil (qAD hn2)) (qAD hn)) (by rw [qAD hn,qAD hn2];rfl) (qAD hn2)) fun σc H Q q=>?_
 obtain ⟨φ,h,σ,s,h',R,rs,e,k⟩:=q
 unfold evi at e
 obtain ⟨⟨x,h1⟩,e1,e⟩:=Res.bind_inv e
 obtain ⟨⟨y,h2⟩,e2,e⟩:=Res.bind_inv e
 refine qBh R rs e1 e2 fun φ2 H2 xc yc x2 R2 r1 r2=>?_
 cases x with
 | int i=>
  cases y with
  | int j=>
   dsimp only at e
   split at e
   ·rename_i hj
    cases e
    cases qAB r1
    cases qAB r2
    exact ⟨i,j,rfl,⟨by omega,by omega,by omega,by omega⟩,k φ2 H2 _ x2 R2 rfl⟩
   ·cases e
  | _=>cases e
 | _=>cases e
noncomputable def E.isM1:E -> Bool
 | .neg (.cst (.int i))=>i==1
 | _=>false
theorem qMk {F:Nat -> List V -> AH -> RV} {c:E} {σ:St} {h:AH} (e:c.isM1=true):ev F c σ h=.ok (.int (-1),h):=by
 unfold E.isM1 at e
 split at e
 ·have:=eq_of_beq e
  subst this
  rfl
 ·cases e
theorem qIx {ec:Expr} {c:E} (hg:L2.Gl X "range") (hm:X.mg "range"=none) (hn:qAS ea=true) (hn2:qAS eb=true) (hn3:qAS ec=true) (ha:SE X G F ea a) (hb:SE X G F eb b) (hc:SE X G F ec c) (h1:c.isM1=true):SI X G F tg (.Call (.Name "range" p) [ea,eb,ec] [] pos) (.rng3 a b):=by
 refine qGk (qGy hg hm (L2.pa_cons ha (L2.pa_cons hb (L2.pa_cons hc L2.pa_nil (qAD hn3)) (qAD hn2)) (qAD hn)) hn hn2 hn3) fun σc H Q q=>?_
 obtain ⟨φ,h,σ,s,h',R,rs,e,k⟩:=q
 unfold evi at e
 obtain ⟨⟨x,h1'⟩,e1,e⟩:=Res.bind_inv e
 obtain ⟨⟨y,h2⟩,e2,e⟩:=Res.bind_inv e
 refine qBh R rs e1 e2 fun φ2 H2 xc yc x2 R2 r1 r2=>?_
 refine ⟨φ2,h2,σ,.int (-1),h2,R2,rst.mono x2 rs,qMk h1,fun φ3 H3 zc x3 R3 r3=>?_⟩
 cases x with
 | int i=>
  cases y with
  | int j=>
   dsimp only at e
   split at e
   ·rename_i hj
    cases e
    cases qAB r1
    cases qAB r2
    cases qAB r3
    exact ⟨i,j,rfl,⟨by omega,by omega,by omega,by omega⟩,k φ3 H3 _ (x2.trans x3) R3 rfl⟩
   ·cases e
  | _=>cases e
 | _=>cases e
theorem qK5 {elts:List Expr} {kk:Nat} {tpos:Pos} (hg:L2.Gl X "zip") (hm:X.mg "zip"=none) (hn:qAS ea=true) (hn2:qAS eb=true) (ha:SE X G F ea a) (hb:SE X G F eb b):
  SI X G F (.Tuple elts kk tpos) (.Call (.Name "zip" p) [ea,eb] [] pos) (.zip a b):=by
 refine qGk (qKQ hg hm (L2.pa_cons ha (L2.pa_cons hb L2.pa_nil (qAD hn2)) (qAD hn)) hn hn2) fun σc H Q q=>?_
 obtain ⟨φ,h,σ,s,h',R,rs,e,k⟩:=q
 unfold evi at e
 obtain ⟨⟨x,h1⟩,e1,e⟩:=Res.bind_inv e
 obtain ⟨⟨y,h2⟩,e2,e⟩:=Res.bind_inv e
 refine qBh R rs e1 e2 fun φ2 H2 xc yc x2 R2 r1 r2=>?_
 cases x with
 | ref i=>
  cases y with
  | ref j=>
   dsimp only at e
   split at e
   ·rename_i xs ys ex ey
    cases e
    obtain ⟨a',zs,hq,hs,rz⟩:=R2.lst ex
    obtain ⟨b',ws,hq',hs',rz'⟩:=R2.lst ey
    obtain ⟨a2,rfl,ha2⟩:=qAN r1
    obtain ⟨b2,rfl,hb2⟩:=qAN r2
    rw [hq] at ha2;cases ha2
    rw [hq'] at hb2;cases hb2
    exact ⟨_,_,rfl,⟨zs,hs⟩,⟨ws,hs'⟩,k φ2 H2 _ x2 R2 ⟨_,_,hq,hq',rfl⟩⟩
   ·cases e
  | _=>cases e
 | _=>cases e
end
end PI
namespace PI
open PySem PySem.Spec PyProof.Rows PySem.SeqAt
open L2 (V Hp HO Cx PE PT PA PS PSs PG PGs PW TE TT TA TS TG TGs VK upd qAO qAH SqL SqT qFH Inv RelV Vals EP TP AP SP OpR qA6 R2 It qFr qEB Itl Itt qG4)
section
variable {X:Cx} {G:List Addr} {F:Nat -> List V -> AH -> RV}
theorem qLX {φ:List Addr}:∀ {v w w':V},rv φ v w -> rv φ v w' -> w=w'
 | .ref _,w,w',h,g=>by
  obtain ⟨a,e1,h1⟩:=qAN h
  obtain ⟨b,e2,g1⟩:=qAN g
  rw [h1] at g1
  cases g1
  rw [e1,e2]
 | .non,_,_,h,g=>by rw [qAr h,qAr g]
 | .bl _,_,_,h,g=>by rw [qAu h,qAu g]
 | .int _,_,_,h,g=>by rw [qAB h,qAB g]
 | .str _,_,_,h,g=>by rw [qA0 h,qA0 g]
 | .byt _,w,_,h,_=>by cases w<;>exact False.elim h
 | .flt _,w,_,h,_=>by cases w<;>exact False.elim h
 | .ty _,w,_,h,_=>by cases w<;>exact False.elim h
theorem qET {φ:List Addr}:∀ {vs ws us:List V},rvs φ vs ws -> rvs φ vs us -> ws=us
 | _,_,_,.nil,.nil=>rfl
 | _,_,_,.cons r t,.cons r' t'=>by rw [qLX r r',qET t t']
theorem qCj {φ:List Addr} {σ σc:St} (r:rst φ σ σc):∀ src,rst φ (L2.inner src σ) (L2.inner src σc)
 | []=>.nil
 | none::src=>.cons trivial (qCj r src)
 | some j::src=>by
  refine .cons ?_ (qCj r src)
  show ropt φ (σ[j]?).join (σc[j]?).join
  cases e:σ[j]? with
  | none=>exact trivial
  | some o=>
   cases o with
   | none=>exact trivial
   | some v=>
    obtain ⟨oc,ec,r'⟩:=qAG r e
    obtain ⟨w,rfl,r'⟩:=r'
    rw [ec]
    exact ⟨w,rfl,r'⟩
variable (X G F) in
noncomputable abbrev SC (ifs:List Expr) (c:Es):Prop:=L2.PTs X ifs (tB X.K G (evc F c))
theorem qKo:SC X G F [] .nil:=by
 intro pins s σ H Q I q
 obtain ⟨φ,h,σa,b,h',R,rs,e,k⟩:=q
 unfold evc at e
 cases e
 exact L2.pts_nil pins s σ H Q I (k φ H (.refl _) R)
theorem qLD {c:Expr} {a:E} (hc:ST X G F c a):SC X G F [c] (.cons a .nil):=by
 intro pins s σ H Q I q
 obtain ⟨φ,h,σa,b,h',R,rs,e,k⟩:=q
 unfold evc at e
 exact L2.pts_one hc pins s σ H Q I ⟨φ,h,σa,b,h',R,rs,e,k⟩
theorem qHC {it:Itr} {src:List (Option Nat)} {g:Tg} {c:Es} {e:E} {σc:St} {H:Hp} {Q:VK} (q:tE X.K G F (.comp it src g c e) σc H Q):
  L2.tComp (tI G F X.K it) src (tG X.K G g) (tB X.K G (evc F c)) (tE X.K G F e) σc H Q:=by
 obtain ⟨φ,h,σ,v,h',R,rs,ee,k⟩:=q
 unfold ev at ee
 obtain ⟨⟨s,h1⟩,e1,ee⟩:=Res.bind_inv ee
 refine ⟨φ,h,σ,s,h1,R,rs,e1,fun φ1 H1 J x1 R1 j1=>?_⟩
 dsimp only at ee
 split at ee
 ·rename_i n hn
  intro D hD
  have R2:Rl X.K G (φ1++[D]) (h1++[.lst false []]) (upd H1 D (.lst [])):=R1.newL hD .nil
  have hDφ:(φ1++[D])[h1.length]?=some D:=R1.lastRef
  refine ⟨fun i m ys σ' H'=>∃ φ' h2 σa ya,Ext (φ1++[D]) φ'/\Rl X.K G φ' h2 H'/\rst φ' σa σ'/\rvs φ' ya ys/\h2[h1.length]?=some (.lst false ya)/\qDp s g (evc F c) (ev F e) h1.length m i ya σa h2=.ok (v,h'),
   ⟨n,φ1++[D],_,_,[],.refl _,R2,qCj (rst.mono (x1.trans ⟨[D],rfl⟩) rs) src,.nil,by simp,ee⟩,?_⟩
  rintro i m ys σ' H' ⟨φ',h2,σa,ya,x2,Ra,rsa,rya,hya,ec⟩ hys
  have jj:IsJ X.K φ' s J:=j1.mono (Ext.trans ⟨[D],rfl⟩ x2)
  have hDφ':=x2.get hDφ
  cases m with
  | zero=>
   unfold qDp at ec
   split at ec
   ·rename_i hst
    cases ec
    exact .inl ⟨jj.stop Ra hst,k φ' H' _ ((x1.trans ⟨[D],rfl⟩).trans x2) Ra hDφ'⟩
   ·cases ec
  | succ m=>
   unfold qDp at ec
   split at ec
   ·rename_i x h3 hy
    split at ec
    ·rename_i σ3 hst
     refine .inr ⟨jj.go Ra hy,fun xv H2 hyl=>?_⟩
     obtain ⟨φ3,x3,R3,rx⟩:=jj.yld Ra hy hyl
     refine ⟨φ3,h3,σa,x,σ3,R3,rst.mono x3 rsa,rx,hst,fun σc3 rs3=>?_⟩
     obtain ⟨⟨t,h4⟩,e4,ec⟩:=Res.bind_inv ec
     refine ⟨φ3,h3,σ3,t,h4,R3,rs3,e4,fun φ4 H4 x4 R4=>?_⟩
     dsimp only at ec
     cases t with
     | true=>
      rw [if_pos rfl] at ec ⊢
      obtain ⟨⟨y,h5⟩,e5,ec⟩:=Res.bind_inv ec
      refine ⟨φ4,h4,σ3,y,h5,R4,rst.mono x4 rs3,e5,fun φ5 H5 yc x5 R5 r5=>?_⟩
      dsimp only at ec
      split at ec
      ·rename_i hc5
       have xx:Ext φ' φ5:=x3.trans (x4.trans x5)
       have hD5:=xx.get hDφ'
       obtain ⟨zs,hz,rz⟩:=R5.obj _ _ D hc5.1 hD5
       have ez:zs=ys:=qET rz (rvs.mono xx rya)
       subst ez
       refine ⟨hz,by rw [<- Paired.length rz];exact Nat.lt_trans hc5.2 qIE,m,Nat.lt_succ_self _,φ5,_,σ3,_,x2.trans xx,R5.set hc5.1 hD5 (qAP rz (.cons r5 .nil)),rst.mono (x4.trans x5) rs3,qAP rz (.cons r5 .nil),?_,ec⟩
       rw [List.getElem?_set_self (List.getElem?_eq_some_iff.mp hc5.1).1]
      ·cases ec
     | false=>
      rw [if_neg (by decide)] at ec ⊢
      split at ec
      ·rename_i hc4
       have xx:Ext φ' φ4:=x3.trans x4
       have hD4:=xx.get hDφ'
       obtain ⟨zs,hz,rz⟩:=R4.obj _ _ D hc4 hD4
       have ez:zs=ys:=qET rz (rvs.mono xx rya)
       subst ez
       exact ⟨hz,m,Nat.lt_succ_self _,φ4,_,σ3,_,x2.trans xx,R4,rst.mono x4 rs3,rz,hc4,ec⟩
      ·cases ec
    ·cases ec
   ·cases ec
 ·cases ee
end
end PI
namespace PI
open PySem PySem.Spec PyProof.Rows PySem.SeqAt
open L2 (V Hp HO Cx PE PT PA PS PSs PG PGs PW TE TT TA TS TG TGs VK upd qAO qAH SqL SqT qFH Inv RelV Vals EP TP AP SP OpR qA6 R2 It qFr qEB Itl Itt qG4)
section
variable {X:Cx} {G:List Addr} {F:Nat -> List V -> AH -> RV} {a b c:E} {ea eb ec tg:Expr} {pos:Pos}
theorem qGe {iter elt:Expr} {ifs:List Expr} {scope:Scope} {N:List Str} {it:Itr} {src:List (Option Nat)} {g:Tg} {cs:Es} {e:E} (hc:X.calm=true) (hi:SI X G F tg iter it) (S:L2.CompScope X scope N src)
  (hg:∀ C fp s H,SG (L2.cxComp X scope C fp s H N) G tg g) (ht:∀ C fp s H,SC (L2.cxComp X scope C fp s H N) G F ifs cs) (he:∀ C fp s H,SE (L2.cxComp X scope C fp s H N) G F elt e)
  (hs:∀ x,foldedSetIterable iter X.env x=pure x):SE X G F (.ListComp elt [⟨tg,iter,ifs,0⟩] scope pos) (.comp it src g cs e):=
 qAn (L2.pe_comp hc hi S hg ht he hs) fun _ _ _=>qHC
noncomputable def Post (K:PySem.W.Frag) (G:List Addr) (D:qG4) (φ:List Addr) (o:Out) (h':AH):Prop:=∀ φ' H',Ext φ φ' -> Rl K G φ' h' H' -> match o with
 | .nx σ=>∀ σc,rst φ' σ σc -> D.nx σc H'
 | .rt v=>∀ w,rv φ' v w -> D.rt w H'
 | .bk σ=>∀ σc,rst φ' σ σc -> D.bk σc H'
 | .ct σ=>∀ σc,rst φ' σ σc -> D.ct σc H'
theorem Post.mono {K:PySem.W.Frag} {D:qG4} {φ φ1:List Addr} {o:Out} {h':AH} (x:Ext φ φ1) (p:Post K G D φ o h'):Post K G D φ1 o h':=fun φ' H' x' R=>p φ' H' (x.trans x') R
noncomputable def tS (K:PySem.W.Frag) (G:List Addr) (r:St -> AH -> RS):TS:=fun D σc H=>∃ φ h σ o h',Rl K G φ h H/\rst φ σ σc/\r σ h=.ok (o,h')/\Post K G D φ o h'
variable (X G F) in
noncomputable abbrev SS (st:Stmt) (s:S):Prop:=PS X st (tS X.K G (ex F s))
variable (X G F) in
noncomputable abbrev SSs (st:List Stmt) (s:Ss):Prop:=PSs X st (tS X.K G (exs F s))
theorem qDS {e:Stmt} {t t':TS} (h:PS X e t) (w:∀ D σ H,t' D σ H -> t D σ H):PS X e t':=fun pins s σ H D I q=>h pins s σ H D I (w D σ H q)
theorem qIk {e:List Stmt} {t t':TS} (h:PSs X e t) (w:∀ D σ H,t' D σ H -> t D σ H):PSs X e t':=fun pins s σ H D I q=>h pins s σ H D I (w D σ H q)
theorem qAZ {st:Stmt}:SS X G F st .stop:=by
 intro pins s σ H D I q
 obtain ⟨φ,h,σa,o,h',R,rs,e,k⟩:=q
 unfold ex at e
 cases e
noncomputable def qCW:Expr -> Bool
 | .ListComp ..=>false
 | .SetComp ..=>false
 | .DictComp ..=>false
 | _=>true
theorem qCh {e:Expr} {t:Option Expr} {l:Nat} {env:Env} (h:qCW e=true):swapsWith e t l env=pure false:=by
 cases e<;>first | rfl | cases h
theorem qCz {e t:Expr} {l:Nat} {env:Env} (h:qCW e=true):swapsWithSole [t] e l env=pure false:=qCh h
theorem qIz {K:PySem.W.Frag} {σ:St} {H:Hp} {Q Q':VK} (q:tE K G F a σ H Q) (w:∀ v H,Q v H -> Q' v H):tE K G F a σ H Q':=by
 obtain ⟨φ,h,σa,v,h',R,rs,e,k⟩:=q
 exact ⟨φ,h,σa,v,h',R,rs,e,fun φ' H' u x' R' r'=>w u H' (k φ' H' u x' R' r')⟩
theorem qF1 {g:Tg} {D:qG4} {σc:St} {H:Hp} (q:tS X.K G (ex F (.asg g a)) D σc H):L2.tAsg (tE X.K G F a) (tG X.K G g) D σc H:=by
 obtain ⟨φ,h,σ,o,h',R,rs,e,k⟩:=q
 unfold ex at e
 obtain ⟨⟨x,h1⟩,e1,e⟩:=Res.bind_inv e
 dsimp only at e
 split at e
 ·rename_i σ1 es
  cases e
  exact ⟨φ,h,σ,x,_,R,rs,e1,fun φ1 H1 w x1 R1 r1=>⟨φ1,_,σ,x,σ1,R1,rst.mono x1 rs,r1,es,fun σc' rs'=>k φ1 H1 x1 R1 σc' rs'⟩⟩
 ·cases e
theorem qJy {iter elt:Expr} {ifs:List Expr} {scope:Scope} {N:List Str} {it:Itr} {src:List (Option Nat)} {g:Tg} {cs:Es} {e:E} {i:Nat} {n:Str} {p cpos:Pos} (hc:X.calm=true) (hi:SI X G F tg iter it) (S:L2.CompScope X scope N src)
  (hg:∀ C fp s H,SG (L2.cxComp X scope C fp s H N) G tg g) (ht:∀ C fp s H,SC (L2.cxComp X scope C fp s H N) G F ifs cs) (he:∀ C fp s H,SE (L2.cxComp X scope C fp s H N) G F elt e)
  (hs:∀ x,foldedSetIterable iter X.env x=pure x) (hN:X.N.Nodup) (hn:X.N[i]?=some n) (hx:L2.Loc X.env.scope n) (hf:X.fn n=true\/X.env.scope.names.lookup n=some .local):
  SS X G F (.Assign [.Name n p] (.ListComp elt [⟨tg,iter,ifs,0⟩] scope cpos) pos) (.asg (.name i) (.comp it src g cs e)):=by
 have hsw:swapsWith (.ListComp elt [⟨tg,iter,ifs,0⟩] scope cpos) (some (.Name n p)) pos.line X.env=pure (X.env.blockKind==.function&&X.env.kindOf n==some .local&&p.line==(Expr.ListComp elt [⟨tg,iter,ifs,0⟩] scope cpos).pos.line
   && !(scope.names.any fun (m,k)=>m==n&&(k==.local||k==.cell))):=rfl
 generalize hb:(X.env.blockKind==.function&&X.env.kindOf n==some .local&&p.line==(Expr.ListComp elt [⟨tg,iter,ifs,0⟩] scope cpos).pos.line
   && !(scope.names.any fun (m,k)=>m==n&&(k==.local||k==.cell)))=bb at hsw
 cases bb with
 | true=>
  have hl:X.env.scope.names.lookup n=some .local:=by
   simp only [Bool.and_eq_true] at hb
   have z:X.env.kindOf n=some .local:=by simpa using hb.1.1.2
   exact z
  refine qDS (L2.ps_setcomp (i:=i) (g:=tG X.K G g) (tc:=tB X.K G (evc F cs)) (te:=tE X.K G F e) hc hi S hg ht he hsw hN hn hl hs) fun D σc H q=>?_
  refine qHC (qIz (qF1 q) fun v H1 z=>?_)
  obtain ⟨φ,h,σ,w,σ',R,rs,r,es,k⟩:=z
  unfold store at es
  cases es
  exact k _ (qA7 (R:=ropt φ) (show ropt φ (some w) (some v) from ⟨v,rfl,r⟩) i rs)
 | false=>exact qDS (L2.ps_asg (qGe hc hi S hg ht he hs) (qG9 hN hn hx hf) hsw rfl rfl) fun _ _ _=>qF1
theorem qLf (hu:X.A.units + 8 < cLine) {eo ei:Expr} {o i:E} {p:Pos} (ho:SE X G F eo o) (hi:SE X G F ei i) (ha:SE X G F ea a) (hc:qCW ea=true) (hsl:qCe ei=true):SS X G F (.Assign [.Subscript eo ei p] ea pos) (.put o i a):=by
 refine qDS (L2.ps_asg ha (L2.pg_sub ho hi L2.set_list (fun v=>by cases ei<;>first | rfl | cases hsl)) (qCz hc) (by cases ea<;>rfl) rfl) fun D σc H q=>?_
 obtain ⟨φ,h,σ,out,h',R,rs,e,k⟩:=q
 unfold ex at e
 obtain ⟨⟨x,h1⟩,e1,e⟩:=Res.bind_inv e
 obtain ⟨⟨p1,h2⟩,e2,e⟩:=Res.bind_inv e
 obtain ⟨⟨k1,h3⟩,e3,e⟩:=Res.bind_inv e
 refine ⟨φ,h,σ,x,h1,R,rs,e1,fun φ1 H1 w x1 R1 r1=>?_⟩
 refine ⟨φ1,h1,σ,p1,h2,R1,rst.mono x1 rs,e2,fun φ2 H2 w2 x2 R2 r2=>?_⟩
 refine ⟨φ2,h2,σ,k1,h3,R2,rst.mono (x1.trans x2) rs,e3,fun φ3 H3 w3 x3 R3 r3=>?_⟩
 cases p1 with
 | ref q=>
  cases k1 with
  | int j=>
   dsimp only at e
   split at e
   ·rename_i xs ex1
    split at e
    ·rename_i jj ej
     cases e
     obtain ⟨q1,a',zs,ha',hH,rz⟩:=R3.mut ex1
     obtain ⟨a2,rfl,ha2⟩:=qAN (rv.mono x3 r2)
     rw [ha'] at ha2;cases ha2
     cases qAB r3
     refine ⟨_,zs,j,jj,rfl,rfl,hH,by rw [<- Paired.length rz];exact ej,?_⟩
     have xx:Ext φ φ3:=x1.trans (x2.trans x3)
     exact k φ3 _ xx (R3.set q1 ha' (qA7 (rv.mono (x2.trans x3) r1) jj rz)) σc (rst.mono xx rs)
    ·cases e
   ·cases e
  | _=>cases e
 | _=>cases e
theorem qJU (ha:SE X G F ea a) (hc:qCW ea=true):SS X G F (.Expr ea pos) (.expr a):=by
 refine qDS (L2.ps_expr ha (qCh hc)) fun D σc H q=>?_
 obtain ⟨φ,h,σ,out,h',R,rs,e,k⟩:=q
 unfold ex at e
 obtain ⟨⟨x,h1⟩,e1,e⟩:=Res.bind_inv e
 cases e
 exact ⟨φ,h,σ,x,_,R,rs,e1,fun φ1 H1 w x1 R1 r1=>k φ1 H1 x1 R1 σc (rst.mono x1 rs)⟩
theorem qKZ (ha:SE X G F ea a):SS X G F (.Return (some ea) pos) (.ret a):=by
 refine qDS (L2.ps_ret ha) fun D σc H q=>?_
 obtain ⟨φ,h,σ,out,h',R,rs,e,k⟩:=q
 unfold ex at e
 obtain ⟨⟨x,h1⟩,e1,e⟩:=Res.bind_inv e
 cases e
 exact ⟨φ,h,σ,x,_,R,rs,e1,fun φ1 H1 w x1 R1 r1=>k φ1 H1 x1 R1 w r1⟩
theorem qJR:SSs X G F [] .nil:=by
 refine qIk L2.pss_nil fun D σc H q=>?_
 obtain ⟨φ,h,σ,out,h',R,rs,e,k⟩:=q
 unfold exs at e
 cases e
 exact k φ H (.refl _) R σc rs
theorem qHf {st:Stmt} {sts:List Stmt} {s:S} {ss:Ss} (h1:SS X G F st s) (h2:SSs X G F sts ss):SSs X G F (st::sts) (.cons s ss):=by
 refine qIk (L2.pss_cons h1 h2) fun D σc H q=>?_
 obtain ⟨φ,h,σ,out,h',R,rs,e,k⟩:=q
 unfold exs at e
 obtain ⟨⟨o,h1⟩,e1,e⟩:=Res.bind_inv e
 refine ⟨φ,h,σ,o,h1,R,rs,e1,fun φ1 H1 x1 R1=>?_⟩
 cases o with
 | nx σ1=>exact fun σc1 rs1=>⟨φ1,h1,σ1,out,h',R1,rs1,e,k.mono x1⟩
 | rt v=>cases e;exact k φ1 H1 x1 R1
 | bk σ1=>cases e;exact k φ1 H1 x1 R1
 | ct σ1=>cases e;exact k φ1 H1 x1 R1
theorem qK4 {t u:List Stmt} {st su:Ss} (hc:ST X G F ec c) (ht:SSs X G F t st) (hu:SSs X G F u su):SS X G F (.If ec t u pos) (.ifs c st su):=by
 refine qDS (L2.ps_if hc ht hu) fun D σc H q=>?_
 obtain ⟨φ,h,σ,out,h',R,rs,e,k⟩:=q
 unfold ex at e
 obtain ⟨⟨x,h1⟩,e1,e⟩:=Res.bind_inv e
 refine ⟨φ,h,σ,x,h1,R,rs,e1,fun φ1 H1 x1 R1=>?_⟩
 dsimp only at e
 cases x with
 | true=>
  rw [if_pos rfl] at e ⊢
  exact ⟨φ1,h1,σ,out,h',R1,rst.mono x1 rs,e,k.mono x1⟩
 | false=>
  rw [if_neg (by decide)] at e ⊢
  exact ⟨φ1,h1,σ,out,h',R1,rst.mono x1 rs,e,k.mono x1⟩
theorem qLC {iter:Expr} {body:List Stmt} {it:Itr} {g:Tg} {sb:Ss} (hx:X.xe=fun _ _=>False) (hc:X.calm=true) (hi:SI X G F tg iter it) (hg:SG X G tg g) (hb:SSs X G F body sb)
  (hs:∀ x,foldedSetIterable iter X.env x=pure x):SS X G F (.For tg iter body [] pos) (.for_ g it sb):=by
 refine qDS (L2.ps_for (by rw [hx];exact PassesOwn.never) hc hi hg hb hs) fun D σc H q=>?_
 obtain ⟨φ,h,σ,out,h',R,rs,e,k⟩:=q
 unfold ex at e
 obtain ⟨⟨s,h1⟩,e1,e⟩:=Res.bind_inv e
 refine ⟨φ,h,σ,s,h1,R,rs,e1,fun φ1 H1 J x1 R1 j1=>?_⟩
 dsimp only at e
 split at e
 ·rename_i n hn
  refine ⟨fun i m σ' H'=>∃ φ' h2 σa,Ext φ1 φ'/\Rl X.K G φ' h2 H'/\rst φ' σa σ'/\qHP s g (exs F sb) m i σa h2=.ok (out,h'),⟨n,φ1,h1,σ,.refl _,R1,rst.mono x1 rs,e⟩,?_⟩
  rintro i m σ' H' ⟨φ',h2,σa,x2,Ra,rsa,ef⟩
  have jj:IsJ X.K φ' s J:=j1.mono x2
  cases m with
  | zero=>
   unfold qHP at ef
   split at ef
   ·rename_i hst
    cases ef
    exact .inl ⟨jj.stop Ra hst,k φ' H' (x1.trans x2) Ra σ' rsa⟩
   ·cases ef
  | succ m=>
   unfold qHP at ef
   split at ef
   ·rename_i x h3 hy
    split at ef
    ·rename_i σ3 hst
     refine .inr ⟨jj.go Ra hy,fun σ' H'=>∃ φ' h2 σa,Ext φ1 φ'/\Rl X.K G φ' h2 H'/\rst φ' σa σ'/\qHP s g (exs F sb) m (i + 1) σa h2=.ok (out,h'),fun σ2 H2 w=>⟨m,Nat.lt_succ_self _,w⟩,fun xv H2 hyl=>?_⟩
     obtain ⟨φ3,x3,R3,rx⟩:=jj.yld Ra hy hyl
     refine ⟨φ3,h3,σa,x,σ3,R3,rst.mono x3 rsa,rx,hst,fun σc3 rs3=>?_⟩
     obtain ⟨⟨o,h4⟩,e4,ef⟩:=Res.bind_inv ef
     refine ⟨φ3,h3,σ3,o,h4,R3,rs3,e4,fun φ4 H4 x4 R4=>?_⟩
     dsimp only at ef
     cases o with
     | nx σ4=>exact fun σc4 rs4=>⟨φ4,h4,σ4,x2.trans (x3.trans x4),R4,rs4,ef⟩
     | ct σ4=>exact fun σc4 rs4=>⟨φ4,h4,σ4,x2.trans (x3.trans x4),R4,rs4,ef⟩
     | bk σ4=>cases ef;exact k φ4 H4 (x1.trans (x2.trans (x3.trans x4))) R4
     | rt v=>cases ef;exact k φ4 H4 (x1.trans (x2.trans (x3.trans x4))) R4
    ·cases ef
   ·cases ef
 ·cases e
theorem qHw {body:List Stmt} {sb:Ss} (hx:X.xe=fun _ _=>False) (hc:ST X G F ec c) (hb:SSs X G F body sb):SS X G F (.While ec body [] pos) (.while_ c sb):=by
 refine qDS (L2.ps_while (by rw [hx];exact PassesOwn.never) hc hb) fun D σc H q=>?_
 obtain ⟨φ,h,σ,out,h',R,rs,e,k⟩:=q
 unfold ex at e
 refine ⟨fun m σ' H'=>∃ φ' h2 σa,Ext φ φ'/\Rl X.K G φ' h2 H'/\rst φ' σa σ'/\qBo (fun σ h=>asB (ev F c σ h)) (exs F sb) m σa h2=.ok (out,h'),⟨qJO,φ,h,σ,.refl _,R,rs,e⟩,?_⟩
 rintro m σ' H' ⟨φ',h2,σa,x2,Ra,rsa,ew⟩
 cases m with
 | zero=>unfold qBo at ew;cases ew
 | succ m=>
  unfold qBo at ew
  obtain ⟨⟨t,h3⟩,e3,ew⟩:=Res.bind_inv ew
  refine ⟨φ',h2,σa,t,h3,Ra,rsa,e3,fun φ3 H3 x3 R3=>?_⟩
  dsimp only at ew
  cases t with
  | true=>
   rw [if_pos rfl] at ew ⊢
   obtain ⟨⟨o,h4⟩,e4,ew⟩:=Res.bind_inv ew
   refine ⟨fun σ' H'=>∃ φ' h2 σa,Ext φ φ'/\Rl X.K G φ' h2 H'/\rst φ' σa σ'/\qBo (fun σ h=>asB (ev F c σ h)) (exs F sb) m σa h2=.ok (out,h'),fun σ2 H2 w=>⟨m,Nat.lt_succ_self _,w⟩,φ3,h3,σa,o,h4,R3,rst.mono x3 rsa,e4,fun φ4 H4 x4 R4=>?_⟩
   dsimp only at ew
   cases o with
   | nx σ4=>exact fun σc4 rs4=>⟨φ4,h4,σ4,x2.trans (x3.trans x4),R4,rs4,ew⟩
   | ct σ4=>exact fun σc4 rs4=>⟨φ4,h4,σ4,x2.trans (x3.trans x4),R4,rs4,ew⟩
   | bk σ4=>cases ew;exact k φ4 H4 (x2.trans (x3.trans x4)) R4
   | rt v=>cases ew;exact k φ4 H4 (x2.trans (x3.trans x4)) R4
  | false=>
   rw [if_neg (by decide)] at ew ⊢
   cases ew
   exact k φ3 H3 (x2.trans x3) R3 σ' (rst.mono x3 rsa)
end
end PI
namespace PI
open PySem PySem.Spec PyProof.Rows
open L2 (V)
structure Gam where
 N:List Str
 sc:Scope
 fns:List Str
 gl:List (Str×E)
 bl:List Str
 own:Str -> Bool
 cls:List Str:=[]
 xr:Bool:=false
noncomputable def slot (N:List Str) (x:Str):Option Nat:=(List.range N.length).find? fun i=>N[i]?==some x
theorem qCD {N:List Str} {x:Str} {i:Nat} (h:slot N x=some i):N[i]?=some x:=by
 unfold slot at h
 simpa using List.find?_some h
noncomputable def qNB (sc:Scope) (x:Str):Bool:=match sc.names.lookup x with | some .local=>true | some .cell=>true | some .free=>true | _=>false
theorem qJb {sc:Scope} {x:Str} (h:qNB sc x=true):L2.Vis sc x:=by
 unfold qNB at h
 unfold L2.Vis
 split at h<;>first | (rename_i e;simp [e]) | cases h
noncomputable def glB (sc:Scope) (x:Str):Bool:=sc.names.lookup x==some .globalImplicit
noncomputable def okN (x:Str):Bool:=!(x==("__debug__":Str))&&!(x==("__classdict__":Str))&&!decide (x="__name__")
noncomputable def qN4:Operator -> Option BOp
 | .Add=>some .add | .Sub=>some .sub | .Mult=>some .mul | .FloorDiv=>some .fdiv | .Mod=>some .mod | .Pow=>some .pow | .BitAnd=>some .band | .RShift=>some .shr | .BitXor=>some .bxor | _=>none
theorem qJv {o:Operator} {b:BOp} (h:qN4 o=some b):o=opB b:=by
 cases o<;>cases h<;>rfl
noncomputable def qFj:CmpOp -> COp
 | .Lt=>.lt | .LtE=>.le | .Gt=>.gt | .GtE=>.ge | .Eq=>.eq | .NotEq=>.ne | .In=>.inn | .NotIn=>.notin | .Is=>.is | .IsNot=>.isnot
theorem qEU (o:CmpOp):o=opC (qFj o):=by cases o<;>rfl
noncomputable def qEQ:Expr -> Bool
 | .Set ..=>false
 | _=>true
noncomputable def qGv:Expr -> Bool
 | .Call ..=>false
 | _=>true
noncomputable def bfL:List (Str×BF):=[("len",.len),("sum",.sum),("all",.all),("any",.any),("max",.max),("min",.min),("int",.int),("tuple",.tuple),("repr",.repr)]
noncomputable def qNp (x:Str):Option BF:=bfL.lookup x
theorem qCx {x:Str} {f:BF}:∀ {l:List (Str×BF)},l.lookup x=some f -> (x,f)∈l
 | [],h=>by cases h
 | (a,b)::l,h=>by
  rw [List.lookup_cons] at h
  split at h
  ·rename_i e
   cases h
   rw [eq_of_beq e]
   exact List.mem_cons_self ..
  ·exact List.mem_cons_of_mem _ (qCx h)
theorem qLW:∀ p∈bfL,bootBuiltins p.1=some (fnB p.2):=
 List.forall_mem_cons.mpr ⟨PySem.boot_len,List.forall_mem_cons.mpr ⟨PyProof.Rows.boot_sum,List.forall_mem_cons.mpr ⟨PyProof.Rows.boot_all,List.forall_mem_cons.mpr ⟨PyProof.Rows.boot_any,List.forall_mem_cons.mpr ⟨PyProof.Rows.boot_max,List.forall_mem_cons.mpr ⟨PyProof.Rows.boot_min,List.forall_mem_cons.mpr ⟨PyProof.Rows.boot_int,List.forall_mem_cons.mpr ⟨PyProof.Rows.boot_tuple,List.forall_mem_cons.mpr ⟨PyProof.Rows.boot_repr,(fun _ h=>absurd h List.not_mem_nil)⟩⟩⟩⟩⟩⟩⟩⟩⟩
theorem qJk {x:Str} {f:BF} (h:qNp x=some f):bootBuiltins x=some (fnB f):=qLW _ (qCx h)
noncomputable def qMS (x:Str):Option String:=
 if x="int" then some "int" else if x="bool" then some "bool" else if x="list" then some "list" else if x="tuple" then some "tuple" else if x="str" then some "str" else if x="dict" then some "dict" else none
theorem qJ0 {x:Str} {t:String} (h:qMS x=some t):bootBuiltins x=some (.type t)/\qDo t=true:=by
 unfold qMS at h
 repeat' split at h
 all_goals first | cases h | skip
 all_goals (rename_i hx;subst hx)
 ·exact ⟨PyProof.Rows.boot_int,by decide⟩
 ·exact ⟨PyProof.Rows.boot_bool,by decide⟩
 ·exact ⟨PyProof.Rows.boot_list,by decide⟩
 ·exact ⟨PyProof.Rows.boot_tuple,by decide⟩
 ·exact ⟨PyProof.Rows.boot_str,by decide⟩
 ·exact ⟨PyProof.Rows.boot_dict,by decide⟩
noncomputable def qMO (scope sc:Scope):Scope:=
 { scope with names:=scope.names.map fun (n,k)=>if (k==.free&&sc.kind==.function&&sc.names.lookup n==some .cell) then (n,.cell) else (n,k) }
noncomputable def qGw:Expr -> List Str
 | .Name x _=>[x]
 | .Tuple es _ _=>es.filterMap fun e:Expr=>match e with | .Name x _=>some x | _=>none
 | _=>[]
noncomputable def qLq (scope:Scope):List Str:=scope.names.filterMap fun y=>if y.2=.free then some y.1 else none
noncomputable def qDR (Γ:Gam) (scope:Scope) (N:List Str) (src:List (Option Nat)):Bool:=
 decide (scope.kind=.function)&&scope.names.all (fun y=>decide (scope.names.lookup y.1=some y.2))
 && scope.names.all (fun y=>decide (y.2=.free -> (Γ.sc.names.lookup y.1=some .cell\/Γ.sc.names.lookup y.1=some .free)))&&decide N.Nodup&&decide (src.length=N.length)
 && (List.range N.length).all (fun i=>match N[i]?,src[i]? with | some x,some (some j)=>decide (Γ.N[j]?=some x/\scope.names.lookup x=some .free) | _,_=>true)
noncomputable def qFM (Γ:Gam) (x:Str):Bool:=match Γ.sc.names.lookup x with | some .local=>true | some .cell=>Γ.own x | _=>false
noncomputable def qL9 (Γ:Gam):List Expr -> Option (List Nat)
 | []=>some []
 | .Name x _::r=>if qFM Γ x then (match slot Γ.N x,qL9 Γ r with | some i,some is=>some (i::is) | _,_=>none) else none
 | _=>none
noncomputable def trT (Γ:Gam):Expr -> Option Tg
 | .Name x _=>if qFM Γ x then (slot Γ.N x).map .name else none
 | .Tuple es _ _=>(qL9 Γ es).map .tup
 | _=>none
noncomputable def qMz:List Expr -> Bool
 | [.Call (.Name r _) [_] [] _]=>decide (r="range")
 | _=>false
mutual
noncomputable def trE:Nat -> Gam -> Expr -> Option E
 | 0,_,_=>none
 | n + 1,Γ,e=>match e with
  | .Constant c _ _=>(match c with
   | .int i=>some (.cst (.int i))
   | .bool i=>some (.cst (.bl i))
   | .none=>some (.cst .non)
   | .str i=>some (.cst (.str i))
   | _=>none)
  | .Name x _=>if okN x then (if qNB Γ.sc x then (slot Γ.N x).map .var else if glB Γ.sc x then Γ.gl.lookup x else none) else none
  | .BinOp a op b _=>match qN4 op,trE n Γ a,trE n Γ b with | some o,some a',some b'=>some (.bin o a' b') | _,_,_=>none
  | .UnaryOp op a _=>(match op with
   | .USub=>(trE n Γ a).map .neg
   | .Not=>(trE n Γ a).map .not
   | _=>none)
  | .BoolOp op vs p=>trB n Γ op p vs
  | .Compare a ops bs _=>(match ops,bs with
   | [op],[b]=>if qEQ b then (match trE n Γ a,trE n Γ b with | some a',some b'=>some (.cmp (qFj op) a' b') | _,_=>none) else none
   | [o1,o2],[b,c]=>if qEQ c then (match trE n Γ a,trE n Γ b,trE n Γ c with | some a',some b',some c'=>some (.cmp2 (qFj o1) (qFj o2) a' b' c') | _,_,_=>none) else none
   | _,_=>none)
  | .Call fn args kws cpos=>(match kws with
   | []=>(match fn with
    | .Name f _=>if okN f&&glB Γ.sc f&&args.all qAS then trC n Γ f args else none
    | .Attribute o m apos=>(match args with
     | [x]=>if m="append"/\qGv o=true/\qAS x=true/\(apos.endLine==cpos.line)=true then (match trE n Γ o,trE n Γ x with | some o',some x'=>some (.app o' x') | _,_=>none) else none
     | []=>if m="bit_length" then (if qGv o=true/\(apos.endLine==cpos.line)=true then (trE n Γ o).map (fun o'=>.blt .bits (.cons o' .nil)) else none) else none
     | _=>none)
    | _=>none)
   | _=>none)
  | .Subscript a b _=>(match b with
   | .Slice lo hi st _=>(match st with
    | none=>(match trE n Γ a,trO n Γ lo,trO n Γ hi with | some a',some l,some h=>some (.sl a' l h) | _,_,_=>none)
    | some k=>(match lo,hi,k with
     | none,none,.UnaryOp .USub (.Constant (.int 1) _ _) _=>(trE n Γ a).map .rev
     | _,_,_=>none))
   | b=>if qCe b then (match trE n Γ a,trE n Γ b with | some a',some b'=>some (.idx a' b') | _,_=>none) else none)
  | .List es _=>if es.all qAS then (trA n Γ es).map .lst else none
  | .Tuple es _ _=>if es.all qAS then (trA n Γ es).map .tup else none
  | .Dict ks vs _=>(match ks,vs with | [],[]=>some .dnew | _,_=>none)
  | .ListComp elt gens scope _=>(match gens with
   | [gen]=>(match gen with
    | ⟨tg,iter,ifs,asy⟩=>(match asy with
     | 0=>
      let N:=qGw tg++qLq scope
      let src:=(qGw tg).map (fun _=>none)++(qLq scope).map (slot Γ.N)
      let Γ':Gam:={ Γ with N:=N,sc:=qMO scope Γ.sc,own:=fun x=>decide (scope.names.lookup x=some .cell) }
      if qDR Γ scope N src&&qEQ iter then (match trI n Γ tg iter,trT Γ' tg,qKE n Γ' ifs,trE n Γ' elt with | some it,some g,some c,some e'=>some (.comp it src g c e') | _,_,_,_=>none) else none
     | _=>none))
   | _=>none)
  | _=>none
noncomputable def trA:Nat -> Gam -> List Expr -> Option Es
 | 0,_,_=>none
 | _ + 1,_,[]=>some .nil
 | n + 1,Γ,e::es=>match trE n Γ e,trA n Γ es with | some a,some as=>some (.cons a as) | _,_=>none
noncomputable def trB:Nat -> Gam -> BoolOp -> Pos -> List Expr -> Option E
 | 0,_,_,_,_=>none
 | _ + 1,_,_,_,[]=>none
 | n + 1,Γ,_,_,[a]=>trE n Γ a
 | n + 1,Γ,op,p,a::b::r=>match trE n Γ a,trB n Γ op p (b::r) with | some a',some b'=>some (match op with | .And=>.and a' b' | .Or=>.or a' b') | _,_=>none
noncomputable def trC:Nat -> Gam -> Str -> List Expr -> Option E
 | 0,_,_,_=>none
 | n + 1,Γ,f,args=>match slot Γ.fns f with
  | some i=>(trA n Γ args).map (.call i)
  | none=>if Γ.bl.contains f then
    (if f="isinstance" then (match args with
     | [a,.Name t _]=>if okN t&&glB Γ.sc t&&Γ.bl.contains t then (match trE n Γ a,qMS t with | some a',some t'=>some (.isi a' [t']) | _,_=>none) else none
     | _=>none)
    else if f="list"/\qMz args=true then (match args with
     | [.Call (.Name r _) [a] [] _]=>if okN r&&glB Γ.sc r&&Γ.bl.contains r&&qAS a&&decide (r="range") then (trE n Γ a).map .lrng else none
     | _=>none)
    else match qNp f,args with
     | some b,_::_=>(trA n Γ args).map (.blt b)
     | _,_=>none)
   else none
noncomputable def trO:Nat -> Gam -> Option Expr -> Option Es
 | 0,_,_=>none
 | _ + 1,_,none=>some .nil
 | n + 1,Γ,some e=>(trE n Γ e).map fun a=>.cons a .nil
noncomputable def qKE:Nat -> Gam -> List Expr -> Option Es
 | 0,_,_=>none
 | _ + 1,_,[]=>some .nil
 | n + 1,Γ,[c]=>(trE n Γ c).map fun a=>.cons a .nil
 | _,_,_=>none
noncomputable def trI:Nat -> Gam -> Expr -> Expr -> Option Itr
 | 0,_,_,_=>none
 | n + 1,Γ,tg,iter=>match iter with
  | .Call (.Name f _) args [] _=>
   if f="range" then (if glB Γ.sc f&&Γ.bl.contains f&&args.all qAS then (match args with
    | [a]=>(trE n Γ a).map .rng1
    | [a,b]=>match trE n Γ a,trE n Γ b with | some a',some b'=>some (.rng2 a' b') | _,_=>none
    | [a,b,c]=>match trE n Γ a,trE n Γ b,trE n Γ c with | some a',some b',some c'=>if c'.isM1 then some (.rng3 a' b') else none | _,_,_=>none
    | _=>none) else none)
   else if f="zip" then (if glB Γ.sc f&&Γ.bl.contains f&&args.all qAS then (match tg,args with
    | .Tuple ..,[a,b]=>match trE n Γ a,trE n Γ b with | some a',some b'=>some (.zip a' b') | _,_=>none
    | _,_=>none) else none)
   else (trE n Γ iter).map .list
  | _=>(trE n Γ iter).map .list
end
mutual
noncomputable def trS:Nat -> Gam -> Stmt -> S
 | 0,_,_=>.stop
 | n + 1,Γ,st=>match st with
  | .Assign ts v _=>(match ts with
   | [tgt]=>(match tgt with
    | .Name x _=>(match trT Γ (.Name x ⟨0,0,0,0⟩),trE 60 Γ v with | some g,some a=>.asg g a | _,_=>.stop)
    | .Tuple es k p=>(match es,v with
     | [.Name _ _,.Name _ _],.Tuple [_,_] _ _=>.stop
     | _,_=>.stop)
    | .Subscript o i _=>if qCW v&&qCe i then (match trE 60 Γ o,trE 60 Γ i,trE 60 Γ v with | some o',some i',some v'=>.put o' i' v' | _,_,_=>.stop) else .stop
    | _=>.stop)
   | _=>.stop)
  | .Expr e _=>if qCW e then (match trE 60 Γ e with | some a=>.expr a | none=>.stop) else .stop
  | .Return r _=>(match r with
   | some e=>(match trE 60 Γ e with | some a=>.ret a | none=>.stop)
   | none=>.stop)
  | .If c t u _=>match trE 60 Γ c with | some c'=>.ifs c' (qFq n Γ t) (qFq n Γ u) | none=>.stop
  | .For tg iter b els _=>(match els with
   | []=>if qEQ iter then (match trI 60 Γ tg iter,trT Γ tg with | some it,some g=>.for_ g it (qFq n Γ b) | _,_=>.stop) else .stop
   | _=>.stop)
  | .While c b els _=>(match els with
   | []=>(match trE 60 Γ c with | some c'=>.while_ c' (qFq n Γ b) | none=>.stop)
   | _=>.stop)
  | _=>.stop
noncomputable def qFq:Nat -> Gam -> List Stmt -> Ss
 | 0,_,_=>.cons .stop .nil
 | _ + 1,_,[]=>.nil
 | n + 1,Γ,s::r=>.cons (trS n Γ s) (qFq n Γ r)
end
end PI
namespace PI
open PySem PySem.Spec PyProof.Rows PySem.SeqAt
open L2 (V Hp HO Cx PE PT PA PS PSs PG PGs PW RelV)
structure Fit (Γ:Gam) (X:Cx) (G:List Addr) (F:Nat -> List V -> AH -> RV):Prop where
 hN:X.N=Γ.N
 nd:Γ.N.Nodup
 sc:X.env.scope=Γ.sc
 calm:X.calm=true
 fn:∀ x,Γ.own x=true -> X.fn x=true
 fns:∀ (f:Nat) x,Γ.fns[f]?=some x -> FnS X G F f x
 gls:∀ x e,Γ.gl.lookup x=some e -> (∃ v u,e=.cst v/\X.mg x=some u/\RelV v u/\∀ φ,rv φ v v)\/(∃ g a,e=.glob g/\X.mg x=some (.ref a)/\G[g]?=some a)
 blt:∀ x,Γ.bl.contains x=true -> X.mg x=none
 hu:X.A.units + 8 < cLine
 gd:X.A.guards=some []
 gtu:∀ a∈G,∃ o,X.K.lookup a=some o/\o.cls=.type "tuple"/\o.dict=none
section
variable {Γ:Gam} {X:Cx} {G:List Addr} {F:Nat -> List V -> AH -> RV}
theorem qGr {x:Str} (h:okN x=true):(x==("__debug__":Str))=false/\(x==("__classdict__":Str))=false/\x≠"__name__":=by
 unfold okN at h
 simp only [Bool.and_eq_true,Bool.not_eq_true',decide_eq_false_iff_not] at h
 exact ⟨h.1.1,h.1.2,h.2⟩
theorem Fit.gl' (f:Fit Γ X G F) {x:Str} (h:glB Γ.sc x=true):L2.Gl X x:=by
 unfold L2.Gl Env.kindOf
 rw [f.sc]
 simpa [glB] using h
theorem Fit.store (f:Fit Γ X G F) {x:Str} (h:qFM Γ x=true):L2.Loc X.env.scope x/\(X.fn x=true\/X.env.scope.names.lookup x=some .local):=by
 rw [f.sc]
 unfold qFM at h
 unfold L2.Loc
 split at h
 ·rename_i e;exact ⟨.inl e,.inr e⟩
 ·rename_i e;exact ⟨.inr e,.inl (f.fn x h)⟩
 ·cases h
theorem qIC (f:Fit Γ X G F):∀ {es:List Expr} {is:List Nat},qL9 Γ es=some is -> PGs X es (tGs is)/\(assignEach es X.env).length=is.length/\(assignEach es X.env).findIdx? (·.1)=none
 | [],is,h=>by
  cases h
  exact ⟨qJe,rfl,rfl⟩
 | e::es,is,h=>by
  unfold qL9 at h
  split at h
  ·rename_i e1;cases e1
  ·rename_i x p r e1
   cases e1
   split at h
   ·rename_i hs
    split at h
    ·rename_i i is' ei eis
     cases h
     obtain ⟨h1,h2⟩:=f.store hs
     obtain ⟨g1,g2,g3⟩:=qIC f eis
     refine ⟨qH1 (by rw [f.hN];exact f.nd) (by rw [f.hN];exact qCD ei) h1 h2 g1,?_,?_⟩
     ·show (assignEach es X.env).length + 1=_
      rw [g2];rfl
     ·show (((false,assign (.Name x p) X.env)::assignEach es X.env).findIdx? (·.1))=none
      rw [List.findIdx?_cons,g3]
      rfl
    ·cases h
   ·cases h
  ·cases h
theorem qH8 (f:Fit Γ X G F) {tg:Expr} {g:Tg} (h:trT Γ tg=some g):SG X G tg g:=by
 unfold trT at h
 split at h
 ·rename_i x p
  split at h
  ·rename_i hs
   obtain ⟨i,ei,rfl⟩:=Option.map_eq_some_iff.mp h
   obtain ⟨h1,h2⟩:=f.store hs
   exact qG9 (by rw [f.hN];exact f.nd) (by rw [f.hN];exact qCD ei) h1 h2
  ·cases h
 ·obtain ⟨is,ei,rfl⟩:=Option.map_eq_some_iff.mp h
  obtain ⟨g1,g2,g3⟩:=qIC f ei
  exact qLu f.calm g1 g2 g3
 ·cases h
theorem qG1 {op:CmpOp} {e:Expr} (h:qEQ e=true):behindInMarks op e=false:=by
 cases e<;>first | rfl | cases h
theorem qGi {o1 o2:CmpOp} {b c:Expr} (h:qEQ c=true):lastMarks [o1,o2] [b,c]=false:=by
 show behindInMarks o2 c=false
 exact qG1 h
theorem qFx {iter:Expr} {env:Env} (h:qEQ iter=true):∀ x,foldedSetIterable iter env x=pure x:=by
 intro x
 cases iter<;>first | rfl | cases h
theorem qIS {o:Expr} {n:Str} {env:Env} {w:Sem Value} (h:qGv o=true):attributeBase o n env w=w:=by
 cases o<;>first | rfl | cases h
theorem qB9 (f:Fit Γ X G F) {scope:Scope} {N:List Str} {src:List (Option Nat)} (h:qDR Γ scope N src=true):L2.CompScope X scope N src:=by
 unfold qDR at h
 simp only [Bool.and_eq_true,List.all_eq_true,decide_eq_true_eq] at h
 obtain ⟨⟨⟨⟨⟨h1,h2⟩,h4⟩,h5⟩,h6⟩,h7⟩:=h
 refine ⟨h1,h2,fun y hy hk=>?_,h5,h6,fun i x j e1 e2=>?_⟩
 ·unfold Env.kindOf
  rw [f.sc]
  exact h4 y hy hk
 ·have hi:i < N.length:=(List.getElem?_eq_some_iff.mp e1).1
  have:=h7 i (List.mem_range.mpr hi)
  rw [e1,e2] at this
  rw [f.hN]
  simpa using this
theorem qBW (f:Fit Γ X G F) {scope:Scope} {N:List Str} {src:List (Option Nat)} (h:qDR Γ scope N src=true) (C:Addr) (fp:List Addr) (s:Shared) (H:Hp):
  Fit { Γ with N:=N,sc:=qMO scope Γ.sc,own:=fun x=>decide (scope.names.lookup x=some .cell) } (L2.cxComp X scope C fp s H N) G F:=by
 have S:=qB9 f h
 refine ⟨rfl,S.nd,?_,f.calm,fun x z=>z,fun g x e=>?_,f.gls,f.blt,f.hu,f.gd,f.gtu⟩
 ·show relabel scope X.env=qMO scope Γ.sc
  unfold relabel qMO Env.kindOf
  rw [f.sc]
 ·exact ⟨(f.fns g x e).ex⟩
theorem qFB (n:Nat):
  (∀ Γ e a,trE n Γ e=some a -> ∀ X:Cx,Fit Γ X G F -> SE X G F e a/\ST X G F e a)/\
  (∀ Γ es as,trA n Γ es=some as -> es.all qAS=true -> ∀ X:Cx,Fit Γ X G F -> SA X G F es as)/\
  (∀ Γ op p vs a,trB n Γ op p vs=some a -> ∀ X:Cx,Fit Γ X G F -> SE X G F (.BoolOp op vs p) a/\SW X G F (.BoolOp op vs p) a)/\
  (∀ Γ f args a,trC n Γ f args=some a -> okN f=true -> glB Γ.sc f=true -> args.all qAS=true -> ∀ X:Cx,Fit Γ X G F -> ∀ p pos,SE X G F (.Call (.Name f p) args [] pos) a)/\
  (∀ Γ o as,trO n Γ o=some as -> ∀ X:Cx,Fit Γ X G F -> SO X G F o as)/\
  (∀ Γ ifs as,qKE n Γ ifs=some as -> ∀ X:Cx,Fit Γ X G F -> SC X G F ifs as)/\
  (∀ Γ tg iter it,trI n Γ tg iter=some it -> ∀ X:Cx,Fit Γ X G F -> SI X G F tg iter it):=by
 induction n with
 | zero=>exact ⟨(fun _ _ _ h=>by unfold trE at h;cases h),(fun _ _ _ h=>by unfold trA at h;cases h),(fun _ _ _ _ _ h=>by unfold trB at h;cases h),(fun _ _ _ _ h=>by unfold trC at h;cases h),(fun _ _ _ h=>by unfold trO at h;cases h),(fun _ _ _ h=>by unfold qKE at h;cases h),(fun _ _ _ _ h=>by unfold trI at h;cases h)⟩
 | succ n ih=>
  obtain ⟨iE,iA,iB,iC,iO,iIf,iI⟩:=ih
  refine ⟨?_,?_,?_,?_,?_,?_,?_⟩
  ·intro Γ e a h X f
   unfold trE at h
   split at h
   ·split at h
    ·cases h;exact ⟨qGK,qAR qGK fun _=>rfl⟩
    ·cases h;exact ⟨qLL,qAR qLL fun _=>rfl⟩
    ·cases h;exact ⟨qIo,qAR qIo fun _=>rfl⟩
    ·cases h;exact ⟨qIG,qAR qIG fun _=>rfl⟩
    ·cases h
   ·rename_i x p
    split at h
    ·rename_i ho
     obtain ⟨o1,o2,o3⟩:=qGr ho
     split at h
     ·rename_i hv
      obtain ⟨i,ei,rfl⟩:=Option.map_eq_some_iff.mp h
      have s1:SE X G F (.Name x p) (.var i):=qKx (by rw [f.hN];exact qCD ei) (by rw [f.sc];exact qJb hv) o1 o2
      exact ⟨s1,qAR s1 fun _=>rfl⟩
     ·split at h
      ·rename_i hg
       rcases f.gls x a h with ⟨v,u,rfl,e1,e2,e3⟩ | ⟨g,ad,rfl,e1,e2⟩
       ·have s1:SE X G F (.Name x p) (.cst v):=qI7 (f.gl' hg) e1 e2 e3 o1
        exact ⟨s1,qAR s1 fun _=>rfl⟩
       ·have s1:SE X G F (.Name x p) (.glob g):=qIy (f.gl' hg) e1 e2 o1
        exact ⟨s1,qAR s1 fun _=>rfl⟩
      ·cases h
    ·cases h
   ·split at h
    ·rename_i o a' b' eo ea eb
     cases h
     rw [qJv eo]
     have s1:=qKs (op:=o) (pos:=‹Pos›) (iE _ _ _ ea X f).1 (iE _ _ _ eb X f).1
     exact ⟨s1,qAR s1 fun _=>rfl⟩
    ·cases h
   ·split at h
    ·obtain ⟨a',ea,rfl⟩:=Option.map_eq_some_iff.mp h
     have s1:=qIT (pos:=‹Pos›) (iE _ _ _ ea X f).1
     exact ⟨s1,qAR s1 fun _=>rfl⟩
    ·obtain ⟨a',ea,rfl⟩:=Option.map_eq_some_iff.mp h
     exact ⟨qLd (iE _ _ _ ea X f).1,qLm (iE _ _ _ ea X f).2⟩
    ·cases h
   ·obtain ⟨s1,s2⟩:=iB _ _ _ _ _ h X f
    exact ⟨s1,s2.pt⟩
   ·split at h
    ·rename_i op b0
     split at h
     ·rename_i hs
      split at h
      ·rename_i a' b' ea eb
       cases h
       rw [qEU op]
       have e1:qFj (opC (qFj op))=qFj op:=by cases op<;>rfl
       rw [e1]
       exact ⟨qLc f.hu (iE _ _ _ ea X f).1 (iE _ _ _ eb X f).1 (qG1 hs),qKe f.hu (iE _ _ _ ea X f).1 (iE _ _ _ eb X f).1 (qG1 hs)⟩
      ·cases h
     ·cases h
    ·rename_i o1 o2 b0 c0
     split at h
     ·rename_i hs
      split at h
      ·rename_i a' b' c' ea eb ec
       cases h
       rw [qEU o1,qEU o2]
       have e1:qFj (opC (qFj o1))=qFj o1:=by cases o1<;>rfl
       have e2:qFj (opC (qFj o2))=qFj o2:=by cases o2<;>rfl
       rw [e1,e2]
       exact ⟨qHt f.hu (iE _ _ _ ea X f).1 (iE _ _ _ eb X f).1 (iE _ _ _ ec X f).1 (qGi hs),qHV f.hu (iE _ _ _ ea X f).1 (iE _ _ _ eb X f).1 (iE _ _ _ ec X f).1 (qGi hs)⟩
      ·cases h
     ·cases h
    ·cases h
   ·split at h
    ·split at h
     ·split at h
      ·rename_i hc
       simp only [Bool.and_eq_true] at hc
       have s1:=iC _ _ _ _ h hc.1.1 hc.1.2 hc.2 X f
       exact ⟨s1 _ _,qAR (s1 _ _) fun _=>rfl⟩
      ·cases h
     ·split at h
      ·split at h
       ·rename_i hc
        obtain ⟨rfl,hc1,hc2,hc3⟩:=hc
        split at h
        ·rename_i o' x' eo ex
         cases h
         have s1:=qK0 (qIS hc1) hc3 hc2 (iE _ _ _ eo X f).1 (iE _ _ _ ex X f).1
         exact ⟨s1,qAR s1 fun _=>rfl⟩
        ·cases h
       ·cases h
      ·split at h
       ·rename_i hm
        subst hm
        split at h
        ·rename_i hc
         obtain ⟨o',eo,rfl⟩:=Option.map_eq_some_iff.mp h
         have s1:=qJG f.calm f.hu f.gd (qIS hc.1) hc.2 (iE _ _ _ eo X f).1
         exact ⟨s1,qAR s1 fun _=>rfl⟩
        ·cases h
       cases h
      ·cases h
     ·cases h
    ·cases h
   ·split at h
    ·split at h
     ·split at h
      ·rename_i a' l h' ea el eh
       cases h
       exact ⟨qKw (iE _ _ _ ea X f).1 (iO _ _ _ el X f) (iO _ _ _ eh X f),qAR (qKw (iE _ _ _ ea X f).1 (iO _ _ _ el X f) (iO _ _ _ eh X f)) fun _=>rfl⟩
      ·cases h
     ·split at h
      ·obtain ⟨a',ea,rfl⟩:=Option.map_eq_some_iff.mp h
       exact ⟨qIn (iE _ _ _ ea X f).1 (qEY qK9),qAR (qIn (iE _ _ _ ea X f).1 (qEY qK9)) fun _=>rfl⟩
      ·cases h
    ·split at h
     ·rename_i hs
      split at h
      ·rename_i a' b' ea eb
       cases h
       have s1:=qK7 (pos:=‹Pos›) hs (iE _ _ _ ea X f).1 (iE _ _ _ eb X f).1
       exact ⟨s1,qAR s1 fun _=>rfl⟩
      ·cases h
     ·cases h
   ·split at h
    ·rename_i hs
     obtain ⟨a',ea,rfl⟩:=Option.map_eq_some_iff.mp h
     have s1:=qKi (pos:=‹Pos›) (iA _ _ _ ea hs X f)
     exact ⟨s1,qAR s1 fun _=>rfl⟩
    ·cases h
   ·split at h
    ·rename_i hs
     obtain ⟨a',ea,rfl⟩:=Option.map_eq_some_iff.mp h
     exact ⟨qIi (iA _ _ _ ea hs X f),qAR (qIi (iA _ _ _ ea hs X f)) fun _=>rfl⟩
    ·cases h
   ·split at h
    ·cases h
     exact ⟨qG3,qAR qG3 fun _=>rfl⟩
    ·cases h
   ·split at h
    ·split at h
     split at h
     ·dsimp only at h
      split at h
      ·rename_i hc
       simp only [Bool.and_eq_true] at hc
       split at h
       ·rename_i it g c e' ei eg ec ee
        cases h
        have s1:=qGe (pos:=‹Pos›) f.calm (iI _ _ _ _ ei X f) (qB9 f hc.1) (fun C fp s H=>qH8 (qBW f hc.1 C fp s H) eg) (fun C fp s H=>iIf _ _ _ ec _ (qBW f hc.1 C fp s H)) (fun C fp s H=>(iE _ _ _ ee _ (qBW f hc.1 C fp s H)).1) (qFx hc.2)
        exact ⟨s1,qAR s1 fun _=>rfl⟩
       ·cases h
      ·cases h
     ·cases h
    ·cases h
   ·cases h
  ·intro Γ es as h hs X f
   cases es with
   | nil=>simp only [trA] at h;cases h;exact qLe
   | cons e es=>
    simp only [trA] at h
    simp only [List.all_cons,Bool.and_eq_true] at hs
    split at h
    ·rename_i a as ea eas
     cases h
     exact qJ4 hs.1 (iE _ _ _ ea X f).1 (iA _ _ _ eas hs.2 X f)
    ·cases h
  ·intro Γ op p vs a h X f
   cases vs with
   | nil=>simp only [trB] at h;cases h
   | cons e r=>
    cases r with
    | nil=>
     simp only [trB] at h
     obtain ⟨s1,s2⟩:=iE _ _ _ h X f
     refine ⟨L2.pe_one s1,?_⟩
     cases op with
     | And=>exact L2.pw_and1 s2
     | Or=>exact L2.pw_or1 s2
    | cons b r=>
     simp only [trB] at h
     split at h
     ·rename_i a' b' ea eb
      cases h
      obtain ⟨s1,s2⟩:=iE _ _ _ ea X f
      obtain ⟨s3,s4⟩:=iB _ _ _ _ _ eb X f
      cases op with
      | And=>exact ⟨qLk s1 s3,qK1 s2 s4⟩
      | Or=>exact ⟨qMw s1 s3,qNM s2 s4⟩
     ·cases h
  ·intro Γ g args a h ho hg hs X f p pos
   obtain ⟨o1,o2,o3⟩:=qGr ho
   unfold trC at h
   split at h
   ·rename_i i ei
    obtain ⟨as,ea,rfl⟩:=Option.map_eq_some_iff.mp h
    have sA:=iA _ _ _ ea hs X f
    cases args with
    | nil=>
     have:as=.nil:=by
      cases n with
      | zero=>simp only [trA] at ea;cases ea
      | succ m=>simp only [trA] at ea;cases ea;rfl
     subst this
     exact qHy (f.fns i g (qCD ei)) (f.gl' hg) o1
    | cons e es=>
     simp only [List.all_cons,Bool.and_eq_true] at hs
     exact qI0 (f.fns i g (qCD ei)) (f.gl' hg) o1 hs.1 hs.2 sA
   ·split at h
    ·rename_i hb
     split at h
     ·rename_i hi
      subst hi
      split at h
      ·rename_i e0 t pt
       split at h
       ·rename_i hc
        simp only [Bool.and_eq_true] at hc
        obtain ⟨t1,t2,t3⟩:=qGr hc.1.1
        split at h
        ·rename_i a' t' ea et
         cases h
         obtain ⟨b1,b2⟩:=qJ0 et
         simp only [List.all_cons,Bool.and_eq_true] at hs
         exact qLJ b2 (f.gl' hg) (f.blt _ hb) (f.gl' hc.1.2) (f.blt _ hc.2) b1 t3 t1 hs.1 (iE _ _ _ ea X f).1
        ·cases h
       ·cases h
      ·cases h
     ·split at h
      ·rename_i hl
       obtain ⟨rfl,_⟩:=hl
       split at h
       ·rename_i r pr e0 pc
        split at h
        ·rename_i hc
         simp only [Bool.and_eq_true,decide_eq_true_eq] at hc
         obtain ⟨⟨⟨⟨c1,c2⟩,c3⟩,c4⟩,rfl⟩:=hc
         obtain ⟨a',ea,rfl⟩:=Option.map_eq_some_iff.mp h
         exact qJN f.calm (f.gl' hg) (f.blt _ hb) (f.gl' c2) (f.blt _ c3) c4 (iE _ _ _ ea X f).1
        ·cases h
       ·cases h
      rename_i hneg
      clear hneg
      split at h
      ·rename_i b e es eb
       obtain ⟨as,ea,rfl⟩:=Option.map_eq_some_iff.mp h
       have sA:=iA _ _ _ ea hs X f
       simp only [List.all_cons,Bool.and_eq_true] at hs
       exact qLi f.calm f.hu f.gd (f.gl' hg) (f.blt _ hb) (qJk eb) hs.1 hs.2 sA o3 o1
      ·cases h
    ·cases h
  ·intro Γ o as h X f
   cases o with
   | none=>simp only [trO] at h;cases h;exact qJn
   | some e=>
    simp only [trO] at h
    obtain ⟨a,ea,rfl⟩:=Option.map_eq_some_iff.mp h
    exact qEY (iE _ _ _ ea X f).1
  ·intro Γ ifs as h X f
   cases ifs with
   | nil=>simp only [qKE] at h;cases h;exact qKo
   | cons e r=>
    cases r with
    | nil=>
     simp only [qKE] at h
     obtain ⟨a,ea,rfl⟩:=Option.map_eq_some_iff.mp h
     exact qLD (iE _ _ _ ea X f).2
    | cons b r=>simp only [qKE] at h;cases h
  ·intro Γ tg iter it h X f
   unfold trI at h
   split at h
   ·rename_i fn p args pos
    split at h
    ·rename_i hf
     subst hf
     split at h
     ·rename_i hc
      simp only [Bool.and_eq_true] at hc
      split at h
      ·rename_i e
       obtain ⟨a,ea,rfl⟩:=Option.map_eq_some_iff.mp h
       have hs:=hc.2
       simp only [List.all_cons,Bool.and_eq_true] at hs
       exact qI5 (f.gl' hc.1.1) (f.blt _ hc.1.2) hs.1 (iE _ _ _ ea X f).1
      ·rename_i e e2
       split at h
       ·rename_i a' b' ea eb
        cases h
        have hs:=hc.2
        simp only [List.all_cons,Bool.and_eq_true] at hs
        exact qJT (f.gl' hc.1.1) (f.blt _ hc.1.2) hs.1 hs.2.1 (iE _ _ _ ea X f).1 (iE _ _ _ eb X f).1
       ·cases h
      ·split at h
       ·rename_i a' b' c' ea eb ec
        split at h
        ·rename_i hm1
         cases h
         have hs:=hc.2
         simp only [List.all_cons,Bool.and_eq_true] at hs
         exact qIx (f.gl' hc.1.1) (f.blt _ hc.1.2) hs.1 hs.2.1 hs.2.2.1 (iE _ _ _ ea X f).1 (iE _ _ _ eb X f).1 (iE _ _ _ ec X f).1 hm1
        ·cases h
       ·cases h
      ·cases h
     ·cases h
    ·split at h
     ·rename_i hf
      subst hf
      split at h
      ·rename_i hc
       simp only [Bool.and_eq_true] at hc
       split at h
       ·split at h
        ·rename_i a' b' ea eb
         cases h
         have hs:=hc.2
         simp only [List.all_cons,Bool.and_eq_true] at hs
         exact qK5 (f.gl' hc.1.1) (f.blt _ hc.1.2) hs.1 hs.2.1 (iE _ _ _ ea X f).1 (iE _ _ _ eb X f).1
        ·cases h
       ·cases h
      ·cases h
     ·obtain ⟨a,ea,rfl⟩:=Option.map_eq_some_iff.mp h
      exact qF3 (iE _ _ _ ea X f).1
   ·obtain ⟨a,ea,rfl⟩:=Option.map_eq_some_iff.mp h
    exact qF3 (iE _ _ _ ea X f).1
end
end PI
namespace PI
open PySem PySem.Spec PyProof.Rows PySem.SeqAt
open L2 (V Hp HO Cx PE PT PA PS PSs PG PGs PW RelV FnOk Fun qBS Binds Room SqL SqT)
section
variable {G:List Addr} {F:Nat -> List V -> AH -> RV}
theorem qDe {Γ:Gam} {X:Cx} (f:Fit Γ X G F) (hx:∀ x,Γ.own x=true) {n:Nat} {elt:Expr} {gens:List Comprehension} {scope:Scope} {cpos p pos:Pos} {a:E} {x:Str} {g:Tg} (h:trE n Γ (.ListComp elt gens scope cpos)=some a)
  (hg:trT Γ (.Name x ⟨0,0,0,0⟩)=some g):SS X G F (.Assign [.Name x p] (.ListComp elt gens scope cpos) pos) (.asg g a):=by
 cases n with
 | zero=>unfold trE at h;cases h
 | succ n=>
  unfold trT at hg
  dsimp only at hg
  split at hg
  ·rename_i hs
   obtain ⟨i,ei,rfl⟩:=Option.map_eq_some_iff.mp hg
   obtain ⟨h1,h2⟩:=f.store hs
   obtain ⟨iE,iA,iB,iC,iO,iIf,iI⟩:=qFB (G:=G) (F:=F) n
   unfold trE at h
   dsimp only at h
   split at h
   ·split at h
    split at h
    ·split at h
     ·rename_i hc
      simp only [Bool.and_eq_true] at hc
      split at h
      ·rename_i it g c e' ei' eg ec ee
       cases h
       exact qJy f.calm (iI _ _ _ _ ei' X f) (qB9 f hc.1) (fun C fp s H=>qH8 (qBW f hc.1 C fp s H) eg) (fun C fp s H=>iIf _ _ _ ec _ (qBW f hc.1 C fp s H)) (fun C fp s H=>(iE _ _ _ ee _ (qBW f hc.1 C fp s H)).1) (qFx hc.2) (by rw [f.hN];exact f.nd) (by rw [f.hN];exact qCD ei) h1 h2
      ·cases h
     ·cases h
    ·cases h
   ·cases h
  ·cases hg
theorem qGM (n:Nat):(∀ Γ st (X:Cx),Fit Γ X G F -> (∀ x,Γ.own x=true) -> X.xe=(fun _ _=>False) -> SS X G F st (trS n Γ st))/\(∀ Γ sts (X:Cx),Fit Γ X G F -> (∀ x,Γ.own x=true) -> X.xe=(fun _ _=>False) -> SSs X G F sts (qFq n Γ sts)):=by
 induction n with
 | zero=>
  refine ⟨fun Γ st X f ho hx=>?_,fun Γ sts X f ho hx=>?_⟩
  ·unfold trS;exact qAZ
  ·unfold qFq
   intro pins s σ H D I q
   obtain ⟨φ,h,σa,o,h',R,rs,e,k⟩:=q
   unfold exs ex at e
   cases e
 | succ n ih=>
  obtain ⟨i1,i2⟩:=ih
  obtain ⟨iE,iA,iB,iC,iO,iIf,iI⟩:=qFB (G:=G) (F:=F) 60
  refine ⟨fun Γ st X f ho hx=>?_,fun Γ sts X f ho hx=>?_⟩
  ·unfold trS
   split
   ·split
    ·split
     ·rename_i v pos _ _ x p
      split
      ·rename_i g a eg ea
       by_cases hc:qCW v=true
       ·refine qDS (L2.ps_asg (iE _ _ _ ea X f).1 (qH8 f (tg:=.Name x p) eg) (qCz hc) (by cases v<;>rfl) rfl) fun _ _ _=>qF1
       ·cases v with
        | ListComp elt gens scope cpos=>exact qDe f ho ea eg
        | SetComp elt gens scope cpos=>unfold trE at ea;cases ea
        | DictComp k elt gens scope cpos=>unfold trE at ea;cases ea
        | _=>exact absurd rfl hc
      ·exact qAZ
     ·split
      ·exact qAZ
      ·exact qAZ
     ·split
      ·rename_i hc
       simp only [Bool.and_eq_true] at hc
       split
       ·rename_i o' i' v' eo ei ev
        exact qLf f.hu (iE _ _ _ eo X f).1 (iE _ _ _ ei X f).1 (iE _ _ _ ev X f).1 hc.1 hc.2
       ·exact qAZ
      ·exact qAZ
     ·exact qAZ
    ·exact qAZ
   ·split
    ·rename_i hc
     split
     ·rename_i a ea;exact qJU (iE _ _ _ ea X f).1 hc
     ·exact qAZ
    ·exact qAZ
   ·split
    ·split
     ·rename_i a ea;exact qKZ (iE _ _ _ ea X f).1
     ·exact qAZ
    ·exact qAZ
   ·split
    ·rename_i a ea;exact qK4 (iE _ _ _ ea X f).2 (i2 _ _ X f ho hx) (i2 _ _ X f ho hx)
    ·exact qAZ
   ·split
    ·split
     ·rename_i hs
      split
      ·rename_i it g ei eg;exact qLC hx f.calm (iI _ _ _ _ ei X f) (qH8 f eg) (i2 _ _ X f ho hx) (qFx hs)
      ·exact qAZ
     ·exact qAZ
    ·exact qAZ
   ·split
    ·split
     ·rename_i a ea;exact qHw hx (iE _ _ _ ea X f).2 (i2 _ _ X f ho hx)
     ·exact qAZ
    ·exact qAZ
   ·exact qAZ
  ·cases sts with
   | nil=>unfold qFq;exact qJR
   | cons s r=>unfold qFq;exact qHf (i1 _ _ X f ho hx) (i2 _ _ X f ho hx)
end
theorem len0 {α:Type} {us:List α} (h:us.length=0):us=[]:=List.length_eq_zero_iff.mp h
theorem len1 {α:Type} {us:List α} (h:us.length=1):∃ a,us=[a]:=List.length_eq_one_iff.mp h
theorem len2 {α:Type} {us:List α} (h:us.length=2):∃ a b,us=[a,b]:=by
 cases us with
 | nil=>cases h
 | cons a r=>obtain ⟨b,rfl⟩:=len1 (us:=r) (by simpa using h);exact ⟨a,b,rfl⟩
theorem len3 {α:Type} {us:List α} (h:us.length=3):∃ a b c,us=[a,b,c]:=by
 cases us with
 | nil=>cases h
 | cons a r=>obtain ⟨b,c,rfl⟩:=len2 (us:=r) (by simpa using h);exact ⟨a,b,c,rfl⟩
theorem len4 {α:Type} {us:List α} (h:us.length=4):∃ a b c d,us=[a,b,c,d]:=by
 cases us with
 | nil=>cases h
 | cons a r=>obtain ⟨b,c,d,rfl⟩:=len3 (us:=r) (by simpa using h);exact ⟨a,b,c,d,rfl⟩
theorem len5 {α:Type} {us:List α} (h:us.length=5):∃ a b c d e,us=[a,b,c,d,e]:=by
 cases us with
 | nil=>cases h
 | cons a r=>obtain ⟨b,c,d,e,rfl⟩:=len4 (us:=r) (by simpa using h);exact ⟨a,b,c,d,e,rfl⟩
theorem len6 {α:Type} {us:List α} (h:us.length=6):∃ a b c d e f,us=[a,b,c,d,e,f]:=by
 cases us with
 | nil=>cases h
 | cons a r=>obtain ⟨b,c,d,e,f,rfl⟩:=len5 (us:=r) (by simpa using h);exact ⟨a,b,c,d,e,f,rfl⟩
structure qHO where
 x:Str
 st:Stmt
 ps:List Str
 N:List Str
structure Tbl where
 ds:List qHO
 gl:List (Str×E)
 bl:List Str
 cls:List Str:=[]
 xr:List Str:=[]
noncomputable def Tbl.gam (T:Tbl) (d:qHO):Gam:=⟨d.N,L2.defScope d.st,T.ds.map (·.x),T.gl,T.bl,fun _=>true,T.cls,T.xr.contains d.x⟩
noncomputable def Tbl.fn (T:Tbl) (d:qHO):Fn:=⟨d.ps.length,d.N.length,qFq 60 (T.gam d) (L2.defBody d.st)⟩
noncomputable def Tbl.fns (T:Tbl):List Fn:=T.ds.map T.fn
structure qH4 (K:PySem.W.Frag) (mg:Str -> Option Value) (G:List Addr) (T:Tbl) (fa:List Addr) (fd:List FuncData):Prop where
 def_:∀ (i:Nat) d,T.ds[i]?=some d -> ∃ a f,fa[i]?=some a/\fd[i]?=some f/\Fun K d.x d.x d.st a f/\qBS d.N d.ps (L2.defScope d.st)/\mg d.x=some (.ref a)/\Binds K f d.ps []
 gls:∀ x e,T.gl.lookup x=some e -> (∃ v u,e=.cst v/\mg x=some u/\RelV v u/\∀ φ,rv φ v v)\/(∃ g a,e=.glob g/\mg x=some (.ref a)/\G[g]?=some a)
 blt:∀ x,T.bl.contains x=true -> mg x=none
 gtu:∀ a∈G,∃ o,K.lookup a=some o/\o.cls=.type "tuple"/\o.dict=none
theorem qGf {φ:List Addr} {ws vs:List V} (r:rvs φ ws vs) (n:Nat):rst φ (ws.map some++List.replicate n none) (vs.map some++List.replicate n none):=by
 refine qAP ?_ ?_
 ·induction r with
  | nil=>exact .nil
  | cons h t ih=>exact .cons ⟨_,rfl,h⟩ ih
 ·induction n with
  | zero=>exact .nil
  | succ n ih=>exact .cons trivial ih
section
variable {P:Program} {w:World} {K:PySem.W.Frag} {mg:Str -> Option Value} {base:Heap} {G:List Addr} {T:Tbl} {fa:List Addr} {fd:List FuncData}
theorem qLb {k i:Nat} {d:qHO} (h1:T.ds[i]?=some d) {ws:List V} {h h':AH} {v:V} (e:Fk T.fns (k + 1) i ws h=.ok (v,h')):ws.length=d.ps.length/\d.ps.length<=d.N.length/\∃ o,exs (Fk T.fns k) (qFq 60 (T.gam d) (L2.defBody d.st)) (ws.map some++List.replicate (d.N.length - d.ps.length) none) h=.ok (o,h')/\
  ((∃ σ,o=.nx σ/\v=.non)\/o=.rt v):=by
 unfold Fk at e
 have ht:T.fns[i]?=some (T.fn d):=by unfold Tbl.fns;rw [List.getElem?_map,h1];rfl
 rw [ht] at e
 dsimp only at e
 split at e
 ·rename_i hc
  obtain ⟨⟨o,h2⟩,e2,e⟩:=Res.bind_inv e
  have e4:exs (Fk T.fns k) (qFq 60 (T.gam d) (L2.defBody d.st)) (ws.map some++List.replicate (d.N.length - d.ps.length) none) h=.ok (o,h2):=e2
  refine ⟨hc.1,hc.2,o,?_,?_⟩
  ·cases o<;>cases e<;>exact e4
  ·cases o with
   | nx σ=>cases e;exact .inl ⟨σ,rfl,rfl⟩
   | rt u=>cases e;exact .inr rfl
   | bk σ=>cases e
   | ct σ=>cases e
 ·cases e
theorem qLP (O:qH4 K mg G T fa fd) {k:Nat} {d:qHO} (f0:∀ (i:Nat) d a f,T.ds[i]?=some d -> fa[i]?=some a -> fd[i]?=some f -> FnOk P w K mg base L2.CX0 k a f d.ps (spF G (Fk T.fns k) K i))
  (hS:qBS d.N d.ps (L2.defScope d.st)) (CX:L2.CXT) (a:Addr) (cdv:Value) (A:Around) (outer:List Env) (s:Shared) (H:Hp) (E:L2.XK) (E2:Value -> Shared -> Prop) (hr:Room k (A.deeper (envOfC d.x (L2.defScope d.st) s.heap.objs.size a cdv))):
  Fit (T.gam d) ((L2.cxOf CX P w K mg base d.N d.x (L2.defScope d.st) a cdv A outer s H E).wish E2) G (Fk T.fns k):=by
 have get:∀ (g:Nat) x,(T.gam d).fns[g]?=some x -> ∃ d2 a2 f2,T.ds[g]?=some d2/\d2.x=x/\fa[g]?=some a2/\fd[g]?=some f2/\mg x=some (.ref a2)/\PySem.W.keepIn K (.ref a2)=true/\Binds K f2 d2.ps []:=fun g x eg=>by
  have eg':(T.ds.map (·.x))[g]?=some x:=eg
  rw [List.getElem?_map] at eg'
  cases hd:T.ds[g]? with
  | none=>rw [hd] at eg';cases eg'
  | some d2=>
   rw [hd] at eg'
   cases eg'
   obtain ⟨a2,f2,q1,q2,q3,q4,q5,q6⟩:=O.def_ g d2 hd
   exact ⟨d2,a2,f2,rfl,rfl,q1,q2,q5,q3.kp,q6⟩
 refine ⟨rfl,hS.nd,rfl,rfl,fun _ _=>rfl,fun g x eg=>?_,O.gls,O.blt,?_,hr.gd,O.gtu⟩
 ·obtain ⟨d2,a2,f2,q1,rfl,q2,q3,q4,q5,q6⟩:=get g x eg
  exact ⟨k,a2,f2,d2.ps,f0 g d2 a2 f2 q1 q2 q3,hr,q4,q5,q6⟩
 ·have:=hr.units
  show (A.deeper (envOfC d.x (L2.defScope d.st) s.heap.objs.size a cdv)).units + 8 < cLine
  omega
theorem qE1 (O:qH4 K mg G T fa fd):∀ (k:Nat) (i:Nat) d a f,T.ds[i]?=some d -> fa[i]?=some a -> fd[i]?=some f -> FnOk P w K mg base L2.CX0 k a f d.ps (spF G (Fk T.fns k) K i)
 | 0=>fun i d a f h1 h2 h3=>⟨(fun vs H Q E h=>by obtain ⟨_,_,_,_,_,_,_,e,_⟩:=h;unfold Fk at e;cases e),(fun A outer s H args us vs Q E hr e0 hb r h=>by obtain ⟨_,_,_,_,_,_,_,e,_⟩:=h;unfold Fk at e;cases e)⟩
 | k + 1=>by
  have f0:=qE1 O k
  refine fun i d a f h1 h2 h3=>?_
  obtain ⟨a',f',e1,e2,hF,hS,hm,hB⟩:=O.def_ i d h1
  rw [h2] at e1;cases e1
  rw [h3] at e2;cases e2
  refine hF.ok hS (fun vs H Q E h=>?_) (fun cdv A outer s H vs Q E hr h=>?_)
  ·obtain ⟨φ,h0,ws,v,h',R,r,e,_⟩:=h
   rw [<- Paired.length r]
   exact (qLb h1 e).1
  ·obtain ⟨φ,h0,ws,v,h',R,r,e,kk⟩:=h
   obtain ⟨l1,l2,o,eo,ho⟩:=qLb h1 e
   have fit:=qLP O f0 hS L2.CX0 a cdv A outer s H E (fun _ _=>False) hr
   refine ⟨_,(qGM (G:=G) (F:=Fk T.fns k) 60).2 (T.gam d) (L2.defBody d.st) _ fit (fun _=>rfl) rfl,φ,h0,_,o,h',R,?_,eo,fun φ' H' x' R'=>?_⟩
   ·unfold L2.start
    rw [<- Paired.length r,l1]
    exact qGf r _
   ·rcases ho with ⟨σ,rfl,rfl⟩ | rfl
    ·exact fun σc _=>kk φ' H' .non x' R' trivial
    ·exact fun u ru=>kk φ' H' u x' R' ru
end
noncomputable def qHT (K:PySem.W.Frag):L2.Sp:=fun vs H Q _=>∃ (a:Addr) (ns:List Int),vs=[.ref a]/\L2.Only H/\SqL K H a (ns.map V.int)/\ns.length<=63/\∀ H',Q (.bl true) H'
noncomputable def qD3 (gs:List O) (ns:List Int):AH:=gs++[.lst true (ns.map V.int)]
noncomputable def qE4 (K:PySem.W.Frag):List Addr -> List O -> Prop
 | [],[]=>True
 | a::as,.tup xs::os=>(SqT K (fun _=>none) a xs/\xs.all flat=true)/\qE4 K as os
 | _,_=>False
theorem qDF {φ:List Addr}:∀ {xs:List V},xs.all flat=true -> rvs φ xs xs
 | [],_=>.nil
 | x::xs,h=>by
  simp only [List.all_cons,Bool.and_eq_true] at h
  refine .cons ?_ (qDF h.2)
  cases x<;>first | rfl | exact trivial | (cases h.1)
theorem qIA {K:PySem.W.Frag} {H:Hp} {a:Addr} {xs:List V} (q:SqT K (fun _=>none) a xs):SqT K H a xs:=by
 rcases q with (h | ⟨o,h⟩) | h
 ·cases h
 ·cases h
 ·exact .inr h
theorem qC3 {K:PySem.W.Frag}:∀ {as:List Addr} {os:List O},qE4 K as os -> as.length=os.length/\∀ (i:Nat) o a,os[i]?=some o -> as[i]?=some a -> ∃ xs,o=.tup xs/\SqT K (fun _=>none) a xs/\xs.all flat=true
 | [],[],_=>⟨rfl,fun i o a h=>by simp at h⟩
 | [],_::_,h=>False.elim h
 | _::_,[],h=>False.elim h
 | a::as,.lst _ _::os,h=>False.elim h
 | a::as,.tup xs::os,h=>by
  obtain ⟨h1,h2⟩:=h
  obtain ⟨l,k⟩:=qC3 h2
  refine ⟨by simp [l],fun i o b e1 e2=>?_⟩
  cases i with
  | zero=>simp at e1 e2;subst e1 e2;exact ⟨xs,rfl,h1⟩
  | succ i=>exact k i o b (by simpa using e1) (by simpa using e2)
theorem qGj {P:Program} {w:World} {K:PySem.W.Frag} {mg:Str -> Option Value} {base:Heap} {G:List Addr} {gs:List O} {T:Tbl} {fa:List Addr} {fd:List FuncData} (O:qH4 K mg G T fa fd) (hG:qE4 K G gs) {k i:Nat} {d:qHO} {a:Addr} {f:FuncData}
  (h1:T.ds[i]?=some d) (h2:fa[i]?=some a) (h3:fd[i]?=some f) (hp:d.ps=(["_law_script"]:List Str)) (main:∀ ns:List Int,ns.length<=63 -> ∃ h',Fk T.fns k i [.ref gs.length] (qD3 gs ns)=.ok (.bl true,h')):
  FnOk P w K mg base L2.CX0 k a f (["_law_script"]:List Str) (qHT K):=by
 have F:=qE1 (P:=P) (w:=w) (base:=base) O k i d a f h1 h2 h3
 rw [hp] at F
 refine ⟨fun vs H Q E h=>by obtain ⟨b,ns,rfl,_⟩:=h;rfl,fun A outer s H args us vs Q E hr e0 hb r h=>?_⟩
 obtain ⟨b,ns,rfl,hO,hS,hl,q⟩:=h
 obtain ⟨h',e⟩:=main ns hl
 obtain ⟨lg,kg⟩:=qC3 hG
 refine F.run A outer s H args us _ Q E hr e0 hb r ⟨G++[b],qD3 gs ns,[.ref gs.length],.bl true,h',⟨by unfold qD3;simp [lg],⟨[b],rfl⟩,fun j o c e1 e2=>?_,fun j l xs ys c e1 e2 e3 e4=>?_⟩,.cons (by show (G++[b])[gs.length]?=some b;rw [<- lg];simp) .nil,e,fun φ' H' u x' R' ru=>by rw [qAu ru];exact q H'⟩
 ·unfold qD3 at e1
  by_cases hj:j < gs.length
  ·rw [List.getElem?_append_left hj] at e1
   rw [List.getElem?_append_left (by omega)] at e2
   obtain ⟨xs,rfl,h5,h6⟩:=kg j o c e1 e2
   exact ⟨xs,qIA h5,qDF h6⟩
  ·have hj':j=gs.length:=by
    have:=(List.getElem?_eq_some_iff.mp e1).1
    simp at this
    omega
   subst hj'
   simp at e1
   rw [<- lg] at e2
   simp at e2
   subst e1 e2
   refine ⟨ns.map V.int,?_,qDF (qGU ns)⟩
   rcases hS with (z | ⟨ob,z⟩) | z
   ·rcases hO b with y | ⟨ob,xs,y⟩<;>(rw [y] at z;cases z)
   ·exact .inl ⟨ob,z⟩
   ·exact .inr (.inr z)
 ·have no:∀ {m:Nat} {z:PI.O},z.mu=true -> (qD3 gs ns)[m]?=some z -> False:=fun {m zs} mz em=>by
   unfold qD3 at em
   by_cases hj:m < gs.length
   ·rw [List.getElem?_append_left hj] at em
    obtain ⟨xs,ex,_⟩:=kg m _ (G[m]'(by omega)) em (List.getElem?_eq_getElem (by omega))
    subst ex
    cases mz
   ·have hj':m=gs.length:=by
     have:=(List.getElem?_eq_some_iff.mp em).1
     simp at this
     omega
    subst hj'
    simp at em
    subst em
    cases mz
  exact (no ‹_› ‹_›).elim
end PI
namespace PI
open PySem PySem.Spec PyProof.Rows L2
noncomputable abbrev qLA (K:PySem.W.Frag) (d:qHO):Prop:=∃ (f:Addr) (oc:Value) (od an:Option Addr) (sl:Array (Option Value)) (kV dc pm cd ct:Value),PySem.W.nsIn K mainGlobals d.x=some (some (.ref f))/\K.lookup f=some ⟨oc,od,.func (PySem.W.fnOf d.x d.x (qBg d.st) (defBody d.st) (defScope d.st) .none kV dc pm an cd ct),sl⟩/\PySem.W.codeIn K cd d.x=true/\PySem.W.keepIn K (.ref f)=true
structure qNN (d:qHO):Prop where
 sc:qBS d.N d.ps (defScope d.st)
 bd:∀ (kV doc pm:Value) (an:Option Addr) (cdv ct:Value) (us:List Value),us.length=d.ps.length -> bindArgs (PySem.W.fnOf d.x d.x (qBg d.st) (defBody d.st) (defScope d.st) .none kV doc pm an cdv ct) ⟨us,[]⟩=pure (d.ps.zip us)
theorem qIj {K:PySem.W.Frag} {h:Heap} {mg:Str -> Option Value} (X:K.In h) (G:h.Ns mainGlobals mg):∀ (ds:List qHO),(∀ d∈ds,qLA K d) -> (∀ d∈ds,qNN d) -> ∃ (fa:List Addr) (fd:List FuncData),∀ (i:Nat) d,ds[i]?=some d -> ∃ a f,fa[i]?=some a/\fd[i]?=some f/\Fun K d.x d.x d.st a f/\qBS d.N d.ps (L2.defScope d.st)/\mg d.x=some (.ref a)/\Binds K f d.ps []
 | [],_,_=>⟨[],[],fun i d h=>by simp at h⟩
 | d::ds,h,hk=>by
  obtain ⟨fa,fd,k⟩:=qIj X G ds (fun x hx=>h x (by simp [hx])) fun x hx=>hk x (by simp [hx])
  obtain ⟨f,oc,od,an,sl,kV,dc,pm,cd,ct,h1,h2,h3,h4⟩:=h d (by simp)
  have hd:=hk d (by simp)
  refine ⟨f::fa,PySem.W.fnOf d.x d.x (qBg d.st) (defBody d.st) (defScope d.st) .none kV dc pm an cd ct::fd,fun i e he=>?_⟩
  cases i with
  | zero=>cases he;exact ⟨_,_,rfl,rfl,qIq h2 h3 h4,hd.sc,PySem.W.mg_of X G h1,(qIq h2 h3 h4).binds hd.bd⟩
  | succ i=>exact k i e he
theorem qNI {K:PySem.W.Frag} {d:qHO} {a:Addr} {f:FuncData} {x:Str} (F:Fun K d.x d.x d.st a f) (h:qNN d) (hp:d.ps=[x]) (s:Shared) (v:Value):BindsTo s f ⟨[v],[]⟩ [(x,v)]:=by
 obtain ⟨oc,od,kV,doc,pm,an,cdv,ct,osl,rfl,lk,hcd⟩:=F.ex
 refine .of_eq ?_
 rw [h.bd kV doc pm an cdv ct [v] (by rw [hp];rfl),hp];rfl
end PI
namespace PI
open L2 (V)
inductive T where
 | v (x:V) | cell (n:Nat) | fz (xs:List T) | lst (xs:List T) | tup (xs:List T) | ob (o:Ob)
noncomputable abbrev Mem:=List (List T)
noncomputable abbrev TS:=List (Option T)
inductive PR (α:Type) | ok (a:α) | exc (c:Nat) (M:Mem) | stuck
noncomputable def PR.bind {α β:Type}:PR α -> (α -> PR β) -> PR β
 | .ok a,f=>f a
 | .exc c M,_=>.exc c M
 | .stuck,_=>.stuck
@[simp] theorem PR.bind_ok {α β:Type} (a:α) (f:α -> PR β):(PR.ok a).bind f=f a:=Eq.trans rfl rfl
@[simp] theorem PR.bind_stuck {α β:Type} (f:α -> PR β):(PR.stuck:PR α).bind f=.stuck:=Eq.trans rfl rfl
noncomputable def PR.nx {α:Type}:PR α -> PR α
 | .ok a=>.ok a
 | .exc _ _=>.stuck
 | .stuck=>.stuck
@[simp] theorem PR.nx_ok {α:Type} (a:α):(PR.ok a).nx=.ok a:=Eq.trans rfl rfl
@[simp] theorem PR.nx_stuck {α:Type}:(PR.stuck:PR α).nx=.stuck:=Eq.trans rfl rfl
noncomputable def PR.ofO {α:Type}:Option α -> PR α
 | some a=>.ok a
 | none=>.stuck
@[simp] theorem PR.ofO_some {α:Type} (a:α):PR.ofO (some a)=.ok a:=Eq.trans rfl rfl
mutual
noncomputable def T.lf:T -> Bool
 | .v _=>true
 | .ob _=>true
 | .tup ts=>T.lfs ts
 | _=>false
noncomputable def T.lfs:List T -> Bool
 | []=>true
 | t::ts=>T.lf t&&T.lfs ts
end
mutual
noncomputable def T.und (n:Nat):T -> Bool
 | .v _=>true
 | .ob _=>true
 | .cell k=>decide (k < n)
 | .fz ts=>T.unds n ts
 | .lst ts=>T.unds n ts
 | .tup ts=>T.unds n ts
noncomputable def T.unds (n:Nat):List T -> Bool
 | []=>true
 | t::ts=>T.und n t&&T.unds n ts
end
mutual
noncomputable def T.beq:T -> T -> Bool
 | .v x,.v y=>decide (x=y)
 | .cell x,.cell y=>decide (x=y)
 | .fz x,.fz y=>T.beqs x y
 | .lst x,.lst y=>T.beqs x y
 | .tup x,.tup y=>T.beqs x y
 | .ob x,.ob y=>decide (x=y)
 | _,_=>false
noncomputable def T.beqs:List T -> List T -> Bool
 | [],[]=>true
 | x::xs,y::ys=>T.beq x y&&T.beqs xs ys
 | _,_=>false
end
noncomputable abbrev qCy:=List (Nat×List T)
noncomputable def qAk (d:qCy) (M:Mem):Bool:=d.all fun p=>match M[p.1]? with | some ts=>T.beqs ts p.2 | none=>false
noncomputable def T.its (M:Mem):T -> Option (List T)
 | .lst xs=>some xs | .tup xs=>some xs | .fz xs=>some xs | .cell n=>M[n]? | _=>none
noncomputable def T.lis (M:Mem):T -> Option (List T)
 | .lst xs=>some xs | .fz xs=>some xs | .cell n=>M[n]? | _=>none
noncomputable def T.mu (M:Mem):T -> Option (List T)
 | .lst xs=>some xs | .cell n=>M[n]? | _=>none
noncomputable def qBB:List T -> Option (List Int)
 | []=>some []
 | .v (.int i)::r=>(qBB r).map (i::·)
 | _::_=>none
noncomputable def qBk:List T -> Option (List Int)
 | []=>some []
 | .v (.int i)::r=>(qBk r).map (i::·)
 | .v (.bl b)::r=>(qBk r).map ((if b=true then 1 else 0)::·)
 | _=>none
noncomputable def qAt:List T -> Option (List Bool)
 | []=>some []
 | .v (.bl i)::r=>(qAt r).map (i::·)
 | _::_=>none
noncomputable def qBH (f:T -> T -> Option Bool):List T -> List T -> Option (List Bool)
 | [],[]=>some []
 | x::xs,y::ys=>match f x y,qBH f xs ys with
  | some b,some bs=>some (b::bs)
  | _,_=>none
 | _,_=>none
noncomputable def T.isV:T -> Option V | .v x=>some x | _=>none
noncomputable def eqT (M:Mem):Nat -> T -> T -> Option Bool
 | 0,s,t=>match s.isV,t.isV with | some x,some y=>eqF x y | _,_=>none
 | n + 1,s,t=>match s.isV,t.isV with
  | some x,some y=>eqF x y
  | some _,none=>if (t.its M).isSome then some false else none
  | none,some _=>if (s.its M).isSome then some false else none
  | none,none=>match s.lis M,t.lis M with
   | some xs,some ys=>if xs.length=ys.length then (qBH (eqT M n) xs ys).map fun bs=>bs.all id else some false
   | some _,none=>if (t.its M).isSome then some false else none
   | none,some _=>if (s.its M).isSome then some false else none
   | none,none=>match s.its M,t.its M with
    | some xs,some ys=>if xs.length=ys.length then (qBH (eqT M n) xs ys).map fun bs=>bs.all id else (qBH (eqT M n) (xs.take ys.length) (ys.take xs.length)).map fun _=>false
    | _,_=>none
noncomputable def qBn (xs:List T) (lo hi:Option Int):List T:=(xs.drop (HT.sIx xs.length 0 lo)).take (HT.sIx xs.length xs.length hi - HT.sIx xs.length 0 lo)
noncomputable abbrev TB:=T×Bool
noncomputable def iT (i:Int):TB:=(.v (.int i),true)
noncomputable def bT (b:Bool):TB:=(.v (.bl b),true)
noncomputable def lT (xs:List T):TB:=(.lst xs,T.lfs xs)
noncomputable def qHi (x:T) (xs:List T) (lo hi:Option Int):Option TB:=match x with
 | .tup _=>if HT.sIx xs.length 0 lo=0/\HT.sIx xs.length xs.length hi=xs.length then none else some (.tup (qBn xs lo hi),T.lfs (qBn xs lo hi))
 | _=>some (lT (qBn xs lo hi))
noncomputable def qAd (M:Mem) (op:BOp) (x y:T):Option TB:=match x.isV,y.isV with
 | some (.int i),some (.int j)=>match op with
  | .add=>some (iT (i + j))
  | .sub=>some (iT (i - j))
  | .mul=>if small i||small j||(mid i&&mid j) then some (iT (i * j)) else none
  | .fdiv=>if 0 < j/\(j < 1073741824\/mid j=true) then some (iT (i / j)) else if j < 0/\mid j=true then some (iT (i.fdiv j)) else none
  | .mod=>if 0 < j then some (iT (i % j)) else if j < 0 then some (iT (i.fmod j)) else none
  | .pow=>if 0<=j/\j<=1000/\i.natAbs < 18446744073709551616 then some (iT (i ^ j.toNat)) else none
  | .band=>some (iT (PySem.Builtin.bitAnd i j))
  | .shr=>if 0<=j/\j<=1000 then some (iT (i / 2 ^ j.toNat)) else none
  | .bxor=>some (iT (PySem.Builtin.bitXor i j))
 | none,some (.int k)=>match op with
  | .mul=>(x.mu M).bind fun xs=>if 0<=k/\xs.length * k.toNat<=lim/\k < 1000000 then some (lT (List.replicate k.toNat xs).flatten) else none
  | _=>none
 | none,none=>match op with
  | .add=>(match x,y with
   | .tup xs,.tup ys=>if xs≠[]/\xs.length + ys.length<=lim then some (.tup (xs++ys),T.lfs (xs++ys)) else none
   | x,y=>(x.mu M).bind fun xs=>(y.mu M).bind fun ys=>if xs.length + ys.length<=lim then some (lT (xs++ys)) else none)
  | _=>none
 | _,_=>none
noncomputable def qAp (M:Mem) (op:COp) (x y:T):Option Bool:=match op with
 | .eq=>eqT M 4 x y
 | .ne=>(eqT M 4 x y).map (!·)
 | .inn=>none
 | .notin=>none
 | .is=>match y.isV with | some .non=>some (match x.isV with | some .non=>true | _=>false) | some (.bl d)=>(match x.isV with | some (.bl c)=>some (c==d) | _=>none) | _=>none
 | .isnot=>match y.isV with | some .non=>some (match x.isV with | some .non=>false | _=>true) | some (.bl d)=>(match x.isV with | some (.bl c)=>some (!(c==d)) | _=>none) | _=>none
 | .lt=>match x.isV,y.isV with | some (.int i),some (.int j)=>some (decide (i < j)) | _,_=>none
 | .le=>match x.isV,y.isV with | some (.int i),some (.int j)=>some (decide (i<=j)) | _,_=>none
 | .gt=>match x.isV,y.isV with | some (.int i),some (.int j)=>some (decide (j < i)) | _,_=>none
 | .ge=>match x.isV,y.isV with | some (.int i),some (.int j)=>some (decide (j<=i)) | _,_=>none
noncomputable def qHL (as:List T) (f:T -> Option TB):Option TB:=match as with
 | [a]=>f a
 | _=>none
theorem qA1 {as:List T} {f:T -> Option TB} {r:TB} (e:qHL as f=some r):∃ a,as=[a]/\f a=some r:=by
 unfold qHL at e
 split at e
 ·exact ⟨_,rfl,e⟩
 ·cases e
noncomputable def twoT (as:List T) (f:Int -> Int -> Option TB):Option TB:=match as with
 | [a,b]=>(match a with
  | .v (.int i)=>(match b with | .v (.int j)=>f i j | _=>none)
  | _=>none)
 | _=>none
theorem twoT_inv {as:List T} {f:Int -> Int -> Option TB} {r:TB} (e:twoT as f=some r):∃ i j,as=[.v (.int i),.v (.int j)]/\f i j=some r:=by
 unfold twoT at e
 split at e
 ·split at e
  ·split at e
   ·exact ⟨_,_,rfl,e⟩
   ·cases e
  ·cases e
 ·cases e
noncomputable def qBp (f:T -> Option PySem.PyData):List T -> Option (List PySem.PyData)
 | []=>some []
 | x::r=>(f x).bind fun d=>(qBp f r).map fun ds=>d::ds
noncomputable def qEJ (M:Mem):Nat -> T -> Option PySem.PyData
 | 0,t=>match t with | .v x=>qHM x | _=>none
 | n + 1,t=>match t with
  | .v x=>qHM x
  | .tup ts=>(qBp (qEJ M n) ts).map .tuple
  | .lst ts=>(qBp (qEJ M n) ts).map .list
  | .fz ts=>(qBp (qEJ M n) ts).map .list
  | .cell k=>(M[k]?).bind fun ts=>(qBp (qEJ M n) ts).map .list
  | .ob _=>none
noncomputable def qFT (M:Mem) (t:T):Option PySem.PyData:=match t with | .ob (.dct [])=>some (.dict []) | t=>qEJ M 3 t
noncomputable def qGZ (M:Mem) (t:T):Option PySem.PyData:=match t with | .tup ts=>(qBp (qFT M) ts).map .tuple | .ob (.dct [])=>some (.dict []) | t=>qEJ M 4 t
noncomputable def qBz (M:Mem):BF -> List T -> Option TB
 | .len,as=>qHL as fun a=>(a.its M).map fun xs=>iT xs.length
 | .sum,as=>qHL as fun a=>(a.lis M).bind fun xs=>(qBk xs).map fun is=>iT is.sum
 | .all,as=>qHL as fun a=>(a.lis M).bind fun xs=>(qAt xs).map fun bs=>bT (bs.all id)
 | .any,as=>qHL as fun a=>(a.lis M).bind fun xs=>(qAt xs).map fun bs=>bT (bs.any id)
 | .max,as=>twoT as fun i j=>some (iT (if j > i then j else i))
 | .min,as=>twoT as fun i j=>some (iT (if j < i then j else i))
 | .tuple,as=>qHL as fun a=>(match a with | .tup xs=>some (.tup xs,T.lfs xs) | a=>(a.lis M).map fun xs=>(.tup xs,T.lfs xs))
 | .int,as=>qHL as fun a=>(match a with | .v (.int i)=>some (iT i) | .v (.bl b)=>some (iT (if b then 1 else 0)) | _=>none)
 | .bits,as=>qHL as fun a=>(match a with | .v (.int i)=>some (iT ((PySem.Builtin.Int.intBits i:Nat):Int)) | _=>none)
 | .repr,as=>qHL as fun a=>((qGZ M a).bind qFa).map fun v=>(.v v,true)
noncomputable def qAX (M:Mem):T -> Option String
 | .v .non=>some "NoneType"
 | .v (.bl _)=>some "bool"
 | .v (.int _)=>some "int"
 | .v (.str _)=>some "str"
 | .v _=>none
 | .tup _=>some "tuple"
 | .cell n=>(M[n]?).map fun _=>"list"
 | .ob (.dct _)=>some "dict"
 | .ob _=>none
 | _=>some "list"
noncomputable def qDU (M:Mem) (x y:T):Option TB:=match y with
 | .v (.int i)=>(x.its M).bind fun xs=>(ixN xs.length i).bind fun j=>(xs[j]?).map fun t=>(t,t.lf)
 | _=>none
noncomputable def qKj:List Nat -> List T -> TS -> Option TS
 | [],[],σ=>some σ
 | i::is,x::xs,σ=>qKj is xs (σ.set i (some x))
 | _,_,_=>none
noncomputable def qBI:Tg -> T -> TS -> Option TS
 | .name i,t,σ=>some (σ.set i (some t))
 | .tup is,.tup ts,σ=>qKj is ts σ
 | .tup _,_,_=>none
noncomputable def qCI (src:List (Option Nat)) (σ:TS):TS:=src.map fun o=>match o with | none=>none | some j=>(σ[j]?).join
noncomputable def qAf (lo:Int) (n:Nat):List T:=(List.range n).map fun (i:Nat)=>.v (.int (lo + (i:Int)))
noncomputable def qBy (lo:Int) (n:Nat):List T:=(List.range n).map fun (i:Nat)=>.v (.int (lo - (i:Int)))
noncomputable def qFG (M:Mem):T -> Option (List T×qCy)
 | .lst ts=>some (ts,[])
 | .fz ts=>some (ts,[])
 | .tup ts=>some (ts,[])
 | .cell n=>(M[n]?).map fun ts=>(ts,[(n,ts)])
 | _=>none
noncomputable def qHN (M:Mem):T -> Option (List T×qCy)
 | .lst ts=>some (ts,[])
 | .fz ts=>some (ts,[])
 | .cell n=>(M[n]?).map fun ts=>(ts,[(n,ts)])
 | _=>none
noncomputable def qDs:Nat -> List T -> List T
 | _,[]=>[]
 | i,t::ts=>.tup [.v (.int (i:Int)),t]::qDs (i + 1) ts
noncomputable def qAm (d:qCy) (g:Tg) (c:TS -> Mem -> PR (Bool×Mem)) (e:TS -> Mem -> PR (TB×Mem)):List T -> List T -> Bool -> TS -> Mem -> PR (TB×Mem)
 | [],ys,f,_,M=>.ok ((.lst ys,f),M)
 | x::r,ys,f,σ,M=>match qBI g x σ with
  | some σ1=>(c σ1 M).bind fun (b,M2)=>
   if b then (e σ1 M2).bind fun (y,M3)=>if ys.length < lim/\qAk d M3=true then qAm d g c e r (ys++[y.1]) (f&&y.2) σ1 M3 else .stuck
   else if qAk d M2=true then qAm d g c e r ys f σ1 M2 else .stuck
  | none=>.stuck
noncomputable def pB (r:PR (TB×Mem)):PR (Bool×Mem):=r.bind fun (x,M)=>match x.1 with | .v (.bl b)=>.ok (b,M) | _=>.stuck
section
variable (gl:List T) (P:Nat -> List T -> Mem -> PR (TB×Mem))
mutual
noncomputable def pe:E -> TS -> Mem -> PR (TB×Mem)
 | .var i=>fun σ M=>match σ[i]? with | some (some t)=>.ok ((t,t.lf),M) | _=>.stuck
 | .cst v=>fun _ M=>if flat v then .ok ((.v v,true),M) else .stuck
 | .glob g=>fun _ M=>match gl[g]? with | some t=>.ok ((t,t.lf),M) | none=>.stuck
 | .bin op a b=>fun σ M=>(pe a σ M).bind fun (x,M1)=>(pe b σ M1).bind fun (y,M2)=>(PR.ofO (qAd M2 op x.1 y.1)).bind fun r=>.ok (r,M2)
 | .neg a=>fun σ M=>(pe a σ M).bind fun (x,M1)=>match x.1 with | .v (.int i)=>.ok (iT (-i),M1) | _=>.stuck
 | .cmp op a b=>fun σ M=>(pe a σ M).bind fun (x,M1)=>(pe b σ M1).bind fun (y,M2)=>(PR.ofO (qAp M2 op x.1 y.1)).bind fun r=>.ok (bT r,M2)
 | .cmp2 o1 o2 a b c=>fun σ M=>(pe a σ M).bind fun (x,M1)=>(pe b σ M1).bind fun (y,M2)=>(PR.ofO (qAp M2 o1 x.1 y.1)).bind fun r=>
  if r then (pe c σ M2).bind fun (z,M3)=>(PR.ofO (qAp M3 o2 y.1 z.1)).bind fun r=>.ok (bT r,M3) else .ok (bT false,M2)
 | .and a b=>fun σ M=>(pB (pe a σ M)).bind fun (x,M1)=>if x then pe b σ M1 else .ok (bT false,M1)
 | .or a b=>fun σ M=>(pB (pe a σ M)).bind fun (x,M1)=>if x then .ok (bT true,M1) else pe b σ M1
 | .not a=>fun σ M=>(pB (pe a σ M)).bind fun (x,M1)=>.ok (bT (!x),M1)
 | .call f as=>fun σ M=>(pes as σ M).bind fun (xs,M1)=>(P f (xs.map (·.1)) M1).nx
 | .blt f as=>fun σ M=>(pes as σ M).bind fun (xs,M1)=>(PR.ofO (qBz M1 f (xs.map (·.1)))).bind fun r=>.ok (r,M1)
 | .isi a ts=>fun σ M=>(pe a σ M).bind fun (x,M1)=>(PR.ofO (qAX M1 x.1)).bind fun t=>.ok (bT (ts.any (qAx t)),M1)
 | .idx a b=>fun σ M=>(pe a σ M).bind fun (x,M1)=>(pe b σ M1).bind fun (y,M2)=>(PR.ofO (qDU M2 x.1 y.1)).bind fun r=>.ok (r,M2)
 | .rev a=>fun σ M=>(pe a σ M).bind fun (x,M1)=>(PR.ofO (x.1.lis M1)).bind fun xs=>.ok (lT xs.reverse,M1)
 | .sl a lo hi=>fun σ M=>(pe a σ M).bind fun (x,M1)=>(pes lo σ M1).bind fun (l,M2)=>(pes hi σ M2).bind fun (u,M3)=>
  (PR.ofO (x.1.its M3)).bind fun xs=>(PR.ofO (qBB (l.map (·.1)))).bind fun l=>(PR.ofO (qBB (u.map (·.1)))).bind fun u=>(PR.ofO (qHi x.1 xs l.head? u.head?)).bind fun r=>.ok (r,M3)
 | .lst as=>fun σ M=>(pes as σ M).bind fun (xs,M1)=>if xs.length<=lim then .ok ((.lst (xs.map (·.1)),xs.all (·.2)),M1) else .stuck
 | .tup as=>fun σ M=>(pes as σ M).bind fun (xs,M1)=>if xs.length<=lim then .ok ((.tup (xs.map (·.1)),xs.all (·.2)),M1) else .stuck
 | .comp it src g c e=>fun σ M=>(pei it σ M).bind fun (s,M1)=>qAm s.2 g (pec c) (pe e) s.1 [] true (qCI src σ) M1
 | .app a b=>fun σ M=>(pe a σ M).bind fun (x,M1)=>match x.1 with
  | .cell n=>(pe b σ M1).bind fun (y,M2)=>match M2[n]? with
   | some xs=>if xs.length < lim then .ok ((.v .non,true),M2.set n (xs++[y.1])) else .stuck
   | none=>.stuck
  | _=>.stuck
 | .lrng a=>fun σ M=>(pe a σ M).bind fun (x,M1)=>match x.1 with | .v (.int j)=>if -1000000<=j/\j<=100000 then .ok ((.lst (qAf 0 j.toNat),true),M1) else .stuck | _=>.stuck
 | .dnew=>fun _ M=>.ok ((.ob (.dct []),true),M)
noncomputable def pes:Es -> TS -> Mem -> PR (List TB×Mem)
 | .nil=>fun _ M=>.ok ([],M)
 | .cons a as=>fun σ M=>(pe a σ M).bind fun (x,M1)=>(pes as σ M1).bind fun (xs,M2)=>.ok (x::xs,M2)
noncomputable def pec:Es -> TS -> Mem -> PR (Bool×Mem)
 | .nil=>fun _ M=>.ok (true,M)
 | .cons a _=>fun σ M=>pB (pe a σ M)
noncomputable def pei:Itr -> TS -> Mem -> PR ((List T×qCy)×Mem)
 | .list a=>fun σ M=>(pe a σ M).bind fun (x,M1)=>(PR.ofO (qFG M1 x.1)).bind fun s=>.ok (s,M1)
 | .rng1 a=>fun σ M=>(pe a σ M).bind fun (x,M1)=>match x.1 with | .v (.int j)=>if -1000000<=j/\j<=1000000 then .ok ((qAf 0 j.toNat,[]),M1) else .stuck | _=>.stuck
 | .rng2 a b=>fun σ M=>(pe a σ M).bind fun (x,M1)=>(pe b σ M1).bind fun (y,M2)=>match x.1,y.1 with
  | .v (.int i),.v (.int j)=>if (-1000000<=i/\i<=1000000)/\-1000000<=j/\j<=1000000 then .ok ((qAf i (j - i).toNat,[]),M2) else .stuck
  | _,_=>.stuck
 | .zip a b=>fun σ M=>(pe a σ M).bind fun (x,M1)=>(pe b σ M1).bind fun (y,M2)=>(PR.ofO (qHN M2 x.1)).bind fun s=>(PR.ofO (qHN M2 y.1)).bind fun t=>
  .ok ((List.zipWith (fun a b=>T.tup [a,b]) s.1 t.1,s.2++t.2),M2)
 | .rng3 a b=>fun σ M=>(pe a σ M).bind fun (x,M1)=>(pe b σ M1).bind fun (y,M2)=>match x.1,y.1 with
  | .v (.int i),.v (.int j)=>if (-1000000<=i/\i<=1000000)/\-1000000<=j/\j<=1000000 then .ok ((qBy i (i - j).toNat,[]),M2) else .stuck
  | _,_=>.stuck
end
inductive PO | nx (σ:TS) | rt (t:TB) | bk (σ:TS) | ct (σ:TS)
noncomputable abbrev RSt:=PR (PO×Mem)
noncomputable def qAj (d:qCy) (g:Tg) (b:TS -> Mem -> RSt):List T -> TS -> Mem -> RSt
 | [],σ,M=>.ok (.nx σ,M)
 | x::r,σ,M=>match qBI g x σ with
  | some σ1=>(b σ1 M).bind fun (o,M2)=>match o with
   | .nx σ2=>if qAk d M2=true then qAj d g b r σ2 M2 else .stuck
   | .ct σ2=>if qAk d M2=true then qAj d g b r σ2 M2 else .stuck
   | .bk σ2=>.ok (.nx σ2,M2)
   | .rt t=>.ok (.rt t,M2)
  | none=>.stuck
noncomputable def qA2 (c:TS -> Mem -> PR (Bool×Mem)) (b:TS -> Mem -> RSt):Nat -> TS -> Mem -> RSt
 | 0,_,_=>.stuck
 | n + 1,σ,M=>(c σ M).bind fun (t,M1)=>if t then (b σ M1).bind fun (o,M2)=>match o with
   | .nx σ2=>qA2 c b n σ2 M2
   | .ct σ2=>qA2 c b n σ2 M2
   | .bk σ2=>.ok (.nx σ2,M2)
   | .rt t=>.ok (.rt t,M2)
  else .ok (.nx σ,M1)
mutual
noncomputable def thaw (n:Nat):T -> T×Mem
 | .lst ts=>let r:=qCJ n ts;(.cell (n + r.2.length),r.2++[r.1])
 | .tup ts=>let r:=qCJ n ts;(.tup r.1,r.2)
 | t=>(t,[])
noncomputable def qCJ (n:Nat):List T -> List T×Mem
 | []=>([],[])
 | t::ts=>let r:=thaw n t;let q:=qCJ (n + r.2.length) ts;(r.1::q.1,r.2++q.2)
end
noncomputable def qIw:E -> Bool
 | .bin .add _ _=>true
 | .lst _=>true
 | _=>false
variable (C:List Nat)
mutual
noncomputable def px:S -> TS -> Mem -> RSt
 | .asg g e=>fun σ M=>(pe gl P e σ M).bind fun (x,M1)=>match g with
  | .name i=>if C.contains i&&x.2 then .ok (.nx (σ.set i (some (thaw M1.length x.1).1)),M1++(thaw M1.length x.1).2) else if C.contains (i + 1000)&&qIw e then (match x.1 with | .lst ts=>.ok (.nx (σ.set i (some (.cell M1.length))),M1++[ts]) | _=>.stuck) else .ok (.nx (σ.set i (some x.1)),M1)
  | g=>match qBI g x.1 σ with | some σ1=>.ok (.nx σ1,M1) | none=>.stuck
 | .put o i v=>fun σ M=>(pe gl P v σ M).bind fun (x,M1)=>(pe gl P o σ M1).bind fun (p,M2)=>(pe gl P i σ M2).bind fun (k,M3)=>match p.1,k.1 with
  | .cell n,.v (.int k)=>match M3[n]? with
   | some xs=>match ixN xs.length k with | some j=>.ok (.nx σ,M3.set n (xs.set j x.1)) | none=>.stuck
   | none=>.stuck
  | _,_=>.stuck
 | .expr e=>fun σ M=>(pe gl P e σ M).bind fun (_,M1)=>.ok (.nx σ,M1)
 | .ret e=>fun σ M=>(pe gl P e σ M).bind fun (x,M1)=>.ok (.rt x,M1)
 | .ifs c t u=>fun σ M=>(pB (pe gl P c σ M)).bind fun (x,M1)=>if x then pxs t σ M1 else pxs u σ M1
 | .for_ g it b=>fun σ M=>(pei gl P it σ M).bind fun (s,M1)=>qAj s.2 g (pxs b) s.1 σ M1
 | .while_ c b=>fun σ M=>qA2 (fun σ M=>pB (pe gl P c σ M)) (pxs b) qJO σ M
 | .stop=>fun _ _=>.stuck
noncomputable def pxs:Ss -> TS -> Mem -> RSt
 | .nil=>fun σ M=>.ok (.nx σ,M)
 | .cons s r=>fun σ M=>(px s σ M).bind fun (o,M1)=>match o with
  | .nx σ1=>pxs r σ1 M1
  | o=>.ok (o,M1)
end
end
noncomputable def qAI (M:Mem) (n0:Nat):Nat -> T -> Option T
 | 0,t=>if t.und n0 then some t else none
 | d + 1,t=>if t.und n0 then some t else match t with
  | .lst ts=>(ts.mapM (qAI M n0 d)).map .lst
  | .tup ts=>(ts.mapM (qAI M n0 d)).map .tup
  | .cell n=>(M[n]?).bind fun ts=>(ts.mapM (qAI M n0 d)).map .lst
  | _=>none
noncomputable def qA4 (M:Mem) (n0:Nat):Nat -> T -> Option (List Nat)
 | 0,t=>if t.lf then some [] else none
 | d + 1,t=>if t.lf then some [] else match t with
  | .tup ts=>(ts.mapM (qA4 M n0 d)).map List.flatten
  | .cell n=>if n0<=n then (M[n]?).bind fun ts=>(ts.mapM (qA4 M n0 d)).map fun l=>l.flatten++[n] else none
  | _=>none
noncomputable def frR (M:Mem) (n0:Nat) (t:T):Bool:=match qA4 M n0 6 t with | some l=>decide l.Nodup | none=>false
noncomputable def finish (n0:Nat) (x:TB) (M:Mem):PR (TB×Mem):=
 if M.length=n0 then .ok (x,M) else if (M.take n0).all (T.unds n0) then (PR.ofO (qAI M n0 6 x.1)).bind fun t=>.ok ((t,x.2||frR M n0 x.1),M.take n0) else .stuck
noncomputable def qB8 (n0:Nat):RSt -> PR (TB×Mem)
 | .ok (.nx _,M1)=>finish n0 (.v .non,true) M1
 | .ok (.rt t,M1)=>finish n0 t M1
 | .ok (_,_)=>.stuck
 | .exc c M1=>if M1.length=n0 then .exc c M1 else if (M1.take n0).all (T.unds n0) then .exc c (M1.take n0) else .stuck
 | .stuck=>.stuck
noncomputable def Pk (gl:List T) (tb:List Fn) (Cs:List (List Nat)):Nat -> Nat -> List T -> Mem -> PR (TB×Mem)
 | 0,_,_,_=>.stuck
 | k + 1,f,vs,M=>match tb[f]? with
  | some d=>if vs.length=d.npar/\d.npar<=d.nslot then qB8 M.length (pxs gl (Pk gl tb Cs k) (Cs.getD f []) d.body (vs.map some++List.replicate (d.nslot - d.npar) none) M)
   else .stuck
  | none=>.stuck
end PI
namespace PI
open L2 (V)
noncomputable def qB1 {α β:Type} (R:α -> β -> Prop):List α -> List β -> Prop
 | [],vs=>vs=[]
 | t::ts,vs=>∃ v vs',vs=v::vs'/\R t v/\qB1 R ts vs'
section
variable {α β:Type} {R:α -> β -> Prop}
theorem qAC:∀ {xs:List α} {ys:List β},qB1 R xs ys -> xs.length=ys.length
 | [],_,h=>by cases h;rfl
 | x::xs,_,⟨v,vs,rfl,_,h⟩=>by simp [qAC h]
theorem qAq:∀ {xs:List α} {ys:List β} {i:Nat} {x:α},qB1 R xs ys -> xs[i]?=some x -> ∃ y,ys[i]?=some y/\R x y
 | [],_,i,x,h,e=>by simp at e
 | x::xs,_,0,x',⟨v,vs,rfl,r,h⟩,e=>⟨v,rfl,by simp at e;subst e;exact r⟩
 | x::xs,_,i + 1,x',⟨v,vs,rfl,r,h⟩,e=>by
  obtain ⟨y,e1,r1⟩:=qAq (i:=i) h (by simpa using e)
  exact ⟨y,by simpa using e1,r1⟩
theorem qAz:∀ {xs:List α} {ys:List β} {xs':List α} {ys':List β},qB1 R xs ys -> qB1 R xs' ys' -> qB1 R (xs++xs') (ys++ys')
 | [],_,_,_,h,k=>by cases h;exact k
 | x::xs,_,_,_,⟨v,vs,rfl,r,h⟩,k=>⟨v,vs++_,rfl,r,qAz h k⟩
theorem qBr:∀ (n:Nat) {xs:List α} {ys:List β},qB1 R xs ys -> qB1 R (xs.take n) (ys.take n)
 | 0,_,_,_=>by simp [qB1]
 | n + 1,[],_,h=>by cases h;simp [qB1]
 | n + 1,x::xs,_,⟨v,vs,rfl,r,h⟩=>⟨v,vs.take n,rfl,r,qBr n h⟩
theorem qED:∀ (n:Nat) {xs:List α} {ys:List β},qB1 R xs ys -> qB1 R (xs.drop n) (ys.drop n)
 | 0,_,_,h=>h
 | n + 1,[],_,h=>by cases h;simp [qB1]
 | n + 1,x::xs,_,⟨v,vs,rfl,r,h⟩=>qED n h
theorem qBV:∀ {xs:List α} {ys:List β} (j:Nat) {x:α} {y:β},qB1 R xs ys -> R x y -> qB1 R (xs.set j x) (ys.set j y)
 | [],_,j,_,_,h,r=>by cases h;simp [qB1]
 | x::xs,_,0,_,_,⟨v,vs,rfl,r0,h⟩,r=>⟨_,vs,rfl,r,h⟩
 | x::xs,_,j + 1,_,_,⟨v,vs,rfl,r0,h⟩,r=>⟨v,vs.set j _,rfl,r0,qBV j h r⟩
theorem qHq (n:Nat) {xs:List α} {ys:List β} (h:qB1 R xs ys):qB1 R (List.replicate n xs).flatten (List.replicate n ys).flatten:=by
 induction n with
 | zero=>simp [qB1]
 | succ n ih=>simp only [List.replicate_succ,List.flatten_cons];exact qAz h ih
theorem qDj {S:α -> β -> Prop} (f:∀ x y,R x y -> S x y):∀ {xs:List α} {ys:List β},qB1 R xs ys -> qB1 S xs ys
 | [],_,h=>h
 | x::xs,_,⟨v,vs,rfl,r,h⟩=>⟨v,vs,rfl,f _ _ r,qDj f h⟩
end
mutual
noncomputable def Rep (A X:List Nat) (h:AH):T -> V -> Prop
 | .v x,w=>w=x/\flat x=true
 | .cell n,w=>∃ a:Nat,A[n]?=some a/\w=.ref a
 | .fz ts,w=>∃ a vs,w=.ref a/\a∉X/\h[a]?=some (.lst true vs)/\qAM A X h ts vs
 | .lst ts,w=>∃ a vs,w=.ref a/\a∉X/\h[a]?=some (.lst false vs)/\qAM A X h ts vs
 | .tup ts,w=>∃ a vs,w=.ref a/\a∉X/\h[a]?=some (.tup vs)/\qAM A X h ts vs
 | .ob o,w=>∃ a,w=.ref a/\a∉X/\h[a]?=some (.ob o)
noncomputable def qAM (A X:List Nat) (h:AH):List T -> List V -> Prop
 | [],vs=>vs=[]
 | t::ts,vs=>∃ v vs',vs=v::vs'/\Rep A X h t v/\qAM A X h ts vs'
end
theorem reps_iff {A X:List Nat} {h:AH}:∀ {ts:List T} {vs:List V},qAM A X h ts vs↔qB1 (Rep A X h) ts vs
 | [],vs=>by unfold qAM qB1;rfl
 | t::ts,vs=>by
  unfold qAM qB1
  constructor
  ·rintro ⟨v,vs',e,r,k⟩;exact ⟨v,vs',e,r,reps_iff.mp k⟩
  ·rintro ⟨v,vs',e,r,k⟩;exact ⟨v,vs',e,r,reps_iff.mpr k⟩
mutual
noncomputable def FP (X:List Nat) (h:AH):T -> V -> List Nat -> Prop
 | .v x,w,fp=>(w=x/\flat x=true)/\fp=[]
 | .lst ts,w,fp=>∃ a vs f,w=.ref a/\a∉X/\h[a]?=some (.lst false vs)/\FPs X h ts vs f/\fp=f++[a]
 | .tup ts,w,fp=>∃ a vs,w=.ref a/\a∉X/\h[a]?=some (.tup vs)/\FPs X h ts vs fp
 | .ob o,w,fp=>(∃ a,w=.ref a/\a∉X/\h[a]?=some (.ob o))/\fp=[]
 | .fz _,_,_=>False
 | .cell _,_,_=>False
noncomputable def FPs (X:List Nat) (h:AH):List T -> List V -> List Nat -> Prop
 | [],vs,fp=>vs=[]/\fp=[]
 | t::ts,vs,fp=>∃ v vs' f1 f2,vs=v::vs'/\FP X h t v f1/\FPs X h ts vs' f2/\fp=f1++f2
end
mutual
theorem qAv {A X A' X':List Nat} {h h':AH} (hc:∀ (n:Nat) a,A[n]?=some a -> A'[n]?=some a) (hn:∀ a o,a∉X -> h[a]?=some o -> a∉X'/\h'[a]?=some o):∀ (t:T) {w:V},Rep A X h t w -> Rep A' X' h' t w
 | .v x,w,r=>by unfold Rep at r ⊢;exact r
 | .cell n,w,r=>by unfold Rep at r ⊢;obtain ⟨a,e,q⟩:=r;exact ⟨a,hc _ _ e,q⟩
 | .fz ts,w,r=>by unfold Rep at r ⊢;obtain ⟨a,vs,e,q1,q2,q3⟩:=r;exact ⟨a,vs,e,(hn _ _ q1 q2).1,(hn _ _ q1 q2).2,qAL hc hn ts q3⟩
 | .lst ts,w,r=>by unfold Rep at r ⊢;obtain ⟨a,vs,e,q1,q2,q3⟩:=r;exact ⟨a,vs,e,(hn _ _ q1 q2).1,(hn _ _ q1 q2).2,qAL hc hn ts q3⟩
 | .tup ts,w,r=>by unfold Rep at r ⊢;obtain ⟨a,vs,e,q1,q2,q3⟩:=r;exact ⟨a,vs,e,(hn _ _ q1 q2).1,(hn _ _ q1 q2).2,qAL hc hn ts q3⟩
 | .ob o,w,r=>by unfold Rep at r ⊢;obtain ⟨a,e,q1,q2⟩:=r;exact ⟨a,e,(hn _ _ q1 q2).1,(hn _ _ q1 q2).2⟩
theorem qAL {A X A' X':List Nat} {h h':AH} (hc:∀ (n:Nat) a,A[n]?=some a -> A'[n]?=some a) (hn:∀ a o,a∉X -> h[a]?=some o -> a∉X'/\h'[a]?=some o):∀ (ts:List T) {ws:List V},qAM A X h ts ws -> qAM A' X' h' ts ws
 | [],w,r=>by unfold qAM at r ⊢;exact r
 | t::ts,w,r=>by unfold qAM at r ⊢;obtain ⟨v,vs,e,q1,q2⟩:=r;exact ⟨v,vs,e,qAv hc hn t q1,qAL hc hn ts q2⟩
end
mutual
theorem qCp {X X':List Nat} {h h':AH} (hn:∀ a o,a∉X -> h[a]?=some o -> a∉X'/\h'[a]?=some o):∀ (t:T) {w:V} {fp:List Nat},FP X h t w fp -> FP X' h' t w fp
 | .v x,w,_,r=>by unfold FP at r ⊢;exact r
 | .cell n,w,_,r=>by unfold FP at r;exact r.elim
 | .fz ts,w,_,r=>by unfold FP at r;exact r.elim
 | .lst ts,w,_,r=>by unfold FP at r ⊢;obtain ⟨a,vs,f,e,q1,q2,q3,q4⟩:=r;exact ⟨a,vs,f,e,(hn _ _ q1 q2).1,(hn _ _ q1 q2).2,qBF hn ts q3,q4⟩
 | .tup ts,w,_,r=>by unfold FP at r ⊢;obtain ⟨a,vs,e,q1,q2,q3⟩:=r;exact ⟨a,vs,e,(hn _ _ q1 q2).1,(hn _ _ q1 q2).2,qBF hn ts q3⟩
 | .ob o,w,_,r=>by unfold FP at r ⊢;obtain ⟨⟨a,e,q1,q2⟩,q3⟩:=r;exact ⟨⟨a,e,(hn _ _ q1 q2).1,(hn _ _ q1 q2).2⟩,q3⟩
theorem qBF {X X':List Nat} {h h':AH} (hn:∀ a o,a∉X -> h[a]?=some o -> a∉X'/\h'[a]?=some o):∀ (ts:List T) {ws:List V} {fp:List Nat},FPs X h ts ws fp -> FPs X' h' ts ws fp
 | [],w,_,r=>by unfold FPs at r ⊢;exact r
 | t::ts,w,_,r=>by unfold FPs at r ⊢;obtain ⟨v,vs,f1,f2,e,q1,q2,q3⟩:=r;exact ⟨v,vs,f1,f2,e,qCp hn t q1,qBF hn ts q2,q3⟩
end
mutual
theorem qLM {A X:List Nat} {h:AH}:∀ (t:T) {w:V} {fp:List Nat},FP X h t w fp -> Rep A X h t w
 | .v x,w,_,r=>by unfold FP at r;unfold Rep;exact r.1
 | .cell n,w,_,r=>by unfold FP at r;exact r.elim
 | .fz ts,w,_,r=>by unfold FP at r;exact r.elim
 | .lst ts,w,_,r=>by unfold FP at r;unfold Rep;obtain ⟨a,vs,f,e,q1,q2,q3,q4⟩:=r;exact ⟨a,vs,e,q1,q2,qEf ts q3⟩
 | .tup ts,w,_,r=>by unfold FP at r;unfold Rep;obtain ⟨a,vs,e,q1,q2,q3⟩:=r;exact ⟨a,vs,e,q1,q2,qEf ts q3⟩
 | .ob o,w,_,r=>by unfold FP at r;unfold Rep;exact r.1
theorem qEf {A X:List Nat} {h:AH}:∀ (ts:List T) {ws:List V} {fp:List Nat},FPs X h ts ws fp -> qAM A X h ts ws
 | [],w,_,r=>by unfold FPs at r;unfold qAM;exact r.1
 | t::ts,w,_,r=>by unfold FPs at r;unfold qAM;obtain ⟨v,vs,f1,f2,e,q1,q2,q3⟩:=r;exact ⟨v,vs,e,qLM t q1,qEf ts q2⟩
end
mutual
theorem qIJ {X:List Nat} {h:AH} (n:Nat):∀ (t:T) {w:V} {fp:List Nat},FP X h t w fp -> t.und n=true
 | .v x,w,_,r=>rfl
 | .cell n,w,_,r=>by unfold FP at r;exact r.elim
 | .fz ts,w,_,r=>by unfold FP at r;exact r.elim
 | .lst ts,w,_,r=>by unfold FP at r;obtain ⟨a,vs,f,e,q1,q2,q3,q4⟩:=r;exact qEd n ts q3
 | .tup ts,w,_,r=>by unfold FP at r;obtain ⟨a,vs,e,q1,q2,q3⟩:=r;exact qEd n ts q3
 | .ob o,w,_,r=>rfl
theorem qEd {X:List Nat} {h:AH} (n:Nat):∀ (ts:List T) {ws:List V} {fp:List Nat},FPs X h ts ws fp -> T.unds n ts=true
 | [],w,_,r=>rfl
 | t::ts,w,_,r=>by unfold FPs at r;obtain ⟨v,vs,f1,f2,e,q1,q2,q3⟩:=r;unfold T.unds;rw [qIJ n t q1,qEd n ts q2];rfl
end
mutual
theorem qE0 {X:List Nat} {h:AH}:∀ (t:T) {w:V} {fp:List Nat},FP X h t w fp -> ∀ a∈fp,a∉X/\∃ vs,h[a]?=some (.lst false vs)
 | .v x,w,_,r=>by unfold FP at r;obtain ⟨_,rfl⟩:=r;intro a ha;simp at ha
 | .cell n,w,_,r=>by unfold FP at r;exact r.elim
 | .fz ts,w,_,r=>by unfold FP at r;exact r.elim
 | .lst ts,w,_,r=>by
  unfold FP at r;obtain ⟨a,vs,f,e,q1,q2,q3,rfl⟩:=r
  intro b hb
  rcases List.mem_append.mp hb with hb | hb
  ·exact qB4 ts q3 b hb
  ·simp at hb;subst hb;exact ⟨q1,vs,q2⟩
 | .tup ts,w,_,r=>by unfold FP at r;obtain ⟨a,vs,e,q1,q2,q3⟩:=r;exact qB4 ts q3
 | .ob o,w,_,r=>by unfold FP at r;obtain ⟨_,rfl⟩:=r;intro a ha;simp at ha
theorem qB4 {X:List Nat} {h:AH}:∀ (ts:List T) {ws:List V} {fp:List Nat},FPs X h ts ws fp -> ∀ a∈fp,a∉X/\∃ vs,h[a]?=some (.lst false vs)
 | [],w,_,r=>by unfold FPs at r;obtain ⟨_,rfl⟩:=r;intro a ha;simp at ha
 | t::ts,w,_,r=>by
  unfold FPs at r;obtain ⟨v,vs,f1,f2,e,q1,q2,rfl⟩:=r
  intro b hb
  rcases List.mem_append.mp hb with hb | hb
  ·exact qE0 t q1 b hb
  ·exact qB4 ts q2 b hb
end
mutual
theorem qJm {A X:List Nat} {h:AH}:∀ (t:T) {w:V},Rep A X h t w -> t.lf=true -> FP X h t w []
 | .v x,w,r,l=>by unfold Rep at r;unfold FP;exact ⟨r,rfl⟩
 | .cell n,w,r,l=>by unfold T.lf at l;cases l
 | .fz ts,w,r,l=>by unfold T.lf at l;cases l
 | .lst ts,w,r,l=>by unfold T.lf at l;cases l
 | .tup ts,w,r,l=>by unfold Rep at r;unfold FP;obtain ⟨a,vs,e,q1,q2,q3⟩:=r;exact ⟨a,vs,e,q1,q2,qGN ts q3 (by unfold T.lf at l;exact l)⟩
 | .ob o,w,r,l=>by unfold Rep at r;unfold FP;exact ⟨r,rfl⟩
theorem qGN {A X:List Nat} {h:AH}:∀ (ts:List T) {ws:List V},qAM A X h ts ws -> T.lfs ts=true -> FPs X h ts ws []
 | [],w,r,l=>by unfold qAM at r;unfold FPs;exact ⟨r,rfl⟩
 | t::ts,w,r,l=>by
  unfold qAM at r;unfold FPs;obtain ⟨v,vs,e,q1,q2⟩:=r
  unfold T.lfs at l;simp only [Bool.and_eq_true] at l
  exact ⟨v,vs,[],[],e,qJm t q1 l.1,qGN ts q2 l.2,rfl⟩
end
mutual
theorem qGq {A X A1 X1:List Nat} {h:AH} {n0:Nat} (hc:∀ n,n < n0 -> A1[n]?=A[n]?) (hX:∀ a∈X,a∈X1):∀ (t:T) {w:V},Rep A1 X1 h t w -> t.und n0=true -> Rep A X h t w
 | .v x,w,r,u=>by unfold Rep at r ⊢;exact r
 | .cell n,w,r,u=>by
  unfold Rep at r ⊢;obtain ⟨a,e,q⟩:=r
  unfold T.und at u
  exact ⟨a,(hc n (by simpa using u)).symm.trans e,q⟩
 | .fz ts,w,r,u=>by unfold Rep at r ⊢;obtain ⟨a,vs,e,q1,q2,q3⟩:=r;exact ⟨a,vs,e,fun z=>q1 (hX _ z),q2,qBt hc hX ts q3 (by unfold T.und at u;exact u)⟩
 | .lst ts,w,r,u=>by unfold Rep at r ⊢;obtain ⟨a,vs,e,q1,q2,q3⟩:=r;exact ⟨a,vs,e,fun z=>q1 (hX _ z),q2,qBt hc hX ts q3 (by unfold T.und at u;exact u)⟩
 | .tup ts,w,r,u=>by unfold Rep at r ⊢;obtain ⟨a,vs,e,q1,q2,q3⟩:=r;exact ⟨a,vs,e,fun z=>q1 (hX _ z),q2,qBt hc hX ts q3 (by unfold T.und at u;exact u)⟩
 | .ob o,w,r,u=>by unfold Rep at r ⊢;obtain ⟨a,e,q1,q2⟩:=r;exact ⟨a,e,fun z=>q1 (hX _ z),q2⟩
theorem qBt {A X A1 X1:List Nat} {h:AH} {n0:Nat} (hc:∀ n,n < n0 -> A1[n]?=A[n]?) (hX:∀ a∈X,a∈X1):∀ (ts:List T) {ws:List V},qAM A1 X1 h ts ws -> T.unds n0 ts=true -> qAM A X h ts ws
 | [],w,r,u=>by unfold qAM at r ⊢;exact r
 | t::ts,w,r,u=>by
  unfold qAM at r ⊢;obtain ⟨v,vs,e,q1,q2⟩:=r
  unfold T.unds at u;simp only [Bool.and_eq_true] at u
  exact ⟨v,vs,e,qGq hc hX t q1 u.1,qBt hc hX ts q2 u.2⟩
end
theorem qBD {x:V} {a:Nat} (h:flat x=true) (e:V.ref a=x):False:=by subst e;cases h
mutual
theorem qHH {A X:List Nat} {h:AH} (nd:A.Nodup) (hs:∀ a∈A,a∈X):∀ (s t:T) {w:V},Rep A X h s w -> Rep A X h t w -> s=t
 | .v x,t,w,r,q=>by
  unfold Rep at r;obtain ⟨rfl,f⟩:=r
  cases t with
  | v y=>unfold Rep at q;obtain ⟨rfl,_⟩:=q;rfl
  | cell n=>unfold Rep at q;obtain ⟨a,_,e⟩:=q;subst e;cases f
  | fz ts=>unfold Rep at q;obtain ⟨a,vs,e,_⟩:=q;subst e;cases f
  | lst ts=>unfold Rep at q;obtain ⟨a,vs,e,_⟩:=q;subst e;cases f
  | tup ts=>unfold Rep at q;obtain ⟨a,vs,e,_⟩:=q;subst e;cases f
  | ob o=>unfold Rep at q;obtain ⟨a,e,_⟩:=q;subst e;cases f
 | .cell n,t,w,r,q=>by
  unfold Rep at r;obtain ⟨a,ea,rfl⟩:=r
  have am:a∈X:=hs _ (List.mem_of_getElem? ea)
  cases t with
  | v y=>unfold Rep at q;obtain ⟨e,f⟩:=q;exact (qBD f e).elim
  | cell m=>
   unfold Rep at q;obtain ⟨b,eb,e⟩:=q;cases e
   have:n=m:=(List.getElem?_inj (by exact (List.getElem?_eq_some_iff.mp ea).1) nd).mp (ea.trans eb.symm)
   rw [this]
  | fz ts=>unfold Rep at q;obtain ⟨b,vs,e,k,_⟩:=q;cases e;exact (k am).elim
  | lst ts=>unfold Rep at q;obtain ⟨b,vs,e,k,_⟩:=q;cases e;exact (k am).elim
  | tup ts=>unfold Rep at q;obtain ⟨b,vs,e,k,_⟩:=q;cases e;exact (k am).elim
  | ob o=>unfold Rep at q;obtain ⟨b,e,k,_⟩:=q;cases e;exact (k am).elim
 | .fz ss,t,w,r,q=>by
  unfold Rep at r;obtain ⟨a,vs,rfl,k1,k2,k3⟩:=r
  cases t with
  | v y=>unfold Rep at q;obtain ⟨e,f⟩:=q;exact (qBD f e).elim
  | cell m=>unfold Rep at q;obtain ⟨b,eb,e⟩:=q;cases e;exact (k1 (hs _ (List.mem_of_getElem? eb))).elim
  | fz ts=>unfold Rep at q;obtain ⟨b,vs',e,z1,z2,z3⟩:=q;cases e;rw [k2] at z2;cases z2;rw [qCO nd hs ss ts k3 z3]
  | lst ts=>unfold Rep at q;obtain ⟨b,vs',e,z1,z2,z3⟩:=q;cases e;rw [k2] at z2;cases z2
  | tup ts=>unfold Rep at q;obtain ⟨b,vs',e,z1,z2,z3⟩:=q;cases e;rw [k2] at z2;cases z2
  | ob o=>unfold Rep at q;obtain ⟨b,e,z1,z2⟩:=q;cases e;rw [k2] at z2;cases z2
 | .lst ss,t,w,r,q=>by
  unfold Rep at r;obtain ⟨a,vs,rfl,k1,k2,k3⟩:=r
  cases t with
  | v y=>unfold Rep at q;obtain ⟨e,f⟩:=q;exact (qBD f e).elim
  | cell m=>unfold Rep at q;obtain ⟨b,eb,e⟩:=q;cases e;exact (k1 (hs _ (List.mem_of_getElem? eb))).elim
  | lst ts=>unfold Rep at q;obtain ⟨b,vs',e,z1,z2,z3⟩:=q;cases e;rw [k2] at z2;cases z2;rw [qCO nd hs ss ts k3 z3]
  | fz ts=>unfold Rep at q;obtain ⟨b,vs',e,z1,z2,z3⟩:=q;cases e;rw [k2] at z2;cases z2
  | tup ts=>unfold Rep at q;obtain ⟨b,vs',e,z1,z2,z3⟩:=q;cases e;rw [k2] at z2;cases z2
  | ob o=>unfold Rep at q;obtain ⟨b,e,z1,z2⟩:=q;cases e;rw [k2] at z2;cases z2
 | .tup ss,t,w,r,q=>by
  unfold Rep at r;obtain ⟨a,vs,rfl,k1,k2,k3⟩:=r
  cases t with
  | v y=>unfold Rep at q;obtain ⟨e,f⟩:=q;exact (qBD f e).elim
  | cell m=>unfold Rep at q;obtain ⟨b,eb,e⟩:=q;cases e;exact (k1 (hs _ (List.mem_of_getElem? eb))).elim
  | tup ts=>unfold Rep at q;obtain ⟨b,vs',e,z1,z2,z3⟩:=q;cases e;rw [k2] at z2;cases z2;rw [qCO nd hs ss ts k3 z3]
  | fz ts=>unfold Rep at q;obtain ⟨b,vs',e,z1,z2,z3⟩:=q;cases e;rw [k2] at z2;cases z2
  | lst ts=>unfold Rep at q;obtain ⟨b,vs',e,z1,z2,z3⟩:=q;cases e;rw [k2] at z2;cases z2
  | ob o=>unfold Rep at q;obtain ⟨b,e,z1,z2⟩:=q;cases e;rw [k2] at z2;cases z2
 | .ob o,t,w,r,q=>by
  unfold Rep at r;obtain ⟨a,rfl,k1,k2⟩:=r
  cases t with
  | v y=>unfold Rep at q;obtain ⟨e,f⟩:=q;exact (qBD f e).elim
  | cell m=>unfold Rep at q;obtain ⟨b,eb,e⟩:=q;cases e;exact (k1 (hs _ (List.mem_of_getElem? eb))).elim
  | fz ts=>unfold Rep at q;obtain ⟨b,vs',e,z1,z2,z3⟩:=q;cases e;rw [k2] at z2;cases z2
  | lst ts=>unfold Rep at q;obtain ⟨b,vs',e,z1,z2,z3⟩:=q;cases e;rw [k2] at z2;cases z2
  | tup ts=>unfold Rep at q;obtain ⟨b,vs',e,z1,z2,z3⟩:=q;cases e;rw [k2] at z2;cases z2
  | ob o'=>unfold Rep at q;obtain ⟨b,e,z1,z2⟩:=q;cases e;rw [k2] at z2;cases z2;rfl
theorem qCO {A X:List Nat} {h:AH} (nd:A.Nodup) (hs:∀ a∈A,a∈X):∀ (ss ts:List T) {ws:List V},qAM A X h ss ws -> qAM A X h ts ws -> ss=ts
 | [],[],w,r,q=>rfl
 | [],t::ts,w,r,q=>by unfold qAM at r q;obtain ⟨v,vs,e,_⟩:=q;subst r;cases e
 | s::ss,[],w,r,q=>by unfold qAM at r q;obtain ⟨v,vs,e,_⟩:=r;subst q;cases e
 | s::ss,t::ts,w,r,q=>by
  unfold qAM at r q;obtain ⟨v,vs,rfl,k1,k2⟩:=r;obtain ⟨v',vs',e,z1,z2⟩:=q
  cases e
  rw [qHH nd hs s t k1 z1,qCO nd hs ss ts k2 z2]
end
mutual
theorem qL1:∀ (s t:T),T.beq s t=true -> s=t
 | .v x,.v y,h=>by unfold T.beq at h;simp at h;rw [h]
 | .cell x,.cell y,h=>by unfold T.beq at h;simp at h;rw [h]
 | .fz x,.fz y,h=>by unfold T.beq at h;rw [qB2 x y h]
 | .lst x,.lst y,h=>by unfold T.beq at h;rw [qB2 x y h]
 | .tup x,.tup y,h=>by unfold T.beq at h;rw [qB2 x y h]
 | .ob x,.ob y,h=>by unfold T.beq at h;simp at h;rw [h]
 | .ob _,.v _,h | .ob _,.cell _,h | .ob _,.fz _,h | .ob _,.lst _,h | .ob _,.tup _,h=>by simp [T.beq] at h
 | .v _,.ob _,h | .cell _,.ob _,h | .fz _,.ob _,h | .lst _,.ob _,h | .tup _,.ob _,h=>by simp [T.beq] at h
 | .v _,.cell _,h | .v _,.fz _,h | .v _,.lst _,h | .v _,.tup _,h=>by simp [T.beq] at h
 | .cell _,.v _,h | .cell _,.fz _,h | .cell _,.lst _,h | .cell _,.tup _,h=>by simp [T.beq] at h
 | .fz _,.v _,h | .fz _,.cell _,h | .fz _,.lst _,h | .fz _,.tup _,h=>by simp [T.beq] at h
 | .lst _,.v _,h | .lst _,.cell _,h | .lst _,.fz _,h | .lst _,.tup _,h=>by simp [T.beq] at h
 | .tup _,.v _,h | .tup _,.cell _,h | .tup _,.fz _,h | .tup _,.lst _,h=>by simp [T.beq] at h
theorem qB2:∀ (ss ts:List T),T.beqs ss ts=true -> ss=ts
 | [],[],h=>rfl
 | [],_::_,h=>by simp [T.beqs] at h
 | _::_,[],h=>by simp [T.beqs] at h
 | s::ss,t::ts,h=>by unfold T.beqs at h;simp only [Bool.and_eq_true] at h;rw [qL1 s t h.1,qB2 ss ts h.2]
end
noncomputable def Frm (A:List Nat) (h h':AH):Prop:=h.length<=h'.length/\∀ j,j < h.length -> j∉A -> h'[j]?=h[j]?
theorem Frm.refl (A:List Nat) (h:AH):Frm A h h:=⟨Nat.le_refl _,fun _ _ _=>rfl⟩
theorem Frm.trans {A:List Nat} {a b c:AH} (x:Frm A a b) (y:Frm A b c):Frm A a c:=⟨Nat.le_trans x.1 y.1,fun j hj hA=>(y.2 j (Nat.lt_of_lt_of_le hj x.1) hA).trans (x.2 j hj hA)⟩
theorem Frm.trans2 {A B:List Nat} {a b c:AH} (x:Frm A a b) (hB:∀ k∈B,a.length<=k) (y:Frm (A++B) b c):Frm A a c:=
 ⟨Nat.le_trans x.1 y.1,fun j hj hA=>(y.2 j (Nat.lt_of_lt_of_le hj x.1) (by rw [List.mem_append];rintro (z | z);exact hA z;have:=hB _ z;omega)).trans (x.2 j hj hA)⟩
theorem Frm.app (A:List Nat) (h e:AH):Frm A h (h++e):=⟨by simp,fun j hj _=>by rw [List.getElem?_append_left hj]⟩
theorem Frm.set {A:List Nat} {h h':AH} (f:Frm A h h') {a:Nat} (ha:a∈A\/h.length<=a) (o:O):Frm A h (h'.set a o):=⟨by simpa using f.1,fun j hj hA=>by
 rw [List.getElem?_set_ne (by rintro rfl;rcases ha with z | z;exact hA z;omega)];exact f.2 j hj hA⟩
theorem qAK {h:AH} {a:Nat} {o:O} (e:h[a]?=some o):a < h.length:=(List.getElem?_eq_some_iff.mp e).1
structure RelM (gl:List T) (A X:List Nat) (h:AH) (M:Mem):Prop where
 len:A.length=M.length
 nd:A.Nodup
 sub:∀ a∈A,a∈X
 lt:∀ a∈X,a < h.length
 at_:∀ (n:Nat) a,A[n]?=some a -> ∃ ts vs,M[n]?=some ts/\h[a]?=some (.lst false vs)/\qAM A X h ts vs
 glo:∀ (g:Nat) t,gl[g]?=some t -> Rep A X h t (.ref g)
section
variable {gl:List T} {A X:List Nat} {h h':AH} {M:Mem}
theorem RelM.keepN (R:RelM gl A X h M) (f:Frm A h h'):∀ a o,a∉X -> h[a]?=some o -> a∉X/\h'[a]?=some o:=fun a o hx e=>⟨hx,(f.2 a (qAK e) fun z=>hx (R.sub _ z)).trans e⟩
theorem RelM.keep (R:RelM gl A X h M) (f:Frm A h h') {t:T} {w:V} (r:Rep A X h t w):Rep A X h' t w:=qAv (fun _ _ e=>e) (R.keepN f) t r
theorem RelM.keeps (R:RelM gl A X h M) (f:Frm A h h') {t:List T} {w:List V} (r:qAM A X h t w):qAM A X h' t w:=qAL (fun _ _ e=>e) (R.keepN f) t r
theorem RelM.up (R:RelM gl A X h M) (e:AH):RelM gl A X (h++e) M:=by
 have f:Frm A h (h++e):=Frm.app A h e
 refine ⟨R.len,R.nd,R.sub,fun a ha=>Nat.lt_of_lt_of_le (R.lt a ha) f.1,fun n a ea=>?_,fun g t eg=>R.keep f (R.glo g t eg)⟩
 obtain ⟨ts,vs,e1,e2,e3⟩:=R.at_ n a ea
 exact ⟨ts,vs,e1,by rw [List.getElem?_append_left (qAK e2)];exact e2,R.keeps f e3⟩
theorem RelM.put (R:RelM gl A X h M) {n a:Nat} (ea:A[n]?=some a) {ts:List T} {vs:List V} (r:qAM A X h ts vs):RelM gl A X (h.set a (.lst false vs)) (M.set n ts)/\Frm A h (h.set a (.lst false vs)):=by
 have am:a∈A:=List.mem_of_getElem? ea
 have f:Frm A h (h.set a (.lst false vs)):=(Frm.refl A h).set (.inl am) _
 have al:a < h.length:=R.lt a (R.sub a am)
 refine ⟨⟨by simpa using R.len,R.nd,R.sub,fun b hb=>by simpa using R.lt b hb,fun m b eb=>?_,fun g t eg=>R.keep f (R.glo g t eg)⟩,f⟩
 by_cases hm:n=m
 ·subst hm
  rw [ea] at eb;cases eb
  have nl:n < M.length:=by rw [<- R.len];exact (List.getElem?_eq_some_iff.mp ea).1
  exact ⟨ts,vs,by rw [List.getElem?_set_self nl],by rw [List.getElem?_set_self al],R.keeps f r⟩
 ·obtain ⟨ts',vs',e1,e2,e3⟩:=R.at_ m b eb
  have hab:a≠b:=by
   rintro rfl
   exact hm ((List.getElem?_inj (List.getElem?_eq_some_iff.mp ea).1 R.nd).mp (ea.trans eb.symm))
  exact ⟨ts',vs',by rw [List.getElem?_set_ne hm];exact e1,by rw [List.getElem?_set_ne hab];exact e2,R.keeps f e3⟩
end
noncomputable def Frs (gl:List T) (A X:List Nat) (n:Nat) (h:AH) (M:Mem) (t:T) (w:V):Prop:=∃ fp,FP X h t w fp/\fp.Nodup/\(∀ a∈fp,n<=a)/\RelM gl A (X++fp) h M
noncomputable def Frss (gl:List T) (A X:List Nat) (n:Nat) (h:AH) (M:Mem) (t:List T) (w:List V):Prop:=∃ fp,FPs X h t w fp/\fp.Nodup/\(∀ a∈fp,n<=a)/\RelM gl A (X++fp) h M
theorem Frs.of_lf {gl:List T} {A X:List Nat} {n:Nat} {h:AH} {M:Mem} {t:T} {w:V} (R:RelM gl A X h M) (r:Rep A X h t w) (l:t.lf=true):Frs gl A X n h M t w:=⟨[],qJm t r l,List.nodup_nil,fun a ha=>by simp at ha,by rw [List.append_nil];exact R⟩
theorem Frss.of_lf {gl:List T} {A X:List Nat} {n:Nat} {h:AH} {M:Mem} {t:List T} {w:List V} (R:RelM gl A X h M) (r:qAM A X h t w) (l:T.lfs t=true):Frss gl A X n h M t w:=⟨[],qGN t r l,List.nodup_nil,fun a ha=>by simp at ha,by rw [List.append_nil];exact R⟩
noncomputable def Sim {α β:Type} (gl:List T) (A X:List Nat) (h:AH) (Q:α -> β -> AH -> Mem -> Prop):PR (α×Mem) -> Res (β×AH) -> Prop
 | .ok (x,M'),r=>∃ y h',r=.ok (y,h')/\Frm A h h'/\RelM gl A X h' M'/\Q x y h' M'
 | .exc c M',r=>∃ h',r=.exc c h'/\Frm A h h'/\RelM gl A X h' M'
 | .stuck,_=>True
theorem Sim.bind {α β α2 β2:Type} {gl:List T} {A X:List Nat} {h:AH} {Q:α -> β -> AH -> Mem -> Prop} {Q2:α2 -> β2 -> AH -> Mem -> Prop} {r:PR (α×Mem)} {rh:Res (β×AH)} {f:α×Mem -> PR (α2×Mem)} {g:β×AH -> Res (β2×AH)}
  (s:Sim gl A X h Q r rh) (k:∀ x M' y h',Frm A h h' -> RelM gl A X h' M' -> Q x y h' M' -> Sim gl A X h' Q2 (f (x,M')) (g (y,h'))):Sim gl A X h Q2 (r.bind f) (rh.bind g):=by
 cases r with
 | ok p=>
  obtain ⟨x,M'⟩:=p
  obtain ⟨y,h',rfl,f1,R1,q⟩:=s
  have:=k x M' y h' f1 R1 q
  rw [PR.bind_ok,Res.bind_ok]
  revert this
  generalize f (x,M')=r2
  generalize g (y,h')=rh2
  intro s2
  cases r2 with
  | ok p2=>
   obtain ⟨x2,M2⟩:=p2
   obtain ⟨y2,h2,e2,f2,R2,q2⟩:=s2
   exact ⟨y2,h2,e2,f1.trans f2,R2,q2⟩
  | exc c M2=>
   obtain ⟨h2,e2,f2,R2⟩:=s2
   exact ⟨h2,e2,f1.trans f2,R2⟩
  | stuck=>trivial
 | exc c M'=>
  obtain ⟨h',rfl,f1,R1⟩:=s
  exact ⟨h',rfl,f1,R1⟩
 | stuck=>trivial
theorem Sim.nx {α β:Type} {gl:List T} {A X:List Nat} {h:AH} {Q:α -> β -> AH -> Mem -> Prop} {r:PR (α×Mem)} {rh:Res (β×AH)} (s:Sim gl A X h Q r rh):Sim gl A X h Q r.nx rh.nx:=by
 cases r with
 | ok p=>obtain ⟨x,M'⟩:=p;obtain ⟨y,h',rfl,a,b,c⟩:=s;exact ⟨y,h',rfl,a,b,c⟩
 | exc c M'=>trivial
 | stuck=>trivial
theorem Sim.stuck {α β:Type} {gl:List T} {A X:List Nat} {h:AH} {Q:α -> β -> AH -> Mem -> Prop} {r:Res (β×AH)}:Sim gl A X h Q (.stuck:PR (α×Mem)) r:=trivial
theorem Sim.ofO {α β α2:Type} {gl:List T} {A X:List Nat} {h:AH} {Q:α -> β -> AH -> Mem -> Prop} {o:Option α2} {f:α2 -> PR (α×Mem)} {r:Res (β×AH)} (k:∀ x,o=some x -> Sim gl A X h Q (f x) r):Sim gl A X h Q ((PR.ofO o).bind f) r:=by
 cases o with
 | none=>trivial
 | some x=>exact k x rfl
noncomputable def QE (gl:List T) (A X:List Nat) (n:Nat):TB -> V -> AH -> Mem -> Prop:=fun x w h M=>Rep A X h x.1 w/\(x.2=true -> Frs gl A X n h M x.1 w)
noncomputable def QEs (gl:List T) (A X:List Nat) (n:Nat):List TB -> List V -> AH -> Mem -> Prop:=fun x w h M=>qAM A X h (x.map (·.1)) w/\(x.all (·.2)=true -> Frss gl A X n h M (x.map (·.1)) w)
theorem QE.le {gl:List T} {A X:List Nat} {n m:Nat} {x:TB} {w:V} {h:AH} {M:Mem} (q:QE gl A X n x w h M) (l:m<=n):QE gl A X m x w h M:=⟨q.1,fun e=>by obtain ⟨fp,a,b,c,d⟩:=q.2 e;exact ⟨fp,a,b,fun z hz=>Nat.le_trans l (c z hz),d⟩⟩
theorem Sim.le {gl:List T} {A X:List Nat} {h:AH} {n m:Nat} {r:PR (TB×Mem)} {rh:RV} (s:Sim gl A X h (QE gl A X n) r rh) (l:m<=n):Sim gl A X h (QE gl A X m) r rh:=by
 cases r with
 | ok p=>obtain ⟨y,h',e,f,R,q⟩:=s;exact ⟨y,h',e,f,R,q.le l⟩
 | exc c M=>exact s
 | stuck=>trivial
theorem RelM.weak {gl:List T} {A X X':List Nat} {h:AH} {M:Mem} (R:RelM gl A X' h M) (hX:∀ a∈X,a∈X') (hA:∀ a∈A,a∈X):RelM gl A X h M:=by
 have hn:∀ a o,a∉X' -> h[a]?=some o -> a∉X/\h[a]?=some o:=fun a o x y=>⟨fun z=>x (hX _ z),y⟩
 refine ⟨R.len,R.nd,hA,fun a ha=>R.lt a (hX a ha),fun n a e=>?_,fun g t e=>qAv (fun _ _ e=>e) hn t (R.glo g t e)⟩
 obtain ⟨ts,vs,e1,e2,e3⟩:=R.at_ n a e
 exact ⟨ts,vs,e1,e2,qAL (fun _ _ e=>e) hn ts e3⟩
theorem RelM.addX {gl:List T} {A X X':List Nat} {h:AH} {M:Mem} (R:RelM gl A X h M) {o:O} (h1:∀ a,a∈X'↔a=h.length\/a∈X):RelM gl A X' (h++[o]) M:=by
 have hn:∀ a o',a∉X -> h[a]?=some o' -> a∉X'/\(h++[o])[a]?=some o':=fun a o' x y=>⟨by
  rw [h1];rintro (z | z)
  ·have:=qAK y;omega
  ·exact x z,by rw [List.getElem?_append_left (qAK y)];exact y⟩
 refine ⟨R.len,R.nd,fun a ha=>(h1 a).mpr (.inr (R.sub a ha)),fun a ha=>?_,fun n a e=>?_,fun g t e=>qAv (fun _ _ e=>e) hn t (R.glo g t e)⟩
 ·rcases (h1 a).mp ha with z | z
  ·simp [z]
  ·have:=R.lt a z;simp;omega
 ·obtain ⟨ts,vs,e1,e2,e3⟩:=R.at_ n a e
  exact ⟨ts,vs,e1,by rw [List.getElem?_append_left (qAK e2)];exact e2,qAL (fun _ _ e=>e) hn ts e3⟩
end PI
namespace PI
open L2 (V)
section
variable {gl:List T} {A X:List Nat} {h:AH} {M:Mem}
theorem qIV (R:RelM gl A X h M) {t:T} {w:V} {ts:List T} (r:Rep A X h t w) (e:t.its M=some ts):∃ a vs,w=.ref a/\items h a=some vs/\qAM A X h ts vs:=by
 cases t with
 | v x=>cases e
 | cell n=>
  unfold Rep at r;obtain ⟨a,ea,rfl⟩:=r
  obtain ⟨ts',vs,e1,e2,e3⟩:=R.at_ n a ea
  have:M[n]?=some ts:=e
  rw [e1] at this;cases this
  exact ⟨a,vs,rfl,by unfold items;rw [e2],e3⟩
 | fz xs=>unfold Rep at r;obtain ⟨a,vs,rfl,_,q,k⟩:=r;cases e;exact ⟨a,vs,rfl,by unfold items;rw [q],k⟩
 | lst xs=>unfold Rep at r;obtain ⟨a,vs,rfl,_,q,k⟩:=r;cases e;exact ⟨a,vs,rfl,by unfold items;rw [q],k⟩
 | tup xs=>unfold Rep at r;obtain ⟨a,vs,rfl,_,q,k⟩:=r;cases e;exact ⟨a,vs,rfl,by unfold items;rw [q],k⟩
 | ob o=>cases e
theorem qA9 (R:RelM gl A X h M) {t:T} {w:V} {ts:List T} (r:Rep A X h t w) (e:t.lis M=some ts):∃ a vs f,w=.ref a/\h[a]?=some (.lst f vs)/\qAM A X h ts vs:=by
 cases t with
 | v x=>cases e
 | cell n=>
  unfold Rep at r;obtain ⟨a,ea,rfl⟩:=r
  obtain ⟨ts',vs,e1,e2,e3⟩:=R.at_ n a ea
  have:M[n]?=some ts:=e
  rw [e1] at this;cases this
  exact ⟨a,vs,false,rfl,e2,e3⟩
 | fz xs=>unfold Rep at r;obtain ⟨a,vs,rfl,_,q,k⟩:=r;cases e;exact ⟨a,vs,true,rfl,q,k⟩
 | lst xs=>unfold Rep at r;obtain ⟨a,vs,rfl,_,q,k⟩:=r;cases e;exact ⟨a,vs,false,rfl,q,k⟩
 | tup xs=>cases e
 | ob o=>cases e
theorem qG8 (R:RelM gl A X h M) {t:T} {w:V} {ts:List T} (r:Rep A X h t w) (e:t.mu M=some ts):∃ a vs,w=.ref a/\qAw h a=some vs/\qAM A X h ts vs:=by
 cases t with
 | v x=>cases e
 | cell n=>
  unfold Rep at r;obtain ⟨a,ea,rfl⟩:=r
  obtain ⟨ts',vs,e1,e2,e3⟩:=R.at_ n a ea
  have:M[n]?=some ts:=e
  rw [e1] at this;cases this
  exact ⟨a,vs,rfl,by unfold qAw;rw [e2],e3⟩
 | fz xs=>cases e
 | lst xs=>unfold Rep at r;obtain ⟨a,vs,rfl,_,q,k⟩:=r;cases e;exact ⟨a,vs,rfl,by unfold qAw;rw [q],k⟩
 | tup xs=>cases e
 | ob o=>cases e
theorem qAb {t:T} {x:V} (e:t.isV=some x):t=.v x:=by cases t<;>cases e;rfl
theorem qBx {t:T} {w:V} (e:t.isV=none) (r:Rep A X h t w):∃ a:Nat,w=.ref a:=by
 cases t with
 | v x=>cases e
 | cell n=>unfold Rep at r;obtain ⟨a,_,e⟩:=r;exact ⟨a,e⟩
 | fz xs=>unfold Rep at r;obtain ⟨a,vs,e,_⟩:=r;exact ⟨a,e⟩
 | lst xs=>unfold Rep at r;obtain ⟨a,vs,e,_⟩:=r;exact ⟨a,e⟩
 | tup xs=>unfold Rep at r;obtain ⟨a,vs,e,_⟩:=r;exact ⟨a,e⟩
 | ob o=>unfold Rep at r;obtain ⟨a,e,_⟩:=r;exact ⟨a,e⟩
theorem qEL (R:RelM gl A X h M) {ts:List T} {vs:List V} {n:Nat} {f:Bool} (r:qAM A X h ts vs) (hn:n<=h.length) (hf:f=true -> Frss gl A X n h M ts vs):Sim gl A X h (QE gl A X n) (.ok ((.lst ts,f),M)) (newL vs h):=by
 have fm:Frm A h (h++[O.lst false vs]):=Frm.app A h _
 have hx:h.length∉X:=fun z=>Nat.lt_irrefl _ (R.lt _ z)
 have ha:(h++[O.lst false vs])[h.length]?=some (.lst false vs):=by simp
 refine ⟨.ref h.length,_,rfl,fm,R.up _,?_,fun e=>?_⟩
 ·show Rep A X _ (.lst ts) _
  unfold Rep
  exact ⟨_,vs,rfl,hx,ha,R.keeps fm r⟩
 ·obtain ⟨fp,p,nd,l,R'⟩:=hf e
  refine ⟨fp++[h.length],?_,?_,?_,R'.addX fun a=>by simp only [List.mem_append,List.mem_singleton];grind⟩
  ·show FP X _ (.lst ts) _ _
   unfold FP
   exact ⟨_,vs,fp,rfl,hx,ha,qBF (R.keepN fm) ts p,rfl⟩
  ·rw [List.nodup_append]
   refine ⟨nd,by simp,?_⟩
   rintro a ha b hb rfl
   obtain ⟨_,vs',q⟩:=qB4 ts p a ha
   simp at hb
   have:=qAK q
   omega
  ·intro a ha
   rcases List.mem_append.mp ha with z | z
   ·exact l a z
   ·simp at z;omega
theorem qDT (R:RelM gl A X h M) {ts:List T} {vs:List V} {n:Nat} {f:Bool} (r:qAM A X h ts vs) (hf:f=true -> Frss gl A X n h M ts vs):Sim gl A X h (QE gl A X n) (.ok ((.tup ts,f),M)) (newT vs h):=by
 have fm:Frm A h (h++[O.tup vs]):=Frm.app A h _
 have hx:h.length∉X:=fun z=>Nat.lt_irrefl _ (R.lt _ z)
 have ha:(h++[O.tup vs])[h.length]?=some (.tup vs):=by simp
 refine ⟨.ref h.length,_,rfl,fm,R.up _,?_,fun e=>?_⟩
 ·show Rep A X _ (.tup ts) _
  unfold Rep
  exact ⟨_,vs,rfl,hx,ha,R.keeps fm r⟩
 ·obtain ⟨fp,p,nd,l,R'⟩:=hf e
  refine ⟨fp,?_,nd,l,R'.up _⟩
  show FP X _ (.tup ts) _ _
  unfold FP
  exact ⟨_,vs,rfl,hx,ha,qBF (R.keepN fm) ts p⟩
theorem qFl (R:RelM gl A X h M) {ts:List T} {vs:List V} (r:qAM A X h ts vs):Sim gl A X h (QE gl A X h.length) (.ok (lT ts,M)) (newL vs h):=
 qEL R r (Nat.le_refl _) fun e=>Frss.of_lf R r e
theorem qAF (R:RelM gl A X h M) {x:V} (fx:flat x=true) {n:Nat}:Sim gl A X h (QE gl A X n) (.ok ((.v x,true),M)) (.ok (x,h)):=
 have r:Rep A X h (.v x) x:=by unfold Rep;exact ⟨rfl,fx⟩
 ⟨x,h,rfl,Frm.refl A h,R,r,fun _=>Frs.of_lf R r rfl⟩
theorem qAs {x w:V} (r:Rep A X h (.v x) w):w=x:=by unfold Rep at r;exact r.1
theorem qJ7 (xs:List T):T.lf (.tup xs)=T.lfs xs:=by rw [T.lf]
theorem qJS (R:RelM gl A X h M) {op:BOp} {s t:T} {x y:V} {r:TB} (e:qAd M op s t=some r) (r1:Rep A X h s x) (r2:Rep A X h t y):Sim gl A X h (QE gl A X h.length) (.ok (r,M)) (qLU op x y h):=by
 unfold qAd at e
 split at e
 ·rename_i i j e1 e2
  cases qAb e1;cases qAb e2
  cases qAs r1;cases qAs r2
  cases op with
  | add=>cases e;exact qAF R rfl
  | sub=>cases e;exact qAF R rfl
  | mul=>dsimp only at e;split at e<;>cases e;rename_i c;show Sim _ _ _ _ _ _ (if _ then _ else _);rw [if_pos c];exact qAF R rfl
  | fdiv=>
   dsimp only at e
   show Sim _ _ _ _ _ _ (if _ then _ else _)
   split at e
   ·rename_i c;cases e;rw [if_pos c];exact qAF R rfl
   ·rename_i c
    rw [if_neg c]
    split at e
    ·rename_i c;cases e;rw [if_pos c];exact qAF R rfl
    ·cases e
  | mod=>
   dsimp only at e
   show Sim _ _ _ _ _ _ (if _ then _ else _)
   split at e
   ·rename_i c;cases e;rw [if_pos c];exact qAF R rfl
   ·rename_i c
    rw [if_neg c]
    split at e
    ·rename_i c;cases e;rw [if_pos c];exact qAF R rfl
    ·cases e
  | pow=>dsimp only at e;split at e<;>cases e;rename_i c;show Sim _ _ _ _ _ _ (if _ then _ else _);rw [if_pos c];exact qAF R rfl
  | band=>cases e;exact qAF R rfl
  | shr=>dsimp only at e;split at e<;>cases e;rename_i c;show Sim _ _ _ _ _ _ (if _ then _ else _);rw [if_pos c];exact qAF R rfl
  | bxor=>cases e;exact qAF R rfl
 ·rename_i k e1 e2
  cases qAb e2
  cases qAs r2
  obtain ⟨a,rfl⟩:=qBx e1 r1
  cases op<;>first | cases e | skip
  dsimp only at e
  cases em:s.mu M with
  | none=>rw [em] at e;cases e
  | some xs=>
   rw [em] at e
   dsimp only [Option.bind_some] at e
   split at e<;>cases e
   rename_i c
   obtain ⟨a',vs,ea,m,rs⟩:=qG8 R r1 em
   cases ea
   have lv:vs.length=xs.length:=(qAC (reps_iff.mp rs)).symm
   show Sim _ _ _ _ _ _ (match qAw h a with | some xs=>_ | none=>_)
   rw [m]
   dsimp only
   rw [if_pos (by rw [lv];exact c)]
   exact qFl R (reps_iff.mpr (qHq _ (reps_iff.mp rs)))
 ·rename_i e1 e2
  obtain ⟨a,rfl⟩:=qBx e1 r1
  obtain ⟨b,rfl⟩:=qBx e2 r2
  cases op<;>first | cases e | skip
  dsimp only at e
  split at e
  ·rename_i xs ys
   split at e<;>cases e
   rename_i c
   unfold Rep at r1 r2
   obtain ⟨a1,vs,ea,n1,k1,q1⟩:=r1
   cases ea
   obtain ⟨b1,us,eb,n2,k2,q2⟩:=r2
   cases eb
   have lv:vs.length=xs.length:=(qAC (reps_iff.mp q1)).symm
   have lu:us.length=ys.length:=(qAC (reps_iff.mp q2)).symm
   have m1:qAw h a=none:=by unfold qAw;rw [k1]
   have t1:qAU h a=some vs:=by unfold qAU;rw [k1]
   have t2:qAU h b=some us:=by unfold qAU;rw [k2]
   have q3:=reps_iff.mpr (qAz (reps_iff.mp q1) (reps_iff.mp q2))
   show Sim _ _ _ _ _ _ (match qAw h a,qAw h b with | some xs,some ys=>_ | _,_=>_)
   rw [m1]
   show Sim _ _ _ _ _ _ (match qAU h a,qAU h b with | some xs,some ys=>_ | _,_=>_)
   rw [t1,t2]
   dsimp only
   rw [if_pos ⟨fun z=>c.1 (by subst z;exact List.length_eq_zero_iff.mp lv.symm),by rw [lv,lu];exact c.2⟩]
   split
   ·rename_i z
    subst z
    have y0:ys=[]:=List.length_eq_zero_iff.mp lu.symm
    subst y0
    have r:Rep A X h (.tup (xs++[])) (.ref a):=by
     rw [List.append_nil]
     unfold Rep
     exact ⟨a,vs,rfl,n1,k1,q1⟩
    exact ⟨_,h,rfl,Frm.refl A h,R,r,fun e=>Frs.of_lf R r (by rw [qJ7];exact e)⟩
   ·exact qDT R q3 fun e=>Frss.of_lf R q3 e
  cases em:s.mu M with
  | none=>rw [em] at e;cases e
  | some xs=>
   rw [em] at e
   dsimp only [Option.bind_some] at e
   cases en:t.mu M with
   | none=>rw [en] at e;cases e
   | some ys=>
    rw [en] at e
    dsimp only [Option.bind_some] at e
    split at e<;>cases e
    rename_i c
    obtain ⟨a',vs,ea,m,rs⟩:=qG8 R r1 em
    cases ea
    obtain ⟨b',us,eb,m2,rs2⟩:=qG8 R r2 en
    cases eb
    have lv:vs.length=xs.length:=(qAC (reps_iff.mp rs)).symm
    have lu:us.length=ys.length:=(qAC (reps_iff.mp rs2)).symm
    show Sim _ _ _ _ _ _ (match qAw h a,qAw h b with | some xs,some ys=>_ | _,_=>_)
    rw [m,m2]
    dsimp only
    rw [if_pos (by rw [lv,lu];exact c)]
    exact qFl R (reps_iff.mpr (qAz (reps_iff.mp rs) (reps_iff.mp rs2)))
 ·cases e
theorem qEr {x:V} {b:Bool} (e:eqF x x=some b):b=true:=by
 cases x with
 | int i=>cases e;exact beq_self_eq_true i
 | bl i=>cases e;exact beq_self_eq_true i
 | str i=>cases e;exact beq_self_eq_true i
 | non=>cases e;rfl
 | _=>cases e
theorem qBj {f:T -> T -> Option Bool} (hf:∀ t b,f t t=some b -> b=true):∀ (ts:List T) bs,qBH f ts ts=some bs -> bs.all id=true
 | [],bs,e=>by cases e;rfl
 | t::ts,bs,e=>by
  unfold qBH at e
  split at e
  ·rename_i b bs' e1 e2
   cases e
   rw [List.all_cons,hf t b e1,qBj hf ts bs' e2]
   rfl
  ·cases e
theorem qDb:∀ (n:Nat) (t:T) (b:Bool),eqT M n t t=some b -> b=true
 | 0,t,b,e=>by
  unfold eqT at e
  split at e
  ·rename_i x y e1 e2;rw [e1] at e2;cases e2;exact qEr e
  ·cases e
 | n + 1,t,b,e=>by
  unfold eqT at e
  split at e
  ·rename_i x y e1 e2;rw [e1] at e2;cases e2;exact qEr e
  ·rename_i e1 e2;rw [e1] at e2;cases e2
  ·rename_i e1 e2;rw [e1] at e2;cases e2
  ·split at e
   ·rename_i xs ys e1 e2
    rw [e1] at e2;cases e2
    rw [if_pos rfl] at e
    obtain ⟨bs,eb,rfl⟩:=Option.map_eq_some_iff.mp e
    exact qBj (qDb n) xs bs eb
   ·rename_i e1 e2;rw [e1] at e2;cases e2
   ·rename_i e1 e2;rw [e1] at e2;cases e2
   ·split at e
    ·rename_i xs ys e1 e2
     rw [e1] at e2;cases e2
     rw [if_pos rfl] at e
     obtain ⟨bs,eb,rfl⟩:=Option.map_eq_some_iff.mp e
     exact qBj (qDb n) xs bs eb
    ·cases e
theorem qCM {f:T -> T -> Option Bool} {g:V -> V -> Option Bool} (hf:∀ s t x y b,Rep A X h s x -> Rep A X h t y -> f s t=some b -> g x y=some b):∀ {ss ts:List T} {xs ys:List V} {bs:List Bool},qAM A X h ss xs -> qAM A X h ts ys -> qBH f ss ts=some bs -> qCm g xs ys=some bs
 | [],[],xs,ys,bs,r1,r2,e=>by unfold qAM at r1 r2;subst r1 r2;exact e
 | [],t::ts,xs,ys,bs,r1,r2,e=>by cases e
 | s::ss,[],xs,ys,bs,r1,r2,e=>by cases e
 | s::ss,t::ts,xs,ys,bs,r1,r2,e=>by
  unfold qAM at r1 r2
  obtain ⟨x,xs',rfl,a1,a2⟩:=r1
  obtain ⟨y,ys',rfl,b1,b2⟩:=r2
  unfold qBH at e
  split at e
  ·rename_i b bs' e1 e2
   cases e
   unfold qCm
   rw [hf s t x y b a1 b1 e1,qCM hf a2 b2 e2]
  ·cases e
theorem qDZ {x w:V} (r:Rep A X h (.v x) w):flat x=true:=by unfold Rep at r;exact r.2
theorem qEl (R:RelM gl A X h M) {t:T} {a:Nat} (r:Rep A X h t (.ref a)) (hs:(t.its M).isSome=true):(items h a).isSome=true:=by
 cases t with
 | v x=>unfold Rep at r;exact (qBD r.2 r.1).elim
 | cell n=>unfold Rep at r;obtain ⟨b,eb,e⟩:=r;cases e;obtain ⟨_,_,_,q,_⟩:=R.at_ n _ eb;unfold items;rw [q];rfl
 | fz xs=>unfold Rep at r;obtain ⟨b,vs,e,_,q,_⟩:=r;cases e;unfold items;rw [q];rfl
 | lst xs=>unfold Rep at r;obtain ⟨b,vs,e,_,q,_⟩:=r;cases e;unfold items;rw [q];rfl
 | tup xs=>unfold Rep at r;obtain ⟨b,vs,e,_,q,_⟩:=r;cases e;unfold items;rw [q];rfl
 | ob o=>cases hs
theorem qEz {t:T} {w:V} {ts:List T} (r:Rep A X h t w) (e1:t.isV=none) (e2:t.lis M=none) (e:t.its M=some ts):∃ a vs,w=.ref a/\h[a]?=some (.tup vs)/\qAM A X h ts vs:=by
 cases t with
 | v x=>cases e1
 | cell n=>have z:M[n]?=some ts:=e;have z2:M[n]?=none:=e2;rw [z] at z2;cases z2
 | fz xs=>cases e2
 | lst xs=>cases e2
 | tup xs=>unfold Rep at r;obtain ⟨b,vs,e',_,q,k⟩:=r;cases e;exact ⟨b,vs,e',q,k⟩
 | ob o=>cases e
theorem qHe {n:Nat} {x y:V} (fx:flat x=true) (fy:flat y=true):eqD h (n + 1) x y=eqF x y:=by
 cases x<;>cases y<;>first | rfl | (simp [flat] at fx;done) | (simp [flat] at fy;done)
theorem qD7 (R:RelM gl A X h M):∀ (n:Nat) (s t:T) (x y:V) (b:Bool),Rep A X h s x -> Rep A X h t y -> eqT M n s t=some b -> eqD h n x y=some b
 | 0,s,t,x,y,b,r1,r2,e=>by
  unfold eqT at e
  split at e
  ·rename_i x' y' e1 e2
   cases qAb e1;cases qAb e2;cases qAs r1;cases qAs r2
   unfold eqD;exact e
  ·cases e
 | n + 1,s,t,x,y,b,r1,r2,e=>by
  unfold eqT at e
  split at e
  ·rename_i x' y' e1 e2
   cases qAb e1;cases qAb e2;cases qAs r1;cases qAs r2
   rw [qHe (qDZ r1) (qDZ r2)];exact e
  ·rename_i x' e1 e2
   cases qAb e1;cases qAs r1
   obtain ⟨c,rfl⟩:=qBx e2 r2
   have fx:=qDZ r1
   split at e<;>cases e
   rename_i hz
   have:=qEl R r2 hz
   cases x<;>first | (unfold eqD;simp [flat,this];done) | (simp [flat] at fx;done)
  ·rename_i y' e1 e2
   cases qAb e2;cases qAs r2
   obtain ⟨c,rfl⟩:=qBx e1 r1
   have fx:=qDZ r2
   split at e<;>cases e
   rename_i hz
   have:=qEl R r1 hz
   cases y<;>first | (unfold eqD;simp [flat,this];done) | (simp [flat] at fx;done)
  ·rename_i e1 e2
   obtain ⟨c,rfl⟩:=qBx e1 r1
   obtain ⟨d,rfl⟩:=qBx e2 r2
   have same:c=d -> b=true:=by
    rintro rfl
    have:=qHH R.nd R.sub s t r1 r2
    subst this
    refine qDb (M:=M) (n + 1) s b ?_
    unfold eqT
    rw [e1]
    exact e
   split at e
   ·rename_i xs ys l1 l2
    obtain ⟨_,vs,f1,q1,k1,m1⟩:=qA9 R r1 l1;cases q1
    obtain ⟨_,us,f2,q2,k2,m2⟩:=qA9 R r2 l2;cases q2
    unfold eqD
    rw [k1,k2]
    dsimp only
    by_cases hcd:c=d
    ·rw [if_pos hcd,same hcd]
    ·rw [if_neg hcd,<- qAC (reps_iff.mp m1),<- qAC (reps_iff.mp m2)]
     split at e
     ·rename_i hl
      rw [if_pos hl]
      obtain ⟨bs,eb,rfl⟩:=Option.map_eq_some_iff.mp e
      rw [qCM (fun s t x y b a1 a2 a3=>qD7 R n s t x y b a1 a2 a3) m1 m2 eb]
      rfl
     ·rename_i hl
      rw [if_neg hl];exact e
   ·rename_i l1 l2
    obtain ⟨_,vs,f1,q1,k1,m1⟩:=qA9 R r1 l1;cases q1
    split at e<;>cases e
    rename_i z
    cases ei:t.its M with
    | none=>rw [ei] at z;cases z
    | some ys=>
     obtain ⟨_,us,q2,k2,m2⟩:=qEz r2 e2 l2 ei;cases q2
     unfold eqD
     rw [k1,k2]
   ·rename_i l1 l2
    obtain ⟨_,vs,f1,q1,k1,m1⟩:=qA9 R r2 l2;cases q1
    split at e<;>cases e
    rename_i z
    cases ei:s.its M with
    | none=>rw [ei] at z;cases z
    | some ys=>
     obtain ⟨_,us,q2,k2,m2⟩:=qEz r1 e1 l1 ei;cases q2
     unfold eqD
     rw [k1,k2]
   ·rename_i l1 l2
    split at e
    ·rename_i xs ys i1 i2
     obtain ⟨_,vs,q1,k1,m1⟩:=qEz r1 e1 l1 i1;cases q1
     obtain ⟨_,us,q2,k2,m2⟩:=qEz r2 e2 l2 i2;cases q2
     unfold eqD
     rw [k1,k2]
     dsimp only
     by_cases hcd:c=d
     ·rw [if_pos hcd,same hcd]
     ·rw [if_neg hcd,<- qAC (reps_iff.mp m1),<- qAC (reps_iff.mp m2)]
      split at e
      ·rename_i hl
       rw [if_pos hl]
       obtain ⟨bs,eb,rfl⟩:=Option.map_eq_some_iff.mp e
       rw [qCM (fun s t x y b a1 a2 a3=>qD7 R n s t x y b a1 a2 a3) m1 m2 eb]
       rfl
      ·rename_i hl
       rw [if_neg hl]
       obtain ⟨bs,eb,rfl⟩:=Option.map_eq_some_iff.mp e
       rw [qCM (fun s t x y b a1 a2 a3=>qD7 R n s t x y b a1 a2 a3) (reps_iff.mpr (qBr _ (reps_iff.mp m1))) (reps_iff.mpr (qBr _ (reps_iff.mp m2))) eb]
       rfl
    ·cases e
theorem qEX (R:RelM gl A X h M) {op:COp} {s t:T} {x y:V} {b:Bool} (r1:Rep A X h s x) (r2:Rep A X h t y) (e:qAp M op s t=some b):qMH op x y h=some b:=by
 cases op with
 | eq=>exact qD7 R 4 s t x y b r1 r2 e
 | ne=>
  obtain ⟨c,ec,rfl⟩:=Option.map_eq_some_iff.mp (show (eqT M 4 s t).map (!·)=some b from e)
  show (eqD h 4 x y).map (!·)=_
  rw [qD7 R 4 s t x y c r1 r2 ec];rfl
 | inn=>cases e
 | notin=>cases e
 | is=>
  unfold qAp at e;dsimp only at e
  split at e
  ·rename_i e2
   cases qAb e2;cases qAs r2
   cases e
   show some (decide (x=V.non))=_
   cases hs:s.isV with
   | none=>obtain ⟨a,rfl⟩:=qBx hs r1;rfl
   | some z=>cases qAb hs;cases qAs r1;cases x<;>rfl
  ·rename_i e2
   cases qAb e2;cases qAs r2
   split at e
   ·rename_i e3
    cases qAb e3;cases qAs r1
    exact e
   ·cases e
  ·cases e
 | isnot=>
  unfold qAp at e;dsimp only at e
  split at e
  ·rename_i e2
   cases qAb e2;cases qAs r2
   cases e
   show some (!decide (x=V.non))=_
   cases hs:s.isV with
   | none=>obtain ⟨a,rfl⟩:=qBx hs r1;rfl
   | some z=>cases qAb hs;cases qAs r1;cases x<;>rfl
  ·rename_i e2
   cases qAb e2;cases qAs r2
   split at e
   ·rename_i e3
    cases qAb e3;cases qAs r1
    exact e
   ·cases e
  ·cases e
 | lt=>unfold qAp at e;dsimp only at e;split at e<;>first | (rename_i e1 e2;cases qAb e1;cases qAb e2;cases qAs r1;cases qAs r2;exact e) | cases e
 | le=>unfold qAp at e;dsimp only at e;split at e<;>first | (rename_i e1 e2;cases qAb e1;cases qAb e2;cases qAs r1;cases qAs r2;exact e) | cases e
 | gt=>unfold qAp at e;dsimp only at e;split at e<;>first | (rename_i e1 e2;cases qAb e1;cases qAb e2;cases qAs r1;cases qAs r2;exact e) | cases e
 | ge=>unfold qAp at e;dsimp only at e;split at e<;>first | (rename_i e1 e2;cases qAb e1;cases qAb e2;cases qAs r1;cases qAs r2;exact e) | cases e
theorem qES:∀ {ts:List T} {vs:List V} {is:List Int},qAM A X h ts vs -> qBB ts=some is -> qBe vs=some is
 | [],vs,xs,r,e=>by unfold qAM at r;subst r;cases e;rfl
 | t::ts,vs,xs,r,e=>by
  unfold qAM at r
  obtain ⟨v,vs',rfl,a,b⟩:=r
  unfold qBB at e
  split at e
  ·rename_i e';cases e'
  ·rename_i e';cases e'
   obtain ⟨xs',e',rfl⟩:=Option.map_eq_some_iff.mp e
   cases qAs a
   show (qBe vs').map _=_
   rw [qES b e'];rfl
  ·cases e
theorem qEg:∀ {ts:List T} {vs:List V} {is:List Int},qAM A X h ts vs -> qBk ts=some is -> qBO vs=some is
 | [],vs,xs,r,e=>by unfold qAM at r;subst r;cases e;rfl
 | t::ts,vs,xs,r,e=>by
  unfold qAM at r
  obtain ⟨v,vs',rfl,a,b⟩:=r
  unfold qBk at e
  split at e
  ·rename_i e';cases e'
  ·rename_i e';cases e'
   obtain ⟨xs',e',rfl⟩:=Option.map_eq_some_iff.mp e
   cases qAs a
   show (qBO vs').map _=_
   rw [qEg b e'];rfl
  ·rename_i e';cases e'
   obtain ⟨xs',e',rfl⟩:=Option.map_eq_some_iff.mp e
   cases qAs a
   show (qBO vs').map _=_
   rw [qEg b e'];rfl
  ·cases e
theorem qDO:∀ {ts:List T} {vs:List V} {is:List Bool},qAM A X h ts vs -> qAt ts=some is -> qBl vs=some is
 | [],vs,xs,r,e=>by unfold qAM at r;subst r;cases e;rfl
 | t::ts,vs,xs,r,e=>by
  unfold qAM at r
  obtain ⟨v,vs',rfl,a,b⟩:=r
  unfold qAt at e
  split at e
  ·rename_i e';cases e'
  ·rename_i e';cases e'
   obtain ⟨xs',e',rfl⟩:=Option.map_eq_some_iff.mp e
   cases qAs a
   show (qBl vs').map _=_
   rw [qDO b e'];rfl
  ·cases e
theorem qCl {t:T} {ws:List V} (r:qAM A X h [t] ws):∃ w,ws=[w]/\Rep A X h t w:=by
 unfold qAM at r;obtain ⟨v,vs,rfl,a,b⟩:=r;unfold qAM at b;subst b;exact ⟨v,rfl,a⟩
theorem qKK {s t:T} {ws:List V} (r:qAM A X h [s,t] ws):∃ w u,ws=[w,u]/\Rep A X h s w/\Rep A X h t u:=by
 unfold qAM at r;obtain ⟨v,vs,rfl,a,b⟩:=r;obtain ⟨u,rfl,c⟩:=qCl b;exact ⟨v,u,rfl,a,c⟩
theorem qAQ {a:Nat} {f:Bool} {vs:List V} (e:h[a]?=some (.lst f vs)):qAJ h a=some vs:=by unfold qAJ;rw [e]
theorem qDK (R:RelM gl A X h M) {t:T} {w:V} {n:Nat} (r:Rep A X h t w):Sim gl A X h (QE gl A X n) (.ok ((t,t.lf),M)) (.ok (w,h)):=
 ⟨w,h,rfl,Frm.refl A h,R,r,fun e=>Frs.of_lf R r e⟩
theorem qCL {f:T -> Option PySem.PyData} {g:V -> Option PySem.PyData} (hf:∀ t w d,f t=some d -> Rep A X h t w -> g w=some d):∀ (ts:List T) (ws:List V) (ds:List PySem.PyData),qBp f ts=some ds -> qAM A X h ts ws -> qEx g ws=some ds
 | [],ws,ds,e,r=>by
  unfold qAM at r;subst r;exact e
 | t::ts,ws,ds,e,r=>by
  unfold qAM at r
  obtain ⟨w,ws',rfl,r1,r2⟩:=r
  unfold qBp at e
  obtain ⟨d,e1,e⟩:=Option.bind_eq_some_iff.mp e
  obtain ⟨ds',e2,rfl⟩:=Option.map_eq_some_iff.mp e
  unfold qEx
  rw [hf t w d e1 r1,Option.bind_some,qCL hf ts ws' ds' e2 r2];rfl
theorem qE5 {h:AH} {n:Nat} {x:V} {d:PySem.PyData} (e:qHM x=some d):dat h n x=some d:=by
 cases n with
 | zero=>exact e
 | succ n=>cases x<;>first | exact e | cases e
theorem qC6 (R:RelM gl A X h M):∀ (n:Nat) (t:T) (w:V) (d:PySem.PyData),qEJ M n t=some d -> Rep A X h t w -> dat h n w=some d
 | 0,t,w,d,e,r=>by
  unfold qEJ at e
  split at e
  ·cases qAs r;exact qE5 e
  ·cases e
 | n + 1,t,w,d,e,r=>by
  have ls:∀ (ts:List T),t.lis M=some ts -> (qBp (qEJ M n) ts).map PySem.PyData.list=some d -> dat h (n + 1) w=some d:=fun ts hl e=>by
   obtain ⟨ds,e1,rfl⟩:=Option.map_eq_some_iff.mp e
   obtain ⟨a,vs,f,rfl,q1,q2⟩:=qA9 R r hl
   show (match h[a]? with | some (.lst _ xs)=>(qEx (dat h n) xs).map PySem.PyData.list | some (.tup xs)=>(qEx (dat h n) xs).map PySem.PyData.tuple | _=>none)=_
   rw [q1]
   dsimp only
   rw [qCL (qC6 R n) ts vs ds e1 q2];rfl
  unfold qEJ at e
  split at e
  ·cases qAs r;exact qE5 e
  ·rename_i ts
   obtain ⟨ds,e1,rfl⟩:=Option.map_eq_some_iff.mp e
   unfold Rep at r
   obtain ⟨a,vs,rfl,q1,q2,q3⟩:=r
   show (match h[a]? with | some (.lst _ xs)=>(qEx (dat h n) xs).map PySem.PyData.list | some (.tup xs)=>(qEx (dat h n) xs).map PySem.PyData.tuple | _=>none)=_
   rw [q2]
   dsimp only
   rw [qCL (qC6 R n) ts vs ds e1 q3];rfl
  ·exact ls _ rfl e
  ·exact ls _ rfl e
  ·obtain ⟨ts,e1,e2⟩:=Option.bind_eq_some_iff.mp e
   exact ls ts e1 e2
  ·cases e
theorem qJA {n:Nat} {w:V} {d:PySem.PyData} (e:dat h 3 w=some d):qHK h w=some d:=by
 unfold qHK
 split
 ·split
  ·rename_i ey
   unfold dat at e
   dsimp only at e
   rw [ey] at e
   cases e
  ·exact e
 ·rename_i hn
  unfold dat at e
  split at e
  ·exact absurd rfl (hn _)
  ·exact e
theorem qHd (R:RelM gl A X h M) (t:T) (w:V) (d:PySem.PyData) (e:qFT M t=some d) (r:Rep A X h t w):qHK h w=some d:=by
 unfold qFT at e
 split at e
 ·cases e
  unfold Rep at r
  obtain ⟨a,rfl,_,q⟩:=r
  unfold qHK
  dsimp only
  rw [q]
 ·exact qJA (n:=0) (qC6 R 3 _ w d e r)
theorem qHb (R:RelM gl A X h M) (t:T) (w:V) (d:PySem.PyData) (e:qGZ M t=some d) (r:Rep A X h t w):qKD h w=some d:=by
 unfold qGZ at e
 split at e
 ·obtain ⟨ds,e1,rfl⟩:=Option.map_eq_some_iff.mp e
  unfold Rep at r
  obtain ⟨a,vs,rfl,_,q,rr⟩:=r
  unfold qKD
  dsimp only
  rw [q]
  dsimp only
  rw [qCL (qHd R) _ vs ds e1 rr];rfl
 ·cases e
  unfold Rep at r
  obtain ⟨a,rfl,_,q⟩:=r
  unfold qKD
  dsimp only
  rw [q]
 ·have e2:=qC6 R 4 _ w d e r
  unfold qKD
  split
  ·split
   ·rename_i ey
    unfold dat at e2
    dsimp only at e2
    rw [ey] at e2
    dsimp only at e2
    rename_i ht _ _ a _ xs
    exfalso
    cases t with
    | v x=>unfold Rep at r;exact qBD r.2 r.1
    | cell n=>unfold Rep at r;obtain ⟨b,eb,e⟩:=r;cases e;obtain ⟨_,_,_,q,_⟩:=R.at_ n _ eb;rw [ey] at q;cases q
    | fz xs=>unfold Rep at r;obtain ⟨b,vs,e,_,q,_⟩:=r;cases e;rw [ey] at q;cases q
    | lst xs=>unfold Rep at r;obtain ⟨b,vs,e,_,q,_⟩:=r;cases e;rw [ey] at q;cases q
    | tup ts=>exact ht _ rfl
    | ob o=>unfold Rep at r;obtain ⟨b,e,_,q⟩:=r;cases e;rw [ey] at q;cases q
   ·rename_i ey
    unfold dat at e2
    dsimp only at e2
    rw [ey] at e2
    cases e2
   ·exact e2
  ·rename_i hn
   unfold dat at e2
   split at e2
   ·exact absurd rfl (hn _)
   ·exact e2
theorem qJp (R:RelM gl A X h M) {f:BF} {ts:List T} {ws:List V} {r:TB} (rs:qAM A X h ts ws) (e:qBz M f ts=some r):Sim gl A X h (QE gl A X h.length) (.ok (r,M)) (qMC f ws h):=by
 cases f with
 | len=>
  replace e:=qA1 e
  obtain ⟨t0,rfl,e⟩:=e
  obtain ⟨w,rfl,rw_⟩:=qCl rs
  obtain ⟨xs,ex,rfl⟩:=Option.map_eq_some_iff.mp e
  obtain ⟨a,vs,rfl,q1,q2⟩:=qIV R rw_ ex
  show Sim _ _ _ _ _ _ (match items h a with | some xs=>_ | none=>_)
  rw [q1,qAC (reps_iff.mp q2)]
  exact qAF R rfl
 | sum=>
  replace e:=qA1 e
  obtain ⟨t0,rfl,e⟩:=e
  obtain ⟨w,rfl,rw_⟩:=qCl rs
  obtain ⟨xs,ex,e⟩:=Option.bind_eq_some_iff.mp e
  obtain ⟨is,ei,rfl⟩:=Option.map_eq_some_iff.mp e
  obtain ⟨a,vs,f,rfl,q1,q2⟩:=qA9 R rw_ ex
  show Sim _ _ _ _ _ _ (match qAJ h a with | some xs=>_ | none=>_)
  rw [qAQ q1]
  dsimp only
  rw [qEg q2 ei]
  exact qAF R rfl
 | all=>
  replace e:=qA1 e
  obtain ⟨t0,rfl,e⟩:=e
  obtain ⟨w,rfl,rw_⟩:=qCl rs
  obtain ⟨xs,ex,e⟩:=Option.bind_eq_some_iff.mp e
  obtain ⟨is,ei,rfl⟩:=Option.map_eq_some_iff.mp e
  obtain ⟨a,vs,f,rfl,q1,q2⟩:=qA9 R rw_ ex
  show Sim _ _ _ _ _ _ (match qAJ h a with | some xs=>_ | none=>_)
  rw [qAQ q1]
  dsimp only
  rw [qDO q2 ei]
  exact qAF R rfl
 | any=>
  replace e:=qA1 e
  obtain ⟨t0,rfl,e⟩:=e
  obtain ⟨w,rfl,rw_⟩:=qCl rs
  obtain ⟨xs,ex,e⟩:=Option.bind_eq_some_iff.mp e
  obtain ⟨is,ei,rfl⟩:=Option.map_eq_some_iff.mp e
  obtain ⟨a,vs,f,rfl,q1,q2⟩:=qA9 R rw_ ex
  show Sim _ _ _ _ _ _ (match qAJ h a with | some xs=>_ | none=>_)
  rw [qAQ q1]
  dsimp only
  rw [qDO q2 ei]
  exact qAF R rfl
 | max=>
  replace e:=twoT_inv e
  obtain ⟨i,j,rfl,e⟩:=e
  obtain ⟨w,u,rfl,a,b⟩:=qKK rs;cases qAs a;cases qAs b;cases e;exact qAF R rfl
 | min=>
  replace e:=twoT_inv e
  obtain ⟨i,j,rfl,e⟩:=e
  obtain ⟨w,u,rfl,a,b⟩:=qKK rs;cases qAs a;cases qAs b;cases e;exact qAF R rfl
 | bits=>
  replace e:=qA1 e
  obtain ⟨t0,rfl,e⟩:=e
  split at e
  ·obtain ⟨w,rfl,a⟩:=qCl rs;cases qAs a;cases e;exact qAF R rfl
  ·cases e
 | tuple=>
  replace e:=qA1 e
  obtain ⟨t0,rfl,e⟩:=e
  obtain ⟨w,rfl,rw_⟩:=qCl rs
  split at e
  ·cases e
   unfold Rep at rw_
   obtain ⟨a,vs,rfl,q1,q2,q3⟩:=rw_
   show Sim _ _ _ _ _ _ (match h[a]? with | some (.lst _ xs)=>_ | some (.tup _)=>_ | _=>_)
   rw [q2]
   exact qDK R (by unfold Rep;exact ⟨a,vs,rfl,q1,q2,q3⟩)
  ·obtain ⟨xs,ex,rfl⟩:=Option.map_eq_some_iff.mp e
   obtain ⟨a,vs,f,rfl,q1,q2⟩:=qA9 R rw_ ex
   show Sim _ _ _ _ _ _ (match h[a]? with | some (.lst _ xs)=>_ | some (.tup _)=>_ | _=>_)
   rw [q1]
   exact qDT R q2 fun e=>Frss.of_lf R q2 e
 | int=>
  replace e:=qA1 e
  obtain ⟨t0,rfl,e⟩:=e
  split at e
  ·obtain ⟨w,rfl,a⟩:=qCl rs;cases qAs a;cases e;exact qAF R rfl
  ·obtain ⟨w,rfl,a⟩:=qCl rs;cases qAs a;cases e;exact qAF R rfl
  ·cases e
 | repr=>
  replace e:=qA1 e
  obtain ⟨t0,rfl,e⟩:=e
  obtain ⟨w,rfl,rw_⟩:=qCl rs
  obtain ⟨v,e0,rfl⟩:=Option.map_eq_some_iff.mp e
  obtain ⟨d,e1,e2⟩:=Option.bind_eq_some_iff.mp e0
  have e3:=qHb R t0 w d e1 rw_
  show Sim _ _ _ _ _ _ (qMK h w)
  unfold qMK
  rw [e3,Option.bind_some,e2]
  unfold qFa at e2
  split at e2
  ·cases e2;exact qAF R rfl
  ·cases e2
theorem qHl (R:RelM gl A X h M) {t:T} {w:V} {s:String} (r:Rep A X h t w) (e:qAX M t=some s):qBK h w=some s:=by
 cases t with
 | v x=>cases qAs r;cases w<;>first | exact e | (cases e;done)
 | cell n=>unfold Rep at r;obtain ⟨a,ea,rfl⟩:=r;obtain ⟨ts,vs,e1,e2,_⟩:=R.at_ n a ea;unfold qAX at e;dsimp only at e;rw [e1] at e;cases e;unfold qBK;dsimp only;rw [e2]
 | fz xs=>unfold Rep at r;obtain ⟨a,vs,rfl,_,q,_⟩:=r;cases e;unfold qBK;dsimp only;rw [q]
 | lst xs=>unfold Rep at r;obtain ⟨a,vs,rfl,_,q,_⟩:=r;cases e;unfold qBK;dsimp only;rw [q]
 | tup xs=>unfold Rep at r;obtain ⟨a,vs,rfl,_,q,_⟩:=r;cases e;unfold qBK;dsimp only;rw [q]
 | ob o=>cases o with
  | dct=>unfold Rep at r;obtain ⟨a,rfl,_,q⟩:=r;cases e;unfold qBK;dsimp only;rw [q]
  | exn c=>cases e
theorem qD2 {ts:List T} {vs:List V} {lo hi:Option Int} (r:qAM A X h ts vs):qAM A X h (qBn ts lo hi) (L2.cutV vs lo hi):=by
 have l:=qAC (reps_iff.mp r)
 unfold qBn L2.cutV
 rw [l]
 exact reps_iff.mpr (qBr _ (qED _ (reps_iff.mp r)))
end
end PI
namespace PI
open L2 (V)
noncomputable def qKG (A X:List Nat) (h:AH):Option T -> Option V -> Prop
 | none,_=>True
 | some t,some w=>Rep A X h t w
 | some _,none=>False
noncomputable abbrev qBZ (A X:List Nat) (h:AH):TS -> List (Option V) -> Prop:=qB1 (qKG A X h)
section
variable {gl:List T} {A X:List Nat} {h h':AH} {M M':Mem} {σ:TS} {σh:List (Option V)}
theorem qEu {i:Nat} {t:T} (r:qBZ A X h σ σh) (e:σ[i]?=some (some t)):∃ w,σh[i]?=some (some w)/\Rep A X h t w:=by
 obtain ⟨o,e1,q⟩:=qAq r e
 cases o with
 | none=>exact q.elim
 | some w=>exact ⟨w,e1,q⟩
theorem qBU {A' X':List Nat} (hc:∀ (n:Nat) a,A[n]?=some a -> A'[n]?=some a) (hn:∀ a o,a∉X -> h[a]?=some o -> a∉X'/\h'[a]?=some o) (r:qBZ A X h σ σh):qBZ A' X' h' σ σh:=
 qDj (fun x y q=>by
  cases x with
  | none=>trivial
  | some t=>cases y with
   | none=>exact q.elim
   | some w=>exact qAv hc hn t q) r
theorem RelM.keepS (R:RelM gl A X h M) (f:Frm A h h') (r:qBZ A X h σ σh):qBZ A X h' σ σh:=qBU (fun _ _ e=>e) (R.keepN f) r
theorem qB7 (r:qBZ A X h σ σh):∀ src:List (Option Nat),qBZ A X h (qCI src σ) (L2.inner src σh)
 | []=>rfl
 | none::src=>⟨none,_,rfl,trivial,qB7 r src⟩
 | some j::src=>by
  refine ⟨(σh[j]?).join,_,rfl,?_,qB7 r src⟩
  show qKG A X h (σ[j]?).join _
  cases hj:σ[j]? with
  | none=>trivial
  | some o=>cases o with
   | none=>trivial
   | some t=>
    obtain ⟨w,e1,q⟩:=qEu r hj
    rw [e1]
    exact q
theorem qHD:∀ {is:List Nat} {ts:List T} {ws:List V} {σ σ1:TS} {σh:List (Option V)},qKj is ts σ=some σ1 -> qAM A X h ts ws -> qBZ A X h σ σh -> ∃ σh1,qCw is ws σh=some σh1/\qBZ A X h σ1 σh1
 | [],[],ws,σ,σ1,σh,e,r,rs=>by unfold qAM at r;subst r;cases e;exact ⟨σh,rfl,rs⟩
 | [],t::ts,ws,σ,σ1,σh,e,r,rs=>by cases e
 | i::is,[],ws,σ,σ1,σh,e,r,rs=>by cases e
 | i::is,t::ts,ws,σ,σ1,σh,e,r,rs=>by
  unfold qAM at r
  obtain ⟨w,ws',rfl,a,b⟩:=r
  exact qHD (is:=is) (show qKj is ts (σ.set i (some t))=some σ1 from e) b (qBV i rs (show qKG A X h (some t) (some w) from a))
theorem qBv {g:Tg} {t:T} {w:V} {σ1:TS} (e:qBI g t σ=some σ1) (r:Rep A X h t w) (rs:qBZ A X h σ σh):∃ σh1,store g w σh h=some σh1/\qBZ A X h σ1 σh1:=by
 cases g with
 | name i=>cases e;exact ⟨σh.set i (some w),rfl,qBV i rs (show qKG A X h (some t) (some w) from r)⟩
 | tup is=>
  cases t with
  | tup ts=>
   unfold Rep at r
   obtain ⟨a,vs,rfl,_,q,k⟩:=r
   obtain ⟨σh1,e1,r1⟩:=qHD (show qKj is ts σ=some σ1 from e) k rs
   refine ⟨σh1,?_,r1⟩
   show (match qAU h a with | some xs=>_ | none=>_)=_
   rw [show qAU h a=some vs by unfold qAU;rw [q]]
   exact e1
  | _=>cases e
theorem qCY:∀ (i:Nat) (ts:List T),(qDs i ts).length=ts.length
 | _,[]=>rfl
 | i,t::ts=>by rw [qDs,List.length_cons,List.length_cons,qCY]
theorem qDu:∀ (i j:Nat) (ts:List T),(qDs i ts)[j]?=(ts[j]?).map fun t=>T.tup [.v (.int ((i + j:Nat):Int)),t]
 | _,_,[]=>by simp [qDs]
 | i,0,t::ts=>by simp [qDs]
 | i,j + 1,t::ts=>by
  rw [qDs,List.getElem?_cons_succ,List.getElem?_cons_succ,qDu (i + 1) j ts]
  rw [show i + 1 + j=i + (j + 1) by omega]
inductive qB0 (A X:List Nat) (h:AH):Src -> List T -> qCy -> Prop
 | list (a f vs ts):a∉X -> h[a]?=some (.lst f vs) -> qAM A X h ts vs -> qB0 A X h (.list a) ts []
 | cell (n a vs ts):A[n]?=some a -> h[a]?=some (.lst false vs) -> qAM A X h ts vs -> qB0 A X h (.list a) ts [(n,ts)]
 | tupl (a vs ts):a∉X -> h[a]?=some (.tup vs) -> qAM A X h ts vs -> qB0 A X h (.tupl a) ts []
 | rng (lo n):qB0 A X h (.rng lo n) (qAf lo n) []
 | rngd (lo n):qB0 A X h (.rngd lo n) (qBy lo n) []
 | enum (a ts d):qB0 A X h (.list a) ts d -> qB0 A X h (.enum a) (qDs 0 ts) d
 | rvd (a ts d):qB0 A X h (.list a) ts d -> qB0 A X h (.rvd a ts.length) ts.reverse d
 | zip (a b ts us d1 d2):qB0 A X h (.list a) ts d1 -> qB0 A X h (.list b) us d2 -> qB0 A X h (.zip a b) (List.zipWith (fun x y=>T.tup [x,y]) ts us) (d1++d2)
theorem qBX {d1 d2:qCy} (e:qAk (d1++d2) M=true):qAk d1 M=true/\qAk d2 M=true:=by
 unfold qAk at e ⊢
 rw [List.all_append,Bool.and_eq_true] at e
 exact e
theorem qGE {s:Src} {ts:List T} {d:qCy} (r:qB0 A X h s ts d) (hn:∀ a o,a∉X -> h[a]?=some o -> h'[a]?=some o) (R:RelM gl A X h' M') (hd:qAk d M'=true):qB0 A X h' s ts d:=by
 induction r with
 | list a f vs ts q1 q2 q3=>exact .list a f vs ts q1 (hn _ _ q1 q2) (qAL (fun _ _ e=>e) (fun a o x y=>⟨x,hn a o x y⟩) ts q3)
 | cell n a vs ts q1 q2 q3=>
  obtain ⟨ts',vs',e1,e2,e3⟩:=R.at_ n a q1
  unfold qAk at hd
  simp only [List.all_cons,List.all_nil,Bool.and_true] at hd
  rw [e1] at hd
  have:=qB2 _ _ hd
  subst this
  exact .cell n a vs' ts' q1 e2 e3
 | tupl a vs ts q1 q2 q3=>exact .tupl a vs ts q1 (hn _ _ q1 q2) (qAL (fun _ _ e=>e) (fun a o x y=>⟨x,hn a o x y⟩) ts q3)
 | rng lo n=>exact .rng lo n
 | rngd lo n=>exact .rngd lo n
 | enum a ts d _ i1=>exact .enum a ts d (i1 hd)
 | rvd a ts d _ i1=>exact .rvd a ts d (i1 hd)
 | zip a b ts us d1 d2 _ _ i1 i2=>exact .zip a b ts us d1 d2 (i1 (qBX hd).1) (i2 (qBX hd).2)
theorem qCv {A' X':List Nat} {s:Src} {ts:List T} {d:qCy} (r:qB0 A X h s ts d) (hn:∀ a o,a∉X -> h[a]?=some o -> a∉X'/\h'[a]?=some o) (R:RelM gl A' X' h' M') (hd:qAk d M'=true) (hA:∀ (n:Nat) a,A[n]?=some a -> A'[n]?=some a:=by exact fun _ _ e=>e):qB0 A' X' h' s ts d:=by
 induction r with
 | list a f vs ts q1 q2 q3=>exact .list a f vs ts (hn _ _ q1 q2).1 (hn _ _ q1 q2).2 (qAL hA hn ts q3)
 | cell n a vs ts q1 q2 q3=>
  obtain ⟨ts',vs',e1,e2,e3⟩:=R.at_ n a (hA _ _ q1)
  unfold qAk at hd
  simp only [List.all_cons,List.all_nil,Bool.and_true] at hd
  rw [e1] at hd
  have:=qB2 _ _ hd
  subst this
  exact .cell n a vs' ts' (hA _ _ q1) e2 e3
 | tupl a vs ts q1 q2 q3=>exact .tupl a vs ts (hn _ _ q1 q2).1 (hn _ _ q1 q2).2 (qAL hA hn ts q3)
 | rng lo n=>exact .rng lo n
 | rngd lo n=>exact .rngd lo n
 | enum a ts d _ i1=>exact .enum a ts d (i1 hd)
 | rvd a ts d _ i1=>exact .rvd a ts d (i1 hd)
 | zip a b ts us d1 d2 _ _ i1 i2=>exact .zip a b ts us d1 d2 (i1 (qBX hd).1) (i2 (qBX hd).2)
theorem qAi {a:Nat} {ts:List T} {d:qCy} (r:qB0 A X h (.list a) ts d):∃ vs,qAJ h a=some vs/\qAM A X h ts vs:=by
 cases r with
 | list _ f vs _ q1 q2 q3=>exact ⟨vs,qAQ q2,q3⟩
 | cell n _ vs _ q1 q2 q3=>exact ⟨vs,qAQ q2,q3⟩
theorem qFF {s:Src} {ts:List T} {d:qCy} (r:qB0 A X h s ts d):qHB h s=some ts.length:=by
 cases r with
 | list a f vs ts q1 q2 q3=>show (qAJ h a).map _=_;rw [qAQ q2,Option.map_some,qAC (reps_iff.mp q3)]
 | cell n a vs ts q1 q2 q3=>show (qAJ h a).map _=_;rw [qAQ q2,Option.map_some,qAC (reps_iff.mp q3)]
 | tupl a vs ts q1 q2 q3=>show (qAU h a).map _=_;rw [show qAU h a=some vs by unfold qAU;rw [q2],Option.map_some,qAC (reps_iff.mp q3)]
 | rng lo n=>show some n=_;simp [qAf]
 | rngd lo n=>show some n=_;simp [qBy]
 | enum a ts d r1=>
  obtain ⟨vs,e1,k1⟩:=qAi r1
  show (qAJ h a).map _=_
  rw [e1,Option.map_some,qCY,qAC (reps_iff.mp k1)]
 | rvd a ts d r1=>show some _=_;simp
 | zip a b ts us d1 d2 r1 r2=>
  obtain ⟨vs,e1,k1⟩:=qAi r1
  obtain ⟨ws,e2,k2⟩:=qAi r2
  show (match qAJ h a,qAJ h b with | some xs,some ys=>_ | _,_=>_)=_
  rw [e1,e2,List.length_zipWith,qAC (reps_iff.mp k1),qAC (reps_iff.mp k2)]
theorem qDq {s:Src} {ts:List T} {d:qCy} (r:qB0 A X h s ts d):qBc h ts.length s=true:=by
 cases r with
 | list a f vs ts q1 q2 q3=>show (match qAJ h a with | some xs=>_ | none=>_)=_;rw [qAQ q2,qAC (reps_iff.mp q3)];simp
 | cell n a vs ts q1 q2 q3=>show (match qAJ h a with | some xs=>_ | none=>_)=_;rw [qAQ q2,qAC (reps_iff.mp q3)];simp
 | tupl a vs ts q1 q2 q3=>show (match qAU h a with | some xs=>_ | none=>_)=_;rw [show qAU h a=some vs by unfold qAU;rw [q2],qAC (reps_iff.mp q3)];simp
 | rng lo n=>show decide _=_;simp [qAf]
 | rngd lo n=>show decide _=_;simp [qBy]
 | enum a ts d r1=>
  obtain ⟨vs,e1,k1⟩:=qAi r1
  show (match qAJ h a with | some xs=>_ | none=>_)=_
  rw [e1,qCY,qAC (reps_iff.mp k1)];simp
 | rvd a ts d r1=>show decide _=_;simp
 | zip a b ts us d1 d2 r1 r2=>
  obtain ⟨vs,e1,k1⟩:=qAi r1
  obtain ⟨ws,e2,k2⟩:=qAi r2
  show (match qAJ h a,qAJ h b with | some xs,some ys=>_ | _,_=>_)=_
  rw [e1,e2,List.length_zipWith,qAC (reps_iff.mp k1),qAC (reps_iff.mp k2)]
  simp
  omega
theorem qC0 (R:RelM gl A X h M) {s:Src} {ts:List T} {d:qCy} (r:qB0 A X h s ts d) {i:Nat} {t:T} (ei:ts[i]?=some t):
  ∃ w e,qAa h i s=some (w,h++e)/\Rep A X (h++e) t w:=by
 cases r with
 | list a f vs ts q1 q2 q3=>
  obtain ⟨w,ew,q⟩:=qAq (reps_iff.mp q3) ei
  refine ⟨w,[],?_,by rw [List.append_nil];exact q⟩
  show (match qAJ h a with | some xs=>_ | none=>_)=_
  rw [qAQ q2];dsimp only;rw [ew,List.append_nil];rfl
 | cell n a vs ts q1 q2 q3=>
  obtain ⟨w,ew,q⟩:=qAq (reps_iff.mp q3) ei
  refine ⟨w,[],?_,by rw [List.append_nil];exact q⟩
  show (match qAJ h a with | some xs=>_ | none=>_)=_
  rw [qAQ q2];dsimp only;rw [ew,List.append_nil];rfl
 | tupl a vs ts q1 q2 q3=>
  obtain ⟨w,ew,q⟩:=qAq (reps_iff.mp q3) ei
  refine ⟨w,[],?_,by rw [List.append_nil];exact q⟩
  show (match qAU h a with | some xs=>_ | none=>_)=_
  rw [show qAU h a=some vs by unfold qAU;rw [q2]];dsimp only;rw [ew,List.append_nil];rfl
 | rng lo n=>
  have hi:i < n:=by have:=(List.getElem?_eq_some_iff.mp ei).1;simpa [qAf] using this
  refine ⟨.int (lo + (i:Int)),[],?_,?_⟩
  ·show (if i < n then _ else _)=_
   rw [if_pos hi,List.append_nil]
  ·have:t=.v (.int (lo + (i:Int))):=by
    simp only [qAf,List.getElem?_map,List.getElem?_range hi,Option.map_some,Option.some.injEq] at ei
    exact ei.symm
   rw [this]
   unfold Rep
   exact ⟨rfl,rfl⟩
 | rngd lo n=>
  have hi:i < n:=by have:=(List.getElem?_eq_some_iff.mp ei).1;simpa [qBy] using this
  refine ⟨.int (lo - (i:Int)),[],?_,?_⟩
  ·show (if i < n then _ else _)=_
   rw [if_pos hi,List.append_nil]
  ·have:t=.v (.int (lo - (i:Int))):=by
    simp only [qBy,List.getElem?_map,List.getElem?_range hi,Option.map_some,Option.some.injEq] at ei
    exact ei.symm
   rw [this]
   unfold Rep
   exact ⟨rfl,rfl⟩
 | enum a ts d r1=>
  obtain ⟨vs,e1,k1⟩:=qAi r1
  rw [qDu] at ei
  obtain ⟨x,ex,rfl⟩:=Option.map_eq_some_iff.mp ei
  obtain ⟨v,ev,qv⟩:=qAq (reps_iff.mp k1) ex
  refine ⟨.ref h.length,[.tup [.int (i:Int),v]],?_,?_⟩
  ·show (match qAJ h a with | some xs=>_ | none=>_)=_
   rw [e1];dsimp only;rw [ev];rfl
  ·have f:=Frm.app A h [O.tup [.int (i:Int),v]]
   unfold Rep
   refine ⟨_,[.int (i:Int),v],rfl,fun z=>Nat.lt_irrefl _ (R.lt _ z),by simp,?_⟩
   unfold qAM
   refine ⟨.int (i:Int),[v],rfl,by unfold Rep;rw [Nat.zero_add];exact ⟨rfl,rfl⟩,?_⟩
   unfold qAM
   exact ⟨v,[],rfl,R.keep f qv,by unfold qAM;rfl⟩
 | rvd a ts d r1=>
  obtain ⟨vs,e1,k1⟩:=qAi r1
  have hi:i < ts.length:=by have:=(List.getElem?_eq_some_iff.mp ei).1;simpa using this
  rw [List.getElem?_reverse hi] at ei
  obtain ⟨w,ew,q⟩:=qAq (reps_iff.mp k1) ei
  refine ⟨w,[],?_,by rw [List.append_nil];exact q⟩
  show (if i < ts.length then _ else _)=_
  rw [if_pos hi,e1];dsimp only;rw [ew,List.append_nil];rfl
 | zip a b ts us d1 d2 r1 r2=>
  obtain ⟨vs,e1,k1⟩:=qAi r1
  obtain ⟨ws,e2,k2⟩:=qAi r2
  rw [List.getElem?_zipWith] at ei
  cases et:ts[i]? with
  | none=>rw [et] at ei;cases ei
  | some x=>
   cases eu:us[i]? with
   | none=>rw [et,eu] at ei;cases ei
   | some y=>
    rw [et,eu] at ei
    cases ei
    obtain ⟨v,ev,qv⟩:=qAq (reps_iff.mp k1) et
    obtain ⟨w,ew,qw⟩:=qAq (reps_iff.mp k2) eu
    refine ⟨.ref h.length,[.tup [v,w]],?_,?_⟩
    ·show (match qAJ h a,qAJ h b with | some xs,some ys=>_ | _,_=>_)=_
     rw [e1,e2];dsimp only;rw [ev,ew]
    ·have f:=Frm.app A h [O.tup [v,w]]
     unfold Rep
     refine ⟨_,[v,w],rfl,fun z=>Nat.lt_irrefl _ (R.lt _ z),by simp,?_⟩
     unfold qAM
     refine ⟨v,[w],rfl,R.keep f qv,?_⟩
     unfold qAM
     exact ⟨w,[],rfl,R.keep f qw,by unfold qAM;rfl⟩
theorem RelM.setX (R:RelM gl A X h M) {D:Nat} (hD:D∈X) (hA:D∉A) (o:O):RelM gl A X (h.set D o) M:=by
 have hn:∀ a o',a∉X -> h[a]?=some o' -> a∉X/\(h.set D o)[a]?=some o':=fun a o' x y=>⟨x,by rw [List.getElem?_set_ne (by rintro rfl;exact x hD)];exact y⟩
 refine ⟨R.len,R.nd,R.sub,fun a ha=>by simpa using R.lt a ha,fun n a e=>?_,fun g t e=>qAv (fun _ _ e=>e) hn t (R.glo g t e)⟩
 obtain ⟨ts,vs,e1,e2,e3⟩:=R.at_ n a e
 exact ⟨ts,vs,e1,by rw [List.getElem?_set_ne (by rintro rfl;exact hA (List.mem_of_getElem? e))];exact e2,qAL (fun _ _ e=>e) hn ts e3⟩
theorem Sim.bindW {α β α2 β2:Type} {X':List Nat} {h1:AH} {Q:α -> β -> AH -> Mem -> Prop} {Q2:α2 -> β2 -> AH -> Mem -> Prop} {r:PR (α×Mem)} {rh:Res (β×AH)} {f:α×Mem -> PR (α2×Mem)} {g:β×AH -> Res (β2×AH)}
  (hX:∀ a∈X,a∈X') (hA:∀ a∈A,a∈X) (f0:Frm A h1 h)
  (s:Sim gl A X' h Q r rh) (k:∀ x M' y h',Frm A h h' -> RelM gl A X' h' M' -> Q x y h' M' -> Sim gl A X h1 Q2 (f (x,M')) (g (y,h'))):Sim gl A X h1 Q2 (r.bind f) (rh.bind g):=by
 cases r with
 | ok p=>
  obtain ⟨x,M'⟩:=p
  obtain ⟨y,h',rfl,f1,R1,q⟩:=s
  exact k x M' y h' f1 R1 q
 | exc c M'=>
  obtain ⟨h',rfl,f1,R1⟩:=s
  exact ⟨h',rfl,f0.trans f1,R1.weak hX hA⟩
 | stuck=>trivial
mutual
theorem qKr {X X':List Nat} {h:AH}:∀ (t:T) {w:V} {f g:List Nat},FP X h t w f -> FP X' h t w g -> f=g
 | .v x,w,f,g,p,q=>by unfold FP at p q;rw [p.2,q.2]
 | .cell n,w,f,g,p,q=>by unfold FP at p;exact p.elim
 | .fz ts,w,f,g,p,q=>by unfold FP at p;exact p.elim
 | .ob o,w,f,g,p,q=>by unfold FP at p q;rw [p.2,q.2]
 | .lst ts,w,f,g,p,q=>by
  unfold FP at p q
  obtain ⟨a,vs,f',rfl,_,e1,k1,rfl⟩:=p
  obtain ⟨b,us,g',e,_,e2,k2,rfl⟩:=q
  cases e;rw [e1] at e2;cases e2
  rw [qDM ts k1 k2]
 | .tup ts,w,f,g,p,q=>by
  unfold FP at p q
  obtain ⟨a,vs,rfl,_,e1,k1⟩:=p
  obtain ⟨b,us,e,_,e2,k2⟩:=q
  cases e;rw [e1] at e2;cases e2
  exact qDM ts k1 k2
theorem qDM {X X':List Nat} {h:AH}:∀ (ts:List T) {ws:List V} {f g:List Nat},FPs X h ts ws f -> FPs X' h ts ws g -> f=g
 | [],w,f,g,p,q=>by unfold FPs at p q;rw [p.2,q.2]
 | t::ts,w,f,g,p,q=>by
  unfold FPs at p q
  obtain ⟨v,vs,f1,f2,rfl,a,b,rfl⟩:=p
  obtain ⟨v',vs',g1,g2,e,a',b',rfl⟩:=q
  cases e
  rw [qKr t a a',qDM ts b b']
end
theorem qFD:∀ {ts:List T} {ws:List V} {fp f:List Nat} {t:T} {w:V},FPs X h ts ws fp -> FP X h t w f -> FPs X h (ts++[t]) (ws++[w]) (fp++f)
 | [],ws,fp,f,t,w,p,q=>by
  unfold FPs at p;obtain ⟨rfl,rfl⟩:=p
  show FPs X h [t] [w] f
  unfold FPs
  exact ⟨w,[],f,[],rfl,q,by unfold FPs;exact ⟨rfl,rfl⟩,by simp⟩
 | s::ts,ws,fp,f,t,w,p,q=>by
  unfold FPs at p
  obtain ⟨v,vs,f1,f2,rfl,a,b,rfl⟩:=p
  show FPs X h (s::(ts++[t])) (v::(vs++[w])) _
  unfold FPs
  exact ⟨v,vs++[w],f1,f2++f,rfl,a,qFD b q,by rw [List.append_assoc]⟩
end
section
variable {gl:List T} {A X:List Nat}
theorem qDP {s:Src} {its:List T} {d:qCy} {g:Tg} {c:TS -> Mem -> PR (Bool×Mem)} {c':List (Option V) -> AH -> Res (Bool×AH)} {e:TS -> Mem -> PR (TB×Mem)} {e':List (Option V) -> AH -> RV} {D:Nat} {h1:AH}
  (hc:∀ X h M σ σh,RelM gl A X h M -> qBZ A X h σ σh -> Sim gl A X h (fun b b' _ _=>b=b') (c σ M) (c' σh h))
  (he:∀ X h M σ σh,RelM gl A X h M -> qBZ A X h σ σh -> Sim gl A X h (QE gl A X h.length) (e σ M) (e' σh h))
  (hD:h1.length<=D) (hDX:D∉X) (hA:∀ a∈A,a∈X):∀ (r:List T) (i:Nat) (ys:List T) (ws:List V) (f:Bool) (fp:List Nat) (Y:List Nat) (σ:TS) (σh:List (Option V)) (M:Mem) (h:AH),
   its.drop i=r -> i<=its.length -> Y=D::X++fp -> Frm A h1 h -> RelM gl A Y h M -> qB0 A Y h s its d -> h[D]?=some (.lst false ws) -> qAM A (D::X) h ys ws ->
   (f=true -> FPs (D::X) h ys ws fp/\fp.Nodup/\∀ a∈fp,h1.length<=a) -> qBZ A Y h σ σh ->
   Sim gl A X h1 (QE gl A X h1.length) (qAm d g c e r ys f σ M) (qDp s g c' e' D r.length i ws σh h)
 | [],i,ys,ws,f,fp,Y,σ,σh,M,h,hr,hi,hY,fm,R,sr,eD,ry,hf,rs=>by
  have hi':i=its.length:=by
   have:=List.drop_eq_nil_iff.mp hr;omega
  subst hi'
  have hX:∀ a∈X,a∈D::X:=fun a z=>List.mem_cons_of_mem _ z
  have hXY:∀ a∈X,a∈Y:=fun a z=>by rw [hY];simp [z]
  have hn:∀ a o,a∉D::X -> h[a]?=some o -> a∉X/\h[a]?=some o:=fun a o x y=>⟨fun z=>x (hX _ z),y⟩
  refine ⟨.ref D,h,?_,fm,R.weak hXY hA,?_,fun e=>?_⟩
  ·show (if qBc h its.length s then _ else _)=_
   rw [if_pos (qDq sr)]
  ·show Rep A X h (.lst ys) _
   unfold Rep
   exact ⟨D,ws,rfl,hDX,eD,qAL (fun _ _ e=>e) hn ys ry⟩
  ·obtain ⟨p,nd,l⟩:=hf e
   refine ⟨fp++[D],?_,?_,?_,?_⟩
   ·show FP X h (.lst ys) _ _
    unfold FP
    exact ⟨D,ws,fp,rfl,hDX,eD,qBF hn ys p,rfl⟩
   ·rw [List.nodup_append]
    refine ⟨nd,by simp,?_⟩
    rintro a ha b hb rfl
    simp at hb
    exact (qB4 ys p a ha).1 (by rw [hb];exact List.mem_cons_self ..)
   ·intro a ha
    rcases List.mem_append.mp ha with z | z
    ·exact l a z
    ·simp at z;omega
   ·refine R.weak (fun a z=>?_) fun a z=>List.mem_append_left _ (hA a z)
    rw [hY]
    simp only [List.mem_append,List.mem_cons,List.mem_singleton] at z ⊢
    grind
 | x::r,i,ys,ws,f,fp,Y,σ,σh,M,h,hr,hi,hY,fm,R,sr,eD,ry,hf,rs=>by
  have hXY:∀ a∈X,a∈Y:=fun a z=>by rw [hY];simp [z]
  have hDY:D∈Y:=by rw [hY];simp
  have hDXY:∀ a∈D::X,a∈Y:=fun a z=>by rw [hY];exact List.mem_append_left _ z
  have hDA:D∉A:=fun z=>hDX (hA D z)
  have ex:its[i]?=some x:=by
   have:(its.drop i)[0]?=some x:=by rw [hr];rfl
   rwa [List.getElem?_drop,Nat.add_zero] at this
  have hi2:i + 1<=its.length:=(List.getElem?_eq_some_iff.mp ex).1
  have hr2:its.drop (i + 1)=r:=by
   rw [<- List.drop_drop,hr];rfl
  obtain ⟨w,ext,ey,rx⟩:=qC0 R sr ex
  have fy:Frm A h (h++ext):=Frm.app A h ext
  rw [List.length_cons]
  unfold qAm qDp
  rw [ey]
  dsimp only
  cases es:qBI g x σ with
  | none=>exact Sim.stuck
  | some σ1=>
   obtain ⟨σh1,esh,rs1⟩:=qBv es rx (R.keepS fy rs)
   rw [esh]
   dsimp only
   refine Sim.bindW hXY hA (fm.trans fy) (hc _ _ _ _ _ (R.up ext) rs1) ?_
   rintro b M2 b' h2 f2 R2 rfl
   have k2:Frm A h h2:=fy.trans f2
   have eD2:h2[D]?=some (.lst false ws):=(k2.2 D (qAK eD) hDA).trans eD
   have kN:∀ {h':AH},Frm A h h' -> ∀ a o,a∉D::X -> h[a]?=some o -> a∉D::X/\h'[a]?=some o:=fun f' a o x y=>⟨x,(f'.2 a (qAK y) fun z=>x (List.mem_cons_of_mem _ (hA _ z))).trans y⟩
   cases b with
   | true=>
    simp only [if_true]
    refine Sim.bindW hXY hA (fm.trans k2) (he _ _ _ _ _ R2 ((R.up ext).keepS f2 rs1)) ?_
    intro y M3 w3 h3 f3 R3 q3
    have k3:Frm A h h3:=k2.trans f3
    have eD3:h3[D]?=some (.lst false ws):=(k3.2 D (qAK eD) hDA).trans eD
    have lw:ys.length=ws.length:=qAC (reps_iff.mp ry)
    dsimp only
    by_cases hl:ys.length < lim/\qAk d M3=true
    ·rw [if_pos hl,if_pos ⟨eD3,by rw [<- lw];exact hl.1⟩]
     have hs:∀ (Z:List Nat),D∈Z -> ∀ a o,a∉Z -> h3[a]?=some o -> a∉Z/\(h3.set D (.lst false (ws++[w3])))[a]?=some o:=fun Z hZ a o x y=>⟨x,by rw [List.getElem?_set_ne (by rintro rfl;exact x hZ)];exact y⟩
     have hnD:∀ a o,a∉D::X -> h[a]?=some o -> a∉D::X/\(h3.set D (.lst false (ws++[w3])))[a]?=some o:=fun a o x y=>hs _ (List.mem_cons_self ..) a o x (kN k3 a o x y).2
     have ry4:qAM A (D::X) (h3.set D (.lst false (ws++[w3]))) (ys++[y.1]) (ws++[w3]):=
      reps_iff.mpr (qAz (reps_iff.mp (qAL (fun _ _ e=>e) hnD ys ry)) ⟨w3,[],rfl,qAv (fun _ _ e=>e) (fun a o x y=>hs _ (List.mem_cons_self ..) a o x y) _ (qAv (fun _ _ e=>e) (fun a o x y=>⟨fun z=>x (hDXY _ z),y⟩) _ q3.1),rfl⟩)
     obtain ⟨fp2,hp2,R3',hlt2⟩:∃ fp2:List Nat,(y.2=true -> FP Y h3 y.1 w3 fp2/\fp2.Nodup)/\RelM gl A (Y++fp2) h3 M3/\∀ a∈fp2,h2.length<=a:=by
      cases hy2:y.2 with
      | true=>
       obtain ⟨fp2,a,b,c,d⟩:=q3.2 hy2
       exact ⟨fp2,fun _=>⟨a,b⟩,d,c⟩
      | false=>exact ⟨[],(fun z=>by cases z),by rw [List.append_nil];exact R3,fun a ha=>by simp at ha⟩
     have old:∀ {Z:List Nat} (_:∀ a∈Y,a∈Z) (a:Nat) o,a∉Y -> h2[a]?=some o -> a∉Y++fp2:=fun _ a o x y=>by
      rw [List.mem_append];rintro (z | z)
      ·exact x z
      ·have:=hlt2 a z;have:=qAK y;omega
     have R4:=R3'.setX (List.mem_append_left _ hDY) hDA (.lst false (ws++[w3]))
     have hnY:∀ a o,a∉Y -> h[a]?=some o -> a∉Y++fp2/\(h3.set D (.lst false (ws++[w3])))[a]?=some o:=fun a o x y=>⟨old (fun _ z=>z) a o x (R.keepN k2 a o x y).2,(hs Y hDY a o x (R.keepN k3 a o x y).2).2⟩
     have hn2:∀ a o,a∉Y -> h2[a]?=some o -> a∉Y++fp2/\(h3.set D (.lst false (ws++[w3])))[a]?=some o:=fun a o x y=>⟨old (fun _ z=>z) a o x y,(hs Y hDY a o x (R2.keepN f3 a o x y).2).2⟩
     refine qDP hc he hD hDX hA r (i + 1) (ys++[y.1]) (ws++[w3]) (f&&y.2) (fp++fp2) (Y++fp2) σ1 σh1 M3 _ hr2 hi2 (by rw [hY,List.append_assoc]) ((fm.trans k3).set (.inr hD) _) R4 ?_ ?_ ry4 ?_ ?_
     ·exact qCv sr hnY R4 hl.2
     ·rw [List.getElem?_set_self (qAK eD3)]
     ·intro ef
      rw [Bool.and_eq_true] at ef
      obtain ⟨p1,nd1,l1⟩:=hf ef.1
      obtain ⟨p2,nd2⟩:=hp2 ef.2
      refine ⟨qFD (qBF hnD ys p1) (qCp (fun a o x y=>hs _ (List.mem_cons_self ..) a o x y) _ (qCp (fun a o x y=>⟨fun z=>x (hDXY _ z),y⟩) _ p2)),?_,?_⟩
      ·rw [List.nodup_append]
       refine ⟨nd1,nd2,?_⟩
       rintro a ha b hb rfl
       exact (qE0 y.1 p2 a hb).1 (by rw [hY];exact List.mem_append_right _ ha)
      ·intro a ha
       rcases List.mem_append.mp ha with z | z
       ·exact l1 a z
       ·have:=hlt2 a z
        have:=(fm.trans k2).1
        omega
     ·exact qBU (fun _ _ e=>e) hn2 ((R.up ext).keepS f2 rs1)
    ·rw [if_neg hl]
     exact Sim.stuck
   | false=>
    dsimp only
    simp only [Bool.false_eq_true,if_false]
    by_cases hl:qAk d M2=true
    ·rw [if_pos hl,if_pos eD2]
     exact qDP hc he hD hDX hA r (i + 1) ys ws f fp Y σ1 σh1 M2 h2 hr2 hi2 hY (fm.trans k2) R2 (qGE sr (fun a o x y=>(R.keepN k2 a o x y).2) R2 hl) eD2 (qAL (fun _ _ e=>e) (kN k2) ys ry)
      (fun ef=>by obtain ⟨a,b,c⟩:=hf ef;exact ⟨qBF (kN k2) ys a,b,c⟩) ((R.up ext).keepS f2 rs1)
    ·rw [if_neg hl]
     exact Sim.stuck
end
end PI
namespace PI
open L2 (V)
section
variable {gl:List T} {A X:List Nat} {h h':AH} {M M':Mem}
theorem qHZ {X':List Nat} {s:Src} {ts:List T} {d:qCy} (r:qB0 A X h s ts d) (hn:∀ a o,a∉X -> h[a]?=some o -> a∉X'/\h'[a]?=some o) (hc:∀ (n:Nat) a o,A[n]?=some a -> h[a]?=some o -> h'[a]?=some o):qB0 A X' h' s ts d:=by
 induction r with
 | list a f vs ts q1 q2 q3=>exact .list a f vs ts (hn _ _ q1 q2).1 (hn _ _ q1 q2).2 (qAL (fun _ _ e=>e) hn ts q3)
 | cell n a vs ts q1 q2 q3=>exact .cell n a vs ts q1 (hc n a _ q1 q2) (qAL (fun _ _ e=>e) hn ts q3)
 | tupl a vs ts q1 q2 q3=>exact .tupl a vs ts (hn _ _ q1 q2).1 (hn _ _ q1 q2).2 (qAL (fun _ _ e=>e) hn ts q3)
 | rng lo n=>exact .rng lo n
 | rngd lo n=>exact .rngd lo n
 | enum a ts d _ i1=>exact .enum a ts d i1
 | rvd a ts d _ i1=>exact .rvd a ts d i1
 | zip a b ts us d1 d2 _ _ i1 i2=>exact .zip a b ts us d1 d2 i1 i2
theorem qFR {n:Nat} {r:PR (TB×Mem)} {rh:RV} (s:Sim gl A X h (QE gl A X n) r rh):Sim gl A X h (fun b b' _ _=>b=b') (pB r) (asB rh):=by
 refine Sim.bind s ?_
 intro x M1 w h1 f1 R1 q1
 obtain ⟨t,fr⟩:=x
 dsimp only
 split
 ·rename_i b
  cases qAs q1.1
  exact ⟨_,h1,rfl,Frm.refl A h1,R1,rfl⟩
 ·exact Sim.stuck
theorem qDf:∀ (xs:List V),T.lfs (xs.map .v)=true
 | []=>rfl
 | x::xs=>by show (T.lf (.v x)&&T.lfs (xs.map .v))=true;rw [qDf xs];rfl
theorem qFk (lo:Int) (n:Nat):T.lfs (qAf lo n)=true:=by
 have e:qAf lo n=(qBb lo n).map .v:=by unfold qAf qBb;rw [List.map_map];rfl
 rw [e];exact qDf _
theorem qBq {A X:List Nat} {h:AH}:∀ {xs:List V},xs.all flat=true -> qAM A X h (xs.map .v) xs
 | [],_=>by show qAM A X h [] [];unfold qAM;rfl
 | x::xs,f=>by
  rw [List.all_cons,Bool.and_eq_true] at f
  show qAM A X h (.v x::xs.map .v) _
  unfold qAM
  exact ⟨x,xs,rfl,by unfold Rep;exact ⟨rfl,f.1⟩,qBq f.2⟩
theorem qEo {α β:Type} {R:α -> β -> Prop}:∀ {xs:List α} {ys:List β},qB1 R xs ys -> qB1 R xs.reverse ys.reverse
 | [],_,h=>by cases h;rfl
 | x::xs,_,⟨v,vs,rfl,r,h⟩=>by
  rw [List.reverse_cons,List.reverse_cons]
  exact qAz (qEo h) ⟨v,[],rfl,r,rfl⟩
theorem qJj (R:RelM gl A X h M) {t:T} {w:V} {s:List T×qCy} (r:Rep A X h t w) (e:qFG M t=some s):∃ p sh,w=.ref p/\(match h[p]? with | some (.lst _ _)=>Res.ok (Src.list p,h) | some (.tup _)=>.ok (.tupl p,h) | _=>.stuck)=.ok (sh,h)/\qB0 A X h sh s.1 s.2:=by
 cases t with
 | v x=>cases e
 | cell n=>
  unfold Rep at r;obtain ⟨a,ea,rfl⟩:=r
  obtain ⟨ts,vs,e1,e2,e3⟩:=R.at_ n a ea
  unfold qFG at e;dsimp only at e;rw [e1] at e;cases e
  exact ⟨a,_,rfl,by rw [e2],.cell n a vs ts ea e2 e3⟩
 | fz xs=>unfold Rep at r;obtain ⟨a,vs,rfl,q,k,z⟩:=r;cases e;exact ⟨a,_,rfl,by rw [k],.list a true vs xs q k z⟩
 | lst xs=>unfold Rep at r;obtain ⟨a,vs,rfl,q,k,z⟩:=r;cases e;exact ⟨a,_,rfl,by rw [k],.list a false vs xs q k z⟩
 | tup xs=>unfold Rep at r;obtain ⟨a,vs,rfl,q,k,z⟩:=r;cases e;exact ⟨a,_,rfl,by rw [k],.tupl a vs xs q k z⟩
 | ob o=>cases e
theorem qGW (R:RelM gl A X h M) {t:T} {w:V} {s:List T×qCy} (r:Rep A X h t w) (e:qHN M t=some s):∃ p vs,w=.ref p/\qAJ h p=some vs/\qB0 A X h (.list p) s.1 s.2:=by
 cases t with
 | v x=>cases e
 | cell n=>
  unfold Rep at r;obtain ⟨a,ea,rfl⟩:=r
  obtain ⟨ts,vs,e1,e2,e3⟩:=R.at_ n a ea
  unfold qHN at e;dsimp only at e;rw [e1] at e;cases e
  exact ⟨a,_,rfl,qAQ e2,.cell n a vs ts ea e2 e3⟩
 | fz xs=>unfold Rep at r;obtain ⟨a,vs,rfl,q,k,z⟩:=r;cases e;exact ⟨a,_,rfl,qAQ k,.list a true vs xs q k z⟩
 | lst xs=>unfold Rep at r;obtain ⟨a,vs,rfl,q,k,z⟩:=r;cases e;exact ⟨a,_,rfl,qAQ k,.list a false vs xs q k z⟩
 | tup xs=>cases e
 | ob o=>cases e
theorem QEs.len {n:Nat} {xs:List TB} {ws:List V} (q:QEs gl A X n xs ws h M):xs.length=ws.length:=by
 have:=qAC (reps_iff.mp q.1)
 simpa using this
end
section
variable {gl:List T} {P:Nat -> List T -> Mem -> PR (TB×Mem)} {F:Nat -> List V -> AH -> RV}
variable (hF:∀ f ts ws A X h M,RelM gl A X h M -> qAM A X h ts ws -> Sim gl A X h (QE gl A X h.length) (P f ts M) (F f ws h))
include hF
mutual
theorem qAW:∀ (e:E) (A X:List Nat) (h:AH) (M:Mem) (σ:TS) (σh:List (Option V)),RelM gl A X h M -> qBZ A X h σ σh -> Sim gl A X h (QE gl A X h.length) (pe gl P e σ M) (ev F e σh h)
 | .var i,A,X,h,M,σ,σh,R,rs=>by
  rw [pe,ev];dsimp only
  split
  ·rename_i t e
   obtain ⟨w,ew,r⟩:=qEu rs e
   rw [ew]
   exact qDK R r
  ·exact Sim.stuck
 | .dnew,A,X,h,M,σ,σh,R,rs=>by
  unfold pe ev
  have r:Rep A X (h++[O.ob (.dct [])]) (.ob (.dct [])) (.ref h.length):=by
   unfold Rep
   exact ⟨h.length,rfl,fun z=>by have:=R.lt _ z;omega,by simp⟩
  exact ⟨_,_,rfl,Frm.app A h _,R.up _,r,fun _=>Frs.of_lf (R.up _) r rfl⟩
 | .cst v,A,X,h,M,σ,σh,R,rs=>by
  rw [pe,ev];dsimp only
  split
  ·rename_i e;exact qAF R e
  ·exact Sim.stuck
 | .glob g,A,X,h,M,σ,σh,R,rs=>by
  rw [pe,ev];dsimp only
  split
  ·rename_i t e;exact qDK R (R.glo g t e)
  ·exact Sim.stuck
 | .bin op a b,A,X,h,M,σ,σh,R,rs=>by
  rw [pe,ev];dsimp only
  refine Sim.bind (qAW a A X h M σ σh R rs) ?_
  intro x M1 v h1 f1 R1 q1;dsimp only
  refine Sim.bind (qAW b A X h1 M1 σ σh R1 (R.keepS f1 rs)) ?_
  intro y M2 w h2 f2 R2 q2;dsimp only
  exact Sim.ofO fun r er=>(qJS R2 er (R1.keep f2 q1.1) q2.1).le (Nat.le_trans f1.1 f2.1)
 | .neg a,A,X,h,M,σ,σh,R,rs=>by
  rw [pe,ev];dsimp only
  refine Sim.bind (qAW a A X h M σ σh R rs) ?_
  intro x M1 v h1 f1 R1 q1;dsimp only
  obtain ⟨t,fr⟩:=x
  dsimp only
  split
  ·cases qAs q1.1;exact qAF R1 rfl
  ·exact Sim.stuck
 | .cmp op a b,A,X,h,M,σ,σh,R,rs=>by
  rw [pe,ev];dsimp only
  refine Sim.bind (qAW a A X h M σ σh R rs) ?_
  intro x M1 v h1 f1 R1 q1;dsimp only
  refine Sim.bind (qAW b A X h1 M1 σ σh R1 (R.keepS f1 rs)) ?_
  intro y M2 w h2 f2 R2 q2;dsimp only
  refine Sim.ofO fun r er=>?_
  unfold qKC
  rw [qEX R2 (R1.keep f2 q1.1) q2.1 er]
  exact qAF R2 rfl
 | .cmp2 o1 o2 a b c,A,X,h,M,σ,σh,R,rs=>by
  rw [pe,ev];dsimp only
  refine Sim.bind (qAW a A X h M σ σh R rs) ?_
  intro x M1 v h1 f1 R1 q1;dsimp only
  refine Sim.bind (qAW b A X h1 M1 σ σh R1 (R.keepS f1 rs)) ?_
  intro y M2 w h2 f2 R2 q2;dsimp only
  refine Sim.ofO fun r er=>?_
  rw [qEX R2 (R1.keep f2 q1.1) q2.1 er]
  cases r with
  | true=>
   simp only [if_true]
   refine Sim.bind (qAW c A X h2 M2 σ σh R2 (R1.keepS f2 (R.keepS f1 rs))) ?_
   intro z M3 u h3 f3 R3 q3;dsimp only
   refine Sim.ofO fun r er=>?_
   unfold qKC
   rw [qEX R3 (R2.keep f3 q2.1) q3.1 er]
   exact qAF R3 rfl
  | false=>exact qAF R2 rfl
 | .and a b,A,X,h,M,σ,σh,R,rs=>by
  rw [pe,ev];dsimp only
  refine Sim.bind (qFR (qAW a A X h M σ σh R rs)) ?_
  rintro x M1 v h1 f1 R1 rfl;dsimp only
  cases x with
  | true=>simp only [if_true];exact (qAW b A X h1 M1 σ σh R1 (R.keepS f1 rs)).le f1.1
  | false=>exact qAF R1 rfl
 | .or a b,A,X,h,M,σ,σh,R,rs=>by
  rw [pe,ev];dsimp only
  refine Sim.bind (qFR (qAW a A X h M σ σh R rs)) ?_
  rintro x M1 v h1 f1 R1 rfl;dsimp only
  cases x with
  | false=>simp only [Bool.false_eq_true,if_false];exact (qAW b A X h1 M1 σ σh R1 (R.keepS f1 rs)).le f1.1
  | true=>exact qAF R1 rfl
 | .not a,A,X,h,M,σ,σh,R,rs=>by
  rw [pe,ev];dsimp only
  refine Sim.bind (qFR (qAW a A X h M σ σh R rs)) ?_
  rintro x M1 v h1 f1 R1 rfl;dsimp only
  exact qAF R1 rfl
 | .call f as,A,X,h,M,σ,σh,R,rs=>by
  rw [pe,ev];dsimp only
  refine Sim.bind (qCG as A X h M σ σh R rs) ?_
  intro x M1 v h1 f1 R1 q1;dsimp only
  exact (hF f _ _ A X h1 M1 R1 q1.1).nx.le f1.1
 | .blt f as,A,X,h,M,σ,σh,R,rs=>by
  rw [pe,ev];dsimp only
  refine Sim.bind (qCG as A X h M σ σh R rs) ?_
  intro x M1 v h1 f1 R1 q1;dsimp only
  exact Sim.ofO fun r er=>(qJp R1 q1.1 er).le f1.1
 | .isi a ts,A,X,h,M,σ,σh,R,rs=>by
  rw [pe,ev];dsimp only
  refine Sim.bind (qAW a A X h M σ σh R rs) ?_
  intro x M1 v h1 f1 R1 q1;dsimp only
  refine Sim.ofO fun r er=>?_
  rw [qHl R1 q1.1 er]
  exact qAF R1 rfl
 | .idx a b,A,X,h,M,σ,σh,R,rs=>by
  rw [pe,ev];dsimp only
  refine Sim.bind (qAW a A X h M σ σh R rs) ?_
  intro x M1 v h1 f1 R1 q1;dsimp only
  refine Sim.bind (qAW b A X h1 M1 σ σh R1 (R.keepS f1 rs)) ?_
  intro y M2 w h2 f2 R2 q2;dsimp only
  refine Sim.ofO fun r er=>?_
  obtain ⟨ty,fy⟩:=y
  unfold qDU at er
  dsimp only at er
  split at er
  ·rename_i i
   cases qAs q2.1
   obtain ⟨xs,e1,er⟩:=Option.bind_eq_some_iff.mp er
   obtain ⟨j,e2,er⟩:=Option.bind_eq_some_iff.mp er
   obtain ⟨t,e3,rfl⟩:=Option.map_eq_some_iff.mp er
   obtain ⟨p,vs,rfl,k1,k2⟩:=qIV R2 (R1.keep f2 q1.1) e1
   obtain ⟨u,e4,k3⟩:=qAq (reps_iff.mp k2) e3
   dsimp only
   rw [k1]
   dsimp only
   rw [<- qAC (reps_iff.mp k2),e2]
   dsimp only [Option.bind_some]
   rw [e4]
   exact qDK R2 k3
  ·cases er
 | .rev a,A,X,h,M,σ,σh,R,rs=>by
  rw [pe,ev];dsimp only
  refine Sim.bind (qAW a A X h M σ σh R rs) ?_
  intro x M1 v h1 f1 R1 q1;dsimp only
  refine Sim.ofO fun xs ex=>?_
  obtain ⟨p,vs,f,rfl,k1,k2⟩:=qA9 R1 q1.1 ex
  show Sim _ _ _ _ _ _ (match qAJ h1 p with | some xs=>_ | none=>_)
  rw [qAQ k1]
  exact (qFl R1 (reps_iff.mpr (qEo (reps_iff.mp k2)))).le f1.1
 | .sl a lo hi,A,X,h,M,σ,σh,R,rs=>by
  rw [pe,ev];dsimp only
  refine Sim.bind (qAW a A X h M σ σh R rs) ?_
  intro x M1 v h1 f1 R1 q1;dsimp only
  refine Sim.bind (qCG lo A X h1 M1 σ σh R1 (R.keepS f1 rs)) ?_
  intro y M2 w h2 f2 R2 q2;dsimp only
  refine Sim.bind (qCG hi A X h2 M2 σ σh R2 (R1.keepS f2 (R.keepS f1 rs))) ?_
  intro z M3 u h3 f3 R3 q3;dsimp only
  refine Sim.ofO fun xs ex=>Sim.ofO fun l el=>Sim.ofO fun m em=>?_
  rw [qES (R2.keeps f3 q2.1) el,qES q3.1 em]
  have rp:=R2.keep f3 (R1.keep f2 q1.1)
  refine Sim.ofO fun r er=>?_
  refine Sim.le ?_ (Nat.le_trans f1.1 (Nat.le_trans f2.1 f3.1))
  obtain ⟨x1,x2⟩:=x
  dsimp only at ex er rp ⊢
  cases x1 with
  | v x=>cases ex
  | ob o=>cases ex
  | cell n=>cases er;obtain ⟨p,vs,f,rfl,k1,k2⟩:=qA9 R3 rp ex;dsimp only;rw [qAQ k1];exact qFl R3 (qD2 k2)
  | fz xs=>cases er;obtain ⟨p,vs,f,rfl,k1,k2⟩:=qA9 R3 rp ex;dsimp only;rw [qAQ k1];exact qFl R3 (qD2 k2)
  | lst xs=>cases er;obtain ⟨p,vs,f,rfl,k1,k2⟩:=qA9 R3 rp ex;dsimp only;rw [qAQ k1];exact qFl R3 (qD2 k2)
  | tup ts=>
   cases ex
   unfold Rep at rp
   obtain ⟨a,vs,rfl,_,q,kk⟩:=rp
   have ln:=qAC (reps_iff.mp kk)
   dsimp only
   rw [show qAJ h3 a=none by unfold qAJ;rw [q],show qAU h3 a=some vs by unfold qAU;rw [q]]
   dsimp only
   unfold qHi at er
   dsimp only at er
   rw [ln] at er
   split at er
   ·cases er
   ·rename_i hw
    cases er
    rw [if_neg hw]
    exact qDT R3 (qD2 kk) fun e=>Frss.of_lf R3 (qD2 kk) e
 | .lst as,A,X,h,M,σ,σh,R,rs=>by
  rw [pe,ev];dsimp only
  refine Sim.bind (qCG as A X h M σ σh R rs) ?_
  intro x M1 v h1 f1 R1 q1;dsimp only
  rw [<- q1.len]
  split
  ·exact qEL R1 q1.1 f1.1 q1.2
  ·exact Sim.stuck
 | .tup as,A,X,h,M,σ,σh,R,rs=>by
  rw [pe,ev];dsimp only
  refine Sim.bind (qCG as A X h M σ σh R rs) ?_
  intro x M1 v h1 f1 R1 q1;dsimp only
  rw [<- q1.len]
  split
  ·exact qDT R1 q1.1 q1.2
  ·exact Sim.stuck
 | .comp it src g c e,A,X,h,M,σ,σh,R,rs=>by
  rw [pe,ev];dsimp only
  refine Sim.bind (qIg it A X h M σ σh R rs) ?_
  intro s M1 sh h1 f1 R1 q1;dsimp only
  have hn:∀ a o,a∉X -> h1[a]?=some o -> a∉h1.length::X/\(h1++[O.lst false []])[a]?=some o:=fun a o x y=>⟨by
   rw [List.mem_cons];rintro (z | z)
   ·have:=qAK y;omega
   ·exact x z,by rw [List.getElem?_append_left (qAK y)];exact y⟩
  have sr:qB0 A (h1.length::X) (h1++[O.lst false []]) sh s.1 s.2:=qHZ q1 hn fun n a o _ y=>by rw [List.getElem?_append_left (qAK y)];exact y
  rw [qFF sr]
  dsimp only
  refine (qDP (its:=s.1) (fun X h M σ σh R rs=>qLS c A X h M σ σh R rs) (fun X h M σ σh R rs=>qAW e A X h M σ σh R rs) (Nat.le_refl h1.length) (fun z=>Nat.lt_irrefl _ (R1.lt _ z)) R1.sub s.1 0 [] [] true [] (h1.length::X) _ _ M1 _ rfl (Nat.zero_le _) (by simp) (Frm.app A h1 _) (R1.addX fun a=>List.mem_cons) sr (by simp) (by unfold qAM;rfl) ?_ ?_).le f1.1
  ·exact fun _=>⟨by unfold FPs;exact ⟨rfl,rfl⟩,List.nodup_nil,fun a ha=>by simp at ha⟩
  ·exact qBU (fun _ _ e=>e) hn (qB7 (R.keepS f1 rs) src)
 | .app a b,A,X,h,M,σ,σh,R,rs=>by
  rw [pe,ev];dsimp only
  refine Sim.bind (qAW a A X h M σ σh R rs) ?_
  intro x M1 v h1 f1 R1 q1;dsimp only
  obtain ⟨t,fr⟩:=x
  dsimp only
  split
  ·rename_i n
   have q:=q1.1
   unfold Rep at q
   obtain ⟨p,ep,rfl⟩:=q
   obtain ⟨ts,vs,e1,e2,e3⟩:=R1.at_ n p ep
   dsimp only
   rw [qAQ e2]
   dsimp only
   refine Sim.bind (qAW b A X h1 M1 σ σh R1 (R.keepS f1 rs)) ?_
   intro y M2 w h2 f2 R2 q2;dsimp only
   obtain ⟨ts2,vs2,g1,g2,g3⟩:=R2.at_ n p ep
   rw [g1,show qAw h2 p=some vs2 by unfold qAw;rw [g2]]
   dsimp only
   rw [<- qAC (reps_iff.mp g3)]
   split
   ·have r1:qB1 (Rep A X h2) [y.1] [w]:=⟨w,[],rfl,q2.1,rfl⟩
    obtain ⟨R4,f4⟩:=R2.put ep (reps_iff.mpr (qAz (reps_iff.mp g3) r1))
    have r:Rep A X (h2.set p (.lst false (vs2++[w]))) (.v .non) .non:=by unfold Rep;exact ⟨rfl,rfl⟩
    exact ⟨.non,_,rfl,f4,R4,r,fun _=>Frs.of_lf R4 r rfl⟩
   ·exact Sim.stuck
  ·exact Sim.stuck
 | .lrng a,A,X,h,M,σ,σh,R,rs=>by
  rw [pe,ev];dsimp only
  refine Sim.bind (qAW a A X h M σ σh R rs) ?_
  intro x M1 v h1 f1 R1 q1;dsimp only
  obtain ⟨t,fr⟩:=x
  dsimp only
  split
  ·rename_i j
   cases qAs q1.1
   dsimp only
   split
   ·have r:qAM A X h1 (qAf 0 j.toNat) (qBb 0 j.toNat):=by
     have e:qAf 0 j.toNat=(qBb 0 j.toNat).map .v:=by unfold qAf qBb;rw [List.map_map];rfl
     rw [e]
     exact qBq (by simp [qBb,flat])
    exact (qEL (f:=true) R1 r (Nat.le_refl _) fun _=>Frss.of_lf R1 r (qFk 0 _)).le f1.1
   ·exact Sim.stuck
  ·exact Sim.stuck
theorem qCG:∀ (e:Es) (A X:List Nat) (h:AH) (M:Mem) (σ:TS) (σh:List (Option V)),RelM gl A X h M -> qBZ A X h σ σh -> Sim gl A X h (QEs gl A X h.length) (pes gl P e σ M) (evs F e σh h)
 | .nil,A,X,h,M,σ,σh,R,rs=>by
  rw [pes,evs]
  have r:qAM A X h [] []:=by unfold qAM;rfl
  exact ⟨[],h,rfl,Frm.refl A h,R,r,fun _=>Frss.of_lf R r rfl⟩
 | .cons a as,A,X,h,M,σ,σh,R,rs=>by
  rw [pes,evs];dsimp only
  refine Sim.bind (qAW a A X h M σ σh R rs) ?_
  intro x M1 v h1 f1 R1 q1;dsimp only
  obtain ⟨fp1,hp1,R1',hlt1⟩:∃ fp1:List Nat,(x.2=true -> FP X h1 x.1 v fp1/\fp1.Nodup)/\RelM gl A (X++fp1) h1 M1/\∀ a∈fp1,h.length<=a:=by
   cases hx2:x.2 with
   | true=>
    obtain ⟨fp2,a,b,c,d⟩:=q1.2 hx2
    exact ⟨fp2,fun _=>⟨a,b⟩,d,c⟩
   | false=>exact ⟨[],(fun z=>by cases z),by rw [List.append_nil];exact R1,fun a ha=>by simp at ha⟩
  have hX:∀ a∈X,a∈X++fp1:=fun a z=>List.mem_append_left _ z
  have hn:∀ a o,a∉X -> h[a]?=some o -> a∉X++fp1/\h1[a]?=some o:=fun a o x y=>⟨by
   rw [List.mem_append];rintro (z | z)
   ·exact x z
   ·have:=hlt1 a z;have:=qAK y;omega,(R.keepN f1 a o x y).2⟩
  refine Sim.bindW hX R.sub (Frm.refl A h1) (qCG as A (X++fp1) h1 M1 σ σh R1' (qBU (fun _ _ e=>e) hn rs)) ?_
  intro y M2 w h2 f2 R2 q2;dsimp only
  refine ⟨_,h2,rfl,f2,R2.weak hX R.sub,?_,fun e=>?_⟩
  ·show qAM A X h2 (x.1::y.map (·.1)) (v::w)
   unfold qAM
   exact ⟨v,w,rfl,R1.keep f2 q1.1,qAL (fun _ _ e=>e) (fun a o x y=>⟨fun z=>x (hX _ z),y⟩) _ q2.1⟩
  ·rw [List.all_cons,Bool.and_eq_true] at e
   obtain ⟨a1,b1⟩:=hp1 e.1
   obtain ⟨fp2,a2,b2,c2,d2⟩:=q2.2 e.2
   refine ⟨fp1++fp2,?_,?_,?_,by rw [<- List.append_assoc];exact d2⟩
   ·show FPs X h2 (x.1::y.map (·.1)) (v::w) _
    unfold FPs
    exact ⟨v,w,fp1,fp2,rfl,qCp (R1.keepN f2) _ a1,qBF (fun a o x y=>⟨fun z=>x (hX _ z),y⟩) _ a2,rfl⟩
   ·rw [List.nodup_append]
    refine ⟨b1,b2,?_⟩
    rintro a ha b hb rfl
    exact (qB4 _ a2 a hb).1 (List.mem_append_right _ ha)
   ·intro a ha
    rcases List.mem_append.mp ha with z | z
    ·exact hlt1 a z
    ·exact Nat.le_trans f1.1 (c2 a z)
theorem qLS:∀ (e:Es) (A X:List Nat) (h:AH) (M:Mem) (σ:TS) (σh:List (Option V)),RelM gl A X h M -> qBZ A X h σ σh -> Sim gl A X h (fun b b' _ _=>b=b') (pec gl P e σ M) (evc F e σh h)
 | .nil,A,X,h,M,σ,σh,R,rs=>by
  rw [pec,evc]
  exact ⟨true,h,rfl,Frm.refl A h,R,rfl⟩
 | .cons a as,A,X,h,M,σ,σh,R,rs=>by
  rw [pec,evc]
  exact qFR (qAW a A X h M σ σh R rs)
theorem qIg:∀ (e:Itr) (A X:List Nat) (h:AH) (M:Mem) (σ:TS) (σh:List (Option V)),RelM gl A X h M -> qBZ A X h σ σh -> Sim gl A X h (fun s sh h' _=>qB0 A X h' sh s.1 s.2) (pei gl P e σ M) (evi F e σh h)
 | .list a,A,X,h,M,σ,σh,R,rs=>by
  rw [pei,evi];dsimp only
  refine Sim.bind (qAW a A X h M σ σh R rs) ?_
  intro x M1 v h1 f1 R1 q1;dsimp only
  refine Sim.ofO fun s es=>?_
  obtain ⟨p,sh,rfl,e1,e2⟩:=qJj R1 q1.1 es
  exact ⟨sh,h1,e1,Frm.refl A h1,R1,e2⟩
 | .rng1 a,A,X,h,M,σ,σh,R,rs=>by
  rw [pei,evi];dsimp only
  refine Sim.bind (qAW a A X h M σ σh R rs) ?_
  intro x M1 v h1 f1 R1 q1;dsimp only
  obtain ⟨t,fr⟩:=x
  dsimp only
  split
  ·cases qAs q1.1
   dsimp only
   split
   ·exact ⟨_,h1,rfl,Frm.refl A h1,R1,.rng 0 _⟩
   ·exact Sim.stuck
  ·exact Sim.stuck
 | .rng2 a b,A,X,h,M,σ,σh,R,rs=>by
  rw [pei,evi];dsimp only
  refine Sim.bind (qAW a A X h M σ σh R rs) ?_
  intro x M1 v h1 f1 R1 q1;dsimp only
  refine Sim.bind (qAW b A X h1 M1 σ σh R1 (R.keepS f1 rs)) ?_
  intro y M2 w h2 f2 R2 q2;dsimp only
  obtain ⟨t,fr⟩:=x
  obtain ⟨u,fu⟩:=y
  dsimp only
  split
  ·cases qAs q1.1
   cases qAs q2.1
   dsimp only
   split
   ·exact ⟨_,h2,rfl,Frm.refl A h2,R2,.rng _ _⟩
   ·exact Sim.stuck
  ·exact Sim.stuck
 | .zip a b,A,X,h,M,σ,σh,R,rs=>by
  rw [pei,evi];dsimp only
  refine Sim.bind (qAW a A X h M σ σh R rs) ?_
  intro x M1 v h1 f1 R1 q1;dsimp only
  refine Sim.bind (qAW b A X h1 M1 σ σh R1 (R.keepS f1 rs)) ?_
  intro y M2 w h2 f2 R2 q2;dsimp only
  refine Sim.ofO fun s es=>Sim.ofO fun t et=>?_
  obtain ⟨p,vs,rfl,e1,e2⟩:=qGW R2 (R1.keep f2 q1.1) es
  obtain ⟨q,us,rfl,e3,e4⟩:=qGW R2 q2.1 et
  dsimp only
  rw [e1,e3]
  exact ⟨_,h2,rfl,Frm.refl A h2,R2,.zip p q _ _ _ _ e2 e4⟩
 | .rng3 a b,A,X,h,M,σ,σh,R,rs=>by
  rw [pei,evi];dsimp only
  refine Sim.bind (qAW a A X h M σ σh R rs) ?_
  intro x M1 v h1 f1 R1 q1;dsimp only
  refine Sim.bind (qAW b A X h1 M1 σ σh R1 (R.keepS f1 rs)) ?_
  intro y M2 w h2 f2 R2 q2;dsimp only
  obtain ⟨t,fr⟩:=x
  obtain ⟨u,fu⟩:=y
  dsimp only
  split
  ·cases qAs q1.1
   cases qAs q2.1
   dsimp only
   split
   ·exact ⟨_,h2,rfl,Frm.refl A h2,R2,.rngd _ _⟩
   ·exact Sim.stuck
  ·exact Sim.stuck
end
end
end PI
namespace PI
open L2 (V)
mutual
theorem qF0 {X Af Xf:List Nat} {h:AH} (hX:∀ a o,(∀ vs,o≠O.lst false vs) -> h[a]?=some o -> a∉X -> a∉Xf):∀ (t:T) (n:Nat) {w:V} {fp:List Nat},FP X h t w fp -> (∀ (k:Nat) a,fp[k]?=some a -> Af[n + k]?=some a) ->
  (thaw n t).2.length=fp.length/\Rep Af Xf h (thaw n t).1 w/\∀ (k:Nat) ts',(thaw n t).2[k]?=some ts' -> ∃ a vs,fp[k]?=some a/\h[a]?=some (.lst false vs)/\qAM Af Xf h ts' vs
 | .v x,n,w,fp,p,ha=>by unfold FP at p;obtain ⟨p1,rfl⟩:=p;rw [show thaw n (.v x)=(.v x,[]) by simp [thaw]];exact ⟨rfl,by unfold Rep;exact p1,fun k ts' e=>by simp at e⟩
 | .cell _,n,w,fp,p,ha=>by unfold FP at p;exact p.elim
 | .ob o,n,w,fp,p,ha=>by unfold FP at p;obtain ⟨⟨a,rfl,q1,q2⟩,rfl⟩:=p;rw [show thaw n (.ob o)=(.ob o,[]) by simp [thaw]];exact ⟨rfl,by unfold Rep;exact ⟨a,rfl,hX a _ (by intro _ z;cases z) q2 q1,q2⟩,fun k ts' e=>by simp at e⟩
 | .fz _,n,w,fp,p,ha=>by unfold FP at p;exact p.elim
 | .lst ts,n,w,fp,p,ha=>by
  unfold FP at p
  obtain ⟨a,vs,f,rfl,q1,q2,q3,rfl⟩:=p
  obtain ⟨l,r,c⟩:=qDB hX ts n q3 (fun k a e=>ha k a (by rw [List.getElem?_append_left (List.getElem?_eq_some_iff.mp e).1];exact e))
  rw [thaw]
  refine ⟨by simp [l],?_,fun k ts' e=>?_⟩
  ·show Rep Af Xf h (.cell _) _
   unfold Rep
   refine ⟨a,ha _ a ?_,rfl⟩
   rw [l,List.getElem?_append_right (Nat.le_refl _),Nat.sub_self]
   rfl
  ·dsimp only at e
   by_cases hk:k < f.length
   ·rw [List.getElem?_append_left (by rw [l];exact hk)] at e
    obtain ⟨b,us,e1,e2,e3⟩:=c k ts' e
    exact ⟨b,us,by rw [List.getElem?_append_left hk];exact e1,e2,e3⟩
   ·rw [List.getElem?_append_right (by rw [l];omega),l] at e
    have hk2:k - f.length=0:=by
     have:=(List.getElem?_eq_some_iff.mp e).1
     simp at this;omega
    rw [hk2] at e
    simp at e
    subst e
    exact ⟨a,vs,by rw [List.getElem?_append_right (by omega),hk2];rfl,q2,r⟩
 | .tup ts,n,w,fp,p,ha=>by
  unfold FP at p
  obtain ⟨a,vs,rfl,q1,q2,q3⟩:=p
  obtain ⟨l,r,c⟩:=qDB hX ts n q3 ha
  rw [thaw]
  refine ⟨l,?_,c⟩
  show Rep Af Xf h (.tup _) _
  unfold Rep
  exact ⟨a,vs,rfl,hX a _ (by intro _ z;cases z) q2 q1,q2,r⟩
theorem qDB {X Af Xf:List Nat} {h:AH} (hX:∀ a o,(∀ vs,o≠O.lst false vs) -> h[a]?=some o -> a∉X -> a∉Xf):∀ (ts:List T) (n:Nat) {ws:List V} {fp:List Nat},FPs X h ts ws fp -> (∀ (k:Nat) a,fp[k]?=some a -> Af[n + k]?=some a) ->
  (qCJ n ts).2.length=fp.length/\qAM Af Xf h (qCJ n ts).1 ws/\∀ (k:Nat) ts',(qCJ n ts).2[k]?=some ts' -> ∃ a vs,fp[k]?=some a/\h[a]?=some (.lst false vs)/\qAM Af Xf h ts' vs
 | [],n,ws,fp,p,ha=>by unfold FPs at p;obtain ⟨rfl,rfl⟩:=p;rw [qCJ];exact ⟨rfl,by unfold qAM;rfl,fun k ts' e=>by simp at e⟩
 | t::ts,n,ws,fp,p,ha=>by
  unfold FPs at p
  obtain ⟨v,vs,f1,f2,rfl,q1,q2,rfl⟩:=p
  obtain ⟨l1,r1,c1⟩:=qF0 hX t n q1 (fun k a e=>ha k a (by rw [List.getElem?_append_left (List.getElem?_eq_some_iff.mp e).1];exact e))
  obtain ⟨l2,r2,c2⟩:=qDB hX ts (n + (thaw n t).2.length) q2 (fun k a e=>by
   have:=ha (f1.length + k) a (by rw [List.getElem?_append_right (by omega),Nat.add_sub_cancel_left];exact e)
   rw [l1,Nat.add_assoc];exact this)
  rw [qCJ]
  refine ⟨by dsimp only;rw [List.length_append,List.length_append,l2,l1],?_,fun k ts' e=>?_⟩
  ·show qAM Af Xf h (_::_) _
   unfold qAM
   exact ⟨v,vs,rfl,r1,r2⟩
  ·dsimp only at e
   by_cases hk:k < f1.length
   ·rw [List.getElem?_append_left (by rw [l1];exact hk)] at e
    obtain ⟨b,us,e1,e2,e3⟩:=c1 k ts' e
    exact ⟨b,us,by rw [List.getElem?_append_left hk];exact e1,e2,e3⟩
   ·rw [List.getElem?_append_right (by rw [l1];omega)] at e
    obtain ⟨b,us,e1,e2,e3⟩:=c2 _ ts' e
    rw [l1] at e1
    exact ⟨b,us,by rw [List.getElem?_append_right (by omega)];exact e1,e2,e3⟩
end
theorem RelM.thaw {gl:List T} {A X fp:List Nat} {h:AH} {M:Mem} {t:T} {w:V} (R:RelM gl A (X++fp) h M) (hA:∀ a∈A,a∈X) (p:FP X h t w fp) (nd:fp.Nodup):
  RelM gl (A++fp) (X++fp) h (M++(PI.thaw M.length t).2)/\Rep (A++fp) (X++fp) h (PI.thaw M.length t).1 w:=by
 have hX:∀ a o,(∀ vs,o≠O.lst false vs) -> h[a]?=some o -> a∉X -> a∉X++fp:=fun a o hno e x=>by
  rw [List.mem_append];rintro (z | z)
  ·exact x z
  ·obtain ⟨_,us,e2⟩:=qE0 t p a z
   rw [e] at e2;cases e2;exact hno _ rfl
 obtain ⟨l,r,c⟩:=qF0 (Af:=A++fp) hX t M.length p (fun k a e=>by rw [<- R.len,List.getElem?_append_right (by omega),Nat.add_sub_cancel_left];exact e)
 refine ⟨⟨by simp [R.len,l],?_,?_,R.lt,fun n a e=>?_,fun g t e=>?_⟩,r⟩
 ·rw [List.nodup_append]
  exact ⟨R.nd,nd,by rintro a ha b hb rfl;exact (qE0 t p a hb).1 (hA a ha)⟩
 ·intro a ha
  rcases List.mem_append.mp ha with z | z
  ·exact List.mem_append_left _ (hA a z)
  ·exact List.mem_append_right _ z
 ·by_cases hn:n < A.length
  ·rw [List.getElem?_append_left hn] at e
   obtain ⟨ts,vs,e1,e2,e3⟩:=R.at_ n a e
   exact ⟨ts,vs,by rw [List.getElem?_append_left (by rw [<- R.len];exact hn)];exact e1,e2,qAL (fun k b eb=>by rw [List.getElem?_append_left (List.getElem?_eq_some_iff.mp eb).1];exact eb) (fun a o x y=>⟨x,y⟩) ts e3⟩
  ·rw [List.getElem?_append_right (by omega)] at e
   have hk:n - A.length < (PI.thaw M.length t).2.length:=by rw [l];exact (List.getElem?_eq_some_iff.mp e).1
   obtain ⟨b,us,e1,e2,e3⟩:=c (n - A.length) _ (List.getElem?_eq_getElem hk)
   rw [e] at e1;cases e1
   have hnm:n - M.length=n - A.length:=by rw [R.len]
   exact ⟨_,us,by rw [List.getElem?_append_right (by rw [<- R.len];omega),hnm];exact List.getElem?_eq_getElem hk,e2,e3⟩
 ·exact qAv (fun k b eb=>by rw [List.getElem?_append_left (List.getElem?_eq_some_iff.mp eb).1];exact eb) (fun a o x y=>⟨x,y⟩) t (R.glo g t e)
noncomputable def RelO (gl:List T) (A X:List Nat) (n:Nat) (h:AH) (M:Mem):PO -> Out -> Prop
 | .nx σ,.nx σh=>qBZ A X h σ σh
 | .bk σ,.bk σh=>qBZ A X h σ σh
 | .ct σ,.ct σh=>qBZ A X h σ σh
 | .rt t,.rt w=>QE gl A X n t w h M
 | _,_=>False
theorem RelO.le {gl:List T} {A X:List Nat} {n m:Nat} {h:AH} {M:Mem} {o:PO} {oh:Out} (r:RelO gl A X n h M o oh) (l:m<=n):RelO gl A X m h M o oh:=by
 cases o<;>cases oh<;>first | exact r | exact QE.le r l
noncomputable def SimS (gl:List T) (A X:List Nat) (h:AH):RSt -> RS -> Prop
 | .ok (o,M'),r=>∃ oh h' B,r=.ok (oh,h')/\Frm A h h'/\(∀ b∈B,h.length<=b)/\RelM gl (A++B) (X++B) h' M'/\RelO gl (A++B) (X++B) h.length h' M' o oh
 | .exc c M',r=>∃ h' B,r=.exc c h'/\Frm A h h'/\(∀ b∈B,h.length<=b)/\RelM gl (A++B) (X++B) h' M'
 | .stuck,_=>True
theorem SimS.stuck {gl:List T} {A X:List Nat} {h:AH} {r:RS}:SimS gl A X h .stuck r:=trivial
theorem SimS.mk {gl:List T} {A X:List Nat} {h:AH} {M:Mem} {o:PO} {oh:Out} (R:RelM gl A X h M) (ro:RelO gl A X h.length h M o oh):SimS gl A X h (.ok (o,M)) (.ok (oh,h)):=
 ⟨oh,h,[],rfl,Frm.refl A h,fun b hb=>by simp at hb,by simpa using R,by simpa using ro⟩
theorem SimS.pre {gl:List T} {A X:List Nat} {h h1:AH} {r:RSt} {rh:RS} (s:SimS gl A X h1 r rh) (f:Frm A h h1):SimS gl A X h r rh:=by
 cases r with
 | ok p=>
  obtain ⟨o,M'⟩:=p
  obtain ⟨oh,h',B,e,f1,hB,R,ro⟩:=s
  exact ⟨oh,h',B,e,f.trans f1,fun b hb=>Nat.le_trans f.1 (hB b hb),R,ro.le f.1⟩
 | exc c M'=>
  obtain ⟨h',B,e,f1,hB,R⟩:=s
  exact ⟨h',B,e,f.trans f1,fun b hb=>Nat.le_trans f.1 (hB b hb),R⟩
 | stuck=>trivial
theorem Sim.bindS {α β:Type} {gl:List T} {A X:List Nat} {h:AH} {Q:α -> β -> AH -> Mem -> Prop} {r:PR (α×Mem)} {rh:Res (β×AH)} {f:α×Mem -> RSt} {g:β×AH -> RS}
  (s:Sim gl A X h Q r rh) (k:∀ x M' y h',Frm A h h' -> RelM gl A X h' M' -> Q x y h' M' -> SimS gl A X h' (f (x,M')) (g (y,h'))):SimS gl A X h (r.bind f) (rh.bind g):=by
 cases r with
 | ok p=>
  obtain ⟨x,M'⟩:=p
  obtain ⟨y,h',rfl,f1,R1,q⟩:=s
  exact (k x M' y h' f1 R1 q).pre f1
 | exc c M'=>
  obtain ⟨h',rfl,f1,R1⟩:=s
  exact ⟨h',[],rfl,f1,fun b hb=>by simp at hb,by simpa using R1⟩
 | stuck=>trivial
theorem SimS.bind {gl:List T} {A X:List Nat} {h:AH} {r:RSt} {rh:RS} {f:PO×Mem -> RSt} {g:Out×AH -> RS}
  (s:SimS gl A X h r rh) (k:∀ o M' oh h' B,Frm A h h' -> (∀ b∈B,h.length<=b) -> RelM gl (A++B) (X++B) h' M' -> RelO gl (A++B) (X++B) h.length h' M' o oh -> SimS gl (A++B) (X++B) h' (f (o,M')) (g (oh,h'))\/(f (o,M')=.ok (o,M')/\g (oh,h')=.ok (oh,h'))):SimS gl A X h (r.bind f) (rh.bind g):=by
 cases r with
 | ok p=>
  obtain ⟨o,M'⟩:=p
  obtain ⟨oh,h',B,rfl,f1,hB,R,ro⟩:=s
  rw [PR.bind_ok,Res.bind_ok]
  rcases k o M' oh h' B f1 hB R ro with s2 | ⟨e1,e2⟩
  ·revert s2
   generalize f (o,M')=r2
   generalize g (oh,h')=rh2
   intro s2
   cases r2 with
   | ok p2=>
    obtain ⟨o2,M2⟩:=p2
    obtain ⟨oh2,h2,B2,rfl,f2,hB2,R2,ro2⟩:=s2
    rw [List.append_assoc,List.append_assoc] at R2 ro2
    exact ⟨oh2,h2,B++B2,rfl,f1.trans2 hB f2,fun b hb=>by
     rcases List.mem_append.mp hb with z | z
     ·exact hB b z
     ·exact Nat.le_trans f1.1 (hB2 b z),R2,ro2.le f1.1⟩
   | exc c M2=>
    obtain ⟨h2,B2,rfl,f2,hB2,R2⟩:=s2
    rw [List.append_assoc,List.append_assoc] at R2
    exact ⟨h2,B++B2,rfl,f1.trans2 hB f2,fun b hb=>by
     rcases List.mem_append.mp hb with z | z
     ·exact hB b z
     ·exact Nat.le_trans f1.1 (hB2 b z),R2⟩
   | stuck=>trivial
  ·rw [e1,e2]
   exact ⟨oh,h',B,rfl,f1,hB,R,ro⟩
 | exc c M'=>
  obtain ⟨h',B,rfl,f1,hB,R⟩:=s
  exact ⟨h',B,rfl,f1,hB,R⟩
 | stuck=>trivial
theorem qFJ {A X B:List Nat} {h h':AH} (hs:∀ a∈A,a∈X) (f:Frm A h h') (hB:∀ b∈B,h.length<=b):∀ a o,a∉X -> h[a]?=some o -> a∉X++B/\h'[a]?=some o:=fun a o x y=>⟨by
 rw [List.mem_append];rintro (z | z)
 ·exact x z
 ·have:=hB a z;have:=qAK y;omega,(f.2 a (qAK y) fun z=>x (hs _ z)).trans y⟩
theorem qBf {A B:List Nat}:∀ (n:Nat) a,A[n]?=some a -> (A++B)[n]?=some a:=fun n a e=>by rw [List.getElem?_append_left (List.getElem?_eq_some_iff.mp e).1];exact e
theorem qGJ {gl:List T} {s:Src} {its:List T} {d:qCy} {g:Tg} {b:TS -> Mem -> RSt} {b':List (Option V) -> AH -> RS}
  (hb:∀ A X h M σ σh,RelM gl A X h M -> qBZ A X h σ σh -> SimS gl A X h (b σ M) (b' σh h)):∀ (r:List T) (i:Nat) (σ:TS) (σh:List (Option V)) (M:Mem) (h:AH) (A X:List Nat),
   its.drop i=r -> i<=its.length -> RelM gl A X h M -> qB0 A X h s its d -> qBZ A X h σ σh -> SimS gl A X h (qAj d g b r σ M) (qHP s g b' r.length i σh h)
 | [],i,σ,σh,M,h,A,X,hr,hi,R,sr,rs=>by
  have hi':i=its.length:=by
   have:=List.drop_eq_nil_iff.mp hr;omega
  subst hi'
  show SimS gl A X h (.ok (.nx σ,M)) (if qBc h its.length s then _ else _)
  rw [if_pos (qDq sr)]
  exact SimS.mk R rs
 | x::r,i,σ,σh,M,h,A,X,hr,hi,R,sr,rs=>by
  have ex:its[i]?=some x:=by
   have:(its.drop i)[0]?=some x:=by rw [hr];rfl
   rwa [List.getElem?_drop,Nat.add_zero] at this
  have hi2:i + 1<=its.length:=(List.getElem?_eq_some_iff.mp ex).1
  have hr2:its.drop (i + 1)=r:=by
   rw [<- List.drop_drop,hr];rfl
  obtain ⟨w,ext,ey,rx⟩:=qC0 R sr ex
  have fy:Frm A h (h++ext):=Frm.app A h ext
  rw [List.length_cons]
  unfold qAj qHP
  rw [ey]
  dsimp only
  cases es:qBI g x σ with
  | none=>exact SimS.stuck
  | some σ1=>
   obtain ⟨σh1,esh,rs1⟩:=qBv es rx (R.keepS fy rs)
   rw [esh]
   dsimp only
   refine SimS.bind ((hb A X _ M σ1 σh1 (R.up ext) rs1).pre fy) ?_
   intro o M2 oh h2 B f2 hB R2 ro
   have nxt:∀ σ2 σh2,qBZ (A++B) (X++B) h2 σ2 σh2 -> SimS gl (A++B) (X++B) h2 (if qAk d M2=true then qAj d g b r σ2 M2 else .stuck) (qHP s g b' r.length (i + 1) σh2 h2):=fun σ2 σh2 rs2=>by
    split
    ·rename_i hd
     exact qGJ hb r (i + 1) σ2 σh2 M2 h2 _ _ hr2 hi2 R2 (qCv sr (qFJ R.sub f2 hB) R2 hd qBf) rs2
    ·exact SimS.stuck
   cases o with
   | nx σ2=>cases oh<;>first | exact .inl (nxt _ _ ro) | exact ro.elim
   | ct σ2=>cases oh<;>first | exact .inl (nxt _ _ ro) | exact ro.elim
   | bk σ2=>cases oh<;>first | exact .inl (SimS.mk R2 ro) | exact ro.elim
   | rt t=>cases oh<;>first | exact .inr ⟨rfl,rfl⟩ | exact ro.elim
theorem qCc {gl:List T} {c:TS -> Mem -> PR (Bool×Mem)} {c':List (Option V) -> AH -> Res (Bool×AH)} {b:TS -> Mem -> RSt} {b':List (Option V) -> AH -> RS}
  (hc:∀ A X h M σ σh,RelM gl A X h M -> qBZ A X h σ σh -> Sim gl A X h (fun b b' _ _=>b=b') (c σ M) (c' σh h))
  (hb:∀ A X h M σ σh,RelM gl A X h M -> qBZ A X h σ σh -> SimS gl A X h (b σ M) (b' σh h)):∀ (n:Nat) (σ:TS) (σh:List (Option V)) (M:Mem) (h:AH) (A X:List Nat),
   RelM gl A X h M -> qBZ A X h σ σh -> SimS gl A X h (qA2 c b n σ M) (qBo c' b' n σh h)
 | 0,σ,σh,M,h,A,X,R,rs=>SimS.stuck
 | n + 1,σ,σh,M,h,A,X,R,rs=>by
  unfold qA2 qBo
  refine Sim.bindS (hc A X h M σ σh R rs) ?_
  rintro t M1 t' h1 f1 R1 rfl
  dsimp only
  cases t with
  | false=>exact SimS.mk R1 (R.keepS f1 rs)
  | true=>
   simp only [if_true]
   refine SimS.bind (hb A X h1 M1 σ σh R1 (R.keepS f1 rs)) ?_
   intro o M2 oh h2 B f2 hB R2 ro
   cases o with
   | nx σ2=>cases oh<;>first | exact .inl (qCc hc hb n _ _ M2 h2 _ _ R2 ro) | exact ro.elim
   | ct σ2=>cases oh<;>first | exact .inl (qCc hc hb n _ _ M2 h2 _ _ R2 ro) | exact ro.elim
   | bk σ2=>cases oh<;>first | exact .inl (SimS.mk R2 ro) | exact ro.elim
   | rt t=>cases oh<;>first | exact .inr ⟨rfl,rfl⟩ | exact ro.elim
section
variable {gl:List T} {P:Nat -> List T -> Mem -> PR (TB×Mem)} {F:Nat -> List V -> AH -> RV} (C:List Nat)
variable (hF:∀ f ts ws A X h M,RelM gl A X h M -> qAM A X h ts ws -> Sim gl A X h (QE gl A X h.length) (P f ts M) (F f ws h))
include hF
noncomputable def qOW (gl:List T) (A X:List Nat) (h:AH):PR (TB×Mem) -> RV -> Prop
 | .ok ((.lst ts,_),M1),r=>∃ h1 vs,r=.ok (.ref h1.length,h1++[.lst false vs])/\Frm A h h1/\RelM gl A X h1 M1/\qAM A X h1 ts vs
 | _,_=>True
omit hF in
theorem RelM.cellN {gl:List T} {A X:List Nat} {h:AH} {M:Mem} {ts:List T} {vs:List V} (R:RelM gl A X h M) (r:qAM A X h ts vs):RelM gl (A++[h.length]) (X++[h.length]) (h++[.lst false vs]) (M++[ts]):=by
 have hn:∀ a o,a∉X -> h[a]?=some o -> a∉X++[h.length]/\(h++[O.lst false vs])[a]?=some o:=qFJ R.sub (Frm.app A h _) (fun b hb=>by simp at hb;omega)
 refine ⟨by simp [R.len],?_,fun a ha=>?_,fun a ha=>?_,fun n a e=>?_,fun g t e=>qAv qBf hn t (R.glo g t e)⟩
 ·rw [List.nodup_append]
  refine ⟨R.nd,by simp,fun a ha b hb=>?_⟩
  have:=R.lt a (R.sub a ha)
  simp at hb
  omega
 ·rcases List.mem_append.mp ha with z | z
  ·exact List.mem_append_left _ (R.sub a z)
  ·exact List.mem_append_right _ z
 ·rcases List.mem_append.mp ha with z | z
  ·have:=R.lt a z;simp;omega
  ·simp at z;simp [z]
 ·by_cases hlt:n < A.length
  ·rw [List.getElem?_append_left hlt] at e
   obtain ⟨us,ws,e1,e2,e3⟩:=R.at_ n a e
   exact ⟨us,ws,by rw [List.getElem?_append_left (by rw [<- R.len];exact hlt)];exact e1,by rw [List.getElem?_append_left (qAK e2)];exact e2,qAL qBf hn us e3⟩
  ·have hl:=(List.getElem?_eq_some_iff.mp e).1
   have hnn:n=A.length:=by simp at hl;omega
   subst hnn
   simp at e
   subst e
   exact ⟨ts,vs,by rw [R.len];simp,by simp,qAL qBf hn ts r⟩
omit hF in
theorem qF4 {e:E} (h:qIw e=true):(∃ as,e=.lst as)\/∃ a b,e=.bin .add a b:=by
 unfold qIw at h
 split at h
 ·exact .inr ⟨_,_,rfl⟩
 ·exact .inl ⟨_,rfl⟩
 ·cases h
theorem qJ6 (e:E) (he:qIw e=true) (A X:List Nat) (h:AH) (M:Mem) (σ:TS) (σh:List (Option V)) (R:RelM gl A X h M) (rs:qBZ A X h σ σh):qOW gl A X h (pe gl P e σ M) (ev F e σh h):=by
 rcases qF4 he with ⟨as,rfl⟩ | ⟨a,b,rfl⟩
 ·rw [pe,ev];dsimp only
  have s1:=qCG hF as A X h M σ σh R rs
  revert s1
  generalize pes gl P as σ M=r
  generalize evs F as σh h=rh
  intro s1
  cases r with
  | stuck=>trivial
  | exc c M'=>trivial
  | ok p=>
   obtain ⟨x,M1⟩:=p
   obtain ⟨w,h1,rfl,f1,R1,q⟩:=s1
   rw [PR.bind_ok,Res.bind_ok]
   dsimp only
   rw [<- q.len]
   split
   ·exact ⟨h1,w,rfl,f1,R1,q.1⟩
   ·trivial
 ·rw [pe,ev];dsimp only
  have s1:=qAW hF a A X h M σ σh R rs
  revert s1
  generalize pe gl P a σ M=r
  generalize ev F a σh h=rh
  intro s1
  cases r with
  | stuck=>trivial
  | exc c M'=>trivial
  | ok p=>
   obtain ⟨x,M1⟩:=p
   obtain ⟨v,h1,rfl,f1,R1,q1⟩:=s1
   rw [PR.bind_ok,Res.bind_ok]
   dsimp only
   have s2:=qAW hF b A X h1 M1 σ σh R1 (R.keepS f1 rs)
   revert s2
   generalize pe gl P b σ M1=r
   generalize ev F b σh h1=rh
   intro s2
   cases r with
   | stuck=>trivial
   | exc c M'=>trivial
   | ok p=>
    obtain ⟨y,M2⟩:=p
    obtain ⟨w,h2,rfl,f2,R2,q2⟩:=s2
    rw [PR.bind_ok,Res.bind_ok]
    dsimp only
    have rx:=R1.keep f2 q1.1
    cases eb:qAd M2 .add x.1 y.1 with
    | none=>trivial
    | some r=>
     rw [PR.ofO_some,PR.bind_ok]
     unfold qAd at eb
     split at eb
     ·cases eb;trivial
     ·cases eb
     ·rename_i e1 e2
      dsimp only at eb
      split at eb
      ·split at eb
       ·cases eb;trivial
       ·cases eb
      rename_i u0 u1 u2
      clear u2
      obtain ⟨xs,m1,eb⟩:=Option.bind_eq_some_iff.mp eb
      obtain ⟨ys,m2,eb⟩:=Option.bind_eq_some_iff.mp eb
      split at eb
      ·rename_i hl
       cases eb
       obtain ⟨a1,vs,rfl,g1,k1⟩:=qG8 R2 rx m1
       obtain ⟨a2,us,rfl,g2,k2⟩:=qG8 R2 q2.1 m2
       refine ⟨h2,vs++us,?_,f1.trans f2,R2,reps_iff.mpr (qAz (reps_iff.mp k1) (reps_iff.mp k2))⟩
       show (match qAw h2 a1,qAw h2 a2 with | some xs,some ys=>if xs.length + ys.length<=lim then newL (xs++ys) h2 else .stuck | _,_=>_)=_
       rw [g1,g2]
       dsimp only
       rw [<- qAC (reps_iff.mp k1),<- qAC (reps_iff.mp k2),if_pos hl]
       rfl
      ·cases eb
     ·cases eb
mutual
theorem qM4:∀ (s:S) (A X:List Nat) (h:AH) (M:Mem) (σ:TS) (σh:List (Option V)),RelM gl A X h M -> qBZ A X h σ σh -> SimS gl A X h (px gl P C s σ M) (ex F s σh h)
 | .asg g e,A,X,h,M,σ,σh,R,rs=>by
  rw [px,ex];dsimp only
  have se:=qAW hF e A X h M σ σh R rs
  have tp:=fun he=>qJ6 hF e he A X h M σ σh R rs
  revert se tp
  generalize pe gl P e σ M=r
  generalize ev F e σh h=rh
  intro se tp
  cases r with
  | stuck=>trivial
  | exc c M'=>
   obtain ⟨h',rfl,f1,R1⟩:=se
   exact ⟨h',[],rfl,f1,fun b hb=>by simp at hb,by simpa using R1⟩
  | ok p=>
   obtain ⟨x,M1⟩:=p
   obtain ⟨w,h1,rfl,f1,R1,q⟩:=se
   rw [PR.bind_ok,Res.bind_ok]
   dsimp only
   have gen:∀ {g:Tg} {σ1:TS},qBI g x.1 σ=some σ1 -> SimS gl A X h (.ok (.nx σ1,M1)) (match store g w σh h1 with | some σ1=>.ok (.nx σ1,h1) | none=>.stuck):=fun e=>by
    obtain ⟨σh1,e2,rs2⟩:=qBv e q.1 (R.keepS f1 rs)
    rw [e2]
    exact (SimS.mk (o:=.nx _) (oh:=.nx _) R1 rs2).pre f1
   cases g with
   | name i=>
    dsimp only
    split
    ·rename_i hc
     rw [Bool.and_eq_true] at hc
     obtain ⟨fp,p,nd,l,R'⟩:=q.2 hc.2
     obtain ⟨R2,r2⟩:=R'.thaw R.sub p nd
     refine ⟨.nx (σh.set i (some w)),h1,fp,rfl,f1,l,R2,?_⟩
     exact qBV i (qBU qBf (qFJ R.sub f1 l) rs) (show qKG _ _ h1 (some _) (some w) from r2)
    ·split
     ·rename_i hc
      rw [Bool.and_eq_true] at hc
      have tp:=tp hc.2
      obtain ⟨x1,x2⟩:=x
      dsimp only
      split
      ·rename_i ts
       obtain ⟨h0,vs,e0,f0,R0,r0⟩:=tp
       cases e0
       refine ⟨.nx (σh.set i (some (.ref h0.length))),_,[h0.length],rfl,f0.trans (Frm.app A h0 _),fun b hb=>by simp at hb;have:=f0.1;omega,R0.cellN r0,?_⟩
       refine qBV i (qBU qBf (qFJ R0.sub (Frm.app A h0 _) (fun b hb=>by simp at hb;omega)) (R.keepS f0 rs)) (show qKG _ _ _ (some _) (some _) from ?_)
       have rc:Rep (A++[h0.length]) (X++[h0.length]) (h0++[O.lst false vs]) (.cell M1.length) (.ref h0.length):=by
        unfold Rep
        exact ⟨h0.length,by rw [<- R0.len];simp,rfl⟩
       exact rc
      ·exact SimS.stuck
     ·exact gen (g:=.name i) rfl
   | tup is=>
    dsimp only
    split
    ·rename_i σ1 e;exact gen e
    ·exact SimS.stuck
 | .put o i v,A,X,h,M,σ,σh,R,rs=>by
  rw [px,ex];dsimp only
  refine Sim.bindS (qAW hF v A X h M σ σh R rs) ?_
  intro x M1 vx h1 f1 R1 q1;dsimp only
  refine Sim.bindS (qAW hF o A X h1 M1 σ σh R1 (R.keepS f1 rs)) ?_
  intro y M2 w h2 f2 R2 q2;dsimp only
  refine Sim.bindS (qAW hF i A X h2 M2 σ σh R2 (R1.keepS f2 (R.keepS f1 rs))) ?_
  intro z M3 u h3 f3 R3 q3;dsimp only
  obtain ⟨ty,fy⟩:=y
  obtain ⟨tz,fz⟩:=z
  dsimp only
  split
  ·rename_i n k
   cases qAs q3.1
   have q:=R2.keep f3 q2.1
   unfold Rep at q
   obtain ⟨p,ep,rfl⟩:=q
   obtain ⟨ts2,vs2,g1,g2,g3⟩:=R3.at_ n p ep
   rw [g1]
   dsimp only
   rw [show qAw h3 p=some vs2 by unfold qAw;rw [g2]]
   dsimp only
   rw [<- qAC (reps_iff.mp g3)]
   split
   ·rename_i j ej
    try simp only [ej]
    obtain ⟨R4,f4⟩:=R3.put ep (reps_iff.mpr (qBV j (reps_iff.mp g3) (R2.keep f3 (R1.keep f2 q1.1))))
    exact (SimS.mk (o:=.nx σ) (oh:=.nx σh) R4 (R3.keepS f4 (R2.keepS f3 (R1.keepS f2 (R.keepS f1 rs))))).pre f4
   ·exact SimS.stuck
  ·exact SimS.stuck
 | .expr e,A,X,h,M,σ,σh,R,rs=>by
  rw [px,ex];dsimp only
  refine Sim.bindS (qAW hF e A X h M σ σh R rs) ?_
  intro x M1 v h1 f1 R1 q1;dsimp only
  exact SimS.mk (o:=.nx σ) (oh:=.nx σh) R1 (R.keepS f1 rs)
 | .ret e,A,X,h,M,σ,σh,R,rs=>by
  rw [px,ex];dsimp only
  have se:=qAW hF e A X h M σ σh R rs
  revert se
  generalize pe gl P e σ M=r
  generalize ev F e σh h=rh
  intro se
  cases r with
  | stuck=>trivial
  | exc c M'=>
   obtain ⟨h',rfl,f1,R1⟩:=se
   exact ⟨h',[],rfl,f1,fun b hb=>by simp at hb,by simpa using R1⟩
  | ok p=>
   obtain ⟨x,M1⟩:=p
   obtain ⟨w,h1,rfl,f1,R1,q⟩:=se
   exact ⟨.rt w,h1,[],rfl,f1,fun b hb=>by simp at hb,by simpa using R1,by simpa using (show RelO gl A X h.length h1 M1 (.rt x) (.rt w) from q)⟩
 | .ifs c t u,A,X,h,M,σ,σh,R,rs=>by
  rw [px,ex];dsimp only
  refine Sim.bindS (qFR (qAW hF c A X h M σ σh R rs)) ?_
  rintro x M1 v h1 f1 R1 rfl;dsimp only
  cases x with
  | true=>simp only [if_true];exact qCo t A X h1 M1 σ σh R1 (R.keepS f1 rs)
  | false=>simp only [Bool.false_eq_true,if_false];exact qCo u A X h1 M1 σ σh R1 (R.keepS f1 rs)
 | .for_ g it b,A,X,h,M,σ,σh,R,rs=>by
  rw [px,ex];dsimp only
  refine Sim.bindS (qIg hF it A X h M σ σh R rs) ?_
  intro s M1 sh h1 f1 R1 q1;dsimp only
  rw [qFF q1]
  exact qGJ (fun A X h M σ σh R rs=>qCo b A X h M σ σh R rs) s.1 0 σ σh M1 h1 A X rfl (Nat.zero_le _) R1 q1 (R.keepS f1 rs)
 | .while_ c b,A,X,h,M,σ,σh,R,rs=>by
  rw [px,ex];dsimp only
  exact qCc (fun A X h M σ σh R rs=>qFR (qAW hF c A X h M σ σh R rs)) (fun A X h M σ σh R rs=>qCo b A X h M σ σh R rs) qJO σ σh M h A X R rs
 | .stop,A,X,h,M,σ,σh,R,rs=>by rw [px,ex];exact SimS.stuck
theorem qCo:∀ (s:Ss) (A X:List Nat) (h:AH) (M:Mem) (σ:TS) (σh:List (Option V)),RelM gl A X h M -> qBZ A X h σ σh -> SimS gl A X h (pxs gl P C s σ M) (exs F s σh h)
 | .nil,A,X,h,M,σ,σh,R,rs=>by rw [pxs,exs];exact SimS.mk (o:=.nx σ) (oh:=.nx σh) R rs
 | .cons s r,A,X,h,M,σ,σh,R,rs=>by
  rw [pxs,exs];dsimp only
  refine SimS.bind (qM4 s A X h M σ σh R rs) ?_
  intro o M1 oh h1 B f1 hB R1 ro
  cases o with
  | nx σ2=>cases oh<;>first | exact .inl (qCo r _ _ h1 M1 _ _ R1 ro) | exact ro.elim
  | ct σ2=>cases oh<;>first | exact .inr ⟨rfl,rfl⟩ | exact ro.elim
  | bk σ2=>cases oh<;>first | exact .inr ⟨rfl,rfl⟩ | exact ro.elim
  | rt t=>cases oh<;>first | exact .inr ⟨rfl,rfl⟩ | exact ro.elim
end
end
end PI
namespace PI
open L2 (V)
section
variable {gl:List T} {A X B:List Nat} {h h':AH} {M M1:Mem}
theorem mapM_cons {α β:Type} {f:α -> Option β} {x:α} {xs:List α} {ys:List β} (e:(x::xs).mapM f=some ys):∃ y ys',f x=some y/\xs.mapM f=some ys'/\ys=y::ys':=by
 rw [List.mapM_cons] at e
 cases hf:f x with
 | none=>rw [hf] at e;cases e
 | some y=>
  rw [hf] at e
  cases hg:xs.mapM f with
  | none=>rw [hg] at e;cases e
  | some ys'=>rw [hg] at e;cases e;exact ⟨y,ys',rfl,rfl,rfl⟩
theorem mapM_nil {α β:Type} {f:α -> Option β} {ys:List β} (e:([]:List α).mapM f=some ys):ys=[]:=by
 rw [List.mapM_nil] at e;cases e;rfl
theorem qBu {A1 X1:List Nat} {f:T -> Option T} (hf:∀ t t' w,f t=some t' -> Rep A1 X1 h t w -> Rep A X h t' w):∀ {ts ts':List T} {vs:List V},ts.mapM f=some ts' -> qAM A1 X1 h ts vs -> qAM A X h ts' vs
 | [],ts',vs,e,r=>by cases mapM_nil e;unfold qAM at r ⊢;exact r
 | t::ts,ts',vs,e,r=>by
  obtain ⟨y,ys,e1,e2,rfl⟩:=mapM_cons e
  unfold qAM at r ⊢
  obtain ⟨v,vs',rfl,a,b⟩:=r
  exact ⟨v,vs',rfl,hf _ _ _ e1 a,qBu hf e2 b⟩
theorem qFi (R:RelM gl (A++B) (X++B) h M1) (hB:∀ b∈B,b∉X):∀ (d:Nat) (t t':T) (w:V),qAI M1 A.length d t=some t' -> Rep (A++B) (X++B) h t w -> Rep A X h t' w:=by
 have hu:∀ (t:T) (w:V),t.und A.length=true -> Rep (A++B) (X++B) h t w -> Rep A X h t w:=fun t w u r=>qGq (fun n hn=>List.getElem?_append_left hn) (fun a ha=>List.mem_append_left _ ha) t r u
 have hX:∀ a,a∉X++B -> a∉X:=fun a x z=>x (List.mem_append_left _ z)
 intro d
 induction d with
 | zero=>
  intro t t' w e r
  unfold qAI at e
  split at e
  ·rename_i u;cases e;exact hu _ w u r
  ·cases e
 | succ d ih=>
  intro t t' w e r
  unfold qAI at e
  split at e
  ·rename_i u;cases e;exact hu _ w u r
  ·rename_i u
   cases t with
   | v x=>cases e
   | ob o=>cases e
   | fz ts=>cases e
   | lst ts=>
    obtain ⟨ts',e1,rfl⟩:=Option.map_eq_some_iff.mp e
    unfold Rep at r ⊢
    obtain ⟨a,vs,rfl,q1,q2,q3⟩:=r
    exact ⟨a,vs,rfl,hX a q1,q2,qBu ih e1 q3⟩
   | tup ts=>
    obtain ⟨ts',e1,rfl⟩:=Option.map_eq_some_iff.mp e
    unfold Rep at r ⊢
    obtain ⟨a,vs,rfl,q1,q2,q3⟩:=r
    exact ⟨a,vs,rfl,hX a q1,q2,qBu ih e1 q3⟩
   | cell n=>
    obtain ⟨ts,e0,e⟩:=Option.bind_eq_some_iff.mp (show (M1[n]?).bind _=_ from e)
    obtain ⟨ts',e1,rfl⟩:=Option.map_eq_some_iff.mp e
    have hn:A.length<=n:=by
     unfold T.und at u;simpa using u
    unfold Rep at r ⊢
    obtain ⟨a,ea,rfl⟩:=r
    obtain ⟨ts2,vs,g1,g2,g3⟩:=R.at_ n a ea
    rw [e0] at g1;cases g1
    rw [List.getElem?_append_right hn] at ea
    exact ⟨a,vs,rfl,hB a (List.mem_of_getElem? ea),g2,qBu ih e1 g3⟩
mutual
theorem qFw (n:Nat):∀ (t:T),t.lf=true -> t.und n=true
 | .v x,_=>rfl
 | .cell _,l=>by unfold T.lf at l;cases l
 | .ob _,_=>rfl
 | .fz _,l=>by unfold T.lf at l;cases l
 | .lst _,l=>by unfold T.lf at l;cases l
 | .tup ts,l=>by unfold T.lf at l;unfold T.und;exact qEH n ts l
theorem qEH (n:Nat):∀ (ts:List T),T.lfs ts=true -> T.unds n ts=true
 | [],_=>rfl
 | t::ts,l=>by unfold T.lfs at l;rw [Bool.and_eq_true] at l;unfold T.unds;rw [qFw n t l.1,qEH n ts l.2];rfl
end
theorem qFt {n0:Nat} {f:T -> Option (List Nat)} (hf:∀ t l,f t=some l -> t.und n0=true -> t.lf=true):∀ {ts:List T} {ls:List (List Nat)},ts.mapM f=some ls -> T.unds n0 ts=true -> T.lfs ts=true
 | [],ls,e,u=>rfl
 | t::ts,ls,e,u=>by
  obtain ⟨y,ys,e1,e2,rfl⟩:=mapM_cons e
  unfold T.unds at u;rw [Bool.and_eq_true] at u
  unfold T.lfs
  rw [hf t _ e1 u.1,qFt hf e2 u.2];rfl
theorem qGF {n0:Nat}:∀ (d:Nat) (t:T) (l:List Nat),qA4 M1 n0 d t=some l -> t.und n0=true -> t.lf=true:=by
 intro d
 induction d with
 | zero=>intro t l e u;unfold qA4 at e;split at e<;>first | assumption | cases e
 | succ d ih=>
  intro t l e u
  unfold qA4 at e
  split at e
  ·assumption
  ·cases t with
   | tup ts=>
    obtain ⟨ls,e1,rfl⟩:=Option.map_eq_some_iff.mp e
    unfold T.und at u
    unfold T.lf
    exact qFt ih e1 u
   | cell n=>
    dsimp only at e
    split at e
    ·rename_i hn;unfold T.und at u;simp at u;omega
    ·cases e
   | v x=>cases e
   | ob o=>cases e
   | fz ts=>cases e
   | lst ts=>cases e
theorem qDD {A1 X1:List Nat} {n0:Nat} {f:T -> Option (List Nat)} {g:T -> Option T} (hf:∀ t l t' w,f t=some l -> g t=some t' -> Rep A1 X1 h t w -> ∃ fp,FP X h t' w fp/\fp.map some=l.map (A1[·]?)/\∀ n∈l,n0<=n):
  ∀ {ts ts':List T} {ls:List (List Nat)} {vs:List V},ts.mapM f=some ls -> ts.mapM g=some ts' -> qAM A1 X1 h ts vs -> ∃ fp,FPs X h ts' vs fp/\fp.map some=ls.flatten.map (A1[·]?)/\∀ n∈ls.flatten,n0<=n
 | [],ts',ls,vs,e,e',r=>by
  cases mapM_nil e;cases mapM_nil e'
  unfold qAM at r
  exact ⟨[],by unfold FPs;exact ⟨r,rfl⟩,rfl,fun n hn=>by simp at hn⟩
 | t::ts,ts',ls,vs,e,e',r=>by
  obtain ⟨y,ys,e1,e2,rfl⟩:=mapM_cons e
  obtain ⟨z,zs,e3,e4,rfl⟩:=mapM_cons e'
  unfold qAM at r
  obtain ⟨v,vs',rfl,a,b⟩:=r
  obtain ⟨f1,p1,q1,n1⟩:=hf _ _ _ _ e1 e3 a
  obtain ⟨f2,p2,q2,n2⟩:=qDD hf e2 e4 b
  refine ⟨f1++f2,by unfold FPs;exact ⟨v,vs',f1,f2,rfl,p1,p2,rfl⟩,by simp [q1,q2],fun n hn=>?_⟩
  rw [List.flatten_cons] at hn
  rcases List.mem_append.mp hn with z | z
  ·exact n1 n z
  ·exact n2 n z
theorem qCb {n0:Nat} {d:Nat} {t t':T} (u:t.und n0=true) (e:qAI M1 n0 d t=some t'):t'=t:=by
 cases d<;>(unfold qAI at e;rw [if_pos u] at e;cases e;rfl)
theorem qH7 (R:RelM gl (A++B) (X++B) h M1) (hB:∀ b∈B,b∉X):∀ (d:Nat) (t:T) (l:List Nat) (t':T) (w:V),qA4 M1 A.length d t=some l -> qAI M1 A.length d t=some t' -> Rep (A++B) (X++B) h t w ->
  ∃ fp,FP X h t' w fp/\fp.map some=l.map ((A++B)[·]?)/\∀ n∈l,A.length<=n:=by
 have hX:∀ a,a∉X++B -> a∉X:=fun a x z=>x (List.mem_append_left _ z)
 have lfc:∀ {d:Nat} {t t':T} {w:V},t.lf=true -> qAI M1 A.length d t=some t' -> Rep (A++B) (X++B) h t w -> ∃ fp:List Nat,FP X h t' w fp/\fp.map some=([]:List Nat).map ((A++B)[·]?)/\∀ n∈([]:List Nat),A.length<=n:=by
  intro d t t' w l e r
  cases qCb (qFw _ t l) e
  exact ⟨[],qCp (fun a o x y=>⟨hX a x,y⟩) _ (qJm _ r l),rfl,fun n hn=>by simp at hn⟩
 intro d
 induction d with
 | zero=>
  intro t l t' w e e' r
  unfold qA4 at e
  split at e
  ·rename_i hl;cases e;exact lfc hl e' r
  ·cases e
 | succ d ih=>
  intro t l t' w e e' r
  unfold qA4 at e
  split at e
  ·rename_i hl;cases e;exact lfc hl e' r
  ·rename_i hl
   have hu:t.und A.length≠true:=fun u=>hl (qGF (M1:=M1) (d + 1) t l (by unfold qA4;rw [if_neg hl];exact e) u)
   unfold qAI at e'
   rw [if_neg hu] at e'
   cases t with
   | tup ts=>
    obtain ⟨ls,e1,rfl⟩:=Option.map_eq_some_iff.mp e
    obtain ⟨ts',e2,rfl⟩:=Option.map_eq_some_iff.mp e'
    unfold Rep at r
    obtain ⟨a,vs,rfl,q1,q2,q3⟩:=r
    obtain ⟨fp,p1,p2,p3⟩:=qDD ih e1 e2 q3
    exact ⟨fp,by unfold FP;exact ⟨a,vs,rfl,hX a q1,q2,p1⟩,p2,p3⟩
   | cell n=>
    dsimp only at e e'
    split at e
    ·rename_i hn
     obtain ⟨ts,e0,e⟩:=Option.bind_eq_some_iff.mp e
     obtain ⟨ls,e1,rfl⟩:=Option.map_eq_some_iff.mp e
     rw [e0] at e'
     dsimp only [Option.bind_some] at e'
     obtain ⟨ts',e2,rfl⟩:=Option.map_eq_some_iff.mp e'
     unfold Rep at r
     obtain ⟨a,ea,rfl⟩:=r
     obtain ⟨ts2,vs,g1,g2,g3⟩:=R.at_ n a ea
     rw [e0] at g1;cases g1
     obtain ⟨fp,p1,p2,p3⟩:=qDD ih e1 e2 g3
     have ea2:=ea
     rw [List.getElem?_append_right hn] at ea2
     refine ⟨fp++[a],by unfold FP;exact ⟨a,vs,fp,rfl,hB a (List.mem_of_getElem? ea2),g2,p1,rfl⟩,?_,fun m hm=>?_⟩
     ·rw [List.map_append,List.map_append,p2]
      simp [ea]
     ·rcases List.mem_append.mp hm with z | z
      ·exact p3 m z
      ·simp at z;omega
    ·cases e
   | v x=>cases e
   | ob o=>cases e
   | fz ts=>cases e
   | lst ts=>cases e
theorem qC7 {X' Y:List Nat} (R:RelM gl (A++B) Y h M1) (hX:∀ a∈X',a∈Y) (hA:∀ a∈A,a∈X') (hc:(M1.take A.length).all (T.unds A.length)=true) (hg:∀ (g:Nat) t,gl[g]?=some t -> Rep A X' h t (.ref g)):RelM gl A X' h (M1.take A.length):=by
 have l:=R.len
 rw [List.length_append] at l
 refine ⟨by rw [List.length_take];omega,(List.nodup_append.mp R.nd).1,hA,fun a ha=>R.lt a (hX a ha),fun n a e=>?_,hg⟩
 have hn:=(List.getElem?_eq_some_iff.mp e).1
 obtain ⟨ts,vs,e1,e2,e3⟩:=R.at_ n a (qBf n a e)
 refine ⟨ts,vs,by rw [List.getElem?_take_of_lt hn];exact e1,e2,qBt (fun n hn=>List.getElem?_append_left hn) hX ts e3 ?_⟩
 rw [List.all_eq_true] at hc
 refine hc ts (List.mem_of_getElem? (i:=n) ?_)
 rw [List.getElem?_take_of_lt hn];exact e1
theorem qDv (R0:RelM gl A X h M) (f:Frm A h h') (hB:∀ b∈B,h.length<=b) (R:RelM gl (A++B) (X++B) h' M1) {x:TB} {w:V} (q:QE gl (A++B) (X++B) h.length x w h' M1):Sim gl A X h (QE gl A X h.length) (finish M.length x M1) (.ok (w,h')):=by
 have hBX:∀ b∈B,b∉X:=fun b z y=>by have:=hB b z;have:=R0.lt b y;omega
 have hX:∀ a,a∉X++B -> a∉X:=fun a x z=>x (List.mem_append_left _ z)
 have hg:∀ {Z:List Nat},(∀ a∈Z,h.length<=a) -> ∀ (g:Nat) t,gl[g]?=some t -> Rep A (X++Z) h' t (.ref g):=fun hZ g t e=>qAv (fun _ _ e=>e) (fun a o x y=>⟨by
   rw [List.mem_append];rintro (z | z)
   ·exact x z
   ·have:=hZ a z;have:=qAK y;omega,(R0.keepN f a o x y).2⟩) t (R0.glo g t e)
 unfold finish
 rw [<- R0.len]
 split
 ·rename_i hl
  have hB0:B=[]:=by
   have:=R.len
   rw [List.length_append,hl] at this
   exact List.length_eq_zero_iff.mp (by omega)
  subst hB0
  rw [List.append_nil,List.append_nil] at R q
  exact ⟨w,h',rfl,f,R,q⟩
 split
 ·rename_i hc
  refine Sim.ofO fun t' et=>?_
  have R':RelM gl A X h' (M1.take A.length):=by
   have:=qC7 (X':=X++[]) R (fun a ha=>by simp at ha;exact List.mem_append_left _ ha) (fun a ha=>by simp;exact R0.sub a ha) hc (hg fun a ha=>by simp at ha)
   simpa using this
  refine ⟨w,h',rfl,f,R',qFi R hBX 6 _ _ _ et q.1,fun e=>?_⟩
  rw [Bool.or_eq_true] at e
  rcases e with e | e
  ·obtain ⟨fp,p,nd,l,Rf⟩:=q.2 e
   cases qCb (qIJ A.length _ p) et
   refine ⟨fp,qCp (fun a o x y=>⟨hX a x,y⟩) _ p,nd,l,qC7 Rf (fun a ha=>?_) (fun a ha=>List.mem_append_left _ (R0.sub a ha)) hc (hg l)⟩
   rcases List.mem_append.mp ha with z | z
   ·exact List.mem_append_left _ (List.mem_append_left _ z)
   ·exact List.mem_append_right _ z
  ·unfold frR at e
   split at e
   ·rename_i l el
    have ndl:l.Nodup:=by simpa using e
    obtain ⟨fp,p,pm,pn⟩:=qH7 R hBX 6 _ _ _ _ el et q.1
    have fB:∀ a∈fp,a∈B:=fun a ha=>by
     have:some a∈fp.map some:=List.mem_map_of_mem ha
     rw [pm] at this
     obtain ⟨n,hn,en⟩:=List.mem_map.mp this
     rw [List.getElem?_append_right (pn n hn)] at en
     exact List.mem_of_getElem? en
    have nd:fp.Nodup:=by
     have:(fp.map some).Nodup:=by
      rw [pm]
      refine List.pairwise_map.mpr (List.Pairwise.imp_of_mem ?_ ndl)
      intro n m hn hm hnm e
      have:(A++B)[n]?∈fp.map some:=by rw [pm];exact List.mem_map_of_mem hn
      obtain ⟨a,_,ea⟩:=List.mem_map.mp this
      exact hnm ((List.getElem?_inj (List.getElem?_eq_some_iff.mp ea.symm).1 R.nd).mp e)
     exact (List.pairwise_map.mp this).imp fun {a b} z e=>z (by rw [e])
    refine ⟨fp,p,nd,fun a ha=>hB a (fB a ha),qC7 R (fun a ha=>?_) (fun a ha=>List.mem_append_left _ (R0.sub a ha)) hc (hg fun a ha=>hB a (fB a ha))⟩
    rcases List.mem_append.mp ha with z | z
    ·exact List.mem_append_left _ z
    ·exact List.mem_append_right _ (fB a z)
   ·cases e
 ·exact Sim.stuck
end
theorem qD0 {A X:List Nat} {h:AH} (n:Nat):∀ {ts:List T} {ws:List V},qAM A X h ts ws -> qBZ A X h (ts.map some++List.replicate n none) (ws.map some++List.replicate n none)
 | [],ws,r=>by
  unfold qAM at r;subst r
  show qBZ A X h (List.replicate n none) (List.replicate n none)
  induction n with
  | zero=>rfl
  | succ n ih=>exact ⟨none,_,rfl,trivial,ih⟩
 | t::ts,ws,r=>by
  unfold qAM at r
  obtain ⟨v,vs,rfl,a,b⟩:=r
  exact ⟨some v,_,rfl,a,qD0 n b⟩
theorem qKU (gl:List T) (tb:List Fn) (Cs:List (List Nat)):∀ (k f:Nat) (ts:List T) (ws:List V) (A X:List Nat) (h:AH) (M:Mem),RelM gl A X h M -> qAM A X h ts ws -> Sim gl A X h (QE gl A X h.length) (Pk gl tb Cs k f ts M) (Fk tb k f ws h)
 | 0,f,ts,ws,A,X,h,M,R,rs=>Sim.stuck
 | k + 1,f,ts,ws,A,X,h,M,R,rs=>by
  unfold Pk Fk
  cases ed:tb[f]? with
  | none=>exact Sim.stuck
  | some d=>
   dsimp only
   rw [<- qAC (reps_iff.mp rs)]
   split
   ·have s:=qCo (Cs.getD f []) (qKU gl tb Cs k) d.body A X h M _ _ R (qD0 (d.nslot - d.npar) rs)
    revert s
    generalize pxs gl (Pk gl tb Cs k) (Cs.getD f []) d.body (ts.map some++List.replicate (d.nslot - d.npar) none) M=r
    generalize exs (Fk tb k) d.body (ws.map some++List.replicate (d.nslot - d.npar) none) h=rh
    intro s
    cases r with
    | stuck=>exact Sim.stuck
    | exc c M1=>
     obtain ⟨h',B,rfl,f1,hB,R1⟩:=s
     show Sim gl A X h _ (if _ then _ else if _ then _ else _) _
     split
     ·rename_i hl
      have hB0:B=[]:=by
       have:=R1.len
       rw [List.length_append,hl,R.len] at this
       exact List.length_eq_zero_iff.mp (by omega)
      subst hB0
      rw [List.append_nil,List.append_nil] at R1
      exact ⟨h',rfl,f1,R1⟩
     split
     ·rename_i hc
      refine ⟨h',rfl,f1,?_⟩
      rw [<- R.len] at hc ⊢
      exact qC7 R1 (fun a ha=>List.mem_append_left _ ha) R.sub hc fun g t e=>R.keep f1 (R.glo g t e)
     ·exact Sim.stuck
    | ok p=>
     obtain ⟨o,M1⟩:=p
     obtain ⟨oh,h',B,rfl,f1,hB,R1,ro⟩:=s
     rw [Res.bind_ok]
     cases o with
     | nx σ=>
      cases oh<;>first | exact ro.elim | skip
      have r:Rep (A++B) (X++B) h' (.v .non) .non:=by unfold Rep;exact ⟨rfl,rfl⟩
      exact qDv R f1 hB R1 (show QE gl (A++B) (X++B) h.length (.v .non,true) .non h' M1 from ⟨r,fun _=>Frs.of_lf R1 r rfl⟩)
     | rt t=>
      cases oh<;>first | exact ro.elim | skip
      exact qDv R f1 hB R1 ro
     | bk σ=>exact Sim.stuck
     | ct σ=>exact Sim.stuck
   ·exact Sim.stuck
noncomputable def glT (gs:List O):List T:=gs.map fun o=>match o with | .tup xs=>.tup (xs.map .v) | .lst _ xs=>.fz (xs.map .v) | .ob _=>.v .non
noncomputable def qKM (gs:List O):Bool:=gs.all fun o=>match o with | .tup xs=>xs.all flat | _=>false
theorem qKc {gs:List O} {tb:List Fn} {Cs:List (List Nat)} {k i:Nat} {ns:List Int} {b:Bool} {M':Mem} (hg:qKM gs=true) (e:Pk (glT gs) tb Cs k i [.fz (ns.map fun n=>.v (.int n))] []=.ok ((.v (.bl true),b),M')):
  ∃ h',Fk tb k i [.ref gs.length] (gs++[.lst true (ns.map V.int)])=.ok (.bl true,h'):=by
 have R:RelM (glT gs) [] [] (gs++[.lst true (ns.map V.int)]) []:=by
  refine ⟨rfl,List.nodup_nil,fun a ha=>by simp at ha,fun a ha=>by simp at ha,fun n a e=>by simp at e,fun g t eg=>?_⟩
  unfold glT at eg
  rw [List.getElem?_map] at eg
  obtain ⟨o,eo,rfl⟩:=Option.map_eq_some_iff.mp eg
  unfold qKM at hg
  rw [List.all_eq_true] at hg
  have ho:=hg o (List.mem_of_getElem? eo)
  cases o with
  | lst _ _=>cases ho
  | ob _=>cases ho
  | tup xs=>
   dsimp only
   unfold Rep
   exact ⟨g,xs,rfl,by simp,by rw [List.getElem?_append_left (List.getElem?_eq_some_iff.mp eo).1];exact eo,qBq ho⟩
 have rs:qAM [] [] (gs++[O.lst true (ns.map V.int)]) [.fz (ns.map fun n=>.v (.int n))] [.ref gs.length]:=by
  unfold qAM
  refine ⟨_,[],rfl,?_,by unfold qAM;rfl⟩
  unfold Rep
  refine ⟨gs.length,ns.map V.int,rfl,by simp,by simp,?_⟩
  have:ns.map (fun n=>T.v (.int n))=(ns.map V.int).map .v:=by rw [List.map_map];rfl
  rw [this]
  exact qBq (by simp [flat])
 have s:=qKU (glT gs) tb Cs k i _ _ [] [] _ [] R rs
 rw [e] at s
 obtain ⟨w,h',e1,_,_,q⟩:=s
 cases qAs q.1
 exact ⟨h',e1⟩
end PI
namespace PI
open L2 (V)
noncomputable def qML (t:T):Option TB:=match t with | .v (.int i)=>some (iT (-i)) | _=>none
noncomputable def qMV (M:Mem) (p k x:T):Option Mem:=match p,k with
 | .cell n,.v (.int j)=>(M[n]?).bind fun xs=>(L2.ixN xs.length j).map fun j=>M.set n (xs.set j x)
 | _,_=>none
noncomputable def qIW (M:Mem) (n:Nat) (x:T):Option Mem:=(M[n]?).bind fun xs=>if xs.length < lim then some (M.set n (xs++[x])) else none
noncomputable def qJg (t:T):Option (List T):=match t with | .v (.int j)=>if -1000000<=j/\j<=100000 then some (qAf 0 j.toNat) else none | _=>none
noncomputable def qMI (t:T):Option (List T):=match t with | .v (.int j)=>if -1000000<=j/\j<=1000000 then some (qAf 0 j.toNat) else none | _=>none
noncomputable def qI3 (s t:T):Option (List T):=match s,t with | .v (.int i),.v (.int j)=>if (-1000000<=i/\i<=1000000)/\-1000000<=j/\j<=1000000 then some (qAf i (j - i).toNat) else none | _,_=>none
noncomputable def qIu (s t:T):Option (List T):=match s,t with | .v (.int i),.v (.int j)=>if (-1000000<=i/\i<=1000000)/\-1000000<=j/\j<=1000000 then some (qBy i (i - j).toNat) else none | _,_=>none
section
variable {gl:List T} {P:Nat -> List T -> Mem -> PR (TB×Mem)} {C:List Nat} {σ:TS} {M:Mem} {a b c e:E} {as lo hi:Es}
@[simp] theorem pe_var (i:Nat):pe gl P (.var i) σ M=match σ[i]? with | some (some t)=>.ok ((t,t.lf),M) | _=>.stuck:=Eq.trans rfl rfl
@[simp] theorem pe_int (i:Int):pe gl P (.cst (.int i)) σ M=.ok (iT i,M):=Eq.trans rfl rfl
@[simp] theorem pe_bl (i:Bool):pe gl P (.cst (.bl i)) σ M=.ok (bT i,M):=Eq.trans rfl rfl
@[simp] theorem pe_non:pe gl P (.cst .non) σ M=.ok ((.v .non,true),M):=Eq.trans rfl rfl
@[simp] theorem pe_str (s:PySem.Str):pe gl P (.cst (.str s)) σ M=.ok ((.v (.str s),true),M):=Eq.trans rfl rfl
@[simp] theorem pe_glob (g:Nat):pe gl P (.glob g) σ M=match gl[g]? with | some t=>.ok ((t,t.lf),M) | none=>.stuck:=Eq.trans rfl rfl
@[simp] theorem qOC (op:BOp):pe gl P (.bin op a b) σ M=(pe gl P a σ M).bind fun p=>(pe gl P b σ p.2).bind fun q=>(PR.ofO (qAd q.2 op p.1.1 q.1.1)).bind fun r=>.ok (r,q.2):=Eq.trans rfl rfl
@[simp] theorem qNo:pe gl P (.neg a) σ M=(pe gl P a σ M).bind fun p=>(PR.ofO (qML p.1.1)).bind fun r=>.ok (r,p.2):=by
 show PR.bind _ _=_
 dsimp only
 congr 1;funext p
 obtain ⟨⟨p1,p3⟩,p2⟩:=p
 dsimp only
 unfold qML
 cases p1<;>first | rfl | skip
 rename_i x
 cases x<;>rfl
@[simp] theorem qLl (op:COp):pe gl P (.cmp op a b) σ M=(pe gl P a σ M).bind fun p=>(pe gl P b σ p.2).bind fun q=>(PR.ofO (qAp q.2 op p.1.1 q.1.1)).bind fun r=>.ok (bT r,q.2):=Eq.trans rfl rfl
@[simp] theorem qMW (o1 o2:COp):pe gl P (.cmp2 o1 o2 a b c) σ M=(pe gl P a σ M).bind fun p=>(pe gl P b σ p.2).bind fun q=>(PR.ofO (qAp q.2 o1 p.1.1 q.1.1)).bind fun r=>
  if r=true then (pe gl P c σ q.2).bind fun z=>(PR.ofO (qAp z.2 o2 q.1.1 z.1.1)).bind fun r=>.ok (bT r,z.2) else .ok (bT false,q.2):=Eq.trans rfl rfl
@[simp] theorem pe_and:pe gl P (.and a b) σ M=(pB (pe gl P a σ M)).bind fun p=>if p.1=true then pe gl P b σ p.2 else .ok (bT false,p.2):=Eq.trans rfl rfl
@[simp] theorem pe_or:pe gl P (.or a b) σ M=(pB (pe gl P a σ M)).bind fun p=>if p.1=true then .ok (bT true,p.2) else pe gl P b σ p.2:=Eq.trans rfl rfl
@[simp] theorem pe_not:pe gl P (.not a) σ M=(pB (pe gl P a σ M)).bind fun p=>.ok (bT (!p.1),p.2):=Eq.trans rfl rfl
@[simp] theorem pe_call (f:Nat):pe gl P (.call f as) σ M=(pes gl P as σ M).bind fun p=>(P f (p.1.map (·.1)) p.2).nx:=Eq.trans rfl rfl
@[simp] theorem qLh (f:BF):pe gl P (.blt f as) σ M=(pes gl P as σ M).bind fun p=>(PR.ofO (qBz p.2 f (p.1.map (·.1)))).bind fun r=>.ok (r,p.2):=Eq.trans rfl rfl
@[simp] theorem qLB (ts:List String):pe gl P (.isi a ts) σ M=(pe gl P a σ M).bind fun p=>(PR.ofO (qAX p.2 p.1.1)).bind fun t=>.ok (bT (ts.any (qAx t)),p.2):=Eq.trans rfl rfl
@[simp] theorem qKP:pe gl P (.idx a b) σ M=(pe gl P a σ M).bind fun p=>(pe gl P b σ p.2).bind fun q=>(PR.ofO (qDU q.2 p.1.1 q.1.1)).bind fun r=>.ok (r,q.2):=Eq.trans rfl rfl
@[simp] theorem qOu:pe gl P (.sl a lo hi) σ M=(pe gl P a σ M).bind fun p=>(pes gl P lo σ p.2).bind fun l=>(pes gl P hi σ l.2).bind fun u=>
  (PR.ofO (p.1.1.its u.2)).bind fun xs=>(PR.ofO (qBB (l.1.map (·.1)))).bind fun i=>(PR.ofO (qBB (u.1.map (·.1)))).bind fun j=>(PR.ofO (qHi p.1.1 xs i.head? j.head?)).bind fun r=>.ok (r,u.2):=Eq.trans rfl rfl
@[simp] theorem qOB:pe gl P (.rev a) σ M=(pe gl P a σ M).bind fun p=>(PR.ofO (p.1.1.lis p.2)).bind fun xs=>.ok (lT xs.reverse,p.2):=Eq.trans rfl rfl
@[simp] theorem pe_lst:pe gl P (.lst as) σ M=(pes gl P as σ M).bind fun p=>if p.1.length<=lim then .ok ((.lst (p.1.map (·.1)),p.1.all (·.2)),p.2) else .stuck:=Eq.trans rfl rfl
@[simp] theorem pe_tup:pe gl P (.tup as) σ M=(pes gl P as σ M).bind fun p=>if p.1.length<=lim then .ok ((.tup (p.1.map (·.1)),p.1.all (·.2)),p.2) else .stuck:=Eq.trans rfl rfl
@[simp] theorem pe_comp (it:Itr) (src:List (Option Nat)) (g:Tg) (c:Es):pe gl P (.comp it src g c e) σ M=(pei gl P it σ M).bind fun p=>qAm p.1.2 g (pec gl P c) (pe gl P e) p.1.1 [] true (qCI src σ) p.2:=Eq.trans rfl rfl
@[simp] theorem qNx:pe gl P (.app a b) σ M=(pe gl P a σ M).bind fun p=>match p.1.1 with
  | .cell n=>(pe gl P b σ p.2).bind fun q=>(PR.ofO (qIW q.2 n q.1.1)).bind fun M'=>.ok ((.v .non,true),M')
  | _=>.stuck:=by
 show PR.bind _ _=_
 dsimp only
 congr 1;funext p
 obtain ⟨⟨p1,p3⟩,p2⟩:=p
 dsimp only
 cases p1<;>dsimp only
 congr 1;funext q
 obtain ⟨⟨q1,q3⟩,q2⟩:=q
 dsimp only
 unfold qIW
 rename_i n
 cases h:q2[n]? with
 | none=>rfl
 | some xs=>
  dsimp only [Option.bind_some]
  split<;>rfl
@[simp] theorem qNU:pe gl P (.lrng a) σ M=(pe gl P a σ M).bind fun p=>(PR.ofO (qJg p.1.1)).bind fun xs=>.ok ((.lst xs,true),p.2):=by
 show PR.bind _ _=_
 dsimp only
 congr 1;funext p
 obtain ⟨⟨p1,p3⟩,p2⟩:=p
 dsimp only
 unfold qJg
 cases p1<;>first | rfl | skip
 rename_i x
 cases x<;>first | rfl | skip
 dsimp only
 split<;>rfl
@[simp] theorem qM6:pe gl P .dnew σ M=.ok ((.ob (.dct []),true),M):=Eq.trans rfl rfl
@[simp] theorem qJV:pes gl P .nil σ M=.ok ([],M):=Eq.trans rfl rfl
@[simp] theorem qHx:pes gl P (.cons a as) σ M=(pe gl P a σ M).bind fun p=>(pes gl P as σ p.2).bind fun q=>.ok (p.1::q.1,q.2):=Eq.trans rfl rfl
@[simp] theorem qCE:pec gl P .nil σ M=.ok (true,M):=Eq.trans rfl rfl
@[simp] theorem qAg:pec gl P (.cons a as) σ M=pB (pe gl P a σ M):=Eq.trans rfl rfl
@[simp] theorem qH0:pei gl P (.list a) σ M=(pe gl P a σ M).bind fun p=>(PR.ofO (qFG p.2 p.1.1)).bind fun s=>.ok (s,p.2):=Eq.trans rfl rfl
@[simp] theorem qME:pei gl P (.rng1 a) σ M=(pe gl P a σ M).bind fun p=>(PR.ofO (qMI p.1.1)).bind fun xs=>.ok ((xs,[]),p.2):=by
 show PR.bind _ _=_
 dsimp only
 congr 1;funext p
 obtain ⟨⟨p1,p3⟩,p2⟩:=p
 dsimp only
 unfold qMI
 cases p1<;>first | rfl | skip
 rename_i x
 cases x<;>first | rfl | skip
 dsimp only
 split<;>rfl
@[simp] theorem qMB:pei gl P (.rng2 a b) σ M=(pe gl P a σ M).bind fun p=>(pe gl P b σ p.2).bind fun q=>(PR.ofO (qI3 p.1.1 q.1.1)).bind fun xs=>.ok ((xs,[]),q.2):=by
 show PR.bind _ _=_
 dsimp only
 congr 1;funext p;congr 1;funext q
 obtain ⟨⟨p1,p3⟩,p2⟩:=p
 obtain ⟨⟨q1,q3⟩,q2⟩:=q
 dsimp only
 unfold qI3
 cases p1<;>first | rfl | skip
 rename_i x
 cases x<;>first | rfl | skip
 cases q1<;>first | rfl | skip
 rename_i y
 cases y<;>first | rfl | skip
 dsimp only
 split<;>rfl
@[simp] theorem qL8:pei gl P (.rng3 a b) σ M=(pe gl P a σ M).bind fun p=>(pe gl P b σ p.2).bind fun q=>(PR.ofO (qIu p.1.1 q.1.1)).bind fun xs=>.ok ((xs,[]),q.2):=by
 show PR.bind _ _=_
 dsimp only
 congr 1;funext p;congr 1;funext q
 obtain ⟨⟨p1,p3⟩,p2⟩:=p
 obtain ⟨⟨q1,q3⟩,q2⟩:=q
 dsimp only
 unfold qIu
 cases p1<;>first | rfl | skip
 rename_i x
 cases x<;>first | rfl | skip
 cases q1<;>first | rfl | skip
 rename_i y
 cases y<;>first | rfl | skip
 dsimp only
 split<;>rfl
@[simp] theorem qJa:pei gl P (.zip a b) σ M=(pe gl P a σ M).bind fun p=>(pe gl P b σ p.2).bind fun q=>(PR.ofO (qHN q.2 p.1.1)).bind fun s=>(PR.ofO (qHN q.2 q.1.1)).bind fun t=>
  .ok ((List.zipWith (fun a b=>T.tup [a,b]) s.1 t.1,s.2++t.2),q.2):=Eq.trans rfl rfl
variable {s:S} {r t u:Ss}
@[simp] theorem qJl (i:Nat):px gl P C (.asg (.name i) e) σ M=(pe gl P e σ M).bind fun p=>if (C.contains i&&p.1.2)=true then .ok (.nx (σ.set i (some (thaw p.2.length p.1.1).1)),p.2++(thaw p.2.length p.1.1).2) else if (C.contains (i + 1000)&&qIw e)=true then (match p.1.1 with | .lst ts=>.ok (.nx (σ.set i (some (.cell p.2.length))),p.2++[ts]) | _=>.stuck) else .ok (.nx (σ.set i (some p.1.1)),p.2):=Eq.trans rfl rfl
@[simp] theorem qNl (is:List Nat):px gl P C (.asg (.tup is) e) σ M=(pe gl P e σ M).bind fun p=>match qBI (.tup is) p.1.1 σ with | some σ1=>.ok (.nx σ1,p.2) | none=>.stuck:=Eq.trans rfl rfl
@[simp] theorem qNh {o i v:E}:px gl P C (.put o i v) σ M=(pe gl P v σ M).bind fun x=>(pe gl P o σ x.2).bind fun p=>(pe gl P i σ p.2).bind fun k=>(PR.ofO (qMV k.2 p.1.1 k.1.1 x.1.1)).bind fun M'=>.ok (.nx σ,M'):=by
 show PR.bind _ _=_
 dsimp only
 congr 1;funext x;congr 1;funext p;congr 1;funext k
 obtain ⟨⟨k1,k3⟩,k2⟩:=k
 obtain ⟨⟨p1,p3⟩,p2⟩:=p
 dsimp only
 unfold qMV
 cases p1<;>first | rfl | skip
 rename_i n
 cases k1<;>first | rfl | skip
 rename_i y
 cases y<;>first | rfl | skip
 rename_i j
 dsimp only
 cases h:k2[n]? with
 | none=>rfl
 | some xs=>
  dsimp only [Option.bind_some]
  have hj:PI.ixN xs.length j=L2.ixN xs.length j:=rfl
  rw [hj]
  cases L2.ixN xs.length j with
  | none=>rfl
  | some j=>rfl
@[simp] theorem qMX:px gl P C (.expr e) σ M=(pe gl P e σ M).bind fun p=>.ok (.nx σ,p.2):=Eq.trans rfl rfl
@[simp] theorem qLZ:px gl P C (.ret e) σ M=(pe gl P e σ M).bind fun p=>.ok (.rt p.1,p.2):=Eq.trans rfl rfl
@[simp] theorem qLy:px gl P C (.ifs c t u) σ M=(pB (pe gl P c σ M)).bind fun p=>if p.1=true then pxs gl P C t σ p.2 else pxs gl P C u σ p.2:=Eq.trans rfl rfl
@[simp] theorem qKz (g:Tg) (it:Itr):px gl P C (.for_ g it t) σ M=(pei gl P it σ M).bind fun p=>qAj p.1.2 g (pxs gl P C t) p.1.1 σ p.2:=Eq.trans rfl rfl
@[simp] theorem qEn:px gl P C (.while_ c t) σ M=qA2 (fun σ M=>pB (pe gl P c σ M)) (pxs gl P C t) qJO σ M:=Eq.trans rfl rfl
@[simp] theorem qM8:px gl P C .stop σ M=.stuck:=Eq.trans rfl rfl
@[simp] theorem qMT:pxs gl P C .nil σ M=.ok (.nx σ,M):=Eq.trans rfl rfl
@[simp] theorem qC8:pxs gl P C (.cons s r) σ M=(px gl P C s σ M).bind fun p=>match p.1 with
  | .nx σ1=>pxs gl P C r σ1 p.2
  | o=>.ok (o,p.2):=Eq.trans rfl rfl
@[simp] theorem qMc (x:Bool):pB (.ok (bT x,M))=.ok (x,M):=Eq.trans rfl rfl
@[simp] theorem qPQ (x f:Bool):pB (.ok ((T.v (.bl x),f),M))=.ok (x,M):=Eq.trans rfl rfl
@[simp] theorem qMD:pB .stuck=.stuck:=Eq.trans rfl rfl
@[simp] theorem qMF {α β:Type} (c:Nat) (M:Mem) (f:α -> PR β):(PR.exc c M:PR α).bind f=.exc c M:=Eq.trans rfl rfl
end
@[simp] theorem qPc (x:V):T.lf (.v x)=true:=by rw [T.lf]
@[simp] theorem qGs (n:Nat):T.lf (.cell n)=false:=by rw [T.lf]<;>simp
@[simp] theorem qNg (xs:List T):T.lf (.lst xs)=false:=by rw [T.lf]<;>simp
@[simp] theorem qNb (xs:List T):T.lf (.tup xs)=T.lfs xs:=by rw [T.lf]
@[simp] theorem qNQ:T.lfs []=true:=by rw [T.lfs]
@[simp] theorem qC9 (x:T) (xs:List T):T.lfs (x::xs)=(x.lf&&T.lfs xs):=by rw [T.lfs]
@[simp] theorem iT1 (i:Int):(iT i).1=.v (.int i):=rfl
@[simp] theorem iT2 (i:Int):(iT i).2=true:=rfl
@[simp] theorem bT1 (i:Bool):(bT i).1=.v (.bl i):=rfl
@[simp] theorem bT2 (i:Bool):(bT i).2=true:=rfl
@[simp] theorem lT1 (xs:List T):(lT xs).1=.lst xs:=rfl
@[simp] theorem lT2 (xs:List T):(lT xs).2=T.lfs xs:=rfl
@[simp] theorem qOO (x:V):T.isV (.v x)=some x:=rfl
@[simp] theorem qMn (x:List T):T.isV (.lst x)=none:=rfl
@[simp] theorem qMb (x:List T):T.isV (.tup x)=none:=rfl
@[simp] theorem qL6 (x:Nat):T.isV (.cell x)=none:=rfl
section
variable {M:Mem} (i j:Int) (xs ys:List T)
@[simp] theorem qNX:qAd M .add (.v (.int i)) (.v (.int j))=some (iT (i + j)):=rfl
@[simp] theorem qLF:qAd M .sub (.v (.int i)) (.v (.int j))=some (iT (i - j)):=rfl
@[simp] theorem qJI:qAd M .band (.v (.int i)) (.v (.int j))=some (iT (PySem.Builtin.bitAnd i j)):=rfl
theorem qLT {i j:Int} (h:(-18446744073709551616 < i/\i < 18446744073709551616)\/(-18446744073709551616 < j/\j < 18446744073709551616)):qAd M .mul (.v (.int i)) (.v (.int j))=some (iT (i * j)):=by
 show (if (small i||small j||(mid i&&mid j))=true then _ else _)=_
 rw [if_pos]
 rcases h with h | h
 ·have:small i=true:=by unfold small two64;exact decide_eq_true h
  rw [this];rfl
 ·have:small j=true:=by unfold small two64;exact decide_eq_true h
  rw [this,Bool.or_true];rfl
theorem qIv {i j:Int} (h:0 < j/\j < 1073741824):qAd M .fdiv (.v (.int i)) (.v (.int j))=some (iT (i / j)):=by
 show (if 0 < j/\(j < 1073741824\/mid j=true) then _ else _)=_
 rw [if_pos ⟨h.1,.inl h.2⟩]
theorem qKR {i j:Int} (h:0 < j):qAd M .mod (.v (.int i)) (.v (.int j))=some (iT (i % j)):=by
 show (if 0 < j then _ else _)=_
 rw [if_pos h]
theorem qK3 {i j:Int} (h:0<=j/\j<=1000/\i.natAbs < 18446744073709551616):qAd M .pow (.v (.int i)) (.v (.int j))=some (iT (i ^ j.toNat)):=by
 show (if 0<=j/\j<=1000/\i.natAbs < 18446744073709551616 then _ else _)=_
 rw [if_pos h]
theorem qLt {i j:Int} (h:0<=j/\j<=1000):qAd M .shr (.v (.int i)) (.v (.int j))=some (iT (i / 2 ^ j.toNat)):=by
 show (if 0<=j/\j<=1000 then _ else _)=_
 rw [if_pos h]
theorem qDg {xs ys:List T} (h:xs.length + ys.length<=lim):qAd M .add (.lst xs) (.lst ys)=some (lT (xs++ys)):=by
 show (if xs.length + ys.length<=lim then _ else _)=_
 rw [if_pos h]
@[simp] theorem qNS:qAp M .lt (.v (.int i)) (.v (.int j))=some (decide (i < j)):=rfl
@[simp] theorem qNR:qAp M .le (.v (.int i)) (.v (.int j))=some (decide (i<=j)):=rfl
@[simp] theorem qMa:qAp M .gt (.v (.int i)) (.v (.int j))=some (decide (j < i)):=rfl
@[simp] theorem qND:qAp M .ge (.v (.int i)) (.v (.int j))=some (decide (j<=i)):=rfl
@[simp] theorem qM5:qAp M .eq (.v (.int i)) (.v (.int j))=some (decide (i=j)):=by
 show some (i==j)=_
 congr 1
@[simp] theorem qIR:qBz M .max [.v (.int i),.v (.int j)]=some (iT (if j > i then j else i)):=rfl
@[simp] theorem qLY:qBz M .min [.v (.int i),.v (.int j)]=some (iT (if j < i then j else i)):=rfl
@[simp] theorem qPL:qBz M .int [.v (.int i)]=some (iT i):=rfl
@[simp] theorem qPM:qAX M (.v (.int i))=some "int":=rfl
@[simp] theorem qPa (b:Bool):qAX M (.v (.bl b))=some "bool":=rfl
@[simp] theorem qPV:qAX M (.lst xs)=some "list":=rfl
@[simp] theorem qPi:qAX M (.tup xs)=some "tuple":=rfl
@[simp] theorem qPO (kvs:List (Int×V)):qAX M (.ob (.dct kvs))=some "dict":=rfl
@[simp] theorem qPX:qAX M (.v .non)=some "NoneType":=rfl
@[simp] theorem qOK:qFG M (.lst xs)=some (xs,[]):=rfl
@[simp] theorem qN5:qFG M (.tup xs)=some (xs,[]):=rfl
@[simp] theorem qNu:qFG M (.fz xs)=some (xs,[]):=rfl
@[simp] theorem qNn:qHN M (.lst xs)=some (xs,[]):=rfl
end
@[simp] theorem lk0 {α:Type} (x0:α) (l:List α):(x0::l)[0]?=some x0:=rfl
@[simp] theorem st0 {α:Type} (x0 y:α) (l:List α):(x0::l).set 0 y=y::l:=rfl
@[simp] theorem lk1 {α:Type} (x0 x1:α) (l:List α):(x0::x1::l)[1]?=some x1:=rfl
@[simp] theorem st1 {α:Type} (x0 x1 y:α) (l:List α):(x0::x1::l).set 1 y=x0::y::l:=rfl
@[simp] theorem lk2 {α:Type} (x0 x1 x2:α) (l:List α):(x0::x1::x2::l)[2]?=some x2:=rfl
@[simp] theorem st2 {α:Type} (x0 x1 x2 y:α) (l:List α):(x0::x1::x2::l).set 2 y=x0::x1::y::l:=rfl
@[simp] theorem lk3 {α:Type} (x0 x1 x2 x3:α) (l:List α):(x0::x1::x2::x3::l)[3]?=some x3:=rfl
@[simp] theorem st3 {α:Type} (x0 x1 x2 x3 y:α) (l:List α):(x0::x1::x2::x3::l).set 3 y=x0::x1::x2::y::l:=rfl
@[simp] theorem lk4 {α:Type} (x0 x1 x2 x3 x4:α) (l:List α):(x0::x1::x2::x3::x4::l)[4]?=some x4:=rfl
@[simp] theorem st4 {α:Type} (x0 x1 x2 x3 x4 y:α) (l:List α):(x0::x1::x2::x3::x4::l).set 4 y=x0::x1::x2::x3::y::l:=rfl
@[simp] theorem lk5 {α:Type} (x0 x1 x2 x3 x4 x5:α) (l:List α):(x0::x1::x2::x3::x4::x5::l)[5]?=some x5:=rfl
@[simp] theorem st5 {α:Type} (x0 x1 x2 x3 x4 x5 y:α) (l:List α):(x0::x1::x2::x3::x4::x5::l).set 5 y=x0::x1::x2::x3::x4::y::l:=rfl
@[simp] theorem lk6 {α:Type} (x0 x1 x2 x3 x4 x5 x6:α) (l:List α):(x0::x1::x2::x3::x4::x5::x6::l)[6]?=some x6:=rfl
@[simp] theorem st6 {α:Type} (x0 x1 x2 x3 x4 x5 x6 y:α) (l:List α):(x0::x1::x2::x3::x4::x5::x6::l).set 6 y=x0::x1::x2::x3::x4::x5::y::l:=rfl
@[simp] theorem lk7 {α:Type} (x0 x1 x2 x3 x4 x5 x6 x7:α) (l:List α):(x0::x1::x2::x3::x4::x5::x6::x7::l)[7]?=some x7:=rfl
@[simp] theorem st7 {α:Type} (x0 x1 x2 x3 x4 x5 x6 x7 y:α) (l:List α):(x0::x1::x2::x3::x4::x5::x6::x7::l).set 7 y=x0::x1::x2::x3::x4::x5::x6::y::l:=rfl
@[simp] theorem lk8 {α:Type} (x0 x1 x2 x3 x4 x5 x6 x7 x8:α) (l:List α):(x0::x1::x2::x3::x4::x5::x6::x7::x8::l)[8]?=some x8:=rfl
@[simp] theorem st8 {α:Type} (x0 x1 x2 x3 x4 x5 x6 x7 x8 y:α) (l:List α):(x0::x1::x2::x3::x4::x5::x6::x7::x8::l).set 8 y=x0::x1::x2::x3::x4::x5::x6::x7::y::l:=rfl
@[simp] theorem lk9 {α:Type} (x0 x1 x2 x3 x4 x5 x6 x7 x8 x9:α) (l:List α):(x0::x1::x2::x3::x4::x5::x6::x7::x8::x9::l)[9]?=some x9:=rfl
@[simp] theorem st9 {α:Type} (x0 x1 x2 x3 x4 x5 x6 x7 x8 x9 y:α) (l:List α):(x0::x1::x2::x3::x4::x5::x6::x7::x8::x9::l).set 9 y=x0::x1::x2::x3::x4::x5::x6::x7::x8::y::l:=rfl
@[simp] theorem qPS {α:Type} (x0 x1 x2 x3 x4 x5 x6 x7 x8 x9 x10:α) (l:List α):(x0::x1::x2::x3::x4::x5::x6::x7::x8::x9::x10::l)[10]?=some x10:=rfl
@[simp] theorem qPZ {α:Type} (x0 x1 x2 x3 x4 x5 x6 x7 x8 x9 x10 y:α) (l:List α):(x0::x1::x2::x3::x4::x5::x6::x7::x8::x9::x10::l).set 10 y=x0::x1::x2::x3::x4::x5::x6::x7::x8::x9::y::l:=rfl
@[simp] theorem qPf {α:Type} (x0 x1 x2 x3 x4 x5 x6 x7 x8 x9 x10 x11:α) (l:List α):(x0::x1::x2::x3::x4::x5::x6::x7::x8::x9::x10::x11::l)[11]?=some x11:=rfl
@[simp] theorem qPN {α:Type} (x0 x1 x2 x3 x4 x5 x6 x7 x8 x9 x10 x11 y:α) (l:List α):(x0::x1::x2::x3::x4::x5::x6::x7::x8::x9::x10::x11::l).set 11 y=x0::x1::x2::x3::x4::x5::x6::x7::x8::x9::x10::y::l:=rfl
@[simp] theorem qPb {α:Type} (x0 x1 x2 x3 x4 x5 x6 x7 x8 x9 x10 x11 x12:α) (l:List α):(x0::x1::x2::x3::x4::x5::x6::x7::x8::x9::x10::x11::x12::l)[12]?=some x12:=rfl
@[simp] theorem qPh {α:Type} (x0 x1 x2 x3 x4 x5 x6 x7 x8 x9 x10 x11 x12 y:α) (l:List α):(x0::x1::x2::x3::x4::x5::x6::x7::x8::x9::x10::x11::x12::l).set 12 y=x0::x1::x2::x3::x4::x5::x6::x7::x8::x9::x10::x11::y::l:=rfl
@[simp] theorem qPP {α:Type} (x0 x1 x2 x3 x4 x5 x6 x7 x8 x9 x10 x11 x12 x13:α) (l:List α):(x0::x1::x2::x3::x4::x5::x6::x7::x8::x9::x10::x11::x12::x13::l)[13]?=some x13:=rfl
@[simp] theorem qPY {α:Type} (x0 x1 x2 x3 x4 x5 x6 x7 x8 x9 x10 x11 x12 x13 y:α) (l:List α):(x0::x1::x2::x3::x4::x5::x6::x7::x8::x9::x10::x11::x12::x13::l).set 13 y=x0::x1::x2::x3::x4::x5::x6::x7::x8::x9::x10::x11::x12::y::l:=rfl
@[simp] theorem qPR {α:Type} (x0 x1 x2 x3 x4 x5 x6 x7 x8 x9 x10 x11 x12 x13 x14:α) (l:List α):(x0::x1::x2::x3::x4::x5::x6::x7::x8::x9::x10::x11::x12::x13::x14::l)[14]?=some x14:=rfl
@[simp] theorem qPW {α:Type} (x0 x1 x2 x3 x4 x5 x6 x7 x8 x9 x10 x11 x12 x13 x14 y:α) (l:List α):(x0::x1::x2::x3::x4::x5::x6::x7::x8::x9::x10::x11::x12::x13::x14::l).set 14 y=x0::x1::x2::x3::x4::x5::x6::x7::x8::x9::x10::x11::x12::x13::y::l:=rfl
@[simp] theorem qPd {α:Type} (x0 x1 x2 x3 x4 x5 x6 x7 x8 x9 x10 x11 x12 x13 x14 x15:α) (l:List α):(x0::x1::x2::x3::x4::x5::x6::x7::x8::x9::x10::x11::x12::x13::x14::x15::l)[15]?=some x15:=rfl
@[simp] theorem qPT {α:Type} (x0 x1 x2 x3 x4 x5 x6 x7 x8 x9 x10 x11 x12 x13 x14 x15 y:α) (l:List α):(x0::x1::x2::x3::x4::x5::x6::x7::x8::x9::x10::x11::x12::x13::x14::x15::l).set 15 y=x0::x1::x2::x3::x4::x5::x6::x7::x8::x9::x10::x11::x12::x13::x14::y::l:=rfl
theorem qAE {gl:List T} {tb:List Fn} {Cs:List (List Nat)} {k f:Nat} {vs:List T} {M:Mem} {np ns:Nat} {b:Ss} (ht:tb[f]?=some ⟨np,ns,b⟩) (hl:vs.length=np/\np<=ns) (hk:1<=k):
  Pk gl tb Cs k f vs M=qB8 M.length (pxs gl (Pk gl tb Cs (k - 1)) (Cs.getD f []) b (vs.map some++List.replicate (ns - np) none) M):=by
 obtain ⟨k,rfl⟩:∃ j,k=j + 1:=⟨k - 1,by omega⟩
 rw [Pk,ht]
 dsimp only
 rw [if_pos hl]
 rfl
theorem qAA {M M1:Mem} {t:TB} (h:M1.length=M.length):qB8 M.length (.ok (.rt t,M1))=.ok (t,M1):=by
 show finish M.length t M1=_
 unfold finish
 rw [if_pos h]
theorem qE2 {M M1:Mem} {σ:TS} (h:M1.length=M.length):qB8 M.length (.ok (.nx σ,M1))=.ok ((.v .non,true),M1):=by
 show finish M.length _ M1=_
 unfold finish
 rw [if_pos h]
noncomputable def N (n:Nat):T:=.v (.int (n:Int))
noncomputable def NL (L:List Nat):T:=.lst (L.map N)
theorem qHA (n:Nat):qAf 0 n=(List.range n).map N:=by
 unfold qAf N
 simp
theorem qJE (L:List Nat):T.lfs (L.map N)=true:=by
 induction L with
 | nil=>rfl
 | cons x L ih=>rw [List.map_cons,qC9,ih];rfl
theorem qN9 (n:Nat):(N n).lf=true:=by unfold N;rfl
theorem qEk {M:Mem} {d:Nat}:∀ (L K:List Nat),L.length=K.length -> qBH (eqT M d) (L.map N) (K.map N)=some (List.zipWith (fun (a b:Nat)=>decide (a=b)) L K)
 | [],[],_=>rfl
 | [],_::_,h=>by simp at h
 | _::_,[],h=>by simp at h
 | a::L,b::K,h=>by
  have e:eqT M d (N a) (N b)=some (decide (a=b)):=by
   have:eqF (.int (a:Int)) (.int (b:Int))=some (decide (a=b)):=by
    show some ((a:Int)==(b:Int))=_
    congr 1
    rw [Bool.eq_iff_iff,beq_iff_eq,decide_eq_true_eq]
    omega
   cases d<;>(unfold eqT;exact this)
  rw [List.map_cons,List.map_cons,qBH,e,qEk L K (by simpa using h)]
  rfl
theorem qHG:∀ (L K:List Nat),L.length=K.length -> ((List.zipWith (fun (a b:Nat)=>decide (a=b)) L K).all id=decide (L=K))
 | [],[],_=>rfl
 | [],_::_,h=>by simp at h
 | _::_,[],h=>by simp at h
 | a::L,b::K,h=>by
  rw [List.zipWith_cons_cons,List.all_cons,qHG L K (by simpa using h)]
  by_cases h1:a=b<;>by_cases h2:L=K<;>simp [h1,h2]
theorem qIh {M:Mem} {d:Nat} (L K:List Nat):eqT M (d + 1) (NL L) (NL K)=some (decide (L=K)):=by
 unfold eqT
 show (if (L.map N).length=(K.map N).length then (qBH (eqT M d) (L.map N) (K.map N)).map (fun bs=>bs.all id) else some false)=_
 rw [List.length_map,List.length_map]
 by_cases h:L.length=K.length
 ·rw [if_pos h,qEk L K h,Option.map_some,qHG L K h]
 ·rw [if_neg h]
  congr 1
  symm
  exact decide_eq_false (fun e=>h (by rw [e]))
theorem qN3 {M:Mem} (L K:List Nat):qAp M .eq (NL L) (NL K)=some (decide (L=K)):=qIh L K
theorem qEI {M:Mem} {L K:List Nat} (h:L.length + K.length<=lim):qAd M .add (NL L) (NL K)=some (NL (L++K),true):=by
 unfold NL
 rw [qDg (by simpa using h)]
 show some (T.lst (L.map N++K.map N),T.lfs (L.map N++K.map N))=_
 rw [<- List.map_append,qJE]
open L2 (V)
@[simp] theorem qLz {d:qCy} {g:Tg} {b:TS -> Mem -> RSt} {σ:TS} {M:Mem}:qAj d g b [] σ M=.ok (.nx σ,M):=rfl
@[simp] theorem qAV {i:Nat} {b:TS -> Mem -> RSt} {x:T} {r:List T} {σ:TS} {M:Mem}:qAj [] (.name i) b (x::r) σ M=(b (σ.set i (some x)) M).bind fun p=>match p.1 with
   | .nx σ2=>qAj [] (.name i) b r σ2 p.2
   | .ct σ2=>qAj [] (.name i) b r σ2 p.2
   | .bk σ2=>.ok (.nx σ2,p.2)
   | .rt t=>.ok (.rt t,p.2):=rfl
theorem qCn {c:TS -> Mem -> PR (Bool×Mem)} {e:TS -> Mem -> PR (TB×Mem)} {M:Mem} {σ:TS} (p:Nat -> Bool) (f:Nat -> T) (fr:Nat -> Bool):∀ (its:List Nat) (ys:List T) (b:Bool) (o:Option T),ys.length + its.length<=lim ->
  (∀ x∈its,c (some (N x)::σ) M=.ok (p x,M)) -> (∀ x∈its,p x=true -> e (some (N x)::σ) M=.ok ((f x,fr x),M)) ->
  qAm [] (.name 0) c e (its.map N) ys b (o::σ) M=.ok ((.lst (ys++(its.filter p).map f),b&&(its.filter p).all fr),M)
 | [],ys,b,o,hl,hc,he=>by simp [qAm]
 | x::r,ys,b,o,hl,hc,he=>by
  rw [List.map_cons]
  unfold qAm
  rw [show qBI (.name 0) (N x) (o::σ)=some (some (N x)::σ) from rfl]
  dsimp only
  rw [hc x (List.mem_cons_self ..)]
  rw [PR.bind_ok]
  dsimp only
  cases hp:p x with
  | true=>
   rw [if_pos rfl,he x (List.mem_cons_self ..) hp,PR.bind_ok]
   dsimp only
   rw [if_pos ⟨by simp at hl;omega,rfl⟩]
   rw [qCn p f fr r (ys++[f x]) (b&&fr x) (some (N x)) (by simp at hl ⊢;omega) (fun y hy=>hc y (List.mem_cons_of_mem _ hy)) (fun y hy=>he y (List.mem_cons_of_mem _ hy))]
   rw [List.filter_cons_of_pos hp]
   simp [Bool.and_assoc]
  | false=>
   rw [if_neg (by decide),if_pos (show qAk [] M=true from rfl)]
   rw [qCn p f fr r ys b (some (N x)) (by simp at hl ⊢;omega) (fun y hy=>hc y (List.mem_cons_of_mem _ hy)) (fun y hy=>he y (List.mem_cons_of_mem _ hy))]
   rw [List.filter_cons_of_neg (by rw [hp];decide)]
theorem qCa {c:TS -> Mem -> PR (Bool×Mem)} {e:TS -> Mem -> PR (TB×Mem)} {M:Mem} {σ:TS} {o:Option T} {its:List Nat} (p:Nat -> Bool) (g:Nat -> Nat) (hl:its.length<=lim)
  (hc:∀ x∈its,c (some (N x)::σ) M=.ok (p x,M)) (he:∀ x∈its,p x=true -> e (some (N x)::σ) M=.ok ((N (g x),true),M)):
  qAm [] (.name 0) c e (its.map N) [] true (o::σ) M=.ok ((NL ((its.filter p).map g),true),M):=by
 rw [qCn p (fun x=>N (g x)) (fun _=>true) its [] true o (by simpa using hl) hc he]
 unfold NL
 simp
@[simp] theorem qIc {M:Mem} (a b:Nat):qAd M .add (N a) (N b)=some (N (a + b),true):=by unfold N;simp [iT]
theorem qA8 (L:List Nat):T.lf (NL L)=false:=by unfold NL;simp
open L2 (V)
noncomputable def nE (n:Nat):E:=.cst (.int (n:Int))
@[simp] theorem qOw {gl:List T} {P:Nat -> List T -> Mem -> PR (TB×Mem)} {σ:TS} {M:Mem} (n:Nat):pe gl P (nE n) σ M=.ok ((N n,true),M):=by unfold nE;rw [pe_int];rfl
section
variable {M:Mem} (a b:Nat) (xs:List T)
@[simp] theorem lfN:(N a).lf=true:=qN9 a
@[simp] theorem qOS:(N a).isV=some (.int (a:Int)):=rfl
@[simp] theorem qPU:qAX M (N a)=some "int":=rfl
@[simp] theorem qO8 (L:List Nat):qAX M (NL L)=some "list":=rfl
theorem qBG {a b:Nat} (h:b<=a):qAd M .sub (N a) (N b)=some (N (a - b),true):=by
 unfold N;rw [qLF];unfold iT;rw [Int.ofNat_sub h]
theorem qCf {a b:Nat} (h:a < 18446744073709551616\/b < 18446744073709551616):qAd M .mul (N a) (N b)=some (N (a * b),true):=by
 unfold N;rw [qLT (by omega)];unfold iT;simp
theorem qEM {a b:Nat} (h:0 < b/\b < 1073741824):qAd M .fdiv (N a) (N b)=some (N (a / b),true):=by
 unfold N;rw [qIv (by omega)];unfold iT;simp
theorem qCd {a b:Nat} (h:0 < b):qAd M .mod (N a) (N b)=some (N (a % b),true):=by
 unfold N;rw [qKR (by omega)];unfold iT;simp
theorem qIM {a b:Nat} (h:b<=1000/\a < 1000000):qAd M .pow (N a) (N b)=some (N (a ^ b),true):=by
 unfold N;rw [qK3 (by omega)];unfold iT;simp
theorem qK8 {a b:Nat} (h:b<=1000):qAd M .shr (N a) (N b)=some (N (a / 2 ^ b),true):=by
 unfold N;rw [qLt (by omega)];unfold iT;simp
@[simp] theorem qOs:qAp M .lt (N a) (N b)=some (decide (a < b)):=by unfold N;rw [qNS];simp
@[simp] theorem qOt:qAp M .le (N a) (N b)=some (decide (a<=b)):=by unfold N;rw [qNR];simp
@[simp] theorem qNE:qAp M .gt (N a) (N b)=some (decide (b < a)):=by unfold N;rw [qMa];simp
@[simp] theorem qO7:qAp M .ge (N a) (N b)=some (decide (b<=a)):=by unfold N;rw [qND];simp
@[simp] theorem qMp:qAp M .eq (N a) (N b)=some (decide (a=b)):=by unfold N;rw [qM5];congr 1;rw [Bool.eq_iff_iff,decide_eq_true_eq,decide_eq_true_eq];omega
@[simp] theorem qM9:qAp M .ne (N a) (N b)=some (!decide (a=b)):=by
 show ((eqT M 4 (N a) (N b)).map (!·))=_
 rw [show eqT M 4 (N a) (N b)=some (decide (a=b)) from qMp (M:=M) a b];rfl
@[simp] theorem qGa:qDU M (.lst xs) (N a)=(xs[a]?).map fun t=>(t,t.lf):=by
 show ((L2.ixN xs.length (a:Int)).bind fun j=>(xs[j]?).map fun t=>(t,t.lf))=_
 unfold L2.ixN
 rw [if_pos (by omega)]
 split
 ·simp
 ·rw [List.getElem?_eq_none (by omega)];rfl
@[simp] theorem qNr:qDU M (.tup xs) (N a)=(xs[a]?).map fun t=>(t,t.lf):=by
 show ((L2.ixN xs.length (a:Int)).bind fun j=>(xs[j]?).map fun t=>(t,t.lf))=_
 unfold L2.ixN
 rw [if_pos (by omega)]
 split
 ·simp
 ·rw [List.getElem?_eq_none (by omega)];rfl
@[simp] theorem qK6:qBz M .len [.lst xs]=some (N xs.length,true):=rfl
@[simp] theorem qNa:qBz M .len [.tup xs]=some (N xs.length,true):=rfl
@[simp] theorem qNv:qBz M .len [.fz xs]=some (N xs.length,true):=rfl
@[simp] theorem qII (L:List Nat):qBz M .len [NL L]=some (N L.length,true):=by unfold NL;rw [qK6,List.length_map]
@[simp] theorem qNj:qBz M .max [N a,N b]=some (N (max a b),true):=by
 unfold N;rw [qIR];unfold iT
 congr 4
 split<;>omega
@[simp] theorem qOM:qBz M .min [N a,N b]=some (N (min a b),true):=by
 unfold N;rw [qLY];unfold iT
 congr 4
 split<;>omega
@[simp] theorem qOv:qBz M .int [N a]=some (N a,true):=rfl
@[simp] theorem qNc (t:Bool):qBz M .int [.v (.bl t)]=some (N t.toNat,true):=by cases t<;>rfl
@[simp] theorem qKk:qBz M .bits [N a]=some (N (PySem.Builtin.Int.intBits (a:Int)),true):=rfl
theorem qDH:qAd M .band (N a) (N b)=some (N (a&&& b),true):=by
 unfold N;rw [qJI];unfold iT;rfl
end
theorem qAe {n:Nat} (hn:n<=1000000):qMI (N n)=some ((List.range n).map N):=by
 show (if -1000000<=(n:Int)/\(n:Int)<=1000000 then some (qAf 0 (n:Int).toNat) else none)=_
 rw [if_pos (by omega),Int.toNat_natCast,qHA]
theorem qDN {n:Nat} (hn:n<=100000):qJg (N n)=some ((List.range n).map N):=by
 show (if -1000000<=(n:Int)/\(n:Int)<=100000 then some (qAf 0 (n:Int).toNat) else none)=_
 rw [if_pos (by omega),Int.toNat_natCast,qHA]
theorem qEa {a b:Nat} (hn:a<=b/\b<=1000000):qI3 (N a) (N b)=some ((List.range' a (b - a)).map N):=by
 show (if _ then some (qAf (a:Int) ((b:Int) - (a:Int)).toNat) else none)=_
 rw [if_pos (by omega),show ((b:Int) - (a:Int)).toNat=b - a by omega]
 unfold qAf
 rw [List.range'_eq_map_range,List.map_map]
 congr 1
theorem qHz {M:Mem} {n:Nat} {xs:List T} {x:T} (h:M[n]?=some xs) (hl:xs.length < lim):qIW M n x=some (M.set n (xs++[x])):=by
 unfold qIW
 rw [h]
 show (if xs.length < lim then _ else _)=_
 rw [if_pos hl]
@[simp] theorem qLw (n a:Nat):thaw n (N a)=(N a,[]):=by unfold N;simp [thaw]
@[simp] theorem qOE {M:Mem} (L:List Nat):qFG M (NL L)=some (L.map N,[]):=rfl
@[simp] theorem qN8 {M:Mem} (x f:Bool):pB (PR.ok ((T.v (V.bl x),f),M))=.ok (x,M):=Eq.trans rfl rfl
open L2 (V)
theorem qA3 {α:Type}:∀ l:List α,l.filter (fun _=>true)=l
 | []=>rfl
 | x::l=>by rw [List.filter_cons_of_pos rfl,qA3 l]
theorem qCC {gl:List T} {P:Nat -> List T -> Mem -> PR (TB×Mem)} {e:TS -> Mem -> PR (TB×Mem)} {M:Mem} {σ:TS} {o:Option T} {its:List Nat} (g:Nat -> Nat) (hl:its.length<=lim)
  (he:∀ x∈its,e (some (N x)::σ) M=.ok ((N (g x),true),M)):qAm [] (.name 0) (pec gl P .nil) e (its.map N) [] true (o::σ) M=.ok ((NL (its.map g),true),M):=
 (qCa (fun _=>true) g hl (fun x _=>by simp) (fun x hx _=>he x hx)).trans (by rw [qA3])
open L2 (V)
@[simp] theorem qOU {M:Mem} {n j:Nat} {x:T}:qMV M (.cell n) (N j) x=(M[n]?).bind fun xs=>if j < xs.length then some (M.set n (xs.set j x)) else none:=by
 show ((M[n]?).bind fun xs=>(L2.ixN xs.length (j:Int)).map fun j=>M.set n (xs.set j x))=_
 congr 1
 funext xs
 unfold L2.ixN
 rw [if_pos (by omega)]
 by_cases h:j < xs.length
 ·rw [if_pos (by omega),if_pos h];simp
 ·rw [if_neg (by omega),if_neg h];rfl
@[simp] theorem qMl {M:Mem} {n a:Nat}:qDU M (.cell n) (N a)=(M[n]?).bind fun xs=>(xs[a]?).map fun t=>(t,t.lf):=by
 show ((M[n]?).bind fun xs=>(L2.ixN xs.length (a:Int)).bind fun j=>(xs[j]?).map fun t=>(t,t.lf))=_
 congr 1
 funext xs
 exact qGa (M:=M) a xs
open L2 (V)
@[simp] theorem qOG (a:Nat):qML (N a)=some (iT (-(a:Int))):=rfl
@[simp] theorem qOL (a:Int):qML (.v (.int a))=some (iT (-a)):=rfl
@[simp] theorem qOj (a:Nat):qBB [N a]=some [(a:Int)]:=rfl
@[simp] theorem qOz:qBB []=some []:=rfl
@[simp] theorem qMU {M:Mem} (xs:List T):T.its M (.lst xs)=some xs:=rfl
@[simp] theorem qOb {M:Mem} (xs:List T):T.its M (.fz xs)=some xs:=rfl
@[simp] theorem qOn {M:Mem} (xs:List T):T.its M (.tup xs)=some xs:=rfl
@[simp] theorem qJh {M:Mem} (L:List Nat):T.its M (NL L)=some (L.map N):=rfl
@[simp] theorem qOA (ys xs:List T) (lo hi:Option Int):qHi (.lst ys) xs lo hi=some (lT (qBn xs lo hi)):=rfl
@[simp] theorem qNs (ys xs:List T) (lo hi:Option Int):qHi (.fz ys) xs lo hi=some (lT (qBn xs lo hi)):=rfl
@[simp] theorem qNq (L:List Nat) (xs:List T) (lo hi:Option Int):qHi (NL L) xs lo hi=some (lT (qBn xs lo hi)):=rfl
@[simp] theorem qOD (n:Nat) (xs:List T) (lo hi:Option Int):qHi (.cell n) xs lo hi=some (lT (qBn xs lo hi)):=rfl
@[simp] theorem qOV {M:Mem} (xs:List T):T.lis M (.lst xs)=some xs:=rfl
@[simp] theorem qOl {M:Mem} (xs:List T):T.lis M (.fz xs)=some xs:=rfl
@[simp] theorem qMh {M:Mem} (L:List Nat):T.lis M (NL L)=some (L.map N):=rfl
theorem qJ5 (xs:List T) (k:Nat):qBn xs (some (k:Int)) (some ((k + 1:Nat):Int))=(xs.drop k).take 1:=by
 unfold qBn
 rw [HT.sIx_nat,HT.sIx_nat]
 by_cases h:k < xs.length
 ·rw [Nat.min_eq_left (by omega),Nat.min_eq_left (by omega),show k + 1 - k=1 by omega]
 ·rw [Nat.min_eq_right (by omega),Nat.min_eq_right (by omega),List.drop_eq_nil_of_le (Nat.le_refl _),List.drop_eq_nil_of_le (by omega)]
  simp
open L2 (V)
@[simp] theorem qMA (i j:Nat) (a b:T) (σ:TS):qBI (.tup [i,j]) (.tup [a,b]) σ=some ((σ.set i (some a)).set j (some b)):=rfl
@[simp] theorem qFe (σ:TS):qCI [] σ=[]:=rfl
@[simp] theorem qER (r:List (Option Nat)) (σ:TS):qCI (none::r) σ=none::qCI r σ:=rfl
@[simp] theorem qEh (j:Nat) (r:List (Option Nat)) (σ:TS):qCI (some j::r) σ=(σ[j]?).join::qCI r σ:=rfl
open L2 (V)
theorem qF8 (x:V) (f:Bool) (M1:Mem):∃ b M2,qB8 ([]:Mem).length (.ok (.rt (.v x,f),M1))=.ok ((.v x,b),M2):=by
 show ∃ b M2,finish 0 (.v x,f) M1=_
 unfold finish
 by_cases h:M1.length=0
 ·rw [if_pos h];exact ⟨f,M1,rfl⟩
 ·rw [if_neg h,if_pos (by simp)]
  rw [show qAI M1 0 6 (T.v x)=some (.v x) by unfold qAI;rw [if_pos (by unfold T.und;rfl)]]
  exact ⟨_,_,rfl⟩
open L2 (V)
mutual
theorem qH5:∀ t:T,T.beq t t=true
 | .v x=>by unfold T.beq;simp
 | .cell x=>by unfold T.beq;simp
 | .ob x=>by unfold T.beq;simp
 | .fz xs=>by unfold T.beq;exact qBL xs
 | .lst xs=>by unfold T.beq;exact qBL xs
 | .tup xs=>by unfold T.beq;exact qBL xs
theorem qBL:∀ ts:List T,T.beqs ts ts=true
 | []=>rfl
 | t::ts=>by unfold T.beqs;rw [qH5 t,qBL ts];rfl
end
mutual
theorem qHR {a b:Nat} (h:a<=b):∀ t:T,t.und a=true -> t.und b=true
 | .v x,_=>rfl
 | .cell k,e=>by unfold T.und at e ⊢;simp at e ⊢;omega
 | .ob x,_=>rfl
 | .fz xs,e=>by unfold T.und at e ⊢;exact qA5 h xs e
 | .lst xs,e=>by unfold T.und at e ⊢;exact qA5 h xs e
 | .tup xs,e=>by unfold T.und at e ⊢;exact qA5 h xs e
theorem qA5 {a b:Nat} (h:a<=b):∀ ts:List T,T.unds a ts=true -> T.unds b ts=true
 | [],_=>rfl
 | t::ts,e=>by unfold T.unds at e ⊢;rw [Bool.and_eq_true] at e;rw [qHR h t e.1,qA5 h ts e.2];rfl
end
noncomputable def FlatM (M:Mem):Prop:=∀ c∈M,T.unds 0 c=true
theorem FlatM.all {M:Mem} (h:FlatM M) (n:Nat):M.all (T.unds n)=true:=by
 rw [List.all_eq_true]
 exact fun c hc=>qA5 (Nat.zero_le _) c (h c hc)
theorem FlatM.app {A B:Mem} (h:FlatM A) (k:FlatM B):FlatM (A++B):=fun c hc=>by
 rcases List.mem_append.mp hc with z | z
 ·exact h c z
 ·exact k c z
theorem qFb (n a:Nat):(N a).und n=true:=by unfold N T.und;rfl
theorem qD8 (n:Nat):∀ L:List Nat,T.unds n (L.map N)=true
 | []=>rfl
 | x::L=>by rw [List.map_cons];unfold T.unds;rw [qFb,qD8 n L];rfl
theorem qCB {M:Mem} {n0 d:Nat}:∀ L:List Nat,(L.map N).mapM (qAI M n0 d)=some (L.map N)
 | []=>rfl
 | x::L=>by
  rw [List.map_cons,List.mapM_cons,qCB L]
  have:qAI M n0 d (N x)=some (N x):=by cases d<;>(unfold qAI;rw [if_pos (qFb _ _)])
  rw [this];rfl
theorem qHE {M:Mem} {n0 d:Nat}:∀ L:List Nat,(L.map N).mapM (qA4 M n0 d)=some (L.map fun _=>[])
 | []=>rfl
 | x::L=>by
  rw [List.map_cons,List.mapM_cons,qHE L]
  have:qA4 M n0 d (N x)=some []:=by cases d<;>(unfold qA4;rw [if_pos (qN9 _)])
  rw [this];rfl
theorem qGz (L:List Nat):(L.map fun _=>([]:List Nat)).flatten=[]:=by
 induction L with
 | nil=>rfl
 | cons x L ih=>rw [List.map_cons,List.flatten_cons,ih];rfl
open L2 (V)
theorem qFv (n:Nat):∀ L:List Nat,qCJ n (L.map N)=(L.map N,[])
 | []=>by simp [qCJ]
 | x::L=>by
  rw [List.map_cons,qCJ,qLw]
  dsimp only
  rw [List.length_nil,Nat.add_zero,qFv n L]
  rfl
@[simp] theorem qJH (n:Nat) (L:List Nat):thaw n (NL L)=(.cell n,[L.map N]):=by
 unfold NL
 rw [thaw,qFv]
 rfl
theorem qIQ {M:Mem} {n:Nat} {ts:List T} (h:M[n]?=some ts):qAk [(n,ts)] M=true:=by
 unfold qAk
 simp [h,qBL]
theorem qEm {M:Mem} {n:Nat} {ts:List T} (h:M[n]?=some ts):qFG M (.cell n)=some (ts,[(n,ts)]):=by
 unfold qFG;dsimp only;rw [h];rfl
theorem qNz {M:Mem} {n:Nat} {ts:List T} (h:M[n]?=some ts):qAX M (.cell n)=some "list":=by
 unfold qAX;dsimp only;rw [h];rfl
open L2 (V)
structure IsL (M:Mem) (t:T) (L:List Nat):Prop where
 its:t.its M=some (L.map N)
 lis:t.lis M=some (L.map N)
 ty:qAX M t=some "list"
 src:∃ d,qFG M t=some (L.map N,d)/\qHN M t=some (L.map N,d)/\qAk d M=true
 nv:t.isV=none
theorem IsL.nl (M:Mem) (L:List Nat):IsL M (NL L) L:=⟨rfl,rfl,rfl,⟨[],rfl,rfl,rfl⟩,rfl⟩
theorem IsL.cell {M:Mem} {n:Nat} {L:List Nat} (h:M[n]?=some (L.map N)):IsL M (.cell n) L:=⟨h,h,qNz h,⟨_,qEm h,qEm h,qIQ h⟩,rfl⟩
section
variable {M:Mem} {t u:T} {L K:List Nat}
theorem IsL.len (h:IsL M t L):qBz M .len [t]=some (N L.length,true):=by
 show (t.its M).map _=_
 rw [h.its,Option.map_some,List.length_map];rfl
theorem qIL:∀ L:List Nat,qBk (L.map N)=some (L.map fun (n:Nat)=>(n:Int))
 | []=>rfl
 | x::L=>by
  show (qBk (L.map N)).map _=_
  rw [qIL L];rfl
theorem qE6:∀ L:List Nat,(L.map fun (n:Nat)=>(n:Int)).sum=((L.sum:Nat):Int)
 | []=>rfl
 | x::L=>by rw [List.map_cons,List.sum_cons,qE6 L,List.sum_cons];simp
theorem IsL.sum (h:IsL M t L):qBz M .sum [t]=some (N L.sum,true):=by
 show (t.lis M).bind _=_
 rw [h.lis,Option.bind_some,qIL,Option.map_some,qE6];rfl
theorem IsL.idx (h:IsL M t L) {i:Nat} {x:Nat} (e:L[i]?=some x):qDU M t (N i)=some (N x,true):=by
 show ((t.its M).bind fun xs=>(L2.ixN xs.length (i:Int)).bind fun j=>(xs[j]?).map fun t=>(t,t.lf))=_
 rw [h.its,Option.bind_some]
 have:=qGa (M:=M) i (L.map N)
 rw [show qDU M (.lst (L.map N)) (N i)=((L2.ixN (L.map N).length (i:Int)).bind fun j=>((L.map N)[j]?).map fun t=>(t,t.lf)) from rfl] at this
 rw [this,List.getElem?_map,e]
 simp
theorem IsL.eq (h:IsL M t L) (k:IsL M u K):eqT M 4 t u=some (decide (L=K)):=by
 have:=qIh (M:=M) (d:=3) L K
 unfold eqT at this ⊢
 rw [h.nv,k.nv,h.lis,k.lis]
 exact this
theorem IsL.ceq (h:IsL M t L) (k:IsL M u K):qAp M .eq t u=some (decide (L=K)):=h.eq k
theorem IsL.cne (h:IsL M t L) (k:IsL M u K):qAp M .ne t u=some (!decide (L=K)):=by
 show (eqT M 4 t u).map (!·)=_
 rw [h.eq k];rfl
end
theorem qBR {xs:List T} {m:Nat} (h:m<=xs.length):qBn xs none (some (m:Int))=xs.take m:=by
 unfold qBn
 rw [HT.sIx_none,HT.sIx_nat,Nat.min_eq_left h,List.drop_zero,Nat.sub_zero]
theorem qCT {xs:List T} {m:Nat} (h:m<=xs.length):qBn xs (some (m:Int)) none=xs.drop m:=by
 unfold qBn
 rw [HT.sIx_none,HT.sIx_nat,Nat.min_eq_left h]
 exact List.take_of_length_le (by simp)
open L2 (V)
theorem qGO {M:Mem} (h:FlatM M) (A:List Nat) (f:Bool):qB8 M.length (.ok (.rt (.cell M.length,f),M++[A.map N]))=.ok ((NL A,true),M):=by
 show finish M.length _ _=_
 unfold finish
 rw [if_neg (by simp),if_pos (by rw [List.take_left'];exact h.all _;rfl)]
 have g0:(M++[A.map N])[M.length]?=some (A.map N):=by simp
 have r:qAI (M++[A.map N]) M.length 6 (.cell M.length)=some (NL A):=by
  unfold qAI
  rw [if_neg (by unfold T.und;simp)]
  dsimp only
  rw [g0,Option.bind_some,qCB];rfl
 have i:frR (M++[A.map N]) M.length (.cell M.length)=true:=by
  unfold frR
  rw [show qA4 (M++[A.map N]) M.length 6 (.cell M.length)=some [M.length] by
   unfold qA4
   rw [if_neg (by rw [qGs];decide)]
   dsimp only
   rw [if_pos (Nat.le_refl _),g0,Option.bind_some,qHE,Option.map_some,qGz];rfl]
  simp
 rw [r,PR.ofO_some,PR.bind_ok,i,Bool.or_true]
 rw [show (M++[A.map N]).take M.length=M from by rw [List.take_left'];rfl]
theorem qEO {α:Type} (p:α -> Bool):∀ L:List α,qAt (L.map fun x=>T.v (.bl (p x)))=some (L.map p)
 | []=>rfl
 | x::L=>by
  show (qAt (L.map fun x=>T.v (.bl (p x)))).map _=_
  rw [qEO p L];rfl
theorem qLr {M:Mem} {α:Type} (p:α -> Bool) (L:List α):qBz M .all [.lst (L.map fun x=>T.v (.bl (p x)))]=some (bT (L.all p)):=by
 show (qAt _).map _=_
 rw [qEO,Option.map_some,List.all_map];rfl
theorem qMi {M:Mem} {α:Type} (p:α -> Bool) (L:List α):qBz M .any [.lst (L.map fun x=>T.v (.bl (p x)))]=some (bT (L.any p)):=by
 show (qAt _).map _=_
 rw [qEO,Option.map_some,List.any_map];rfl
open L2 (V)
theorem qJ2 {xs:List T} {a b:Nat} (h:a<=b):qBn xs (some (a:Int)) (some (b:Int))=(xs.drop a).take (b - a):=by
 unfold qBn
 rw [HT.sIx_nat,HT.sIx_nat]
 by_cases h1:b<=xs.length
 ·rw [Nat.min_eq_left h1,Nat.min_eq_left (by omega)]
 ·rw [Nat.min_eq_right (by omega)]
  by_cases h2:a<=xs.length
  ·rw [Nat.min_eq_left h2,List.take_of_length_le (by simp),List.take_of_length_le (by simp;omega)]
  ·rw [Nat.min_eq_right (by omega),List.drop_eq_nil_of_le (Nat.le_refl _),List.drop_eq_nil_of_le (by omega)]
   simp
theorem qGb (K:List Nat):lT (K.map N)=(NL K,true):=by unfold lT;rw [qJE];rfl
theorem qIZ {M:Mem}:qAp M .is (.v .non) (.v .non)=some true:=rfl
theorem qMt {M:Mem} (L:List Nat):qAp M .is (NL L) (.v .non)=some false:=rfl
theorem qOQ {M:Mem} (n:Nat):qAp M .is (N n) (.v .non)=some false:=rfl
theorem qNC {M:Mem} (a b:Bool):qAp M .ne (.v (.bl a)) (.v (.bl b))=some (!(a==b)):=rfl
theorem getD_some {L:List Nat} {i:Nat} (h:i < L.length):L[i]?=some (L.getD i 0):=by
 rw [List.getD_eq_getElem?_getD,List.getElem?_eq_getElem h];rfl
end PI
namespace PI
open L2 (V)
noncomputable def IsS (M:Mem) (t:T) (ts:List T):Prop:=t=.lst ts\/∃ m,t=.cell m/\M[m]?=some ts
section
variable {M C:Mem} {t:T} {ts:List T}
theorem IsS.app (h:IsS M t ts):IsS (M++C) t ts:=by
 rcases h with h | ⟨m,h,e⟩
 ·exact .inl h
 ·exact .inr ⟨m,h,by rw [List.getElem?_append_left (List.getElem?_eq_some_iff.mp e).1];exact e⟩
theorem IsS.its (h:IsS M t ts):t.its M=some ts:=by rcases h with rfl | ⟨m,rfl,e⟩;rfl;exact e
theorem IsS.lis (h:IsS M t ts):t.lis M=some ts:=by rcases h with rfl | ⟨m,rfl,e⟩;rfl;exact e
theorem IsS.ty (h:IsS M t ts):qAX M t=some "list":=by rcases h with rfl | ⟨m,rfl,e⟩;rfl;exact qNz e
theorem IsS.nv (h:IsS M t ts):t.isV=none:=by rcases h with rfl | ⟨m,rfl,e⟩<;>rfl
theorem IsS.lf (h:IsS M t ts):t.lf=false:=by rcases h with rfl | ⟨m,rfl,e⟩<;>simp
theorem IsS.src (h:IsS M t ts):∃ d,qFG M t=some (ts,d)/\qHN M t=some (ts,d)/\∀ C,qAk d (M++C)=true:=by
 rcases h with rfl | ⟨m,rfl,e⟩
 ·exact ⟨[],rfl,rfl,fun _=>rfl⟩
 ·exact ⟨_,qEm e,qEm e,fun C=>qIQ (by rw [List.getElem?_append_left (List.getElem?_eq_some_iff.mp e).1];exact e)⟩
theorem IsS.len (h:IsS M t ts):qBz M .len [t]=some (N ts.length,true):=by
 show (t.its M).map _=_
 rw [h.its,Option.map_some];rfl
theorem IsS.idx (h:IsS M t ts) (i:Nat):qDU M t (N i)=(ts[i]?).map fun t=>(t,t.lf):=by
 have a:qDU M t (N i)=qDU M (.lst ts) (N i):=by
  show (t.its M).bind _=_
  rw [h.its];rfl
 rw [a,qGa]
theorem IsS.eqT {u:T} {us:List T} {d:Nat} {bs:List Bool} (h:IsS M t ts) (k:IsS M u us) (hl:ts.length=us.length) (e:qBH (eqT M d) ts us=some bs):PI.eqT M (d + 1) t u=some (bs.all id):=by
 unfold PI.eqT
 rw [h.nv,k.nv,h.lis,k.lis]
 dsimp only
 rw [if_pos hl,e];rfl
end
noncomputable def WfM (M:Mem):Prop:=M.all (T.unds M.length)=true
theorem WfM.app {M C:Mem} (h:WfM M) (hC:∀ c∈C,T.unds (M++C).length c=true):WfM (M++C):=by
 unfold WfM at *
 rw [List.all_eq_true] at h ⊢
 intro c hc
 rcases List.mem_append.mp hc with z | z
 ·exact qA5 (by simp) c (h c z)
 ·exact hC c z
theorem FlatM.wf {M:Mem} (h:FlatM M):WfM M:=h.all _
theorem WfM.one {M:Mem} (h:WfM M) {ts:List T} (l:T.lfs ts=true):WfM (M++[ts]):=h.app fun c hc=>by rw [List.mem_singleton.mp hc];exact qEH _ _ l
theorem qCU {M:Mem} {n0 d:Nat}:∀ ts:List T,T.lfs ts=true -> ts.mapM (qAI M n0 d)=some ts
 | [],_=>rfl
 | t::ts,h=>by
  rw [qC9,Bool.and_eq_true] at h
  have e:qAI M n0 d t=some t:=by cases d<;>(unfold qAI;rw [if_pos (qFw n0 t h.1)])
  rw [List.mapM_cons,e,qCU ts h.2];rfl
theorem qE3 {M:Mem} {n0 d:Nat}:∀ ts:List T,T.lfs ts=true -> ts.mapM (qA4 M n0 d)=some (ts.map fun _=>[])
 | [],_=>rfl
 | t::ts,h=>by
  rw [qC9,Bool.and_eq_true] at h
  have e:qA4 M n0 d t=some []:=by cases d<;>(unfold qA4;rw [if_pos h.1])
  rw [List.mapM_cons,e,qE3 ts h.2];rfl
theorem qFd (L:List T):(L.map fun _=>([]:List Nat)).flatten=[]:=by
 induction L with
 | nil=>rfl
 | cons x L ih=>rw [List.map_cons,List.flatten_cons,ih];rfl
theorem qFc {M A C:Mem} {c:Nat} {ts:List T} (hA:A.length=M.length) (hW:WfM A) (hc:(A++C)[c]?=some ts) (hn:A.length<=c) (hl:T.lfs ts=true) (f:Bool):qB8 M.length (.ok (.rt (.cell c,f),A++C))=.ok ((.lst ts,true),A):=by
 show finish M.length _ _=_
 unfold finish
 have hlt:=(List.getElem?_eq_some_iff.mp hc).1
 rw [List.length_append] at hlt
 rw [<- hA,if_neg (by rw [List.length_append];omega),List.take_left' rfl,if_pos (show A.all (T.unds A.length)=true from hW)]
 have r:qAI (A++C) A.length 6 (.cell c)=some (.lst ts):=by
  unfold qAI
  rw [if_neg (by unfold T.und;simp;omega)]
  dsimp only
  rw [hc,Option.bind_some,qCU _ hl];rfl
 have i:frR (A++C) A.length (.cell c)=true:=by
  unfold frR
  rw [show qA4 (A++C) A.length 6 (.cell c)=some [c] by
   unfold qA4
   rw [if_neg (by rw [qGs];decide)]
   dsimp only
   rw [if_pos hn,hc,Option.bind_some,qE3 _ hl,Option.map_some,qFd];rfl]
  simp
 dsimp only
 rw [r,PR.ofO_some,PR.bind_ok,i,Bool.or_true]
end PI
namespace My
open PySem PySem.Spec PyProof.Rows L2 PI
noncomputable def top (i:Nat):Stmt:=PySem.Challenge.pw_healhalves_k35_orders_looked_at.main.body.getD i (.Pass ⟨0,0,0,0⟩)
noncomputable def Tb:Tbl:=⟨[⟨"is_whole",top 7,["thing"],["thing"]⟩,
 ⟨"is_number_below",top 8,["thing","end"],["thing","end"]⟩,
 ⟨"is_list_below",top 9,["thing","end"],["thing","end"]⟩,
 ⟨"has_form",top 10,["paper","word","parts"],["paper","word","parts"]⟩,
 ⟨"length_of",top 11,["size"],["size"]⟩,
 ⟨"ones_of",top 12,["number"],["number"]⟩,
 ⟨"is_size",top 13,["thing"],["thing"]⟩,
 ⟨"check_size",top 14,["size"],["size"]⟩,
 ⟨"check_place",top 15,["size","number"],["size","number"]⟩,
 ⟨"turn_of",top 17,["size","one","other"],["size","one","other","lower"]⟩,
 ⟨"is_figure_set",top 18,["size","one","other"],["size","one","other","figures"]⟩,
 ⟨"moved_figure",top 19,["size","one","other"],["size","one","other","number","lower"]⟩,
 ⟨"has_lower_alone",top 20,["number","lower"],["number","lower"]⟩,
 ⟨"has_upper_alone",top 21,["number","lower"],["number","lower"]⟩,
 ⟨"exchanged",top 22,["spot","lower"],["spot","lower"]⟩,
 ⟨"lets_order",top 24,["size","worse","better","paper"],["size","worse","better","paper"]⟩,
 ⟨"lets_row",top 25,["size","worse","better","places","turn"],["size","worse","better","places","turn","length"]⟩,
 ⟨"turn_along",top 26,["size","places"],["size","places","turn","number","step"]⟩,
 ⟨"lets_ones",top 27,["size","worse","better","many"],["size","worse","better","many"]⟩,
 ⟨"has_fewer_ones",top 28,["size","worse","better","many"],["size","worse","better","many","below"]⟩,
 ⟨"order_paper",top 29,["size","worse","better"],["size","worse","better","many","places"]⟩,
 ⟨"row_between",top 30,["worse","better"],["worse","better","places"]⟩,
 ⟨"place_ahead",top 31,["place","better"],["place","better","unlike","below"]⟩,
 ⟨"top_figure",top 32,["number"],["number"]⟩,
 ⟨"_law_begun",top 34,["_law_script","_law_k"],["_law_script","_law_k","_law_cell","_law_number","_law_mixed"]⟩,
 ⟨"_law_take",top 35,["_law_state","_law_many"],["_law_state","_law_many","_law_digit","_law_made","_law_turn_here"]⟩,
 ⟨"_law_figures",top 36,["_law_size","_law_place"],["_law_size","_law_place"]⟩,
 ⟨"_law_kind",top 37,["_law_size","_law_one","_law_other"],["_law_size","_law_one","_law_other","_law_ahead","_law_behind","_law_unlike"]⟩,
 ⟨"_law_turn",top 38,["_law_size","_law_kind_here"],["_law_size","_law_kind_here","_law_found","_law_spot","_law_row_here"]⟩,
 ⟨"_law_through",top 39,["_law_size","_law_places"],["_law_size","_law_places","_law_found","_law_k","_law_turn_here"]⟩,
 ⟨"_law_due",top 40,["_law_size","_law_worse","_law_better","_law_paper"],["_law_size","_law_worse","_law_better","_law_paper","_law_ahead","_law_behind","_law_places","_law_one","_law_other"]⟩,
 ⟨"_law_row",top 41,["_law_state","_law_size","_law_worse"],["_law_state","_law_size","_law_worse","_law_many","_law_places","_law_turn_here","_law_some"]⟩,
 ⟨"_law_bent_list",top 42,["_law_state","_law_many","_law_row_here"],["_law_state","_law_many","_law_row_here","_law_at","_law_new","_law_some"]⟩,
 ⟨"_law_bent",top 43,["_law_state","_law_many","_law_paper"],["_law_state","_law_many","_law_paper","_law_way"]⟩,
 ⟨"_law_is",top 44,["_law_size","_law_worse","_law_better","_law_paper","_law_due_here"],["_law_size","_law_worse","_law_better","_law_paper","_law_due_here","_law_kept","_law_turn_here","_law_found"]⟩,
 ⟨"_law_long",top 45,["_law_size"],["_law_size","_law_places","_law_turn_here","_law_some"]⟩,
 ⟨"law",top 46,["_law_script"],["_law_script","_law_size","_law_paper","_law_k","_law_state","_law_many","_law_worse","_law_row_here","_law_better","_law_told","_law_papers","_law_due_here","_law_odd","_law_places"]⟩],
 [("LENGTHS",E.glob 0),("GREATEST_SIZE",E.cst (.int 5))],
 ["len","sum","all","any","max","min","list","int","tuple","range","zip","isinstance","bool","str","repr","ValueError"],[],[]⟩
noncomputable def gs:List O:=[O.tup [V.int 1,V.int 2,V.int 4,V.int 8,V.int 16,V.int 32]]
end My
namespace My
open PySem PySem.Spec PI
open L2 (V)
noncomputable def b0:Ss:=(.cons (.ret (.and (.isi (.var 0) ["int"]) (.not (.isi (.var 0) ["bool"])))) .nil)
theorem t0:Tb.fns[0]?=some ⟨1,1,b0⟩:=by kernel_rfl
noncomputable def b1:Ss:=(.cons (.ret (.and (.call 0 (.cons (.var 0) .nil)) (.cmp2 .le .lt (nE 0) (.var 0) (.var 1)))) .nil)
theorem t1:Tb.fns[1]?=some ⟨2,2,b1⟩:=by kernel_rfl
noncomputable def b2:Ss:=(.cons (.ret (.and (.isi (.var 0) ["list"]) (.blt .all (.cons (.comp (.list (.var 0)) [none,some 1] (.name 0) .nil (.call 1 (.cons (.var 0) (.cons (.var 1) .nil)))) .nil)))) .nil)
theorem t2:Tb.fns[2]?=some ⟨2,2,b2⟩:=by kernel_rfl
noncomputable def b3:Ss:=(.cons (.ifs (.or (.not (.isi (.var 0) ["tuple"])) (.cmp .ne (.blt .len (.cons (.var 0) .nil)) (.var 2))) (.cons (.ret (.cst (V.bl false))) .nil) .nil) (.cons (.ret (.and (.isi (.idx (.var 0) (nE 0)) ["str"]) (.cmp .eq (.idx (.var 0) (nE 0)) (.var 1)))) .nil))
theorem t3:Tb.fns[3]?=some ⟨3,3,b3⟩:=by kernel_rfl
noncomputable def b4:Ss:=(.cons (.ret (.idx (.glob 0) (.var 0))) .nil)
theorem t4:Tb.fns[4]?=some ⟨1,1,b4⟩:=by kernel_rfl
noncomputable def b5:Ss:=(.cons (.ret (.blt .sum (.cons (.comp (.list (.glob 0)) [none,some 0] (.name 0) (.cons (.cmp .ne (.bin .band (.var 1) (.var 0)) (nE 0)) .nil) (nE 1)) .nil))) .nil)
theorem t5:Tb.fns[5]?=some ⟨1,1,b5⟩:=by kernel_rfl
noncomputable def b6:Ss:=(.cons (.ret (.and (.call 0 (.cons (.var 0) .nil)) (.cmp2 .le .le (nE 1) (.var 0) (nE 5)))) .nil)
theorem t6:Tb.fns[6]?=some ⟨1,1,b6⟩:=by kernel_rfl
noncomputable def b7:Ss:=(.cons (.ifs (.not (.call 6 (.cons (.var 0) .nil))) (.cons .stop .nil) .nil) .nil)
theorem t7:Tb.fns[7]?=some ⟨1,1,b7⟩:=by kernel_rfl
noncomputable def b8:Ss:=(.cons (.ifs (.not (.call 1 (.cons (.var 1) (.cons (.call 4 (.cons (.var 0) .nil)) .nil)))) (.cons .stop .nil) .nil) .nil)
theorem t8:Tb.fns[8]?=some ⟨2,2,b8⟩:=by kernel_rfl
noncomputable def b9:Ss:=(.cons (.expr (.call 7 (.cons (.var 0) .nil))) (.cons (.expr (.call 8 (.cons (.var 0) (.cons (.var 1) .nil)))) (.cons (.expr (.call 8 (.cons (.var 0) (.cons (.var 2) .nil)))) (.cons (.ifs (.call 10 (.cons (.var 0) (.cons (.var 1) (.cons (.var 2) .nil)))) (.cons (.ret (.lrng (.call 4 (.cons (.var 0) .nil)))) .nil) .nil) (.cons (.asg (.name 3) (.call 11 (.cons (.var 0) (.cons (.var 1) (.cons (.var 2) .nil))))) (.cons (.ifs (.cmp .is (.var 3) (.cst V.non)) (.cons (.ret (.cst V.non)) .nil) .nil) (.cons (.ret (.comp (.rng1 (.call 4 (.cons (.var 0) .nil))) [none,some 3] (.name 0) .nil (.call 14 (.cons (.var 0) (.cons (.var 1) .nil))))) .nil)))))))
theorem t9:Tb.fns[9]?=some ⟨3,4,b9⟩:=by kernel_rfl
noncomputable def b10:Ss:=(.cons (.asg (.name 3) (.comp (.rng1 (.var 0)) [none] (.name 0) .nil (.call 4 (.cons (.var 0) .nil)))) (.cons (.ret (.blt .any (.cons (.comp (.list (.var 3)) [none,some 1,some 2] (.name 0) .nil (.and (.cmp .eq (.bin .band (.var 1) (.var 0)) (nE 0)) (.cmp .eq (.bin .add (.var 1) (.var 0)) (.var 2)))) .nil))) .nil))
theorem t10:Tb.fns[10]?=some ⟨3,4,b10⟩:=by kernel_rfl
noncomputable def qFU:Ss:=(.cons (.asg (.name 4) (.call 4 (.cons (.var 3) .nil))) (.cons (.ifs (.and (.call 12 (.cons (.var 1) (.cons (.var 4) .nil))) (.cmp .eq (.bin .add (.var 1) (.var 4)) (.var 2))) (.cons (.ret (.var 4)) .nil) .nil) .nil))
noncomputable def b11:Ss:=(.cons (.for_ (.name 3) (.rng1 (.bin .sub (.var 0) (nE 1))) qFU) (.cons (.ret (.cst V.non)) .nil))
theorem t11:Tb.fns[11]?=some ⟨3,5,b11⟩:=by kernel_rfl
noncomputable def b12:Ss:=(.cons (.ret (.and (.cmp .ne (.bin .band (.var 0) (.var 1)) (nE 0)) (.cmp .eq (.bin .band (.var 0) (.bin .add (.var 1) (.var 1))) (nE 0)))) .nil)
theorem t12:Tb.fns[12]?=some ⟨2,2,b12⟩:=by kernel_rfl
noncomputable def b13:Ss:=(.cons (.ret (.and (.cmp .eq (.bin .band (.var 0) (.var 1)) (nE 0)) (.cmp .ne (.bin .band (.var 0) (.bin .add (.var 1) (.var 1))) (nE 0)))) .nil)
theorem t13:Tb.fns[13]?=some ⟨2,2,b13⟩:=by kernel_rfl
noncomputable def b14:Ss:=(.cons (.ifs (.call 12 (.cons (.var 0) (.cons (.var 1) .nil))) (.cons (.ret (.bin .add (.var 0) (.var 1))) .nil) .nil) (.cons (.ifs (.call 13 (.cons (.var 0) (.cons (.var 1) .nil))) (.cons (.ret (.bin .sub (.var 0) (.var 1))) .nil) .nil) (.cons (.ret (.var 0)) .nil)))
theorem t14:Tb.fns[14]?=some ⟨2,2,b14⟩:=by kernel_rfl
noncomputable def b15:Ss:=(.cons (.expr (.call 7 (.cons (.var 0) .nil))) (.cons (.expr (.call 8 (.cons (.var 0) (.cons (.var 1) .nil)))) (.cons (.expr (.call 8 (.cons (.var 0) (.cons (.var 2) .nil)))) (.cons (.ifs (.call 3 (.cons (.var 3) (.cons (.cst (V.str "row")) (.cons (nE 3) .nil)))) (.cons (.ret (.call 16 (.cons (.var 0) (.cons (.var 1) (.cons (.var 2) (.cons (.idx (.var 3) (nE 1)) (.cons (.idx (.var 3) (nE 2)) .nil))))))) .nil) .nil) (.cons (.ifs (.call 3 (.cons (.var 3) (.cons (.cst (V.str "ones")) (.cons (nE 2) .nil)))) (.cons (.ret (.call 18 (.cons (.var 0) (.cons (.var 1) (.cons (.var 2) (.cons (.idx (.var 3) (nE 1)) .nil)))))) .nil) .nil) (.cons (.ret (.cst (V.bl false))) .nil))))))
theorem t15:Tb.fns[15]?=some ⟨4,4,b15⟩:=by kernel_rfl
noncomputable def b16:Ss:=(.cons (.asg (.name 5) (.call 4 (.cons (.var 0) .nil))) (.cons (.ifs (.or (.not (.call 2 (.cons (.var 3) (.cons (.var 5) .nil)))) (.not (.call 2 (.cons (.var 4) (.cons (.var 5) .nil))))) (.cons (.ret (.cst (V.bl false))) .nil) .nil) (.cons (.ifs (.or (.cmp .eq (.var 3) (.lst .nil)) (.or (.cmp .ne (.idx (.var 3) (nE 0)) (.var 1)) (.cmp .ne (.idx (.var 3) (.neg (nE 1))) (.var 2)))) (.cons (.ret (.cst (V.bl false))) .nil) .nil) (.cons (.ret (.cmp .eq (.var 4) (.call 17 (.cons (.var 0) (.cons (.var 3) .nil))))) .nil))))
theorem t16:Tb.fns[16]?=some ⟨5,6,b16⟩:=by kernel_rfl
noncomputable def qEN:Ss:=(.cons (.asg (.name 4) (.call 9 (.cons (.var 0) (.cons (.idx (.var 1) (.bin .sub (.var 3) (nE 1))) (.cons (.idx (.var 1) (.var 3)) .nil))))) (.cons (.ifs (.cmp .is (.var 4) (.cst V.non)) (.cons (.ret (.cst V.non)) .nil) .nil) (.cons (.asg (.name 2) (.comp (.list (.var 2)) [none,some 4] (.name 0) .nil (.idx (.var 1) (.var 0)))) .nil)))
noncomputable def b17:Ss:=(.cons (.asg (.name 2) (.lrng (.call 4 (.cons (.var 0) .nil)))) (.cons (.for_ (.name 3) (.rng3 (.bin .sub (.blt .len (.cons (.var 1) .nil)) (nE 1)) (nE 0)) qEN) (.cons (.ret (.var 2)) .nil)))
theorem t17:Tb.fns[17]?=some ⟨2,5,b17⟩:=by kernel_rfl
noncomputable def b18:Ss:=(.cons (.ret (.and (.call 0 (.cons (.var 3) .nil)) (.and (.cmp2 .le .le (nE 1) (.var 3) (.var 0)) (.call 19 (.cons (.var 0) (.cons (.var 1) (.cons (.var 2) (.cons (.var 3) .nil)))))))) .nil)
theorem t18:Tb.fns[18]?=some ⟨4,4,b18⟩:=by kernel_rfl
noncomputable def b19:Ss:=(.cons (.asg (.name 4) (.bin .sub (.var 0) (.var 3))) (.cons (.ret (.cmp .lt (.call 5 (.cons (.bin .shr (.var 2) (.var 4)) .nil)) (.call 5 (.cons (.bin .shr (.var 1) (.var 4)) .nil)))) .nil))
theorem t19:Tb.fns[19]?=some ⟨4,5,b19⟩:=by kernel_rfl
noncomputable def qEV:Ss:=(.cons (.ifs (.call 19 (.cons (.var 0) (.cons (.var 1) (.cons (.var 2) (.cons (.var 3) .nil))))) (.cons (.ret (.tup (.cons (.cst (V.str "ones")) (.cons (.var 3) .nil)))) .nil) .nil) .nil)
noncomputable def b20:Ss:=(.cons (.expr (.call 7 (.cons (.var 0) .nil))) (.cons (.expr (.call 8 (.cons (.var 0) (.cons (.var 1) .nil)))) (.cons (.expr (.call 8 (.cons (.var 0) (.cons (.var 2) .nil)))) (.cons (.for_ (.name 3) (.rng2 (nE 1) (.bin .add (.var 0) (nE 1))) qEV) (.cons (.asg (.name 4) (.call 21 (.cons (.var 1) (.cons (.var 2) .nil)))) (.cons (.ret (.tup (.cons (.cst (V.str "row")) (.cons (.var 4) (.cons (.call 17 (.cons (.var 0) (.cons (.var 4) .nil))) .nil))))) .nil))))))
theorem t20:Tb.fns[20]?=some ⟨3,5,b20⟩:=by kernel_rfl
noncomputable def qH6:Ss:=(.cons (.expr (.app (.var 2) (.call 22 (.cons (.idx (.var 2) (.neg (nE 1))) (.cons (.var 1) .nil))))) .nil)
noncomputable def b21:Ss:=(.cons (.asg (.name 2) (.lst (.cons (.var 0) .nil))) (.cons (.while_ (.cmp .ne (.idx (.var 2) (.neg (nE 1))) (.var 1)) qH6) (.cons (.ret (.var 2)) .nil)))
theorem t21:Tb.fns[21]?=some ⟨2,3,b21⟩:=by kernel_rfl
noncomputable def b22:Ss:=(.cons (.asg (.name 2) (.call 23 (.cons (.bin .bxor (.var 0) (.var 1)) .nil))) (.cons (.asg (.name 3) (.bin .mod (.var 0) (.var 2))) (.cons (.ifs (.cmp .eq (.var 3) (nE 0)) (.cons (.ret (.bin .add (.var 0) (.var 2))) .nil) .nil) (.cons (.ret (.bin .add (.var 0) (.call 23 (.cons (.var 3) .nil)))) .nil))))
theorem t22:Tb.fns[22]?=some ⟨2,4,b22⟩:=by kernel_rfl
noncomputable def b23:Ss:=(.cons (.ret (.call 4 (.cons (.bin .sub (.blt .bits (.cons (.var 0) .nil)) (nE 1)) .nil))) .nil)
theorem t23:Tb.fns[23]?=some ⟨1,1,b23⟩:=by kernel_rfl
noncomputable def b24:Ss:=(.cons (.asg (.name 2) (.idx (.bin .add (.sl (.var 0) (.cons (.var 1) .nil) (.cons (.bin .add (.var 1) (nE 1)) .nil)) (.lst (.cons (nE 0) .nil))) (nE 0))) (.cons (.asg (.name 3) (.blt .max (.cons (.var 2) (.cons (.bin .sub (.neg (nE 1)) (.var 2)) .nil)))) (.cons (.asg (.name 4) (.bin .mod (.bin .add (.bin .add (.bin .add (.bin .mod (.var 3) (nE 2147483629)) (.bin .mul (nE 7919) (.var 1))) (.bin .mul (.bin .mul (nE 104729) (.var 1)) (.var 1))) (nE 11)) (nE 2147483629))) (.cons (.ret (.lst (.cons (.var 3) (.cons (.var 4) (.cons (.cmp .ge (.var 3) (.bin .pow (nE 10) (nE 18))) .nil))))) .nil))))
theorem t24:Tb.fns[24]?=some ⟨2,5,b24⟩:=by kernel_rfl
noncomputable def qLg:Ss:=(.cons (.put (.var 0) (nE 1) (.bin .mod (.bin .add (.bin .mul (.idx (.var 0) (nE 1)) (nE 48271)) (nE 11)) (nE 2147483647))) (.cons (.asg (.name 3) (.bin .add (.bin .mul (.var 3) (nE 2147483587)) (.bin .mod (.bin .mul (.idx (.var 0) (nE 1)) (.idx (.var 0) (nE 1))) (nE 2147483587)))) .nil))
noncomputable def b25:Ss:=(.cons (.ifs (.idx (.var 0) (nE 2)) (.cons (.asg (.name 2) (.bin .mod (.idx (.var 0) (nE 0)) (.var 1))) (.cons (.put (.var 0) (nE 0) (.bin .fdiv (.idx (.var 0) (nE 0)) (.var 1))) (.cons (.put (.var 0) (nE 2) (.cmp .gt (.idx (.var 0) (nE 0)) (nE 0))) (.cons (.ret (.var 2)) .nil)))) .nil) (.cons (.asg (.name 3) (nE 0)) (.cons (.for_ (.name 4) (.rng1 (.bin .add (nE 1) (.blt .int (.cons (.cmp .gt (.var 1) (.bin .pow (nE 10) (nE 6))) .nil)))) qLg) (.cons (.ret (.bin .mod (.bin .fdiv (.var 3) (nE 64)) (.var 1))) .nil))))
theorem t25:Tb.fns[25]?=some ⟨2,5,b25⟩:=by kernel_rfl
noncomputable def b26:Ss:=(.cons (.ret (.comp (.rng1 (.var 0)) [none,some 1,some 0] (.name 0) .nil (.bin .mod (.bin .fdiv (.var 1) (.idx (.lst (.cons (nE 1) (.cons (nE 2) (.cons (nE 4) (.cons (nE 8) (.cons (nE 16) .nil)))))) (.bin .sub (.bin .sub (.var 2) (nE 1)) (.var 0)))) (nE 2)))) .nil)
theorem t26:Tb.fns[26]?=some ⟨2,2,b26⟩:=by kernel_rfl
noncomputable def b27:Ss:=(.cons (.asg (.name 3) (.call 26 (.cons (.var 0) (.cons (.var 1) .nil)))) (.cons (.asg (.name 4) (.call 26 (.cons (.var 0) (.cons (.var 2) .nil)))) (.cons (.asg (.name 5) (.comp (.rng1 (.var 0)) [none,some 3,some 4] (.name 0) (.cons (.cmp .ne (.idx (.var 1) (.var 0)) (.idx (.var 2) (.var 0))) .nil) (.var 0))) (.cons (.ifs (.and (.cmp .eq (.blt .len (.cons (.var 5) .nil)) (nE 1)) (.cmp .eq (.idx (.var 4) (.idx (.var 5) (nE 0))) (nE 1))) (.cons (.ret (.tup (.cons (.cst (V.str "raise")) (.cons (.idx (.var 5) (nE 0)) .nil)))) .nil) .nil) (.cons (.ifs (.and (.cmp .eq (.blt .len (.cons (.var 5) .nil)) (nE 2)) (.and (.cmp .eq (.idx (.var 5) (nE 1)) (.bin .add (.idx (.var 5) (nE 0)) (nE 1))) (.cmp .eq (.sl (.var 3) (.cons (.idx (.var 5) (nE 0)) .nil) (.cons (.bin .add (.idx (.var 5) (nE 0)) (nE 2)) .nil)) (.lst (.cons (nE 0) (.cons (nE 1) .nil)))))) (.cons (.ret (.tup (.cons (.cst (V.str "shift")) (.cons (.idx (.var 5) (nE 0)) .nil)))) .nil) .nil) (.cons (.ret (.cst V.non)) .nil))))))
theorem t27:Tb.fns[27]?=some ⟨3,6,b27⟩:=by kernel_rfl
noncomputable def qH9:Ss:=(.cons (.asg (.name 4) (.call 26 (.cons (.var 0) (.cons (.var 3) .nil)))) (.cons (.ifs (.cmp .eq (.idx (.var 1) (nE 0)) (.cst (V.str "shift"))) (.cons (.asg (.name 4) (.bin .add (.bin .add (.sl (.var 4) .nil (.cons (.idx (.var 1) (nE 1)) .nil)) (.lst (.cons (.idx (.var 4) (.bin .add (.idx (.var 1) (nE 1)) (nE 1))) (.cons (.idx (.var 4) (.idx (.var 1) (nE 1))) .nil)))) (.sl (.var 4) (.cons (.bin .add (.idx (.var 1) (nE 1)) (nE 2)) .nil) .nil))) .nil) .nil) (.cons (.expr (.app (.var 2) (.blt .sum (.cons (.comp (.rng1 (.var 0)) [none,some 4,some 0] (.name 0) .nil (.bin .mul (.idx (.var 1) (.var 0)) (.idx (.lst (.cons (nE 1) (.cons (nE 2) (.cons (nE 4) (.cons (nE 8) (.cons (nE 16) .nil)))))) (.bin .sub (.bin .sub (.var 2) (nE 1)) (.var 0))))) .nil)))) .nil)))
noncomputable def b28:Ss:=(.cons (.asg (.name 2) (.lst .nil)) (.cons (.for_ (.name 3) (.rng1 (.idx (.lst (.cons (nE 1) (.cons (nE 2) (.cons (nE 4) (.cons (nE 8) (.cons (nE 16) (.cons (nE 32) .nil))))))) (.var 0))) qH9) (.cons (.ret (.var 2)) .nil)))
theorem t28:Tb.fns[28]?=some ⟨2,5,b28⟩:=by kernel_rfl
noncomputable def qHm:Ss:=(.cons (.asg (.name 4) (.call 28 (.cons (.var 0) (.cons (.call 27 (.cons (.var 0) (.cons (.idx (.var 1) (.bin .sub (.var 3) (nE 1))) (.cons (.idx (.var 1) (.var 3)) .nil)))) .nil)))) (.cons (.asg (.name 2) (.comp (.list (.var 2)) [none,some 4] (.name 0) .nil (.idx (.var 1) (.var 0)))) .nil))
noncomputable def b29:Ss:=(.cons (.asg (.name 2) (.lrng (.idx (.lst (.cons (nE 1) (.cons (nE 2) (.cons (nE 4) (.cons (nE 8) (.cons (nE 16) (.cons (nE 32) .nil))))))) (.var 0)))) (.cons (.for_ (.name 3) (.rng3 (.bin .sub (.blt .len (.cons (.var 1) .nil)) (nE 1)) (nE 0)) qHm) (.cons (.ret (.var 2)) .nil)))
theorem t29:Tb.fns[29]?=some ⟨2,5,b29⟩:=by kernel_rfl
noncomputable def qCS:Ss:=(.cons (.ifs (.or (.not (.cmp2 .le .lt (nE 0) (.var 8) (.idx (.lst (.cons (nE 1) (.cons (nE 2) (.cons (nE 4) (.cons (nE 8) (.cons (nE 16) (.cons (nE 32) .nil))))))) (.var 0)))) (.cmp .is (.call 27 (.cons (.var 0) (.cons (.var 7) (.cons (.var 8) .nil)))) (.cst V.non))) (.cons (.ret (.cst (V.bl false))) .nil) .nil) .nil)
noncomputable def b30:Ss:=(.cons (.ifs (.and (.cmp .eq (.idx (.var 3) (nE 0)) (.cst (V.str "ones"))) (.cmp .eq (.blt .len (.cons (.var 3) .nil)) (nE 2))) (.cons (.asg (.name 4) (.call 26 (.cons (.var 0) (.cons (.var 1) .nil)))) (.cons (.asg (.name 5) (.call 26 (.cons (.var 0) (.cons (.var 2) .nil)))) (.cons (.ret (.and (.cmp2 .le .le (nE 1) (.idx (.var 3) (nE 1)) (.var 0)) (.cmp .lt (.blt .sum (.cons (.sl (.var 5) .nil (.cons (.idx (.var 3) (nE 1)) .nil)) .nil)) (.blt .sum (.cons (.sl (.var 4) .nil (.cons (.idx (.var 3) (nE 1)) .nil)) .nil))))) .nil))) .nil) (.cons (.ifs (.or (.cmp .ne (.idx (.var 3) (nE 0)) (.cst (V.str "row"))) (.or (.cmp .ne (.blt .len (.cons (.var 3) .nil)) (nE 3)) (.cmp .eq (.idx (.var 3) (nE 1)) (.lst .nil)))) (.cons (.ret (.cst (V.bl false))) .nil) .nil) (.cons (.asg (.name 6) (.idx (.var 3) (nE 1))) (.cons (.ifs (.or (.cmp .ne (.idx (.var 6) (nE 0)) (.var 1)) (.cmp .ne (.idx (.var 6) (.neg (nE 1))) (.var 2))) (.cons (.ret (.cst (V.bl false))) .nil) .nil) (.cons (.for_ (.tup [7,8]) (.zip (.var 6) (.sl (.var 6) (.cons (nE 1) .nil) .nil)) qCS) (.cons (.ret (.cmp .eq (.idx (.var 3) (nE 2)) (.call 29 (.cons (.var 0) (.cons (.var 6) .nil))))) .nil))))))
theorem t30:Tb.fns[30]?=some ⟨4,9,b30⟩:=by kernel_rfl
noncomputable def qEb:Ss:=(.cons (.asg (.name 6) (.comp (.rng1 (.var 3)) [none,some 4,some 1] (.name 0) (.cons (.cmp .isnot (.call 27 (.cons (.var 2) (.cons (.idx (.var 1) (.neg (nE 1))) (.cons (.var 0) .nil)))) (.cst V.non)) .nil) (.var 0))) (.cons (.ifs (.cmp .ne (.var 6) (.lst .nil)) (.cons (.expr (.app (.var 4) (.idx (.var 6) (.call 25 (.cons (.var 0) (.cons (.blt .len (.cons (.var 6) .nil)) .nil)))))) .nil) .nil) .nil))
noncomputable def b31:Ss:=(.cons (.asg (.name 3) (.idx (.lst (.cons (nE 1) (.cons (nE 2) (.cons (nE 4) (.cons (nE 8) (.cons (nE 16) (.cons (nE 32) .nil))))))) (.var 1))) (.cons (.asg (.name 4) (.lst (.cons (.var 2) .nil))) (.cons (.for_ (.name 5) (.rng1 (.call 25 (.cons (.var 0) (.cons (.idx (.lst (.cons (nE 8) (.cons (nE 17) .nil))) (.blt .int (.cons (.cmp .eq (.var 1) (nE 5)) .nil))) .nil)))) qEb) (.cons (.ret (.tup (.cons (.cst (V.str "row")) (.cons (.var 4) (.cons (.call 29 (.cons (.var 1) (.cons (.var 4) .nil))) .nil))))) .nil))))
theorem t31:Tb.fns[31]?=some ⟨3,7,b31⟩:=by kernel_rfl
noncomputable def b32:Ss:=(.cons (.asg (.name 3) (.call 25 (.cons (.var 0) (.cons (.bin .add (.blt .len (.cons (.var 2) .nil)) (nE 1)) .nil)))) (.cons (.asg (.name 4) (.call 25 (.cons (.var 0) (.cons (.bin .add (.var 1) (nE 1)) .nil)))) (.cons (.asg (.name 5) (.lst (.cons (.bin .add (.bin .add (.sl (.var 2) .nil (.cons (.var 3) .nil)) (.lst (.cons (.var 4) .nil))) (.sl (.var 2) (.cons (.var 3) .nil) .nil)) (.cons (.bin .add (.sl (.var 2) .nil (.cons (.var 3) .nil)) (.sl (.var 2) (.cons (.bin .add (.var 3) (nE 1)) .nil) .nil)) (.cons (.bin .add (.bin .add (.sl (.var 2) .nil (.cons (.var 3) .nil)) (.lst (.cons (.var 4) .nil))) (.sl (.var 2) (.cons (.bin .add (.var 3) (nE 1)) .nil) .nil)) (.cons (.rev (.var 2)) .nil)))))) (.cons (.ret (.idx (.var 5) (.call 25 (.cons (.var 0) (.cons (nE 4) .nil))))) .nil))))
theorem t32:Tb.fns[32]?=some ⟨3,6,b32⟩:=by kernel_rfl
noncomputable def b33:Ss:=(.cons (.asg (.name 3) (.call 25 (.cons (.var 0) (.cons (nE 5) .nil)))) (.cons (.ifs (.or (.cmp .eq (.var 3) (nE 0)) (.cmp .ne (.idx (.var 2) (nE 0)) (.cst (V.str "row")))) (.cons (.ret (.bin .add (.tup (.cons (.idx (.lst (.cons (.cst (V.str "row")) (.cons (.cst (V.str "ones")) (.cons (.cst (V.str "Row")) (.cons (.cst (V.str "")) .nil))))) (.call 25 (.cons (.var 0) (.cons (nE 4) .nil)))) .nil)) (.sl (.var 2) (.cons (nE 1) .nil) .nil))) .nil) .nil) (.cons (.ifs (.cmp .eq (.var 3) (nE 1)) (.cons (.ret (.bin .add (.var 2) (.tup (.cons (.idx (.var 2) (nE 1)) .nil)))) .nil) .nil) (.cons (.ifs (.cmp .eq (.var 3) (nE 2)) (.cons (.ret (.tup (.cons (.cst (V.str "row")) (.cons (.idx (.var 2) (nE 1)) (.cons (.call 32 (.cons (.var 0) (.cons (.var 1) (.cons (.idx (.var 2) (nE 2)) .nil)))) .nil))))) .nil) .nil) (.cons (.ifs (.cmp .eq (.var 3) (nE 3)) (.cons (.ret (.tup (.cons (.cst (V.str "row")) (.cons (.call 32 (.cons (.var 0) (.cons (.var 1) (.cons (.idx (.var 2) (nE 1)) .nil)))) (.cons (.idx (.var 2) (nE 2)) .nil))))) .nil) .nil) (.cons (.ret (.tup (.cons (.cst (V.str "row")) (.cons (.idx (.var 2) (nE 1)) (.cons (.lrng (.var 1)) .nil))))) .nil))))))
theorem t33:Tb.fns[33]?=some ⟨3,4,b33⟩:=by kernel_rfl
noncomputable def qHo:Ss:=(.cons (.asg (.name 7) (.call 15 (.cons (.var 0) (.cons (.var 1) (.cons (.var 2) (.cons (.var 3) .nil)))))) (.cons (.ifs (.or (.not (.isi (.var 7) ["bool"])) (.or (.cmp .ne (.var 7) (.var 4)) (.cmp .ne (.blt .repr (.cons (.var 3) .nil)) (.var 5)))) (.cons (.ret (.cst (V.bl false))) .nil) .nil) .nil))
noncomputable def b34:Ss:=(.cons (.asg (.name 5) (.blt .repr (.cons (.var 3) .nil))) (.cons (.for_ (.name 6) (.rng1 (nE 2)) qHo) (.cons (.ret (.cst (V.bl true))) .nil)))
theorem t34:Tb.fns[34]?=some ⟨5,8,b34⟩:=by kernel_rfl
noncomputable def qHp:Ss:=(.cons (.asg (.name 3) (.comp (.rng1 (.idx (.lst (.cons (nE 1) (.cons (nE 2) (.cons (nE 4) (.cons (nE 8) (.cons (nE 16) (.cons (nE 32) .nil))))))) (.var 0))) [none,some 1,some 0] (.name 0) (.cons (.cmp .isnot (.call 27 (.cons (.var 2) (.cons (.idx (.var 1) (.neg (nE 1))) (.cons (.var 0) .nil)))) (.cst V.non)) .nil) (.var 0))) (.cons (.asg (.name 1) (.bin .add (.var 1) (.sl (.var 3) .nil (.cons (nE 1) .nil)))) .nil))
noncomputable def b35:Ss:=(.cons (.asg (.name 1) (.lst (.cons (nE 0) .nil))) (.cons (.for_ (.name 2) (.rng1 (nE 15)) qHp) (.cons (.ret (.tup (.cons (.cst (V.str "row")) (.cons (.var 1) (.cons (.call 29 (.cons (.var 0) (.cons (.var 1) .nil))) .nil))))) .nil)))
theorem t35:Tb.fns[35]?=some ⟨1,4,b35⟩:=by kernel_rfl
noncomputable def qGB:Ss:=(.cons (.asg (.name 11) (.or (.cmp .ne (.idx (.var 2) (nE 0)) (.cst (V.str "ones"))) (.and (.cmp .eq (.blt .len (.cons (.var 2) .nil)) (nE 2)) (.isi (.idx (.var 2) (nE 1)) ["int"])))) (.cons (.ifs (.not (.call 34 (.cons (.var 1) (.cons (.var 6) (.cons (.var 8) (.cons (.var 2) (.cons (.and (.var 11) (.call 30 (.cons (.var 1) (.cons (.var 6) (.cons (.var 8) (.cons (.var 2) .nil)))))) .nil))))))) (.cons (.ret (.cst (V.bl false))) .nil) .nil) .nil))
noncomputable def qHX:Ss:=(.cons (.asg (.name 4) (.call 24 (.cons (.var 0) (.cons (.var 3) .nil)))) (.cons (.asg (.name 1) (.bin .add (nE 1) (.call 25 (.cons (.var 4) (.cons (nE 5) .nil))))) (.cons (.asg (.name 5) (.idx (.lst (.cons (nE 1) (.cons (nE 2) (.cons (nE 4) (.cons (nE 8) (.cons (nE 16) (.cons (nE 32) .nil))))))) (.var 1))) (.cons (.asg (.name 6) (.call 25 (.cons (.var 4) (.cons (.var 5) .nil)))) (.cons (.asg (.name 7) (.call 31 (.cons (.var 4) (.cons (.var 1) (.cons (.var 6) .nil))))) (.cons (.asg (.name 8) (.idx (.lst (.cons (.idx (.idx (.var 7) (nE 1)) (.neg (nE 1))) (.cons (.call 25 (.cons (.var 4) (.cons (.var 5) .nil))) .nil))) (.call 25 (.cons (.var 4) (.cons (nE 2) .nil))))) (.cons (.asg (.name 9) (.call 20 (.cons (.var 1) (.cons (.var 6) (.cons (.var 8) .nil))))) (.cons (.asg (.name 10) (.lst (.cons (.var 9) (.cons (.var 7) (.cons (.call 33 (.cons (.var 4) (.cons (.var 5) (.cons (.var 9) .nil)))) (.cons (.call 33 (.cons (.var 4) (.cons (.var 5) (.cons (.var 7) .nil)))) (.cons (.call 33 (.cons (.var 4) (.cons (.var 5) (.cons (.var 7) .nil)))) .nil))))))) (.cons (.asg (.name 10) (.bin .add (.var 10) (.comp (.rng1 (.bin .add (.var 1) (nE 2))) [none] (.name 0) .nil (.tup (.cons (.cst (V.str "ones")) (.cons (.var 0) .nil)))))) (.cons (.for_ (.name 2) (.list (.var 10)) qGB) (.cons (.asg (.name 12) (.lst (.cons (.cst V.non) (.cons (.cst (V.bl true)) (.cons (.lst .nil) (.cons (.cst (V.str "row")) (.cons (.tup .nil) (.cons (.tup (.cons (.cst (V.str "row")) .nil)) (.cons (.tup (.cons (.cst (V.str "ones")) .nil)) (.cons (.tup (.cons (.cst (V.str "ones")) (.cons (.cst (V.bl true)) .nil))) (.cons (.tup (.cons (.cst (V.str "ones")) (.cons (.cst V.non) .nil))) (.cons (.tup (.cons (.cst (V.str "ones")) (.cons (.cst (V.str "1")) .nil))) .nil)))))))))))) (.cons (.asg (.name 12) (.bin .add (.var 12) (.lst (.cons (.tup (.cons (.cst (V.str "row")) (.cons (.blt .tuple (.cons (.idx (.var 7) (nE 1)) .nil)) (.cons (.idx (.var 7) (nE 2)) .nil)))) (.cons (.tup (.cons (.cst (V.str "row")) (.cons (.idx (.var 7) (nE 1)) (.cons (.blt .tuple (.cons (.idx (.var 7) (nE 2)) .nil)) .nil)))) (.cons (.tup (.cons (.cst (V.str "row")) (.cons (.cst V.non) (.cons (.idx (.var 7) (nE 2)) .nil)))) .nil)))))) (.cons (.asg (.name 12) (.bin .add (.var 12) (.lst (.cons (.tup (.cons (.cst (V.str "row")) (.cons (.lst .nil) (.cons (.idx (.var 7) (nE 2)) .nil)))) (.cons (.tup (.cons (.cst (V.str "row")) (.cons (.bin .add (.idx (.var 7) (nE 1)) (.lst (.cons (.cst V.non) .nil))) (.cons (.idx (.var 7) (nE 2)) .nil)))) .nil))))) (.cons (.expr (.app (.var 12) (.tup (.cons (.cst (V.str "row")) (.cons (.idx (.var 7) (nE 1)) (.cons (.comp (.list (.idx (.var 7) (nE 2))) [none] (.name 0) .nil (.idx (.lst (.cons (.var 0) (.cons (.cmp .eq (.var 0) (nE 1)) .nil))) (.blt .int (.cons (.cmp .lt (.var 0) (nE 2)) .nil)))) .nil)))))) (.cons (.asg (.name 13) (.comp (.list (.idx (.var 7) (nE 1))) [none] (.name 0) .nil (.idx (.lst (.cons (.var 0) (.cons (.cmp .eq (.var 0) (nE 1)) .nil))) (.blt .int (.cons (.cmp .lt (.var 0) (nE 2)) .nil))))) (.cons (.expr (.app (.var 12) (.tup (.cons (.cst (V.str "row")) (.cons (.bin .add (.var 13) (.bin .mul (.lst (.cons (.cst V.non) .nil)) (.blt .int (.cons (.cmp .gt (.var 6) (nE 1)) .nil)))) (.cons (.idx (.var 7) (nE 2)) .nil)))))) (.cons (.ifs (.not (.call 34 (.cons (.var 1) (.cons (.var 6) (.cons (.idx (.idx (.var 7) (nE 1)) (.neg (nE 1))) (.cons (.idx (.var 12) (.call 25 (.cons (.var 4) (.cons (nE 17) .nil)))) (.cons (.cst (V.bl false)) .nil))))))) (.cons (.ret (.cst (V.bl false))) .nil) .nil) .nil)))))))))))))))))
noncomputable def qF5:Ss:=(.cons (.asg (.name 2) (.call 35 (.cons (.var 1) .nil))) (.cons (.ifs (.or (.not (.call 34 (.cons (.var 1) (.cons (nE 0) (.cons (.idx (.idx (.var 2) (nE 1)) (.neg (nE 1))) (.cons (.var 2) (.cons (.cst (V.bl true)) .nil))))))) (.cmp .isnot (.call 30 (.cons (.var 1) (.cons (nE 0) (.cons (.idx (.idx (.var 2) (nE 1)) (.neg (nE 1))) (.cons (.var 2) .nil))))) (.cst (V.bl true)))) (.cons (.ret (.cst (V.bl false))) .nil) .nil) .nil))
noncomputable def b36:Ss:=(.cons (.for_ (.name 1) (.rng2 (nE 1) (nE 6)) qF5) (.cons (.for_ (.name 3) (.rng1 (.blt .max (.cons (nE 1) (.cons (.blt .min (.cons (nE 40) (.cons (.blt .len (.cons (.var 0) .nil)) .nil))) .nil)))) qHX) (.cons (.ret (.cst (V.bl true))) .nil)))
theorem t36:Tb.fns[36]?=some ⟨1,14,b36⟩:=by kernel_rfl
noncomputable def Cs:List (List Nat):=[[],[],[],[],[],[],[],[],[],[],[],[],[],[],[],[],[],[],[],[],[],[2],[],[],[],[],[],[],[2],[],[],[4],[],[],[],[],[4,1012]]
theorem gl0:(glT gs)[0]?=some (.tup [N 1,N 2,N 4,N 8,N 16,N 32]):=rfl
section
variable {k:Nat}
theorem f0 (hk:1<=k) (i:Nat) (M:Mem):Pk (glT gs) Tb.fns Cs k 0 [N i] M=.ok (bT true,M):=by
 rw [qAE t0 ⟨rfl,by decide⟩ hk]
 simp [b0,qAx,qAA]
theorem f1 (hk:2<=k) (i e:Nat) (M:Mem):Pk (glT gs) Tb.fns Cs k 1 [N i,N e] M=.ok (bT (decide (i < e)),M):=by
 rw [qAE t1 ⟨rfl,by decide⟩ (by omega)]
 simp (disch:=omega) [b1,f0,qAA]
theorem f4 (hk:1<=k) {s:Nat} (hs:s<=5) (M:Mem):Pk (glT gs) Tb.fns Cs k 4 [N s] M=.ok ((N (2 ^ s),true),M):=by
 rw [qAE t4 ⟨rfl,by decide⟩ hk]
 have:s=0\/s=1\/s=2\/s=3\/s=4\/s=5:=by omega
 rcases this with rfl | rfl | rfl | rfl | rfl | rfl<;>simp [b4,gl0,qAA]
theorem f6 (hk:2<=k) {s:Nat} (h1:1<=s) (hs:s<=5) (M:Mem):Pk (glT gs) Tb.fns Cs k 6 [N s] M=.ok (bT true,M):=by
 rw [qAE t6 ⟨rfl,by decide⟩ (by omega)]
 simp (disch:=omega) [b6,f0,h1,hs,qAA]
theorem f7 (hk:3<=k) {s:Nat} (h1:1<=s) (hs:s<=5) (M:Mem):Pk (glT gs) Tb.fns Cs k 7 [N s] M=.ok ((.v .non,true),M):=by
 rw [qAE t7 ⟨rfl,by decide⟩ (by omega)]
 simp (disch:=omega) [b7,f6,qE2,h1,hs]
noncomputable def stT (a b:Nat) (c:Bool):List T:=[N a,N b,.v (.bl c)]
noncomputable def Good (M:Mem) (n:Nat):Prop:=∃ a b c,M[n]?=some (stT a b c)/\b < 2147483647
theorem qNH {k:Nat} (hk:1<=k) {M:Mem} {n m a b:Nat} (hm:0 < m/\m<=1000000) (e:M[n]?=some [N a,N b,.v (.bl true)]) (e':∀ y,(M.set n y)[n]?=some y):
  Pk (glT gs) Tb.fns Cs k 25 [.cell n,N m] M=.ok ((N (a % m),true),M.set n [N (a / m),N b,.v (.bl (decide (0 < a / m)))]):=by
 rw [qAE t25 ⟨rfl,by decide⟩ hk,b25,show Cs.getD 25 []=[] from rfl]
 simp (disch:=omega) [qCd,qEM,e,e']
 rw [qAA (by simp)]
theorem pw6 {M:Mem}:qAd M .pow (N 10) (N 6)=some (N 1000000,true):=by rw [qIM (by decide)]
theorem ml1 {M:Mem} (x:Nat):qAd M .mul (N x) (N 48271)=some (N (x * 48271),true):=qCf (.inr (by decide))
theorem ml2 {M:Mem} (x:Nat):qAd M .mul (N x) (N 2147483587)=some (N (x * 2147483587),true):=qCf (.inr (by decide))
theorem qNW {k:Nat} (hk:1<=k) {M:Mem} {n m a b:Nat} (hm:0 < m/\m<=1000000) (e:M[n]?=some [N a,N b,.v (.bl false)]) (e':∀ y,(M.set n y)[n]?=some y) (hb:b < 2147483647) {b':Nat} (hb':(b * 48271 + 11) % 2147483647=b') (hq:b' < 2147483647):
  Pk (glT gs) Tb.fns Cs k 25 [.cell n,N m] M=.ok ((N ((0 * 2147483587 + b' * b' % 2147483587) / 64 % m),true),M.set n [N a,N b',.v (.bl false)]):=by
 rw [qAE t25 ⟨rfl,by decide⟩ hk,b25,show Cs.getD 25 []=[] from rfl]
 have hm3:¬ (1000000 < m):=Nat.not_lt.mpr hm.2
 have hm2:∀ {M:Mem},qAp M .gt (N m) (N 1000000)=some false:=fun {M}=>(qNE m 1000000).trans (by rw [decide_eq_false hm3])
 have ml3:∀ {M:Mem},qAd M .mul (N b') (N b')=some (N (b' * b'),true):=fun {M}=>qCf (.inl (Nat.lt_trans hq (by decide)))
 have md1:∀ {M:Mem} (x:Nat),qAd M .mod (N x) (N 2147483647)=some (N (x % 2147483647),true):=fun {M} x=>qCd (by decide)
 have md2:∀ {M:Mem} (x:Nat),qAd M .mod (N x) (N 2147483587)=some (N (x % 2147483587),true):=fun {M} x=>qCd (by decide)
 have md3:∀ {M:Mem} (x:Nat),qAd M .mod (N x) (N m)=some (N (x % m),true):=fun {M} x=>qCd hm.1
 have fd:∀ {M:Mem} (x:Nat),qAd M .fdiv (N x) (N 64)=some (N (x / 64),true):=fun {M} x=>qEM (by decide)
 have rg:qMI (N 1)=some [N 0]:=qAe (by decide)
 simp [hb',ml1,ml2,ml3,md1,md2,md3,fd,pw6,rg,hm2,qLg,e,e']
 rw [qAA (by simp)]
theorem take {k:Nat} (hk:1<=k) {M:Mem} {n m:Nat} (g:Good M n) (hm:0 < m/\m<=1000000):∃ d M',Pk (glT gs) Tb.fns Cs k 25 [.cell n,N m] M=.ok ((N d,true),M')/\d < m/\Good M' n/\M'.length=M.length/\∀ j,j≠n -> M'[j]?=M[j]?:=by
 obtain ⟨a,b,c,e,hb⟩:=g
 have hn:n < M.length:=(List.getElem?_eq_some_iff.mp e).1
 have e':∀ y,(M.set n y)[n]?=some y:=fun y=>List.getElem?_set_self hn
 cases c with
 | true=>exact ⟨_,_,qNH hk hm e e',Nat.mod_lt _ hm.1,⟨a / m,b,decide (0 < a / m),e' _,hb⟩,by simp,fun j hj=>by rw [List.getElem?_set_ne (Ne.symm hj)]⟩
 | false=>
  have hq:(b * 48271 + 11) % 2147483647 < 2147483647:=Nat.mod_lt _ (by decide)
  exact ⟨_,_,qNW hk hm e e' hb rfl hq,Nat.mod_lt _ hm.1,⟨a,_,false,e' _,hq⟩,by simp,fun j hj=>by rw [List.getElem?_set_ne (Ne.symm hj)]⟩
theorem qNK {k:Nat} (hk:1<=k) (ns:List Int) {kk:Nat} (hkk:kk<=63) (M:Mem):∃ a b c,Pk (glT gs) Tb.fns Cs k 24 [.fz (ns.map fun n=>.v (.int n)),N kk] M=.ok ((.lst (stT a b c),true),M)/\b < 2147483647:=by
 generalize hS:ns.map (fun n=>T.v (V.int n))=S
 obtain ⟨cl,hcl⟩:∃ cl:Int,((S.drop kk).take 1++[N 0])[0]?=some (.v (.int cl)):=by
  rw [<- hS]
  cases h:ns.drop kk with
  | nil=>exact ⟨0,by rw [<- List.map_drop,h];rfl⟩
  | cons x r=>exact ⟨x,by rw [<- List.map_drop,h];rfl⟩
 obtain ⟨num,hnum⟩:∃ num:Nat,(if -1 - cl > cl then -1 - cl else cl)=(num:Int):=⟨(if -1 - cl > cl then -1 - cl else cl).toNat,by split<;>omega⟩
 have hl:((S.drop kk).take 1).length + [N 0].length<=lim:=by
  have:((S.drop kk).take 1).length<=1:=List.length_take_le _ _
  simp [lim];omega
 have c1:∀ {M:Mem},qAd M .add (.lst (qBn S (some (kk:Int)) (some ((kk:Int) + 1)))) (.lst [N 0])=some (.lst ((S.drop kk).take 1++[N 0]),T.lfs ((S.drop kk).take 1++[N 0])):=fun {M}=>by
  rw [show ((kk:Int) + 1)=((kk + 1:Nat):Int) by omega,qJ5,qDg hl];rfl
 generalize (S.drop kk).take 1++[N 0]=W at hcl c1
 have mx:∀ {M:Mem},qBz M .max [.v (.int cl),.v (.int (-1 - cl))]=some (N num,true):=fun {M}=>by rw [qIR];unfold iT;rw [hnum];rfl
 have md:∀ {M:Mem} (x:Nat),qAd M .mod (N x) (N 2147483629)=some (N (x % 2147483629),true):=fun {M} x=>qCd (by decide)
 have m1:∀ {M:Mem} (x:Nat),qAd M .mul (N 7919) (N x)=some (N (7919 * x),true):=fun {M} x=>qCf (.inl (by decide))
 have m2:∀ {M:Mem} (x:Nat),qAd M .mul (N 104729) (N x)=some (N (104729 * x),true):=fun {M} x=>qCf (.inl (by decide))
 have m3:∀ {M:Mem} (x:Nat),qAd M .mul (N x) (N kk)=some (N (x * kk),true):=fun {M} x=>qCf (.inr (Nat.lt_of_le_of_lt hkk (by decide)))
 have pw:∀ {M:Mem},qAd M .pow (N 10) (N 18)=some (N 1000000000000000000,true):=fun {M}=>by rw [qIM (by decide)]
 refine ⟨num,(num % 2147483629 + 7919 * kk + 104729 * kk * kk + 11) % 2147483629,decide (1000000000000000000<=num),?_,Nat.lt_trans (Nat.mod_lt _ (by decide)) (by decide)⟩
 rw [qAE t24 ⟨rfl,by decide⟩ hk,b24,show Cs.getD 24 []=[] from rfl]
 simp [c1,hcl,mx,md,m1,m2,m3,pw,stT,lim]
 rw [qAA rfl]
structure Kept (n:Nat) (M M':Mem):Prop where
 good:Good M' n
 len:M'.length=M.length
 oth:∀ j,j≠n -> M'[j]?=M[j]?
theorem Kept.trans {n:Nat} {A B C:Mem} (x:Kept n A B) (y:Kept n B C):Kept n A C:=⟨y.good,y.len.trans x.len,fun j hj=>(y.oth j hj).trans (x.oth j hj)⟩
theorem qB3 {k:Nat} (hk:1<=k) {M:Mem} {n m:Nat} (g:Good M n) (hm:0 < m/\m<=1000000):∃ d M',Pk (glT gs) Tb.fns Cs k 25 [.cell n,N m] M=.ok ((N d,true),M')/\d < m/\Kept n M M':=by
 obtain ⟨d,M',e,h1,h2,h3,h4⟩:=take hk g hm
 exact ⟨d,M',e,h1,h2,h3,h4⟩
theorem p5 {s:Nat} (h:s<=5):2 ^ s<=32:=Nat.le_trans (Nat.pow_le_pow_right (by decide) h) (by decide)
theorem f8 (hk:3<=k) {s p:Nat} (hs:s<=5) (hp:p < 2 ^ s) (M:Mem):Pk (glT gs) Tb.fns Cs k 8 [N s,N p] M=.ok ((.v .non,true),M):=by
 rw [qAE t8 ⟨rfl,by decide⟩ (by omega),b8]
 simp (disch:=omega) [f4,hs,f1,hp,qE2]
noncomputable def qKH (x l:Nat):Bool:=decide (x&&& l≠0)&&decide (x&&& (l + l)=0)
noncomputable def qKI (x l:Nat):Bool:=decide (x&&& l=0)&&decide (x&&& (l + l)≠0)
theorem f12 (hk:1<=k) (x l:Nat) (M:Mem):Pk (glT gs) Tb.fns Cs k 12 [N x,N l] M=.ok (bT (qKH x l),M):=by
 rw [qAE t12 ⟨rfl,by decide⟩ hk,b12]
 by_cases h:x&&& l=0<;>simp [qDH,h,qKH,qAA]
theorem f13 (hk:1<=k) (x l:Nat) (M:Mem):Pk (glT gs) Tb.fns Cs k 13 [N x,N l] M=.ok (bT (qKI x l),M):=by
 rw [qAE t13 ⟨rfl,by decide⟩ hk,b13]
 by_cases h:x&&& l=0<;>simp [qDH,h,qKI,qAA]
noncomputable def qJ3 (x l:Nat):Nat:=if qKH x l then x + l else if qKI x l then x - l else x
theorem f14 (hk:2<=k) {x l:Nat} (h:qKI x l=true -> l<=x) (M:Mem):Pk (glT gs) Tb.fns Cs k 14 [N x,N l] M=.ok ((N (qJ3 x l),true),M):=by
 rw [qAE t14 ⟨rfl,by decide⟩ (by omega),b14]
 cases h1:qKH x l with
 | true=>simp (disch:=omega) [f12,h1,qJ3,qAA]
 | false=>
  cases h2:qKI x l with
  | true=>simp (disch:=omega) [f12,f13,h1,h2,qJ3,qBG (h h2),qAA]
  | false=>simp (disch:=omega) [f12,f13,h1,h2,qJ3,qAA]
noncomputable def fs (s a b:Nat):Bool:=(List.range s).any fun j=>decide (a&&& 2 ^ j=0)&&decide (a + 2 ^ j=b)
theorem f10 (hk:2<=k) {s:Nat} (hs:s<=5) (a b:Nat) (M:Mem):Pk (glT gs) Tb.fns Cs k 10 [N s,N a,N b] M=.ok (bT (fs s a b),M):=by
 rw [qAE t10 ⟨rfl,by decide⟩ (by omega),b10,show Cs.getD 10 []=[] from rfl]
 have c1:=qCC (gl:=glT gs) (P:=Pk (glT gs) Tb.fns Cs (k - 1)) (e:=pe (glT gs) (Pk (glT gs) Tb.fns Cs (k - 1)) (.call 4 (.cons (.var 0) .nil))) (M:=M) (σ:=[]) (o:=none) (its:=List.range s) (fun x=>2 ^ x) (by simp [lim];omega) (fun x hx=>by
  have:=List.mem_range.mp hx
  simp (disch:=omega) [f4])
 have c2:=qCn (c:=pec (glT gs) (Pk (glT gs) Tb.fns Cs (k - 1)) .nil) (e:=pe (glT gs) (Pk (glT gs) Tb.fns Cs (k - 1)) (.and (.cmp .eq (.bin .band (.var 1) (.var 0)) (nE 0)) (.cmp .eq (.bin .add (.var 1) (.var 0)) (.var 2)))) (M:=M) (σ:=[some (N a),some (N b)]) (fun _=>true) (fun x=>.v (.bl (decide (a&&& x=0)&&decide (a + x=b)))) (fun _=>true) ((List.range s).map fun x=>2 ^ x) [] true none (by simp [lim];omega) (fun x _=>by simp) (fun x _ _=>by
  by_cases h:a&&& x=0<;>simp [qDH,h,bT])
 rw [qA3,List.nil_append] at c2
 have an:=qMi (M:=M) (fun x=>decide (a&&& x=0)&&decide (a + x=b)) ((List.range s).map fun x=>2 ^ x)
 rw [List.any_map] at an
 simp (disch:=omega) [qAe,-List.map_map,c1,qA8,c2,an,qAA]
 rfl
noncomputable def mf (a b:Nat):List Nat -> Option Nat
 | []=>none
 | j::r=>if qKH a (2 ^ j)&&decide (a + 2 ^ j=b) then some (2 ^ j) else mf a b r
noncomputable def oN:Option Nat -> T | none=>.v .non | some n=>N n
theorem qNY (hk:2<=k) {s a b:Nat} {M:Mem}:∀ (its:List Nat) (o3 o4:Option T),(∀ j∈its,j<=5) -> (mf a b its=none/\∃ σ',qAj [] (.name 3) (pxs (glT gs) (Pk (glT gs) Tb.fns Cs k) [] qFU) (its.map N) [some (N s),some (N a),some (N b),o3,o4] M=.ok (.nx σ',M))\/(∃ l,mf a b its=some l/\qAj [] (.name 3) (pxs (glT gs) (Pk (glT gs) Tb.fns Cs k) [] qFU) (its.map N) [some (N s),some (N a),some (N b),o3,o4] M=.ok (.rt (N l,true),M))
 | [],o3,o4,h=>.inl ⟨rfl,_,rfl⟩
 | j::r,o3,o4,h=>by
  have hj:=h j (List.mem_cons_self ..)
  have ih:=qNY hk (s:=s) (a:=a) (b:=b) (M:=M) r (some (N j)) (some (N (2 ^ j))) fun x hx=>h x (List.mem_cons_of_mem _ hx)
  rw [List.map_cons,qAV,qFU]
  cases h1:qKH a (2 ^ j) with
  | false=>
   simp only [mf,h1,Bool.false_and,Bool.false_eq_true,if_false]
   simp (disch:=omega) [f4,hj,f12,h1]
   rw [qFU] at ih
   exact ih
  | true=>
   by_cases h2:a + 2 ^ j=b
   ·refine .inr ⟨2 ^ j,by simp [mf,h1,h2],?_⟩
    simp (disch:=omega) [f4,hj,f12,h1,h2]
   ·simp only [mf,h1,decide_eq_false h2,Bool.and_false,Bool.false_eq_true,if_false]
    simp (disch:=omega) [f4,hj,f12,h1,h2]
    rw [qFU] at ih
    exact ih
theorem f11 (hk:3<=k) {s:Nat} (h1:1<=s) (hs:s<=5) (a b:Nat) (M:Mem):Pk (glT gs) Tb.fns Cs k 11 [N s,N a,N b] M=.ok ((oN (mf a b (List.range (s - 1))),true),M):=by
 rw [qAE t11 ⟨rfl,by decide⟩ (by omega),b11,show Cs.getD 11 []=[] from rfl]
 have sb:∀ {M:Mem},qAd M .sub (N s) (N 1)=some (N (s - 1),true):=fun {M}=>qBG h1
 rcases qNY (k:=k - 1) (by omega) (s:=s) (a:=a) (b:=b) (M:=M) (List.range (s - 1)) none none (fun j hj=>by have:=List.mem_range.mp hj;omega) with ⟨m,σ',e⟩ | ⟨l,m,e⟩
 ·simp (disch:=omega) [sb,qAe,e,m,oN,qAA]
 ·simp (disch:=omega) [sb,qAe,e,m,oN,qAA]
noncomputable def tP (s a b:Nat):Option (List Nat):=if fs s a b then some (List.range (2 ^ s)) else match mf a b (List.range (s - 1)) with | none=>none | some l=>some ((List.range (2 ^ s)).map fun x=>qJ3 x l)
noncomputable def oL:Option (List Nat) -> T | none=>.v .non | some L=>NL L
theorem qGC {a b l:Nat}:∀ (its:List Nat),mf a b its=some l -> ∃ j∈its,l=2 ^ j
 | [],h=>by cases h
 | j::r,h=>by
  unfold mf at h
  split at h
  ·cases h;exact ⟨j,List.mem_cons_self ..,rfl⟩
  ·obtain ⟨i,hi,e⟩:=qGC r h
   exact ⟨i,List.mem_cons_of_mem _ hi,e⟩
theorem qLa:∀ j,j < 5 -> ∀ x,x < 32 -> qKI x (2 ^ j)=true -> 2 ^ j<=x:=by decide +kernel
theorem f9 (hk:4<=k) {s a b:Nat} (h1:1<=s) (hs:s<=5) (ha:a < 2 ^ s) (hb:b < 2 ^ s) (M:Mem):Pk (glT gs) Tb.fns Cs k 9 [N s,N a,N b] M=.ok ((oL (tP s a b),true),M):=by
 rw [qAE t9 ⟨rfl,by decide⟩ (by omega),b9,show Cs.getD 9 []=[] from rfl]
 have h5:=p5 hs
 cases hf:fs s a b with
 | true=>simp (disch:=omega) [f7,f8,f10,f4,h1,hs,ha,hb,hf,qDN,tP,oL,qAA,NL]
 | false=>
  cases hm:mf a b (List.range (s - 1)) with
  | none=>simp (disch:=omega) [f7,f8,f10,f11,f4,h1,hs,ha,hb,hf,hm,tP,oL,oN,qIZ,qAA]
  | some l=>
   obtain ⟨j,hj,rfl⟩:=qGC _ hm
   have hj:=List.mem_range.mp hj
   have c:=qCC (gl:=glT gs) (P:=Pk (glT gs) Tb.fns Cs (k - 1)) (e:=pe (glT gs) (Pk (glT gs) Tb.fns Cs (k - 1)) (.call 14 (.cons (.var 0) (.cons (.var 1) .nil)))) (M:=M) (σ:=[some (N (2 ^ j))]) (o:=none) (its:=List.range (2 ^ s)) (fun x=>qJ3 x (2 ^ j)) (by simp [lim];omega) (fun x hx=>by
    have hx:=List.mem_range.mp hx
    have:=f14 (k:=k - 1) (by omega) (qLa j (by omega) x (by omega)) M
    simp [this])
   simp (disch:=omega) [f7,f8,f10,f11,f4,h1,hs,ha,hb,hf,hm,tP,oL,oN,qOQ,qAe,c,qAA]
end
end My
namespace My
open PySem PySem.Spec PI
open L2 (V)
theorem qIN {α:Type} {gl:List T} {P:Nat -> List T -> Mem -> PR (TB×Mem)} {e:TS -> Mem -> PR (TB×Mem)} {M:Mem} {σ:TS} (g h:α -> T) (fr:α -> Bool):∀ (its:List α) (ys:List T) (b:Bool) (o:Option T),ys.length + its.length<=lim ->
  (∀ x∈its,e (some (g x)::σ) M=.ok ((h x,fr x),M)) ->
  qAm [] (.name 0) (pec gl P .nil) e (its.map g) ys b (o::σ) M=.ok ((.lst (ys++its.map h),b&&its.all fr),M)
 | [],ys,b,o,_,_=>by simp [qAm]
 | x::r,ys,b,o,hl,he=>by
  rw [List.map_cons,qAm]
  rw [show qBI (.name 0) (g x) (o::σ)=some (some (g x)::σ) from rfl]
  dsimp only
  rw [qCE,PR.bind_ok]
  dsimp only
  rw [if_pos rfl,he x (by simp),PR.bind_ok]
  dsimp only
  rw [if_pos ⟨by simp at hl;omega,rfl⟩]
  rw [qIN g h fr r (ys++[h x]) (b&&fr x) (some (g x)) (by simp at hl ⊢;omega) fun y hy=>he y (by simp [hy])]
  simp [Bool.and_assoc]
theorem qKO {α:Type} (l:List α):(l.all fun _=>true)=true:=List.all_eq_true.mpr fun _ _=>rfl
theorem qIr {α:Type} {gl:List T} {P:Nat -> List T -> Mem -> PR (TB×Mem)} {e:TS -> Mem -> PR (TB×Mem)} {M:Mem} {σ:TS} {o:Option T} (g h:α -> T) (its:List α) (hl:its.length<=lim)
  (he:∀ x∈its,e (some (g x)::σ) M=.ok ((h x,true),M)):qAm [] (.name 0) (pec gl P .nil) e (its.map g) [] true (o::σ) M=.ok ((.lst (its.map h),true),M):=by
 have:=qIN (gl:=gl) (P:=P) g h (fun _=>true) its [] true o (by simpa using hl) he
 rw [qKO] at this
 simpa using this
section
variable {k:Nat}
theorem qOT (hk:3<=k) {L:List Nat} {n:Nat} (h:∀ x∈L,x < n) (hl:L.length<=lim) (M:Mem):Pk (glT gs) Tb.fns Cs k 2 [NL L,N n] M=.ok (bT true,M):=by
 rw [qAE t2 ⟨rfl,by decide⟩ (by omega),b2,show Cs.getD 2 []=[] from rfl]
 have c:qAm [] (.name 0) (pec (glT gs) (Pk (glT gs) Tb.fns Cs (k - 1)) .nil) (pe (glT gs) (Pk (glT gs) Tb.fns Cs (k - 1)) (.call 1 (.cons (.var 0) (.cons (.var 1) .nil)))) (L.map N) [] true [none,some (N n)] M=.ok ((.lst (L.map fun _=>T.v (.bl true)),true),M):=
  qIr N (fun _=>T.v (.bl true)) L hl fun x hx=>by simp [f1 (k:=k - 1) (by omega),h x hx,bT]
 have al:∀ {M:Mem},qBz M .all [.lst (L.map fun _=>T.v (.bl true))]=some (bT true):=fun {M}=>by
  rw [qLr (fun _=>true),qKO]
 simp only [qC8,qLZ,pe_and,qLB,pe_var,qLh,qHx,qJV,pe_comp,qH0,qER,qEh,qFe]
 simp [qAx,c,al,qAA,-qCE]
noncomputable abbrev St (x:PySem.Str):T:=.v (.str x)
noncomputable def ones (x:Nat):Nat:=(([1,2,4,8,16,32].filter fun y=>!decide (x&&& y=0)).map fun _=>1).sum
theorem f5o (hk:1<=k) (x:Nat) (M:Mem):Pk (glT gs) Tb.fns Cs k 5 [N x] M=.ok ((N (ones x),true),M):=by
 rw [qAE t5 ⟨rfl,by decide⟩ hk,b5,show Cs.getD 5 []=[] from rfl]
 have z:=qCa (c:=pec (glT gs) (Pk (glT gs) Tb.fns Cs (k - 1)) (.cons (.cmp .ne (.bin .band (.var 1) (.var 0)) (nE 0)) .nil)) (e:=pe (glT gs) (Pk (glT gs) Tb.fns Cs (k - 1)) (nE 1)) (M:=M) (σ:=[some (N x)]) (o:=none) (its:=[1,2,4,8,16,32]) (fun y=>!decide (x&&& y=0)) (fun _=>1) (by decide) (fun y _=>by simp [qDH]) (fun y _ _=>by simp)
 have sm:=(IsL.nl M (([1,2,4,8,16,32].filter fun y=>!decide (x&&& y=0)).map fun _=>1)).sum
 have sT:∀ {M:Mem},qFG M (.tup [N 1,N 2,N 4,N 8,N 16,N 32])=some ([1,2,4,8,16,32].map N,[]):=fun {M}=>rfl
 unfold ones
 generalize (([1,2,4,8,16,32].filter fun y=>!decide (x&&& y=0)).map fun _=>1)=L at *
 generalize ([1,2,4,8,16,32].map N)=its at *
 simp [gl0,sT,z,sm,qAA]
noncomputable def few (s w b m:Nat):Bool:=decide (ones (b / 2 ^ (s - m)) < ones (w / 2 ^ (s - m)))
theorem f19 (hk:2<=k) {s m:Nat} (hs:s<=5) (hm:m<=s) (w b:Nat) (M:Mem):Pk (glT gs) Tb.fns Cs k 19 [N s,N w,N b,N m] M=.ok (bT (few s w b m),M):=by
 rw [qAE t19 ⟨rfl,by decide⟩ (by omega),b19,show Cs.getD 19 []=[] from rfl]
 have sb:∀ {M:Mem},qAd M .sub (N s) (N m)=some (N (s - m),true):=fun {M}=>qBG hm
 have h1:∀ {M:Mem} (x:Nat),qAd M .shr (N x) (N (s - m))=some (N (x / 2 ^ (s - m)),true):=fun {M} x=>qK8 (by omega)
 have e1:=fun x=>f5o (k:=k - 1) (by omega) x M
 simp [sb,h1,e1,few,qAA]
theorem f18 (hk:3<=k) {s m:Nat} (hs:s<=5) (h1:1<=m) (hm:m<=s) (w b:Nat) (M:Mem):Pk (glT gs) Tb.fns Cs k 18 [N s,N w,N b,N m] M=.ok (bT (few s w b m),M):=by
 rw [qAE t18 ⟨rfl,by decide⟩ (by omega),b18,show Cs.getD 18 []=[] from rfl]
 have e1:=f19 (k:=k - 1) (by omega) hs hm w b M
 have e0:=f0 (k:=k - 1) (by omega) m M
 simp [e0,e1,h1,hm,qAA]
theorem qJL:∀ x:Nat,x < 32 -> 1<=x -> 1<=Builtin.Int.intBits (x:Int)/\Builtin.Int.intBits (x:Int)<=5:=by decide +kernel
noncomputable def tf (x:Nat):Nat:=2 ^ (Builtin.Int.intBits (x:Int) - 1)
theorem f23 (hk:2<=k) {x:Nat} (h:x < 32) (h1:1<=x) (M:Mem):Pk (glT gs) Tb.fns Cs k 23 [N x] M=.ok ((N (tf x),true),M):=by
 rw [qAE t23 ⟨rfl,by decide⟩ (by omega),b23,show Cs.getD 23 []=[] from rfl]
 obtain ⟨a1,a2⟩:=qJL x h h1
 unfold tf
 have e4:=f4 (k:=k - 1) (by omega) (s:=Builtin.Int.intBits (x:Int) - 1) (by omega) M
 have bt:∀ {M:Mem},qBz M .bits [N x]=some (N (Builtin.Int.intBits (x:Int)),true):=fun {M}=>rfl
 generalize Builtin.Int.intBits (x:Int)=j at *
 have sb:∀ {M:Mem},qAd M .sub (N j) (N 1)=some (N (j - 1),true):=fun {M}=>qBG a1
 simp [bt,-qKk,sb,e4,qAA]
theorem bx:∀ a:Nat,a < 32 -> ∀ b:Nat,b < 32 -> Builtin.bitXor (a:Int) (b:Int)=((a ^^^ b:Nat):Int)/\a ^^^ b < 32/\(a≠b -> 1<=a ^^^ b):=by decide +kernel
noncomputable def pa (p b:Nat):Nat:=if p % tf (p ^^^ b)=0 then p + tf (p ^^^ b) else p + tf (p % tf (p ^^^ b))
theorem qKN (x:Nat):0 < tf x:=Nat.pow_pos (by decide)
theorem f22 (hk:3<=k) {p b:Nat} (hp:p < 32) (hb:b < 32) (h:p≠b) (M:Mem):Pk (glT gs) Tb.fns Cs k 22 [N p,N b] M=.ok ((N (pa p b),true),M):=by
 rw [qAE t22 ⟨rfl,by decide⟩ (by omega),b22,show Cs.getD 22 []=[] from rfl]
 obtain ⟨q1,q2,q3⟩:=bx p hp b hb
 have x1:∀ {M:Mem},qAd M .bxor (N p) (N b)=some (N (p ^^^ b),true):=fun {M}=>by
  show some (iT (Builtin.bitXor (p:Int) (b:Int)))=_
  rw [q1];rfl
 have e1:=f23 (k:=k - 1) (by omega) q2 (q3 h) M
 have md:∀ {M:Mem},qAd M .mod (N p) (N (tf (p ^^^ b)))=some (N (p % tf (p ^^^ b)),true):=fun {M}=>qCd (qKN _)
 unfold pa
 by_cases hz:p % tf (p ^^^ b)=0
 ·simp [x1,e1,md,hz,qAA]
 ·have hl:p % tf (p ^^^ b) < 32:=Nat.lt_of_le_of_lt (Nat.mod_le _ _) hp
  have e2:=f23 (k:=k - 1) (by omega) hl (by omega) M
  simp [x1,e1,md,hz,e2,qAA]
noncomputable def rb (b:Nat):Nat -> Nat -> Option (List Nat)
 | 0,p=>if p=b then some [p] else none
 | n + 1,p=>if p=b then some [p] else (rb b n (pa p b)).map (p::·)
theorem qDl {M:Mem} {n:Nat} {L:List Nat} {p:Nat} (h:M[n]?=some ((L++[p]).map N)):qDU M (.cell n) (.v (.int (-1)))=some (N p,true):=by
 show (M[n]?).bind _=_
 rw [h,Option.bind_some]
 have:ixN ((L++[p]).map N).length (-1)=some L.length:=by
  unfold ixN L2.ixN
  simp
  omega
 rw [this,Option.bind_some]
 simp
theorem rbL (hk:3<=k) {b:Nat} (hb:b < 32) {w:T} {M:Mem}:∀ (n p:Nat) (L R:List Nat) (f:Nat),rb b n p=some R -> (∀ x∈R,x < 32) -> L.length + n<=100 -> n + 1<=f ->
  qA2 (fun σ M=>pB (pe (glT gs) (Pk (glT gs) Tb.fns Cs k) (.cmp .ne (.idx (.var 2) (.neg (nE 1))) (.var 1)) σ M)) (pxs (glT gs) (Pk (glT gs) Tb.fns Cs k) [2] qH6) f [some w,some (N b),some (.cell M.length)] (M++[(L++[p]).map N])=.ok (.nx [some w,some (N b),some (.cell M.length)],M++[(L++R).map N]):=by
 intro n
 induction n with
 | zero=>
  intro p L R f hr hx hl hf
  unfold rb at hr
  split at hr
  ·rename_i hpb
   cases hr
   obtain ⟨f,rfl⟩:∃ g,f=g + 1:=⟨f - 1,by omega⟩
   have ix:=qDl (M:=M++[(L++[p]).map N]) (n:=M.length) (L:=L) (p:=p) List.getElem?_concat_length
   subst hpb
   generalize hA:M++[(L++[p]).map N]=A at *
   rw [qA2]
   simp [ix]
  ·cases hr
 | succ n ih=>
  intro p L R f hr hx hl hf
  obtain ⟨f,rfl⟩:∃ g,f=g + 1:=⟨f - 1,by omega⟩
  have ix:=qDl (M:=M++[(L++[p]).map N]) (n:=M.length) (L:=L) (p:=p) List.getElem?_concat_length
  unfold rb at hr
  split at hr
  ·rename_i hpb
   cases hr
   subst hpb
   generalize hA:M++[(L++[p]).map N]=A at *
   rw [qA2]
   simp [ix]
  ·rename_i hpb
   obtain ⟨R',hr',rfl⟩:=Option.map_eq_some_iff.mp hr
   have e:=ih (pa p b) (L++[p]) R' f hr' (fun x hx'=>hx x (by simp [hx'])) (by simp;omega) (by omega)
   have e22:=f22 (k:=k) hk (hx p (by simp)) hb hpb (M++[(L++[p]).map N])
   rw [show L++p::R'=(L++[p])++R' by simp,<- e,qA2]
   have ap:qIW (M++[(L++[p]).map N]) M.length (N (pa p b))=some (M++[(L++[p]++[pa p b]).map N]):=by
    rw [qHz (xs:=(L++[p]).map N) List.getElem?_concat_length (by simp [lim];omega)]
    simp
   generalize hA:M++[(L++[p]).map N]=A at *
   generalize hB:M++[(L++[p]++[pa p b]).map N]=B at *
   rw [qH6]
   simp [ix,hpb,e22,ap]
theorem f21 (hk:4<=k) {w b:Nat} (hb:b < 32) {R:List Nat} {n:Nat} (hn:n<=50) (hr:rb b n w=some R) (hx:∀ x∈R,x < 32) {M:Mem} (hW:WfM M):Pk (glT gs) Tb.fns Cs k 21 [N w,N b] M=.ok ((NL R,true),M):=by
 rw [qAE t21 ⟨rfl,by decide⟩ (by omega),b21,show Cs.getD 21 []=[2] from rfl]
 have e:=rbL (k:=k - 1) (by omega) hb (w:=N w) (M:=M) n w [] R qJO hr hx (by simp;omega) (by unfold qJO;omega)
 have l1:T.lst [N w]=NL [w]:=rfl
 simp only [List.nil_append] at e
 have wh:px (glT gs) (Pk (glT gs) Tb.fns Cs (k - 1)) [2] (.while_ (.cmp .ne (.idx (.var 2) (.neg (nE 1))) (.var 1)) qH6) [some (N w),some (N b),some (.cell M.length)] (M++[[w].map N])=.ok (.nx [some (N w),some (N b),some (.cell M.length)],M++[R.map N]):=by rw [qEn];exact e
 simp only [List.map_cons,List.map_nil] at wh
 simp [-qEn,l1,lim,wh]
 exact qFc (M:=M) (A:=M) (C:=[R.map N]) rfl hW List.getElem?_concat_length (Nat.le_refl _) (qJE _) _
end
noncomputable def tL (s:Nat) (t:List Nat):List Nat -> Option (List Nat)
 | []=>some t
 | [_]=>some t
 | p::q::P=>(tL s t (q::P)).bind fun u=>(tP s p q).map fun st=>u.map fun x=>st.getD x 0
noncomputable def fnd (s w b:Nat):Option Nat:=(List.range' 1 s).find? (few s w b)
noncomputable def okp (s w b:Nat):Bool:=match fnd s w b with
 | some _=>true
 | none=>match rb b 16 w with
  | none=>false
  | some P=>P.all (fun x=>decide (x < 2 ^ s))&&(P.getLast?==some b)&&decide (P.length<=20)&&(match tL s (List.range (2 ^ s)) P with | none=>false | some U=>U.all (fun x=>decide (x < 2 ^ s))&&decide (U.length<=40))
theorem qOx:∀ w,w < 2 -> ∀ b,b < 2 -> okp 1 w b=true:=by decide +kernel
theorem qOq:∀ w,w < 4 -> ∀ b,b < 4 -> okp 2 w b=true:=by decide +kernel
theorem qO4:∀ w,w < 8 -> ∀ b,b < 8 -> okp 3 w b=true:=by decide +kernel
theorem qPI:∀ w,w < 16 -> ∀ b,b < 16 -> okp 4 w b=true:=by decide +kernel
theorem qPK:∀ w,w < 32 -> ∀ b,b < 32 -> okp 5 w b=true:=by decide +kernel
theorem qJX {s w b:Nat} (h1:1<=s) (hs:s<=5) (hw:w < 2 ^ s) (hb:b < 2 ^ s):okp s w b=true:=by
 rcases (by omega:s=1\/s=2\/s=3\/s=4\/s=5) with rfl | rfl | rfl | rfl | rfl
 ·exact qOx w hw b hb
 ·exact qOq w hw b hb
 ·exact qO4 w hw b hb
 ·exact qPI w hw b hb
 ·exact qPK w hw b hb
theorem qJu {b n w:Nat} {P:List Nat} (h:rb b n w=some P):∃ P',P=w::P':=by
 cases n with
 | zero=>unfold rb at h;split at h;cases h;exact ⟨_,rfl⟩;cases h
 | succ n=>
  unfold rb at h
  split at h
  ·cases h;exact ⟨_,rfl⟩
  ·obtain ⟨R,_,rfl⟩:=Option.map_eq_some_iff.mp h
   exact ⟨R,rfl⟩
theorem qKd {s w b:Nat} (h1:1<=s) (hs:s<=5) (hw:w < 2 ^ s) (hb:b < 2 ^ s) (hf:fnd s w b=none):∃ P' U,rb b 16 w=some (w::P')/\(∀ x∈w::P',x < 2 ^ s)/\(w::P').getLast?=some b/\(w::P').length<=20/\tL s (List.range (2 ^ s)) (w::P')=some U/\(∀ x∈U,x < 2 ^ s)/\U.length<=40:=by
 have h:=qJX h1 hs hw hb
 unfold okp at h
 rw [hf] at h
 dsimp only at h
 split at h
 ·cases h
 ·rename_i P hP
  obtain ⟨P',rfl⟩:=qJu hP
  simp only [Bool.and_eq_true,List.all_eq_true,decide_eq_true_eq,beq_iff_eq] at h
  obtain ⟨⟨⟨a1,a2⟩,a3⟩,a4⟩:=h
  split at a4
  ·cases a4
  ·rename_i U hU
   simp only [Bool.and_eq_true,List.all_eq_true,decide_eq_true_eq] at a4
   exact ⟨P',U,hP,a1,a2,a3,hU,a4.1,a4.2⟩
theorem qIP {s p q:Nat} {st:List Nat} (h:tP s p q=some st):st.length=2 ^ s:=by
 unfold tP at h
 split at h
 ·cases h;simp
 ·split at h
  ·cases h
  ·cases h;simp
theorem qI8:∀ s,s < 6 -> ∀ j,j < s - 1 -> ∀ x,x < 2 ^ s -> qJ3 x (2 ^ j) < 2 ^ s:=by decide +kernel
theorem qM3 {s p q:Nat} (hs:s<=5) {st:List Nat} (h:tP s p q=some st):∀ y∈st,y < 2 ^ s:=by
 unfold tP at h
 split at h
 ·cases h;intro y hy;exact List.mem_range.mp hy
 ·split at h
  ·cases h
  ·rename_i l hl
   cases h
   obtain ⟨j,hj,rfl⟩:=qGC _ hl
   intro y hy
   obtain ⟨x,hx,rfl⟩:=List.mem_map.mp hy
   exact qI8 s (by omega) j (List.mem_range.mp hj) x (List.mem_range.mp hx)
theorem qJw {st:List Nat} {n:Nat} (h:∀ y∈st,y < n) (hn:0 < n) (x:Nat):st.getD x 0 < n:=by
 rw [List.getD_eq_getElem?_getD]
 cases e:st[x]? with
 | none=>exact hn
 | some y=>exact h y (List.mem_of_getElem? e)
theorem qDw {s:Nat} (hs:s<=5) {t:List Nat} (ht:∀ x∈t,x < 2 ^ s):∀ (P:List Nat) {U:List Nat},tL s t P=some U -> ∀ x∈U,x < 2 ^ s
 | [],U,h=>by unfold tL at h;cases h;exact ht
 | [p],U,h=>by unfold tL at h;cases h;exact ht
 | p::q::P,U,h=>by
  unfold tL at h
  obtain ⟨W,hW,h2⟩:=Option.bind_eq_some_iff.mp h
  obtain ⟨st,hst,rfl⟩:=Option.map_eq_some_iff.mp h2
  intro x hx
  obtain ⟨y,_,rfl⟩:=List.mem_map.mp hx
  exact qJw (qM3 hs hst) (Nat.pow_pos (by decide)) y
theorem qIt {s:Nat} {t:List Nat}:∀ (P:List Nat) {U:List Nat},tL s t P=some U -> U.length=t.length
 | [],U,h=>by unfold tL at h;cases h;rfl
 | [p],U,h=>by unfold tL at h;cases h;rfl
 | p::q::P,U,h=>by
  unfold tL at h
  obtain ⟨W,hW,h2⟩:=Option.bind_eq_some_iff.mp h
  obtain ⟨st,hst,rfl⟩:=Option.map_eq_some_iff.mp h2
  rw [List.length_map,qIt (q::P) hW]
theorem qHu {t:List Nat} {f:Nat -> Nat} {x:Nat} (h:x < t.length):(t.map f).getD x 0=f (t.getD x 0):=by
 rw [List.getD_eq_getElem?_getD,List.getD_eq_getElem?_getD,List.getElem?_map,List.getElem?_eq_getElem h];rfl
end My
namespace My
open PySem PySem.Spec PI
open L2 (V)
section
variable {k:Nat}
theorem qNw {j:Nat} (h:j < 5):[N 1,N 2,N 4,N 8,N 16][j]?=some (N (2 ^ j)):=by
 have:j=0\/j=1\/j=2\/j=3\/j=4:=by omega
 rcases this with rfl | rfl | rfl | rfl | rfl<;>rfl
noncomputable def qAh (s p:Nat):List Nat:=(List.range s).map fun j=>p / 2 ^ (s - 1 - j) % 2
theorem qBs (s p:Nat):(qAh s p).length=s:=by simp [qAh]
theorem f26 (hk:1<=k) {s:Nat} (hs:s<=5) (p:Nat) (M:Mem):Pk (glT gs) Tb.fns Cs k 26 [N s,N p] M=.ok ((NL (qAh s p),true),M):=by
 rw [qAE t26 ⟨rfl,by decide⟩ hk,b26]
 have c:=qCC (gl:=glT gs) (P:=Pk (glT gs) Tb.fns Cs (k - 1)) (e:=pe (glT gs) (Pk (glT gs) Tb.fns Cs (k - 1)) (.bin .mod (.bin .fdiv (.var 1) (.idx (.lst (.cons (nE 1) (.cons (nE 2) (.cons (nE 4) (.cons (nE 8) (.cons (nE 16) .nil)))))) (.bin .sub (.bin .sub (.var 2) (nE 1)) (.var 0)))) (nE 2))) (M:=M) (σ:=[some (N p),some (N s)]) (o:=none) (its:=List.range s) (fun j=>p / 2 ^ (s - 1 - j) % 2) (by simp [lim];omega) (fun x hx=>by
  have hx:=List.mem_range.mp hx
  have e1:∀ {M:Mem},qAd M .sub (N s) (N 1)=some (N (s - 1),true):=fun {M}=>qBG (by omega)
  have e2:∀ {M:Mem},qAd M .sub (N (s - 1)) (N x)=some (N (s - 1 - x),true):=fun {M}=>qBG (by omega)
  have e3:=qNw (j:=s - 1 - x) (by omega)
  have e4:∀ {M:Mem},qAd M .fdiv (N p) (N (2 ^ (s - 1 - x)))=some (N (p / 2 ^ (s - 1 - x)),true):=fun {M}=>qEM ⟨Nat.pow_pos (by decide),Nat.lt_of_le_of_lt (p5 (show s - 1 - x<=5 by omega)) (by decide)⟩
  have e5:∀ {M:Mem} (y:Nat),qAd M .mod (N y) (N 2)=some (N (y % 2),true):=fun {M} y=>qCd (by decide)
  simp [e1,e2,e3,e4,e5,lim])
 simp (disch:=omega) [qAe,c,qAA]
 rfl
noncomputable def kL (s a b:Nat):Option (Bool×Nat):=match (List.range s).filter fun j=>!decide ((qAh s a).getD j 0=(qAh s b).getD j 0) with
 | [u]=>if (qAh s b).getD u 0=1 then some (false,u) else none
 | [u,v]=>if v=u + 1/\((qAh s a).drop u).take 2=[0,1] then some (true,u) else none
 | _=>none
noncomputable def oK:Option (Bool×Nat) -> T
 | none=>.v .non
 | some (false,u)=>.tup [.v (.str "raise"),N u]
 | some (true,u)=>.tup [.v (.str "shift"),N u]
theorem f27 (hk:2<=k) {s:Nat} (hs:s<=5) (a b:Nat) (M:Mem):Pk (glT gs) Tb.fns Cs k 27 [N s,N a,N b] M=.ok ((oK (kL s a b),true),M):=by
 rw [qAE t27 ⟨rfl,by decide⟩ (by omega),b27,show Cs.getD 27 []=[] from rfl]
 have la:=qBs s a
 have lb:=qBs s b
 have c:=qCa (c:=pec (glT gs) (Pk (glT gs) Tb.fns Cs (k - 1)) (.cons (.cmp .ne (.idx (.var 1) (.var 0)) (.idx (.var 2) (.var 0))) .nil)) (e:=pe (glT gs) (Pk (glT gs) Tb.fns Cs (k - 1)) (.var 0)) (M:=M) (σ:=[some (NL (qAh s a)),some (NL (qAh s b))]) (o:=none) (its:=List.range s) (fun j=>!decide ((qAh s a).getD j 0=(qAh s b).getD j 0)) id (by simp [lim];omega) (fun x hx=>by
  have hx:=List.mem_range.mp hx
  have i1:=(IsL.nl M (qAh s a)).idx (getD_some (by omega:x < (qAh s a).length))
  have i2:=(IsL.nl M (qAh s b)).idx (getD_some (by omega:x < (qAh s b).length))
  simp only [qAg,qLl,qKP,pe_var,lk1,lk2,lk0,PR.bind_ok,i1,i2,PR.ofO_some,qM9,qMc]) (fun x _ _=>by simp)
 rw [List.map_id] at c
 have hU:∀ u∈(List.range s).filter (fun j=>!decide ((qAh s a).getD j 0=(qAh s b).getD j 0)),u < s:=fun u hu=>List.mem_range.mp (List.mem_filter.mp hu).1
 unfold kL
 generalize (List.range s).filter (fun j=>!decide ((qAh s a).getD j 0=(qAh s b).getD j 0))=U at c hU
 match U,c,hU with
 | [],c,hU=>simp (disch:=omega) [f26,hs,qAe,qA8,-qAg,c,oK,qAA]
 | [u],c,hU=>
  have hu:=hU u (List.mem_cons_self ..)
  have i0:=(IsL.nl M [u]).idx (i:=0) (x:=u) rfl
  have i2:=(IsL.nl M (qAh s b)).idx (getD_some (by omega:u < (qAh s b).length))
  by_cases h:(qAh s b).getD u 0=1
  ·rw [h] at i2
   simp only [if_pos h]
   simp (disch:=omega) [f26,hs,qAe,qA8,-qAg,c,i0,i2,oK,lim,qAA]
  ·simp only [if_neg h]
   simp (disch:=omega) [f26,hs,qAe,qA8,-qAg,c,i0,i2,oK,lim,qAA,-List.getD_eq_getElem?_getD,h]
 | [u,v],c,hU=>
  have hu:=hU u (List.mem_cons_self ..)
  have i0:=(IsL.nl M [u,v]).idx (i:=0) (x:=u) rfl
  have i1:=(IsL.nl M [u,v]).idx (i:=1) (x:=v) rfl
  have ct:lT (qBn ((qAh s a).map N) (some (u:Int)) (some ((u:Int) + 2)))=(NL (((qAh s a).drop u).take 2),true):=by
   rw [show ((u:Int) + 2)=((u + 2:Nat):Int) by omega,qJ2 (by omega),show u + 2 - u=2 by omega,<- List.map_drop,<- List.map_take,qGb]
  have l2:T.lst [N 0,N 1]=NL [0,1]:=rfl
  by_cases h:v=u + 1
  ·subst h
   by_cases h2:((qAh s a).drop u).take 2=[0,1]
   ·simp only [if_pos (And.intro (rfl:u + 1=u + 1) h2)]
    rw [h2] at ct
    simp (disch:=omega) [f26,hs,qAe,qA8,-qAg,c,i0,i1,ct,l2,qN3,h2,oK,lim,qAA]
   ·simp only [show ¬ (u + 1=u + 1/\((qAh s a).drop u).take 2=[0,1]) from fun z=>h2 z.2,if_false]
    simp (disch:=omega) [f26,hs,qAe,qA8,-qAg,c,i0,i1,ct,l2,qN3,h2,oK,lim,qAA]
  ·simp only [show ¬ (v=u + 1/\((qAh s a).drop u).take 2=[0,1]) from fun z=>h z.1,if_false]
   simp (disch:=omega) [f26,hs,qAe,qA8,-qAg,c,i0,i1,h,oK,lim,qAA]
 | u::v::w::r,c,hU=>simp (disch:=omega) [f26,hs,qAe,qA8,-qAg,c,oK,qAA]
noncomputable def qHk (j:Nat) (R:List Nat):List Nat:=R.take j++[R.getD (j + 1) 0,R.getD j 0]++R.drop (j + 2)
noncomputable def qMe (sh:Bool) (j:Nat) (R:List Nat):List Nat:=if sh then qHk j R else R
noncomputable def val (s:Nat) (R:List Nat):Nat:=((List.range s).map fun x=>R.getD x 0 * 2 ^ (s - 1 - x)).sum
noncomputable def tv (s:Nat) (sh:Bool) (j p:Nat):Nat:=val s (qMe sh j (qAh s p))
noncomputable def tK (s:Nat) (sh:Bool) (j:Nat):List Nat:=(List.range (2 ^ s)).map (tv s sh j)
theorem qNZ:∀ s,s < 6 -> ∀ a,a < 2 ^ s -> ∀ b,b < 2 ^ s -> tP s a b=(kL s a b).map fun q=>tK s q.1 q.2:=by decide +kernel
theorem qO1:∀ s,s < 6 -> ∀ a,a < 2 ^ s -> ∀ b,b < 2 ^ s -> (match kL s a b with | some (true,j)=>decide (j + 1 < s) | _=>true)=true:=by decide +kernel
noncomputable def kT:Bool -> Nat -> T
 | false,u=>.tup [.v (.str "raise"),N u]
 | true,u=>.tup [.v (.str "shift"),N u]
theorem qNO {M:Mem}:qAp M .eq (.v (.str "shift")) (.v (.str "shift"))=some true:=rfl
theorem qMu {M:Mem}:qAp M .eq (.v (.str "raise")) (.v (.str "shift"))=some false:=rfl
theorem qKJ {s:Nat} (hs:s<=5):[N 1,N 2,N 4,N 8,N 16,N 32][s]?=some (N (2 ^ s)):=by
 have:s=0\/s=1\/s=2\/s=3\/s=4\/s=5:=by omega
 rcases this with rfl | rfl | rfl | rfl | rfl | rfl<;>rfl
theorem qHc {j:Nat} {R:List Nat} (h:j + 1 < R.length):(qHk j R).length=R.length:=by
 unfold qHk;simp;omega
theorem cV {P:Nat -> List T -> Mem -> PR (TB×Mem)} {s:Nat} (hs:s<=5) {R:List Nat} (hR:R.length=s) (M:Mem):qAm [] (.name 0) (pec (glT gs) P .nil) (pe (glT gs) P (.bin .mul (.idx (.var 1) (.var 0)) (.idx (.lst (.cons (nE 1) (.cons (nE 2) (.cons (nE 4) (.cons (nE 8) (.cons (nE 16) .nil)))))) (.bin .sub (.bin .sub (.var 2) (nE 1)) (.var 0))))) ((List.range s).map N) [] true [none,some (NL R),some (N s)] M=.ok ((NL ((List.range s).map fun x=>R.getD x 0 * 2 ^ (s - 1 - x)),true),M):=
 qCC (fun x=>R.getD x 0 * 2 ^ (s - 1 - x)) (by simp [lim];omega) (fun x hx=>by
  have hx:=List.mem_range.mp hx
  have e1:∀ {M:Mem},qAd M .sub (N s) (N 1)=some (N (s - 1),true):=fun {M}=>qBG (by omega)
  have e2:∀ {M:Mem},qAd M .sub (N (s - 1)) (N x)=some (N (s - 1 - x),true):=fun {M}=>qBG (by omega)
  have e3:=qNw (j:=s - 1 - x) (by omega)
  have i:=(IsL.nl M R).idx (getD_some (by omega:x < R.length))
  generalize R.getD x 0=y at i ⊢
  have e4:∀ {M:Mem},qAd M .mul (N y) (N (2 ^ (s - 1 - x)))=some (N (y * 2 ^ (s - 1 - x)),true):=fun {M}=>qCf (.inr (Nat.lt_of_le_of_lt (p5 (show s - 1 - x<=5 by omega)) (by decide)))
  simp [e1,e2,e3,e4,i,lim])
theorem qPF (hk:1<=k) {s j:Nat} (hs:s<=5) {sh:Bool} (hj:sh=true -> j + 1 < s) {M:Mem} {i:Nat} {ys:List Nat} (hy:ys.length < 2000) {o4:Option T}:∃ p4,pxs (glT gs) (Pk (glT gs) Tb.fns Cs k) [2] qH9 [some (N s),some (kT sh j),some (.cell M.length),some (N i),o4] (M++[ys.map N])=.ok (.nx [some (N s),some (kT sh j),some (.cell M.length),some (N i),p4],M++[(ys++[tv s sh j i]).map N]):=by
 have lR:=qBs s i
 have g0:(M++[ys.map N])[M.length]?=some (ys.map N):=by simp
 have ap:∀ x,qIW (M++[ys.map N]) M.length (N x)=some (M++[(ys++[x]).map N]):=fun x=>by
  rw [qHz g0 (by simp [lim];omega),List.set_append_right _ _ (Nat.le_refl _)];simp
 rw [qH9]
 cases sh with
 | false=>
  have c:=cV (P:=Pk (glT gs) Tb.fns Cs k) hs lR (M++[ys.map N])
  have sm:=(IsL.nl (M++[ys.map N]) ((List.range s).map fun x=>(qAh s i).getD x 0 * 2 ^ (s - 1 - x))).sum
  have hv:((List.range s).map fun x=>(qAh s i).getD x 0 * 2 ^ (s - 1 - x)).sum=tv s false j i:=rfl
  generalize ((List.range s).map fun x=>(qAh s i).getD x 0 * 2 ^ (s - 1 - x))=vs at c sm hv
  rw [hv] at sm
  generalize tv s false j i=w at *
  refine ⟨some (NL (qAh s i)),?_⟩
  simp (disch:=omega) [f26,hs,kT,qMu,qAe,-qAg,c,sm,ap,qA8]
 | true=>
  have hj:=hj rfl
  have lQ:=qHc (j:=j) (R:=qAh s i) (by omega)
  rw [lR] at lQ
  have c:=cV (P:=Pk (glT gs) Tb.fns Cs k) hs lQ (M++[ys.map N])
  have sm:=(IsL.nl (M++[ys.map N]) ((List.range s).map fun x=>(qHk j (qAh s i)).getD x 0 * 2 ^ (s - 1 - x))).sum
  have hv:((List.range s).map fun x=>(qHk j (qAh s i)).getD x 0 * 2 ^ (s - 1 - x)).sum=tv s true j i:=rfl
  generalize ((List.range s).map fun x=>(qHk j (qAh s i)).getD x 0 * 2 ^ (s - 1 - x))=vs at c sm hv
  rw [hv] at sm
  generalize tv s true j i=w at *
  have i1:=(IsL.nl (M++[ys.map N]) (qAh s i)).idx (getD_some (by omega:j + 1 < (qAh s i).length))
  have i0:=(IsL.nl (M++[ys.map N]) (qAh s i)).idx (getD_some (by omega:j < (qAh s i).length))
  have hq:qHk j (qAh s i)=(qAh s i).take j++[(qAh s i).getD (j + 1) 0,(qAh s i).getD j 0]++(qAh s i).drop (j + 2):=rfl
  generalize (qAh s i).getD (j + 1) 0=x1 at i1 hq
  generalize (qAh s i).getD j 0=x0 at i0 hq
  have y1:lT (qBn ((qAh s i).map N) none (some (j:Int)))=(NL ((qAh s i).take j),true):=by
   rw [qBR (by simp;omega),<- List.map_take,qGb]
  have y2:lT (qBn ((qAh s i).map N) (some ((j:Int) + 2)) none)=(NL ((qAh s i).drop (j + 2)),true):=by
   rw [show ((j:Int) + 2)=((j + 2:Nat):Int) by omega,qCT (by simp;omega),<- List.map_drop,qGb]
  have l2:T.lst [N x1,N x0]=NL [x1,x0]:=rfl
  have a1:∀ {M:Mem},qAd M .add (NL ((qAh s i).take j)) (NL [x1,x0])=some (NL ((qAh s i).take j++[x1,x0]),true):=fun {M}=>qEI (by simp [lim];omega)
  have a2:∀ {M:Mem},qAd M .add (NL ((qAh s i).take j++[x1,x0])) (NL ((qAh s i).drop (j + 2)))=some (NL (qHk j (qAh s i)),true):=fun {M}=>by rw [qEI (by simp [lim];omega),hq]
  refine ⟨some (NL (qHk j (qAh s i))),?_⟩
  simp (disch:=omega) [f26,hs,kT,qNO,qAe,-qAg,y1,y2,i0,i1,l2,a1,a2,lim,c,sm,ap,qA8]
theorem qNt (hk:1<=k) {s j:Nat} (hs:s<=5) {sh:Bool} (hj:sh=true -> j + 1 < s) {M:Mem}:∀ (m i:Nat) (ys:List Nat) (o3 o4:Option T),ys.length + m<=2000 -> ∃ p3 p4,qAj [] (.name 3) (pxs (glT gs) (Pk (glT gs) Tb.fns Cs k) [2] qH9) ((List.range' i m).map N) [some (N s),some (kT sh j),some (.cell M.length),o3,o4] (M++[ys.map N])=.ok (.nx [some (N s),some (kT sh j),some (.cell M.length),p3,p4],M++[(ys++(List.range' i m).map (tv s sh j)).map N])
 | 0,i,ys,o3,o4,hy=>⟨o3,o4,by simp⟩
 | m + 1,i,ys,o3,o4,hy=>by
  obtain ⟨q4,body⟩:=qPF hk hs hj (M:=M) (i:=i) (ys:=ys) (by omega) (o4:=o4)
  obtain ⟨p3,p4,e⟩:=qNt hk hs hj (M:=M) m (i + 1) (ys++[tv s sh j i]) (some (N i)) q4 (by simp;omega)
  refine ⟨p3,p4,?_⟩
  rw [List.range'_succ,List.map_cons,qAV,show ∀ a b c d e:Option T,[a,b,c,d,e].set 3 (some (N i))=[a,b,c,some (N i),e] from fun _ _ _ _ _=>rfl,body,PR.bind_ok]
  dsimp only
  rw [e]
  simp
theorem f28 (hk:2<=k) {s j:Nat} (hs:s<=5) {sh:Bool} (hj:sh=true -> j + 1 < s) {M:Mem} (hM:FlatM M):Pk (glT gs) Tb.fns Cs k 28 [N s,kT sh j] M=.ok ((NL (tK s sh j),true),M):=by
 rw [qAE t28 ⟨rfl,by decide⟩ (by omega),b28,show Cs.getD 28 []=[2] from rfl]
 have h5:=p5 hs
 obtain ⟨p3,p4,e⟩:=qNt (k:=k - 1) (by omega) hs hj (M:=M) (2 ^ s) 0 [] none none (by simp;omega)
 rw [<- List.range_eq_range',List.nil_append,List.map_nil] at e
 have th:thaw M.length (.lst [])=(.cell M.length,[[]]):=by simp [thaw,qCJ]
 have ln:=qKJ hs
 simp (disch:=omega) [lim,th,ln,qAe,e]
 have:=qGO hM (tK s sh j) false
 unfold tK at this ⊢
 rw [List.map_map] at this
 exact this
theorem qIs {a:Nat} (ha:a<=1000):qIu (N a) (N 0)=some (((List.range a).reverse.map fun j=>j + 1).map N):=by
 show (if (-1000000<=(a:Int)/\(a:Int)<=1000000)/\-1000000<=((0:Nat):Int)/\((0:Nat):Int)<=1000000 then some (qBy (a:Int) ((a:Int) - ((0:Nat):Int)).toNat) else none)=_
 rw [if_pos ⟨⟨by omega,by omega⟩,by decide,by decide⟩]
 congr 1
 unfold qBy
 rw [show ((a:Int) - ((0:Nat):Int)).toNat=a by omega]
 apply List.ext_getElem
 ·simp
 ·intro i h1 h2
  simp at h1
  simp
  unfold N
  congr 2
  omega
theorem qDc {s:Nat} {t:List Nat} {p q:Nat} {P U:List Nat} (h:tL s t (p::q::P)=some U):∃ W st,tL s t (q::P)=some W/\tP s p q=some st/\U=W.map fun x=>st.getD x 0:=by
 unfold tL at h
 obtain ⟨W,hW,h2⟩:=Option.bind_eq_some_iff.mp h
 obtain ⟨st,hst,rfl⟩:=Option.map_eq_some_iff.mp h2
 exact ⟨W,st,hW,hst,rfl⟩
theorem qGh {s:Nat} {t:List Nat}:∀ (n:Nat) (P U:List Nat),tL s t P=some U -> n < P.length -> ∃ W,tL s t (P.drop n)=some W
 | 0,P,U,h,_=>⟨U,h⟩
 | n + 1,[],U,h,hl=>by simp at hl
 | n + 1,[p],U,h,hl=>by simp at hl
 | n + 1,p::q::P,U,h,hl=>by
  obtain ⟨W,st,hW,_,_⟩:=qDc h
  exact qGh n (q::P) W hW (by simp at hl ⊢;omega)
theorem qGH {s:Nat} {U:List Nat} (P:List Nat) (h:tL s (List.range (2 ^ s)) P=some U):U.length=2 ^ s:=by rw [qIt P h,List.length_range]
end
end My
namespace My
open PySem PySem.Spec PI
open L2 (V)
noncomputable def Kn (t:T):Prop:=∃ ty,∀ M:Mem,qAX M t=some ty
noncomputable def isI:T -> Bool | .v (.int _)=>true | _=>false
noncomputable def blw (e:Int):T -> Bool | .v (.int i)=>decide (0<=i)&&decide (i < e) | _=>false
theorem qKn {t:T} (h:∀ M:Mem,qAX M t=some "int"):∃ i,t=.v (.int i):=by
 have h0:=h []
 cases t with
 | v x=>cases x<;>first | exact ⟨_,rfl⟩ | (simp [qAX] at h0)
 | cell n=>simp [qAX] at h0
 | fz xs=>simp [qAX] at h0
 | lst xs=>simp [qAX] at h0
 | tup xs=>simp [qAX] at h0
 | ob o=>cases o<;>simp [qAX] at h0
theorem qLE {t:T} {ty:String} (h:∀ M:Mem,qAX M t=some ty):isI t=decide (ty="int"):=by
 by_cases hi:ty="int"
 ·subst hi
  obtain ⟨i,rfl⟩:=qKn h
  rfl
 ·rw [decide_eq_false hi]
  unfold isI
  split
  ·have:=h [];simp [qAX] at this;exact absurd this.symm hi
  ·rfl
section
variable {k:Nat}
theorem w0 (hk:1<=k) {t:T} (h:Kn t) (M:Mem):Pk (glT gs) Tb.fns Cs k 0 [t] M=.ok (bT (isI t),M):=by
 obtain ⟨ty,e⟩:=h
 rw [qAE t0 ⟨rfl,by decide⟩ hk,b0,qLE e]
 by_cases h1:ty="int"
 ·subst h1
  simp [e,qAx,qAA]
 ·by_cases h2:ty="bool"
  ·subst h2
   simp [e,qAx,qAA]
  ·simp [e,qAx,qAA,h1,h2]
theorem n1 (hk:2<=k) {t:T} (h:Kn t) (e:Int) (M:Mem):Pk (glT gs) Tb.fns Cs k 1 [t,.v (.int e)] M=.ok (bT (blw e t),M):=by
 rw [qAE t1 ⟨rfl,by decide⟩ (by omega),b1]
 have e0:=w0 (k:=k - 1) (by omega) h M
 cases hi:isI t with
 | false=>
  rw [hi] at e0
  have:blw e t=false:=by
   unfold isI at hi
   unfold blw
   split at hi
   ·cases hi
   ·rfl
  simp [e0,this,qAA]
 | true=>
  rw [hi] at e0
  unfold isI at hi
  split at hi
  ·rename_i i
   have c1:∀ {M:Mem},qAp M .le (N 0) (.v (.int i))=some (decide (0<=i)):=fun {M}=>rfl
   have c2:∀ {M:Mem},qAp M .lt (.v (.int i)) (.v (.int e))=some (decide (i < e)):=fun {M}=>rfl
   by_cases h0:0<=i
   ·simp [e0,c1,c2,h0,blw,qAA]
   ·simp [e0,c1,h0,blw,qAA]
  ·cases hi
end
section
variable {k:Nat}
theorem qMQ {m p:Nat}:blw (m:Int) (N p)=decide (p < m):=by
 show (decide (0<=(p:Int))&&decide ((p:Int) < m))=_
 simp
theorem kN (p:Nat):Kn (N p):=⟨"int",fun _=>rfl⟩
theorem qHQ {M:Mem} (a b:PySem.Str):qAp M .eq (St a) (St b)=some (decide (a=b)):=by
 show (some (a==b):Option Bool)=_
 congr 1
theorem qEA {M:Mem} (a b:PySem.Str):qAp M .ne (St a) (St b)=some (!decide (a=b)):=by
 show (some (!(a==b)):Option Bool)=_
 congr 1
theorem kSt (x:PySem.Str):Kn (St x):=⟨"str",fun _=>rfl⟩
noncomputable def hf (w:Str) (m:Nat):T -> Bool
 | .tup ts=>decide (ts.length=m)&&(match ts with | .v (.str x)::_=>decide (x=w) | _=>false)
 | _=>false
inductive Kh:T -> Prop
 | oth (t:T) (ty:String):(∀ M:Mem,qAX M t=some ty) -> ty≠"tuple" -> Kh t
 | nil:Kh (.tup [])
 | cons (x:T) (ts:List T):Kn x -> Kh (.tup (x::ts))
theorem qG6 {t:T} {ty:String} (h:∀ M:Mem,qAX M t=some ty) (hn:ty≠"tuple") (w:Str) (m:Nat):hf w m t=false:=by
 unfold hf
 split
 ·have:=h [];simp [qAX] at this;exact absurd this.symm hn
 ·rfl
theorem qKf {t:T} (h:∀ M:Mem,qAX M t=some "str"):∃ x,t=.v (.str x):=by
 have h0:=h []
 cases t with
 | v x=>cases x<;>first | exact ⟨_,rfl⟩ | (simp [qAX] at h0)
 | cell n=>simp [qAX] at h0
 | fz xs=>simp [qAX] at h0
 | lst xs=>simp [qAX] at h0
 | tup xs=>simp [qAX] at h0
 | ob o=>cases o<;>simp [qAX] at h0
theorem qGt (hk:1<=k) {t:T} (h:Kh t) (w:Str) {m:Nat} (hm:1<=m) (M:Mem):Pk (glT gs) Tb.fns Cs k 3 [t,St w,N m] M=.ok (bT (hf w m t),M):=by
 rw [qAE t3 ⟨rfl,by decide⟩ (by omega),b3,show Cs.getD 3 []=[] from rfl]
 have ty1:∀ {M:Mem} (ts:List T),qAX M (.tup ts)=some "tuple":=fun {M} ts=>rfl
 cases h with
 | oth _ ty e hn=>
  rw [qG6 e hn]
  simp [e,qAx,hn,qAA]
 | nil=>
  have:¬ 0=m:=by omega
  simp [ty1,qAx,this,hf,qAA,bT]
 | cons x ts hx=>
  obtain ⟨ty,e⟩:=hx
  by_cases hl:ts.length + 1=m
  ·by_cases hs:ty="str"
   ·subst hs
    obtain ⟨y,rfl⟩:=qKf e
    have eq:∀ {M:Mem},qAp M .eq (T.v (.str y)) (St w)=some (decide (y=w)):=fun {M}=>qHQ y w
    simp [ty1,qAx,hl,hf,e,eq,qAA]
   ·have h2:hf w m (.tup (x::ts))=false:=by
     show (decide ((x::ts).length=m)&&_)=false
     split
     ·rename_i z _ hz
      cases hz
      exact absurd (Option.some.inj (e [])).symm hs
     ·simp
    rw [h2]
    simp [ty1,qAx,hl,e,hs,qAA]
  ·have h2:hf w m (.tup (x::ts))=false:=by
    show (decide (ts.length + 1=m)&&_)=false
    rw [decide_eq_false hl];rfl
   rw [h2]
   simp [ty1,qAx,hl,qAA]
noncomputable def lb (e:Int):T -> Bool
 | .lst ts=>ts.all (blw e)
 | _=>false
inductive Th:T -> Prop
 | lst (ts:List T):(∀ t∈ts,Kn t) -> ts.length<=1000 -> Th (.lst ts)
 | oth (t:T) (ty:String):(∀ M:Mem,qAX M t=some ty) -> ty≠"list" -> Th t
theorem qLG {t:T} {ty:String} (h:∀ M:Mem,qAX M t=some ty) (hn:ty≠"list") (n:Int):lb n t=false:=by
 unfold lb
 split
 ·have:=h [];simp [qAX] at this;exact absurd this.symm hn
 ·rfl
theorem lbT (hk:3<=k) {t:T} (h:Th t) (n:Nat) (M:Mem):Pk (glT gs) Tb.fns Cs k 2 [t,N n] M=.ok (bT (lb (n:Int) t),M):=by
 rw [qAE t2 ⟨rfl,by decide⟩ (by omega),b2,show Cs.getD 2 []=[] from rfl]
 cases h with
 | oth _ ty e hn=>
  rw [qLG e hn]
  simp [e,qAx,hn,qAA]
 | lst ts hk' hl=>
  have c:qAm [] (.name 0) (pec (glT gs) (Pk (glT gs) Tb.fns Cs (k - 1)) .nil) (pe (glT gs) (Pk (glT gs) Tb.fns Cs (k - 1)) (.call 1 (.cons (.var 0) (.cons (.var 1) .nil)))) (ts.map fun x=>x) [] true [none,some (N n)] M=.ok ((.lst (ts.map fun t=>T.v (.bl (blw (n:Int) t))),true),M):=
   qIr (fun x=>x) (fun t=>T.v (.bl (blw (n:Int) t))) ts (by unfold lim;omega) fun x hx=>by
    have e1:Pk (glT gs) Tb.fns Cs (k - 1) 1 [x,N n] M=.ok (bT (blw (n:Int) x),M):=n1 (k:=k - 1) (by omega) (hk' x hx) n M
    simp [e1,bT]
  rw [show (ts.map fun x=>x)=ts by simp] at c
  have al:∀ {M:Mem},qBz M .all [.lst (ts.map fun t=>T.v (.bl (blw (n:Int) t)))]=some (bT (ts.all (blw (n:Int)))):=fun {M}=>qLr _ ts
  simp [qAx,c,al,lb,qAA,-qCE]
theorem thN (L:List Nat) (h:L.length<=1000):Th (NL L):=.lst _ (fun t ht=>by obtain ⟨x,_,rfl⟩:=List.mem_map.mp ht;exact kN x) (by simpa using h)
theorem qN2 (n:Nat) (L:List Nat):lb (n:Int) (NL L)=L.all fun x=>decide (x < n):=by
 show (L.map N).all (blw (n:Int))=_
 rw [List.all_map]
 congr 1
 funext x
 exact qMQ
theorem qGD {s:Nat} {t:List Nat}:∀ (n:Nat) (P:List Nat),tL s t (P.drop n)=none -> tL s t P=none
 | 0,P,h=>h
 | n + 1,[],h=>by simp [tL] at h
 | n + 1,[p],h=>by simp [tL] at h
 | n + 1,p::q::P,h=>by
  have:=qGD n (q::P) h
  unfold tL
  rw [this];rfl
theorem taG (hk:5<=k) {s:Nat} (h1:1<=s) (hs:s<=5) {M:Mem} {P:List Nat} (hP:∀ x∈P,x < 2 ^ s) (hl:P.length<=100):∀ (n:Nat) (U:List Nat) (o3 o4:Option T),n < P.length -> tL s (List.range (2 ^ s)) (P.drop n)=some U ->
  (∀ R,tL s (List.range (2 ^ s)) P=some R -> ∃ p3 p4,qAj [] (.name 3) (pxs (glT gs) (Pk (glT gs) Tb.fns Cs k) [] qEN) (((List.range n).reverse.map fun j=>j + 1).map N) [some (N s),some (NL P),some (NL U),o3,o4] M=.ok (.nx [some (N s),some (NL P),some (NL R),p3,p4],M))/\
  (tL s (List.range (2 ^ s)) P=none -> qAj [] (.name 3) (pxs (glT gs) (Pk (glT gs) Tb.fns Cs k) [] qEN) (((List.range n).reverse.map fun j=>j + 1).map N) [some (N s),some (NL P),some (NL U),o3,o4] M=.ok (.rt (.v .non,true),M))
 | 0,U,o3,o4,_,hU=>by
  rw [List.drop_zero] at hU
  refine ⟨fun R hR=>?_,fun hn=>?_⟩
  ·rw [hR] at hU;cases hU
   exact ⟨o3,o4,rfl⟩
  ·rw [hn] at hU;cases hU
 | n + 1,U,o3,o4,hn,hU=>by
  have d1:P.drop n=P[n]::P[n + 1]::P.drop (n + 2):=by rw [List.drop_eq_getElem_cons (by omega),List.drop_eq_getElem_cons hn]
  have d2:P.drop (n + 1)=P[n + 1]::P.drop (n + 2):=List.drop_eq_getElem_cons hn
  have la:=qGH _ hU
  have e9:=f9 (k:=k) (by omega) h1 hs (hP P[n] (List.getElem_mem _)) (hP P[n + 1] (List.getElem_mem _)) M
  have p5':=p5 hs
  have i1:=(IsL.nl M P).idx (i:=n) (x:=P[n]) (List.getElem?_eq_getElem (by omega))
  have i2:=(IsL.nl M P).idx (i:=n + 1) (x:=P[n + 1]) (List.getElem?_eq_getElem hn)
  have sb:∀ {M:Mem},qAd M .sub (N (n + 1)) (N 1)=some (N n,true):=fun {M}=>by rw [qBG (by omega)];rfl
  have nf:(NL P).lf=false:=qA8 P
  have st5:∀ a b c d e z:Option T,[a,b,c,d,e].set 3 z=[a,b,c,z,e]:=fun _ _ _ _ _ _=>rfl
  have tn:tL s (List.range (2 ^ s)) (P.drop n)=(tP s P[n] P[n + 1]).map fun st=>U.map fun x=>st.getD x 0:=by
   rw [d1,tL,<- d2,hU];rfl
  rw [List.range_succ,List.reverse_append,List.reverse_singleton,List.singleton_append,List.map_cons,List.map_cons,qAV,st5]
  cases hst:tP s P[n] P[n + 1] with
  | none=>
   rw [hst] at e9 tn
   have tN:=qGD n P tn
   have body:pxs (glT gs) (Pk (glT gs) Tb.fns Cs k) [] qEN [some (N s),some (NL P),some (NL U),some (N (n + 1)),o4] M=.ok (.rt (.v .non,true),M):=by
    generalize NL P=tp at i1 i2 ⊢
    unfold oL at e9
    simp only at e9
    rw [qEN]
    simp [sb,i1,i2,e9,qIZ]
   rw [body,PR.bind_ok]
   exact ⟨fun R hR=>absurd (tN.symm.trans hR) (by simp),fun _=>rfl⟩
  | some st=>
   rw [hst] at e9 tn
   have lst:=qIP hst
   have hx:∀ x∈U,x < st.length:=fun x hx=>by rw [lst];exact qDw hs (fun y hy=>List.mem_range.mp hy) _ hU x hx
   have z:=qCC (gl:=glT gs) (P:=Pk (glT gs) Tb.fns Cs k) (e:=pe (glT gs) (Pk (glT gs) Tb.fns Cs k) (.idx (.var 1) (.var 0))) (M:=M) (σ:=[some (NL st)]) (o:=none) (its:=U) (fun x=>st.getD x 0) (by unfold lim;omega) fun x hx'=>by
    have:=(IsL.nl M st).idx (getD_some (hx x hx'))
    simp [this]
   have isn:=qMt (M:=M) st
   unfold oL at e9
   simp only at e9
   have ih:=taG hk h1 hs (M:=M) hP hl n (U.map fun x=>st.getD x 0) (some (N (n + 1))) (some (NL st)) (by omega) tn
   have body:pxs (glT gs) (Pk (glT gs) Tb.fns Cs k) [] qEN [some (N s),some (NL P),some (NL U),some (N (n + 1)),o4] M=.ok (.nx [some (N s),some (NL P),some (NL (U.map fun x=>st.getD x 0)),some (N (n + 1)),some (NL st)],M):=by
    clear ih
    generalize (U.map fun x=>st.getD x 0)=W at z ⊢
    generalize NL P=tp at i1 i2 ⊢
    rw [qEN]
    simp [sb,i1,i2,e9,isn,z]
   rw [body,PR.bind_ok]
   exact ih
theorem qN6 (hk:6<=k) {s:Nat} (h1:1<=s) (hs:s<=5) {M:Mem} {P:List Nat} (hP:∀ x∈P,x < 2 ^ s) (hl:1<=P.length/\P.length<=100):∃ fr,Pk (glT gs) Tb.fns Cs k 17 [N s,NL P] M=.ok ((oL (tL s (List.range (2 ^ s)) P),fr),M):=by
 rw [qAE t17 ⟨rfl,by decide⟩ (by omega),b17,show Cs.getD 17 []=[] from rfl]
 have dl:P.drop (P.length - 1)=[P[P.length - 1]]:=by rw [List.drop_eq_getElem_cons (by omega),List.drop_eq_nil_of_le (by omega)]
 have e:=taG (k:=k - 1) (by omega) h1 hs (M:=M) hP hl.2 (P.length - 1) (List.range (2 ^ s)) none none (by omega) (by rw [dl];rfl)
 have e4:=f4 (k:=k - 1) (by omega) hs M
 have p5':=p5 hs
 have lr:=qDN (n:=2 ^ s) (by omega)
 have sb:∀ {M:Mem},qAd M .sub (N P.length) (N 1)=some (N (P.length - 1),true):=fun {M}=>qBG hl.1
 have rg:=qIs (a:=P.length - 1) (by omega)
 have lN:=(IsL.nl M P).len
 have l2:T.lst ((List.range (2 ^ s)).map N)=NL (List.range (2 ^ s)):=rfl
 generalize ((List.range (P.length - 1)).reverse.map fun j=>j + 1).map N=its at *
 cases hR:tL s (List.range (2 ^ s)) P with
 | none=>
  have e:=e.2 hR
  refine ⟨true,?_⟩
  unfold oL
  simp only
  simp [e4,lr,l2,lN,sb,rg,e,qAA]
 | some R=>
  obtain ⟨p3,p4,e⟩:=e.1 R hR
  have nfR:(NL R).lf=false:=qA8 R
  refine ⟨false,?_⟩
  unfold oL
  simp only
  simp [e4,lr,l2,lN,sb,rg,e,nfR,qAA]
theorem qBA {M:Mem} {L:List Nat} {b:Nat} (h:L.getLast?=some b):qDU M (NL L) (.v (.int (-1)))=some (N b,true):=by
 obtain ⟨K,rfl⟩:∃ K,L=K++[b]:=by
  have hne:L≠[]:=by rintro rfl;cases h
  refine ⟨L.dropLast,?_⟩
  rw [List.getLast?_eq_some_getLast hne] at h
  rw [<- Option.some.inj h]
  exact (List.dropLast_concat_getLast hne).symm
 unfold qDU NL
 dsimp only
 rw [qMU,Option.bind_some]
 have:ixN ((K++[b]).map N).length (-1)=some K.length:=by
  unfold ixN L2.ixN
  simp
  omega
 rw [this,Option.bind_some]
 simp
noncomputable def rok (s w b:Nat) (P U:List Nat):Bool:=P.all (fun x=>decide (x < 2 ^ s))&&decide (P.head?=some w)&&decide (P.getLast?=some b)&&decide (tL s (List.range (2 ^ s)) P=some U)
theorem qMs {s w b:Nat} (hs:s<=5) {P U:List Nat} (h:rok s w b P U=true):(U.all fun x=>decide (x < 2 ^ s))=true:=by
 simp only [rok,Bool.and_eq_true,decide_eq_true_eq] at h
 rw [List.all_eq_true]
 exact fun x hx=>decide_eq_true (qDw hs (fun y hy=>List.mem_range.mp hy) P h.2 x hx)
theorem qOI (hk:7<=k) {s w b:Nat} (h1:1<=s) (hs:s<=5) {M:Mem} {P U:List Nat} (hl:P.length<=100) (hu:U.length<=100):Pk (glT gs) Tb.fns Cs k 16 [N s,N w,N b,NL P,NL U] M=.ok (bT (rok s w b P U),M):=by
 rw [qAE t16 ⟨rfl,by decide⟩ (by omega),b16,show Cs.getD 16 []=[] from rfl]
 have e4:=f4 (k:=k - 1) (by omega) hs M
 have e2:=lbT (k:=k - 1) (by omega) (thN P (by omega)) (2 ^ s) M
 have e2':=lbT (k:=k - 1) (by omega) (thN U (by omega)) (2 ^ s) M
 rw [qN2] at e2 e2'
 have q0:∀ {M:Mem},qAp M .eq (NL P) (.lst [])=some (decide (P=[])):=fun {M}=>by
  rw [show T.lst []=NL [] from rfl,(IsL.nl M P).ceq (IsL.nl M [])]
 cases c1:P.all (fun x=>decide (x < 2 ^ s)) with
 | false=>
  have r:rok s w b P U=false:=by simp [rok,c1]
  rw [c1] at e2
  rw [r]
  simp [e4,e2,qAA]
 | true=>
  rw [c1] at e2
  cases c2:U.all (fun x=>decide (x < 2 ^ s)) with
  | false=>
   have r:rok s w b P U=false:=by
    cases z:rok s w b P U with
    | false=>rfl
    | true=>rw [qMs hs z] at c2;cases c2
   rw [c2] at e2'
   rw [r]
   simp [e4,e2,e2',qAA]
  | true=>
   rw [c2] at e2'
   cases P with
   | nil=>
    have q0':∀ {M:Mem},qAp M .eq (NL []) (.lst [])=some true:=fun {M}=>by rw [q0];simp
    have r:rok s w b [] U=false:=by simp [rok]
    rw [r]
    simp [e4,e2,e2',q0',qAA]
   | cons p P'=>
    have q0':∀ {M:Mem},qAp M .eq (NL (p::P')) (.lst [])=some false:=fun {M}=>by rw [q0];simp
    have i0:=(IsL.nl M (p::P')).idx (i:=0) (x:=p) rfl
    obtain ⟨z,hz⟩:∃ z,(p::P').getLast?=some z:=⟨_,List.getLast?_eq_some_getLast (by simp)⟩
    have il:=qBA (M:=M) hz
    by_cases g1:p=w
    ·subst g1
     by_cases g2:z=b
     ·subst g2
      obtain ⟨fr,e17⟩:=qN6 (k:=k - 1) (by omega) h1 hs (M:=M) (P:=p::P') (fun x hx=>of_decide_eq_true (List.all_eq_true.mp c1 x hx)) ⟨by simp,hl⟩
      have r:rok s p z (p::P') U=decide (tL s (List.range (2 ^ s)) (p::P')=some U):=by
       unfold rok;rw [c1,hz];simp
      rw [r]
      have qq:∀ {M:Mem},qAp M .eq (NL U) (oL (tL s (List.range (2 ^ s)) (p::P')))=some (decide (tL s (List.range (2 ^ s)) (p::P')=some U)):=fun {M}=>by
       cases tL s (List.range (2 ^ s)) (p::P') with
       | none=>rfl
       | some R=>
        show qAp M .eq (NL U) (NL R)=_
        rw [(IsL.nl M U).ceq (IsL.nl M R)]
        congr 1
        rw [Bool.eq_iff_iff];simp [eq_comm]
      generalize decide (tL s (List.range (2 ^ s)) (p::P')=some U)=d at *
      generalize oL (tL s (List.range (2 ^ s)) (p::P'))=ot at *
      clear c1 c2 hz r
      generalize NL (p::P')=tp at *
      simp [e4,e2,e2',q0',i0,il,e17,qq,qAA]
     ·have r:rok s p b (p::P') U=false:=by unfold rok;rw [hz];simp [g2]
      rw [r]
      clear c1 c2 hz r
      generalize NL (p::P')=tp at *
      simp [e4,e2,e2',q0',i0,il,g2,qAA]
    ·have r:rok s w b (p::P') U=false:=by unfold rok;simp [g1]
     rw [r]
     clear c1 c2 hz r
     generalize NL (p::P')=tp at *
     simp [e4,e2,e2',q0',i0,g1,qAA]
inductive Pp | row (x:PySem.Str) (P U:List Nat) | row4 (P U:List Nat) | ones (x:PySem.Str) (m:Nat)
noncomputable def Pp.t:Pp -> T
 | .row x P U=>.tup [St x,NL P,NL U]
 | .row4 P U=>.tup [St "row",NL P,NL U,NL P]
 | .ones x m=>.tup [St x,N m]
noncomputable def Pp.ok (s w b:Nat):Pp -> Bool
 | .row x P U=>decide (x="row")&&rok s w b P U
 | .row4 _ _=>false
 | .ones x m=>decide (x="ones")&&(decide (1<=m)&&decide (m<=s)&&few s w b m)
noncomputable def Pp.fit:Pp -> Prop
 | .row _ P U=>P.length<=100/\U.length<=100
 | .row4 P U=>P.length<=100/\U.length<=100
 | .ones _ _=>True
theorem qOf (hk:3<=k) {s m:Nat} (hs:s<=5) (w b:Nat) (M:Mem):Pk (glT gs) Tb.fns Cs k 18 [N s,N w,N b,N m] M=.ok (bT (decide (1<=m)&&decide (m<=s)&&few s w b m),M):=by
 by_cases h1:1<=m
 ·by_cases hm:m<=s
  ·rw [f18 hk hs h1 hm,decide_eq_true h1,decide_eq_true hm];rfl
  ·rw [decide_eq_false hm,Bool.and_false,Bool.false_and,qAE t18 ⟨rfl,by decide⟩ (by omega),b18,show Cs.getD 18 []=[] from rfl]
   have e0:=f0 (k:=k - 1) (by omega) m M
   simp [e0,h1,hm,qAA]
 ·rw [decide_eq_false h1,Bool.false_and,Bool.false_and,qAE t18 ⟨rfl,by decide⟩ (by omega),b18,show Cs.getD 18 []=[] from rfl]
  have e0:=f0 (k:=k - 1) (by omega) m M
  simp [e0,h1,qAA]
theorem stE {P:Nat -> List T -> Mem -> PR (TB×Mem)} {M:Mem} {σ:TS} (x:PySem.Str):pe (glT gs) P (.cst (V.str x)) σ M=.ok ((St x,true),M):=rfl
theorem qAT {gl:List T} {P:Nat -> List T -> Mem -> PR (TB×Mem)} {C:List Nat} {s:S} {r:Ss} {σ σ':TS} {M M':Mem} (e:px gl P C s σ M=.ok (.nx σ',M')):pxs gl P C (.cons s r) σ M=pxs gl P C r σ' M':=by
 rw [qC8,e];rfl
theorem qBQ {gl:List T} {P:Nat -> List T -> Mem -> PR (TB×Mem)} {C:List Nat} {s:S} {r:Ss} {σ:TS} {t:TB} {M M':Mem} (e:px gl P C s σ M=.ok (.rt t,M')):pxs gl P C (.cons s r) σ M=.ok (.rt t,M'):=by
 rw [qC8,e];rfl
section
variable {s w b:Nat} {M:Mem}
theorem qMG (hk:8<=k) (h1:1<=s) (hs:s<=5) (hw:w < 2 ^ s) (hb:b < 2 ^ s) {x a c:T} {d:Bool} (q1:Pk (glT gs) Tb.fns Cs (k - 1) 3 [.tup [x,a,c],St "row",N 3] M=.ok (bT true,M)) (e:Pk (glT gs) Tb.fns Cs (k - 1) 16 [N s,N w,N b,a,c] M=.ok (bT d,M)):Pk (glT gs) Tb.fns Cs k 15 [N s,N w,N b,.tup [x,a,c]] M=.ok (bT d,M):=by
 rw [qAE t15 ⟨rfl,by decide⟩ (by omega),b15,show Cs.getD 15 []=[] from rfl]
 have e7:=f7 (k:=k - 1) (by omega) h1 hs M
 have e8:=f8 (k:=k - 1) (by omega) hs hw M
 have e8':=f8 (k:=k - 1) (by omega) hs hb M
 simp [e7,e8,e8',q1,e,stE,-pe_str,qAA]
theorem qKq (hk:8<=k) (h1:1<=s) (hs:s<=5) (hw:w < 2 ^ s) (hb:b < 2 ^ s) {t:T} {f d:Bool} (q1:Pk (glT gs) Tb.fns Cs (k - 1) 3 [t,St "row",N 3] M=.ok (bT false,M)) (q2:Pk (glT gs) Tb.fns Cs (k - 1) 3 [t,St "ones",N 2] M=.ok (bT f,M)) (e:f=true -> ∃ x a,t=.tup [x,a]/\Pk (glT gs) Tb.fns Cs (k - 1) 18 [N s,N w,N b,a] M=.ok (bT d,M)):Pk (glT gs) Tb.fns Cs k 15 [N s,N w,N b,t] M=.ok (bT (f&&d),M):=by
 rw [qAE t15 ⟨rfl,by decide⟩ (by omega),b15,show Cs.getD 15 []=[] from rfl]
 have e7:=f7 (k:=k - 1) (by omega) h1 hs M
 have e8:=f8 (k:=k - 1) (by omega) hs hw M
 have e8':=f8 (k:=k - 1) (by omega) hs hb M
 cases f with
 | false=>simp [e7,e8,e8',q1,q2,stE,-pe_str,qAA]
 | true=>
  obtain ⟨x,a,rfl,e18⟩:=e rfl
  simp [e7,e8,e8',q1,q2,e18,stE,-pe_str,qAA]
end
theorem qIb (hk:8<=k) {s w b:Nat} (h1:1<=s) (hs:s<=5) (hw:w < 2 ^ s) (hb:b < 2 ^ s) {p:Pp} (hp:p.fit) (M:Mem):Pk (glT gs) Tb.fns Cs k 15 [N s,N w,N b,p.t] M=.ok (bT (p.ok s w b),M):=by
 cases p with
 | row x P U=>
  have q1:=qGt (k:=k - 1) (by omega) (.cons (St x) [NL P,NL U] (kSt x)) "row" (m:=3) (by decide) M
  have q2:=qGt (k:=k - 1) (by omega) (.cons (St x) [NL P,NL U] (kSt x)) "ones" (m:=2) (by decide) M
  rw [show hf "row" 3 (.tup [St x,NL P,NL U])=decide (x="row") by simp [hf]] at q1
  rw [show hf "ones" 2 (.tup [St x,NL P,NL U])=false from rfl] at q2
  show _=PR.ok (bT (decide (x="row")&&rok s w b P U),M)
  cases hx:decide (x=("row":PySem.Str)) with
  | false=>
   rw [hx] at q1
   exact qKq hk h1 hs hw hb (d:=rok s w b P U) q1 q2 fun z=>(by cases z)
  | true=>
   rw [hx] at q1
   exact qMG hk h1 hs hw hb q1 (qOI (k:=k - 1) (by omega) h1 hs hp.1 hp.2)
 | row4 P U=>
  have q1:=qGt (k:=k - 1) (by omega) (.cons (St "row") [NL P,NL U,NL P] (kSt _)) "row" (m:=3) (by decide) M
  have q2:=qGt (k:=k - 1) (by omega) (.cons (St "row") [NL P,NL U,NL P] (kSt _)) "ones" (m:=2) (by decide) M
  exact qKq hk h1 hs hw hb (d:=false) q1 q2 fun z=>(by cases z)
 | ones x m=>
  have q1:=qGt (k:=k - 1) (by omega) (.cons (St x) [N m] (kSt x)) "row" (m:=3) (by decide) M
  have q2:=qGt (k:=k - 1) (by omega) (.cons (St x) [N m] (kSt x)) "ones" (m:=2) (by decide) M
  rw [show hf "ones" 2 (.tup [St x,N m])=decide (x="ones") by simp [hf]] at q2
  exact qKq hk h1 hs hw hb q1 q2 fun _=>⟨_,_,rfl,qOf (k:=k - 1) (by omega) hs w b M⟩
end
end My
namespace My
open PySem PySem.Spec PI
open L2 (V)
theorem qM2 (sh:Bool) (j:Nat):oK (some (sh,j))=kT sh j:=by cases sh<;>rfl
theorem qJF {s a b:Nat} (hs:s<=5) (ha:a < 2 ^ s) (hb:b < 2 ^ s) {st:List Nat} (h:tP s a b=some st):∃ sh j,kL s a b=some (sh,j)/\st=tK s sh j/\(sh=true -> j + 1 < s):=by
 have e:=qNZ s (by omega) a ha b hb
 have e2:=qO1 s (by omega) a ha b hb
 rw [h] at e
 cases hk:kL s a b with
 | none=>rw [hk] at e;cases e
 | some q=>
  obtain ⟨sh,j⟩:=q
  rw [hk] at e e2
  refine ⟨sh,j,rfl,Option.some.inj e,fun z=>?_⟩
  subst z
  exact of_decide_eq_true e2
theorem qD6 {s a b:Nat} (hs:s<=5) (ha:a < 2 ^ s) (hb:b < 2 ^ s):(kL s a b).isSome=(tP s a b).isSome:=by
 rw [qNZ s (by omega) a ha b hb,Option.isSome_map]
section
variable {k:Nat}
theorem thL (hk:2<=k) {s:Nat} (h1:1<=s) (hs:s<=5) {M:Mem} (hM:FlatM M) {t:T} {P R:List Nat} (hI:IsL M t P) (hP:∀ x∈P,x < 2 ^ s) (hl:P.length<=100) (hR:tL s (List.range (2 ^ s)) P=some R):∀ (n:Nat) (U:List Nat) (o3 o4:Option T),n < P.length -> tL s (List.range (2 ^ s)) (P.drop n)=some U -> ∃ p3 p4,
  qAj [] (.name 3) (pxs (glT gs) (Pk (glT gs) Tb.fns Cs k) [] qHm) (((List.range n).reverse.map fun j=>j + 1).map N) [some (N s),some t,some (NL U),o3,o4] M=.ok (.nx [some (N s),some t,some (NL R),p3,p4],M)
 | 0,U,o3,o4,_,hU=>by
  rw [List.drop_zero,hR] at hU
  cases hU
  exact ⟨o3,o4,rfl⟩
 | n + 1,U,o3,o4,hn,hU=>by
  obtain ⟨U',hU'⟩:=qGh n P R hR (by omega)
  have d1:P.drop n=P[n]::P[n + 1]::P.drop (n + 2):=by rw [List.drop_eq_getElem_cons (by omega),List.drop_eq_getElem_cons hn]
  have d2:P.drop (n + 1)=P[n + 1]::P.drop (n + 2):=List.drop_eq_getElem_cons hn
  have hU2:=hU'
  rw [d1] at hU2
  obtain ⟨W,st,hW,hst,rfl⟩:=qDc hU2
  rw [<- d2,hU] at hW
  cases hW
  have la:=qGH _ hU
  have lst:=qIP hst
  have hx:∀ x∈U,x < st.length:=fun x hx=>by rw [lst];exact qDw hs (fun y hy=>List.mem_range.mp hy) _ hU x hx
  obtain ⟨p3,p4,e⟩:=thL hk h1 hs hM hI hP hl hR n (U.map fun x=>st.getD x 0) (some (N (n + 1))) (some (NL st)) (by omega) hU'
  refine ⟨p3,p4,?_⟩
  obtain ⟨sh,j,k1,k2,k3⟩:=qJF hs (hP P[n] (List.getElem_mem _)) (hP P[n + 1] (List.getElem_mem _)) hst
  have e27:=f27 (k:=k) hk hs P[n] P[n + 1] M
  rw [k1,qM2] at e27
  have e28:=f28 (k:=k) hk hs k3 hM
  rw [<- k2] at e28
  have p5':=p5 hs
  have z:=qCC (gl:=glT gs) (P:=Pk (glT gs) Tb.fns Cs k) (e:=pe (glT gs) (Pk (glT gs) Tb.fns Cs k) (.idx (.var 1) (.var 0))) (M:=M) (σ:=[some (NL st)]) (o:=none) (its:=U) (fun x=>st.getD x 0) (by unfold lim;omega) fun x hx'=>by
   have:=(IsL.nl M st).idx (getD_some (hx x hx'))
   simp [this]
  have i1:=hI.idx (i:=n) (x:=P[n]) (List.getElem?_eq_getElem (by omega))
  have i2:=hI.idx (i:=n + 1) (x:=P[n + 1]) (List.getElem?_eq_getElem hn)
  have sb:∀ {M:Mem},qAd M .sub (N (n + 1)) (N 1)=some (N n,true):=fun {M}=>by rw [qBG (by omega)];rfl
  have body:pxs (glT gs) (Pk (glT gs) Tb.fns Cs k) [] qHm [some (N s),some t,some (NL U),some (N (n + 1)),o4] M=.ok (.nx [some (N s),some t,some (NL (U.map fun x=>st.getD x 0)),some (N (n + 1)),some (NL st)],M):=by
   generalize (U.map fun x=>st.getD x 0)=W at z ⊢
   generalize kT sh j=kt at *
   rw [qHm]
   simp [sb,i1,i2,e27,e28,z]
  rw [List.range_succ,List.reverse_append,List.reverse_singleton,List.singleton_append,List.map_cons,List.map_cons,qAV,show ∀ a b c d e z:Option T,[a,b,c,d,e].set 3 z=[a,b,c,z,e] from fun _ _ _ _ _ _=>rfl,body,PR.bind_ok]
  exact e
theorem thr (hk:3<=k) {s:Nat} (h1:1<=s) (hs:s<=5) {M:Mem} (hM:FlatM M) {t:T} {P R:List Nat} (hI:IsL M t P) (hP:∀ x∈P,x < 2 ^ s) (hl:1<=P.length/\P.length<=100) (hR:tL s (List.range (2 ^ s)) P=some R):Pk (glT gs) Tb.fns Cs k 29 [N s,t] M=.ok ((NL R,false),M):=by
 rw [qAE t29 ⟨rfl,by decide⟩ (by omega),b29,show Cs.getD 29 []=[] from rfl]
 have dl:P.drop (P.length - 1)=[P[P.length - 1]]:=by rw [List.drop_eq_getElem_cons (by omega),List.drop_eq_nil_of_le (by omega)]
 obtain ⟨p3,p4,e⟩:=thL (k:=k - 1) (by omega) h1 hs hM hI hP hl.2 hR (P.length - 1) (List.range (2 ^ s)) none none (by omega) (by rw [dl];rfl)
 have ln:=qKJ hs
 have p5':=p5 hs
 have lr:=qDN (n:=2 ^ s) (by omega)
 have sb:∀ {M:Mem},qAd M .sub (N P.length) (N 1)=some (N (P.length - 1),true):=fun {M}=>qBG hl.1
 have rg:=qIs (a:=P.length - 1) (by omega)
 have lN:=hI.len
 have nfR:(NL R).lf=false:=qA8 R
 have l2:T.lst ((List.range (2 ^ s)).map N)=NL (List.range (2 ^ s)):=rfl
 generalize ((List.range (P.length - 1)).reverse.map fun j=>j + 1).map N=its at *
 simp [lim,ln,lr,l2,lN,sb,rg,e,nfR,qAA]
noncomputable def stp (s:Nat):Nat -> List Nat -> Bool
 | _,[]=>true
 | p,q::r=>decide (q < 2 ^ s)&&(kL s p q).isSome&&stp s q r
theorem qB6 {s:Nat} (hs:s<=5) {t:List Nat}:∀ (r:List Nat) (p:Nat),p < 2 ^ s -> (stp s p r=true↔(∀ x∈r,x < 2 ^ s)/\(tL s t (p::r)).isSome=true)
 | [],p,hp=>by simp [stp,tL]
 | q::r,p,hp=>by
  unfold stp
  rw [Bool.and_eq_true,Bool.and_eq_true,decide_eq_true_eq]
  constructor
  ·rintro ⟨⟨a,b⟩,c⟩
   obtain ⟨d,e⟩:=(qB6 hs (t:=t) r q a).mp c
   refine ⟨fun x hx=>?_,?_⟩
   ·rcases List.mem_cons.mp hx with rfl | hx
    ·exact a
    ·exact d x hx
   ·rw [qD6 hs hp a] at b
    obtain ⟨st,hst⟩:=Option.isSome_iff_exists.mp b
    obtain ⟨W,hW⟩:=Option.isSome_iff_exists.mp e
    rw [tL,hW,hst];rfl
  ·rintro ⟨a,b⟩
   have hq:=a q (by simp)
   obtain ⟨U,hU⟩:=Option.isSome_iff_exists.mp b
   obtain ⟨W,st,hW,hst,_⟩:=qDc hU
   refine ⟨⟨hq,by rw [qD6 hs hp hq,hst];rfl⟩,(qB6 hs (t:=t) r q hq).mpr ⟨fun x hx=>a x (by simp [hx]),by rw [hW];rfl⟩⟩
theorem qMx {M:Mem} (q:Option (Bool×Nat)):qAp M .is (oK q) (.v .non)=some q.isNone:=by
 cases q with
 | none=>rfl
 | some p=>obtain ⟨sh,j⟩:=p;cases sh<;>rfl
theorem qEq {M:Mem} (q:Option (Bool×Nat)):qAp M .isnot (oK q) (.v .non)=some q.isSome:=by
 cases q with
 | none=>rfl
 | some p=>obtain ⟨sh,j⟩:=p;cases sh<;>rfl
theorem duL (hk:2<=k) {s:Nat} (hs:s<=5) {M:Mem} {a1 a2 a3 a4 a5 a6:Option T}:∀ (r:List Nat) (p:Nat) (o7 o8:Option T),
  (stp s p r=true -> ∃ p7 p8,qAj [] (.tup [7,8]) (pxs (glT gs) (Pk (glT gs) Tb.fns Cs k) [] qCS) (List.zipWith (fun a b=>T.tup [a,b]) ((p::r).map N) (r.map N)) [some (N s),a1,a2,a3,a4,a5,a6,o7,o8] M=.ok (.nx [some (N s),a1,a2,a3,a4,a5,a6,p7,p8],M))/\
  (stp s p r=false -> qAj [] (.tup [7,8]) (pxs (glT gs) (Pk (glT gs) Tb.fns Cs k) [] qCS) (List.zipWith (fun a b=>T.tup [a,b]) ((p::r).map N) (r.map N)) [some (N s),a1,a2,a3,a4,a5,a6,o7,o8] M=.ok (.rt (bT false),M))
 | [],p,o7,o8=>⟨fun _=>⟨o7,o8,rfl⟩,fun h=>by cases h⟩
 | q::r,p,o7,o8=>by
  have ih:=duL hk hs (M:=M) (a1:=a1) (a2:=a2) (a3:=a3) (a4:=a4) (a5:=a5) (a6:=a6) r q (some (N p)) (some (N q))
  have e27:=f27 (k:=k) hk hs p q M
  have ln:=qKJ hs
  have is:=qMx (M:=M) (kL s p q)
  rw [List.map_cons,List.map_cons,List.zipWith_cons_cons,<- List.map_cons (f:=N),qAj,show qBI (.tup [7,8]) (.tup [N p,N q]) [some (N s),a1,a2,a3,a4,a5,a6,o7,o8]=some [some (N s),a1,a2,a3,a4,a5,a6,some (N p),some (N q)] from rfl]
  dsimp only
  unfold stp
  by_cases hq:q < 2 ^ s
  ·cases hk2:(kL s p q).isSome with
   | true=>
    have hn:(kL s p q).isNone=false:=by rw [<- Option.not_isSome,hk2];rfl
    rw [hn] at is
    generalize oK (kL s p q)=ok at *
    have body:pxs (glT gs) (Pk (glT gs) Tb.fns Cs k) [] qCS [some (N s),a1,a2,a3,a4,a5,a6,some (N p),some (N q)] M=.ok (.nx [some (N s),a1,a2,a3,a4,a5,a6,some (N p),some (N q)],M):=by
     rw [qCS]
     simp [lim,ln,hq,e27,is]
    rw [body,PR.bind_ok,decide_eq_true hq]
    exact ih
   | false=>
    have hn:(kL s p q).isNone=true:=by rw [<- Option.not_isSome,hk2];rfl
    rw [hn] at is
    generalize oK (kL s p q)=ok at *
    have body:pxs (glT gs) (Pk (glT gs) Tb.fns Cs k) [] qCS [some (N s),a1,a2,a3,a4,a5,a6,some (N p),some (N q)] M=.ok (.rt (bT false),M):=by
     rw [qCS]
     simp [lim,ln,hq,e27,is]
    rw [body,PR.bind_ok,Bool.and_false,Bool.false_and]
    exact ⟨fun z=>(by cases z),fun _=>rfl⟩
  ·have body:pxs (glT gs) (Pk (glT gs) Tb.fns Cs k) [] qCS [some (N s),a1,a2,a3,a4,a5,a6,some (N p),some (N q)] M=.ok (.rt (bT false),M):=by
    rw [qCS]
    simp [lim,ln,hq]
   rw [body,PR.bind_ok,decide_eq_false hq,Bool.false_and,Bool.false_and]
   exact ⟨fun z=>(by cases z),fun _=>rfl⟩
theorem qOJ:∀ s,s < 6 -> ∀ m,m < 6 -> m<=s -> ∀ a,a < 2 ^ s -> ((qAh s a).take m).sum=ones (a / 2 ^ (s - m)):=by decide +kernel
noncomputable def qEG:S:=(.ifs (.and (.cmp .eq (.idx (.var 3) (nE 0)) (.cst (V.str "ones"))) (.cmp .eq (.blt .len (.cons (.var 3) .nil)) (nE 2))) (.cons (.asg (.name 4) (.call 26 (.cons (.var 0) (.cons (.var 1) .nil)))) (.cons (.asg (.name 5) (.call 26 (.cons (.var 0) (.cons (.var 2) .nil)))) (.cons (.ret (.and (.cmp2 .le .le (nE 1) (.idx (.var 3) (nE 1)) (.var 0)) (.cmp .lt (.blt .sum (.cons (.sl (.var 5) .nil (.cons (.idx (.var 3) (nE 1)) .nil)) .nil)) (.blt .sum (.cons (.sl (.var 4) .nil (.cons (.idx (.var 3) (nE 1)) .nil)) .nil))))) .nil))) .nil)
noncomputable def qGp:S:=(.ifs (.or (.cmp .ne (.idx (.var 3) (nE 0)) (.cst (V.str "row"))) (.or (.cmp .ne (.blt .len (.cons (.var 3) .nil)) (nE 3)) (.cmp .eq (.idx (.var 3) (nE 1)) (.lst .nil)))) (.cons (.ret (.cst (V.bl false))) .nil) .nil)
noncomputable def qJZ:S:=(.asg (.name 6) (.idx (.var 3) (nE 1)))
noncomputable def qJt:S:=(.ifs (.or (.cmp .ne (.idx (.var 6) (nE 0)) (.var 1)) (.cmp .ne (.idx (.var 6) (.neg (nE 1))) (.var 2))) (.cons (.ret (.cst (V.bl false))) .nil) .nil)
noncomputable def qI1:S:=(.for_ (.tup [7,8]) (.zip (.var 6) (.sl (.var 6) (.cons (nE 1) .nil) .nil)) qCS)
noncomputable def qKY:S:=(.ret (.cmp .eq (.idx (.var 3) (nE 2)) (.call 29 (.cons (.var 0) (.cons (.var 6) .nil)))))
theorem qGc:b30=(.cons qEG (.cons qGp (.cons qJZ (.cons qJt (.cons qI1 (.cons qKY .nil)))))):=rfl
section
variable {s w b:Nat} {M:Mem}
theorem o1 {ts:List T} {x:PySem.Str} {Q:Nat -> List T -> Mem -> PR (TB×Mem)} (hl:ts.length + 1≠3):px (glT gs) Q [] qGp [some (N s),some (N w),some (N b),some (.tup (St x::ts)),none,none,none,none,none] M=.ok (.rt (bT false),M):=by
 have q2:=fun {M:Mem}=>qEA (M:=M) x "row"
 rw [qGp]
 generalize decide (x=("row":PySem.Str))=d at *
 cases d<;>simp [stE,-pe_str,q2,hl]
theorem o0 {ts:List T} {x:PySem.Str} {Q:Nat -> List T -> Mem -> PR (TB×Mem)} (hx:decide (x="ones")=false):px (glT gs) Q [] qEG [some (N s),some (N w),some (N b),some (.tup (St x::ts)),none,none,none,none,none] M=.ok (.nx [some (N s),some (N w),some (N b),some (.tup (St x::ts)),none,none,none,none,none],M):=by
 have q:=fun {M:Mem}=>qHQ (M:=M) x "ones"
 rw [hx] at q
 rw [qEG]
 simp [stE,-pe_str,q]
theorem qMy (hk:3<=k) (hs:s<=5) (hw:w < 2 ^ s) (hb:b < 2 ^ s) (x:PySem.Str) (m:Nat) (M:Mem):Pk (glT gs) Tb.fns Cs k 30 [N s,N w,N b,.tup [St x,N m]] M=.ok (bT (decide (x="ones")&&(decide (1<=m)&&decide (m<=s)&&few s w b m)),M):=by
 rw [qAE t30 ⟨rfl,by decide⟩ (by omega),show Cs.getD 30 []=[] from rfl,qGc]
 show qB8 M.length (pxs _ _ _ _ [some (N s),some (N w),some (N b),some (.tup [St x,N m]),none,none,none,none,none] M)=_
 cases hx:decide (x=("ones":PySem.Str)) with
 | false=>rw [qAT (o0 hx),qBQ (o1 (by simp)),qAA rfl];rfl
 | true=>
  have q:=fun {M:Mem}=>qHQ (M:=M) x "ones"
  rw [hx] at q
  have e1:=f26 (k:=k - 1) (by omega) hs w M
  have e2:=f26 (k:=k - 1) (by omega) hs b M
  have cc:∀ {σ:TS} {M:Mem},σ[3]?=some (some (.tup [St x,N m])) -> pe (glT gs) (Pk (glT gs) Tb.fns Cs (k - 1)) (.and (.cmp .eq (.idx (.var 3) (nE 0)) (.cst (V.str "ones"))) (.cmp .eq (.blt .len (.cons (.var 3) .nil)) (nE 2))) σ M=.ok (bT true,M):=fun {σ M} h=>by
   simp [h,stE,-pe_str,q]
  have mid:px (glT gs) (Pk (glT gs) Tb.fns Cs (k - 1)) [] qEG [some (N s),some (N w),some (N b),some (.tup [St x,N m]),none,none,none,none,none] M=.ok (.rt (bT (decide (1<=m)&&decide (m<=s)&&few s w b m)),M):=by
   rw [qEG,qLy,cc rfl]
   by_cases h1:1<=m
   ·by_cases hm:m<=s
    ·have sm:=fun (L:List Nat)=>(IsL.nl M L).sum
     have lw:=qBs s w
     have lb:=qBs s b
     have y1:lT (qBn ((qAh s w).map N) none (some (m:Int)))=(NL ((qAh s w).take m),true):=by rw [qBR (by simp;omega),<- List.map_take,qGb]
     have y2:lT (qBn ((qAh s b).map N) none (some (m:Int)))=(NL ((qAh s b).take m),true):=by rw [qBR (by simp;omega),<- List.map_take,qGb]
     have fe:few s w b m=decide (((qAh s b).take m).sum < ((qAh s w).take m).sum):=by
      rw [qOJ s (by omega) m (by omega) hm w hw,qOJ s (by omega) m (by omega) hm b hb];rfl
     rw [fe,decide_eq_true h1,decide_eq_true hm]
     generalize (qAh s w).take m=A at *
     generalize (qAh s b).take m=B at *
     simp [e1,e2,h1,hm,y1,y2,sm]
    ·rw [decide_eq_false hm]
     simp [e1,e2,h1,hm]
   ·rw [decide_eq_false h1]
    simp [e1,e2,h1]
  rw [qBQ mid,qAA rfl];rfl
theorem qMj (hk:3<=k) (P U:List Nat) (M:Mem):Pk (glT gs) Tb.fns Cs k 30 [N s,N w,N b,.tup [St "row",NL P,NL U,NL P]] M=.ok (bT false,M):=by
 rw [qAE t30 ⟨rfl,by decide⟩ (by omega),show Cs.getD 30 []=[] from rfl,qGc]
 show qB8 M.length (pxs _ _ _ _ [some (N s),some (N w),some (N b),some (.tup [St "row",NL P,NL U,NL P]),none,none,none,none,none] M)=_
 rw [qAT (o0 rfl),qBQ (o1 (by simp)),qAA rfl]
end
section
variable {s w b:Nat} {M:Mem} {x:PySem.Str} {P U:List Nat} {o6:Option T} {Q:Nat -> List T -> Mem -> PR (TB×Mem)}
theorem d0:px (glT gs) Q [] qEG [some (N s),some (N w),some (N b),some (.tup [St x,NL P,NL U]),none,none,none,none,none] M=.ok (.nx [some (N s),some (N w),some (N b),some (.tup [St x,NL P,NL U]),none,none,none,none,none],M):=by
 have q:=fun {M:Mem}=>qHQ (M:=M) x "ones"
 rw [qEG]
 generalize decide (x=("ones":PySem.Str))=d at *
 cases d<;>simp [stE,-pe_str,q]
theorem d1:px (glT gs) Q [] qGp [some (N s),some (N w),some (N b),some (.tup [St x,NL P,NL U]),none,none,none,none,none] M=if (!decide (x="row")||decide (P=[]))=true then .ok (.rt (bT false),M) else .ok (.nx [some (N s),some (N w),some (N b),some (.tup [St x,NL P,NL U]),none,none,none,none,none],M):=by
 have q2:=fun {M:Mem}=>qEA (M:=M) x "row"
 have q0:∀ {M:Mem},qAp M .eq (NL P) (.lst [])=some (decide (P=[])):=fun {M}=>by
  rw [show T.lst []=NL [] from rfl,(IsL.nl M P).ceq (IsL.nl M [])]
 rw [qGp]
 generalize decide (x=("row":PySem.Str))=d at *
 generalize decide (P=[])=e at *
 cases d
 ·simp [stE,-pe_str,q2]
 ·cases e<;>simp [stE,-pe_str,q2,q0,lim]
theorem d2:px (glT gs) Q [] qJZ [some (N s),some (N w),some (N b),some (.tup [St x,NL P,NL U]),none,none,none,none,none] M=.ok (.nx [some (N s),some (N w),some (N b),some (.tup [St x,NL P,NL U]),none,none,some (NL P),none,none],M):=by
 rw [qJZ];simp
theorem d3 {p z:Nat} {r:List Nat} {o3:Option T} (hz:(p::r).getLast?=some z):px (glT gs) Q [] qJt [some (N s),some (N w),some (N b),o3,none,none,some (NL (p::r)),none,none] M=if (!decide (p=w)||!decide (z=b))=true then .ok (.rt (bT false),M) else .ok (.nx [some (N s),some (N w),some (N b),o3,none,none,some (NL (p::r)),none,none],M):=by
 have i0:=(IsL.nl M (p::r)).idx (i:=0) (x:=p) rfl
 have il:=qBA (M:=M) hz
 clear hz
 generalize NL (p::r)=tp at *
 rw [qJt]
 by_cases g1:p=w
 ·by_cases g2:z=b<;>simp [i0,il,g1,g2]
 ·simp [i0,g1]
theorem d4 {p:Nat} {r:List Nat} {o1 o2 o3:Option T}:px (glT gs) Q [] qI1 [some (N s),o1,o2,o3,none,none,some (NL (p::r)),none,none] M=qAj [] (.tup [7,8]) (pxs (glT gs) Q [] qCS) (List.zipWith (fun a b=>T.tup [a,b]) ((p::r).map N) (r.map N)) [some (N s),o1,o2,o3,none,none,some (NL (p::r)),none,none] M:=by
 have y1:lT (qBn ((p::r).map N) (some (1:Int)) none)=(NL r,true):=by
  rw [show (1:Int)=((1:Nat):Int) from rfl,qCT (by simp),<- List.map_drop,qGb];rfl
 have sl:∀ {σ:TS},σ[6]?=some (some (NL (p::r))) -> pe (glT gs) Q (.sl (.var 6) (.cons (nE 1) .nil) .nil) σ M=.ok ((NL r,true),M):=fun {σ} h=>by
  have y2:=y1
  generalize hPN:(p::r).map N=PN at y2
  have it:T.its M (NL (p::r))=some PN:=by rw [<- hPN];rfl
  simp [h,it,-qJh,y2]
 have s1:∀ L:List Nat,qHN M (NL L)=some (L.map N,[]):=fun L=>rfl
 rw [qI1,qKz,qJa,pe_var]
 dsimp only [List.getElem?_cons_succ,List.getElem?_cons_zero]
 rw [PR.bind_ok,sl rfl,PR.bind_ok,s1,PR.ofO_some,PR.bind_ok,s1,PR.ofO_some,PR.bind_ok,PR.bind_ok]
 rfl
end
theorem qMv (hk:4<=k) {s w b:Nat} (h1:1<=s) (hs:s<=5) (hw:w < 2 ^ s) {M:Mem} (hM:FlatM M) (x:PySem.Str) {P U:List Nat} (hl:P.length<=100):Pk (glT gs) Tb.fns Cs k 30 [N s,N w,N b,.tup [St x,NL P,NL U]] M=.ok (bT (decide (x="row")&&rok s w b P U),M):=by
 rw [qAE t30 ⟨rfl,by decide⟩ (by omega),show Cs.getD 30 []=[] from rfl,qGc]
 show qB8 M.length (pxs _ _ _ _ [some (N s),some (N w),some (N b),some (.tup [St x,NL P,NL U]),none,none,none,none,none] M)=_
 rw [qAT d0]
 have e1:=d1 (Q:=Pk (glT gs) Tb.fns Cs (k - 1)) (s:=s) (w:=w) (b:=b) (M:=M) (x:=x) (P:=P) (U:=U)
 by_cases g:(!decide (x=("row":PySem.Str))||decide (P=[]))=true
 ·rw [if_pos g] at e1
  rw [qBQ e1,qAA rfl]
  have:(decide (x=("row":PySem.Str))&&rok s w b P U)=false:=by
   rcases Bool.or_eq_true _ _ |>.mp g with z | z
   ·simp at z;simp [z]
   ·rw [of_decide_eq_true z];simp [rok]
  rw [this]
 ·rw [if_neg g] at e1
  rw [Bool.not_eq_true,Bool.or_eq_false_iff] at g
  have hx:decide (x=("row":PySem.Str))=true:=by simpa using g.1
  rw [qAT e1,qAT d2,hx,Bool.true_and]
  cases P with
  | nil=>exact absurd g.2 (by simp)
  | cons p r=>
   obtain ⟨z,hz⟩:∃ z,(p::r).getLast?=some z:=⟨_,List.getLast?_eq_some_getLast (by simp)⟩
   have e3:=d3 (Q:=Pk (glT gs) Tb.fns Cs (k - 1)) (s:=s) (w:=w) (b:=b) (M:=M) (o3:=some (.tup [St x,NL (p::r),NL U])) hz
   by_cases g2:(!decide (p=w)||!decide (z=b))=true
   ·rw [if_pos g2] at e3
    rw [qBQ e3,qAA rfl,show rok s w b (p::r) U=false by
     unfold rok
     rw [hz]
     rcases Bool.or_eq_true _ _ |>.mp g2 with z | z<;>(simp at z;simp [z])]
   ·rw [if_neg g2] at e3
    rw [Bool.not_eq_true,Bool.or_eq_false_iff] at g2
    obtain rfl:p=w:=by simpa using g2.1
    obtain rfl:z=b:=by simpa using g2.2
    rw [qAT e3]
    have L:=duL (k:=k - 1) (by omega) hs (M:=M) (a1:=some (N p)) (a2:=some (N z)) (a3:=some (.tup [St x,NL (p::r),NL U])) (a4:=none) (a5:=none) (a6:=some (NL (p::r))) r p none none
    cases hst:stp s p r with
    | false=>
     have ro:rok s p z (p::r) U=false:=by
      cases hr:rok s p z (p::r) U with
      | false=>rfl
      | true=>
       simp only [rok,Bool.and_eq_true,decide_eq_true_eq,List.all_eq_true] at hr
       have:=(qB6 hs (t:=List.range (2 ^ s)) r p hw).mpr ⟨fun y hy=>hr.1.1.1 y (by simp [hy]),by rw [hr.2];rfl⟩
       rw [hst] at this;cases this
     rw [qBQ (d4.trans (L.2 hst)),ro,qAA rfl]
    | true=>
     obtain ⟨p7,p8,e⟩:=L.1 hst
     obtain ⟨a1,a2⟩:=(qB6 hs (t:=List.range (2 ^ s)) r p hw).mp hst
     obtain ⟨R,hR⟩:=Option.isSome_iff_exists.mp a2
     have hP:∀ y∈p::r,y < 2 ^ s:=fun y hy=>by
      rcases List.mem_cons.mp hy with rfl | hy
      ·exact hw
      ·exact a1 y hy
     have et:=thr (k:=k - 1) (by omega) h1 hs hM (IsL.nl M (p::r)) hP ⟨by simp,hl⟩ hR
     have ro:rok s p z (p::r) U=decide (U=R):=by
      have:((p::r).all fun x=>decide (x < 2 ^ s))=true:=List.all_eq_true.mpr fun y hy=>decide_eq_true (hP y hy)
      unfold rok
      rw [this,hz,hR,Bool.eq_iff_iff];simp [eq_comm]
     have qq:=fun {M:Mem}=>(IsL.nl M U).ceq (IsL.nl M R)
     rw [qAT (d4.trans e),ro]
     clear hz ro e3 e1 e L
     generalize decide (U=R)=d at *
     generalize NL (p::r)=tp at *
     rw [qKY]
     simp [et,qq,qAA]
theorem qKb (hk:4<=k) {s w b:Nat} (h1:1<=s) (hs:s<=5) (hw:w < 2 ^ s) (hb:b < 2 ^ s) {p:Pp} (hp:p.fit) {M:Mem} (hM:FlatM M):Pk (glT gs) Tb.fns Cs k 30 [N s,N w,N b,p.t] M=.ok (bT (p.ok s w b),M):=by
 cases p with
 | row x P U=>exact qMv hk h1 hs hw hM x hp.1
 | row4 P U=>exact qMj (by omega) P U M
 | ones x m=>exact qMy (by omega) hs hw hb x m M
end
end My
namespace My
open PySem PySem.Spec PI
open L2 (V)
section
variable {k:Nat}
theorem Kept.flat {n:Nat} {M M':Mem} (x:Kept n M M') (h:FlatM M):FlatM M':=by
 obtain ⟨a,b,c0,e,_⟩:=x.good
 intro c hc
 obtain ⟨j,hj,rfl⟩:=List.mem_iff_getElem.mp hc
 by_cases q:j=n
 ·subst q
  rw [List.getElem?_eq_getElem hj] at e
  rw [Option.some.inj e]
  show T.unds 0 [N a,N b,.v (.bl c0)]=true
  simp [T.unds,qFb,T.und]
 ·have:=x.oth j q
  rw [List.getElem?_eq_getElem hj,List.getElem?_eq_getElem (by have:=x.len;omega)] at this
  rw [Option.some.inj this]
  exact h _ (List.getElem_mem _)
theorem opL (hk:2<=k) {s w b:Nat} (hs:s<=5) {M:Mem} {o4:Option T}:∀ (ms:List Nat) (o3:Option T),(∀ m∈ms,m<=s) -> (∀ m,ms.find? (few s w b)=some m -> qAj [] (.name 3) (pxs (glT gs) (Pk (glT gs) Tb.fns Cs k) [] qEV) (ms.map N) [some (N s),some (N w),some (N b),o3,o4] M=.ok (.rt (.tup [St "ones",N m],true),M))/\
  (ms.find? (few s w b)=none -> ∃ p3,qAj [] (.name 3) (pxs (glT gs) (Pk (glT gs) Tb.fns Cs k) [] qEV) (ms.map N) [some (N s),some (N w),some (N b),o3,o4] M=.ok (.nx [some (N s),some (N w),some (N b),p3,o4],M))
 | [],o3,_=>⟨fun m h=>(by cases h),fun _=>⟨o3,rfl⟩⟩
 | m::ms,o3,h=>by
  have ih:=opL hk hs (M:=M) (w:=w) (b:=b) (o4:=o4) ms (some (N m)) fun x hx=>h x (by simp [hx])
  have e:=f19 (k:=k) hk hs (h m (by simp)) w b M
  have st:∀ a b c d e z:Option T,[a,b,c,d,e].set 3 z=[a,b,c,z,e]:=fun _ _ _ _ _ _=>rfl
  rw [List.map_cons,qAV,st]
  cases hf:few s w b m with
  | true=>
   rw [hf] at e
   have body:pxs (glT gs) (Pk (glT gs) Tb.fns Cs k) [] qEV [some (N s),some (N w),some (N b),some (N m),o4] M=.ok (.rt (.tup [St "ones",N m],true),M):=by
    rw [qEV]
    simp [e,lim]
   rw [List.find?_cons_of_pos hf,body,PR.bind_ok]
   exact ⟨fun m' z=>(by cases z;rfl),fun z=>(by cases z)⟩
  | false=>
   rw [hf] at e
   have body:pxs (glT gs) (Pk (glT gs) Tb.fns Cs k) [] qEV [some (N s),some (N w),some (N b),some (N m),o4] M=.ok (.nx [some (N s),some (N w),some (N b),some (N m),o4],M):=by
    rw [qEV]
    simp [e]
   rw [List.find?_cons_of_neg (by rw [hf];decide),body,PR.bind_ok]
   exact ih
theorem qOy (hk:8<=k) {s w b m:Nat} (h1:1<=s) (hs:s<=5) (hw:w < 2 ^ s) (hb:b < 2 ^ s) (hf:fnd s w b=some m) (M:Mem):Pk (glT gs) Tb.fns Cs k 20 [N s,N w,N b] M=.ok ((.tup [St "ones",N m],true),M):=by
 rw [qAE t20 ⟨rfl,by decide⟩ (by omega),b20,show Cs.getD 20 []=[] from rfl]
 have e7:=f7 (k:=k - 1) (by omega) h1 hs M
 have e8:=f8 (k:=k - 1) (by omega) hs hw M
 have e8':=f8 (k:=k - 1) (by omega) hs hb M
 have rg:=qEa (a:=1) (b:=s + 1) (by omega)
 rw [Nat.add_sub_cancel] at rg
 have e:=(opL (k:=k - 1) (by omega) hs (M:=M) (w:=w) (b:=b) (o4:=none) (List.range' 1 s) none fun m hm=>by have:=List.mem_range'_1.mp hm;omega).1 m hf
 generalize (List.range' 1 s).map N=its at *
 simp [e7,e8,e8',rg,e,qAA]
theorem qPA (hk:8<=k) {s w b:Nat} (h1:1<=s) (hs:s<=5) (hw:w < 2 ^ s) (hb:b < 2 ^ s) (hf:fnd s w b=none) {M:Mem} (hW:WfM M) {P' U:List Nat} (r1:rb b 16 w=some (w::P')) (r2:∀ x∈w::P',x < 2 ^ s) (r4:(w::P').length<=20) (r5:tL s (List.range (2 ^ s)) (w::P')=some U):Pk (glT gs) Tb.fns Cs k 20 [N s,N w,N b] M=.ok ((.tup [St "row",NL (w::P'),NL U],false),M):=by
 rw [qAE t20 ⟨rfl,by decide⟩ (by omega),b20,show Cs.getD 20 []=[] from rfl]
 have p5':=p5 hs
 have e7:=f7 (k:=k - 1) (by omega) h1 hs M
 have e8:=f8 (k:=k - 1) (by omega) hs hw M
 have e8':=f8 (k:=k - 1) (by omega) hs hb M
 have rg:=qEa (a:=1) (b:=s + 1) (by omega)
 rw [Nat.add_sub_cancel] at rg
 obtain ⟨p3,e⟩:=(opL (k:=k - 1) (by omega) hs (M:=M) (w:=w) (b:=b) (o4:=none) (List.range' 1 s) none fun m hm=>by have:=List.mem_range'_1.mp hm;omega).2 hf
 have e21:=f21 (k:=k - 1) (by omega) (by omega) (by decide) r1 (fun x hx=>Nat.lt_of_lt_of_le (r2 x hx) p5') hW
 obtain ⟨fr,e17⟩:=qN6 (k:=k - 1) (by omega) h1 hs (M:=M) r2 ⟨by simp,by omega⟩
 rw [r5] at e17
 have e17:Pk (glT gs) Tb.fns Cs (k - 1) 17 [N s,NL (w::P')] M=.ok ((NL U,fr),M):=e17
 have nf:(NL (w::P')).lf=false:=qA8 _
 generalize NL (w::P')=tp at *
 generalize (List.range' 1 s).map N=its at *
 simp [e7,e8,e8',rg,e,e21,e17,nf,lim,qAA]
end
theorem Good.app {A B:Mem} {n:Nat} (g:Good A n):Good (A++B) n:=by
 obtain ⟨a,b,c,e,h⟩:=g
 exact ⟨a,b,c,by rw [List.getElem?_append_left (List.getElem?_eq_some_iff.mp e).1];exact e,h⟩
theorem Good.lt {A:Mem} {n:Nat} (g:Good A n):n < A.length:=by
 obtain ⟨a,b,c,e,_⟩:=g
 exact (List.getElem?_eq_some_iff.mp e).1
theorem Kept.split {A B X:Mem} {n:Nat} (hn:n < A.length) (x:Kept n (A++B) X):∃ A',X=A'++B/\Kept n A A':=by
 have lx:X.length=A.length + B.length:=by rw [x.len];simp
 have hd:X.drop A.length=B:=by
  refine List.ext_getElem? fun i=>?_
  rw [List.getElem?_drop,x.oth _ (by omega),List.getElem?_append_right (by omega),Nat.add_sub_cancel_left]
 refine ⟨X.take A.length,by rw [<- hd,List.take_append_drop],?_,by rw [List.length_take];omega,fun j hj=>?_⟩
 ·obtain ⟨a,b,c,e,h⟩:=x.good
  exact ⟨a,b,c,by rw [List.getElem?_take_of_lt hn];exact e,h⟩
 ·by_cases q:j < A.length
  ·rw [List.getElem?_take_of_lt q,x.oth j hj,List.getElem?_append_left q]
  ·rw [List.getElem?_eq_none (by simp;omega),List.getElem?_eq_none (by omega)]
theorem qKV {k:Nat} (hk:1<=k) {A B:Mem} {n m:Nat} (g:Good A n) (hm:0 < m/\m<=1000000):∃ d A',Pk (glT gs) Tb.fns Cs k 25 [.cell n,N m] (A++B)=.ok ((N d,true),A'++B)/\d < m/\Kept n A A':=by
 obtain ⟨d,M',e,hd,kk⟩:=qB3 hk (g.app (B:=B)) hm
 obtain ⟨A',rfl,ka⟩:=kk.split g.lt
 exact ⟨d,A',e,hd,ka⟩
noncomputable def Bd (i:Int):Prop:=i.natAbs < 2 ^ 300
theorem Bd.log {i:Int} (h:Bd i):i.natAbs.log2 < 1920:=by
 rcases Nat.eq_zero_or_pos i.natAbs with z | z
 ·rw [z];decide
 ·have:=(Nat.log2_lt (by omega)).mpr h;omega
theorem Bd.len {i:Int} (h:Bd i):(Str.ofString (toString i)).length<=1921:=by
 rw [ofString_length];exact int_text_length_le (by decide) h.log
noncomputable def Fit (d:PyData) (n:Nat):Prop:=d.showable=true/\d.shown.length<=n
theorem qJc {i:Int} (h:Bd i):Fit (.int i) 1921:=⟨decide_eq_true h.log,h.len⟩
theorem qHr (ts:List Str):(tupleText ts).length<=piled ts + 3:=by
 unfold tupleText
 rw [Str.length_append,Str.length_append]
 have e1:(("(":String):Str).length=1:=rfl
 have e2:((if ts.length==1 then ",)" else ")":String):Str).length<=2:=by split<;>decide
 cases ts with
 | nil=>
  have:(Str.join ", " []).length=0:=rfl
  omega
 | cons t r=>
  have:=join_length_add (t::r) (by simp)
  omega
theorem qGX:∀ (ts:List Str) (k:Nat) (acc:Str),(textFrom k acc ts).length<=acc.length + piled ts
 | [],k,acc=>by show acc.length<=_;rw [piled_nil];omega
 | t::r,k,acc=>by
  have:=qGX r (k + 1) (acc++(if k > 0 then ", " else "":String)++t)
  show (textFrom (k + 1) (acc++(if k > 0 then ", " else "":String)++t) r).length<=_
  rw [Str.length_append,Str.length_append] at this
  rw [piled_cons]
  have e:((if k > 0 then ", " else "":String):Str).length<=2:=by split<;>decide
  omega
theorem qDX:∀ {ds:List PyData} {n:Nat},(∀ d∈ds,Fit d n) -> PyData.showableAll ds=true/\piled (PyData.shownAll ds)<=ds.length * (n + 2)
 | [],n,h=>⟨rfl,Nat.zero_le _⟩
 | d::r,n,h=>by
  obtain ⟨a,b⟩:=qDX (ds:=r) fun x hx=>h x (by simp [hx])
  obtain ⟨c,e⟩:=h d (by simp)
  refine ⟨by show (d.showable&&PyData.showableAll r)=true;rw [c,a];rfl,?_⟩
  show piled (d.shown::PyData.shownAll r)<=_
  rw [piled_cons,List.length_cons,Nat.succ_mul];omega
theorem qGV {ds:List PyData} {n m:Nat} (h:∀ d∈ds,Fit d n) (hm:ds.length * (n + 2) + 3<=m):Fit (.tuple ds) m:=by
 obtain ⟨a,b⟩:=qDX h
 refine ⟨a,?_⟩
 show (tupleText (PyData.shownAll ds)).length<=_
 have c:=qHr (PyData.shownAll ds)
 omega
theorem qJB {ds:List PyData} {n m:Nat} (h:∀ d∈ds,Fit d n) (hm:ds.length * (n + 2) + 3<=m):Fit (.list ds) m:=by
 obtain ⟨a,b⟩:=qDX h
 refine ⟨a,?_⟩
 show (listText (PyData.shownAll ds)).length<=_
 unfold listText
 rw [Str.length_append]
 have c:=qGX (PyData.shownAll ds) 0 "["
 have e1:(("[":String):Str).length=1:=rfl
 have e2:(("]":String):Str).length=1:=rfl
 omega
noncomputable def Shw (t:T):Prop:=∃ x:Str,∀ M:Mem,qBz M .repr [t]=some (.v (.str x),true)
theorem qF2 {t:T} {d:PyData} {n:Nat} (h:∀ M:Mem,qGZ M t=some d) (f:Fit d n) (hn:n<=1000000):Shw t:=by
 refine ⟨d.shown,fun M=>?_⟩
 show ((qGZ M t).bind qFa).map _=_
 rw [h M,Option.bind_some]
 unfold qFa
 rw [if_pos ⟨f.1,Nat.le_trans f.2 (by rw [sizeLine_eq];omega)⟩];rfl
theorem qLp {x:Nat} (h:x < 2 ^ 300):Fit (.int (x:Int)) 2000:=by
 have:=qJc (i:=(x:Int)) (by show (x:Int).natAbs < 2 ^ 300;simpa using h)
 exact ⟨this.1,Nat.le_trans this.2 (by decide)⟩
theorem small {x:Nat} (h:x<=1000):x < 2 ^ 300:=Nat.lt_of_le_of_lt h (by decide)
section
variable {k:Nat}
theorem qOk (hk:8<=k) {s w b:Nat} (h1:1<=s) (hs:s<=5) (hw:w < 2 ^ s) (hb:b < 2 ^ s) {M:Mem} (hW:WfM M):∃ (p:Pp) (fr:Bool),Pk (glT gs) Tb.fns Cs k 20 [N s,N w,N b] M=.ok ((p.t,fr),M)/\((∃ m,p=.ones "ones" m/\m<=100)\/∃ P U,p=.row "row" P U/\P.length<=40/\U.length<=40/\(∀ x∈P,x < 100)/\∀ x∈U,x < 100):=by
 have p5':=p5 hs
 cases hf:fnd s w b with
 | some m=>exact ⟨.ones "ones" m,true,qOy hk h1 hs hw hb hf M,.inl ⟨m,rfl,by have:=List.mem_range'_1.mp (List.mem_of_find?_eq_some hf);omega⟩⟩
 | none=>
  obtain ⟨P',U,r1,r2,r3,r4,r5,r6,r7⟩:=qKd h1 hs hw hb hf
  exact ⟨.row "row" (w::P') U,false,qPA hk h1 hs hw hb hf hW r1 r2 r4 r5,.inr ⟨_,_,rfl,by omega,r7,fun x hx=>by have:=r2 x hx;omega,fun x hx=>by have:=r6 x hx;omega⟩⟩
theorem qEZ {s:Nat} {l q:Nat} (hq:q < 2 ^ s) (hk:(kL s l q).isSome=true):∀ (r:List Nat) (w:Nat),stp s w r=true -> (w::r).getLast?=some l -> stp s w (r++[q])=true
 | [],w,_,hl=>by
  have:w=l:=by simpa using hl
  subst this
  simp [stp,hq,hk]
 | x::r,w,h,hl=>by
  unfold stp at h
  rw [Bool.and_eq_true] at h
  rw [List.cons_append,stp,h.1,Bool.true_and]
  exact qEZ hq hk r x h.2 (by simpa using hl)
theorem qGl {M:Mem} {n:Nat} {L:List Nat} {b:Nat} (h:M[n]?=some (L.map N)) (hl:L.getLast?=some b):qDU M (.cell n) (.v (.int (-1)))=some (N b,true):=by
 have:=qBA (M:=M) hl
 have e:qDU M (.cell n) (.v (.int (-1)))=qDU M (NL L) (.v (.int (-1))):=by
  show (M[n]?).bind _=_
  rw [h];rfl
 rw [e];exact this
theorem qMZ (hk:3<=k) {s w n:Nat} (hs:s<=5) {o2:Option T}:∀ (its:List Nat) (r:List Nat) (A:Mem) (o5 o6:Option T),Good A n -> stp s w r=true -> r.length + its.length<=50 -> (∀ x∈w::r,x < 2 ^ s) -> ∃ r' p5 p6 A',
  qAj [] (.name 5) (pxs (glT gs) (Pk (glT gs) Tb.fns Cs k) [4] qEb) (its.map N) [some (.cell n),some (N s),o2,some (N (2 ^ s)),some (.cell A.length),o5,o6] (A++[(w::r).map N])=.ok (.nx [some (.cell n),some (N s),o2,some (N (2 ^ s)),some (.cell A.length),p5,p6],A'++[(w::r').map N])/\Kept n A A'/\stp s w r'=true/\r'.length<=r.length + its.length/\∀ x∈w::r',x < 2 ^ s
 | [],r,A,o5,o6,g,h,hl,hx=>⟨r,o5,o6,A,rfl,⟨g,rfl,fun _ _=>rfl⟩,h,by simp,hx⟩
 | i::its,r,A,o5,o6,g,h,hl,hx=>by
  simp at hl
  have n5:=p5 hs
  obtain ⟨l,hlast⟩:∃ l,(w::r).getLast?=some l:=⟨_,List.getLast?_eq_some_getLast (by simp)⟩
  have g0:(A++[(w::r).map N])[A.length]?=some ((w::r).map N):=by simp
  have il:=qGl g0 hlast
  have rg:=qAe (n:=2 ^ s) (by omega)
  have c:=qCa (c:=pec (glT gs) (Pk (glT gs) Tb.fns Cs k) (.cons (.cmp .isnot (.call 27 (.cons (.var 2) (.cons (.idx (.var 1) (.neg (nE 1))) (.cons (.var 0) .nil)))) (.cst V.non)) .nil)) (e:=pe (glT gs) (Pk (glT gs) Tb.fns Cs k) (.var 0)) (M:=A++[(w::r).map N]) (σ:=[some (.cell A.length),some (N s)]) (o:=none) (its:=List.range (2 ^ s)) (fun x=>(kL s l x).isSome) (fun x=>x) (by simp [lim];omega) (fun x _=>by
   have e27:=f27 (k:=k) (by omega) hs l x (A++[(w::r).map N])
   have is:=qEq (M:=A++[(w::r).map N]) (kL s l x)
   generalize oK (kL s l x)=ok at *
   generalize A++[(w::r).map N]=MM at *
   simp [il,e27,is]) (fun x _ _=>by simp)
  rw [List.map_id'] at c
  have ne:∀ {M:Mem} (L:List Nat),qAp M .ne (NL L) (.lst [])=some (!decide (L=[])):=fun {M} L=>(IsL.nl M L).cne (IsL.nl M [])
  have st7:∀ a b c d e f g z:Option T,[a,b,c,d,e,f,g].set 5 z=[a,b,c,d,e,z,g]:=fun _ _ _ _ _ _ _ _=>rfl
  have hS:∀ x∈(List.range (2 ^ s)).filter (fun x=>(kL s l x).isSome),x < 2 ^ s/\(kL s l x).isSome=true:=fun x hx=>⟨List.mem_range.mp (List.mem_filter.mp hx).1,(List.mem_filter.mp hx).2⟩
  have lS:((List.range (2 ^ s)).filter fun x=>(kL s l x).isSome).length<=2 ^ s:=Nat.le_trans (List.length_filter_le _ _) (by simp)
  generalize (List.range (2 ^ s)).filter (fun x=>(kL s l x).isSome)=S at *
  rw [List.map_cons,qAV,st7]
  by_cases hn:S=[]
  ·obtain ⟨r',q5,q6,A',e,k1,s1,l1,x1⟩:=qMZ hk hs (n:=n) (o2:=o2) its r A (some (N i)) (some (NL S)) g h (by omega) hx
   refine ⟨r',q5,q6,A',?_,k1,s1,by simp;omega,x1⟩
   have ne':∀ {M:Mem},qAp M .ne (NL S) (.lst [])=some false:=fun {M}=>by rw [ne,decide_eq_true hn];rfl
   have body:pxs (glT gs) (Pk (glT gs) Tb.fns Cs k) [4] qEb [some (.cell n),some (N s),o2,some (N (2 ^ s)),some (.cell A.length),some (N i),o6] (A++[(w::r).map N])=.ok (.nx [some (.cell n),some (N s),o2,some (N (2 ^ s)),some (.cell A.length),some (N i),some (NL S)],A++[(w::r).map N]):=by
    clear e hn
    generalize A++[(w::r).map N]=MM at *
    rw [qEb]
    simp [rg,c,-qAg,ne']
   rw [body,PR.bind_ok]
   exact e
  ·have hp:0 < S.length:=List.length_pos_iff.mpr hn
   obtain ⟨d,A1,e1,hd,k1⟩:=qKV (k:=k) (by omega) (B:=[(w::r).map N]) g (m:=S.length) (by omega)
   obtain ⟨y,hy⟩:∃ y,S[d]?=some y:=⟨_,List.getElem?_eq_getElem hd⟩
   obtain ⟨q1,q2⟩:=hS y (List.mem_of_getElem? hy)
   obtain ⟨r',q5,q6,A',e,k2,s1,l1,x1⟩:=qMZ hk hs (n:=n) (o2:=o2) its (r++[y]) A1 (some (N i)) (some (NL S)) k1.good (qEZ q1 q2 r w h hlast) (by simp;omega) (fun x hx'=>by
    rcases List.mem_append.mp (show x∈(w::r)++[y] from hx') with z | z
    ·exact hx x z
    ·rw [List.mem_singleton.mp z];exact q1)
   refine ⟨r',q5,q6,A',?_,k1.trans k2,s1,by simp at l1 ⊢;omega,x1⟩
   have ne':∀ {M:Mem},qAp M .ne (NL S) (.lst [])=some true:=fun {M}=>by rw [ne,decide_eq_false hn];rfl
   have ix:∀ {M:Mem},qDU M (NL S) (N d)=some (N y,true):=fun {M}=>(IsL.nl M S).idx hy
   have ap:qIW (A1++[(w::r).map N]) A.length (N y)=some (A1++[(w::(r++[y])).map N]):=by
    rw [<- k1.len,qHz (xs:=(w::r).map N) (by simp) (by simp [lim];omega)]
    simp
   have ln:∀ {M:Mem},qBz M .len [NL S]=some (N S.length,true):=fun {M}=>(IsL.nl M S).len
   have body:pxs (glT gs) (Pk (glT gs) Tb.fns Cs k) [4] qEb [some (.cell n),some (N s),o2,some (N (2 ^ s)),some (.cell A.length),some (N i),o6] (A++[(w::r).map N])=.ok (.nx [some (.cell n),some (N s),o2,some (N (2 ^ s)),some (.cell A.length),some (N i),some (NL S)],A1++[(w::(r++[y])).map N]):=by
    clear e hn hd q1 q2
    generalize hMM:A++[(w::r).map N]=MM at *
    generalize hM1:A1++[(w::r).map N]=M1 at *
    generalize hM2:A1++[(w::(r++[y])).map N]=M2 at *
    rw [qEb]
    simp [rg,c,-qAg,ne',ln,-qII,e1,ix,ap]
   rw [body,PR.bind_ok]
   rw [<- k1.len]
   exact e
theorem qFu {M A:Mem} (hA:A.length=M.length) (hF:FlatM A) {P U:List Nat} (f:Bool):∃ f',qB8 M.length (.ok (.rt (.tup [St "row",.cell A.length,NL U],f),A++[P.map N]))=.ok ((.tup [St "row",NL P,NL U],f'),A):=by
 show ∃ f',PI.finish M.length _ _=_
 unfold PI.finish
 rw [<- hA,if_neg (by simp),List.take_left' rfl,if_pos (hF.all _)]
 have r:qAI (A++[P.map N]) A.length 6 (.tup [St "row",.cell A.length,NL U])=some (.tup [St "row",NL P,NL U]):=by
  have r1:qAI (A++[P.map N]) A.length 5 (St "row")=some (St "row"):=by unfold qAI;rw [if_pos (by unfold T.und;rfl)]
  have r2:qAI (A++[P.map N]) A.length 5 (.cell A.length)=some (NL P):=by
   unfold qAI
   rw [if_neg (by unfold T.und;simp)]
   dsimp only
   rw [show (A++[P.map N])[A.length]?=some (P.map N) by simp,Option.bind_some,qCB];rfl
  have r3:qAI (A++[P.map N]) A.length 5 (NL U)=some (NL U):=by unfold qAI;rw [if_pos (by unfold NL T.und;exact qD8 _ U)]
  unfold qAI
  rw [if_neg (by unfold T.und T.unds T.unds;simp [T.und])]
  dsimp only
  rw [List.mapM_cons,List.mapM_cons,List.mapM_cons,List.mapM_nil,r1,r2,r3];rfl
 dsimp only
 rw [r,PR.ofO_some,PR.bind_ok]
 exact ⟨_,rfl⟩
theorem qPG (hk:5<=k) {M:Mem} {n:Nat} (g:Good M n) (hM:FlatM M) {s w:Nat} (h1:1<=s) (hs:s<=5) (hw:w < 2 ^ s):∃ r U fr M',Pk (glT gs) Tb.fns Cs k 31 [.cell n,N s,N w] M=.ok ((.tup [St "row",NL (w::r),NL U],fr),M')/\Kept n M M'/\stp s w r=true/\r.length<=17/\tL s (List.range (2 ^ s)) (w::r)=some U/\∀ x∈w::r,x < 2 ^ s:=by
 have n5:=p5 hs
 have ln:=qKJ hs
 obtain ⟨mm,hm,hm1,hm2⟩:∃ mm,[N 8,N 17][(decide (s=5)).toNat]?=some (N mm)/\0 < mm/\mm<=17:=by
  by_cases q:s=5
  ·exact ⟨17,by simp [q],by decide,by decide⟩
  ·exact ⟨8,by simp [q],by decide,by decide⟩
 obtain ⟨d,A1,e1,hd,k1⟩:=qKV (k:=k - 1) (by omega) (B:=[[w].map N]) g (m:=mm) (by omega)
 obtain ⟨r,p5',p6,A2,e2,k2,s2,l2,x2⟩:=qMZ (k:=k - 1) (by omega) hs (n:=n) (w:=w) (o2:=some (N w)) (List.range d) [] A1 none none k1.good rfl (by simp;omega) (fun x hx=>by simp at hx;omega)
 simp at l2
 have k12:=k1.trans k2
 have F2:=k12.flat hM
 have FC:FlatM (A2++[(w::r).map N]):=F2.app fun c hc=>by rw [List.mem_singleton.mp hc];exact qD8 _ _
 obtain ⟨U,hU⟩:=Option.isSome_iff_exists.mp ((qB6 hs (t:=List.range (2 ^ s)) r w hw).mp s2).2
 have g0:(A2++[(w::r).map N])[A2.length]?=some ((w::r).map N):=by simp
 have et:=thr (k:=k - 1) (by omega) h1 hs FC (IsL.cell g0) x2 ⟨by simp,by simp;omega⟩ hU
 obtain ⟨fr,el⟩:=qFu (M:=M) (A:=A2) k12.len F2 (P:=w::r) (U:=U) false
 refine ⟨r,U,fr,A2,?_,k12,s2,by omega,hU,x2⟩
 rw [qAE t31 ⟨rfl,by decide⟩ (by omega),b31,show Cs.getD 31 []=[4] from rfl]
 have th:thaw M.length (.lst [N w])=(.cell M.length,[[N w]]):=qJH M.length [w]
 have rg:=qAe (n:=d) (by omega)
 have e1':Pk (glT gs) Tb.fns Cs (k - 1) 25 [.cell n,N mm] (M++[[N w]])=.ok ((N d,true),A1++[[N w]]):=e1
 have e2':qAj [] (.name 5) (pxs (glT gs) (Pk (glT gs) Tb.fns Cs (k - 1)) [4] qEb) ((List.range d).map N) [some (.cell n),some (N s),some (N w),some (N (2 ^ s)),some (.cell M.length),none,none] (A1++[[N w]])=.ok (.nx [some (.cell n),some (N s),some (N w),some (N (2 ^ s)),some (.cell A2.length),p5',p6],A2++[(w::r).map N]):=by
  rw [<- k1.len]
  rw [show (some (T.cell A2.length))=some (T.cell A1.length) by rw [k2.len]]
  exact e2
 generalize (List.range d).map N=its at *
 generalize hMM:A2++[(w::r).map N]=MM at *
 generalize NL (w::r)=tp at *
 simp [lim,ln,th,hm,e1',rg,e2',stE,-pe_str,et]
 exact el
end
end My
namespace My
open PySem PySem.Spec PI
open L2 (V)
theorem qEE {xs:List T} (m:Nat):qBn xs (some (m:Int)) none=xs.drop m:=by
 by_cases h:m<=xs.length
 ·exact qCT h
 ·unfold qBn
  rw [HT.sIx_none,HT.sIx_nat,Nat.min_eq_right (by omega),List.drop_eq_nil_of_le (Nat.le_refl _),List.drop_eq_nil_of_le (by omega)]
  exact List.take_nil
section
variable {k:Nat}
theorem qKu (hk:2<=k) {M:Mem} {n m:Nat} (g:Good M n) (hm:m<=100) {L:List Nat} (hl:L.length<=60) (hv:∀ x∈L,x<=100):∃ L' fr M',Pk (glT gs) Tb.fns Cs k 32 [.cell n,N m,NL L] M=.ok ((NL L',fr),M')/\Kept n M M'/\L'.length<=L.length + 1/\∀ x∈L',x<=100:=by
 obtain ⟨a,M1,e1,ha,k1⟩:=qB3 (k:=k - 1) (by omega) g (m:=L.length + 1) (by omega)
 obtain ⟨q,M2,e2,hq,k2⟩:=qB3 (k:=k - 1) (by omega) k1.good (m:=m + 1) (by omega)
 obtain ⟨i,M3,e3,hi,k3⟩:=qB3 (k:=k - 1) (by omega) k2.good (m:=4) (by decide)
 have k13:=(k1.trans k2).trans k3
 have y1:lT (qBn (L.map N) none (some (a:Int)))=(NL (L.take a),true):=by rw [qBR (by simp;omega),<- List.map_take,qGb]
 have y2:lT (qBn (L.map N) (some (a:Int)) none)=(NL (L.drop a),true):=by rw [qEE,<- List.map_drop,qGb]
 have y3:lT (qBn (L.map N) (some ((a:Int) + 1)) none)=(NL (L.drop (a + 1)),true):=by rw [show ((a:Int) + 1)=((a + 1:Nat):Int) by omega,qEE,<- List.map_drop,qGb]
 have a1:∀ {M:Mem},qAd M .add (NL (L.take a)) (.lst [N q])=some (NL (L.take a++[q]),true):=fun {M}=>qEI (K:=[q]) (by simp [lim];omega)
 have a2:∀ {M:Mem},qAd M .add (NL (L.take a++[q])) (NL (L.drop a))=some (NL (L.take a++[q]++L.drop a),true):=fun {M}=>qEI (by simp [lim];omega)
 have a3:∀ {M:Mem},qAd M .add (NL (L.take a)) (NL (L.drop (a + 1)))=some (NL (L.take a++L.drop (a + 1)),true):=fun {M}=>qEI (by simp [lim];omega)
 have a4:∀ {M:Mem},qAd M .add (NL (L.take a++[q])) (NL (L.drop (a + 1)))=some (NL (L.take a++[q]++L.drop (a + 1)),true):=fun {M}=>qEI (by simp [lim];omega)
 have rv:lT (L.map N).reverse=(NL L.reverse,true):=by rw [<- List.map_reverse,qGb]
 have ln:∀ {M:Mem},qBz M .len [NL L]=some (N L.length,true):=fun {M}=>(IsL.nl M L).len
 have mt:∀ x∈L.take a,x<=100:=fun x hx=>hv x (List.mem_of_mem_take hx)
 have md:∀ j,∀ x∈L.drop j,x<=100:=fun j x hx=>hv x (List.mem_of_mem_drop hx)
 obtain ⟨X,hX,hX1,hX2⟩:∃ X,[NL (L.take a++[q]++L.drop a),NL (L.take a++L.drop (a + 1)),NL (L.take a++[q]++L.drop (a + 1)),NL L.reverse][i]?=some (NL X)/\X.length<=L.length + 1/\∀ x∈X,x<=100:=by
  have mq:∀ x∈[q],x<=100:=fun x hx=>by rw [List.mem_singleton.mp hx];omega
  have ap:∀ {A B:List Nat},(∀ x∈A,x<=100) -> (∀ x∈B,x<=100) -> ∀ x∈A++B,x<=100:=fun h1 h2 x hx=>(List.mem_append.mp hx).elim (h1 x) (h2 x)
  rcases (by omega:i=0\/i=1\/i=2\/i=3) with rfl | rfl | rfl | rfl
  ·exact ⟨_,rfl,by simp;omega,ap (ap mt mq) (md _)⟩
  ·exact ⟨_,rfl,by simp;omega,ap mt (md _)⟩
  ·exact ⟨_,rfl,by simp;omega,ap (ap mt mq) (md _)⟩
  ·exact ⟨_,rfl,by simp,fun x hx=>hv x (List.mem_reverse.mp hx)⟩
 refine ⟨X,(NL X).lf,M3,?_,k13,hX1,hX2⟩
 rw [qAE t32 ⟨rfl,by decide⟩ (by omega),b32,show Cs.getD 32 []=[] from rfl]
 have li:∀ {M:Mem},T.lis M (NL L)=some (L.map N):=fun {M}=>rfl
 have it:∀ {M:Mem},T.its M (NL L)=some (L.map N):=fun {M}=>rfl
 clear hX1 hX2 mt md
 generalize hLN:L.map N=LN at *
 generalize NL (L.take a++[q]++L.drop a)=r1 at *
 generalize NL (L.take a++L.drop (a + 1))=r2 at *
 generalize NL (L.take a++[q]++L.drop (a + 1))=r3 at *
 generalize NL (L.take a++[q])=r5 at *
 generalize NL (L.take a)=r6 at *
 generalize NL (L.drop a)=r7 at *
 generalize NL (L.drop (a + 1))=r8 at *
 generalize NL L.reverse=r4 at *
 have e1':Pk (glT gs) Tb.fns Cs (k - 1) 25 [.cell n,N (L.length + 1)] M=.ok ((N a,true),M1):=e1
 simp [ln,-qII,e1',e2,li,it,-qMh,-qJh,y1,y2,y3,a1,a2,a3,a4,rv,lim,e3,hX]
 rw [qAA k13.len]
noncomputable def Wd (x:PySem.Str):Prop:=x="row"\/x="ones"\/x="Row"\/x=""
noncomputable def Fine:Pp -> Prop
 | .row x P U=>(P.length<=60/\U.length<=60/\(∀ x∈P,x<=100)/\∀ x∈U,x<=100)/\Wd x
 | .row4 P U=>P.length<=60/\U.length<=60/\(∀ x∈P,x<=100)/\∀ x∈U,x<=100
 | .ones x m=>m<=100/\Wd x
theorem Fine.fit:∀ {p:Pp},Fine p -> p.fit
 | .row _ P U,h=>⟨by have:=h.1.1;omega,by have:=h.1.2.1;omega⟩
 | .row4 P U,h=>⟨by have:=h.1;omega,by have:=h.2.1;omega⟩
 | .ones _ m,_=>trivial
theorem qLs {i:Nat} (hi:i < 4):∃ x:PySem.Str,[St "row",St "ones",St "Row",St ""][i]?=some (St x)/\Wd x:=by
 rcases (by omega:i=0\/i=1\/i=2\/i=3) with rfl | rfl | rfl | rfl
 ·exact ⟨_,rfl,.inl rfl⟩
 ·exact ⟨_,rfl,.inr (.inl rfl)⟩
 ·exact ⟨_,rfl,.inr (.inr (.inl rfl))⟩
 ·exact ⟨_,rfl,.inr (.inr (.inr rfl))⟩
theorem qMr (hk:3<=k) {M:Mem} {n m j:Nat} (g:Good M n) (hj:j<=100):∃ p fr M',Pk (glT gs) Tb.fns Cs k 33 [.cell n,N m,.tup [St "ones",N j]] M=.ok ((Pp.t p,fr),M')/\Kept n M M'/\Fine p:=by
 obtain ⟨w,M1,e1,hw,k1⟩:=qB3 (k:=k - 1) (by omega) g (m:=5) (by decide)
 obtain ⟨i,M2,e2,hi,k2⟩:=qB3 (k:=k - 1) (by omega) k1.good (m:=4) (by decide)
 obtain ⟨x,hx,hW⟩:=qLs hi
 refine ⟨.ones x j,true,M2,?_,k1.trans k2,hj,hW⟩
 rw [qAE t33 ⟨rfl,by decide⟩ (by omega),b33,show Cs.getD 33 []=[] from rfl]
 have q:∀ {M:Mem},qAp M .ne (St "ones") (St "row")=some true:=fun {M}=>by rw [qEA];rfl
 have sl:qHi (.tup [St "ones",N j]) [St "ones",N j] (some 1) none=some (.tup [N j],T.lfs [N j]):=rfl
 have ad:∀ {M:Mem},qAd M .add (.tup [St x]) (.tup [N j])=some (.tup [St x,N j],T.lfs [St x,N j]):=fun {M}=>rfl
 have lf:∀ x,T.lf (St x)=true:=fun x=>by simp
 have tt:Pp.t (.ones x j)=.tup [St x,N j]:=rfl
 rw [tt]
 clear hi hw
 by_cases h0:w=0
 ·simp [e1,h0,stE,-pe_str,lim,e2,hx,sl,ad]
  rw [qAA (k1.trans k2).len]
 ·simp [e1,h0,stE,-pe_str,q,lim,e2,hx,sl,ad]
  rw [qAA (k1.trans k2).len]
noncomputable def qI4:S:=(.asg (.name 3) (.call 25 (.cons (.var 0) (.cons (nE 5) .nil))))
noncomputable def qFY:S:=(.ifs (.or (.cmp .eq (.var 3) (nE 0)) (.cmp .ne (.idx (.var 2) (nE 0)) (.cst (V.str "row")))) (.cons (.ret (.bin .add (.tup (.cons (.idx (.lst (.cons (.cst (V.str "row")) (.cons (.cst (V.str "ones")) (.cons (.cst (V.str "Row")) (.cons (.cst (V.str "")) .nil))))) (.call 25 (.cons (.var 0) (.cons (nE 4) .nil)))) .nil)) (.sl (.var 2) (.cons (nE 1) .nil) .nil))) .nil) .nil)
noncomputable def qFW:S:=(.ifs (.cmp .eq (.var 3) (nE 1)) (.cons (.ret (.bin .add (.var 2) (.tup (.cons (.idx (.var 2) (nE 1)) .nil)))) .nil) .nil)
noncomputable def qFX:S:=(.ifs (.cmp .eq (.var 3) (nE 2)) (.cons (.ret (.tup (.cons (.cst (V.str "row")) (.cons (.idx (.var 2) (nE 1)) (.cons (.call 32 (.cons (.var 0) (.cons (.var 1) (.cons (.idx (.var 2) (nE 2)) .nil)))) .nil))))) .nil) .nil)
noncomputable def qFh:S:=(.ifs (.cmp .eq (.var 3) (nE 3)) (.cons (.ret (.tup (.cons (.cst (V.str "row")) (.cons (.call 32 (.cons (.var 0) (.cons (.var 1) (.cons (.idx (.var 2) (nE 1)) .nil)))) (.cons (.idx (.var 2) (nE 2)) .nil))))) .nil) .nil)
noncomputable def qH3:S:=(.ret (.tup (.cons (.cst (V.str "row")) (.cons (.idx (.var 2) (nE 1)) (.cons (.lrng (.var 1)) .nil)))))
theorem qKm:b33=(.cons qI4 (.cons qFY (.cons qFW (.cons qFX (.cons qFh (.cons qH3 .nil)))))):=rfl
section
variable {n m w:Nat} {P U:List Nat} {M:Mem} {Q:Nat -> List T -> Mem -> PR (TB×Mem)}
theorem w1 (h:w≠0):px (glT gs) Q [] qFY [some (.cell n),some (N m),some (.tup [St "row",NL P,NL U]),some (N w)] M=.ok (.nx [some (.cell n),some (N m),some (.tup [St "row",NL P,NL U]),some (N w)],M):=by
 have q:∀ {M:Mem},qAp M .ne (St "row") (St "row")=some false:=fun {M}=>by rw [qEA];simp
 rw [qFY];simp [h,stE,-pe_str,q]
theorem w2 {R:T} (h:w≠1):px (glT gs) Q [] qFW [some (.cell n),some (N m),some R,some (N w)] M=.ok (.nx [some (.cell n),some (N m),some R,some (N w)],M):=by rw [qFW];simp [h]
theorem w3 {R:T} (h:w≠2):px (glT gs) Q [] qFX [some (.cell n),some (N m),some R,some (N w)] M=.ok (.nx [some (.cell n),some (N m),some R,some (N w)],M):=by rw [qFX];simp [h]
theorem w4 {R:T} (h:w≠3):px (glT gs) Q [] qFh [some (.cell n),some (N m),some R,some (N w)] M=.ok (.nx [some (.cell n),some (N m),some R,some (N w)],M):=by rw [qFh];simp [h]
end
theorem qMq (hk:3<=k) {M:Mem} {n m:Nat} (g:Good M n) (hm:m<=50) {P U:List Nat} (hP:P.length<=50) (hU:U.length<=50) (vP:∀ x∈P,x<=100) (vU:∀ x∈U,x<=100):∃ p fr M',Pk (glT gs) Tb.fns Cs k 33 [.cell n,N m,.tup [St "row",NL P,NL U]] M=.ok ((Pp.t p,fr),M')/\Kept n M M'/\Fine p:=by
 obtain ⟨w,M1,e1,hw,k1⟩:=qB3 (k:=k - 1) (by omega) g (m:=5) (by decide)
 have e0:px (glT gs) (Pk (glT gs) Tb.fns Cs (k - 1)) [] qI4 [some (.cell n),some (N m),some (.tup [St "row",NL P,NL U]),none] M=.ok (.nx [some (.cell n),some (N m),some (.tup [St "row",NL P,NL U]),some (N w)],M1):=by
  rw [qI4];simp [e1]
 have st:Pk (glT gs) Tb.fns Cs k 33 [.cell n,N m,.tup [St "row",NL P,NL U]] M=qB8 M.length (pxs (glT gs) (Pk (glT gs) Tb.fns Cs (k - 1)) [] (.cons qFY (.cons qFW (.cons qFX (.cons qFh (.cons qH3 .nil))))) [some (.cell n),some (N m),some (.tup [St "row",NL P,NL U]),some (N w)] M1):=by
  rw [qAE t33 ⟨rfl,by decide⟩ (by omega),show Cs.getD 33 []=[] from rfl,qKm]
  show qB8 M.length (pxs _ _ _ _ [some (.cell n),some (N m),some (.tup [St "row",NL P,NL U]),none] M)=_
  rw [qAT e0]
 rw [st]
 rcases (by omega:w=0\/w=1\/w=2\/w=3\/w=4) with rfl | rfl | rfl | rfl | rfl
 ·obtain ⟨i,M2,e2,hi,k2⟩:=qB3 (k:=k - 1) (by omega) k1.good (m:=4) (by decide)
  obtain ⟨x,hx,hW⟩:=qLs hi
  refine ⟨.row x P U,T.lfs [St x,NL P,NL U],M2,?_,k1.trans k2,⟨by omega,by omega,vP,vU⟩,hW⟩
  have sl:qHi (.tup [St "row",NL P,NL U]) [St "row",NL P,NL U] (some 1) none=some (.tup [NL P,NL U],T.lfs [NL P,NL U]):=rfl
  have ad:∀ {M:Mem},qAd M .add (.tup [St x]) (.tup [NL P,NL U])=some (.tup [St x,NL P,NL U],T.lfs [St x,NL P,NL U]):=fun {M}=>rfl
  clear hi
  have e:px (glT gs) (Pk (glT gs) Tb.fns Cs (k - 1)) [] qFY [some (.cell n),some (N m),some (.tup [St "row",NL P,NL U]),some (N 0)] M1=.ok (.rt (.tup [St x,NL P,NL U],T.lfs [St x,NL P,NL U]),M2):=by
   rw [qFY];simp [stE,-pe_str,lim,e2,hx,sl,ad]
  rw [qBQ e,qAA (k1.trans k2).len];rfl
 ·refine ⟨.row4 P U,T.lfs [St "row",NL P,NL U,NL P],M1,?_,k1,⟨by omega,by omega,vP,vU⟩⟩
  have ad:∀ {M:Mem},qAd M .add (.tup [St "row",NL P,NL U]) (.tup [NL P])=some (.tup [St "row",NL P,NL U,NL P],T.lfs [St "row",NL P,NL U,NL P]):=fun {M}=>rfl
  have e:px (glT gs) (Pk (glT gs) Tb.fns Cs (k - 1)) [] qFW [some (.cell n),some (N m),some (.tup [St "row",NL P,NL U]),some (N 1)] M1=.ok (.rt (.tup [St "row",NL P,NL U,NL P],T.lfs [St "row",NL P,NL U,NL P]),M1):=by
   rw [qFW];simp [lim,ad]
  rw [qAT (w1 (by decide)),qBQ e,qAA k1.len];rfl
 ·obtain ⟨L',fr,M2,e2,k2,l2,v2⟩:=qKu (k:=k - 1) (by omega) k1.good (m:=m) (by omega) (L:=U) (by omega) vU
  refine ⟨.row "row" P L',false,M2,?_,k1.trans k2,⟨by omega,by omega,vP,v2⟩,.inl rfl⟩
  have e:px (glT gs) (Pk (glT gs) Tb.fns Cs (k - 1)) [] qFX [some (.cell n),some (N m),some (.tup [St "row",NL P,NL U]),some (N 2)] M1=.ok (.rt (.tup [St "row",NL P,NL L'],false),M2):=by
   rw [qFX];simp [stE,-pe_str,lim,e2,qA8]
  rw [qAT (w1 (by decide)),qAT (w2 (by decide)),qBQ e,qAA (k1.trans k2).len];rfl
 ·obtain ⟨L',fr,M2,e2,k2,l2,v2⟩:=qKu (k:=k - 1) (by omega) k1.good (m:=m) (by omega) (L:=P) (by omega) vP
  refine ⟨.row "row" L' U,false,M2,?_,k1.trans k2,⟨by omega,by omega,v2,vU⟩,.inl rfl⟩
  have e:px (glT gs) (Pk (glT gs) Tb.fns Cs (k - 1)) [] qFh [some (.cell n),some (N m),some (.tup [St "row",NL P,NL U]),some (N 3)] M1=.ok (.rt (.tup [St "row",NL L',NL U],false),M2):=by
   rw [qFh];simp [stE,-pe_str,lim,e2,qA8]
  rw [qAT (w1 (by decide)),qAT (w2 (by decide)),qAT (w3 (by decide)),qBQ e,qAA (k1.trans k2).len];rfl
 ·have lr:=qDN (n:=m) (by omega)
  refine ⟨.row "row" P (List.range m),false,M1,?_,k1,⟨by omega,by simp;omega,vP,fun x hx=>by have:=List.mem_range.mp hx;omega⟩,.inl rfl⟩
  rw [show Pp.t (.row "row" P (List.range m))=.tup [St "row",NL P,.lst ((List.range m).map N)] from rfl]
  generalize (List.range m).map N=its at *
  have e:px (glT gs) (Pk (glT gs) Tb.fns Cs (k - 1)) [] qH3 [some (.cell n),some (N m),some (.tup [St "row",NL P,NL U]),some (N 4)] M1=.ok (.rt (.tup [St "row",NL P,.lst its],false),M1):=by
   rw [qH3];simp [stE,-pe_str,lim,lr,qA8]
  rw [qAT (w1 (by decide)),qAT (w2 (by decide)),qAT (w3 (by decide)),qAT (w4 (by decide)),qBQ e,qAA k1.len]
end
end My
namespace My
open PySem PySem.Spec PI
open L2 (V)
noncomputable def Sm (t:T):Prop:=∃ d,(∀ M:Mem,qEJ M 2 t=some d)/\Fit d 2000
noncomputable def Im (t:T):Prop:=∃ d,(∀ M:Mem,qFT M t=some d)/\Fit d 130000
theorem qDY {f:Mem -> T -> Option PyData} {n:Nat}:∀ {ts:List T},(∀ t∈ts,∃ d,(∀ M:Mem,f M t=some d)/\Fit d n) -> ∃ ds,(∀ M:Mem,qBp (f M) ts=some ds)/\ds.length=ts.length/\∀ d∈ds,Fit d n
 | [],_=>⟨[],fun _=>rfl,rfl,fun d hd=>by simp at hd⟩
 | t::ts,h=>by
  obtain ⟨d,e1,f1⟩:=h t (by simp)
  obtain ⟨ds,e2,l2,f2⟩:=qDY (ts:=ts) fun t ht=>h t (by simp [ht])
  refine ⟨d::ds,fun M=>?_,by simp [l2],fun x hx=>?_⟩
  ·rw [qBp,e1 M,Option.bind_some,e2 M];rfl
  ·rcases List.mem_cons.mp hx with rfl | hx
   ·exact f1
   ·exact f2 x hx
theorem qKv {ts:List T} (h:∀ t∈ts,Sm t) (hl:ts.length<=62):Im (.lst ts):=by
 obtain ⟨ds,e,l,f⟩:=qDY (f:=fun M=>qEJ M 2) h
 exact ⟨.list ds,fun M=>by show (qBp (qEJ M 2) ts).map _=_;rw [e M];rfl,qJB f (by omega)⟩
theorem qNi {ts:List T} (h:∀ t∈ts,Sm t) (hl:ts.length<=62):Im (.tup ts):=by
 obtain ⟨ds,e,l,f⟩:=qDY (f:=fun M=>qEJ M 2) h
 exact ⟨.tuple ds,fun M=>by show (qBp (qEJ M 2) ts).map _=_;rw [e M];rfl,qGV f (by omega)⟩
theorem qEF {ts:List T} (h:∀ t∈ts,Im t) (hl:ts.length<=5):Shw (.tup ts):=by
 obtain ⟨ds,e,l,f⟩:=qDY (f:=qFT) h
 exact qF2 (d:=.tuple ds) (n:=700000) (fun M=>by show (qBp (qFT M) ts).map _=_;rw [e M];rfl) (qGV f (by omega)) (by decide)
theorem qOH {x:Nat} (h:x<=100):Sm (N x):=⟨.int x,fun _=>rfl,qLp (My.small (by omega))⟩
theorem qPB {x:Nat} (h:x<=100):Im (N x):=⟨.int x,fun _=>rfl,by have:=qLp (x:=x) (My.small (by omega));exact ⟨this.1,Nat.le_trans this.2 (by decide)⟩⟩
theorem qIK:Sm (.v .non):=⟨.none,fun _=>rfl,rfl,by decide⟩
theorem qIp:Im (.v .non):=⟨.none,fun _=>rfl,rfl,by decide⟩
theorem qOc (b:Bool):Sm (.v (.bl b)):=⟨.bool b,fun _=>rfl,rfl,by cases b<;>decide⟩
theorem qOd (b:Bool):Im (.v (.bl b)):=⟨.bool b,fun _=>rfl,rfl,by cases b<;>decide⟩
theorem qBa:Im (St "row"):=⟨.str "row",fun _=>rfl,rfl,by decide +kernel⟩
theorem qCR:Im (St "ones"):=⟨.str "ones",fun _=>rfl,rfl,by decide +kernel⟩
theorem qK2:Im (St "Row"):=⟨.str "Row",fun _=>rfl,rfl,by decide +kernel⟩
theorem qNP:Im (St ""):=⟨.str "",fun _=>rfl,rfl,by decide +kernel⟩
theorem qOr:Im (St "1"):=⟨.str "1",fun _=>rfl,rfl,by decide +kernel⟩
theorem sms {L:List Nat} (hv:∀ x∈L,x<=100):∀ t∈L.map N,Sm t:=fun t ht=>by
 obtain ⟨x,hx,rfl⟩:=List.mem_map.mp ht;exact qOH (hv x hx)
theorem qDd {L:List Nat} (hl:L.length<=62) (hv:∀ x∈L,x<=100):Im (NL L):=qKv (sms hv) (by simpa using hl)
section
variable {k:Nat}
theorem is_ (hk:1<=k) {s w b:Nat} {t:T} {d:Bool} (h:∀ M:Mem,Pk (glT gs) Tb.fns Cs (k - 1) 15 [N s,N w,N b,t] M=.ok (bT d,M)) (sh:Shw t) (M:Mem):Pk (glT gs) Tb.fns Cs k 34 [N s,N w,N b,t,.v (.bl d)] M=.ok (bT true,M):=by
 obtain ⟨x,hx⟩:=sh
 rw [qAE t34 ⟨rfl,by decide⟩ (by omega),b34,show Cs.getD 34 []=[] from rfl]
 have body:∀ (i:Nat) (o7:Option T),pxs (glT gs) (Pk (glT gs) Tb.fns Cs (k - 1)) [] qHo [some (N s),some (N w),some (N b),some t,some (.v (.bl d)),some (St x),some (N i),o7] M=.ok (.nx [some (N s),some (N w),some (N b),some t,some (.v (.bl d)),some (St x),some (N i),some (.v (.bl d))],M):=fun i o7=>by
  have ne:∀ {M:Mem},qAp M .ne (St x) (St x)=some false:=fun {M}=>by rw [qEA];simp
  rw [qHo]
  simp [h,bT,qAx,qNC,hx,ne]
 have rg:=qAe (n:=2) (by decide)
 have lp:qAj [] (.name 6) (pxs (glT gs) (Pk (glT gs) Tb.fns Cs (k - 1)) [] qHo) ((List.range 2).map N) [some (N s),some (N w),some (N b),some t,some (.v (.bl d)),some (St x),none,none] M=.ok (.nx [some (N s),some (N w),some (N b),some t,some (.v (.bl d)),some (St x),some (N 1),some (.v (.bl d))],M):=by
  rw [show (List.range 2).map N=[N 0,N 1] from rfl,qAV]
  rw [show ∀ a b c d e f g h z:Option T,[a,b,c,d,e,f,g,h].set 6 z=[a,b,c,d,e,f,z,h] from fun _ _ _ _ _ _ _ _ _=>rfl,body,PR.bind_ok]
  dsimp only
  rw [qAV,show ∀ a b c d e f g h z:Option T,[a,b,c,d,e,f,g,h].set 6 z=[a,b,c,d,e,f,z,h] from fun _ _ _ _ _ _ _ _ _=>rfl,body,PR.bind_ok]
  rfl
 generalize (List.range 2).map N=its at *
 simp [hx,rg,lp,qAA]
theorem lgL (hk:2<=k) {s:Nat} (hs:s<=5) {M:Mem}:∀ (its:List Nat) (r:List Nat) (o2 o3:Option T),stp s 0 r=true -> r.length + its.length<=50 -> (∀ x∈0::r,x < 2 ^ s) -> ∃ r' p2 p3,
  qAj [] (.name 2) (pxs (glT gs) (Pk (glT gs) Tb.fns Cs k) [] qHp) (its.map N) [some (N s),some (NL (0::r)),o2,o3] M=.ok (.nx [some (N s),some (NL (0::r')),p2,p3],M)/\stp s 0 r'=true/\r'.length<=r.length + its.length/\∀ x∈0::r',x < 2 ^ s
 | [],r,o2,o3,h,hl,hx=>⟨r,o2,o3,rfl,h,by simp,hx⟩
 | i::its,r,o2,o3,h,hl,hx=>by
  simp at hl
  have n5:=p5 hs
  obtain ⟨l,hlast⟩:∃ l,(0::r).getLast?=some l:=⟨_,List.getLast?_eq_some_getLast (by simp)⟩
  have il:=qBA (M:=M) hlast
  have rg:=qAe (n:=2 ^ s) (by omega)
  have ln:=qKJ hs
  have c:=qCa (c:=pec (glT gs) (Pk (glT gs) Tb.fns Cs k) (.cons (.cmp .isnot (.call 27 (.cons (.var 2) (.cons (.idx (.var 1) (.neg (nE 1))) (.cons (.var 0) .nil)))) (.cst V.non)) .nil)) (e:=pe (glT gs) (Pk (glT gs) Tb.fns Cs k) (.var 0)) (M:=M) (σ:=[some (NL (0::r)),some (N s)]) (o:=none) (its:=List.range (2 ^ s)) (fun x=>(kL s l x).isSome) (fun x=>x) (by simp [lim];omega) (fun x _=>by
   have e27:=f27 (k:=k) (by omega) hs l x M
   have is:=qEq (M:=M) (kL s l x)
   generalize oK (kL s l x)=ok at *
   generalize NL (0::r)=tp at *
   simp [il,e27,is]) (fun x _ _=>by simp)
  rw [List.map_id'] at c
  have hS:∀ x∈(List.range (2 ^ s)).filter (fun x=>(kL s l x).isSome),x < 2 ^ s/\(kL s l x).isSome=true:=fun x hx=>⟨List.mem_range.mp (List.mem_filter.mp hx).1,(List.mem_filter.mp hx).2⟩
  generalize (List.range (2 ^ s)).filter (fun x=>(kL s l x).isSome)=S at *
  have y1:lT (qBn (S.map N) none (some (1:Int)))=(NL (S.take 1),true):=by
   cases S with
   | nil=>rfl
   | cons a b=>rw [show (1:Int)=((1:Nat):Int) from rfl,qBR (by simp),<- List.map_take,qGb]
  have ad:∀ {M:Mem},qAd M .add (NL (0::r)) (NL (S.take 1))=some (NL (0::(r++S.take 1)),true):=fun {M}=>qEI (by simp [lim];omega)
  have st2:stp s 0 (r++S.take 1)=true/\(r++S.take 1).length<=r.length + 1/\∀ x∈0::(r++S.take 1),x < 2 ^ s:=by
   cases S with
   | nil=>rw [List.take_nil,List.append_nil];exact ⟨h,by omega,hx⟩
   | cons a S'=>
    obtain ⟨q1,q2⟩:=hS a (by simp)
    refine ⟨qEZ q1 q2 r 0 h hlast,by simp,fun x hx'=>?_⟩
    rcases List.mem_append.mp (show x∈(0::r)++[a] from hx') with z | z
    ·exact hx x z
    ·rw [List.mem_singleton.mp z];exact q1
  obtain ⟨t1,t2,t3⟩:=st2
  obtain ⟨r',q2,q3,e,s1,l1,x1⟩:=lgL hk hs (M:=M) its (r++S.take 1) (some (N i)) (some (NL S)) t1 (by omega) t3
  refine ⟨r',q2,q3,?_,s1,by simp;omega,x1⟩
  have body:pxs (glT gs) (Pk (glT gs) Tb.fns Cs k) [] qHp [some (N s),some (NL (0::r)),some (N i),o3] M=.ok (.nx [some (N s),some (NL (0::(r++S.take 1))),some (N i),some (NL S)],M):=by
   clear e t1 t2 t3
   generalize NL (0::(r++S.take 1))=tq at *
   generalize NL (S.take 1)=t1 at *
   generalize NL (0::r)=tp at *
   have it:∀ {M:Mem},T.its M (NL S)=some (S.map N):=fun {M}=>rfl
   generalize S.map N=SN at *
   rw [qHp]
   simp [lim,ln,rg,c,-qAg,it,-qJh,y1,ad]
  rw [List.map_cons,qAV,show ∀ a b c d z:Option T,[a,b,c,d].set 2 z=[a,b,z,d] from fun _ _ _ _ _=>rfl,body,PR.bind_ok]
  exact e
theorem qOY (hk:5<=k) {s:Nat} (h1:1<=s) (hs:s<=5) {M:Mem} (hM:FlatM M):∃ r U fr,Pk (glT gs) Tb.fns Cs k 35 [N s] M=.ok ((.tup [St "row",NL (0::r),NL U],fr),M)/\stp s 0 r=true/\r.length<=15/\tL s (List.range (2 ^ s)) (0::r)=some U/\∀ x∈0::r,x < 2 ^ s:=by
 have n5:=p5 hs
 have np:0 < 2 ^ s:=Nat.pow_pos (by decide)
 obtain ⟨r,p2,p3,e,s1,l1,x1⟩:=lgL (k:=k - 1) (by omega) hs (M:=M) (List.range 15) [] none none rfl (by simp) (fun x hx=>by simp at hx;omega)
 simp at l1
 obtain ⟨U,hU⟩:=Option.isSome_iff_exists.mp ((qB6 hs (t:=List.range (2 ^ s)) r 0 np).mp s1).2
 have et:=thr (k:=k - 1) (by omega) h1 hs hM (IsL.nl M (0::r)) x1 ⟨by simp,by simp;omega⟩ hU
 refine ⟨r,U,false,?_,s1,l1,hU,x1⟩
 rw [qAE t35 ⟨rfl,by decide⟩ (by omega),b35,show Cs.getD 35 []=[] from rfl]
 have rg:=qAe (n:=15) (by decide)
 have l0:T.lst [N 0]=NL [0]:=rfl
 have nf:(NL (0::r)).lf=false:=qA8 _
 generalize (List.range 15).map N=its at *
 generalize NL (0::r)=tp at *
 simp [lim,l0,rg,e,stE,-pe_str,et,nf,qAA]
theorem qKp {s w:Nat} {r U:List Nat} (hx:∀ x∈w::r,x < 2 ^ s) (hU:tL s (List.range (2 ^ s)) (w::r)=some U) {b:Nat} (hb:(w::r).getLast?=some b):rok s w b (w::r) U=true:=by
 unfold rok
 rw [hb,hU,List.all_eq_true.mpr fun x h=>decide_eq_true (hx x h)]
 simp
inductive qHs (n:Nat):T -> Prop
 | oth (t:T):Kh t -> hf "row" 3 t=false -> hf "ones" 2 t=false -> qHs n t
 | on (a:T):Kn a -> isI a=false -> qHs n (.tup [St "ones",a])
 | r1 (a b:T):Th a -> lb (n:Int) a=false -> qHs n (.tup [St "row",a,b])
 | r2 (L:List Nat) (b:T):L.length<=100 -> (∀ x∈L,x < n) -> Th b -> lb (n:Int) b=false -> qHs n (.tup [St "row",NL L,b])
 | r3 (U:List Nat):U.length<=100 -> qHs n (.tup [St "row",NL [],NL U])
theorem qLV (hk:8<=k) {s w b:Nat} (h1:1<=s) (hs:s<=5) (hw:w < 2 ^ s) (hb:b < 2 ^ s) {t:T} (h:qHs (2 ^ s) t) (M:Mem):Pk (glT gs) Tb.fns Cs k 15 [N s,N w,N b,t] M=.ok (bT false,M):=by
 have e4:=f4 (k:=k - 1 - 1) (by omega) hs M
 have qr:∀ (a c:T),Pk (glT gs) Tb.fns Cs (k - 1) 3 [.tup [St "row",a,c],St "row",N 3] M=.ok (bT true,M):=fun a c=>by
  rw [qGt (k:=k - 1) (by omega) (.cons (St "row") [a,c] (kSt _)) "row" (m:=3) (by decide) M]
  simp [hf]
 cases h with
 | oth _ kh g1 g2=>
  have q5:=qGt (k:=k - 1) (by omega) kh "row" (m:=3) (by decide) M
  have q6:=qGt (k:=k - 1) (by omega) kh "ones" (m:=2) (by decide) M
  rw [g1] at q5;rw [g2] at q6
  exact qKq hk h1 hs hw hb (d:=false) q5 q6 fun z=>(by cases z)
 | on a ka hi=>
  have q5:=qGt (k:=k - 1) (by omega) (.cons (St "ones") [a] (kSt _)) "row" (m:=3) (by decide) M
  have q6:=qGt (k:=k - 1) (by omega) (.cons (St "ones") [a] (kSt _)) "ones" (m:=2) (by decide) M
  rw [show hf "ones" 2 (.tup [St "ones",a])=true by simp [hf]] at q6
  refine qKq hk h1 hs hw hb (d:=false) q5 q6 fun _=>⟨_,_,rfl,?_⟩
  rw [qAE t18 ⟨rfl,by decide⟩ (by omega),b18,show Cs.getD 18 []=[] from rfl]
  have e0:=w0 (k:=k - 1 - 1) (by omega) ka M
  rw [hi] at e0
  simp [e0,qAA]
 | r1 a c ta hl=>
  refine qMG hk h1 hs hw hb (qr _ _) ?_
  rw [qAE t16 ⟨rfl,by decide⟩ (by omega),b16,show Cs.getD 16 []=[] from rfl]
  have e2:=lbT (k:=k - 1 - 1) (by omega) ta (2 ^ s) M
  rw [hl] at e2
  simp [e4,e2,qAA]
 | r2 L c ll hL tc hl=>
  refine qMG hk h1 hs hw hb (qr _ _) ?_
  rw [qAE t16 ⟨rfl,by decide⟩ (by omega),b16,show Cs.getD 16 []=[] from rfl]
  have e2:=lbT (k:=k - 1 - 1) (by omega) (thN L (by omega)) (2 ^ s) M
  rw [qN2,List.all_eq_true.mpr fun x h=>decide_eq_true (hL x h)] at e2
  have e2':=lbT (k:=k - 1 - 1) (by omega) tc (2 ^ s) M
  rw [hl] at e2'
  simp [e4,e2,e2',qAA]
 | r3 U hU=>
  refine qMG hk h1 hs hw hb (qr _ _) ?_
  have:=qOI (k:=k - 1) (by omega) h1 hs (w:=w) (b:=b) (M:=M) (P:=[]) (U:=U) (by simp) hU
  rw [show rok s w b [] U=false by simp [rok]] at this
  exact this
end
end My
namespace My
open PySem PySem.Spec PI
open L2 (V)
theorem qO6:∀ s,s < 6 -> ∀ a,a < 2 ^ s -> ∀ b,b < 2 ^ s -> (match tP s a b with | some st=>decide (st.getD 0 0=0) | none=>true)=true:=by decide +kernel
theorem qFz {s:Nat} (hs:s<=5):∀ (P:List Nat) {U:List Nat},(∀ x∈P,x < 2 ^ s) -> tL s (List.range (2 ^ s)) P=some U -> U.getD 0 0=0
 | [],U,_,h=>by unfold tL at h;cases h;rw [List.getD_eq_getElem?_getD,List.getElem?_range (Nat.pow_pos (by decide))];rfl
 | [p],U,_,h=>by unfold tL at h;cases h;rw [List.getD_eq_getElem?_getD,List.getElem?_range (Nat.pow_pos (by decide))];rfl
 | p::q::P,U,hx,h=>by
  obtain ⟨W,st,hW,hst,rfl⟩:=qDc h
  have ih:=qFz hs (q::P) (fun x h=>hx x (by simp [h])) hW
  have lW:=qGH _ hW
  have np:0 < 2 ^ s:=Nat.pow_pos (by decide)
  have z:=qO6 s (by omega) p (hx p (by simp)) q (hx q (by simp))
  rw [hst] at z
  rw [qHu (by omega),ih]
  exact of_decide_eq_true z
noncomputable def gB (x:Nat):T:=if x < 2 then .v (.bl (decide (x=1))) else N x
theorem qKS (x:Nat):Kn (gB x):=by unfold gB;split;exact ⟨"bool",fun _=>rfl⟩;exact kN x
theorem qKy {x:Nat} (h:x<=100):Sm (gB x):=by unfold gB;split;exact qOc _;exact qOH h
theorem qIB {x:Nat} (h:x < 2) (e:Int):blw e (gB x)=false:=by unfold gB;rw [if_pos h];rfl
noncomputable def tl5 (w:Nat):List T:=(List.replicate (decide (1 < w)).toNat [T.v .non]).flatten
theorem qEK {w:Nat}:∀ t∈tl5 w,t=.v .non:=fun t ht=>by
 unfold tl5 at ht
 obtain ⟨l,hl,h⟩:=List.mem_flatten.mp ht
 rw [List.eq_of_mem_replicate hl] at h
 simpa using h
theorem qGY (w:Nat):(tl5 w).length<=1:=by unfold tl5;cases decide (1 < w)<;>simp
noncomputable def od1:List T:=[.v .non,.v (.bl true),.lst [],St "row",.tup [],.tup [St "row"],.tup [St "ones"],.tup [St "ones",.v (.bl true)],.tup [St "ones",.v .non],.tup [St "ones",St "1"]]
noncomputable def od2 (P U:List Nat):List T:=[.tup [St "row",.tup (P.map N),NL U],.tup [St "row",NL P,.tup (U.map N)],.tup [St "row",.v .non,NL U]]
noncomputable def od3 (P U:List Nat):List T:=[.tup [St "row",.lst [],NL U],.tup [St "row",.lst (P.map N++[.v .non]),NL U]]
noncomputable def od4 (P U:List Nat):T:=.tup [St "row",NL P,.lst (U.map gB)]
noncomputable def od5 (w:Nat) (P U:List Nat):T:=.tup [St "row",.lst (P.map gB++tl5 w),NL U]
structure Od (n:Nat) (t:T):Prop where
 bad:qHs n t
 sh:Shw t
 un:t.und 0=true
theorem qHJ {n:Int} {ts:List T} {o:T} (h:o∈ts) (hb:blw n o=false):lb n (.lst ts)=false:=List.all_eq_false.mpr ⟨o,h,by rw [hb];decide⟩
theorem qDa {n:Nat}:∀ {ts:List T},(∀ t∈ts,t.und n=true) -> T.unds n ts=true
 | [],_=>by unfold T.unds;rfl
 | t::ts,h=>by
  unfold T.unds
  rw [h t (by simp),qDa fun x hx=>h x (by simp [hx])];rfl
theorem qGd {ts:List T} (h:∀ t∈ts,t.und 0=true):(T.lst ts).und 0=true:=by unfold T.und;exact qDa h
theorem qB5 {ts:List T} (h:∀ t∈ts,t.und 0=true):(T.tup ts).und 0=true:=by unfold T.und;exact qDa h
theorem qAy (x:V):(T.v x).und 0=true:=by rw [T.und]
theorem qCX (L:List Nat):(NL L).und 0=true:=by unfold NL T.und;exact qD8 0 L
theorem qIF (L:List Nat):(T.tup (L.map N)).und 0=true:=by rw [T.und];exact qD8 0 L
theorem qIf (x:Nat):(gB x).und 0=true:=by unfold gB;split;exact qAy _;exact qFb 0 x
theorem qDm {p:T -> Prop} {a b c:T} (h1:p a) (h2:p b) (h3:p c):∀ t∈[a,b,c],p t:=fun t ht=>by
 simp at ht;rcases ht with rfl | rfl | rfl<;>assumption
theorem qIU {p:T -> Prop} {a b:T} (h1:p a) (h2:p b):∀ t∈[a,b],p t:=fun t ht=>by
 simp at ht;rcases ht with rfl | rfl<;>assumption
theorem qKB {p:T -> Prop} {a:T} (h1:p a):∀ t∈[a],p t:=fun t ht=>by rw [List.mem_singleton.mp ht];exact h1
theorem qKX {p:T -> Prop}:∀ t∈([]:List T),p t:=fun t ht=>by cases ht
theorem qDG {n:Nat} {t:T} {ty:String} (h:∀ M:Mem,qAX M t=some ty) (hn:ty≠"tuple"):qHs n t:=.oth t (.oth t ty h hn) (qG6 h hn _ _) (qG6 h hn _ _)
theorem qGR {n:Nat} {ts:List T} (hk:Kh (.tup ts)) (h2:ts.length≠2) (h3:ts.length≠3):qHs n (.tup ts):=by
 refine .oth _ hk ?_ ?_
 ·show (decide (ts.length=3)&&_)=false
  rw [decide_eq_false h3];rfl
 ·show (decide (ts.length=2)&&_)=false
  rw [decide_eq_false h2];rfl
theorem qNV {x:V} {d:PyData} (h:qHM x=some d) (f:Fit d 130000):Shw (.v x):=qF2 (d:=d) (n:=130000) (fun M=>h) f (by decide)
theorem qLI {n:Nat}:∀ t∈od1,Od n t:=by
 intro t ht
 simp only [od1,List.mem_cons,List.not_mem_nil,or_false] at ht
 rcases ht with rfl | rfl | rfl | rfl | rfl | rfl | rfl | rfl | rfl | rfl
 ·exact ⟨qDG (ty:="NoneType") (fun _=>rfl) (by decide),qNV (d:=.none) rfl ⟨rfl,by decide⟩,qAy _⟩
 ·exact ⟨qDG (ty:="bool") (fun _=>rfl) (by decide),qNV (d:=.bool true) rfl ⟨rfl,by decide⟩,qAy _⟩
 ·exact ⟨qDG (ty:="list") (fun _=>rfl) (by decide),qF2 (d:=.list []) (n:=3) (fun M=>rfl) ⟨rfl,by decide +kernel⟩ (by decide),qGd qKX⟩
 ·exact ⟨qDG (ty:="str") (fun _=>rfl) (by decide),qNV (d:=.str "row") rfl ⟨rfl,by decide +kernel⟩,qAy _⟩
 ·exact ⟨qGR .nil (by decide) (by decide),qEF qKX (by simp),qB5 qKX⟩
 ·exact ⟨qGR (.cons _ _ (kSt _)) (by simp) (by simp),qEF (qKB qBa) (by simp),qB5 (qKB (qAy _))⟩
 ·exact ⟨qGR (.cons _ _ (kSt _)) (by simp) (by simp),qEF (qKB qCR) (by simp),qB5 (qKB (qAy _))⟩
 ·exact ⟨.on _ ⟨"bool",fun _=>rfl⟩ rfl,qEF (qIU qCR (qOd _)) (by simp),qB5 (qIU (qAy _) (qAy _))⟩
 ·exact ⟨.on _ ⟨"NoneType",fun _=>rfl⟩ rfl,qEF (qIU qCR qIp) (by simp),qB5 (qIU (qAy _) (qAy _))⟩
 ·exact ⟨.on _ ⟨"str",fun _=>rfl⟩ rfl,qEF (qIU qCR qOr) (by simp),qB5 (qIU (qAy _) (qAy _))⟩
section
variable {n:Nat} {P U:List Nat} (hP:P.length<=40) (hU:U.length<=40) (vP:∀ x∈P,x < n) (vU:∀ x∈U,x < n) (hn:n<=32)
include hP hU vP vU hn
theorem qKt:∀ t∈od2 P U,Od n t:=by
 have wP:∀ x∈P,x<=100:=fun x h=>by have:=vP x h;omega
 have wU:∀ x∈U,x<=100:=fun x h=>by have:=vU x h;omega
 have iP:=qDd (L:=P) (by omega) wP
 have iU:=qDd (L:=U) (by omega) wU
 refine qDm ⟨.r1 _ _ (.oth _ "tuple" (fun _=>rfl) (by decide)) rfl,qEF (qDm qBa (qNi (sms wP) (by simp;omega)) iU) (by simp),qB5 (qDm (qAy _) (qIF P) (qCX U))⟩
  ⟨.r2 P _ (by omega) vP (.oth _ "tuple" (fun _=>rfl) (by decide)) rfl,qEF (qDm qBa iP (qNi (sms wU) (by simp;omega))) (by simp),qB5 (qDm (qAy _) (qCX P) (qIF U))⟩
  ⟨.r1 _ _ (.oth _ "NoneType" (fun _=>rfl) (by decide)) rfl,qEF (qDm qBa qIp iU) (by simp),qB5 (qDm (qAy _) (qAy _) (qCX U))⟩
theorem qLo:∀ t∈od3 P U,Od n t:=by
 have wP:∀ x∈P,x<=100:=fun x h=>by have:=vP x h;omega
 have wU:∀ x∈U,x<=100:=fun x h=>by have:=vU x h;omega
 have iU:=qDd (L:=U) (by omega) wU
 refine qIU ⟨.r3 U (by omega),qEF (qDm qBa (qKv qKX (by simp)) iU) (by simp),qB5 (qDm (qAy _) (qGd qKX) (qCX U))⟩
  ⟨.r1 _ _ (.lst _ (fun t h=>?_) (by simp;omega)) (qHJ (o:=.v .non) (by simp) rfl),qEF (qDm qBa (qKv (fun t h=>?_) (by simp;omega)) iU) (by simp),qB5 (qDm (qAy _) (qGd fun t h=>?_) (qCX U))⟩
 ·rcases List.mem_append.mp h with h | h
  ·obtain ⟨x,_,rfl⟩:=List.mem_map.mp h;exact kN x
  ·rw [List.mem_singleton.mp h];exact ⟨"NoneType",fun _=>rfl⟩
 ·rcases List.mem_append.mp h with h | h
  ·exact sms wP t h
  ·rw [List.mem_singleton.mp h];exact qIK
 ·rcases List.mem_append.mp h with h | h
  ·obtain ⟨x,_,rfl⟩:=List.mem_map.mp h;exact qFb 0 x
  ·rw [List.mem_singleton.mp h];exact qAy _
theorem qKl (h0:0∈U):Od n (od4 P U):=by
 have wP:∀ x∈P,x<=100:=fun x h=>by have:=vP x h;omega
 have wU:∀ x∈U,x<=100:=fun x h=>by have:=vU x h;omega
 have iP:=qDd (L:=P) (by omega) wP
 refine ⟨.r2 P _ (by omega) vP (.lst _ (fun t h=>?_) (by simp;omega)) (qHJ (o:=gB 0) (List.mem_map_of_mem h0) (qIB (by decide) _)),qEF (qDm qBa iP (qKv (fun t h=>?_) (by simp;omega))) (by simp),qB5 (qDm (qAy _) (qCX P) (qGd fun t h=>?_))⟩
 ·obtain ⟨x,_,rfl⟩:=List.mem_map.mp h;exact qKS x
 ·obtain ⟨x,hx,rfl⟩:=List.mem_map.mp h;exact qKy (wU x hx)
 ·obtain ⟨x,hx,rfl⟩:=List.mem_map.mp h;exact qIf x
theorem qL4 {w:Nat} (h0:w∈P):Od n (od5 w P U):=by
 have wP:∀ x∈P,x<=100:=fun x h=>by have:=vP x h;omega
 have wU:∀ x∈U,x<=100:=fun x h=>by have:=vU x h;omega
 have iU:=qDd (L:=U) (by omega) wU
 have l5:=qGY w
 obtain ⟨o,ho,hb⟩:∃ o∈P.map gB++tl5 w,blw (n:Int) o=false:=by
  by_cases q:1 < w
  ·exact ⟨.v .non,List.mem_append_right _ (by unfold tl5;rw [decide_eq_true q];simp),rfl⟩
  ·exact ⟨gB w,List.mem_append_left _ (List.mem_map_of_mem h0),qIB (by omega) _⟩
 refine ⟨.r1 _ _ (.lst _ (fun t h=>?_) (by simp;omega)) (qHJ ho hb),qEF (qDm qBa (qKv (fun t h=>?_) (by simp;omega)) iU) (by simp),qB5 (qDm (qAy _) (qGd fun t h=>?_) (qCX U))⟩
 ·rcases List.mem_append.mp h with h | h
  ·obtain ⟨x,_,rfl⟩:=List.mem_map.mp h;exact qKS x
  ·rw [qEK t h];exact ⟨"NoneType",fun _=>rfl⟩
 ·rcases List.mem_append.mp h with h | h
  ·obtain ⟨x,hx,rfl⟩:=List.mem_map.mp h;exact qKy (wP x hx)
  ·rw [qEK t h];exact qIK
 ·rcases List.mem_append.mp h with h | h
  ·obtain ⟨x,hx,rfl⟩:=List.mem_map.mp h;exact qIf x
  ·rw [qEK t h];exact qAy _
end
theorem qNk {x:PySem.Str} (h:Wd x):Im (St x):=by
 rcases h with rfl | rfl | rfl | rfl
 ·exact qBa
 ·exact qCR
 ·exact qK2
 ·exact qNP
theorem qN1:∀ {p:Pp},Fine p -> Shw p.t
 | .row x P U,h=>qEF (qDm (qNk h.2) (qDd (by have:=h.1.1;omega) h.1.2.2.1) (qDd (by have:=h.1.2.1;omega) h.1.2.2.2)) (by simp)
 | .row4 P U,h=>qEF (fun t ht=>by
   have iP:=qDd (L:=P) (by have:=h.1;omega) h.2.2.1
   have iU:=qDd (L:=U) (by have:=h.2.1;omega) h.2.2.2
   rcases List.mem_cons.mp ht with rfl | ht
   ·exact qBa
   ·exact qDm iP iU iP t ht) (by simp)
 | .ones x m,h=>qEF (qIU (qNk h.2) (qPB h.1)) (by simp)
end My
namespace My
open PySem PySem.Spec PI
open L2 (V)
noncomputable def qJW:S:=(.asg (.name 4) (.call 24 (.cons (.var 0) (.cons (.var 3) .nil))))
noncomputable def qJs:S:=(.asg (.name 1) (.bin .add (nE 1) (.call 25 (.cons (.var 4) (.cons (nE 5) .nil)))))
noncomputable def qJi:S:=(.asg (.name 5) (.idx (.lst (.cons (nE 1) (.cons (nE 2) (.cons (nE 4) (.cons (nE 8) (.cons (nE 16) (.cons (nE 32) .nil))))))) (.var 1)))
noncomputable def qJ1:S:=(.asg (.name 6) (.call 25 (.cons (.var 4) (.cons (.var 5) .nil))))
noncomputable def qJz:S:=(.asg (.name 7) (.call 31 (.cons (.var 4) (.cons (.var 1) (.cons (.var 6) .nil)))))
noncomputable def qJo:S:=(.asg (.name 8) (.idx (.lst (.cons (.idx (.idx (.var 7) (nE 1)) (.neg (nE 1))) (.cons (.call 25 (.cons (.var 4) (.cons (.var 5) .nil))) .nil))) (.call 25 (.cons (.var 4) (.cons (nE 2) .nil)))))
noncomputable def qJd:S:=(.asg (.name 9) (.call 20 (.cons (.var 1) (.cons (.var 6) (.cons (.var 8) .nil)))))
noncomputable def qKA:S:=(.asg (.name 10) (.lst (.cons (.var 9) (.cons (.var 7) (.cons (.call 33 (.cons (.var 4) (.cons (.var 5) (.cons (.var 9) .nil)))) (.cons (.call 33 (.cons (.var 4) (.cons (.var 5) (.cons (.var 7) .nil)))) (.cons (.call 33 (.cons (.var 4) (.cons (.var 5) (.cons (.var 7) .nil)))) .nil)))))))
noncomputable def qI9:S:=(.asg (.name 10) (.bin .add (.var 10) (.comp (.rng1 (.bin .add (.var 1) (nE 2))) [none] (.name 0) .nil (.tup (.cons (.cst (V.str "ones")) (.cons (.var 0) .nil))))))
noncomputable def qJM:S:=(.for_ (.name 2) (.list (.var 10)) qGB)
noncomputable def qG7:S:=(.asg (.name 12) (.lst (.cons (.cst V.non) (.cons (.cst (V.bl true)) (.cons (.lst .nil) (.cons (.cst (V.str "row")) (.cons (.tup .nil) (.cons (.tup (.cons (.cst (V.str "row")) .nil)) (.cons (.tup (.cons (.cst (V.str "ones")) .nil)) (.cons (.tup (.cons (.cst (V.str "ones")) (.cons (.cst (V.bl true)) .nil))) (.cons (.tup (.cons (.cst (V.str "ones")) (.cons (.cst V.non) .nil))) (.cons (.tup (.cons (.cst (V.str "ones")) (.cons (.cst (V.str "1")) .nil))) .nil))))))))))))
noncomputable def qGP:S:=(.asg (.name 12) (.bin .add (.var 12) (.lst (.cons (.tup (.cons (.cst (V.str "row")) (.cons (.blt .tuple (.cons (.idx (.var 7) (nE 1)) .nil)) (.cons (.idx (.var 7) (nE 2)) .nil)))) (.cons (.tup (.cons (.cst (V.str "row")) (.cons (.idx (.var 7) (nE 1)) (.cons (.blt .tuple (.cons (.idx (.var 7) (nE 2)) .nil)) .nil)))) (.cons (.tup (.cons (.cst (V.str "row")) (.cons (.cst V.non) (.cons (.idx (.var 7) (nE 2)) .nil)))) .nil))))))
noncomputable def qF7:S:=(.asg (.name 12) (.bin .add (.var 12) (.lst (.cons (.tup (.cons (.cst (V.str "row")) (.cons (.lst .nil) (.cons (.idx (.var 7) (nE 2)) .nil)))) (.cons (.tup (.cons (.cst (V.str "row")) (.cons (.bin .add (.idx (.var 7) (nE 1)) (.lst (.cons (.cst V.non) .nil))) (.cons (.idx (.var 7) (nE 2)) .nil)))) .nil)))))
noncomputable def qG5:S:=(.expr (.app (.var 12) (.tup (.cons (.cst (V.str "row")) (.cons (.idx (.var 7) (nE 1)) (.cons (.comp (.list (.idx (.var 7) (nE 2))) [none] (.name 0) .nil (.idx (.lst (.cons (.var 0) (.cons (.cmp .eq (.var 0) (nE 1)) .nil))) (.blt .int (.cons (.cmp .lt (.var 0) (nE 2)) .nil)))) .nil))))))
noncomputable def qGm:S:=(.asg (.name 13) (.comp (.list (.idx (.var 7) (nE 1))) [none] (.name 0) .nil (.idx (.lst (.cons (.var 0) (.cons (.cmp .eq (.var 0) (nE 1)) .nil))) (.blt .int (.cons (.cmp .lt (.var 0) (nE 2)) .nil)))))
noncomputable def qGo:S:=(.expr (.app (.var 12) (.tup (.cons (.cst (V.str "row")) (.cons (.bin .add (.var 13) (.bin .mul (.lst (.cons (.cst V.non) .nil)) (.blt .int (.cons (.cmp .gt (.var 6) (nE 1)) .nil)))) (.cons (.idx (.var 7) (nE 2)) .nil))))))
noncomputable def qGu:S:=(.ifs (.not (.call 34 (.cons (.var 1) (.cons (.var 6) (.cons (.idx (.idx (.var 7) (nE 1)) (.neg (nE 1))) (.cons (.idx (.var 12) (.call 25 (.cons (.var 4) (.cons (nE 17) .nil)))) (.cons (.cst (V.bl false)) .nil))))))) (.cons (.ret (.cst (V.bl false))) .nil) .nil)
theorem qLH:qHX=(.cons qJW (.cons qJs (.cons qJi (.cons qJ1 (.cons qJz (.cons qJo (.cons qJd (.cons qKA (.cons qI9 (.cons qJM (.cons qG7 (.cons qGP (.cons qF7 (.cons qG5 (.cons qGm (.cons qGo (.cons qGu .nil))))))))))))))))):=rfl
theorem qI2 (a b:Nat) (c:Bool):T.unds 0 (stT a b c)=true:=by
 unfold stT
 simp [T.unds,qFb,T.und]
noncomputable def Own (p:Pp):Prop:=(∃ m,p=.ones "ones" m/\m<=100)\/∃ P U,p=.row "row" P U/\P.length<=40/\U.length<=40/\(∀ x∈P,x < 100)/\∀ x∈U,x < 100
theorem Own.fine {p:Pp} (h:Own p):Fine p:=by
 rcases h with ⟨m,rfl,h⟩ | ⟨P,U,rfl,h1,h2,h3,h4⟩
 ·exact ⟨h,.inr (.inl rfl)⟩
 ·exact ⟨⟨by omega,by omega,fun x hx=>Nat.le_of_lt (h3 x hx),fun x hx=>Nat.le_of_lt (h4 x hx)⟩,.inl rfl⟩
section
variable {k:Nat}
theorem qM7 (hk:3<=k) {M:Mem} {n m:Nat} (g:Good M n) (hm:m<=50) {p:Pp} (h:Own p):∃ q fr M',Pk (glT gs) Tb.fns Cs k 33 [.cell n,N m,p.t] M=.ok ((Pp.t q,fr),M')/\Kept n M M'/\Fine q:=by
 rcases h with ⟨j,rfl,h⟩ | ⟨P,U,rfl,h1,h2,h3,h4⟩
 ·exact qMr hk g h
 ·exact qMq hk g hm (by omega) (by omega) (fun x hx=>Nat.le_of_lt (h3 x hx)) (fun x hx=>Nat.le_of_lt (h4 x hx))
noncomputable def Pp.fl:Pp -> Bool
 | .row x _ _=>!decide (x="ones")
 | _=>true
theorem qMg {s w b:Nat} (p:Pp):(p.fl&&p.ok s w b)=p.ok s w b:=by
 cases p with
 | row x P U=>
  show (!decide (x="ones")&&(decide (x="row")&&rok s w b P U))=_
  by_cases h:x=("ones":PySem.Str)
  ·have:decide (x=("row":PySem.Str))=false:=by rw [h];rfl
   show _=(decide (x="row")&&rok s w b P U)
   rw [this];simp
  ·rw [decide_eq_false h];rfl
 | row4 P U=>rfl
 | ones x m=>rfl
section
variable {s w b:Nat} {o0 o3 o4 o5 o7 o9 o10 o12 o13:Option T} {M:Mem}
theorem qPJ (hk:10<=k) (h1:1<=s) (hs:s<=5) (hw:w < 2 ^ s) (hb:b < 2 ^ s) (hM:FlatM M) {p:Pp} (hp:Fine p) (o11:Option T):pxs (glT gs) (Pk (glT gs) Tb.fns Cs k) [4,1012] qGB [o0,some (N s),some p.t,o3,o4,o5,some (N w),o7,some (N b),o9,o10,o11,o12,o13] M=.ok (.nx [o0,some (N s),some p.t,o3,o4,o5,some (N w),o7,some (N b),o9,o10,some (.v (.bl p.fl)),o12,o13],M):=by
 have du:=qKb (k:=k) (by omega) h1 hs hw hb hp.fit hM
 have le:=is_ (k:=k) (by omega) (fun M=>qIb (k:=k - 1) (by omega) h1 hs hw hb hp.fit M) (qN1 hp) M
 have fo:=qMg (s:=s) (w:=w) (b:=b) p
 generalize p.ok s w b=d at *
 have e11:∀ {σ:TS},σ[2]?=some (some p.t) -> pe (glT gs) (Pk (glT gs) Tb.fns Cs k) (.or (.cmp .ne (.idx (.var 2) (nE 0)) (.cst (V.str "ones"))) (.and (.cmp .eq (.blt .len (.cons (.var 2) .nil)) (nE 2)) (.isi (.idx (.var 2) (nE 1)) ["int"]))) σ M=.ok (bT p.fl,M):=fun {σ} h=>by
  cases p with
  | row x P U=>
   have q:=fun {M:Mem}=>qEA (M:=M) x "ones"
   show _=PR.ok (bT (!decide (x="ones")),M)
   rw [show Pp.t (.row x P U)=.tup [St x,NL P,NL U] from rfl] at h
   generalize decide (x=("ones":PySem.Str))=d2 at *
   cases d2<;>simp [h,stE,-pe_str,q]
  | row4 P U=>
   have q:∀ {M:Mem},qAp M .ne (St "row") (St "ones")=some true:=fun {M}=>by rw [qEA];rfl
   rw [show Pp.t (.row4 P U)=.tup [St "row",NL P,NL U,NL P] from rfl] at h
   show _=PR.ok (bT true,M)
   simp [h,stE,-pe_str,q]
  | ones x m=>
   have q:=fun {M:Mem}=>qEA (M:=M) x "ones"
   rw [show Pp.t (.ones x m)=.tup [St x,N m] from rfl] at h
   show _=PR.ok (bT true,M)
   generalize decide (x=("ones":PySem.Str))=d2 at *
   cases d2<;>simp [h,stE,-pe_str,q,qAx]
 rw [qGB]
 generalize p.t=t at *
 have a11:∀ (o11:Option T),px (glT gs) (Pk (glT gs) Tb.fns Cs k) [4,1012] (.asg (.name 11) (.or (.cmp .ne (.idx (.var 2) (nE 0)) (.cst (V.str "ones"))) (.and (.cmp .eq (.blt .len (.cons (.var 2) .nil)) (nE 2)) (.isi (.idx (.var 2) (nE 1)) ["int"])))) [o0,some (N s),some t,o3,o4,o5,some (N w),o7,some (N b),o9,o10,o11,o12,o13] M=.ok (.nx [o0,some (N s),some t,o3,o4,o5,some (N w),o7,some (N b),o9,o10,some (.v (.bl p.fl)),o12,o13],M):=fun o11=>by
  rw [qJl,e11 rfl]
  simp [bT]
 rw [qAT (a11 o11)]
 cases hf:p.fl with
 | true=>simp [bT,du,le]
 | false=>
  rw [hf,Bool.false_and] at fo
  subst fo
  simp [bT,le]
theorem qNd (hk:10<=k) (h1:1<=s) (hs:s<=5) (hw:w < 2 ^ s) (hb:b < 2 ^ s) (hM:FlatM M):∀ (ps:List Pp) (o2 o11:Option T),(∀ p∈ps,Fine p) -> ∃ p2 p11,qAj [] (.name 2) (pxs (glT gs) (Pk (glT gs) Tb.fns Cs k) [4,1012] qGB) (ps.map Pp.t) [o0,some (N s),o2,o3,o4,o5,some (N w),o7,some (N b),o9,o10,o11,o12,o13] M=.ok (.nx [o0,some (N s),p2,o3,o4,o5,some (N w),o7,some (N b),o9,o10,p11,o12,o13],M)
 | [],o2,o11,_=>⟨o2,o11,rfl⟩
 | p::ps,o2,o11,h=>by
  obtain ⟨p2,p11,e⟩:=qNd hk h1 hs hw hb hM ps (some p.t) (some (.v (.bl p.fl))) fun q hq=>h q (by simp [hq])
  refine ⟨p2,p11,?_⟩
  rw [List.map_cons,qAV,show ∀ a b c d e f g h i j k l m n z:Option T,[a,b,c,d,e,f,g,h,i,j,k,l,m,n].set 2 z=[a,b,z,d,e,f,g,h,i,j,k,l,m,n] from fun _ _ _ _ _ _ _ _ _ _ _ _ _ _ _=>rfl,qPJ hk h1 hs hw hb hM (h p (by simp)) o11,PR.bind_ok]
  exact e
end
section
variable {s w b n:Nat} {P U:List Nat} {o0 o1 o2 o3 o4 o5 o6 o8 o9 o10 o11 o12 o13:Option T}
noncomputable abbrev rT (P U:List Nat):T:=.tup [St "row",NL P,NL U]
theorem s10 {M:Mem} {o7:Option T} {Q:Nat -> List T -> Mem -> PR (TB×Mem)}:px (glT gs) Q [4,1012] qG7 [o0,o1,o2,o3,o4,o5,o6,o7,o8,o9,o10,o11,o12,o13] M=.ok (.nx [o0,o1,o2,o3,o4,o5,o6,o7,o8,o9,o10,o11,some (.cell M.length),o13],M++[od1]):=by
 rw [qG7]
 simp [stE,-pe_str,lim,qIw,od1]
theorem qLN {Q:Nat -> List T -> Mem -> PR (TB×Mem)} {A:Mem} {o7:Option T} {xs ys:List T} {es:Es} {f:Bool} (h:pe (glT gs) Q (.lst es) [o0,o1,o2,o3,o4,o5,o6,o7,o8,o9,o10,o11,some (.cell A.length),o13] (A++[xs])=.ok ((.lst ys,f),A++[xs])) (hl:xs.length + ys.length<=1000):px (glT gs) Q [4,1012] (.asg (.name 12) (.bin .add (.var 12) (.lst es))) [o0,o1,o2,o3,o4,o5,o6,o7,o8,o9,o10,o11,some (.cell A.length),o13] (A++[xs])=.ok (.nx [o0,o1,o2,o3,o4,o5,o6,o7,o8,o9,o10,o11,some (.cell (A++[xs]).length),o13],A++[xs]++[xs++ys]):=by
 have ad:qAd (A++[xs]) .add (.cell A.length) (.lst ys)=some (lT (xs++ys)):=by
  have m1:T.mu (A++[xs]) (.cell A.length)=some xs:=by show (A++[xs])[A.length]?=_;simp
  show (T.mu (A++[xs]) (.cell A.length)).bind _=_
  rw [m1,Option.bind_some]
  show (if xs.length + ys.length<=lim then some (lT (xs++ys)) else none)=_
  rw [if_pos (by unfold lim;omega)]
 simp [h,-pe_lst,ad,qIw,lT]
theorem tpN {M:Mem} (L:List Nat):qBz M .tuple [NL L]=some (.tup (L.map N),T.lfs (L.map N)):=rfl
theorem s11 {Q:Nat -> List T -> Mem -> PR (TB×Mem)} {A:Mem} {xs:List T} (hl:xs.length + 3<=1000):px (glT gs) Q [4,1012] qGP [o0,o1,o2,o3,o4,o5,o6,some (rT P U),o8,o9,o10,o11,some (.cell A.length),o13] (A++[xs])=.ok (.nx [o0,o1,o2,o3,o4,o5,o6,some (rT P U),o8,o9,o10,o11,some (.cell (A++[xs]).length),o13],A++[xs]++[xs++od2 P U]):=by
 rw [qGP]
 refine qLN (f:=false) ?_ (by simpa [od2] using hl)
 simp [stE,-pe_str,lim,tpN,od2,qA8]
theorem s12 {Q:Nat -> List T -> Mem -> PR (TB×Mem)} {A:Mem} {xs:List T} (hP:P.length<=100) (hl:xs.length + 2<=1000):px (glT gs) Q [4,1012] qF7 [o0,o1,o2,o3,o4,o5,o6,some (rT P U),o8,o9,o10,o11,some (.cell A.length),o13] (A++[xs])=.ok (.nx [o0,o1,o2,o3,o4,o5,o6,some (rT P U),o8,o9,o10,o11,some (.cell (A++[xs]).length),o13],A++[xs]++[xs++od3 P U]):=by
 rw [qF7]
 have ad:∀ {M:Mem},qAd M .add (NL P) (.lst [.v .non])=some (lT (P.map N++[.v .non])):=fun {M}=>qDg (by simp [lim];omega)
 refine qLN (f:=false) ?_ (by simpa [od3] using hl)
 simp [stE,-pe_str,lim,ad,lT,od3,qA8]
theorem cG {Q:Nat -> List T -> Mem -> PR (TB×Mem)} {M:Mem} {L:List Nat} (hL:L.length<=100):qAm [] (.name 0) (pec (glT gs) Q .nil) (pe (glT gs) Q (.idx (.lst (.cons (.var 0) (.cons (.cmp .eq (.var 0) (nE 1)) .nil))) (.blt .int (.cons (.cmp .lt (.var 0) (nE 2)) .nil)))) (L.map N) [] true [none] M=.ok ((.lst (L.map gB),true),M):=by
 have c:=qCn (M:=M) (σ:=[]) (c:=pec (glT gs) Q .nil) (e:=pe (glT gs) Q (.idx (.lst (.cons (.var 0) (.cons (.cmp .eq (.var 0) (nE 1)) .nil))) (.blt .int (.cons (.cmp .lt (.var 0) (nE 2)) .nil)))) (fun _=>true) gB (fun _=>true) L [] true none (by simp [lim];omega) (fun x _=>by simp) (fun x _ _=>by
  unfold gB
  by_cases q:x < 2<;>simp [q,lim,bT])
 rw [qA3,List.nil_append,show (L.all fun _=>true)=true from List.all_eq_true.mpr fun _ _=>rfl] at c
 exact c
theorem apC {A:Mem} {xs:List T} (hl:xs.length < 1000) {x:T}:qIW (A++[xs]) A.length x=some (A++[xs++[x]]):=by
 rw [qHz (xs:=xs) (by simp) (by simp [lim];omega)];simp
theorem s13 {Q:Nat -> List T -> Mem -> PR (TB×Mem)} {A:Mem} {xs:List T} (hU:U.length<=100) (hl:xs.length < 1000):px (glT gs) Q [4,1012] qG5 [o0,o1,o2,o3,o4,o5,o6,some (rT P U),o8,o9,o10,o11,some (.cell A.length),o13] (A++[xs])=.ok (.nx [o0,o1,o2,o3,o4,o5,o6,some (rT P U),o8,o9,o10,o11,some (.cell A.length),o13],A++[xs++[od4 P U]]):=by
 have c:=cG (Q:=Q) (M:=A++[xs]) hU
 have ap:=fun {x:T}=>apC (A:=A) hl (x:=x)
 rw [qG5]
 simp [stE,-pe_str,c,-qCE,lim,ap,od4]
theorem s14 {Q:Nat -> List T -> Mem -> PR (TB×Mem)} {M:Mem} (hP:P.length<=100):px (glT gs) Q [4,1012] qGm [o0,o1,o2,o3,o4,o5,o6,some (rT P U),o8,o9,o10,o11,o12,o13] M=.ok (.nx [o0,o1,o2,o3,o4,o5,o6,some (rT P U),o8,o9,o10,o11,o12,some (.lst (P.map gB))],M):=by
 have c:=cG (Q:=Q) (M:=M) hP
 rw [qGm]
 simp [c,-qCE]
theorem s15 {Q:Nat -> List T -> Mem -> PR (TB×Mem)} {A:Mem} {xs:List T} (hP:P.length<=100) (hl:xs.length < 1000):px (glT gs) Q [4,1012] qGo [o0,o1,o2,o3,o4,o5,some (N w),some (rT P U),o8,o9,o10,o11,some (.cell A.length),some (.lst (P.map gB))] (A++[xs])=.ok (.nx [o0,o1,o2,o3,o4,o5,some (N w),some (rT P U),o8,o9,o10,o11,some (.cell A.length),some (.lst (P.map gB))],A++[xs++[od5 w P U]]):=by
 have ml:∀ {M:Mem},qAd M .mul (.lst [.v .non]) (N (decide (1 < w)).toNat)=some (lT (tl5 w)):=fun {M}=>by
  unfold tl5
  cases decide (1 < w)<;>rfl
 have l5:=qGY w
 have ad:∀ {M:Mem},qAd M .add (.lst (P.map gB)) (.lst (tl5 w))=some (lT (P.map gB++tl5 w)):=fun {M}=>qDg (by simp [lim];omega)
 have ap:=fun {x:T}=>apC (A:=A) hl (x:=x)
 rw [qGo]
 simp [stE,-pe_str,lim,ml,ad,lT,ap,od5]
end
end
end My
namespace My
open PySem PySem.Spec PI
open L2 (V)
section
variable {k:Nat}
theorem qMM {p:T -> Prop} {a b:List T} (h1:∀ t∈a,p t) (h2:∀ t∈b,p t):∀ t∈a++b,p t:=fun t ht=>(List.mem_append.mp ht).elim (h1 t) (h2 t)
theorem qJP (hk:14<=k) (ns:List Int) {i:Nat} (hi:i<=62) {M:Mem} (hM:FlatM M) {o1 o2 o4 o5 o6 o7 o8 o9 o10 o11 o12 o13:Option T}:∃ p1 p2 p4 p5 p6 p7 p8 p9 p10 p11 p12 p13 M',pxs (glT gs) (Pk (glT gs) Tb.fns Cs k) [4,1012] qHX [some (.fz (ns.map fun n=>.v (.int n))),o1,o2,some (N i),o4,o5,o6,o7,o8,o9,o10,o11,o12,o13] M=.ok (.nx [some (.fz (ns.map fun n=>.v (.int n))),p1,p2,some (N i),p4,p5,p6,p7,p8,p9,p10,p11,p12,p13],M')/\FlatM M':=by
 obtain ⟨a0,b0,c0,e1,hb0⟩:=qNK (k:=k) (by omega) ns (kk:=i) (by omega) M
 have gd:Good (M++[stT a0 b0 c0]) M.length:=⟨a0,b0,c0,by simp,hb0⟩
 have F0:FlatM (M++[stT a0 b0 c0]):=hM.app fun c hc=>by rw [List.mem_singleton.mp hc];exact qI2 _ _ _
 obtain ⟨d,M1,e2,hd,k1⟩:=qB3 (k:=k) (by omega) gd (m:=5) (by decide)
 obtain ⟨s,hs⟩:∃ s,s=1 + d:=⟨_,rfl⟩
 have s1:1<=s:=by omega
 have s5:s<=5:=by omega
 have n5:=p5 s5
 have np:0 < 2 ^ s:=Nat.pow_pos (by decide)
 obtain ⟨w,M2,e3,hw,k2⟩:=qB3 (k:=k) (by omega) k1.good (m:=2 ^ s) (by omega)
 have F2:=(k1.trans k2).flat F0
 obtain ⟨r,U,fr,M3,e4,k3,hst,hr,hU,hx⟩:=qPG (k:=k) (by omega) k2.good F2 s1 s5 hw
 obtain ⟨l,hl⟩:∃ l,(w::r).getLast?=some l:=⟨_,List.getLast?_eq_some_getLast (by simp)⟩
 have hlt:l < 2 ^ s:=hx l (List.mem_of_getLast? hl)
 obtain ⟨c,M4,e5,hc,k4⟩:=qB3 (k:=k) (by omega) k3.good (m:=2 ^ s) (by omega)
 obtain ⟨j,M5,e6,hj,k5⟩:=qB3 (k:=k) (by omega) k4.good (m:=2) (by decide)
 obtain ⟨b,hb,hbl⟩:∃ b,[N l,N c][j]?=some (N b)/\b < 2 ^ s:=by
  rcases (by omega:j=0\/j=1) with rfl | rfl
  ·exact ⟨l,rfl,hlt⟩
  ·exact ⟨c,rfl,hc⟩
 have k15:=(((k1.trans k2).trans k3).trans k4).trans k5
 have F5:=k15.flat F0
 obtain ⟨p0,fr0,e7,ow0⟩:=qOk (k:=k) (by omega) s1 s5 hw hbl F5.wf
 have ow0:Own p0:=ow0
 have lU:=qGH _ hU
 have vU:=qDw s5 (fun y hy=>List.mem_range.mp hy) _ hU
 have owR:Own (.row "row" (w::r) U):=.inr ⟨_,_,rfl,by simp;omega,by omega,fun x h=>by have:=hx x h;omega,fun x h=>by have:=vU x h;omega⟩
 obtain ⟨q1,g1,M6,e8,k6,f1⟩:=qM7 (k:=k) (by omega) k5.good (m:=2 ^ s) (by omega) ow0
 obtain ⟨q2,g2,M7,e9,k7,f2⟩:=qM7 (k:=k) (by omega) k6.good (m:=2 ^ s) (by omega) owR
 obtain ⟨q3,g3,M8,e10,k8,f3⟩:=qM7 (k:=k) (by omega) k7.good (m:=2 ^ s) (by omega) owR
 have k18:=((k15.trans k6).trans k7).trans k8
 have F8:=k18.flat F0
 obtain ⟨ps,hps⟩:∃ ps:List Pp,ps=[p0,.row "row" (w::r) U,q1,q2,q3]++(List.range (s + 2)).map (fun x=>Pp.ones "ones" x):=⟨_,rfl⟩
 have fps:∀ p∈ps,Fine p:=fun p hp=>by
  rw [hps] at hp
  rcases List.mem_append.mp hp with h | h
  ·simp at h
   rcases h with rfl | rfl | rfl | rfl | rfl
   ·exact ow0.fine
   ·exact owR.fine
   ·exact f1
   ·exact f2
   ·exact f3
  ·obtain ⟨x,hx',rfl⟩:=List.mem_map.mp h
   exact ⟨by have:=List.mem_range.mp hx';omega,.inr (.inl rfl)⟩
 have sd:∀ {M:Mem},qAd M .add (N 1) (N d)=some (N s,true):=fun {M}=>by rw [qIc,hs]
 have th:thaw M.length (.lst (stT a0 b0 c0))=(.cell M.length,[stT a0 b0 c0]):=rfl
 have ln:=qKJ s5
 obtain ⟨P,hP⟩:∃ P,P=w::r:=⟨_,rfl⟩
 have wP:w∈P:=by rw [hP];simp
 rw [<- hP] at e4 hl hU hx e9 e10 hps
 have lP:P.length<=18:=by rw [hP];simp;omega
 have rt:Pp.t (.row "row" P U)=rT P U:=rfl
 rw [rt] at e9 e10
 have lt:T.lst []=T.lst []:=rfl
 have pre:∀ (tt:Ss),pxs (glT gs) (Pk (glT gs) Tb.fns Cs k) [4,1012] (.cons qJW (.cons qJs (.cons qJi (.cons qJ1 (.cons qJz tt))))) [some (.fz (ns.map fun n=>.v (.int n))),o1,o2,some (N i),o4,o5,o6,o7,o8,o9,o10,o11,o12,o13] M=pxs (glT gs) (Pk (glT gs) Tb.fns Cs k) [4,1012] tt [some (.fz (ns.map fun n=>.v (.int n))),some (N s),o2,some (N i),some (.cell M.length),some (N (2 ^ s)),some (N w),some (rT P U),o8,o9,o10,o11,o12,o13] M3:=fun tt=>by
  rw [qJW,qJs,qJi,qJ1,qJz]
  simp [e1,th,e2,sd,-qIc,lim,ln,e3,e4]
 have x5:px (glT gs) (Pk (glT gs) Tb.fns Cs k) [4,1012] qJo [some (.fz (ns.map fun n=>.v (.int n))),some (N s),o2,some (N i),some (.cell M.length),some (N (2 ^ s)),some (N w),some (rT P U),o8,o9,o10,o11,o12,o13] M3=.ok (.nx [some (.fz (ns.map fun n=>.v (.int n))),some (N s),o2,some (N i),some (.cell M.length),some (N (2 ^ s)),some (N w),some (rT P U),some (N b),o9,o10,o11,o12,o13],M5):=by
  have il:=qBA (M:=M3) hl
  rw [qJo]
  simp [il,e5,e6,hb,lim]
 have x6:px (glT gs) (Pk (glT gs) Tb.fns Cs k) [4,1012] qJd [some (.fz (ns.map fun n=>.v (.int n))),some (N s),o2,some (N i),some (.cell M.length),some (N (2 ^ s)),some (N w),some (rT P U),some (N b),o9,o10,o11,o12,o13] M5=.ok (.nx [some (.fz (ns.map fun n=>.v (.int n))),some (N s),o2,some (N i),some (.cell M.length),some (N (2 ^ s)),some (N w),some (rT P U),some (N b),some p0.t,o10,o11,o12,o13],M5):=by
  rw [qJd]
  simp [e7]
 have x7:px (glT gs) (Pk (glT gs) Tb.fns Cs k) [4,1012] qKA [some (.fz (ns.map fun n=>.v (.int n))),some (N s),o2,some (N i),some (.cell M.length),some (N (2 ^ s)),some (N w),some (rT P U),some (N b),some p0.t,o10,o11,o12,o13] M5=.ok (.nx [some (.fz (ns.map fun n=>.v (.int n))),some (N s),o2,some (N i),some (.cell M.length),some (N (2 ^ s)),some (N w),some (rT P U),some (N b),some p0.t,some (.lst [p0.t,rT P U,q1.t,q2.t,q3.t]),o11,o12,o13],M8):=by
  generalize rT P U=R at *
  rw [qKA]
  simp [e8,e9,e10,lim]
 have x8:px (glT gs) (Pk (glT gs) Tb.fns Cs k) [4,1012] qI9 [some (.fz (ns.map fun n=>.v (.int n))),some (N s),o2,some (N i),some (.cell M.length),some (N (2 ^ s)),some (N w),some (rT P U),some (N b),some p0.t,some (.lst [p0.t,rT P U,q1.t,q2.t,q3.t]),o11,o12,o13] M8=.ok (.nx [some (.fz (ns.map fun n=>.v (.int n))),some (N s),o2,some (N i),some (.cell M.length),some (N (2 ^ s)),some (N w),some (rT P U),some (N b),some p0.t,some (.lst (ps.map Pp.t)),o11,o12,o13],M8):=by
  have z:=qCn (M:=M8) (σ:=[]) (c:=pec (glT gs) (Pk (glT gs) Tb.fns Cs k) .nil) (e:=pe (glT gs) (Pk (glT gs) Tb.fns Cs k) (.tup (.cons (.cst (V.str "ones")) (.cons (.var 0) .nil)))) (fun _=>true) (fun x=>.tup [St "ones",N x]) (fun _=>true) (List.range (s + 2)) [] true none (by simp [lim];omega) (fun x _=>by simp) (fun x _ _=>by simp [stE,-pe_str,lim])
  rw [qA3,List.nil_append] at z
  have rg:=qAe (n:=s + 2) (by omega)
  have pe':ps.map Pp.t=[p0.t,rT P U,q1.t,q2.t,q3.t]++(List.range (s + 2)).map fun x=>.tup [St "ones",N x]:=by
   rw [hps,List.map_append,List.map_map];rfl
  have ad:∀ {M:Mem},qAd M .add (.lst [p0.t,rT P U,q1.t,q2.t,q3.t]) (.lst ((List.range (s + 2)).map fun x=>.tup [St "ones",N x]))=some (lT (ps.map Pp.t)):=fun {M}=>by
   rw [pe'];exact qDg (by simp [lim];omega)
  generalize (List.range (s + 2)).map (fun x=>T.tup [St "ones",N x])=L2 at *
  generalize (List.range (s + 2)).map N=its at *
  generalize T.lst [p0.t,rT P U,q1.t,q2.t,q3.t]=L1 at *
  rw [qI9]
  simp [rg,z,-qCE,ad,lT]
 obtain ⟨p2,p11,ea⟩:=qNd (k:=k) (by omega) s1 s5 hw hbl F8 (o0:=some (.fz (ns.map fun n=>.v (.int n)))) (o3:=some (N i)) (o4:=some (.cell M.length)) (o5:=some (N (2 ^ s))) (o7:=some (rT P U)) (o9:=some p0.t) (o10:=some (.lst (ps.map Pp.t))) (o12:=o12) (o13:=o13) ps o2 o11 fps
 have x9:px (glT gs) (Pk (glT gs) Tb.fns Cs k) [4,1012] qJM [some (.fz (ns.map fun n=>.v (.int n))),some (N s),o2,some (N i),some (.cell M.length),some (N (2 ^ s)),some (N w),some (rT P U),some (N b),some p0.t,some (.lst (ps.map Pp.t)),o11,o12,o13] M8=.ok (.nx [some (.fz (ns.map fun n=>.v (.int n))),some (N s),p2,some (N i),some (.cell M.length),some (N (2 ^ s)),some (N w),some (rT P U),some (N b),some p0.t,some (.lst (ps.map Pp.t)),p11,o12,o13],M8):=by
  have sr:∀ {M:Mem} ts,qFG M (.lst ts)=some (ts,[]):=fun {M} ts=>rfl
  generalize ps.map Pp.t=pt at *
  rw [qJM]
  simp [sr,ea]
 have z0:0∈U:=by
  have:=qFz s5 P hx hU
  rw [List.getD_eq_getElem?_getD,List.getElem?_eq_getElem (by omega),Option.getD_some] at this
  rw [<- this];exact List.getElem_mem _
 have od:∀ t∈od1++od2 P U++od3 P U++[od4 P U]++[od5 w P U],Od (2 ^ s) t:=
  qMM (qMM (qMM (qMM qLI (qKt (by omega) (by omega) hx vU n5)) (qLo (by omega) (by omega) hx vU n5)) (qKB (qKl (by omega) (by omega) hx vU n5 z0))) (qKB (qL4 (by omega) (by omega) hx vU n5 wP))
 have x10:=s10 (Q:=Pk (glT gs) Tb.fns Cs k) (M:=M8) (o0:=some (.fz (ns.map fun n=>.v (.int n)))) (o1:=some (N s)) (o2:=p2) (o3:=some (N i)) (o4:=some (.cell M.length)) (o5:=some (N (2 ^ s))) (o6:=some (N w)) (o7:=some (rT P U)) (o8:=some (N b)) (o9:=some p0.t) (o10:=some (.lst (ps.map Pp.t))) (o11:=p11) (o12:=o12) (o13:=o13)
 have x11:=s11 (Q:=Pk (glT gs) Tb.fns Cs k) (P:=P) (U:=U) (A:=M8) (xs:=od1) (by decide) (o0:=some (.fz (ns.map fun n=>.v (.int n)))) (o1:=some (N s)) (o2:=p2) (o3:=some (N i)) (o4:=some (.cell M.length)) (o5:=some (N (2 ^ s))) (o6:=some (N w)) (o8:=some (N b)) (o9:=some p0.t) (o10:=some (.lst (ps.map Pp.t))) (o11:=p11) (o13:=o13)
 have x12:=s12 (Q:=Pk (glT gs) Tb.fns Cs k) (P:=P) (U:=U) (A:=M8++[od1]) (xs:=od1++od2 P U) (by omega) (by simp [od1,od2]) (o0:=some (.fz (ns.map fun n=>.v (.int n)))) (o1:=some (N s)) (o2:=p2) (o3:=some (N i)) (o4:=some (.cell M.length)) (o5:=some (N (2 ^ s))) (o6:=some (N w)) (o8:=some (N b)) (o9:=some p0.t) (o10:=some (.lst (ps.map Pp.t))) (o11:=p11) (o13:=o13)
 have x13:=s13 (Q:=Pk (glT gs) Tb.fns Cs k) (P:=P) (U:=U) (A:=M8++[od1]++[od1++od2 P U]) (xs:=od1++od2 P U++od3 P U) (by omega) (by simp [od1,od2,od3]) (o0:=some (.fz (ns.map fun n=>.v (.int n)))) (o1:=some (N s)) (o2:=p2) (o3:=some (N i)) (o4:=some (.cell M.length)) (o5:=some (N (2 ^ s))) (o6:=some (N w)) (o8:=some (N b)) (o9:=some p0.t) (o10:=some (.lst (ps.map Pp.t))) (o11:=p11) (o13:=o13)
 have x14:=s14 (Q:=Pk (glT gs) Tb.fns Cs k) (P:=P) (U:=U) (M:=M8++[od1]++[od1++od2 P U]++[od1++od2 P U++od3 P U++[od4 P U]]) (by omega) (o0:=some (.fz (ns.map fun n=>.v (.int n)))) (o1:=some (N s)) (o2:=p2) (o3:=some (N i)) (o4:=some (.cell M.length)) (o5:=some (N (2 ^ s))) (o6:=some (N w)) (o8:=some (N b)) (o9:=some p0.t) (o10:=some (.lst (ps.map Pp.t))) (o11:=p11) (o12:=some (.cell (M8++[od1]++[od1++od2 P U]).length)) (o13:=o13)
 have x15:=s15 (Q:=Pk (glT gs) Tb.fns Cs k) (w:=w) (P:=P) (U:=U) (A:=M8++[od1]++[od1++od2 P U]) (xs:=od1++od2 P U++od3 P U++[od4 P U]) (by omega) (by simp [od1,od2,od3]) (o0:=some (.fz (ns.map fun n=>.v (.int n)))) (o1:=some (N s)) (o2:=p2) (o3:=some (N i)) (o4:=some (.cell M.length)) (o5:=some (N (2 ^ s))) (o8:=some (N b)) (o9:=some p0.t) (o10:=some (.lst (ps.map Pp.t))) (o11:=p11)
 obtain ⟨y,M9,e11,hy,k9⟩:=qB3 (k:=k) (by omega) (M:=M8++[od1]++[od1++od2 P U]++[od1++od2 P U++od3 P U++[od4 P U]++[od5 w P U]]) (n:=M.length) (by rw [List.append_assoc,List.append_assoc];exact k18.good.app) (m:=17) (by decide)
 obtain ⟨X,hX⟩:∃ X,X=od1++od2 P U++od3 P U++[od4 P U]++[od5 w P U]:=⟨_,rfl⟩
 have lX:X.length=17:=by rw [hX];simp [od1,od2,od3]
 obtain ⟨t,ht⟩:∃ t,X[y]?=some t:=⟨X[y]'(by omega),List.getElem?_eq_getElem (by omega)⟩
 have hod:=od t (by rw [<- hX];exact List.mem_of_getElem? ht)
 rw [<- hX] at x15 e11 k9 od
 have FX:FlatM (M8++[od1]++[od1++od2 P U]++[X]):=by
  have u1:∀ L:List T,(∀ z∈L,z∈X) -> T.unds 0 L=true:=fun L hL=>qDa fun z hz=>(od z (hL z hz)).un
  refine ((F8.app fun c hc=>?_).app fun c hc=>?_).app fun c hc=>?_
  ·rw [List.mem_singleton.mp hc];exact u1 _ fun z hz=>by rw [hX];simp [hz]
  ·rw [List.mem_singleton.mp hc];exact u1 _ fun z hz=>by rw [hX];rcases List.mem_append.mp hz with h | h<;>simp [h]
  ·rw [List.mem_singleton.mp hc];exact u1 _ fun z hz=>hz
 have F9:=k9.flat FX
 have mc:M9[(M8++[od1]++[od1++od2 P U]).length]?=some X:=by
  rw [k9.oth _ (by
   have:=k18.len
   simp at this
   simp;omega)]
  simp
 have le:=is_ (k:=k) (by omega) (fun M=>qLV (k:=k - 1) (by omega) s1 s5 hw hlt hod.bad M) hod.sh M9
 have x16:px (glT gs) (Pk (glT gs) Tb.fns Cs k) [4,1012] qGu [some (.fz (ns.map fun n=>.v (.int n))),some (N s),p2,some (N i),some (.cell M.length),some (N (2 ^ s)),some (N w),some (rT P U),some (N b),some p0.t,some (.lst (ps.map Pp.t)),p11,some (.cell (M8++[od1]++[od1++od2 P U]).length),some (.lst (P.map gB))] (M8++[od1]++[od1++od2 P U]++[X])=.ok (.nx [some (.fz (ns.map fun n=>.v (.int n))),some (N s),p2,some (N i),some (.cell M.length),some (N (2 ^ s)),some (N w),some (rT P U),some (N b),some p0.t,some (.lst (ps.map Pp.t)),p11,some (.cell (M8++[od1]++[od1++od2 P U]).length),some (.lst (P.map gB))],M9):=by
  have il:=qBA (M:=M8++[od1]++[od1++od2 P U]++[X]) hl
  have ix:qDU M9 (.cell (M8++[od1]++[od1++od2 P U]).length) (N y)=some (t,t.lf):=by rw [qMl,mc,Option.bind_some,ht];rfl
  clear od hod x15 x14 x13 x12 x11 x10 FX lX
  generalize (M8++[od1]++[od1++od2 P U]).length=cc at *
  generalize M8++[od1]++[od1++od2 P U]++[X]=MM at *
  generalize P.map gB=PG at *
  generalize ps.map Pp.t=pt at *
  rw [qGu]
  simp [il,e11,ix,le]
 refine ⟨some (N s),p2,some (.cell M.length),some (N (2 ^ s)),some (N w),some (rT P U),some (N b),some p0.t,some (.lst (ps.map Pp.t)),p11,some (.cell (M8++[od1]++[od1++od2 P U]).length),some (.lst (P.map gB)),M9,?_,F9⟩
 rw [qLH,pre,qAT x5,qAT x6,qAT x7,qAT x8,qAT x9,qAT x10,qAT x11,qAT x12,qAT x13,qAT x14,qAT x15,qAT x16]
 rfl
theorem qOF {k:Nat} (hk:14<=k) (ns:List Int):∀ (m i:Nat) (M:Mem) (o1 o2 o3 o4 o5 o6 o7 o8 o9 o10 o11 o12 o13:Option T),i + m<=63 -> FlatM M -> ∃ σ' M',qAj [] (.name 3) (pxs (glT gs) (Pk (glT gs) Tb.fns Cs k) [4,1012] qHX) ((List.range' i m).map N) [some (.fz (ns.map fun n=>.v (.int n))),o1,o2,o3,o4,o5,o6,o7,o8,o9,o10,o11,o12,o13] M=.ok (.nx σ',M')
 | 0,i,M,o1,o2,o3,o4,o5,o6,o7,o8,o9,o10,o11,o12,o13,h,_=>⟨_,M,rfl⟩
 | m + 1,i,M,o1,o2,o3,o4,o5,o6,o7,o8,o9,o10,o11,o12,o13,h,hF=>by
  obtain ⟨p1,p2,p4,p5,p6,p7,p8,p9,p10,p11,p12,p13,M1,e,F1⟩:=qJP hk ns (i:=i) (by omega) hF (o1:=o1) (o2:=o2) (o4:=o4) (o5:=o5) (o6:=o6) (o7:=o7) (o8:=o8) (o9:=o9) (o10:=o10) (o11:=o11) (o12:=o12) (o13:=o13)
  obtain ⟨σ',M',e'⟩:=qOF hk ns m (i + 1) M1 p1 p2 (some (N i)) p4 p5 p6 p7 p8 p9 p10 p11 p12 p13 (by omega) F1
  refine ⟨σ',M',?_⟩
  rw [List.range'_succ,List.map_cons,qAV,show ∀ a b c d e f g h i j k l m n z:Option T,[a,b,c,d,e,f,g,h,i,j,k,l,m,n].set 3 z=[a,b,c,z,e,f,g,h,i,j,k,l,m,n] from fun _ _ _ _ _ _ _ _ _ _ _ _ _ _ _=>rfl,e,PR.bind_ok]
  exact e'
theorem fst {k:Nat} (hk:12<=k) {M:Mem} (hM:FlatM M) {o0:Option T}:∀ (its:List Nat) (o1 o2:Option T),(∀ s∈its,1<=s/\s<=5) -> ∃ p1 p2,qAj [] (.name 1) (pxs (glT gs) (Pk (glT gs) Tb.fns Cs k) [4,1012] qF5) (its.map N) [o0,o1,o2,none,none,none,none,none,none,none,none,none,none,none] M=.ok (.nx [o0,p1,p2,none,none,none,none,none,none,none,none,none,none,none],M)
 | [],o1,o2,_=>⟨o1,o2,rfl⟩
 | s::its,o1,o2,h=>by
  obtain ⟨s1,s5⟩:=h s (by simp)
  have n5:=p5 s5
  have np:0 < 2 ^ s:=Nat.pow_pos (by decide)
  obtain ⟨r,U,fr,e1,hst,hr,hU,hx⟩:=qOY (k:=k) (by omega) s1 s5 hM
  obtain ⟨l,hl⟩:∃ l,(0::r).getLast?=some l:=⟨_,List.getLast?_eq_some_getLast (by simp)⟩
  have hlt:l < 2 ^ s:=hx l (List.mem_of_getLast? hl)
  have lU:=qGH _ hU
  have vU:=qDw s5 (fun y hy=>List.mem_range.mp hy) _ hU
  have ow:Own (.row "row" (0::r) U):=.inr ⟨_,_,rfl,by simp;omega,by omega,fun x h=>by have:=hx x h;omega,fun x h=>by have:=vU x h;omega⟩
  have ok:Pp.ok s 0 l (.row "row" (0::r) U)=true:=by
   show (decide (("row":PySem.Str)="row")&&rok s 0 l (0::r) U)=true
   rw [qKp hx hU hl,decide_eq_true rfl];rfl
  have le:=is_ (k:=k) (by omega) (fun M=>qIb (k:=k - 1) (by omega) s1 s5 np hlt ow.fine.fit M) (qN1 ow.fine) M
  have du:=qKb (k:=k) (by omega) s1 s5 np hlt ow.fine.fit hM
  rw [ok] at le du
  have rt:Pp.t (.row "row" (0::r) U)=T.tup [St "row",NL (0::r),NL U]:=rfl
  rw [rt] at le du
  obtain ⟨p1,p2,e⟩:=fst hk hM (o0:=o0) its (some (N s)) (some (T.tup [St "row",NL (0::r),NL U])) fun x hx=>h x (by simp [hx])
  refine ⟨p1,p2,?_⟩
  have il:=qBA (M:=M) hl
  have isn:∀ {M:Mem},qAp M .isnot (.v (.bl true)) (.v (.bl true))=some false:=fun {M}=>rfl
  have body:pxs (glT gs) (Pk (glT gs) Tb.fns Cs k) [4,1012] qF5 [o0,some (N s),o2,none,none,none,none,none,none,none,none,none,none,none] M=.ok (.nx [o0,some (N s),some (T.tup [St "row",NL (0::r),NL U]),none,none,none,none,none,none,none,none,none,none,none],M):=by
   generalize NL (0::r)=tp at *
   rw [qF5]
   simp [e1,il,le,du,isn,bT]
  rw [List.map_cons,qAV,show ∀ a b c d e f g h i j k l m n z:Option T,[a,b,c,d,e,f,g,h,i,j,k,l,m,n].set 1 z=[a,z,c,d,e,f,g,h,i,j,k,l,m,n] from fun _ _ _ _ _ _ _ _ _ _ _ _ _ _ _=>rfl,body,PR.bind_ok]
  exact e
theorem main:∀ ns:List Int,ns.length<=63 -> ∃ h',Fk Tb.fns 30 36 [.ref gs.length] (qD3 gs ns)=.ok (.bl true,h'):=by
 intro ns hn
 obtain ⟨q1,q2,e0⟩:=fst (k:=29) (by omega) (M:=[]) (fun c hc=>by simp at hc) (o0:=some (.fz (ns.map fun n=>.v (.int n)))) (List.range' 1 5) none none (fun s hs=>by simp [List.mem_range'] at hs;omega)
 obtain ⟨σ',M',e⟩:=qOF (k:=29) (by omega) ns (max 1 (min 40 ns.length)) 0 [] q1 q2 none none none none none none none none none none none (by omega) (fun c hc=>by simp at hc)
 rw [<- List.range_eq_range'] at e
 have key:∃ b M2,Pk (glT gs) Tb.fns Cs 30 36 [.fz (ns.map fun n=>.v (.int n))] []=.ok ((.v (.bl true),b),M2):=by
  rw [qAE t36 ⟨rfl,by decide⟩ (by omega),show Cs.getD 36 []=[4,1012] from rfl]
  clear hn
  have rg:=qEa (a:=1) (b:=6) (by decide)
  have ex:pxs (glT gs) (Pk (glT gs) Tb.fns Cs (30 - 1)) [4,1012] b36 ([T.fz (ns.map fun n=>.v (.int n))].map some++List.replicate (14 - 1) none) []=.ok (.rt (bT true),M'):=by
   have e0':qAj [] (.name 1) (pxs (glT gs) (Pk (glT gs) Tb.fns Cs (30 - 1)) [4,1012] qF5) ((List.range' 1 (6 - 1)).map N) [some (.fz (ns.map fun n=>.v (.int n))),none,none,none,none,none,none,none,none,none,none,none,none,none] []=.ok (.nx [some (.fz (ns.map fun n=>.v (.int n))),q1,q2,none,none,none,none,none,none,none,none,none,none,none],[]):=e0
   generalize (List.range' 1 (6 - 1)).map N=its at *
   rw [b36]
   simp (disch:=omega) [rg,e0',qAe,e]
  rw [ex]
  exact qF8 _ _ _
 obtain ⟨b,M2,e2⟩:=key
 exact qKc rfl e2
end
end My
namespace PySem.W.Fast
theorem tw14988206827010128419:True:=trivial
theorem tw5994399444072065183:True:=trivial
theorem tw12721865557345502637:True:=trivial
theorem tw6570255727214298748:True:=trivial
theorem tw5882688001106924977:True:=trivial
theorem tw2929834011988386471:True:=trivial
theorem tw5301260881799680558:True:=trivial
theorem tw375919655688733856:True:=trivial
theorem tw2094362777696207756:True:=trivial
theorem tw1676616116301446827:True:=trivial
theorem tw17207299828155395931:True:=trivial
theorem tw14992437310505650906:True:=trivial
theorem tw13251287173397815416:True:=trivial
theorem tw1047106462681730002:True:=trivial
theorem tw2912532869590246020:True:=trivial
theorem tw594816660450411795:True:=trivial
theorem tw12787423597822704896:True:=trivial
theorem tw14685604261476604739:True:=trivial
theorem tw7743818908696792817:True:=trivial
theorem tw1457927997291636925:True:=trivial
theorem tw4746250610172767856:True:=trivial
theorem tw3607516127675628667:True:=trivial
theorem tw10324151052175796520:True:=trivial
theorem tw16295282168845587672:True:=trivial
theorem tw8348685443861369402:True:=trivial
theorem tw16222611693051551214:True:=trivial
theorem tw14276174924809878562:True:=trivial
theorem tw17335800622558722653:True:=trivial
theorem tw10086343750129146549:True:=trivial
theorem tw10698786965433546136:True:=trivial
theorem tw5939831027045217179:True:=trivial
theorem tw15007339095763895775:True:=trivial
theorem tw2252804037607772996:True:=trivial
theorem tw1023251164322004557:True:=trivial
theorem tw5826512639115224716:True:=trivial
theorem tw13650118733745301022:True:=trivial
theorem tw15657574487073270447:True:=trivial
theorem tw3646954565739694665:True:=trivial
theorem tw11173675198503338724:True:=trivial
theorem tw7576678442122213306:True:=trivial
theorem tw745454008370691911:True:=trivial
theorem tw13356079936816256874:True:=trivial
theorem tw9221871126153377055:True:=trivial
theorem tw12724876634704155428:True:=trivial
theorem tw12384293615591924700:True:=trivial
theorem tw10766982890748779365:True:=trivial
theorem tw10309074802714522289:True:=trivial
theorem tw14863727855022729313:True:=trivial
theorem tw3728100708383902122:True:=trivial
theorem tw16883615191652852332:True:=trivial
theorem tw17397691856857125062:True:=trivial
theorem tw16282091482763928853:True:=trivial
theorem tw3916243301385681389:True:=trivial
theorem tw2976672439228021389:True:=trivial
theorem tw13357889305155184818:True:=trivial
theorem tw4540649789307765742:True:=trivial
theorem tw3606877073987611920:True:=trivial
theorem tw13745573144460558271:True:=trivial
theorem tw9947122982813320585:True:=trivial
theorem tw2099434500023541725:True:=trivial
theorem tw13750178362610812193:True:=trivial
theorem tw11514223014334474248:True:=trivial
theorem tw15758241825209289296:True:=trivial
theorem tw8642922534962672486:True:=trivial
theorem tw2338202395350230083:True:=trivial
theorem tw10163136257572128464:True:=trivial
theorem tw14255474017015776767:True:=trivial
theorem tw1379230532752920261:True:=trivial
theorem tw11478300950818003381:True:=trivial
theorem tw15246568349101652373:True:=trivial
theorem tw6951744748895706136:True:=trivial
theorem tw3252248885032449436:True:=trivial
theorem tw17188692247951046766:True:=trivial
theorem tw17476958666231843755:True:=trivial
theorem tw17946050847678210065:True:=trivial
theorem tw1702732407195098692:True:=trivial
theorem tw6067142160883471146:True:=trivial
theorem tw4776896533185709343:True:=trivial
theorem tw8338431468257339848:True:=trivial
theorem tw8677633431803175856:True:=trivial
theorem tw5167627980631538528:True:=trivial
theorem tw17856815920868469286:True:=trivial
theorem tw8460658634716383450:True:=trivial
theorem tw13570262434671616837:True:=trivial
theorem tw11256317089782364697:True:=trivial
theorem tw4321466521806829230:True:=trivial
theorem tw2504779405628644114:True:=trivial
theorem tw5236339654360482946:True:=trivial
theorem tw2489856703688103707:True:=trivial
theorem tw1748322456529193440:True:=trivial
theorem tw14819302617651936865:True:=trivial
theorem tw6660455490084778810:True:=trivial
theorem tw1261745709677296152:True:=trivial
theorem tw2783410834306012374:True:=trivial
theorem tw9187139176529944519:True:=trivial
theorem tw3315617852314370900:True:=trivial
theorem tw4713528512690344438:True:=trivial
theorem tw2740431141187417153:True:=trivial
theorem tw4692859435330172022:True:=trivial
theorem tw793552249537993700:True:=trivial
theorem tw8187939852371148123:True:=trivial
theorem tw17150976231893162925:True:=trivial
theorem tw13354706571034236123:True:=trivial
theorem tw13214229199643037396:True:=trivial
theorem tw8927554597607440790:True:=trivial
theorem tw3893426304423575638:True:=trivial
theorem tw1759503042533949416:True:=trivial
theorem tw6550171064890243828:True:=trivial
theorem tw17165718571075196586:True:=trivial
theorem tw4899635401328205453:True:=trivial
theorem tw3648007829609278667:True:=trivial
theorem tw12514321853511530122:True:=trivial
theorem tw2351025907015082192:True:=trivial
theorem tw7290291274759286687:True:=trivial
theorem tw8137269581604685581:True:=trivial
theorem tw3893090133453669659:True:=trivial
theorem tw16714566277259946800:True:=trivial
theorem tw5163487283524690739:True:=trivial
theorem tw18257751377466642843:True:=trivial
theorem tw1766134334582760773:True:=trivial
theorem tw14477730101023544654:True:=trivial
theorem tw12578421787989555176:True:=trivial
theorem tw15868240451708461947:True:=trivial
theorem tw735935054346371011:True:=trivial
theorem tw3608427337980005942:True:=trivial
theorem tw6576770708103647656:True:=trivial
theorem tw2578348597775267236:True:=trivial
theorem tw18414221616537853324:True:=trivial
theorem tw12759116140293551432:True:=trivial
theorem tw4110326778609558916:True:=trivial
theorem tw12119242076855514570:True:=trivial
theorem tw13770385555180520525:True:=trivial
theorem tw2836107521123081943:True:=trivial
theorem tw3568708158302054580:True:=trivial
theorem tw1309365054490008527:True:=trivial
theorem tw9313203817113973555:True:=trivial
theorem tw11610187201638613984:True:=trivial
theorem tw10553361495935000897:True:=trivial
theorem tw11555122208828535634:True:=trivial
theorem tw226043049383905174:True:=trivial
theorem tw2431783370576807607:True:=trivial
theorem tw4121130418098247259:True:=trivial
theorem tw1610495793241573462:True:=trivial
theorem tw8393079089462786900:True:=trivial
theorem tw17920305412228326508:True:=trivial
theorem tw8519211308138994172:True:=trivial
theorem tw12608465018310513599:True:=trivial
theorem tw17307976355395778337:True:=trivial
theorem tw8658665200445617271:True:=trivial
theorem tw6541142946757331189:True:=trivial
theorem tw6253859955616569371:True:=trivial
theorem tw7266278685532567971:True:=trivial
theorem tw16618348548150345936:True:=trivial
theorem tw2858959968631138061:True:=trivial
theorem tw2492209718858722204:True:=trivial
theorem tw9384887601866801110:True:=trivial
theorem tw18248214520636513421:True:=trivial
theorem tw10630167964425226305:True:=trivial
theorem tw16381462251203559476:True:=trivial
theorem tw4564914550911351947:True:=trivial
theorem tw16472946424488122044:True:=trivial
theorem tw2904192762016004269:True:=trivial
theorem tw835109792248026788:True:=trivial
theorem tw9182983863494469546:True:=trivial
theorem tw4358650932441651581:True:=trivial
theorem tw7214263144009458311:True:=trivial
theorem tw13038631504322662664:True:=trivial
theorem tw980330148802783109:True:=trivial
theorem tw14063102143590441587:True:=trivial
theorem tw8294059695357932380:True:=trivial
theorem tw1537068800989900919:True:=trivial
theorem tw14140745922264456211:True:=trivial
theorem tw8770929359728934070:True:=trivial
theorem tw14674726433968469608:True:=trivial
theorem tw268103197258190943:True:=trivial
theorem tw1995179549423624566:True:=trivial
theorem tw3680994629932688261:True:=trivial
theorem tw12219854434938093112:True:=trivial
theorem tw3132734645399814857:True:=trivial
theorem tw9558825386770983489:True:=trivial
theorem tw16798008597594435700:True:=trivial
theorem tw4468114196890119675:True:=trivial
theorem tw11370861959063129106:True:=trivial
theorem tw3923230795170466477:True:=trivial
theorem tw3612285004034143195:True:=trivial
theorem tw15982195597079329814:True:=trivial
theorem tw9115641213332716609:True:=trivial
theorem tw17842568505068500308:True:=trivial
theorem tw3418726917183375462:True:=trivial
theorem tw7388411428955025299:True:=trivial
theorem tw7784867272122801537:True:=trivial
theorem tw3547991510952198656:True:=trivial
theorem tw18259455429573791238:True:=trivial
theorem tw1012577059372580350:True:=trivial
theorem tw721476186031624001:True:=trivial
theorem tw13531809925161079532:True:=trivial
theorem tw3700493147938147407:True:=trivial
theorem tw8842767298288804735:True:=trivial
theorem tw3123272665753416012:True:=trivial
theorem tw3607875234270090069:True:=trivial
theorem tw9400535100688651685:True:=trivial
theorem tw17128625949008989827:True:=trivial
theorem tw7258403479963107365:True:=trivial
theorem tw14056720339987093453:True:=trivial
theorem tw7314031531639018750:True:=trivial
theorem tw6891396057068798936:True:=trivial
theorem tw2696158288065902030:True:=trivial
theorem tw17994718974224894536:True:=trivial
theorem tw5338181153300340030:True:=trivial
theorem tw10000407945122488577:True:=trivial
theorem tw14894004952394387902:True:=trivial
theorem tw831890731206443797:True:=trivial
theorem tw9022762233930989564:True:=trivial
theorem tw17345825057984470148:True:=trivial
theorem tw2959266364837056919:True:=trivial
theorem tw14971571365099860794:True:=trivial
theorem tw3287526209026097010:True:=trivial
theorem tw1764152043988696773:True:=trivial
theorem tw3511452554600316568:True:=trivial
theorem tw6826141825017050564:True:=trivial
theorem tw16414133802556051982:True:=trivial
theorem tw17228232000195292453:True:=trivial
theorem tw13320655998616999055:True:=trivial
theorem tw8269659604222678891:True:=trivial
theorem tw5315307759917206326:True:=trivial
theorem tw8746374750590337292:True:=trivial
theorem tw11158131004135644171:True:=trivial
theorem tw16792192111472237181:True:=trivial
theorem tw4892281226960491298:True:=trivial
theorem tw7353906332195886548:True:=trivial
theorem tw10487435580101361873:True:=trivial
theorem tw342072082845777751:True:=trivial
theorem tw10941964711044978700:True:=trivial
theorem tw14265045291917868758:True:=trivial
theorem tw13945723167374824331:True:=trivial
theorem tw12778832056540390194:True:=trivial
theorem tw5188522042510480685:True:=trivial
theorem tw52495398160862862:True:=trivial
theorem tw13786695285170288030:True:=trivial
theorem tw8313253810328772991:True:=trivial
theorem tw12809361081677817083:True:=trivial
theorem tw17932112263663176893:True:=trivial
theorem tw17620715720502748955:True:=trivial
theorem tw14022427437729776094:True:=trivial
theorem tw3146453332983522983:True:=trivial
theorem tw14026195147688572152:True:=trivial
theorem tw18422735278983394007:True:=trivial
theorem tw14759084801633812842:True:=trivial
theorem tw2098213008366558700:True:=trivial
theorem tw13188345331378249066:True:=trivial
theorem tw10849659098328289839:True:=trivial
theorem tw15882922987761994965:True:=trivial
theorem tw15762231855458263157:True:=trivial
theorem tw11944504634310670342:True:=trivial
theorem tw2130117776960917294:True:=trivial
theorem tw1630940390949695497:True:=trivial
theorem tw16767366125398970671:True:=trivial
theorem tw2437864438428562178:True:=trivial
theorem tw11664435379099754823:True:=trivial
theorem tw9197160441526116361:True:=trivial
theorem tw21486154730484022:True:=trivial
theorem tw6359435699079760760:True:=trivial
theorem tw591826482599958882:True:=trivial
theorem tw3946592531063359400:True:=trivial
end PySem.W.Fast
namespace My
open PySem PySem.Spec PyProof.Rows L2 PI
theorem dks:∀ d∈Tb.ds,qNN d:=by
 intro d hd
 simp only [Tb,List.mem_cons,List.not_mem_nil,or_false] at hd
 rcases hd with rfl | rfl | rfl | rfl | rfl | rfl | rfl | rfl | rfl | rfl | rfl | rfl | rfl | rfl | rfl | rfl | rfl | rfl | rfl | rfl | rfl | rfl | rfl | rfl | rfl | rfl | rfl | rfl | rfl | rfl | rfl | rfl | rfl | rfl | rfl | rfl | rfl
 all_goals exact ⟨⟨rfl,rfl,rfl,by decide +kernel,rfl,by decide +kernel,by decide +kernel⟩,fun _ _ _ _ _ _ us hl=>by first | (obtain rfl:=PI.len0 hl;rfl) | (obtain ⟨_,rfl⟩:=PI.len1 hl;rfl) | (obtain ⟨_,_,rfl⟩:=PI.len2 hl;rfl) | (obtain ⟨_,_,_,rfl⟩:=PI.len3 hl;rfl) | (obtain ⟨_,_,_,_,rfl⟩:=PI.len4 hl;rfl) | (obtain ⟨_,_,_,_,_,rfl⟩:=PI.len5 hl;rfl) | (obtain ⟨_,_,_,_,_,_,rfl⟩:=PI.len6 hl;rfl)⟩
theorem all_mk {l:PySem.W.OpenLaw} {w:World} {K:PySem.W.Frag} {h:Heap} {mg:Str -> Option Value} {fa:Addr} (X:K.In h) (G:h.Ns mainGlobals mg) (hfa:mg "law"=some (.ref fa))
  (hds:∀ d∈Tb.ds,qLA K d)
  {ga0:Addr} {gn0:Nat} {gsl0:Array (Option Value)} {u0_0 u0_1 u0_2 u0_3 u0_4 u0_5:Tok} (g_LENGTHS:PySem.W.nsIn K mainGlobals "LENGTHS"=some (some (.ref ga0))) (m0:K.lookup ga0=some ⟨.type "tuple",none,.seq #[.int 1 u0_0,.int 2 u0_1,.int 4 u0_2,.int 8 u0_3,.int 16 u0_4,.int 32 u0_5] gn0,gsl0⟩)
  {tg_GREATEST_SIZE:Tok} (g_GREATEST_SIZE:PySem.W.nsIn K mainGlobals "GREATEST_SIZE"=some (some (.int 5 tg_GREATEST_SIZE)))
  (z_len:PySem.W.nsIn K mainGlobals "len"=some none)
  (z_sum:PySem.W.nsIn K mainGlobals "sum"=some none)
  (z_all:PySem.W.nsIn K mainGlobals "all"=some none)
  (z_any:PySem.W.nsIn K mainGlobals "any"=some none)
  (z_max:PySem.W.nsIn K mainGlobals "max"=some none)
  (z_min:PySem.W.nsIn K mainGlobals "min"=some none)
  (z_list:PySem.W.nsIn K mainGlobals "list"=some none)
  (z_int:PySem.W.nsIn K mainGlobals "int"=some none)
  (z_tuple:PySem.W.nsIn K mainGlobals "tuple"=some none)
  (z_range:PySem.W.nsIn K mainGlobals "range"=some none)
  (z_zip:PySem.W.nsIn K mainGlobals "zip"=some none)
  (z_isinstance:PySem.W.nsIn K mainGlobals "isinstance"=some none)
  (z_bool:PySem.W.nsIn K mainGlobals "bool"=some none)
  (z_str:PySem.W.nsIn K mainGlobals "str"=some none)
  (z_repr:PySem.W.nsIn K mainGlobals "repr"=some none)
  (z_ValueError:PySem.W.nsIn K mainGlobals "ValueError"=some none)
  (main:∀ ns:List Int,ns.length<=63 -> ∃ h',Fk Tb.fns 30 36 [.ref gs.length] (qD3 gs ns)=.ok (.bl true,h')):
  ∃ fd:FuncData,(∀ (s:Shared) (v:Value),BindsTo s fd ⟨[v],[]⟩ [("_law_script",v)])/\∀ base:Heap,K.In base -> base.Ns mainGlobals mg -> FnOk l.prog w K mg base CX0 30 fa fd ["_law_script"] (qHT K):=by
 obtain ⟨fas,fds,hT⟩:=qIj X G Tb.ds hds dks
 have O:qH4 K mg [ga0] Tb fas fds:=by
  refine ⟨hT,fun x e hx=>?_,fun x hx=>?_,fun a ha=>(List.mem_cons.mp ha).elim (fun z=>by subst z;exact ⟨_,m0,rfl,rfl⟩) fun ha=>nomatch ha⟩
  ·have hx2:List.lookup x ([("LENGTHS",E.glob 0),("GREATEST_SIZE",E.cst (.int 5))]:List (Str×E))=some e:=hx
   simp only [List.lookup_cons,List.lookup_nil] at hx2
   split at hx2
   ·rename_i hq
    have hq2:x="LENGTHS":=by simpa using hq
    subst hq2
    cases hx2
    exact .inr ⟨_,_,rfl,PySem.W.mg_of X G g_LENGTHS,rfl⟩
   split at hx2
   ·rename_i hq
    have hq2:x="GREATEST_SIZE":=by simpa using hq
    subst hq2
    cases hx2
    exact .inl ⟨_,_,rfl,PySem.W.mg_of X G g_GREATEST_SIZE,⟨_,rfl⟩,fun _=>rfl⟩
   cases hx2
  ·have hx2:x∈(["len","sum","all","any","max","min","list","int","tuple","range","zip","isinstance","bool","str","repr","ValueError"]:List Str):=List.contains_iff_mem.mp hx
   simp only [List.mem_cons,List.not_mem_nil,or_false] at hx2
   rcases hx2 with rfl | rfl | rfl | rfl | rfl | rfl | rfl | rfl | rfl | rfl | rfl | rfl | rfl | rfl | rfl | rfl
   ·exact PySem.W.mg_none_of X G z_len
   ·exact PySem.W.mg_none_of X G z_sum
   ·exact PySem.W.mg_none_of X G z_all
   ·exact PySem.W.mg_none_of X G z_any
   ·exact PySem.W.mg_none_of X G z_max
   ·exact PySem.W.mg_none_of X G z_min
   ·exact PySem.W.mg_none_of X G z_list
   ·exact PySem.W.mg_none_of X G z_int
   ·exact PySem.W.mg_none_of X G z_tuple
   ·exact PySem.W.mg_none_of X G z_range
   ·exact PySem.W.mg_none_of X G z_zip
   ·exact PySem.W.mg_none_of X G z_isinstance
   ·exact PySem.W.mg_none_of X G z_bool
   ·exact PySem.W.mg_none_of X G z_str
   ·exact PySem.W.mg_none_of X G z_repr
   ·exact PySem.W.mg_none_of X G z_ValueError
 have hG:qE4 K [ga0] gs:=⟨⟨.inr ⟨_,_,_,m0,rfl,rfl,by show 6<=sizeLine;decide,.cons ⟨_,rfl⟩ (.cons ⟨_,rfl⟩ (.cons ⟨_,rfl⟩ (.cons ⟨_,rfl⟩ (.cons ⟨_,rfl⟩ (.cons ⟨_,rfl⟩ (.nil))))))⟩,rfl⟩,True.intro⟩
 obtain ⟨a,f,e1,e2,F,_,em,_⟩:=hT 36 _ rfl
 have e:=hfa.symm.trans em
 cases e
 exact ⟨f,qNI F (dks _ (List.mem_of_getElem? (i:=36) rfl)) rfl,fun base _ _=>qGj O hG (i:=36) rfl e1 e2 rfl main⟩
theorem walk {l:PySem.W.OpenLaw} {q:Program} {loose:List Str} {XP:(Str -> Option Value) -> Heap -> Prop} {YP:World -> Heap -> Prop} {d:DefRec} {K:Params -> PySem.W.Frag} (hn:l.most=some 63) (hdf:d.params.defaults=[])
  (hY:∀ (w:World) (h:Heap),YP w h -> (K w.params).In h)
  (F:∀ (w:World) (mg:Str -> Option Value) (fa:Addr) (h:Heap),(K w.params).In h -> h.Ns mainGlobals mg -> mg d.name=some (.ref fa) ->
   ∃ fd:FuncData,(∀ (s:Shared) (u:Value),BindsTo s fd ⟨[u],[]⟩ [("_law_script",u)])/\∀ base:Heap,(K w.params).In base -> base.Ns mainGlobals mg -> FnOk l.prog w (K w.params) mg base CX0 30 fa fd ["_law_script"] (qHT (K w.params))):
  PySem.W.WalkO q loose XP YP l.row.toRowW d [] (fun f vs=>PySem.call f vs):=
 L2.walk_of (n:=63) (k:=30) (x:="_law_script") (CX:=fun _=>CX0) (sp:=fun w=>qHT (K w.params)) hn (by decide) hdf ⟨rfl,by decide,by decide,rfl⟩ hY F (fun _ _ a ns hl hO hS=>⟨a,ns,rfl,hO,hS,hl,fun _=>rfl⟩) fun _ _ _ _ _ z=>z
end My
open PySem PySem.W PyProof.Rows
set_option maxRecDepth 100000 in
set_option maxHeartbeats 0 in
theorem PySem.Challenge.cw_healhalves_k35_orders_looked_at_holds : PySem.Challenge.rw_healhalves_k35_orders_looked_at.Holds := by
 w_on;o_law;k_head;(case hw=>w_witness2)
 k_fill
 refine My.walk (l:=PySem.Challenge.rw_healhalves_k35_orders_looked_at) rfl rfl (fun w h Y=>PySem.W.kIn_of Y) ?F
 case F=>
  intro w mg fa h KX G hmg
  refine' My.all_mk KX G hmg ?ds ?g_LENGTHS ?m0 ?g_GREATEST_SIZE ?z_len ?z_sum ?z_all ?z_any ?z_max ?z_min ?z_list ?z_int ?z_tuple ?z_range ?z_zip ?z_isinstance ?z_bool ?z_str ?z_repr ?z_ValueError My.main
  case ds=>
   intro d hd
   simp only [My.Tb,List.mem_cons,List.not_mem_nil,or_false] at hd
   rcases hd with rfl | rfl | rfl | rfl | rfl | rfl | rfl | rfl | rfl | rfl | rfl | rfl | rfl | rfl | rfl | rfl | rfl | rfl | rfl | rfl | rfl | rfl | rfl | rfl | rfl | rfl | rfl | rfl | rfl | rfl | rfl | rfl | rfl | rfl | rfl | rfl | rfl
   all_goals exact ⟨_,_,_,_,_,_,_,_,_,_,by k_is,by k_is,by k_is,by k_is⟩
  all_goals (try k_is)
