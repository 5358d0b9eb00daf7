import PyProof.Rows.All
import Wide.All
import OpenK.AllK
import Wide.FinOn
import Lean
import PyProof.EqAt
import PyProof.EqKinds
import PyProof.TupleCall
import PyProof.NeKinds
import PyProof.ZipIter
import PyProof.ReprRoads
import KE.KRevIter
import PyProof.EnumMake
import PyProof.EnumFor
import PyProof.WalksEnum
import PyProof.Rows.EnumRows
import PyProof.FactsAll.range_2
import PyProof.AutoRange
import PySem.Challenge.RW_healhalves_k72_plans_for_lengths
set_option bootstrap.genMatcherCode false
set_option compiler.extract_closed false
set_option genSizeOf false
set_option genSizeOfSpec false
set_option Elab.async false
set_option linter.all false
set_option maxRecDepth 100000
namespace L2
open PySem PySem.Spec PyProof.Rows
noncomputable abbrev Key:=Sum Int Str
noncomputable def qGA:Key -> Value -> Bool
 | .inl k,v=>Value.isInt k v
 | .inr x,v=>Value.isStrOf x v
noncomputable def qO8 (w:World):Key -> Int
 | .inl k=>hashInt k
 | .inr x=>hashStr w x
theorem qAb:∀ {k:Key} {v:Value},qGA k v=true -> (∃ i t,k=Sum.inl i/\v=Value.int i t)\/(∃ x t,k=Sum.inr x/\v=Value.str x t)
 | .inl i,v,h=>by
  obtain ⟨t,e⟩:=Value.isInt_shape (k:=i) (v:=v) h
  exact .inl ⟨i,t,rfl,e⟩
 | .inr x,v,h=>by
  obtain ⟨t,e⟩:=Value.isStrOf_shape (x:=x) (v:=v) h
  exact .inr ⟨x,t,rfl,e⟩
theorem qGS (i:Int) (t:Tok):qGA (.inl i) (.int i t)=true:=by simp [qGA,Value.isInt]
theorem qGW (x:Str) (t:Tok):qGA (.inr x) (.str x t)=true:=by simp [qGA,Value.isStrOf]
theorem qK4 (a b:Int):decide ((Sum.inl a:Key)=Sum.inl b)=(a==b):=by
 by_cases e:a=b
 ·subst e;simp
 ·have h:¬ (Sum.inl a:Key)=Sum.inl b:=fun q=>e (Sum.inl.inj q)
  rw [decide_eq_false h]
  exact (beq_eq_false_iff_ne.mpr e).symm
theorem qLJ (a b:Str):decide ((Sum.inr a:Key)=Sum.inr b)=decide (a=b):=by
 by_cases e:a=b
 ·subst e;simp
 ·have h:¬ (Sum.inr a:Key)=Sum.inr b:=fun q=>e (Sum.inr.inj q)
  rw [decide_eq_false h,decide_eq_false e]
theorem qLq (a:Int) (b:Str):decide ((Sum.inl a:Key)=Sum.inr b)=false:=decide_eq_false (fun q=>nomatch q)
theorem qKa (a:Str) (b:Int):decide ((Sum.inr a:Key)=Sum.inl b)=false:=decide_eq_false (fun q=>nomatch q)
noncomputable def qAu (prog:Program) (w:World):PySem.KeyKind prog w Key where
 is:=qGA
 hash:=qO8 w
 inj:=fun v a b ha hb=>by
  rcases qAb ha with ⟨i,t,rfl,rfl⟩ | ⟨x,t,rfl,rfl⟩
  ·rcases qAb hb with ⟨j,u,rfl,e⟩ | ⟨y,u,rfl,e⟩
   ·injection e with e1 _;rw [e1]
   ·exact nomatch e
  ·rcases qAb hb with ⟨j,u,rfl,e⟩ | ⟨y,u,rfl,e⟩
   ·exact nomatch e
   ·injection e with e1 _;rw [e1]
 byValue:=fun k v h=>by
  rcases qAb h with ⟨i,t,rfl,rfl⟩ | ⟨x,t,rfl,rfl⟩<;>rfl
 pyHash:=fun hv h=>by
  rcases qAb hv with ⟨i,t,rfl,rfl⟩ | ⟨x,t,rfl,rfl⟩
  ·exact wpAny_pyHash_int h
  ·exact wpAny_pyHash_str h
 eqBool:=fun hu hv h=>by
  rcases qAb hu with ⟨i,t,rfl,rfl⟩ | ⟨x,t,rfl,rfl⟩
  ·rcases qAb hv with ⟨j,u,rfl,rfl⟩ | ⟨y,u,rfl,rfl⟩
   ·rw [qK4] at h;exact wpAny_eqBool_int h
   ·rw [qLq] at h;exact SeqAt.EqAt.int_str i t y u _ _ _ _ h
  ·rcases qAb hv with ⟨j,u,rfl,rfl⟩ | ⟨y,u,rfl,rfl⟩
   ·rw [qKa] at h;exact SeqAt.EqAt.str_int x t j u _ _ _ _ h
   ·rw [qLJ] at h;exact wpAny_eqBool_str h
 «strs»:=fun k x t v h=>by
  rcases qAb h with ⟨i,u,rfl,e⟩ | ⟨y,u,rfl,e⟩
  ·exact nomatch e
  ·injection e with e1 _
   subst e1
   cases v<;>rfl
theorem qE0 (prog:Program) (w:World) (i:Int) (t:Tok):(qAu prog w).is (.inl i) (.int i t)=true:=qGS i t
theorem qEo (prog:Program) (w:World) (x:Str) (t:Tok):(qAu prog w).is (.inr x) (.str x t)=true:=qGW x t
open PySem PySem.Spec PyProof.Rows
inductive V where
 | non | bl (b:Bool) | int (i:Int) | str (x:Str) | byt (b:Array UInt8) | flt (b:UInt64) | ref (a:Addr) | ty (n:String)
 deriving DecidableEq
noncomputable def RelV:V -> Value -> Prop
 | .non,u=>u=Value.none
 | .bl b,u=>u=Value.bool b
 | .int i,u=>∃ t,u=Value.int i t
 | .str x,u=>∃ t,u=Value.str x t
 | .byt b,u=>∃ t,u=Value.bytes b t
 | .flt b,u=>∃ t,u=Value.float b t
 | .ref a,u=>u=Value.ref a
 | .ty n,u=>u=Value.type n
noncomputable abbrev Vals:List V -> List Value -> Prop:=Paired RelV
theorem Vals.length {xs:List V} {us:List Value} (r:Vals xs us):xs.length=us.length:=Paired.length r
theorem Vals.get:∀ {xs:List V} {us:List Value} {i:Nat} {x:V},Vals xs us -> xs[i]?=some x -> ∃ u,us[i]?=some u/\RelV x u
 | _,_,_,_,.nil,e=>by simp at e
 | _,_,0,_,.cons r _,e=>by simp at e;subst e;exact ⟨_,rfl,r⟩
 | _,_,i + 1,x,.cons _ t,e=>by
  obtain ⟨u,h1,h2⟩:=Vals.get (i:=i) (x:=x) t (by simpa using e)
  exact ⟨u,by simpa using h1,h2⟩
theorem Vals.set {x:V} {u:Value} (r:RelV x u):∀ {xs:List V} {us:List Value} (i:Nat),Vals xs us -> Vals (xs.set i x) (us.set i u)
 | _,_,_,.nil=>.nil
 | _,_,0,.cons _ t=>.cons r t
 | _,_,i + 1,.cons q t=>.cons q (Vals.set r i t)
theorem Vals.append:∀ {xs ys:List V} {us ws:List Value},Vals xs us -> Vals ys ws -> Vals (xs++ys) (us++ws)
 | _,_,_,_,.nil,s=>s
 | _,_,_,_,.cons r t,s=>.cons r (Vals.append t s)
theorem Vals.take:∀ {xs:List V} {us:List Value} (n:Nat),Vals xs us -> Vals (xs.take n) (us.take n)
 | _,_,0,_=>.nil
 | _,_,_ + 1,.nil=>.nil
 | _,_,n + 1,.cons r t=>.cons r (Vals.take n t)
theorem Vals.drop:∀ {xs:List V} {us:List Value} (n:Nat),Vals xs us -> Vals (xs.drop n) (us.drop n)
 | _,_,0,r=>r
 | _,_,_ + 1,.nil=>.nil
 | _,_,n + 1,.cons _ t=>Vals.drop n t
noncomputable def RelO:Option V -> Option Value -> Prop
 | some v,some u=>RelV v u
 | none,none=>True
 | _,_=>False
noncomputable def KV {κ:Type}:List (κ×V) -> List (κ×Value) -> Prop:=Paired fun (p:κ×V) (q:κ×Value)=>p.1=q.1/\RelV p.2 q.2
noncomputable def kV:Key -> V
 | .inl i=>.int i
 | .inr x=>.str x
inductive HO where
 | lst (xs:List V)
 | tup (xs:List V)
 | dK (kvs:List (Key×V)) | dT (kvs:List (List Key×V))
 | set (S:Int -> Bool) (n:Nat)
 | ins (C dx:Addr) (fs:List (Str×V))
 | own (x:Addr)
 | xd (fs:List (Str×V))
 | met (f x:Addr)
 | rng (lo hi:Int)
 | frz (o:Obj) (u:HO)
 | tbl (ps:Array Value)
 | ext (φ:Heap -> Prop)
noncomputable abbrev Hp:=Addr -> Option HO
noncomputable def upd (H:Hp) (a:Addr) (o:HO):Hp:=fun b=>if b=a then some o else H b
theorem qAL {H:Hp} {a:Addr} {o:HO}:upd H a o a=some o:=by unfold upd;rw [if_pos rfl]
theorem qAJ {H:Hp} {a b:Addr} {o:HO} (h:b≠a):upd H a o b=H b:=by unfold upd;rw [if_neg h]
theorem qMT {H:Hp} {a b:Addr} {o u:HO} (h:H a=some o) (h':H b=some u) (d:o≠u):a≠b:=by
 intro e;subst e;rw [h] at h';exact d (Option.some.inj h')
theorem ne_of_none {H:Hp} {a b:Addr} {o:HO} (h:H a=some o) (h':H b=none):a≠b:=by
 intro e;subst e;rw [h] at h';cases h'
section
variable (P:Program) (w:World)
noncomputable def ObjOk (H:Hp) (h:Heap) (a:Addr):HO -> Prop
 | .lst xs=>xs.length<=sizeLine/\∃ (its:List Value) (n:Nat),Vals xs its/\h.get? a=some { cls:=.type "list",data:=.seq its.toArray n }
 | .tup xs=>xs.length<=sizeLine/\∃ its:List Value,Vals xs its/\IsTup h a its.toArray
 | .dK kvs=>kvs.length<=sizeLine/\(a==sysModules)=false/\∃ vs,KV kvs vs/\h.DictOf (qAu P w) a vs
 | .dT kvs=>kvs.length<=sizeLine/\(a==sysModules)=false/\∃ xs:List (List Key×Addr×Value),
   Paired (fun (p:List Key×V) (q:List Key×Addr×Value)=>p.1=q.1/\H q.2.1=some (.tup (p.1.map kV))/\RelV p.2 q.2.2) kvs xs/\
   ∃ o es ep,h.get? a=some o/\o.ExactDict/\o.data=.dict es ep/\es.toList=xs.map (entryOfKey (tupleKind (qAu P w)))/\(xs.map (·.1)).Nodup
 | .set S n=>h.SetOf (intKind P w) a S n
 | .ins C dx fs=>H dx=some (.own a)/\fs.length<=1000/\dx≠a/\h.get? a=some (PySem.W.instObj C dx)/\
   ∃ mA,h.Ns1 dx mA/\(∀ f,RelO (fs.lookup f) (mA f))/\PySem.Within mA (fs.map (·.1))
 | .own _=>∃ o,h.get? a=some o
 | .xd fs=>∃ mA,h.Ns1 a mA/\∀ f,RelO (fs.lookup f) (mA f)
 | .rng lo hi=>∃ t u v,h.get? a=some { cls:=.type "range",data:=.fields #[.int lo t,.int hi u,.int 1 v] }
 | .frz o u=>h.get? a=some o/\ObjOk H h a u
 | .tbl ps=>h.get? a=some { cls:=.none,data:=.fields ps }
 | .met f x=>h.get? a=some (PySem.W.methodObj (.ref f) (.ref x))
 | .ext φ=>φ h/\(∃ o,h.get? a=some o)/\∀ h1 h2:Heap,φ h1 -> (∀ o,h1.get? a=some o -> h2.get? a=some o) -> φ h2
noncomputable def HOk (H:Hp) (h:Heap):Prop:=∀ a o,H a=some o -> ObjOk P w H h a o
end
section
variable {P:Program} {w:World} {H H':Hp} {h h':Heap} {a:Addr} {o:HO}
theorem ObjOk.lt (x:ObjOk P w H h a o):a < h.objs.size:=by
 cases o with
 | lst xs=>obtain ⟨_,_,_,_,e⟩:=x;exact Heap.lt_size e
 | tup xs=>obtain ⟨_,_,_,p⟩:=x;exact p.lt
 | dK kvs=>obtain ⟨_,_,_,_,o,_,_,e,_⟩:=x;exact Heap.lt_size e
 | dT kvs=>obtain ⟨_,_,_,_,o,_,_,e,_⟩:=x;exact Heap.lt_size e
 | set S n=>obtain ⟨o,_,_,_,e,_⟩:=x;exact Heap.lt_size e
 | ins C dx fs=>obtain ⟨_,_,_,e,_⟩:=x;exact Heap.lt_size e
 | own y=>obtain ⟨_,e⟩:=x;exact Heap.lt_size e
 | xd fs=>obtain ⟨_,⟨_,_,_,e,_⟩,_⟩:=x;exact Heap.lt_size e
 | rng lo hi=>obtain ⟨_,_,_,e⟩:=x;exact Heap.lt_size e
 | frz ob u=>obtain ⟨e,_⟩:=x;exact Heap.lt_size e
 | tbl ps=>exact Heap.lt_size (show h.get? a=some _ from x)
 | met f y=>exact Heap.lt_size (show h.get? a=some _ from x)
 | ext φ=>obtain ⟨_,⟨_,e⟩,_⟩:=x;exact Heap.lt_size e
theorem Paired.mapP {α β:Type} {F G:α -> β -> Prop}:∀ {l₁:List α} {l₂:List β},Paired F l₁ l₂ -> (∀ a b,F a b -> G a b) -> Paired G l₁ l₂
 | _,_,.nil,_=>.nil
 | _,_,.cons r t,f=>.cons (f _ _ r) (Paired.mapP t f)
theorem ObjOk.stay (x:ObjOk P w H h a o) (k:∀ b u,(b=a\/H b=some (.own a)) -> h.get? b=some u -> h'.get? b=some u)
  (ho:∀ b,H b=some (.own a) -> H' b=some (.own a)) (ht:∀ b xs,H b=some (.tup xs) -> H' b=some (.tup xs)):ObjOk P w H' h' a o:=by
 induction o with
 | lst xs=>obtain ⟨z,its,n,r,e⟩:=x;exact ⟨z,its,n,r,k _ _ (.inl rfl) e⟩
 | tup xs=>obtain ⟨z,its,r,ob,e,c⟩:=x;exact ⟨z,its,r,ob,k _ _ (.inl rfl) e,c⟩
 | dK kvs=>obtain ⟨z,y,vs,r,ob,es,ep,e,c⟩:=x;exact ⟨z,y,vs,r,ob,es,ep,k _ _ (.inl rfl) e,c⟩
 | dT kvs=>
  obtain ⟨z,y,xs,r,ob,es,ep,e,c⟩:=x
  exact ⟨z,y,xs,Paired.mapP r fun p q z=>⟨z.1,ht _ _ z.2.1,z.2.2⟩,ob,es,ep,k _ _ (.inl rfl) e,c⟩
 | set S n=>obtain ⟨ob,es,ep,t,e,c⟩:=x;exact ⟨ob,es,ep,t,k _ _ (.inl rfl) e,c⟩
 | ins C dx fs=>
  obtain ⟨d,z,ne,e,mA,⟨od,es,ep,e2,c⟩,r⟩:=x
  exact ⟨ho _ d,z,ne,k _ _ (.inl rfl) e,mA,⟨od,es,ep,k _ _ (.inr d) e2,c⟩,r⟩
 | own y=>obtain ⟨ob,e⟩:=x;exact ⟨ob,k _ _ (.inl rfl) e⟩
 | xd fs=>obtain ⟨mA,⟨od,es,ep,e,c⟩,r⟩:=x;exact ⟨mA,⟨od,es,ep,k _ _ (.inl rfl) e,c⟩,r⟩
 | rng lo hi=>obtain ⟨t,u,v,e⟩:=x;exact ⟨t,u,v,k _ _ (.inl rfl) e⟩
 | frz ob u ih=>obtain ⟨e,q⟩:=x;exact ⟨k _ _ (.inl rfl) e,ih q⟩
 | tbl ps=>
  have e:h.get? a=some { cls:=.none,data:=.fields ps }:=x
  show h'.get? a=some { cls:=.none,data:=.fields ps }
  exact k a _ (.inl rfl) e
 | met f y=>
  have e:h.get? a=some (PySem.W.methodObj (.ref f) (.ref y)):=x
  show h'.get? a=some (PySem.W.methodObj (.ref f) (.ref y))
  exact k a _ (.inl rfl) e
 | ext φ=>obtain ⟨p,⟨o,e⟩,st⟩:=x;exact ⟨st _ _ p fun o q=>k _ _ (.inl rfl) q,⟨o,k _ _ (.inl rfl) e⟩,st⟩
theorem HOk.lt (x:HOk P w H h) (e:H a=some o):a < h.objs.size:=(x a o e).lt
theorem HOk.fresh (x:HOk P w H h) (e:h.objs.size<=a):H a=none:=by
 cases q:H a with
 | none=>rfl
 | some u=>exact absurd (Nat.lt_of_lt_of_le (x.lt q) e) (Nat.lt_irrefl _)
theorem HOk.kept (x:HOk P w H h) (k:∀ b u,h.get? b=some u -> h'.get? b=some u):HOk P w H h':=fun a o e=>
 (x a o e).stay (fun b u _ q=>k b u q) (fun _ q=>q) fun _ _ q=>q
theorem HOk.laid (x:HOk P w H h) (k:∀ b u,h.get? b=some u -> h'.get? b=some u) (hp:h.objs.size<=a) (new:ObjOk P w (upd H a o) h' a o):HOk P w (upd H a o) h':=fun b u e=>by
 have hn:=x.fresh hp
 by_cases hb:b=a
 ·subst hb;rw [qAL] at e;cases e;exact new
 ·rw [qAJ hb] at e
  exact (x b u e).stay (fun c v _ q=>k c v q) (fun c q=>by rw [qAJ (ne_of_none q hn)];exact q) fun c xs q=>by rw [qAJ (ne_of_none q hn)];exact q
end
noncomputable def Rd (H:Hp) (a:Addr) (u:HO):Prop:=H a=some u\/∃ o,H a=some (.frz o u)
theorem Rd.ok {P:Program} {w:World} {H:Hp} {h:Heap} {a:Addr} {u:HO} (r:Rd H a u) (x:HOk P w H h):ObjOk P w H h a u:=by
 rcases r with r | ⟨o,r⟩
 ·exact x a u r
 ·obtain ⟨_,q⟩:=x a _ r
  exact q
noncomputable def Mut:Option HO -> Prop
 | some (.lst _)=>True
 | some (.dK _)=>True
 | some (.dT _)=>True
 | some (.set _ _)=>True
 | some (.ins _ _ _)=>True
 | some (.ext _)=>True
 | _=>False
section
variable {P:Program} {w:World} {H:Hp} {h h':Heap} {x e:Addr} {o':HO}
theorem HOk.write (ok:HOk P w H h) (mu:Mut (H x)) (he:e=x\/H e=some (.own x)) (k:∀ b u,b≠e -> h.get? b=some u -> h'.get? b=some u) (heo:∃ u,h'.get? e=some u)
  (new:ObjOk P w (upd H x o') h' x o'):HOk P w (upd H x o') h':=fun b u q=>by
 have nown:∀ c y,H c=some (.own y) -> c≠x:=fun c y r z=>by subst z;rw [r] at mu;exact mu
 have ntup:∀ c xs,H c=some (.tup xs) -> c≠x:=fun c xs r z=>by subst z;rw [r] at mu;exact mu
 by_cases hb:b=x
 ·subst hb;rw [qAL] at q;cases q;exact new
 ·rw [qAJ hb] at q
  by_cases hbe:b=e
  ·have q':H b=some (.own x):=by
    rcases he with z | z
    ·exact absurd (hbe.trans z) hb
    ·rw [hbe];exact z
   rw [q] at q';cases q'
   obtain ⟨v,hv⟩:=heo
   exact ⟨v,by rw [hbe];exact hv⟩
  ·refine (ok b u q).stay (fun c v hc r=>k c v ?_ r) (fun c r=>by rw [qAJ (nown c b r)];exact r) fun c xs r=>by rw [qAJ (ntup c xs r)];exact r
   rcases hc with rfl | hc
   ·exact hbe
   ·rintro rfl
    rcases he with z | z
    ·exact nown c b hc z
    ·rw [hc] at z;cases z;exact hb rfl
end
structure Un (fs ex:List Addr) (H H':Hp) (h h':Heap):Prop where
 keep:∀ b o,h.get? b=some o -> H b=none -> b∉fs -> b∉ex -> h'.get? b=some o
 slot:∀ b o,h.get? b=some o -> H b=none -> b∈fs -> b∉ex -> ∃ sl,h'.get? b=some { o with slots:=sl }
 free:∀ b o,h.get? b=some o -> H b=none -> b∉ex -> H' b=none
 there:∀ b o,h.get? b=some o -> b∉ex -> ∃ o',h'.get? b=some o'
 tups:∀ b xs,H b=some (.tup xs) -> H' b=some (.tup xs)
 frzs:∀ b o u,H b=some (.frz o u) -> H' b=some (.frz o u)
 tbls:∀ b ps,H b=some (.tbl ps) -> ∃ more,H' b=some (.tbl (ps++more))
section
variable {fs fs' ex ex':List Addr} {H H1 H2:Hp} {h h1 h2 h':Heap} {a x e:Addr} {o:HO}
theorem Un.any (u:Un fs ex H H1 h h1) {b:Addr} {ob:Obj} (q:h.get? b=some ob) (n:H b=none) (hx:b∉ex):∃ sl,h1.get? b=some { ob with slots:=sl }:=by
 by_cases hb:b∈fs
 ·exact u.slot b ob q n hb hx
 ·exact ⟨ob.slots,u.keep b ob q n hb hx⟩
theorem Un.kept (k:∀ b u,h.get? b=some u -> h'.get? b=some u):Un fs ex H H h h':=
 ⟨fun b ob q _ _ _=>k b ob q,fun b ob q _ _ _=>⟨ob.slots,k b ob q⟩,fun _ _ _ n _=>n,fun b ob q _=>⟨ob,k b ob q⟩,fun _ _ q=>q,fun _ _ _ q=>q,fun _ ps q=>⟨#[],by rw [q];simp⟩⟩
theorem Un.refl:Un fs ex H H h h:=Un.kept fun _ _ q=>q
theorem Un.laid (k:∀ b u,h.get? b=some u -> h'.get? b=some u) (hp:h.objs.size<=a) (hn:H a=none):Un fs ex H (upd H a o) h h' where
 keep:=fun b u q _ _ _=>k b u q
 slot:=fun b u q _ _ _=>⟨u.slots,k b u q⟩
 free:=fun b u q n _=>by rw [qAJ (Nat.ne_of_lt (Nat.lt_of_lt_of_le (Heap.lt_size q) hp))];exact n
 there:=fun b u q _=>⟨u,k b u q⟩
 tups:=fun b xs q=>by rw [qAJ (ne_of_none q hn)];exact q
 frzs:=fun b u xs q=>by rw [qAJ (ne_of_none q hn)];exact q
 tbls:=fun b ps q=>⟨#[],by rw [qAJ (ne_of_none q hn),q];simp⟩
theorem Un.write (mu:Mut (H x)) (he:e=x\/H e=some (.own x)) (k:∀ b u,b≠e -> h.get? b=some u -> h'.get? b=some u) (heo:∃ u,h'.get? e=some u):Un fs ex H (upd H x o) h h':=by
 have hx:∀ b,H b=none -> b≠x:=fun b n z=>by subst z;rw [n] at mu;exact mu
 have hb:∀ b,H b=none -> b≠e:=fun b n z=>by
  subst z
  rcases he with r | r
  ·exact hx b n r
  ·rw [n] at r;cases r
 have hm:∀ b u,H b=some u -> ¬ Mut (some u) -> b≠x:=fun b u q nm z=>by subst z;rw [q] at mu;exact nm mu
 refine ⟨fun b u q n _ _=>k b u (hb b n) q,fun b u q n _ _=>⟨u.slots,k b u (hb b n) q⟩,fun b u q n _=>by rw [qAJ (hx b n)];exact n,fun b u q _=>?_,
  fun b xs q=>by rw [qAJ (hm b _ q fun z=>z)];exact q,fun b u xs q=>by rw [qAJ (hm b _ q fun z=>z)];exact q,fun b ps q=>⟨#[],by rw [qAJ (hm b _ q fun z=>z),q];simp⟩⟩
 by_cases hbe:b=e
 ·subst hbe;exact heo
 ·exact ⟨u,k b u hbe q⟩
end
noncomputable def trk (h:Heap) (H:Hp):List Addr:=(List.range h.objs.size).filter fun a=>(H a).isSome
noncomputable def qH6 (h:Heap) (H:Hp):Heap:=PySem.W.hideAll h (trk h H)
theorem qGe (h:Heap) (H:Hp):(qH6 h H).objs.size=h.objs.size:=PySem.W.hideAll_size _ _
theorem qH4 {h:Heap} {H:Hp} {b:Addr} {o:Obj} (e:h.get? b=some o) (n:H b=none):(qH6 h H).get? b=some o:=
 PySem.W.hideAll_get _ e fun hm=>by
  have q:(H b).isSome=true:=(List.mem_filter.mp hm).2
  rw [n] at q;simp at q
theorem qJw {h:Heap} {H:Hp} {b:Addr} {o:Obj} (e:(qH6 h H).get? b=some o):h.get? b=some o/\H b=none:=by
 have e':h.get? b=some o:=PySem.W.of_hideAll (trk h H) e
 refine ⟨e',?_⟩
 cases q:H b with
 | none=>rfl
 | some x=>
  have hm:b∈trk h H:=List.mem_filter.mpr ⟨List.mem_range.mpr (Heap.lt_size e'),by simp [q]⟩
  have z:(qH6 h H).get? b=none:=PySem.W.hideAll_none (trk h H) hm
  rw [z] at e;cases e
noncomputable def qJ7 (g h:Heap) (L:Addr):List (Addr×Obj):=(List.range h.objs.size).filterMap fun a=>if a=L\/(g.get? a).isSome=true then none else (h.get? a).map fun o=>(a,o)
noncomputable def qBp (g h:Heap) (L d:Addr):List (Addr×Obj):=(qJ7 g h L).filter fun p=>decide (p.1≠d)
open PySem PySem.Spec PyProof.Rows
structure Mod (K:PySem.W.Frag) (mg:Str -> Option Value) (base:Heap):Prop where
 kin:K.In base
 glob:base.Ns mainGlobals mg
 blt:∃ mb,base.Ns builtinsNs mb/\∀ x:Str,x≠"__name__" -> mb x=bootBuiltins x
 nolimit:base.NoLimit
structure Cx where
 prog:Program
 w:World
 K:PySem.W.Frag
 mg:Str -> Option Value
 base:Heap
 A:Around
 N:List Str
 s₀:Shared
 H₀:Hp
 env:Env
 outer:List Env
 stack:List Env
 ex:List Addr
 fn:Str -> Bool
 calm:Bool
 pn:List (Addr×Obj)
 xe:Value -> Shared -> Prop
noncomputable def frs (l:List Env):List Addr:=l.filterMap (·.frame)
noncomputable abbrev Cx.fs (X:Cx):List Addr:=frs X.outer
noncomputable def Vis (sc:Scope) (x:Str):Prop:=sc.names.lookup x=some .local\/sc.names.lookup x=some .cell\/sc.names.lookup x=some .free
noncomputable def Loc (sc:Scope) (x:Str):Prop:=sc.names.lookup x=some .local\/sc.names.lookup x=some .cell
noncomputable def qOe (env:Env) (h:Heap) (m:Str -> Option Value) (x:Str) (u:Value):Prop:=
 (env.kindOf x=some .local/\m x=some u)\/((env.kindOf x=some .cell\/env.kindOf x=some .free)/\∃ c,env.cells.lookup x=some c/\h.IsCell c (some u))
structure Cx.Ok (X:Cx):Prop where
 mod:Mod X.K X.mg X.base
 kind:X.env.scope.kind=.function
 glob:X.env.globals=mainGlobals
 blt:X.env.builtins=builtinsNs
 above:X.s₀.heap.objs.size<=X.env.locals
 inj:∀ x y c,X.env.cells.lookup x=some c -> X.env.cells.lookup y=some c -> x=y
 has:∀ x,(X.env.kindOf x=some .cell\/X.env.kindOf x=some .free) -> ∃ c,X.env.cells.lookup x=some c
 cab:∀ x c,X.fn x=true -> X.env.cells.lookup x=some c -> X.s₀.heap.objs.size<=c
 hd:X.calm=true -> X.A.handled=none
 frames:X.A.frames=some X.stack
 stk:X.stack=X.outer\/(X.stack=X.env::X.outer/\X.env.frame=some X.env.locals)
 exf:∀ b∈X.ex,b≠X.env.locals/\∀ x c,X.env.cells.lookup x=some c -> c≠b
 bs:∀ b o,X.base.get? b=some o -> X.s₀.heap.get? b=some o/\X.H₀ b=none
 bsz:X.base.objs.size<=X.s₀.heap.objs.size
 noex:∀ b o,X.base.get? b=some o -> b∉X.ex
 exfs:∀ b∈X.ex,b∉X.fs
 funs:X.s₀.heap.FunFrames X.base X.outer
 frf:∀ b∈X.fs,X.H₀ b=none
structure Inv (X:Cx) (pins:List (Addr×Obj)) (σ:List (Option V)) (H:Hp) (s:Shared):Prop where
 ok:X.Ok
 os:s.os=X.s₀.os
 bare:AllBare s.gens
 base:Un X.fs X.ex X.H₀ H X.s₀.heap s.heap
 loc:∃ m,s.heap.Ns X.env.locals m/\∀ (i:Nat) (x:Str) (v:V),X.N[i]?=some x -> σ[i]?=some (some v) -> Vis X.env.scope x -> ∃ u,RelV v u/\qOe X.env s.heap m x u
 cell:∀ x c,X.env.cells.lookup x=some c -> ∃ v,s.heap.IsCell c v
 free:H X.env.locals=none
 freeC:∀ x c,X.env.cells.lookup x=some c -> H c=none
 pin:∀ p∈X.pn++pins,s.heap.get? p.1=some p.2/\H p.1=none/\p.1≠X.env.locals/\p.1∉X.fs/\∀ v,p.2.data≠.cell v
 hok:HOk X.prog X.w H s.heap
 len:σ.length=X.N.length
section
variable {X:Cx} {pins:List (Addr×Obj)} {σ:List (Option V)} {H H':Hp} {s:Shared} {h':Heap}
theorem Cx.Ok.nofr (ok:X.Ok) {b:Addr} {o:Obj} (e:X.base.get? b=some o):b∉X.fs:=fun hb=>by
 have:=(ok.funs.mem hb).1
 rw [e] at this;cases this
theorem Inv.bs (I:Inv X pins σ H s):∀ b o,X.base.get? b=some o -> s.heap.get? b=some o/\H b=none:=fun b o e=>
 ⟨I.base.keep b o (I.ok.bs b o e).1 (I.ok.bs b o e).2 (I.ok.nofr e) (I.ok.noex b o e),I.base.free b o (I.ok.bs b o e).1 (I.ok.bs b o e).2 (I.ok.noex b o e)⟩
theorem Inv.bk (I:Inv X pins σ H s):∀ b o,X.base.get? b=some o -> s.heap.get? b=some o:=fun b o e=>(I.bs b o e).1
theorem Inv.mod (I:Inv X pins σ H s):Mod X.K X.mg X.base:=I.ok.mod
theorem Inv.kIn (I:Inv X pins σ H s):X.K.In s.heap:=I.ok.mod.kin.keeps I.bk
theorem Inv.lt (I:Inv X pins σ H s):X.env.locals < s.heap.objs.size:=let ⟨_,hn,_⟩:=I.loc;hn.lt
theorem Inv.sz (I:Inv X pins σ H s):X.s₀.heap.objs.size<=s.heap.objs.size:=Nat.le_trans I.ok.above (Nat.le_of_lt I.lt)
theorem Inv.nofs (I:Inv X pins σ H s) {a:Addr} (h:s.heap.objs.size<=a):a∉X.fs:=fun hb=>by
 obtain ⟨_,o,ho,_⟩:=I.ok.funs.mem hb
 exact absurd (Nat.lt_of_lt_of_le (Heap.lt_size ho) (Nat.le_trans I.sz h)) (Nat.lt_irrefl _)
theorem Inv.cne (I:Inv X pins σ H s):∀ x c,X.env.cells.lookup x=some c -> c≠X.env.locals:=fun x c e z=>by
 obtain ⟨v,o,ho,hd⟩:=I.cell x c e
 obtain ⟨m,⟨o',es,ep,ho',hd',_⟩,_⟩:=I.loc
 rw [z,ho'] at ho;cases ho;rw [hd'] at hd;cases hd
theorem Inv.funs (I:Inv X pins σ H s):s.heap.FunFrames X.base X.outer:=by
 have all:∀ (l:List Env),(∀ b∈frs l,b∈X.fs) -> X.s₀.heap.FunFrames X.base l -> s.heap.FunFrames X.base l:=by
  intro l
  induction l with
  | nil=>intro _ _;trivial
  | cons env r ih=>
   intro hs hl
   obtain ⟨hk,⟨L,o,hf,hn,ho,hd⟩,hr⟩:=hl
   have hL:L∈X.fs:=hs L (by unfold frs;rw [List.filterMap_cons,hf];exact List.mem_cons_self)
   obtain ⟨sl,e⟩:=I.base.slot L o ho (I.ok.frf L hL) hL fun z=>I.ok.exfs L z hL
   exact ⟨hk,⟨L,_,hf,hn,e,hd⟩,ih (fun b hb=>hs b (by unfold frs;rw [List.filterMap_cons,hf];exact List.mem_cons_of_mem _ hb)) hr⟩
 exact all X.outer (fun _ hb=>hb) I.ok.funs
theorem Inv.stack (I:Inv X pins σ H s):s.heap.FunFrames X.base X.stack:=by
 rcases I.ok.stk with e | ⟨e,hf⟩
 ·rw [e];exact I.funs
 ·rw [e]
  obtain ⟨m,hn,_⟩:=I.loc
  refine .cons (by rw [I.ok.kind];decide) hf hn ?_ I.funs
  exact Heap.get?_none_of_le (Nat.le_trans I.ok.bsz I.ok.above)
theorem Inv.stkSub (I:Inv X pins σ H s):∀ b∈frs X.stack,b∈X.env.locals::X.fs:=fun b hb=>by
 rcases I.ok.stk with e | ⟨e,hf⟩
 ·rw [e] at hb;exact List.mem_cons_of_mem _ hb
 ·rw [e] at hb
  unfold frs at hb
  rw [List.filterMap_cons,hf] at hb
  exact hb
theorem Inv.stkFree (I:Inv X pins σ H s):∀ b∈frs X.stack,H b=none:=fun b hb=>by
 rcases List.mem_cons.mp (I.stkSub b hb) with e | hb
 ·rw [e];exact I.free
 ·obtain ⟨_,o,ho,_⟩:=I.ok.funs.mem hb
  exact I.base.free b o ho (I.ok.frf b hb) fun z=>I.ok.exfs b z hb
theorem Inv.step {g':Array GenState} {t':Nat} {d':Drawn} {ch:List Addr} (I:Inv X pins σ H s)
  (hch:∀ b∈ch,(b∈X.ex\/X.s₀.heap.objs.size<=b)/\b≠X.env.locals/\(∀ x c,X.env.cells.lookup x=some c -> c≠b)/\∀ p∈X.pn++pins,p.1≠b)
  (keep:∀ b o,b≠X.env.locals -> b∉X.fs -> b∉ch -> s.heap.get? b=some o -> H b=none -> h'.get? b=some o)
  (slot:∀ b o,b≠X.env.locals -> b∈X.fs -> b∉ch -> s.heap.get? b=some o -> H b=none -> ∃ sl,h'.get? b=some { o with slots:=sl }) (free:∀ b o,b∉ch -> s.heap.get? b=some o -> H b=none -> H' b=none)
  (there:∀ b o,b∉ch -> s.heap.get? b=some o -> ∃ o',h'.get? b=some o')
  (tups:∀ b xs,H b=some (.tup xs) -> H' b=some (.tup xs)) (frzs:∀ b o u,H b=some (.frz o u) -> H' b=some (.frz o u)) (tbls:∀ b ps,H b=some (.tbl ps) -> ∃ more,H' b=some (.tbl (ps++more)))
  (ns:∀ m,s.heap.Ns X.env.locals m -> h'.Ns X.env.locals m) (hok:HOk X.prog X.w H' h') (hg:AllBare g'):
  Inv X pins σ H' { s with heap:=h',gens:=g',drawn:=d',toks:=t' }:=by
 have neL:∀ b o,X.s₀.heap.get? b=some o -> b≠X.env.locals:=fun b o e=>Nat.ne_of_lt (Nat.lt_of_lt_of_le (Heap.lt_size e) I.ok.above)
 have neC:∀ b o,X.s₀.heap.get? b=some o -> b∉X.ex -> b∉ch:=fun b o e hx hb=>by
  rcases (hch b hb).1 with z | z
  ·exact hx z
  ·exact absurd (Nat.lt_of_lt_of_le (Heap.lt_size e) z) (Nat.lt_irrefl _)
 have cellK:∀ x c,X.env.cells.lookup x=some c -> ∀ v,s.heap.IsCell c v -> h'.IsCell c v:=fun x c e v ⟨o,ho,hd⟩=>by
  have nch:c∉ch:=fun z=>(hch c z).2.2.1 x c e rfl
  by_cases hc:c∈X.fs
  ·obtain ⟨sl,q⟩:=slot c o (I.cne x c e) hc nch ho (I.freeC x c e)
   exact ⟨_,q,hd⟩
  ·exact ⟨o,keep c o (I.cne x c e) hc nch ho (I.freeC x c e),hd⟩
 refine ⟨I.ok,I.os,hg,⟨fun b o e n hb hx=>?_,fun b o e n hb hx=>?_,fun b o e n hx=>?_,fun b o e hx=>?_,fun b xs e=>tups b xs (I.base.tups b xs e),fun b o xs e=>frzs b o xs (I.base.frzs b o xs e),fun b ps e=>?_⟩,?_,fun x c e=>?_,?_,fun x c e=>?_,fun p hp=>?_,hok,I.len⟩
 ·exact keep b o (neL b o e) hb (neC b o e hx) (I.base.keep b o e n hb hx) (I.base.free b o e n hx)
 ·obtain ⟨sl,e1⟩:=I.base.slot b o e n hb hx
  obtain ⟨sl',e2⟩:=slot b _ (neL b o e) hb (neC b o e hx) e1 (I.base.free b o e n hx)
  exact ⟨sl',e2⟩
 ·obtain ⟨o',e1⟩:=I.base.there b o e hx
  exact free b o' (neC b o e hx) e1 (I.base.free b o e n hx)
 ·obtain ⟨o',e1⟩:=I.base.there b o e hx
  exact there b o' (neC b o e hx) e1
 ·obtain ⟨m1,e1⟩:=I.base.tbls b ps e
  obtain ⟨m2,e2⟩:=tbls b _ e1
  exact ⟨m1++m2,by rw [e2,Array.append_assoc]⟩
 ·obtain ⟨m,hn,hl⟩:=I.loc
  refine ⟨m,ns m hn,fun i x v e1 e2 e3=>?_⟩
  obtain ⟨u,r,l⟩:=hl i x v e1 e2 e3
  refine ⟨u,r,?_⟩
  rcases l with l | ⟨k,c,e,z⟩
  ·exact .inl l
  ·exact .inr ⟨k,c,e,cellK x c e _ z⟩
 ·obtain ⟨v,z⟩:=I.cell x c e
  exact ⟨v,cellK x c e v z⟩
 ·obtain ⟨m,⟨o,_,_,ho,_⟩,_⟩:=I.loc
  exact free _ o (fun z=>(hch _ z).2.1 rfl) ho I.free
 ·obtain ⟨v,o,ho,hd⟩:=I.cell x c e
  exact free c o (fun z=>(hch c z).2.2.1 x c e rfl) ho (I.freeC x c e)
 ·obtain ⟨e,n,ne,nf,d⟩:=I.pin p hp
  have nch:p.1∉ch:=fun z=>(hch p.1 z).2.2.2 p hp rfl
  exact ⟨keep p.1 p.2 ne nf nch e n,free p.1 p.2 nch e n,ne,nf,d⟩
theorem Inv.un {t':Nat} (I:Inv X pins σ H s) (u:Un X.fs [] H H' s.heap h') (hok:HOk X.prog X.w H' h'):Inv X pins σ H' { s with heap:=h',toks:=t' }:=by
 obtain ⟨m,⟨o,es,ep,ho,r⟩,_⟩:=id I.loc
 obtain ⟨sl,hL⟩:=u.any ho I.free (by simp)
 exact I.step (g':=s.gens) (d':=s.drawn) (ch:=[]) (fun _ z=>nomatch z) (fun b o _ hb _ e n=>u.keep b o e n hb (by simp)) (fun b o _ hb _ e n=>u.slot b o e n hb (by simp)) (fun b o _ e n=>u.free b o e n (by simp)) (fun b o _ e=>u.there b o e (by simp)) u.tups u.frzs u.tbls (fun m' hm=>by
  obtain ⟨o',es',ep',ho',r'⟩:=hm
  rw [ho] at ho';cases ho'
  exact ⟨_,es',ep',hL,r'⟩) hok I.bare
theorem Inv.call {g':Array GenState} {t':Nat} {d':Drawn} {ch:List Addr} (I:Inv X pins σ H s) (u:Un (frs X.stack) ch H H' s.heap h') (hok:HOk X.prog X.w H' h') (hg:AllBare g')
  (hch:∀ b∈ch,(b∈X.ex\/X.s₀.heap.objs.size<=b)/\b≠X.env.locals/\(∀ x c,X.env.cells.lookup x=some c -> c≠b)/\∀ p∈X.pn++pins,p.1≠b):
  Inv X pins σ H' { s with heap:=h',gens:=g',drawn:=d',toks:=t' }:=by
 obtain ⟨m,⟨o,es,ep,ho,r⟩,_⟩:=id I.loc
 obtain ⟨sl,hL⟩:=u.any ho I.free fun z=>(hch _ z).2.1 rfl
 exact I.step (ch:=ch) hch (fun b o hL hb hc e n=>u.keep b o e n (fun z=>(List.mem_cons.mp (I.stkSub b z)).elim hL hb) hc) (fun b o _ _ hc e n=>u.any e n hc) (fun b o hc e n=>u.free b o e n hc) (fun b o hc e=>u.there b o e hc) u.tups u.frzs u.tbls (fun m' hm=>by
  obtain ⟨o',es',ep',ho',r'⟩:=hm
  rw [ho] at ho';cases ho'
  exact ⟨_,es',ep',hL,r'⟩) hok hg
theorem Inv.turned {t':Nat} {it:Addr} (I:Inv X pins σ H s) (k:∀ b o,b≠it -> s.heap.get? b=some o -> h'.get? b=some o) (hn:H it=none) (hL:it≠X.env.locals)
  (h1:it∈X.ex\/X.s₀.heap.objs.size<=it) (h2:∀ x c,X.env.cells.lookup x=some c -> c≠it) (h3:∀ p∈X.pn++pins,p.1≠it):Inv X pins σ H { s with heap:=h',toks:=t' }:=by
 have nit:∀ b u,H b=some u -> b≠it:=fun b u e z=>by rw [z,hn] at e;cases e
 refine I.step (g':=s.gens) (d':=s.drawn) (ch:=[it]) (fun b hb=>?_) (fun b o _ _ hc e _=>k b o (fun z=>hc (by simp [z])) e) (fun b o _ _ hc e _=>⟨o.slots,k b o (fun z=>hc (by simp [z])) e⟩) (fun _ _ _ _ n=>n)
  (fun b o hc e=>⟨o,k b o (fun z=>hc (by simp [z])) e⟩) (fun _ _ e=>e) (fun _ _ _ e=>e) (fun b ps e=>⟨#[],by rw [e];simp⟩) (fun m hm=>?_) (fun b u e=>?_) I.bare
 ·have e:b=it:=by simpa using hb
  subst e
  exact ⟨h1,hL,h2,h3⟩
 ·obtain ⟨o,es,ep,ho,r⟩:=hm
  exact ⟨o,es,ep,k _ o (Ne.symm hL) ho,r⟩
 ·refine (I.hok b u e).stay (fun c v hc q=>k c v ?_ q) (fun _ q=>q) fun _ _ q=>q
  rcases hc with z | z
  ·rw [z];exact nit b u e
  ·exact nit c _ z
theorem Inv.tok (I:Inv X pins σ H s) (t:Nat):Inv X pins σ H { s with toks:=t }:=I.un (h':=s.heap) (t':=t) Un.refl I.hok
theorem Inv.kept {t':Nat} (I:Inv X pins σ H s) (k:∀ b u,s.heap.get? b=some u -> h'.get? b=some u):Inv X pins σ H { s with heap:=h',toks:=t' }:=I.un (Un.kept k) (I.hok.kept k)
theorem Inv.laid {a:Addr} {o:HO} {t':Nat} (I:Inv X pins σ H s) (k:∀ b u,s.heap.get? b=some u -> h'.get? b=some u) (hp:s.heap.objs.size<=a) (new:ObjOk X.prog X.w (upd H a o) h' a o):
  Inv X pins σ (upd H a o) { s with heap:=h',toks:=t' }:=I.un (Un.laid k hp (I.hok.fresh hp)) (I.hok.laid k hp new)
theorem Inv.write {x e:Addr} {o:HO} {t':Nat} (I:Inv X pins σ H s) (mu:Mut (H x)) (he:e=x\/H e=some (.own x)) (k:∀ b u,b≠e -> s.heap.get? b=some u -> h'.get? b=some u) (heo:∃ u,h'.get? e=some u)
  (new:ObjOk X.prog X.w (upd H x o) h' x o):Inv X pins σ (upd H x o) { s with heap:=h',toks:=t' }:=I.un (Un.write mu he k heo) (I.hok.write mu he k heo new)
theorem Inv.pins_of {pins':List (Addr×Obj)} (I:Inv X pins σ H s) (h:∀ p∈pins',s.heap.get? p.1=some p.2/\H p.1=none/\p.1≠X.env.locals/\p.1∉X.fs/\∀ v,p.2.data≠.cell v):Inv X pins' σ H s:=
 ⟨I.ok,I.os,I.bare,I.base,I.loc,I.cell,I.free,I.freeC,fun p hp=>(List.mem_append.mp hp).elim (fun z=>I.pin p (List.mem_append_left _ z)) (h p),I.hok,I.len⟩
theorem qFa {N:List Str} (hN:N.Nodup) {i j:Nat} {x:Str} (a:N[i]?=some x) (b:N[j]?=some x):i=j:=by
 obtain ⟨h1,e1⟩:=List.getElem?_eq_some_iff.mp a
 obtain ⟨h2,e2⟩:=List.getElem?_eq_some_iff.mp b
 exact (List.getElem_inj hN).mp (e1.trans e2.symm)
theorem qD6 {M:Model} {A:Around} {E:Value -> Shared -> Prop} {i:Nat} {x:Str} {v:V} {u:Value} {Q:Unit -> Shared -> Prop} (I:Inv X pins σ H s) (hN:X.N.Nodup) (hi:X.N[i]?=some x) (hx:Loc X.env.scope x) (r:RelV v u)
  (h:∀ s',Inv X pins (σ.set i (some v)) H s' -> (∃ a,Heap.SameBut a s.heap s'.heap/\(a=X.env.locals\/X.env.cells.lookup x=some a)) -> Q () s') (hf:X.fn x=true\/X.env.scope.names.lookup x=some .local:=by first | exact .inl rfl | exact .inr rfl | assumption):wpAny M A (storeName X.env x u) Q E s:=by
 obtain ⟨m,hn,hl⟩:=id I.loc
 have hcls:(X.env.scope.kind==.class||(X.env.scope.kind==.module&&X.env.locals != X.env.globals))=false:=by rw [I.ok.kind];rfl
 have hiσ:i < σ.length:=by rw [I.len];exact (List.getElem?_eq_some_iff.mp hi).1
 have cne:=I.cne
 have tracked:∀ {a:Addr} {h':Heap},(∃ o,s.heap.get? a=some o/\H a=none) -> Heap.SameBut a s.heap h' -> HOk X.prog X.w H h':=fun {a h'} ha hs b ob e=>by
  obtain ⟨_,_,hfree⟩:=ha
  refine (I.hok b ob e).stay (fun c w' hc q=>(hs.2 c ?_).trans q) (fun _ q=>q) fun _ _ q=>q
  rintro rfl
  rcases hc with rfl | hc
  ·rw [hfree] at e;cases e
  ·rw [hfree] at hc;cases hc
 rcases hx with hk | hk
 ·refine wpAny_storeName_local hk hn (fun h' hn' hs=>?_) hcls
  obtain ⟨oL,_,_,hoL,_⟩:=id hn
  refine h _ ⟨I.ok,I.os,I.bare,⟨fun b o e n hb hx=>?_,fun b o e n hb hx=>?_,I.base.free,fun b o e hx=>?_,I.base.tups,I.base.frzs,I.base.tbls⟩,⟨_,hn',fun j y v' e1 e2 e3=>?_⟩,fun y c e=>?_,I.free,I.freeC,fun p hp=>?_,tracked ⟨oL,hoL,I.free⟩ hs,by simpa using I.len⟩ ⟨_,hs,.inl rfl⟩
  ·exact (hs.2 b (Nat.ne_of_lt (Nat.lt_of_lt_of_le (Heap.lt_size e) I.ok.above))).trans (I.base.keep b o e n hb hx)
  ·obtain ⟨sl,e1⟩:=I.base.slot b o e n hb hx
   exact ⟨sl,(hs.2 b (Nat.ne_of_lt (Nat.lt_of_lt_of_le (Heap.lt_size e) I.ok.above))).trans e1⟩
  ·obtain ⟨o',e1⟩:=I.base.there b o e hx
   exact ⟨o',(hs.2 b (Nat.ne_of_lt (Nat.lt_of_lt_of_le (Heap.lt_size e) I.ok.above))).trans e1⟩
  ·by_cases hj:j=i
   ·subst hj
    rw [hi] at e1;cases e1
    rw [List.getElem?_set_self hiσ] at e2
    cases e2
    exact ⟨u,r,.inl ⟨hk,by simp⟩⟩
   ·rw [List.getElem?_set_ne (Ne.symm hj)] at e2
    obtain ⟨u',r',q⟩:=hl j y v' e1 e2 e3
    refine ⟨u',r',?_⟩
    rcases q with ⟨k,e⟩ | ⟨k,c,e,z⟩
    ·refine .inl ⟨k,?_⟩
     have:y≠x:=fun e=>hj (qFa hN e1 (e ▸ hi))
     simp [this,e]
    ·exact .inr ⟨k,c,e,z.sameBut hs (cne y c e)⟩
  ·obtain ⟨w',z⟩:=I.cell y c e
   exact ⟨w',z.sameBut hs (cne y c e)⟩
  ·obtain ⟨e,n,ne,nf,d⟩:=I.pin p hp
   exact ⟨(hs.2 p.1 ne).trans e,n,ne,nf,d⟩
 ·have hfn:X.fn x=true:=by
   rcases hf with z | z
   ·exact z
   ·rw [z] at hk;cases hk
  obtain ⟨c,hc⟩:=I.ok.has x (.inl hk)
  obtain ⟨w',z⟩:=I.cell x c hc
  refine wpAny_storeName_cell I.ok.kind hk hc z (fun h' hc' hs=>?_)
  obtain ⟨oc,hoc,hocd⟩:=id z
  refine h { s with heap:=h' } ⟨I.ok,I.os,I.bare,⟨fun b o e n hb hx=>?_,fun b o e n hb hx=>?_,I.base.free,fun b o e hx=>?_,I.base.tups,I.base.frzs,I.base.tbls⟩,⟨m,hn.sameBut hs (Ne.symm (cne x c hc)),fun j y v' e1 e2 e3=>?_⟩,fun y c' e=>?_,I.free,I.freeC,fun p hp=>?_,tracked ⟨oc,hoc,I.freeC x c hc⟩ hs,by simpa using I.len⟩ ⟨c,hs,.inr hc⟩
  ·exact (hs.2 b (Nat.ne_of_lt (Nat.lt_of_lt_of_le (Heap.lt_size e) (I.ok.cab x c hfn hc)))).trans (I.base.keep b o e n hb hx)
  ·obtain ⟨sl,e1⟩:=I.base.slot b o e n hb hx
   exact ⟨sl,(hs.2 b (Nat.ne_of_lt (Nat.lt_of_lt_of_le (Heap.lt_size e) (I.ok.cab x c hfn hc)))).trans e1⟩
  ·obtain ⟨o',e1⟩:=I.base.there b o e hx
   exact ⟨o',(hs.2 b (Nat.ne_of_lt (Nat.lt_of_lt_of_le (Heap.lt_size e) (I.ok.cab x c hfn hc)))).trans e1⟩
  ·by_cases hj:j=i
   ·subst hj
    rw [hi] at e1;cases e1
    rw [List.getElem?_set_self hiσ] at e2
    cases e2
    exact ⟨u,r,.inr ⟨.inl hk,c,hc,hc'⟩⟩
   ·rw [List.getElem?_set_ne (Ne.symm hj)] at e2
    obtain ⟨u',r',q⟩:=hl j y v' e1 e2 e3
    refine ⟨u',r',?_⟩
    rcases q with q | ⟨k,c',e,z'⟩
    ·exact .inl q
    ·refine .inr ⟨k,c',e,z'.sameBut hs ?_⟩
     rintro rfl
     exact hj (qFa hN e1 (I.ok.inj _ _ _ e hc ▸ hi))
  ·by_cases hcc:c'=c
   ·subst hcc;exact ⟨_,hc'⟩
   ·obtain ⟨w2,z2⟩:=I.cell y c' e
    exact ⟨w2,z2.sameBut hs hcc⟩
  ·obtain ⟨e,n,ne,nf,d⟩:=I.pin p hp
   refine ⟨(hs.2 p.1 ?_).trans e,n,ne,nf,d⟩
   intro q
   rw [q,hoc] at e
   have q':oc=p.2:=Option.some.inj e
   exact d w' (by rw [<- q'];exact hocd)
theorem qBK {M:Model} {A:Around} {E:Value -> Shared -> Prop} {i:Nat} {x:Str} {v:V} {u:Value} {Q:Unit -> Shared -> Prop} (I:Inv X pins σ H s) (hN:X.N.Nodup) (hi:X.N[i]?=some x) (hx:Loc X.env.scope x) (r:RelV v u)
  (h:∀ s',Inv X pins (σ.set i (some v)) H s' -> Q () s') (hf:X.fn x=true\/X.env.scope.names.lookup x=some .local:=by first | exact .inl rfl | exact .inr rfl | assumption):wpAny M A (storeName X.env x u) Q E s:=
 qD6 I hN hi hx r (fun s' I' _=>h s' I') hf
theorem Inv.call' {s':Shared} {ch:List Addr} (I:Inv X pins σ H s) (ho:s'.os=s.os) (u:Un (frs X.stack) ch H H' s.heap s'.heap) (hok:HOk X.prog X.w H' s'.heap) (hg:AllBare s'.gens)
  (hch:∀ b∈ch,(b∈X.ex\/X.s₀.heap.objs.size<=b)/\b≠X.env.locals/\(∀ x c,X.env.cells.lookup x=some c -> c≠b)/\∀ p∈X.pn++pins,p.1≠b):Inv X pins σ H' s':=by
 obtain ⟨h',g',d',t',o'⟩:=s'
 have e:o'=s.os:=ho
 subst e
 exact I.call (g':=g') (t':=t') (d':=d') u hok hg hch
end
noncomputable abbrev XK:=Value -> Option Addr -> Hp -> Prop
noncomputable abbrev St:=List (Option V)
noncomputable abbrev VK:=V -> Hp -> Prop
noncomputable abbrev TE:=St -> Hp -> VK -> Prop
noncomputable abbrev TT:=St -> Hp -> (Bool -> Hp -> Prop) -> Prop
noncomputable abbrev TA:=St -> Hp -> (List V -> Hp -> Prop) -> Prop
structure qGk where
 nx:St -> Hp -> Prop
 rt:VK
 bk:St -> Hp -> Prop:=fun _ _=>False
 ct:St -> Hp -> Prop:=fun _ _=>False
noncomputable abbrev TS:=qGk -> St -> Hp -> Prop
noncomputable def EP (X:Cx) (pins:List (Addr×Obj)) (σ:St) (Q:VK) (u:Value) (s':Shared):Prop:=∃ v H',Inv X pins σ H' s'/\RelV v u/\Q v H'
noncomputable def TP (X:Cx) (pins:List (Addr×Obj)) (σ:St) (Q:Bool -> Hp -> Prop) (b:Bool) (s':Shared):Prop:=∃ H',Inv X pins σ H' s'/\Q b H'
noncomputable def AP (X:Cx) (pins:List (Addr×Obj)) (σ:St) (Q:List V -> Hp -> Prop) (us:List Value) (s':Shared):Prop:=∃ vs H',Inv X pins σ H' s'/\Vals vs us/\Q vs H'
noncomputable def SP (X:Cx) (pins:List (Addr×Obj)) (D:qGk) (f:Flow) (s':Shared):Prop:=
 match f with
 | .next=>∃ σ' H',Inv X pins σ' H' s'/\D.nx σ' H'
 | .brk=>∃ σ' H',Inv X pins σ' H' s'/\D.bk σ' H'
 | .cont=>∃ σ' H',Inv X pins σ' H' s'/\D.ct σ' H'
 | .ret u=>∃ v σ' H',Inv X pins σ' H' s'/\RelV v u/\D.rt v H'
noncomputable def PE (X:Cx) (e:Expr) (t:TE):Prop:=
 ∀ (pins:List (Addr×Obj)) (s:Shared) (σ:St) (H:Hp) (Q:VK),Inv X pins σ H s -> t σ H Q -> wpAny (model X.prog X.w) X.A (eval e X.env) (EP X pins σ Q) X.xe s
noncomputable def PT (X:Cx) (e:Expr) (t:TT):Prop:=
 ∀ (pins:List (Addr×Obj)) (s:Shared) (σ:St) (H:Hp) (Q:Bool -> Hp -> Prop),Inv X pins σ H s -> t σ H Q -> wpAny (model X.prog X.w) X.A (isTrue e X.env (eval e X.env)) (TP X pins σ Q) X.xe s
noncomputable def PW (X:Cx) (e:Expr) (t:TT):Prop:=
 ∀ (whole:Sem Value) (pins:List (Addr×Obj)) (s:Shared) (σ:St) (H:Hp) (Q:Bool -> Hp -> Prop),Inv X pins σ H s -> t σ H Q -> wpAny (model X.prog X.w) X.A (isTrue e X.env whole) (TP X pins σ Q) X.xe s
theorem PW.pt {X:Cx} {e:Expr} {t:TT} (h:PW X e t):PT X e t:=h _
noncomputable def PA (X:Cx) (es:List Expr) (t:TA):Prop:=
 ∀ (pos:Pos) (pins:List (Addr×Obj)) (s:Shared) (σ:St) (H:Hp) (Q:List V -> Hp -> Prop),Inv X pins σ H s -> t σ H Q -> wpAny (model X.prog X.w) X.A (spliced (backTo pos (starEach es X.env))) (AP X pins σ Q) X.xe s
noncomputable def PS (X:Cx) (st:Stmt) (t:TS):Prop:=
 ∀ (pins:List (Addr×Obj)) (s:Shared) (σ:St) (H:Hp) (D:qGk),Inv X pins σ H s -> t D σ H -> wpAny (model X.prog X.w) X.A (exec st X.env) (SP X pins D) X.xe s
noncomputable def PSs (X:Cx) (st:List Stmt) (t:TS):Prop:=
 ∀ (pins:List (Addr×Obj)) (s:Shared) (σ:St) (H:Hp) (D:qGk),Inv X pins σ H s -> t D σ H -> wpAny (model X.prog X.w) X.A (execs st X.env) (SP X pins D) X.xe s
theorem thn {α:Type} {t:Sem α} {Q Q':α -> Shared -> Prop} {M:Model} {A:Around} {E:Value -> Shared -> Prop} {s:Shared} (h:wpAny M A t Q E s) (hQ:∀ a s,Q a s -> Q' a s):wpAny M A t Q' E s:=wpAny_mono h hQ fun _ _ x=>x
open PySem PySem.Spec PyProof.Rows
section
variable {X:Cx}
theorem bin {a b:Expr} {ta tb:TE} (ha:PE X a ta) (hb:PE X b tb) {pins:List (Addr×Obj)} {s:Shared} {σ:St} {H:Hp} {R:V -> V -> Hp -> Prop} (I:Inv X pins σ H s) (h:ta σ H fun x H1=>tb σ H1 fun y H2=>R x y H2)
  {α:Type} {Q:α -> Shared -> Prop} {f:Value -> Value -> Sem α}
  (hf:∀ v u s2 x y H2,Inv X pins σ H2 s2 -> RelV x v -> RelV y u -> R x y H2 -> wpAny (model X.prog X.w) X.A (f v u) Q X.xe s2):
  wpAny (model X.prog X.w) X.A (eval a X.env) (fun v s₁=>wpAny (model X.prog X.w) X.A (eval b X.env) (fun u s₂=>wpAny (model X.prog X.w) X.A (f v u) Q X.xe s₂) X.xe s₁) X.xe s:=by
 refine thn (ha pins s σ H _ I h) fun v s1 ⟨x,H1,I1,r1,q1⟩=>?_
 refine thn (hb pins s1 σ H1 _ I1 q1) fun u s2 ⟨y,H2,I2,r2,q2⟩=>?_
 exact hf v u s2 x y H2 I2 r1 r2 q2
noncomputable def qOn (i:Nat):TE:=fun σ H Q=>∃ v,σ[i]?=some (some v)/\Q v H
noncomputable def tC (v:V):TE:=fun _ H Q=>Q v H
theorem pe_var {i:Nat} {x:Str} {pos:Pos} (hN:X.N[i]?=some x) (hv:Vis X.env.scope x) (hd:(x==("__debug__":Str))=false:=by decide) (hcd:(x==("__classdict__":Str))=false:=by decide):PE X (.Name x pos) (qOn i):=by
 intro pins s σ H Q I h
 obtain ⟨v,e,h⟩:=h
 obtain ⟨m,hn,hl⟩:=I.loc
 obtain ⟨u,r,l⟩:=hl i x v hN e hv
 have fin:EP X pins σ Q u s:=⟨v,H,I,r,h⟩
 rcases l with ⟨hk,hm⟩ | ⟨hk,c,hc,hcell⟩
 ·exact wpAny_Name (wpAny_loadName_local I.ok.kind hk hn hm fin) hd
 ·rcases hk with hk | hk
  ·exact wpAny_Name (wpAny_loadName_cell I.ok.kind hk hc hcell fin) hd
  ·exact wpAny_Name (wpAny_loadName_free I.ok.kind hk hc hcell fin hcd) hd
theorem pe_int {i j pos}:PE X (.Constant (.int i) j pos) (tC (.int i)):=fun _ _ _ H _ I h=>wpAny_Constant_int ⟨.int i,H,I.tok _,⟨_,rfl⟩,h⟩
theorem pe_bl {b j pos}:PE X (.Constant (.bool b) j pos) (tC (.bl b)):=fun _ _ _ H _ I h=>Constant_bool ⟨.bl b,H,I,rfl,h⟩
theorem pe_non {j pos}:PE X (.Constant .none j pos) (tC .non):=fun _ _ _ H _ I h=>Constant_none ⟨.non,H,I,rfl,h⟩
theorem pe_str {x j pos}:PE X (.Constant (.str x) j pos) (tC (.str x)):=fun _ _ _ H _ I h=>Calls.Constant_str ⟨.str x,H,I.tok _,⟨_,rfl⟩,h⟩
noncomputable def Gl (X:Cx) (x:Str):Prop:=X.env.kindOf x=some .globalImplicit
theorem qEs {E:Value -> Shared -> Prop} {pins:List (Addr×Obj)} {s:Shared} {σ:St} {H:Hp} {x:Str} {u:Value} {pos:Pos} {Q:Value -> Shared -> Prop} (I:Inv X pins σ H s) (hg:Gl X x) (hm:X.mg x=some u) (h:Q u s)
  (hd:(x==("__debug__":Str))=false:=by decide):wpAny (model X.prog X.w) X.A (eval (.Name x pos) X.env) Q E s:=
 Calls.Name_function_global I.ok.kind hg (Calls.loadGlobal_global (by rw [I.ok.glob];exact I.mod.glob.keeps I.bk) hm h) hd
theorem ld_blt {E:Value -> Shared -> Prop} {pins:List (Addr×Obj)} {s:Shared} {σ:St} {H:Hp} {x:Str} {u:Value} {pos:Pos} {Q:Value -> Shared -> Prop} (I:Inv X pins σ H s) (hg:Gl X x) (hm:X.mg x=none) (hv:bootBuiltins x=some u) (h:Q u s)
  (hn:x≠"__name__":=by decide) (hd:(x==("__debug__":Str))=false:=by decide):wpAny (model X.prog X.w) X.A (eval (.Name x pos) X.env) Q E s:=by
 obtain ⟨mb,h1,h2⟩:=I.mod.blt
 exact Calls.Name_function_global I.ok.kind hg (Calls.loadGlobal_builtin (by rw [I.ok.glob];exact I.mod.glob.keeps I.bk) hm (by rw [I.ok.blt];exact h1.keeps I.bk) ((h2 x hn).trans hv) h) hd
theorem pe_glob {x:Str} {v:V} {u:Value} {pos:Pos} (hg:Gl X x) (hm:X.mg x=some u) (r:RelV v u) (hd:(x==("__debug__":Str))=false:=by decide):PE X (.Name x pos) (tC v):=
 fun _ _ _ H _ I h=>qEs I hg hm ⟨v,H,I,r,h⟩ hd
theorem pe_bltn {x:Str} {v:V} {u:Value} {pos:Pos} (hg:Gl X x) (hm:X.mg x=none) (hv:bootBuiltins x=some u) (r:RelV v u) (hn:x≠"__name__":=by decide) (hd:(x==("__debug__":Str))=false:=by decide):PE X (.Name x pos) (tC v):=
 fun _ _ _ H _ I h=>ld_blt I hg hm hv ⟨v,H,I,r,h⟩ hn hd
variable {a b:Expr} {ta tb:TE} {pos:Pos}
noncomputable def tB (t:TE):TT:=fun σ H Q=>t σ H fun x H1=>∃ c,x=.bl c/\Q c H1
theorem pt_val {e:Expr} {t:TE} (h:PE X e t) (he:∀ whole,isTrue e X.env whole=(do let v <- whole;standAt e.pos;holding [v] (truthy v)):=by intro _;rfl):PT X e (tB t):=by
 intro pins s σ H Q I hw
 refine isTrue_plain (thn (h pins s σ H _ I hw) fun v s1 ⟨x,H1,I1,r1,q1⟩=>?_) (he _)
 obtain ⟨d,rfl,q⟩:=q1
 cases r1
 exact wpAny_truthy_bool ⟨H1,I1,q⟩
variable {tA tB':TT} {qBp:List Expr}
noncomputable def tAnd (t u:TT):TT:=fun σ H Q=>t σ H fun c H1=>if c=true then u σ H1 Q else Q false H1
noncomputable def tOr (t u:TT):TT:=fun σ H Q=>t σ H fun c H1=>if c=true then Q true H1 else u σ H1 Q
noncomputable def qOX (t:TT):TT:=fun σ H Q=>t σ H fun c H1=>Q (!c) H1
theorem pw_and1 (ha:PT X a tA):PW X (.BoolOp .And [a] pos) tA:=by
 intro wh pins s σ H Q I h
 refine isTrue_and (thn (ha pins s σ H Q I h) fun c s1 e=>?_)
 cases c with
 | true=>exact isTrue_and_nil e
 | false=>exact e
theorem pw_or1 (ha:PT X a tA):PW X (.BoolOp .Or [a] pos) tA:=by
 intro wh pins s σ H Q I h
 refine isTrue_or (thn (ha pins s σ H Q I h) fun c s1 e=>?_)
 cases c with
 | false=>exact isTrue_or_nil e
 | true=>exact e
theorem pw_and (ha:PT X a tA) (hb:PW X (.BoolOp .And (b::qBp) pos) tB'):PW X (.BoolOp .And (a::b::qBp) pos) (tAnd tA tB'):=by
 intro wh pins s σ H Q I h
 refine isTrue_and (thn (ha pins s σ H _ I h) fun c s1 ⟨H1,I1,q1⟩=>?_)
 cases c with
 | true=>exact hb wh pins s1 σ H1 Q I1 q1
 | false=>exact ⟨H1,I1,q1⟩
theorem pw_or (ha:PT X a tA) (hb:PW X (.BoolOp .Or (b::qBp) pos) tB'):PW X (.BoolOp .Or (a::b::qBp) pos) (tOr tA tB'):=by
 intro wh pins s σ H Q I h
 refine isTrue_or (thn (ha pins s σ H _ I h) fun c s1 ⟨H1,I1,q1⟩=>?_)
 cases c with
 | true=>exact ⟨H1,I1,q1⟩
 | false=>exact hb wh pins s1 σ H1 Q I1 q1
theorem pt_not (ha:PT X a tA):PT X (.UnaryOp .Not a pos) (qOX tA):=by
 intro pins s σ H Q I h
 exact isTrue_not (ha pins s σ H (fun c H1=>Q (!c) H1) I h)
noncomputable def tAndV (ta tb:TE):TE:=fun σ H Q=>ta σ H fun x H1=>∃ c,x=.bl c/\if c=true then tb σ H1 Q else Q (.bl false) H1
noncomputable def tOrV (ta tb:TE):TE:=fun σ H Q=>ta σ H fun x H1=>∃ c,x=.bl c/\if c=true then Q (.bl true) H1 else tb σ H1 Q
noncomputable def qMs (ta:TE):TE:=fun σ H Q=>ta σ H fun x H1=>∃ c,x=.bl c/\Q (.bl (!c)) H1
theorem pe_one {op} {t:TE} (h:PE X a t):PE X (.BoolOp op [a] pos) t:=fun pins s σ H Q I hw=>BoolOp_one (h pins s σ H Q I hw)
theorem pe_and (ha:PE X a ta) (hb:PE X (.BoolOp .And (b::qBp) pos) tb):PE X (.BoolOp .And (a::b::qBp) pos) (tAndV ta tb):=by
 intro pins s σ H Q I h
 refine BoolOp_and (thn (ha pins s σ H _ I h) fun v s1 ⟨x,H1,I1,r1,q1⟩=>?_)
 obtain ⟨c,rfl,q1⟩:=q1
 cases r1
 refine wpAny_truthy_bool ?_
 cases c with
 | true=>exact hb pins s1 σ H1 Q I1 q1
 | false=>exact ⟨.bl false,H1,I1,rfl,q1⟩
theorem pe_or (ha:PE X a ta) (hb:PE X (.BoolOp .Or (b::qBp) pos) tb):PE X (.BoolOp .Or (a::b::qBp) pos) (tOrV ta tb):=by
 intro pins s σ H Q I h
 refine BoolOp_or (thn (ha pins s σ H _ I h) fun v s1 ⟨x,H1,I1,r1,q1⟩=>?_)
 obtain ⟨c,rfl,q1⟩:=q1
 cases r1
 refine wpAny_truthy_bool ?_
 cases c with
 | false=>exact hb pins s1 σ H1 Q I1 q1
 | true=>exact ⟨.bl true,H1,I1,rfl,q1⟩
theorem pe_not (ha:PE X a ta):PE X (.UnaryOp .Not a pos) (qMs ta):=by
 intro pins s σ H Q I h
 refine UnaryOp_ (thn (ha pins s σ H _ I h) fun v s1 ⟨x,H1,I1,r1,q1⟩=>?_)
 obtain ⟨c,rfl,q1⟩:=q1
 cases r1
 exact not_of (wpAny_truthy_bool ⟨.bl (!c),H1,I1,rfl,q1⟩)
noncomputable def tIf (t:TT) (ta tb:TE):TE:=fun σ H Q=>t σ H fun c H1=>if c=true then ta σ H1 Q else tb σ H1 Q
theorem pe_ifExp {c:Expr} (hc:PT X c tA) (ha:PE X a ta) (hb:PE X b tb):PE X (.IfExp c a b pos) (tIf tA ta tb):=by
 intro pins s σ H Q I h
 refine wpAny_IfExp (thn (hc pins s σ H _ I h) fun d s1 ⟨H1,I1,q1⟩=>?_)
 cases d with
 | true=>exact ha pins s1 σ H1 Q I1 q1
 | false=>exact hb pins s1 σ H1 Q I1 q1
end
open PySem PySem.Spec PyProof.Rows
noncomputable def SqL (K:PySem.W.Frag) (H:Hp) (a:Addr) (xs:List V):Prop:=
 Rd H a (.lst xs)\/
  ∃ (o:Obj) (its:Array Value) (n:Nat),K.lookup a=some o/\o.cls=.type "list"/\o.dict=none/\o.data=.seq its n/\its.size<=sizeLine/\Vals xs its.toList
noncomputable def SqT (K:PySem.W.Frag) (H:Hp) (a:Addr) (xs:List V):Prop:=
 Rd H a (.tup xs)\/
  ∃ (o:Obj) (its:Array Value) (n:Nat),K.lookup a=some o/\o.cls=.type "tuple"/\o.data=.seq its n/\its.size<=sizeLine/\Vals xs its.toList
noncomputable def qOy:Value -> Option V
 | .none=>some .non
 | .bool b=>some (.bl b)
 | .int i _=>some (.int i)
 | .str x _=>some (.str x)
 | .bytes b _=>some (.byt b)
 | .float b _=>some (.flt b)
 | .ref a=>some (.ref a)
 | .type n=>some (.ty n)
 | _=>none
theorem RelV.abs {x:V} {u:Value} (r:RelV x u):qOy u=some x:=by
 cases x with
 | non=>cases r;rfl
 | bl _=>cases r;rfl
 | int _=>obtain ⟨t,rfl⟩:=r;rfl
 | str _=>obtain ⟨t,rfl⟩:=r;rfl
 | byt _=>obtain ⟨t,rfl⟩:=r;rfl
 | flt _=>obtain ⟨t,rfl⟩:=r;rfl
 | ref _=>cases r;rfl
 | ty _=>cases r;rfl
theorem RelV.inj {x y:V} {u:Value} (r:RelV x u) (q:RelV y u):x=y:=Option.some.inj (r.abs.symm.trans q.abs)
theorem Vals.inj:∀ {xs ys:List V} {us:List Value},Vals xs us -> Vals ys us -> xs=ys
 | _,_,_,.nil,.nil=>rfl
 | _,_,_,.cons r t,.cons r' t'=>by rw [r.inj r',Vals.inj t t']
section
variable {X:Cx} {pins:List (Addr×Obj)} {σ:St} {H:Hp} {s:Shared} {a:Addr} {xs ys:List V}
theorem Inv.list (I:Inv X pins σ H s) (h:SqL X.K H a xs):∃ its:List Value,Vals xs its/\PlainL s.heap a its.toArray/\xs.length<=sizeLine:=by
 rcases h with h | ⟨o,its,n,hk,hc,hd,hs,hz,r⟩
 ·obtain ⟨z,its,n,r,e⟩:=h.ok I.hok
  exact ⟨its,r,⟨_,n,e,rfl,rfl,rfl⟩,z⟩
 ·refine ⟨its.toList,r,⟨o,n,I.kIn a o hk,hc,hd,by simpa using hs⟩,?_⟩
  have e:=r.length
  simp only [Array.length_toList] at e
  omega
theorem Inv.tuple (I:Inv X pins σ H s) (h:SqT X.K H a xs):∃ its:List Value,Vals xs its/\IsTup s.heap a its.toArray/\xs.length<=sizeLine:=by
 rcases h with h | ⟨o,its,n,hk,hc,hs,hz,r⟩
 ·obtain ⟨z,its,r,p⟩:=h.ok I.hok
  exact ⟨its,r,p,z⟩
 ·refine ⟨its.toList,r,⟨o,I.kIn a o hk,hc,n,by simpa using hs⟩,?_⟩
  have e:=r.length
  simp only [Array.length_toList] at e
  omega
theorem Inv.list_inj (I:Inv X pins σ H s) (h:SqL X.K H a xs) (h':SqL X.K H a ys):xs=ys:=by
 obtain ⟨its,r,⟨o,n,e,_,_,d⟩,_⟩:=I.list h
 obtain ⟨its',r',⟨o',n',e',_,_,d'⟩,_⟩:=I.list h'
 rw [e] at e';cases e'
 rw [d] at d'
 injection d' with d1 _
 have:its=its':=by simpa using congrArg Array.toList d1
 subst this
 exact r.inj r'
theorem Inv.tuple_inj (I:Inv X pins σ H s) (h:SqT X.K H a xs) (h':SqT X.K H a ys):xs=ys:=by
 obtain ⟨its,r,⟨o,e,_,n,d⟩,_⟩:=I.tuple h
 obtain ⟨its',r',⟨o',e',_,n',d'⟩,_⟩:=I.tuple h'
 rw [e] at e';cases e'
 rw [d] at d'
 injection d' with d1 _
 have:its=its':=by simpa using congrArg Array.toList d1
 subst this
 exact r.inj r'
end
noncomputable abbrev Cx.wish (X:Cx) (E:Value -> Shared -> Prop):Cx:={ X with xe:=E }
noncomputable abbrev Cx.nox (X:Cx):Cx:=X.wish fun _ _=>False
theorem Cx.Ok.wish {X:Cx} (ok:X.Ok) (E:Value -> Shared -> Prop):(X.wish E).Ok:=
 ⟨ok.mod,ok.kind,ok.glob,ok.blt,ok.above,ok.inj,ok.has,ok.cab,ok.hd,ok.frames,ok.stk,ok.exf,ok.bs,ok.bsz,ok.noex,ok.exfs,ok.funs,ok.frf⟩
theorem Cx.Ok.unwish {X:Cx} {E:Value -> Shared -> Prop} (ok:(X.wish E).Ok):X.Ok:=
 ⟨ok.mod,ok.kind,ok.glob,ok.blt,ok.above,ok.inj,ok.has,ok.cab,ok.hd,ok.frames,ok.stk,ok.exf,ok.bs,ok.bsz,ok.noex,ok.exfs,ok.funs,ok.frf⟩
section
variable {X:Cx} {pins:List (Addr×Obj)} {σ:St} {H:Hp} {s:Shared} {E:Value -> Shared -> Prop}
theorem Inv.wish (I:Inv X pins σ H s) (E:Value -> Shared -> Prop):Inv (X.wish E) pins σ H s:=⟨I.ok.wish E,I.os,I.bare,I.base,I.loc,I.cell,I.free,I.freeC,I.pin,I.hok,I.len⟩
theorem Inv.unwish (I:Inv (X.wish E) pins σ H s):Inv X pins σ H s:=⟨I.ok.unwish,I.os,I.bare,I.base,I.loc,I.cell,I.free,I.freeC,I.pin,I.hok,I.len⟩
theorem SP.unwish {D:qGk} {f:Flow} {s':Shared} (h:SP (X.wish E) pins D f s'):SP X pins D f s':=by
 cases f with
 | next=>obtain ⟨σ',H',I,q⟩:=h;exact ⟨σ',H',I.unwish,q⟩
 | brk=>obtain ⟨σ',H',I,q⟩:=h;exact ⟨σ',H',I.unwish,q⟩
 | cont=>obtain ⟨σ',H',I,q⟩:=h;exact ⟨σ',H',I.unwish,q⟩
 | ret u=>obtain ⟨v,σ',H',I,r,q⟩:=h;exact ⟨v,σ',H',I.unwish,r,q⟩
theorem PSs.nox {st:List Stmt} {t:TS} (h:PSs X.nox st t):PSs X st t:=fun pins s σ H D I hw=>
 wpAny_mono (h pins s σ H D (I.wish _) hw) (fun _ _ q=>q.unwish) fun _ _ z=>False.elim z
end
section
variable {X:Cx} {st:Stmt} {qBp:List Stmt} {t u:TS} {e:Expr} {te:TE} {pos:Pos}
noncomputable def qLz:TS:=fun D σ H=>D.nx σ H
noncomputable def qO1 (t u:TS):TS:=fun D σ H=>t { D with nx:=u D } σ H
theorem pss_nil:PSs X [] qLz:=fun _ _ σ H _ I h=>wpAny_execs_nil ⟨σ,H,I,h⟩
theorem pss_cons (h1:PS X st t) (h2:PSs X qBp u):PSs X (st::qBp) (qO1 t u):=by
 intro pins s σ H D I h
 refine wpAny_execs_cons (thn (h1 pins s σ H { D with nx:=u D } I h) fun f s1 q=>?_)
 cases f with
 | next=>
  obtain ⟨σ',H',I',q⟩:=q
  exact h2 pins s1 σ' H' D I' q
 | ret v=>exact q
 | brk=>exact q
 | cont=>exact q
noncomputable def qLk:TS:=fun D σ H=>D.bk σ H
noncomputable def qMR:TS:=fun D σ H=>D.ct σ H
theorem ps_pass:PS X (.Pass pos) qLz:=fun _ _ σ H _ I h=>wpAny_Pass ⟨σ,H,I,h⟩
theorem ps_break:PS X (.Break pos) qLk:=fun _ _ σ H _ I h=>wpAny_Break ⟨σ,H,I,h⟩
theorem ps_continue:PS X (.Continue pos) qMR:=fun _ _ σ H _ I h=>wpAny_Continue ⟨σ,H,I,h⟩
theorem Inv.quiet {pins:List (Addr×Obj)} {σ:St} {H:Hp} {s:Shared} (I:Inv X pins σ H s):interactive X.env=false:=by simp [interactive,I.ok.kind]
noncomputable def qNM (te:TE):TS:=fun D σ H=>te σ H fun _ H1=>D.nx σ H1
theorem ps_expr (he:PE X e te) (hs:swapsWith e none pos.line X.env=pure false:=by rfl):PS X (.Expr e pos) (qNM te):=by
 intro pins s σ H D I h
 exact wpAny_Expr_any (thn (he pins s σ H _ I h) fun v s1 ⟨x,H1,I1,r1,q1⟩=>⟨σ,H1,I1,q1⟩) I.quiet hs
noncomputable def qOO (te:TE):TS:=fun D σ H=>te σ H D.rt
theorem ps_ret (he:PE X e te):PS X (.Return (some e) pos) (qOO te):=by
 intro pins s σ H D I h
 exact wpAny_Return_some (thn (he pins s σ H _ I h) fun v s1 ⟨x,H1,I1,r1,q1⟩=>⟨x,σ,H1,I1,r1,q1⟩)
noncomputable def qMc:TS:=fun D _ H=>D.rt .non H
theorem ps_retN:PS X (.Return none pos) qMc:=fun _ _ σ H _ I h=>wpAny_Return_none ⟨.non,σ,H,I,rfl,h⟩
noncomputable def qO2 (c:TT) (t u:TS):TS:=fun D σ H=>c σ H fun b H1=>if b=true then t D σ H1 else u D σ H1
theorem ps_if {c:Expr} {a b:List Stmt} {tc:TT} (hc:PT X c tc) (ha:PSs X a t) (hb:PSs X b u):PS X (.If c a b pos) (qO2 tc t u):=by
 intro pins s σ H D I h
 refine wpAny_If (thn (hc pins s σ H _ I h) fun d s1 ⟨H1,I1,q1⟩=>?_)
 cases d with
 | true=>exact ha pins s1 σ H1 D I1 q1
 | false=>exact hb pins s1 σ H1 D I1 q1
end
noncomputable abbrev TG:=V -> St -> Hp -> (St -> Hp -> Prop) -> Prop
noncomputable abbrev TGs:=List V -> St -> Hp -> (St -> Hp -> Prop) -> Prop
noncomputable def PG (X:Cx) (target:Expr) (t:TG):Prop:=
 ∀ (pins:List (Addr×Obj)) (s:Shared) (σ:St) (H:Hp) (v:V) (u:Value) (Q:St -> Hp -> Prop),Inv X pins σ H s -> RelV v u -> t v σ H Q ->
  wpAny (model X.prog X.w) X.A (assign target X.env u) (fun _ s'=>∃ σ' H',Inv X pins σ' H' s'/\Q σ' H') X.xe s
noncomputable def PGs (X:Cx) (ts:List Expr) (t:TGs):Prop:=
 ∀ (pins:List (Addr×Obj)) (s:Shared) (σ:St) (H:Hp) (vs:List V) (us:List Value) (Q:St -> Hp -> Prop),Inv X pins σ H s -> Vals vs us -> t vs σ H Q ->
  wpAny (model X.prog X.w) X.A (assignInOrder ((assignEach ts X.env).map (·.2)) us) (fun _ s'=>∃ σ' H',Inv X pins σ' H' s'/\Q σ' H') X.xe s
noncomputable abbrev TSet:=V -> V -> V -> Hp -> (Hp -> Prop) -> Prop
noncomputable def PSet (X:Cx) (t:TSet):Prop:=
 ∀ (pins:List (Addr×Obj)) (s:Shared) (σ:St) (H:Hp) (o i v:V) (ov iv u:Value) (Q:Hp -> Prop),Inv X pins σ H s -> RelV o ov -> RelV i iv -> RelV v u -> t o i v H Q ->
  wpAny (model X.prog X.w) X.A (setItem ov iv u) (fun _ s'=>∃ H',Inv X pins σ H' s'/\Q H') X.xe s
noncomputable abbrev TIp:=V -> V -> Hp -> VK -> Prop
noncomputable def PIp (X:Cx) (op:Operator) (t:TIp):Prop:=
 ∀ (pins:List (Addr×Obj)) (s:Shared) (σ:St) (H:Hp) (x y:V) (v u:Value) (Q:VK),Inv X pins σ H s -> RelV x v -> RelV y u -> t x y H Q ->
  wpAny (model X.prog X.w) X.A (inplaceOp op v u) (EP X pins σ Q) X.xe s
section
variable {X:Cx} {pos:Pos}
noncomputable def qKz (i:Nat):TG:=fun v σ H Q=>Q (σ.set i (some v)) H
theorem pg_name {i:Nat} {x:Str} (hN:X.N.Nodup) (hi:X.N[i]?=some x) (hx:Loc X.env.scope x) (hf:X.fn x=true\/X.env.scope.names.lookup x=some .local:=by first | exact .inl rfl | exact .inr rfl | assumption):PG X (.Name x pos) (qKz i):=by
 intro pins s σ H v u Q I r h
 exact wpAny_assign_Name (qBK I hN hi hx r (fun s' I'=>⟨_,H,I',h⟩) hf)
noncomputable def qOH:TGs:=fun vs σ H Q=>vs=[]/\Q σ H
noncomputable def qMk (t:TG) (u:TGs):TGs:=fun vs σ H Q=>∃ v r,vs=v::r/\t v σ H fun σ' H'=>u r σ' H' Q
theorem pgs_nil:PGs X [] qOH:=by
 intro pins s σ H vs us Q I r h
 obtain ⟨e,h⟩:=h
 subst e
 cases r
 exact assignInOrder_nil ⟨σ,H,I,h⟩
theorem pgs_cons {e:Expr} {es:List Expr} {t:TG} {u:TGs} (h1:PG X e t) (h2:PGs X es u)
  (hs:(assignEach (e::es) X.env).map (·.2)=assign e X.env::(assignEach es X.env).map (·.2):=by rfl):PGs X (e::es) (qMk t u):=by
 intro pins s σ H vs us Q I r h
 obtain ⟨v,vr,e1,h⟩:=h
 subst e1
 cases r with
 | cons r rr=>
  rw [hs]
  refine assignInOrder_cons (thn (h1 pins s σ H _ _ _ I r h) fun _ s1 ⟨σ1,H1,I1,q1⟩=>?_)
  exact h2 pins s1 σ1 H1 _ _ Q I1 rr q1
noncomputable def qOU (K:PySem.W.Frag) (n:Nat) (t:TGs):TG:=fun v σ H Q=>∃ a xs,v=.ref a/\SqT K H a xs/\xs.length=n/\t xs σ H Q
theorem pg_tup {es:List Expr} {k:Nat} {t:TGs} {n:Nat} (hc:X.calm=true) (h:PGs X es t)
  (hn:(assignEach es X.env).length=n:=by rfl) (hst:(assignEach es X.env).findIdx? (·.1)=none:=by rfl):PG X (.Tuple es k pos) (qOU X.K n t):=by
 intro pins s σ H v u Q I r hw
 obtain ⟨a,xs,e1,hq,hl,hw⟩:=hw
 subst e1
 cases r
 obtain ⟨its,rv,ht,hz⟩:=I.tuple hq
 refine assign_Tuple_tuple (I.ok.hd hc) ht (by simp [hn,<- hl,rv.length]) hst fun h' hx=>?_
 have I1:Inv X pins σ H { s with heap:=h' }:=I.kept (t':=s.toks) fun b o e=>hx b o (Nat.ne_of_lt (Heap.lt_size e)) e
 exact h pins _ σ H xs _ Q I1 (by simpa using rv) hw
noncomputable def qO7 (to ti:TE) (t:TSet):TG:=fun v σ H Q=>to σ H fun o H1=>ti σ H1 fun i H2=>t o i v H2 fun H3=>Q σ H3
theorem pg_sub {o i:Expr} {to ti:TE} {t:TSet} (ho:PE X o to) (hi:PE X i ti) (hs:PSet X t)
  (ha:∀ v,assign (.Subscript o i pos) X.env v=(do
   let ov <- holding [v] (eval o X.env)
   let iv <- holding [v,ov] (eval i X.env)
   standAt pos
   holding [v,ov,iv] (setItem ov iv v)
   release [v,ov,iv] []):=by intro _;rfl):PG X (.Subscript o i pos) (qO7 to ti t):=by
 intro pins s σ H v u Q I r h
 rw [ha]
 refine wpAny_bind (wpAny_holding (thn (ho pins s σ H _ I h) fun ov s1 ⟨x,H1,I1,r1,q1⟩=>?_))
 refine wpAny_bind (wpAny_holding (thn (hi pins s1 σ H1 _ I1 q1) fun iv s2 ⟨y,H2,I2,r2,q2⟩=>?_))
 refine wpAny_bind (wpAny_standAt (wpAny_bind (wpAny_holding (thn (hs pins s2 σ H2 x y v ov iv u _ I2 r1 r2 r q2) fun _ s3 ⟨H3,I3,q3⟩=>?_))))
 exact wpAny_release ⟨σ,H3,I3,q3⟩
noncomputable def tAsg (te:TE) (g:TG):TS:=fun D σ H=>te σ H fun x H1=>g x σ H1 D.nx
theorem ps_asg {tg e:Expr} {te:TE} {g:TG} (he:PE X e te) (hg:PG X tg g) (hs:swapsWithSole [tg] e pos.line X.env=pure false:=by rfl) (hw:swappedStores [tg] e X.env=pure none:=by rfl)
  (h1:(assignEach [tg] X.env).map (·.2)=[assign tg X.env]:=by rfl):PS X (.Assign [tg] e pos) (tAsg te g):=by
 intro pins s σ H D I h
 refine wpAny_Assign_stores (thn (he pins s σ H _ I h) fun v s1 ⟨x,H1,I1,r1,q1⟩=>?_) hs hw
 rw [h1]
 exact thn (hg pins s1 σ H1 x v _ I1 r1 q1) fun _ s2 q=>q
noncomputable def qOp (i j:Nat) (ta:TA):TS:=fun D σ H=>ta σ H fun vs H1=>∃ v w,vs=[v,w]/\D.nx ((σ.set i (some v)).set j (some w)) H1
theorem ps_par {i j:Nat} {x y:Str} {a b:Expr} {ta:TA} {px py pt:Pos} {kt k2 pt2} (hc:X.calm=true) (hN:X.N.Nodup) (hi:X.N[i]?=some x) (hj:X.N[j]?=some y) (hij:i≠j)
  (hx:X.env.scope.names.lookup x=some .local) (hy:X.env.scope.names.lookup y=some .local) (ha:PA X [a,b] ta)
  (hw:swappedStores [.Tuple [.Name x px,.Name y py] kt pt] (.Tuple [a,b] k2 pt2) X.env=pure (some [x,y]))
  (hs:swapsWithSole [.Tuple [.Name x px,.Name y py] kt pt] (.Tuple [a,b] k2 pt2) pos.line X.env=pure false:=by rfl):
  PS X (.Assign [.Tuple [.Name x px,.Name y py] kt pt] (.Tuple [a,b] k2 pt2) pos) (qOp i j ta):=by
 intro pins s σ H D I h
 rw [exec_Assign_arm]
 refine wpAny_bind (wpAny_standAt ?_)
 rw [hs]
 refine wpAny_bind (wpAny_pure ?_)
 rw [if_neg (by decide)]
 refine wpAny_bind (Tuple_ (thn (ha _ pins s σ H _ I h) fun us s1 ⟨vs,H1,I1,r1,q1⟩=>?_))
 obtain ⟨v,w,e1,q1⟩:=q1
 subst e1
 obtain ⟨u1,u2,rfl,rv,rw'⟩:∃ u1 u2,us=[u1,u2]/\RelV v u1/\RelV w u2:=by
  cases r1 with
  | cons p q=>
   cases q with
   | cons p' q'=>
    cases q'
    exact ⟨_,_,rfl,p,p'⟩
 refine wpAny_newObj_type ?_ (by show 2<=sizeLine;decide)
 have I2:Inv X pins σ H1 { s1 with heap:=s1.heap.push { cls:=.type "tuple",data:=.seq [u1,u2].toArray } }:=I1.kept (t':=s1.toks) fun b o e=>Heap.get?_push_of_some _ e
 rw [hw]
 refine wpAny_bind (wpAny_pure ?_)
 show wpAny (model X.prog X.w) X.A (do rule "assign.swapped-stores";let items <- unpackItems (.ref s1.heap.objs.size) 2 none;assignInOrder [fun v=>bindName X.env y v,fun v=>bindName X.env x v] items.reverse;pure Flow.next) _ _ _
 refine wpAny_bind (wpAny_rule (wpAny_bind (unpackItems_tuple (items:=#[u1,u2]) (I.ok.hd hc) (IsTup.new s1.heap _) fun h' hx'=>?_)))
 have I3:=I2.kept (h':=h') (t':=s1.toks) fun b o e=>hx' b o (Nat.ne_of_lt (Heap.lt_size e)) e
 show wpAny _ _ (assignInOrder [fun v=>bindName X.env y v,fun v=>bindName X.env x v] [u2,u1] >>=fun _=>pure Flow.next) _ _ _
 refine wpAny_bind (assignInOrder_cons (wpAny_bindName (qBK I3 hN hj (.inl hy) rw' (fun s2 I4=>?_) (.inr hy))))
 refine assignInOrder_cons (wpAny_bindName (qBK I4 hN hi (.inl hx) rv (fun s3 I5=>assignInOrder_nil (wpAny_pure ?_)) (.inr hx)))
 rw [List.set_comm _ _ (Ne.symm hij)] at I5
 exact ⟨_,H1,I5,q1⟩
noncomputable def qMN (to ti te:TE) (tget:V -> V -> Hp -> VK -> Prop) (tip:TIp) (tset:TSet):TS:=fun D σ H=>to σ H fun o H1=>ti σ H1 fun i H2=>tget o i H2 fun x H3=>te σ H3 fun y H4=>tip x y H4 fun z H5=>tset o i z H5 fun H6=>D.nx σ H6
noncomputable def PGet (X:Cx) (t:V -> V -> Hp -> VK -> Prop):Prop:=
 ∀ (pins:List (Addr×Obj)) (s:Shared) (σ:St) (H:Hp) (o i:V) (ov iv:Value) (Q:VK),Inv X pins σ H s -> RelV o ov -> RelV i iv -> t o i H Q ->
  wpAny (model X.prog X.w) X.A (getItem ov iv) (EP X pins σ Q) X.xe s
theorem ps_augS {o i e:Expr} {to ti te:TE} {tget:V -> V -> Hp -> VK -> Prop} {tip:TIp} {tset:TSet} {op:Operator} {tpos:Pos} (ho:PE X o to) (hi:PE X i ti) (hg:PGet X tget) (he:PE X e te) (hp:PIp X op tip) (hs:PSet X tset)
  (ha:∀ ov iv new,augStore i ov iv new=(do holding [new,ov,iv] (setItem ov iv new);release [new,ov,iv] [];pure .next):=by intros;rfl):PS X (.AugAssign (.Subscript o i tpos) op e pos) (qMN to ti te tget tip tset):=by
 intro pins s σ H D I h
 refine wpAny_AugAssign_SubscriptAny (thn (ho pins s σ H _ I h) fun ov s1 ⟨x1,H1,I1,r1,q1⟩=>?_) ha
 refine thn (hi pins s1 σ H1 _ I1 q1) fun iv s2 ⟨x2,H2,I2,r2,q2⟩=>?_
 refine thn (hg pins s2 σ H2 x1 x2 ov iv _ I2 r1 r2 q2) fun old s3 ⟨x3,H3,I3,r3,q3⟩=>?_
 refine thn (he pins s3 σ H3 _ I3 q3) fun v s4 ⟨x4,H4,I4,r4,q4⟩=>?_
 refine thn (hp pins s4 σ H4 x3 x4 old v _ I4 r3 r4 q4) fun new s5 ⟨x5,H5,I5,r5,q5⟩=>?_
 exact thn (hs pins s5 σ H5 x1 x2 x5 ov iv new _ I5 r1 r2 r5 q5) fun _ s6 ⟨H6,I6,q6⟩=>⟨σ,H6,I6,q6⟩
noncomputable def ipI (f:Int -> Int -> Int):TIp:=fun x y H Q=>∃ i j,x=.int i/\y=.int j/\Q (.int (f i j)) H
theorem ip_add:PIp X .Add (ipI fun i j=>i + j):=by
 intro pins s σ H x y v u Q I r1 r2 h
 obtain ⟨i,j,e1,e2,q⟩:=h
 subst e1;subst e2
 obtain ⟨t,rfl⟩:=r1
 obtain ⟨t',rfl⟩:=r2
 exact iadd_int ⟨.int _,H,I.tok _,⟨_,rfl⟩,q⟩
end
section
variable {X:Cx} {pos:Pos}
noncomputable def qKc (c:TT) (tb:TS):TS:=fun D σ H=>∃ W:Nat -> St -> Hp -> Prop,(∃ m,W m σ H)/\∀ m σ H,W m σ H ->
 c σ H fun b H1=>if b=true then ∃ N:St -> Hp -> Prop,(∀ σ' H',N σ' H' -> ∃ m',m' < m/\W m' σ' H')/\tb { D with nx:=N,ct:=N,bk:=D.nx } σ H1 else D.nx σ H1
theorem ps_while {c:Expr} {body:List Stmt} {tc:TT} {tb:TS} (hp:PassesOwn (model X.prog X.w) X.A X.env X.xe) (hc:PT X c tc) (hb:PSs X body tb):PS X (.While c body [] pos) (qKc tc tb):=by
 intro pins s σ H D I h
 obtain ⟨W,⟨m0,w0⟩,qHS⟩:=h
 refine wpAny_While (codeAny_whileLoop (fun n s'=>∃ σ' H',Inv X pins σ' H' s'/\W n σ' H') ?_ m0 ⟨σ,H,I,w0⟩)
 rintro n s1 ⟨σ1,H1,I1,w1⟩
 refine wpAny_passesOwn hp (thn (hc pins s1 σ1 H1 _ I1 (qHS n σ1 H1 w1)) fun b s2 ⟨H2,I2,q2⟩=>?_)
 cases b with
 | true=>
  obtain ⟨N,hN,q2⟩:=q2
  rw [if_pos rfl]
  refine wpAny_passesOwn hp (thn (hb pins s2 σ1 H2 _ I2 q2) fun f s3 q3=>?_)
  cases f with
  | next=>
   obtain ⟨σ3,H3,I3,n3⟩:=q3
   obtain ⟨m',hm,w3⟩:=hN σ3 H3 n3
   exact ⟨m',hm,σ3,H3,I3,w3⟩
  | cont=>
   obtain ⟨σ3,H3,I3,n3⟩:=q3
   obtain ⟨m',hm,w3⟩:=hN σ3 H3 n3
   exact ⟨m',hm,σ3,H3,I3,w3⟩
  | brk=>exact q3
  | ret v=>exact q3
 | false=>
  rw [if_neg Bool.false_ne_true]
  exact wpAny_execs_nil ⟨σ1,H2,I2,q2⟩
end
structure It where
 go:Nat -> Hp -> Prop
 yld:Nat -> Hp -> V -> Hp -> Prop
 stop:Nat -> Hp -> Prop
noncomputable def qEK (X:Cx) (pins:List (Addr×Obj)) (H:Hp) (b:Addr):Prop:=
 H b=none/\b≠X.env.locals/\b∉X.fs/\(b∈X.ex\/X.s₀.heap.objs.size<=b)/\(∀ x c,X.env.cells.lookup x=some c -> c≠b)/\∀ p∈X.pn++pins,p.1≠b
theorem Inv.fpOk {X:Cx} {pins:List (Addr×Obj)} {σ:St} {H H':Hp} {s:Shared} {b:Addr} (I:Inv X pins σ H s) (hb:s.heap.objs.size<=b) (hn:H' b=none):qEK X pins H' b:=by
 refine ⟨hn,Nat.ne_of_gt (Nat.lt_of_lt_of_le I.lt hb),I.nofs hb,.inr (Nat.le_trans I.sz hb),fun x c e z=>?_,fun p hp z=>?_⟩
 ·obtain ⟨v,q⟩:=I.cell x c e
  exact absurd (Nat.lt_of_lt_of_le q.lt (by rw [z];exact hb)) (Nat.lt_irrefl _)
 ·exact absurd (Nat.lt_of_lt_of_le (Heap.lt_size (I.pin p hp).1) (by rw [z];exact hb)) (Nat.lt_irrefl _)
structure qEr (P:Program) (w:World) (K:PySem.W.Frag) (tg:Expr) (J:It) (fp:List Addr) (it:Addr) (tn:Nat -> Heap -> Prop):Prop where
 mem:it∈fp
 obj:∀ i h,tn i h -> ∀ b∈fp,∃ o,h.get? b=some o/\∀ v,o.data≠.cell v
 keep:∀ i h h',tn i h -> (∀ b∈fp,∀ o,h.get? b=some o -> h'.get? b=some o) -> tn i h'
 item:∀ (X:Cx),X.prog=P -> X.w=w -> X.K=K -> X.calm=true -> ∀ (i:Nat) (pins:List (Addr×Obj)) (s:Shared) (σ:St) (H:Hp) (E:Value -> Shared -> Prop),Inv X pins σ H s -> (∀ b∈fp,qEK X pins H b) -> tn i s.heap -> J.go i H ->
  wpAny (model P w) X.A (pyNext (.ref it)) (fun r s1=>∃ u,r=some u/\
   wpAny (model P w) X.A (letOwnedTupleGo tg (.ref it) u) (fun _ s2=>∃ x H',Inv X pins σ H' s2/\RelV x u/\J.yld i H x H'/\tn (i + 1) s2.heap/\∀ b∈fp,H' b=none) E s1) E s
 done:∀ (X:Cx),X.prog=P -> X.w=w -> X.K=K -> X.calm=true -> ∀ (i:Nat) (pins:List (Addr×Obj)) (s:Shared) (σ:St) (H:Hp) (E:Value -> Shared -> Prop),Inv X pins σ H s -> (∀ b∈fp,qEK X pins H b) -> tn i s.heap -> J.stop i H ->
  wpAny (model P w) X.A (pyNext (.ref it)) (fun r s1=>r=none/\Inv X pins σ H s1) E s
 self:∀ (A:Around) (i:Nat) (s:Shared) (Q:Value -> Shared -> Prop) (E:Value -> Shared -> Prop),tn i s.heap -> Q (.ref it) s -> wpAny (model P w) A (pyIter (.ref it)) Q E s
noncomputable abbrev TI:=St -> Hp -> (It -> Hp -> Prop) -> Prop
noncomputable def PIE (X:Cx) (pins:List (Addr×Obj)) (σ:St) (tg:Expr) (R:It -> Hp -> Prop) (itv:Value) (s2:Shared):Prop:=
 ∃ (it:Addr) (fp:List Addr) (tn:Nat -> Heap -> Prop) (J:It) (H':Hp),itv=.ref it/\Inv X pins σ H' s2/\qEr X.prog X.w X.K tg J fp it tn/\tn 0 s2.heap/\(∀ b∈fp,qEK X pins H' b)/\R J H'
noncomputable def PI (X:Cx) (tg iter:Expr) (wi:TI):Prop:=
 ∀ (pins:List (Addr×Obj)) (s:Shared) (σ:St) (H:Hp) (R:It -> Hp -> Prop),Inv X pins σ H s -> wi σ H R ->
  wpAny (model X.prog X.w) X.A (eval iter X.env) (fun v s1=>wpAny (model X.prog X.w) X.A (pyIter v) (PIE X pins σ tg R) X.xe s1) X.xe s
theorem go_of {M:Model} {A:Around} {E:Value -> Shared -> Prop} {s:Shared} {tg:Expr} {it:Addr} {u:Value} {o:Obj} {n:String} {vs:Array Value} {Q:Unit -> Shared -> Prop} (ho:s.heap.get? it=some o) (hc:o.cls=.type n) (hd:o.data=.fields vs)
  (hn:["enumerate","zip","dict_itemiterator","dict_reverseitemiterator","odict_iterator","itertools.zip_longest","itertools.pairwise"].contains n=false) (hQ:Q () s):wpAny M A (letOwnedTupleGo tg (.ref it) u) Q E s:=by
 unfold letOwnedTupleGo
 cases tg<;>first
  | exact wpAny_pure hQ
  | (cases u<;>first
    | exact wpAny_pure hQ
    | (refine wpAny_bind (wpAny_load ho ?_)
       rw [hc,hd]
       show wpAny M A (if (["enumerate","zip","dict_itemiterator","dict_reverseitemiterator","odict_iterator","itertools.zip_longest","itertools.pairwise"].contains n&&vs[0]?==some (rawInt _))=true then _ else _) Q E s
       rw [if_neg (by intro h;rw [hn,Bool.false_and] at h;cases h)]
       exact wpAny_pure hQ))
noncomputable def Itl (K:PySem.W.Frag) (a:Addr):It:=
 ⟨fun i H=>∃ xs x,SqL K H a xs/\xs[i]?=some x,fun i H x H'=>H'=H/\∀ xs,SqL K H a xs -> xs[i]?=some x,fun i H=>∃ xs,SqL K H a xs/\xs.length<=i⟩
noncomputable def Itt (K:PySem.W.Frag) (a:Addr):It:=
 ⟨fun i H=>∃ xs x,SqT K H a xs/\xs[i]?=some x,fun i H x H'=>H'=H/\∀ xs,SqT K H a xs -> xs[i]?=some x,fun i H=>∃ xs,SqT K H a xs/\xs.length<=i⟩
noncomputable def Itr (lo:Int) (n:Nat):It:=⟨fun i _=>i < n,fun i H x H'=>H'=H/\x=.int (lo + i),fun i _=>n<=i⟩
theorem turn_list {P:Program} {w:World} {K:PySem.W.Frag} {tg:Expr} (a it:Addr):qEr P w K tg (Itl K a) [it] it (fun i h=>h.IsListIter it a i) where
 mem:=by simp
 obj:=fun i h st b hb=>by
  have e:b=it:=by simpa using hb
  subst e
  obtain ⟨o,e,c,d⟩:=st
  exact ⟨o,e,fun v z=>by rw [d] at z;cases z⟩
 keep:=fun i h h' st k=>st.at fun o e=>k it (by simp) o e
 item:=by
  intro X hP hw hK hc i pins s σ H E I hf st hg
  subst hP hw hK
  obtain ⟨xs,x,hq,hx⟩:=hg
  obtain ⟨its,rv,p,hz⟩:=I.list hq
  obtain ⟨u,hu,ru⟩:=rv.get hx
  obtain ⟨f0,f1,f2,f3,f4,f5⟩:=hf it (by simp)
  refine wpAny_pyNext_list_item st p.isList (x:=u) (by simpa using hu) fun h' st' sb=>?_
  have I1:Inv X pins σ H { s with heap:=h' }:=I.turned (t':=s.toks) (fun b o hb e=>(sb.2 b hb).trans e) f0 f1 f3 f4 f5
  obtain ⟨o,e,c,d⟩:=id st'
  exact ⟨u,rfl,go_of (s:={ s with heap:=h' }) e c d (by decide) ⟨x,H,I1,ru,⟨rfl,fun ys hy=>by rw [I.list_inj hy hq];exact hx⟩,st',fun b hb=>(hf b hb).1⟩⟩
 done:=by
  intro X hP hw hK hc i pins s σ H E I hf st hg
  subst hP hw hK
  obtain ⟨xs,hq,hx⟩:=hg
  obtain ⟨its,rv,p,hz⟩:=I.list hq
  obtain ⟨f0,f1,f2,f3,f4,f5⟩:=hf it (by simp)
  have hl:=rv.length
  exact wpAny_pyNext_list_end (I.ok.hd hc) st p.isList (by simp;omega) fun h' eb=>⟨rfl,I.turned (t':=s.toks) (fun b o hb e=>eb b o hb e) f0 f1 f3 f4 f5⟩
 self:=fun _ _ _ _ _ st h=>wpAny_pyIter_listiter st h
theorem turn_tuple {P:Program} {w:World} {K:PySem.W.Frag} {tg:Expr} (a it:Addr):qEr P w K tg (Itt K a) [it] it (fun i h=>h.IsTupleIter it a i) where
 mem:=by simp
 obj:=fun i h st b hb=>by
  have e:b=it:=by simpa using hb
  subst e
  obtain ⟨o,e,c,d⟩:=st
  exact ⟨o,e,fun v z=>by rw [d] at z;cases z⟩
 keep:=fun i h h' st k=>st.at fun o e=>k it (by simp) o e
 item:=by
  intro X hP hw hK hc i pins s σ H E I hf st hg
  subst hP hw hK
  obtain ⟨xs,x,hq,hx⟩:=hg
  obtain ⟨its,rv,p,hz⟩:=I.tuple hq
  obtain ⟨u,hu,ru⟩:=rv.get hx
  obtain ⟨f0,f1,f2,f3,f4,f5⟩:=hf it (by simp)
  refine wpAny_pyNext_tuple_item st (show s.heap.IsTuple a its.toArray from p) (x:=u) (by simpa using hu) fun h' st' sb=>?_
  have I1:Inv X pins σ H { s with heap:=h' }:=I.turned (t':=s.toks) (fun b o hb e=>(sb.2 b hb).trans e) f0 f1 f3 f4 f5
  obtain ⟨o,e,c,d⟩:=id st'
  exact ⟨u,rfl,go_of (s:={ s with heap:=h' }) e c d (by decide) ⟨x,H,I1,ru,⟨rfl,fun ys hy=>by rw [I.tuple_inj hy hq];exact hx⟩,st',fun b hb=>(hf b hb).1⟩⟩
 done:=by
  intro X hP hw hK hc i pins s σ H E I hf st hg
  subst hP hw hK
  obtain ⟨xs,hq,hx⟩:=hg
  obtain ⟨its,rv,p,hz⟩:=I.tuple hq
  obtain ⟨f0,f1,f2,f3,f4,f5⟩:=hf it (by simp)
  have hl:=rv.length
  exact wpAny_pyNext_tuple_end (I.ok.hd hc) st (show s.heap.IsTuple a its.toArray from p) (by simp;omega) fun h' eb=>⟨rfl,I.turned (t':=s.toks) (fun b o hb e=>eb b o hb e) f0 f1 f3 f4 f5⟩
 self:=fun _ _ _ _ _ st h=>wpAny_pyIter_tupleiter st h
theorem qFz {P:Program} {w:World} {K:PySem.W.Frag} {tg:Expr} (it:Addr) (lo:Int) (n:Nat):qEr P w K tg (Itr lo n) [it] it (fun i h=>IsRangeIter h it (lo + (i:Nat) * 1) ((n:Int) - (i:Nat)) 1) where
 mem:=by simp
 obj:=fun i h st b hb=>by
  have e:b=it:=by simpa using hb
  subst e
  exact ⟨_,st,fun v z=>by
   have z':Data.fields _=Data.cell v:=z
   cases z'⟩
 keep:=fun i h h' st k=>k it (by simp) _ st
 item:=by
  intro X hP hw hK hc i pins s σ H E I hf st hg
  subst hP hw hK
  obtain ⟨f0,f1,f2,f3,f4,f5⟩:=hf it (by simp)
  have W:=Walks.range (prog:=X.prog) (w:=X.w) (I.ok.hd hc) it lo 1 n
  refine W.item i s _ _ hg st fun v h' tk hv st' kk=>?_
  obtain ⟨t,rfl⟩:=hv
  have I1:Inv X pins σ H { s with heap:=h',toks:=tk }:=I.turned (fun b o hb e=>kk b o (by simpa using hb) e) f0 f1 f3 f4 f5
  refine ⟨_,rfl,go_of (s:={ s with heap:=h',toks:=tk }) (n:="range_iterator") st' rfl rfl (by decide) ⟨.int (lo + i),H,I1,⟨t,?_⟩,⟨rfl,rfl⟩,st',fun b hb=>(hf b hb).1⟩⟩
  rw [Int.mul_one]
 done:=by
  intro X hP hw hK hc i pins s σ H E I hf st hg
  subst hP hw hK
  obtain ⟨f0,f1,f2,f3,f4,f5⟩:=hf it (by simp)
  exact wpAny_pyNext_range_end (I.ok.hd hc) st (by have:n<=i:=hg;omega) fun h' eb=>⟨rfl,I.turned (t':=s.toks) (fun b o hb e=>eb b o hb e) f0 f1 f3 f4 f5⟩
 self:=fun _ _ _ _ _ st h=>wpAny_pyIter_rangeiter st h
open PySem PySem.Spec PyProof.Rows
section
variable {X:Cx} {tg:Expr}
theorem qFk {pins:List (Addr×Obj)} {σ:St} {H:Hp} {s:Shared} {R:It -> Hp -> Prop} {E:Value -> Shared -> Prop} {lo hi:Int} {t u v:Tok} {tk:Nat} (I:Inv X pins σ H s) (h1:-(2 ^ 62)<=lo) (h2:lo < 2 ^ 62) (h3:-(2 ^ 62)<=hi) (h4:hi < 2 ^ 62)
  (q:R (Itr lo (hi - lo).toNat) H):wpAny (model X.prog X.w) X.A (pyIter (.ref s.heap.objs.size)) (PIE X pins σ tg R) E { s with heap:=s.heap.push { cls:=.type "range",data:=.fields #[.int lo t,.int hi u,.int 1 v] },toks:=tk }:=by
 refine wpAny_pyIter_range (IsRange.new ..) (small_one h1 h2 h3 h4) ?_
 have I1:Inv X pins σ H { s with heap:=s.heap.push { cls:=.type "range",data:=.fields #[.int lo t,.int hi u,.int 1 v] },toks:=tk }:=I.kept fun b o e=>Heap.get?_push_of_some _ e
 refine ⟨(s.heap.push { cls:=.type "range",data:=.fields #[.int lo t,.int hi u,.int 1 v] }).objs.size,[(s.heap.push { cls:=.type "range",data:=.fields #[.int lo t,.int hi u,.int 1 v] }).objs.size],_,_,H,rfl,
  I1.kept (t':=tk) fun b o e=>Heap.get?_push_of_some _ e,qFz _ lo (hi - lo).toNat,?_,fun b hb=>?_,q⟩
 ·have e1:lo + ((0:Nat):Int) * 1=lo:=by simp
  have e2:(((hi - lo).toNat:Nat):Int) - ((0:Nat):Int)=Builtin.Range.rangeSize lo hi 1:=by rw [rangeSize_one];split<;>omega
  show IsRangeIter _ _ (lo + ((0:Nat):Int) * 1) ((((hi - lo).toNat:Nat):Int) - ((0:Nat):Int)) 1
  rw [e1,e2]
  exact Heap.get?_push_size _ rfl
 ·have e:b=(s.heap.push { cls:=.type "range",data:=.fields #[.int lo t,.int hi u,.int 1 v] }).objs.size:=by simpa using hb
  subst e
  exact I1.fpOk (Nat.le_refl _) (I1.hok.fresh (Nat.le_refl _))
noncomputable def qMr (ta:TA):TI:=fun σ H R=>ta σ H fun vs H1=>∃ j:Int,vs=[.int j]/\-(2 ^ 62)<=j/\j < 2 ^ 62/\R (Itr 0 j.toNat) H1
noncomputable def qM1 (ta:TA):TI:=fun σ H R=>ta σ H fun vs H1=>∃ i j:Int,vs=[.int i,.int j]/\(-(2 ^ 62)<=i/\i < 2 ^ 62/\-(2 ^ 62)<=j/\j < 2 ^ 62)/\R (Itr i (j - i).toNat) H1
theorem pi_range1 {a:Expr} {ta:TA} {p pos:Pos} (hg:Gl X "range") (hm:X.mg "range"=none) (ha:PA X [a] ta) (hs:starEach [a] X.env=[(false,eval a X.env)]:=by rfl):PI X tg (.Call (.Name "range" p) [a] [] pos) (qMr ta):=by
 intro pins s σ H R I h
 refine Call_ (ld_blt I hg hm boot_range (PyProof.Rows.callWith_type1 (thn (ha pos pins s σ H _ I h) fun us s1 ⟨vs,H1,I1,r1,q1⟩=>?_) hs rfl))
 obtain ⟨j,e,q1,q2,q⟩:=q1
 subst e
 cases r1 with
 | cons r rr=>
  cases rr
  obtain ⟨t,rfl⟩:=r
  exact call_range_1 (qFk I1 (by omega) (by omega) q1 q2 (by simpa using q))
theorem pi_range2 {a b:Expr} {ta:TA} {p pos:Pos} (hg:Gl X "range") (hm:X.mg "range"=none) (ha:PA X [a,b] ta) (hs:starEach [a,b] X.env=[(false,eval a X.env),(false,eval b X.env)]:=by rfl) (hs2:starEach [b] X.env=[(false,eval b X.env)]:=by rfl):
  PI X tg (.Call (.Name "range" p) [a,b] [] pos) (qM1 ta):=by
 intro pins s σ H R I h
 refine Call_ (ld_blt I hg hm boot_range (PyProof.Rows.callWith_type1 (thn (ha pos pins s σ H _ I h) fun us s1 ⟨vs,H1,I1,r1,q1⟩=>?_) (by rw [hs,hs2]) (by rw [hs2];rfl)))
 obtain ⟨i,j,e,⟨q1,q2,q3,q4⟩,q⟩:=q1
 subst e
 cases r1 with
 | cons r rr=>
  cases rr with
  | cons r' rr=>
   cases rr
   obtain ⟨t,rfl⟩:=r
   obtain ⟨t',rfl⟩:=r'
   exact call_range_2 (qFk I1 q1 q2 q3 q4 q)
noncomputable def qOj (wi:TI) (g:TG) (tb:TS):TS:=fun D σ H=>wi σ H fun J H1=>∃ W:Nat -> Nat -> St -> Hp -> Prop,(∃ m,W 0 m σ H1)/\∀ i m σ H,W i m σ H ->
 (J.stop i H/\D.nx σ H)\/(J.go i H/\∃ N:St -> Hp -> Prop,(∀ σ' H',N σ' H' -> ∃ m',m' < m/\W (i + 1) m' σ' H')/\∀ x H',J.yld i H x H' -> g x σ H' fun σ2 H2=>tb { D with nx:=N,ct:=N,bk:=D.nx } σ2 H2)
noncomputable def qEP (fp:List Addr) (h:Heap):List (Addr×Obj):=fp.filterMap fun b=>(h.get? b).map fun o=>(b,o)
theorem qBi {fp:List Addr} {h:Heap} {b:Addr} {o:Obj} (hb:b∈fp) (e:h.get? b=some o):(b,o)∈qEP fp h:=List.mem_filterMap.mpr ⟨b,hb,by rw [e];rfl⟩
theorem qHL {fp:List Addr} {h:Heap} {p:Addr×Obj} (hp:p∈qEP fp h):p.1∈fp/\h.get? p.1=some p.2:=by
 obtain ⟨b,hb,e⟩:=List.mem_filterMap.mp hp
 cases q:h.get? b with
 | none=>rw [q] at e;cases e
 | some o=>
  rw [q] at e
  have e':(b,o)=p:=Option.some.inj e
  subst e'
  exact ⟨hb,q⟩
theorem Inv.pinned {pins:List (Addr×Obj)} {σ:St} {H:Hp} {s:Shared} {fp:List Addr} (I:Inv X pins σ H s) (hf:∀ b∈fp,qEK X pins H b) (ho:∀ b∈fp,∃ o,s.heap.get? b=some o/\∀ v,o.data≠.cell v):Inv X (pins++qEP fp s.heap) σ H s:=
 I.pins_of fun p hp=>(List.mem_append.mp hp).elim (fun z=>I.pin p (List.mem_append_right _ z)) fun z=>by
  obtain ⟨hb,e⟩:=qHL z
  obtain ⟨f0,f1,f2,_⟩:=hf p.1 hb
  obtain ⟨o,e',d⟩:=ho p.1 hb
  rw [e] at e';cases e'
  exact ⟨e,f0,f1,f2,d⟩
theorem Inv.unpinned {pins pl:List (Addr×Obj)} {σ:St} {H:Hp} {s:Shared} (I:Inv X (pins++pl) σ H s):Inv X pins σ H s:=I.pins_of fun p hp=>I.pin p (List.mem_append_right _ (List.mem_append_left _ hp))
theorem ps_for {iter:Expr} {body:List Stmt} {wi:TI} {g:TG} {tb:TS} {pos:Pos} (hp:PassesOwn (model X.prog X.w) X.A X.env X.xe) (hc:X.calm=true) (hi:PI X tg iter wi) (hg:PG X tg g) (hb:PSs X body tb)
  (hs:∀ x,foldedSetIterable iter X.env x=pure x:=by intro _;rfl):PS X (.For tg iter body [] pos) (qOj wi g tb):=by
 intro pins s σ H D I h
 refine wpAny_For (thn (hi pins s σ H _ I h) fun v s1 h1=>thn h1 fun itv s2 h2=>?_) hs
 obtain ⟨it,fp,tn,J,H2,e,I2,T,st2,f2,W,⟨m0,w0⟩,qHS⟩:=h2
 subst e
 have stat:∀ {H':Hp},(∀ b∈fp,H' b=none) -> ∀ b∈fp,qEK X pins H' b:=fun hn b hb=>⟨hn b hb,(f2 b hb).2⟩
 refine codeAny_forLoop_any (fun n s'=>∃ i σ' H',Inv X pins σ' H' s'/\tn i s'.heap/\(∀ b∈fp,H' b=none)/\W i n σ' H') ?_ m0 ⟨0,σ,H2,I2,st2,fun b hb=>(f2 b hb).1,w0⟩
 rintro n s3 ⟨i,σ3,H3,I3,st3,fr3,w3⟩
 rcases qHS i n σ3 H3 w3 with ⟨stop,qn⟩ | ⟨go,N,hN,step⟩
 ·refine wpAny_passesOwn hp (thn (T.done X rfl rfl rfl hc i pins s3 σ3 H3 X.xe I3 (stat fr3) st3 stop) fun r s4 ⟨hr,I4⟩=>?_)
  subst hr
  exact wpAny_execs_nil ⟨σ3,H3,I4,qn⟩
 ·refine wpAny_passesOwn hp (thn (T.item X rfl rfl rfl hc i pins s3 σ3 H3 X.xe I3 (stat fr3) st3 go) fun r s4 ⟨u,hr,h4⟩=>?_)
  subst hr
  refine wpAny_passesOwn hp (thn h4 fun _ s5 ⟨x,H5,I5,r5,y5,st5,fr5⟩=>?_)
  have I5':=I5.pinned (stat fr5) (T.obj _ _ st5)
  refine wpAny_passesOwn hp (thn (hg _ s5 σ3 H5 x u _ I5' r5 (step x H5 y5)) fun _ s6 ⟨σ6,H6,I6,q6⟩=>?_)
  refine wpAny_passesOwn hp (thn (hb _ s6 σ6 H6 _ I6 q6) fun f s7 q7=>?_)
  have again:∀ {σ7:St} {H7:Hp},Inv X (pins++qEP fp s5.heap) σ7 H7 s7 -> N σ7 H7 -> ∃ m,m < n/\∃ i σ' H',Inv X pins σ' H' s7/\tn i s7.heap/\(∀ b∈fp,H' b=none)/\W i m σ' H':=fun {σ7 H7} I7 n7=>by
   obtain ⟨m',hm,w7⟩:=hN σ7 H7 n7
   refine ⟨m',hm,i + 1,σ7,H7,I7.unpinned,T.keep _ _ _ st5 fun b hb o e=>(I7.pin (b,o) (List.mem_append_right _ (List.mem_append_right _ (qBi hb e)))).1,fun b hb=>?_,w7⟩
   obtain ⟨o,e,d⟩:=T.obj _ _ st5 b hb
   exact (I7.pin (b,o) (List.mem_append_right _ (List.mem_append_right _ (qBi hb e)))).2.1
  cases f with
  | next=>obtain ⟨σ7,H7,I7,n7⟩:=q7;exact again I7 n7
  | cont=>obtain ⟨σ7,H7,I7,n7⟩:=q7;exact again I7 n7
  | brk=>obtain ⟨σ7,H7,I7,q7⟩:=q7;exact ⟨σ7,H7,I7.unpinned,q7⟩
  | ret v=>obtain ⟨x7,σ7,H7,I7,r7,q7⟩:=q7;exact ⟨x7,σ7,H7,I7.unpinned,r7,q7⟩
end
open PySem PySem.Spec PyProof.Rows
noncomputable abbrev R2:=V -> V -> Hp -> VK -> Prop
noncomputable def OpR (X:Cx) (f:Value -> Value -> Sem Value) (r:R2):Prop:=
 ∀ (pins:List (Addr×Obj)) (s:Shared) (σ:St) (H:Hp) (x y:V) (v u:Value) (Q:VK),Inv X pins σ H s -> RelV x v -> RelV y u -> r x y H Q ->
  wpAny (model X.prog X.w) X.A (f v u) (EP X pins σ Q) X.xe s
noncomputable def UnR (X:Cx) (f:Value -> Sem Value) (r:V -> Hp -> VK -> Prop):Prop:=
 ∀ (pins:List (Addr×Obj)) (s:Shared) (σ:St) (H:Hp) (x:V) (v:Value) (Q:VK),Inv X pins σ H s -> RelV x v -> r x H Q ->
  wpAny (model X.prog X.w) X.A (f v) (EP X pins σ Q) X.xe s
noncomputable def qAt (X:Cx) (f:Value) (r:List V -> Hp -> VK -> Prop):Prop:=
 ∀ (pins:List (Addr×Obj)) (s:Shared) (σ:St) (H:Hp) (xs:List V) (us:List Value) (Q:VK),Inv X pins σ H s -> Vals xs us -> r xs H Q ->
  wpAny (model X.prog X.w) X.A (call f us) (EP X pins σ Q) X.xe s
noncomputable def tOp (r:R2) (ta tb:TE):TE:=fun σ H Q=>ta σ H fun x H1=>tb σ H1 fun y H2=>r x y H2 Q
noncomputable def tUn (r:V -> Hp -> VK -> Prop) (ta:TE):TE:=fun σ H Q=>ta σ H fun x H1=>r x H1 Q
noncomputable def rI (C:Int -> Int -> Prop) (g:Int -> Int -> V):R2:=fun x y H Q=>∃ i j,x=.int i/\y=.int j/\C i j/\Q (g i j) H
noncomputable def rI0 (g:Int -> Int -> V):R2:=fun x y H Q=>∃ i j,x=.int i/\y=.int j/\Q (g i j) H
noncomputable def rU (g:Int -> V):V -> Hp -> VK -> Prop:=fun x H Q=>∃ i,x=.int i/\Q (g i) H
section
variable {X:Cx} {a b c:Expr} {ta tb tc:TE} {pos:Pos}
theorem qAm (ha:PE X a ta) (hb:PE X b tb) {pins:List (Addr×Obj)} {s:Shared} {σ:St} {H:Hp} {R:V -> V -> Hp -> Prop} (I:Inv X pins σ H s)
  (h:ta σ H fun x H1=>tb σ H1 fun y H2=>R x y H2) {Q:Value -> Shared -> Prop} {f:Value -> Value -> Sem Value}
  (hf:∀ v u s2 x y H2,Inv X pins σ H2 s2 -> RelV x v -> RelV y u -> R x y H2 -> wpAny (model X.prog X.w) X.A (f v u) Q X.xe s2):
  wpAny (model X.prog X.w) X.A (eval a X.env) (fun v s₁=>wpAny (model X.prog X.w) X.A (eval b X.env) (fun u s₂=>wpAny (model X.prog X.w) X.A (f v u) Q X.xe s₂) X.xe s₁) X.xe s:=by
 refine thn (ha pins s σ H _ I h) fun v s1 ⟨x,H1,I1,r1,q1⟩=>?_
 refine thn (hb pins s1 σ H1 _ I1 q1) fun u s2 ⟨y,H2,I2,r2,q2⟩=>?_
 exact hf v u s2 x y H2 I2 r1 r2 q2
theorem pe_op {op:Operator} {r:R2} (ho:OpR X (binaryOp op) r) (ha:PE X a ta) (hb:PE X b tb):PE X (.BinOp a op b pos) (tOp r ta tb):=by
 intro pins s σ H Q I h
 exact wpAny_BinOp (qAm ha hb I h fun v u s2 x y H2 I2 rx ry q=>ho pins s2 σ H2 x y v u Q I2 rx ry q)
theorem pe_un {op:UnaryOp} {r:V -> Hp -> VK -> Prop} (ho:UnR X (unaryOp op) r) (ha:PE X a ta):PE X (.UnaryOp op a pos) (tUn r ta):=by
 intro pins s σ H Q I h
 exact UnaryOp_ (thn (ha pins s σ H _ I h) fun v s1 ⟨x,H1,I1,r1,q1⟩=>ho pins s1 σ H1 x v Q I1 r1 q1)
theorem opI {f:Value -> Value -> Sem Value} {C:Int -> Int -> Prop} {g:Int -> Int -> Int}
  (rule:∀ (i j:Int) (t u:Tok) (s:Shared) (Q:Value -> Shared -> Prop) (E:Value -> Shared -> Prop),C i j -> Q (.int (g i j) s.toks) { s with toks:=s.toks + 1 } -> wpAny (model X.prog X.w) X.A (f (.int i t) (.int j u)) Q E s):
  OpR X f (rI C fun i j=>.int (g i j)):=by
 intro pins s σ H x y v u Q I rx ry h
 obtain ⟨i,j,rfl,rfl,hc,q⟩:=h
 obtain ⟨t,rfl⟩:=rx
 obtain ⟨t',rfl⟩:=ry
 exact rule i j t t' s _ _ hc ⟨.int (g i j),H,I.tok _,⟨_,rfl⟩,q⟩
theorem qKh {f:Value -> Value -> Sem Value} {g:Int -> Int -> Int}
  (rule:∀ (i j:Int) (t u:Tok) (s:Shared) (Q:Value -> Shared -> Prop) (E:Value -> Shared -> Prop),Q (.int (g i j) s.toks) { s with toks:=s.toks + 1 } -> wpAny (model X.prog X.w) X.A (f (.int i t) (.int j u)) Q E s):
  OpR X f (rI0 fun i j=>.int (g i j)):=by
 intro pins s σ H x y v u Q I rx ry h
 obtain ⟨i,j,rfl,rfl,q⟩:=h
 obtain ⟨t,rfl⟩:=rx
 obtain ⟨t',rfl⟩:=ry
 exact rule i j t t' s _ _ ⟨.int (g i j),H,I.tok _,⟨_,rfl⟩,q⟩
theorem qL9 {f:Value -> Value -> Sem Value} {g:Int -> Int -> Bool}
  (rule:∀ (i j:Int) (t u:Tok) (s:Shared) (Q:Value -> Shared -> Prop) (E:Value -> Shared -> Prop),Q (.bool (g i j)) s -> wpAny (model X.prog X.w) X.A (f (.int i t) (.int j u)) Q E s):
  OpR X f (rI0 fun i j=>.bl (g i j)):=by
 intro pins s σ H x y v u Q I rx ry h
 obtain ⟨i,j,rfl,rfl,q⟩:=h
 obtain ⟨t,rfl⟩:=rx
 obtain ⟨t',rfl⟩:=ry
 exact rule i j t t' s _ _ ⟨.bl (g i j),H,I,rfl,q⟩
noncomputable def CDiv (i j:Int):Prop:=0 < j/\j < 1073741824
noncomputable def CPow (i j:Int):Prop:=0<=j/\j<=1000000/\i.natAbs < 2 ^ 64
noncomputable def CMul (i j:Int):Prop:=(-(2 ^ 64) < i/\i < 2 ^ 64)\/(-(2 ^ 64) < j/\j < 2 ^ 64)
theorem CMul.ok {i j:Int} (h:CMul i j):IntMulOk i j:=by
 rcases h with ⟨h1,h2⟩ | ⟨h1,h2⟩
 ·exact .of_left (intBits_le_64 h1 h2)
 ·exact .of_right (intBits_le_64 h1 h2)
theorem two_pow_nn (k:Nat):(0:Int)<=2 ^ k:=by
 rw [two_pow_cast]
 exact Int.natCast_nonneg _
theorem op_add:OpR X (binaryOp .Add) (rI0 fun i j=>.int (i + j)):=qKh fun _ _ _ _ _ _ _ q=>add_int q
theorem op_sub:OpR X (binaryOp .Sub) (rI0 fun i j=>.int (i - j)):=qKh fun _ _ _ _ _ _ _ q=>sub_int q
theorem op_mul:OpR X (binaryOp .Mult) (rI CMul fun i j=>.int (i * j)):=opI fun _ _ _ _ _ _ _ hc q=>mul_int q hc.ok
theorem op_fdiv:OpR X (binaryOp .FloorDiv) (rI CDiv fun i j=>.int (i / j)):=opI fun i j _ _ _ _ _ hc q=>by
 have h1:(0:Int) < j:=hc.1
 have h2:j < 1073741824:=hc.2
 exact floordiv_int (by omega) (by rw [Int.fdiv_eq_ediv_of_nonneg i (by omega)];exact q) (.inl (PyProof.noPylong_small (by omega)))
theorem op_mod:OpR X (binaryOp .Mod) (rI (fun _ j=>0 < j) fun i j=>.int (i % j)):=opI fun i j _ _ _ _ _ hc q=>by
 have h1:(0:Int) < j:=hc
 exact mod_int' (by omega) (by rw [Int.fmod_eq_emod_of_nonneg i (by omega)];exact q)
theorem op_modN:OpR X (binaryOp .Mod) (rI (fun _ j=>j≠0) fun i j=>.int (i.fmod j)):=opI fun _ _ _ _ _ _ _ hc q=>mod_int' hc q
theorem op_pow:OpR X (binaryOp .Pow) (rI CPow fun i j=>.int (i ^ j.toNat)):=opI fun _ _ _ _ _ _ _ hc q=>pow_int_small hc.1 hc.2.1 hc.2.2 q
theorem op_shl:OpR X (binaryOp .LShift) (rI CPow fun i j=>.int (i * 2 ^ j.toNat)):=opI fun _ _ _ _ _ _ _ hc q=>lshift_int_small hc.1 hc.2.1 hc.2.2 q
theorem op_shr:OpR X (binaryOp .RShift) (rI (fun _ j=>0<=j) fun i j=>.int (i / 2 ^ j.toNat)):=opI fun i j _ _ _ _ _ hc q=>
 rshift_int hc (by rw [Int.fdiv_eq_ediv_of_nonneg i (two_pow_nn _)];exact q)
theorem op_and:OpR X (binaryOp .BitAnd) (rI0 fun i j=>.int (Builtin.bitAnd i j)):=qKh fun _ _ _ _ _ _ _ q=>and_int q
theorem op_or:OpR X (binaryOp .BitOr) (rI0 fun i j=>.int (Builtin.bitOr i j)):=qKh fun _ _ _ _ _ _ _ q=>or_int q
theorem op_xor:OpR X (binaryOp .BitXor) (rI0 fun i j=>.int (Builtin.bitXor i j)):=qKh fun _ _ _ _ _ _ _ q=>xor_int q
theorem unI {f:Value -> Sem Value} {g:Int -> Int}
  (rule:∀ (i:Int) (t:Tok) (s:Shared) (Q:Value -> Shared -> Prop) (E:Value -> Shared -> Prop),Q (.int (g i) s.toks) { s with toks:=s.toks + 1 } -> wpAny (model X.prog X.w) X.A (f (.int i t)) Q E s):
  UnR X f (rU fun i=>.int (g i)):=by
 intro pins s σ H x v Q I rx h
 obtain ⟨i,rfl,q⟩:=h
 obtain ⟨t,rfl⟩:=rx
 exact rule i t s _ _ ⟨.int (g i),H,I.tok _,⟨_,rfl⟩,q⟩
theorem un_neg:UnR X (unaryOp .USub) (rU fun i=>.int (-i)):=unI fun _ _ _ _ _ q=>neg_int q
end
section
variable {X:Cx} {a b c:Expr} {ta tb tc:TE} {pos:Pos}
theorem qIr {pins:List (Addr×Obj)} {σ:St} {H:Hp} {s:Shared} {Q:VK} {k k':Bool} (I:Inv X pins σ H s) (q:Q (.bl k) H) (e:k=k'):EP X pins σ Q (.bool k') s:=by
 subst e
 exact ⟨.bl k,H,I,rfl,q⟩
theorem op_lt:OpR X (compareOp .Lt) (rI0 fun i j=>.bl (decide (i < j))):=qL9 fun _ _ _ _ _ _ _ q=>lt_int q
theorem op_le:OpR X (compareOp .LtE) (rI0 fun i j=>.bl (decide (i<=j))):=qL9 fun _ _ _ _ _ _ _ q=>le_int q
theorem op_gt:OpR X (compareOp .Gt) (rI0 fun i j=>.bl (decide (j < i))):=qL9 fun _ _ _ _ _ _ _ q=>gt_int q
theorem op_ge:OpR X (compareOp .GtE) (rI0 fun i j=>.bl (decide (j<=i))):=qL9 fun _ _ _ _ _ _ _ q=>ge_int q
theorem op_isN:OpR X (compareOp .Is) (fun x y H Q=>y=.non/\Q (.bl (decide (x=.non))) H):=by
 intro pins s σ H x y v u Q I rx ry h
 obtain ⟨rfl,q⟩:=h
 cases ry
 refine is_none_gen (qIr I q ?_)
 cases x<;>first
  | (cases rx;rfl)
  | (obtain ⟨t,rfl⟩:=rx;rfl)
theorem op_notN:OpR X (compareOp .IsNot) (fun x y H Q=>y=.non/\Q (.bl (!decide (x=.non))) H):=by
 intro pins s σ H x y v u Q I rx ry h
 obtain ⟨rfl,q⟩:=h
 cases ry
 refine isnot_none_gen (qIr I q ?_)
 cases x<;>first
  | (cases rx;rfl)
  | (obtain ⟨t,rfl⟩:=rx;rfl)
theorem OpR.or {f:Value -> Value -> Sem Value} {r r':R2} (h:OpR X f r) (h':OpR X f r'):OpR X f (fun x y H Q=>r x y H Q\/r' x y H Q):=by
 intro pins s σ H x y v u Q I rx ry q
 rcases q with q | q
 ·exact h pins s σ H x y v u Q I rx ry q
 ·exact h' pins s σ H x y v u Q I rx ry q
theorem pe_cmpR {op:CmpOp} {r:R2} (ho:OpR X (compareOp op) r) (ha:PE X a ta) (hb:PE X b tb) (hm:behindInMarks op b=false):PE X (.Compare a [op] [b] pos) (tOp r ta tb):=by
 intro pins s σ H Q I h
 exact wpAny_Compare1 (qAm ha hb I h fun v u s2 x y H2 I2 rx ry q=>ho pins s2 σ H2 x y v u Q I2 rx ry q) hm
noncomputable def qJk (t:TE):TT:=fun σ H Q=>t σ H fun x H'=>∃ k,x=.bl k/\Q k H'
theorem pt_cmpR {op:CmpOp} {r:R2} (ho:OpR X (compareOp op) r) (ha:PE X a ta) (hb:PE X b tb) (hm:behindInMarks op b=false):PT X (.Compare a [op] [b] pos) (qJk (tOp r ta tb)):=by
 intro pins s σ H Q I h
 refine wpAny_isTrue_Compare1 (thn (ha pins s σ H _ I h) fun v s1 ⟨x,H1,I1,r1,q1⟩=>thn (hb pins s1 σ H1 _ I1 q1) fun u s2 ⟨y,H2,I2,r2,q2⟩=>
  thn (ho pins s2 σ H2 x y v u _ I2 r1 r2 q2) fun c s3 ⟨z,H3,I3,r3,k,e,q3⟩=>?_) hm
 subst e
 cases r3
 exact wpAny_truthy_bool ⟨H3,I3,q3⟩
noncomputable def tChain (r r':R2) (ta tb tc:TE):TE:=fun σ H Q=>ta σ H fun x H1=>tb σ H1 fun y H2=>r x y H2 fun z H3=>∃ k,z=.bl k/\
 (if k=true then tc σ H3 fun w' H4=>r' y w' H4 Q else Q (.bl false) H3)
theorem pe_chain {op op':CmpOp} {r r':R2} (ho:OpR X (compareOp op) r) (ho':OpR X (compareOp op') r') (ha:PE X a ta) (hb:PE X b tb) (hc:PE X c tc)
  (hm:lastMarks [op,op'] [b,c]=false:=by with_unfolding_all rfl):PE X (.Compare a [op,op'] [b,c] pos) (tChain r r' ta tb tc):=by
 intro pins s σ H Q I h
 refine Compare_chain (thn (ha pins s σ H _ I h) fun v s1 ⟨x,H1,I1,r1,q1⟩=>chain_link (thn (hb pins s1 σ H1 _ I1 q1) fun u s2 ⟨y,H2,I2,r2,q2⟩=>
  thn (ho pins s2 σ H2 x y v u _ I2 r1 r2 q2) fun d s3 ⟨z,H3,I3,r3,k,e,q3⟩=>?_)) hm
 subst e
 cases r3
 refine wpAny_truthy_bool ?_
 cases k with
 | false=>exact ite_ff ⟨.bl false,H3,I3,rfl,q3⟩
 | true=>exact ite_tt (chain_last (thn (hc pins s3 σ H3 _ I3 q3) fun w' s4 ⟨z',H4,I4,r4,q4⟩=>ho' pins s4 σ H4 y z' u w' Q I4 r2 r4 q4))
theorem pt_chain {op op':CmpOp} {r r':R2} (ho:OpR X (compareOp op) r) (ho':OpR X (compareOp op') r') (ha:PE X a ta) (hb:PE X b tb) (hc:PE X c tc)
  (hm:lastMarks [op,op'] [b,c]=false:=by with_unfolding_all rfl):PT X (.Compare a [op,op'] [b,c] pos) (qJk (tChain r r' ta tb tc)):=by
 intro pins s σ H Q I h
 refine isTrue_chain (thn (ha pins s σ H _ I h) fun v s1 ⟨x,H1,I1,r1,q1⟩=>test_link (thn (hb pins s1 σ H1 _ I1 q1) fun u s2 ⟨y,H2,I2,r2,q2⟩=>
  thn (ho pins s2 σ H2 x y v u _ I2 r1 r2 q2) fun d s3 ⟨z,H3,I3,r3,k,e,q3⟩=>?_)) hm
 subst e
 cases r3
 refine wpAny_truthy_bool ?_
 cases k with
 | false=>
  obtain ⟨k',e',q'⟩:=q3
  cases e'
  exact ite_ff ⟨H3,I3,q'⟩
 | true=>
  refine ite_tt (test_last (thn (hc pins s3 σ H3 _ I3 q3) fun w' s4 ⟨z',H4,I4,r4,q4⟩=>thn (ho' pins s4 σ H4 y z' u w' _ I4 r2 r4 q4) fun d' s5 ⟨z2,H5,I5,r5,k2,e2,q5⟩=>?_))
  subst e2
  cases r5
  exact wpAny_truthy_bool ⟨H5,I5,q5⟩
theorem line63:(sizeLine:Nat) < 2 ^ 63:=by rw [sizeLine_eq];decide
theorem vals1 {x:V} {us:List Value} (r:Vals [x] us):∃ u,us=[u]/\RelV x u:=by
 cases r with
 | cons r1 r2=>cases r2;exact ⟨_,rfl,r1⟩
theorem vals2 {x y:V} {us:List Value} (r:Vals [x,y] us):∃ u w',us=[u,w']/\RelV x u/\RelV y w':=by
 cases r with
 | cons r1 r2=>
  cases r2 with
  | cons r3 r4=>cases r4;exact ⟨_,_,rfl,r1,r3⟩
theorem call_abs:qAt X (.builtin "abs") (fun xs H Q=>∃ i,xs=[.int i]/\Q (.int (if i < 0 then -i else i)) H):=by
 intro pins s σ H xs us Q I r h
 obtain ⟨i,rfl,q⟩:=h
 obtain ⟨u,rfl,t,rfl⟩:=vals1 r
 exact call_abs_int fun u tk=>⟨.int (if i < 0 then -i else i),H,I.tok _,⟨_,rfl⟩,q⟩
theorem call_max2 (hc:X.calm=true):qAt X (.builtin "max") (fun xs H Q=>∃ i j,xs=[.int i,.int j]/\Q (.int (if j > i then j else i)) H):=by
 intro pins s σ H xs us Q I r h
 obtain ⟨i,j,rfl,q⟩:=h
 obtain ⟨u,w',rfl,⟨t,rfl⟩,⟨t',rfl⟩⟩:=vals2 r
 refine max_two_ints (I.ok.hd hc) fun h' tk k=>⟨_,H,I.kept k,?_,q⟩
 by_cases hj:j > i
 ·rw [if_pos hj,if_pos hj];exact ⟨_,rfl⟩
 ·rw [if_neg hj,if_neg hj];exact ⟨_,rfl⟩
theorem call_min2 (hc:X.calm=true):qAt X (.builtin "min") (fun xs H Q=>∃ i j,xs=[.int i,.int j]/\Q (.int (if j < i then j else i)) H):=by
 intro pins s σ H xs us Q I r h
 obtain ⟨i,j,rfl,q⟩:=h
 obtain ⟨u,w',rfl,⟨t,rfl⟩,⟨t',rfl⟩⟩:=vals2 r
 refine min_two_ints (I.ok.hd hc) fun h' tk k=>⟨_,H,I.kept k,?_,q⟩
 by_cases hj:j < i
 ·rw [if_pos hj,if_pos hj];exact ⟨_,rfl⟩
 ·rw [if_neg hj,if_neg hj];exact ⟨_,rfl⟩
theorem call_int1:qAt X (.type "int") (fun xs H Q=>(∃ i,xs=[.int i]/\Q (.int i) H)\/∃ k,xs=[.bl k]/\Q (.int (if k then 1 else 0)) H):=by
 intro pins s σ H xs us Q I r h
 rcases h with ⟨i,rfl,q⟩ | ⟨k,rfl,q⟩
 ·obtain ⟨u,rfl,t,rfl⟩:=vals1 r
  exact call_int_int ⟨.int i,H,I,⟨_,rfl⟩,q⟩
 ·obtain ⟨u,rfl,r1⟩:=vals1 r
  cases r1
  exact call_int_bool ⟨.int (if k then 1 else 0),H,I.tok _,⟨_,rfl⟩,q⟩
end
open PySem PySem.Spec PyProof.Rows
section
variable {prog:Program} {w:World} {A:Around} {E:Value -> Shared -> Prop} {s:Shared} {K:PySem.W.Frag} {x dx C f:Addr} {mA:Str -> Option Value} {name:Str} {v:Value}
end
section
variable {P:Program} {w:World} {H H':Hp} {h h':Heap} {a C dx:Addr} {fs fs':List (Str×V)}
end
section
variable {X:Cx} {pins:List (Addr×Obj)} {σ:St} {H:Hp} {s:Shared} {a C dx:Addr} {fs:List (Str×V)} {f:Str} {v:V} {A:Around} {E:Value -> Shared -> Prop}
end
section
variable {X:Cx} {o e value:Expr} {f:Str} {pos pos' tpos:Pos} {ta tv:TE}
end
section
variable {X:Cx} {pins:List (Addr×Obj)} {σ:St} {H:Hp} {s:Shared} {A:Around} {E:Value -> Shared -> Prop} {Q:Value -> Shared -> Prop} {c:Value} {b:Bool}
end
open PySem PySem.Spec PyProof.Rows
structure Room (k:Nat) (A:Around):Prop where
 hd:A.handled=none
 dp:A.depth + 3 * k + 5 < recursionLimit
 un:A.units + 16 * k + 200 < cLine
 gd:A.guards=some []
theorem Room.deeper {k:Nat} {A:Around} (r:Room (k + 1) A) (env:Env):Room k (A.deeper env):=
 ⟨r.hd,by have:=r.dp;show A.depth + 1 + 3 * k + 5 < _;omega,by have:=r.un;show A.units + 3 + 16 * k + 200 < _;omega,r.gd⟩
theorem Room.depth {k:Nat} {A:Around} (r:Room k A):A.depth < recursionLimit:=by have:=r.dp;omega
theorem Room.units {k:Nat} {A:Around} (r:Room k A):A.units + 64 < cLine:=by have:=r.un;omega
noncomputable def qOD:TA:=fun _ H Q=>Q [] H
noncomputable def qMy (ta:TE) (tr:TA):TA:=fun σ H Q=>ta σ H fun x H1=>tr σ H1 fun xs H2=>Q (x::xs) H2
section
variable {X:Cx} {e:Expr} {es:List Expr} {te:TE} {t:TA} {pos:Pos}
theorem pa_nil:PA X [] qOD:=fun _ _ _ _ H Q I h=>Calls.spliced_nil ⟨[],H,I,.nil,h⟩
theorem pa_cons (ha:PE X e te) (hr:PA X es t) (hs:starEach (e::es) X.env=(false,eval e X.env)::starEach es X.env:=by rfl):PA X (e::es) (qMy te t):=by
 intro pos pins s σ H Q I h
 rw [hs]
 show wpAny _ _ (spliced ((false,eval e X.env)::backTo pos (starEach es X.env))) _ _ s
 refine Calls.spliced_cons (thn (ha pins s σ H _ I h) fun u s1 ⟨x,H1,I1,r1,q1⟩=>?_)
 exact thn (hr pos pins s1 σ H1 _ I1 q1) fun us s2 ⟨xs,H2,I2,r2,q2⟩=>⟨x::xs,H2,I2,.cons r1 r2,q2⟩
noncomputable def qOz (t:TA):TE:=fun σ H Q=>t σ H fun xs H1=>xs.length<=sizeLine/\∀ p,H1 p=none -> Q (.ref p) (upd H1 p (.tup xs))
noncomputable def qOw (t:TA):TE:=fun σ H Q=>t σ H fun xs H1=>xs.length<=sizeLine/\∀ p,H1 p=none -> Q (.ref p) (upd H1 p (.lst xs))
theorem pe_tup {x1} (h:PA X es t):PE X (.Tuple es x1 pos) (qOz t):=by
 intro pins s σ H Q I hq
 refine wpAny_Tuple_spliced (thn (h pos pins s σ H _ I hq) fun us s1 ⟨xs,H1,I1,r,z,q⟩=>⟨by rw [<- r.length];exact z,?_⟩)
 have hf:H1 s1.heap.objs.size=none:=I1.hok.fresh (Nat.le_refl _)
 refine ⟨.ref s1.heap.objs.size,upd H1 s1.heap.objs.size (.tup xs),I1.laid (t':=s1.toks) (fun b u e=>Heap.get?_push_of_some _ e) (Nat.le_refl _) ?_,rfl,q _ hf⟩
 exact ⟨z,us,r,⟨_,Heap.get?_push_size _ rfl,rfl,_,rfl⟩⟩
theorem pe_lst (h:PA X es t):PE X (.List es pos) (qOw t):=by
 intro pins s σ H Q I hq
 refine wpAny_List_spliced (thn (h pos pins s σ H _ I hq) fun us s1 ⟨xs,H1,I1,r,z,q⟩=>⟨by rw [<- r.length];exact z,?_⟩)
 have hf:H1 s1.heap.objs.size=none:=I1.hok.fresh (Nat.le_refl _)
 refine ⟨.ref s1.heap.objs.size,upd H1 s1.heap.objs.size (.lst xs),I1.laid (t':=s1.toks) (fun b u e=>Heap.get?_push_of_some _ e) (Nat.le_refl _) ?_,rfl,q _ hf⟩
 exact ⟨z,us,0,r,Heap.get?_push_size _ rfl⟩
end
noncomputable abbrev Sp:=List V -> Hp -> VK -> XK -> Prop
noncomputable abbrev CXT:=List Env -> Hp -> Shared -> XK -> Value -> Shared -> Prop
structure qL3 (P:Program) (w:World) (K:PySem.W.Frag) (mg:Str -> Option Value) (base:Heap) (A:Around) (outer:List Env) (s:Shared) (H:Hp):Prop where
 frames:A.frames=some outer
 mod:Mod K mg base
 bs:∀ b o,base.get? b=some o -> s.heap.get? b=some o/\H b=none
 bsz:base.objs.size<=s.heap.objs.size
 funs:s.heap.FunFrames base outer
 frf:∀ b∈frs outer,H b=none
 hok:HOk P w H s.heap
 bare:AllBare s.gens
noncomputable def CE (outer:List Env) (P:Program) (w:World) (H:Hp) (s:Shared) (Q:VK) (u:Value) (s':Shared):Prop:=
 ∃ v H',s'.os=s.os/\AllBare s'.gens/\Un (frs outer) [] H H' s.heap s'.heap/\HOk P w H' s'.heap/\RelV v u/\Q v H'
noncomputable def CR (CX:CXT) (outer:List Env) (P:Program) (w:World) (H:Hp) (s:Shared) (Q:VK) (E:XK) (r:Result) (s':Shared):Prop:=
 match r with
 | .ok (.ret u)=>CE outer P w H s Q u s'
 | .ok _=>False
 | .error e=>CX outer H s E e s'
structure FnOk (P:Program) (w:World) (K:PySem.W.Frag) (mg:Str -> Option Value) (base:Heap) (CX:CXT) (k:Nat) (f:Addr) (fd:FuncData) (ps:List Str) (sp:Sp):Prop where
 len:∀ vs H Q E,sp vs H Q E -> vs.length=ps.length
 run:∀ (A:Around) (outer:List Env) (s:Shared) (H:Hp) (args:Args) (us:List Value) (vs:List V) (Q:VK) (E:XK),Room k A -> qL3 P w K mg base A outer s H -> BindsTo s fd args (ps.zip us) -> Vals vs us -> sp vs H Q E ->
  codeAny (model P w) A (.call (.ref f) args) (CR CX outer P w H s Q E) s
section
variable {X:Cx} {pins:List (Addr×Obj)} {σ:St} {H:Hp} {s s':Shared}
theorem Inv.env0 (I:Inv X pins σ H s):qL3 X.prog X.w X.K X.mg X.base X.A X.stack s H:=
 ⟨I.ok.frames,I.ok.mod,I.bs,Nat.le_trans I.ok.bsz I.sz,I.stack,I.stkFree,I.hok,I.bare⟩
theorem Inv.after {Q:VK} {u:Value} (I:Inv X pins σ H s) (h:CE X.stack X.prog X.w H s Q u s'):EP X pins σ Q u s':=by
 obtain ⟨v,H',os,bare,un,hok,r,q⟩:=h
 obtain ⟨hh,g,d,t,os'⟩:=s'
 obtain rfl:os'=s.os:=os
 exact ⟨v,H',I.call (h':=hh) (g':=g) (d':=d) (t':=t) (ch:=[]) un hok bare (fun b z=>absurd z (by simp)),r,q⟩
end
noncomputable def tCall (sp:Sp) (dvs:List V) (E:XK) (t:TA):TE:=fun σ H Q=>t σ H fun vs H1=>sp (vs++dvs) H1 Q E
noncomputable def Binds (K:PySem.W.Frag) (fd:FuncData) (ps:List Str) (ds:List Value):Prop:=
 ∀ (s:Shared) (us:List Value),K.In s.heap -> (us++ds).length=ps.length -> BindsTo s fd ⟨us,[]⟩ (ps.zip (us++ds))
theorem Binds.all {K:PySem.W.Frag} {fd:FuncData} {ps:List Str} (h:∀ us:List Value,us.length=ps.length -> bindArgs fd ⟨us,[]⟩=pure (ps.zip us)):Binds K fd ps []:=fun s us _ hl=>by
 rw [List.append_nil] at hl ⊢
 exact .of_eq (h us hl)
noncomputable def qE5 (CX:CXT) (X:Cx) (E:XK):Prop:=∀ (pins:List (Addr×Obj)) (σ:St) (H:Hp) (s:Shared) (e:Value) (s':Shared),Inv X pins σ H s -> CX X.stack H s E e s' -> X.xe e s'
section
variable {X:Cx} {CX:CXT} {k:Nat} {f C:Addr} {fd:FuncData} {ps:List Str} {sp:Sp} {dvs:List V} {ds:List Value} {E:XK} {x m:Str} {p pos apos:Pos} {e o:Expr} {es:List Expr} {ta:TE} {t:TA}
theorem qIn {pins:List (Addr×Obj)} {σ:St} {H:Hp} {s:Shared} {Q:VK} {us:List Value} {vs:List V} (F:FnOk X.prog X.w X.K X.mg X.base CX k f fd ps sp) (hr:Room k X.A) (hb:Binds X.K fd ps ds) (hd:Vals dvs ds) (hx:qE5 CX X E)
  (I:Inv X pins σ H s) (r:Vals vs us) (h:sp (vs++dvs) H Q E):wpAny (model X.prog X.w) X.A (call (.ref f) us) (EP X pins σ Q) X.xe s:=by
 have r2:Vals (vs++dvs) (us++ds):=r.append hd
 have hl:(us++ds).length=ps.length:=by rw [<- r2.length];exact F.len _ _ _ _ h
 refine wpAny_call (codeAny_mono (F.run X.A X.stack s H ⟨us,[]⟩ (us++ds) (vs++dvs) Q E hr I.env0 (hb s us I.kIn hl) r2 h) fun r s' hq=>?_)
 cases r with
 | error e=>exact hx pins σ H s e s' I hq
 | ok fl=>
  cases fl with
  | ret u=>exact I.after hq
  | next=>exact False.elim hq
  | brk=>exact False.elim hq
  | cont=>exact False.elim hq
theorem pe_call (F:FnOk X.prog X.w X.K X.mg X.base CX k f fd ps sp) (hr:Room k X.A) (hg:Gl X x) (hm:X.mg x=some (.ref f)) (hk:PySem.W.keepIn X.K (.ref f)=true) (hb:Binds X.K fd ps ds) (hd:Vals dvs ds) (hx:qE5 CX X E)
  (ha:PA X (e::es) t) (hdb:(x==("__debug__":Str))=false:=by decide) (he:starEach (e::es) X.env=(false,eval e X.env)::starEach es X.env:=by rfl) (hpl:(backTo pos (starEach es X.env)).any (·.1)=false:=by rfl):
  PE X (.Call (.Name x p) (e::es) [] pos) (tCall sp dvs E t):=by
 intro pins s σ H Q I h
 refine wpAny_Call_Name_kw (qEs I hg hm ?_ hdb)
 refine PySem.W.callWith_K (h₀:=X.base) I.ok.mod.kin hk (thn (ha pos pins s σ H _ I h) fun us s1 ⟨vs,H1,I1,r,q⟩=>⟨I1.kIn,?_⟩) he hpl
 exact qIn F hr hb hd hx I1 r q
theorem pe_call0 (F:FnOk X.prog X.w X.K X.mg X.base CX k f fd ps sp) (hr:Room k X.A) (hg:Gl X x) (hm:X.mg x=some (.ref f)) (hk:PySem.W.keepIn X.K (.ref f)=true) (hb:Binds X.K fd ps ds) (hd:Vals dvs ds) (hx:qE5 CX X E)
  (hdb:(x==("__debug__":Str))=false:=by decide):PE X (.Call (.Name x p) [] [] pos) (tCall sp dvs E qOD):=by
 intro pins s σ H Q I h
 refine wpAny_Call_Name_kw (qEs I hg hm ?_ hdb)
 exact PySem.W.callWith_K0 I.kIn hk (qIn (us:=[]) F hr hb hd hx I .nil h)
end
section
variable {X:Cx} {CX:CXT} {k:Nat} {f C:Addr} {fd:FuncData} {ps ks:List Str} {sp:Sp} {E:XK} {x m:Str} {p pos apos kpos:Pos} {e o:Expr} {es:List Expr} {kws:List Keyword} {te ta:TE} {t tk:TA} {nm:Option Str}
variable {g:List Value -> List Value -> List Value} {gV:List V -> List V -> List V}
end
structure qBd (N P:List Str) (sc:Scope):Prop where
 kind:sc.kind=.function
 co:sc.isCoroutine=false
 gen:sc.isGenerator=false
 nd:N.Nodup
 pre:N.take P.length=P
 par:∀ x∈P,sc.names.lookup x=some .local\/sc.names.lookup x=some .cell
 nofree:∀ y∈sc.names,y.2≠.free
theorem qEV {kindOf:Str -> Option NameKind} {x:Str}:∀ {binds:List (Str×Value)} {m:Str -> Option Value},(∀ v,(x,v)∉binds) -> bindL kindOf binds m x=m x
 | [],_,_=>rfl
 | (n,v)::r,m,h=>by
  unfold bindL
  rw [qEV fun w hw=>h w (List.mem_cons_of_mem _ hw)]
  split
  ·have:x≠n:=by rintro rfl;exact h v List.mem_cons_self
   simp [this]
  ·rfl
theorem qEE {kindOf:Str -> Option NameKind} {x:Str}:∀ {binds:List (Str×Value)} {m:Str -> Option Value},(∀ v,(x,v)∉binds) -> bindC kindOf binds m x=m x
 | [],_,_=>rfl
 | (n,v)::r,m,h=>by
  unfold bindC
  rw [qEE fun w hw=>h w (List.mem_cons_of_mem _ hw)]
  split
  ·rfl
  ·have:x≠n:=by rintro rfl;exact h v List.mem_cons_self
   simp [this]
theorem qEW {kindOf:Str -> Option NameKind} {x:Str} {v:Value}:∀ {P:List Str} {vs:List Value} {i:Nat} {m:Str -> Option Value},P.Nodup -> P[i]?=some x -> vs[i]?=some v -> kindOf x=some .local ->
  bindL kindOf (P.zip vs) m x=some v
 | [],_,_,_,_,h,_,_=>by simp at h
 | _::_,[],_,_,_,_,h,_=>by simp at h
 | p::P,w::vs,0,m,nd,h1,h2,hk=>by
  simp at h1 h2;subst h1;subst h2
  show bindL kindOf ((p,w)::P.zip vs) m p=_
  unfold bindL
  rw [qEV fun v hv=>(List.nodup_cons.mp nd).1 (List.of_mem_zip hv).1,if_pos hk]
  simp
 | p::P,w::vs,i + 1,m,nd,h1,h2,hk=>by
  show bindL kindOf ((p,w)::P.zip vs) m x=_
  unfold bindL
  exact qEW (i:=i) (List.nodup_cons.mp nd).2 (by simpa using h1) (by simpa using h2) hk
theorem qEa {kindOf:Str -> Option NameKind} {x:Str} {v:Value}:∀ {P:List Str} {vs:List Value} {i:Nat} {m:Str -> Option Value},P.Nodup -> P[i]?=some x -> vs[i]?=some v -> kindOf x≠some .local ->
  bindC kindOf (P.zip vs) m x=some v
 | [],_,_,_,_,h,_,_=>by simp at h
 | _::_,[],_,_,_,_,h,_=>by simp at h
 | p::P,w::vs,0,m,nd,h1,h2,hk=>by
  simp at h1 h2;subst h1;subst h2
  show bindC kindOf ((p,w)::P.zip vs) m p=_
  unfold bindC
  rw [qEE fun v hv=>(List.nodup_cons.mp nd).1 (List.of_mem_zip hv).1,if_neg hk]
  simp
 | p::P,w::vs,i + 1,m,nd,h1,h2,hk=>by
  show bindC kindOf ((p,w)::P.zip vs) m x=_
  unfold bindC
  exact qEa (i:=i) (List.nodup_cons.mp nd).2 (by simpa using h1) (by simpa using h2) hk
noncomputable def start (N:List Str) (vs:List V):St:=vs.map some++List.replicate (N.length - vs.length) none
noncomputable def cxOf (CX:CXT) (P:Program) (w:World) (K:PySem.W.Frag) (mg:Str -> Option Value) (base:Heap) (N:List Str) (qual:Str) (scope:Scope) (f:Addr) (cd:Value) (A:Around) (outer:List Env) (s:Shared) (H:Hp) (E:XK):Cx where
 prog:=P
 w:=w
 K:=K
 mg:=mg
 base:=base
 A:=A.deeper (envOfC qual scope s.heap.objs.size f cd)
 N:=N
 s₀:=s
 H₀:=H
 env:=envOfC qual scope s.heap.objs.size f cd
 outer:=outer
 stack:=envOfC qual scope s.heap.objs.size f cd::outer
 ex:=[]
 calm:=true
 fn:=fun _=>true
 pn:=[]
 xe:=fun e s'=>wpAny (model P w) (A.deeper (envOfC qual scope s.heap.objs.size f cd)) (leaving (envOfC qual scope s.heap.objs.size f cd) e) (fun _ s''=>CX outer H s E e s'') (fun e' s''=>CX outer H s E e' s'') s'
theorem qFZ {sc:Scope} {n:Nat} {x:Str} (h:sc.names.lookup x=some .cell):∃ c,(cellsFrom n sc.names []).lookup x=some c:=by
 have q:=PySem.W.cellsFrom_some sc.names n [] (.inl h)
 exact Option.isSome_iff_exists.mp q
theorem qGx {CX:CXT} {P:Program} {w:World} {K:PySem.W.Frag} {mg:Str -> Option Value} {base:Heap} {N ps:List Str} {qual:Str} {scope:Scope} {f:Addr} {cd:Value} {A:Around} {outer:List Env} {s s1:Shared} {H:Hp} {E:XK} {us:List Value} {vs:List V}
  (S:qBd N ps scope) (hd:A.handled=none) (e0:qL3 P w K mg base A outer s H) (hl:vs.length=ps.length) (r:Vals vs us)
  (x:InCallC s s.heap.objs.size (bindL (envOfC qual scope s.heap.objs.size f cd).kindOf (ps.zip us) fun _=>none) (cellsFrom (s.heap.objs.size + 1) scope.names []) (bindC (envOfC qual scope s.heap.objs.size f cd).kindOf (ps.zip us) fun _=>none) s1):
  Inv (cxOf CX P w K mg base N qual scope f cd A outer s H E) [] (start N vs) H s1:=by
 have hpl:ps.length<=N.length:=by have:=congrArg List.length S.pre;rw [List.length_take] at this;omega
 obtain ⟨h1,tk,rfl,hk⟩:=x.done
 have noA:∀ b:Addr,b∉(cxOf CX P w K mg base N qual scope f cd A outer s H E).ex:=fun b z=>absurd (show b∈([]:List Addr) from z) (by simp)
 refine ⟨⟨e0.mod,S.kind,rfl,rfl,Nat.le_refl _,fun y z c h1 h2=>?_,fun y hy=>?_,fun y c _ h=>?_,fun _=>hd,Around.frames_deeper e0.frames,.inr ⟨rfl,rfl⟩,fun b z=>absurd z (noA b),e0.bs,e0.bsz,fun b _ _=>noA b,fun b z=>absurd z (noA b),e0.funs,e0.frf⟩,
  rfl,e0.bare,Un.kept hk,⟨_,x.toInCall.ns,fun i y v h1 h2 h3=>?_⟩,fun y c h=>⟨_,x.cell y c h⟩,e0.hok.fresh (Nat.le_refl _),fun y c h=>?_,fun p hp=>absurd (show p∈([]:List (Addr×Obj)) from hp) (by simp),e0.hok.kept hk,?_⟩
 ·exact name_of_addr x.apart (PySem.mem_of_lookup h1) (PySem.mem_of_lookup h2)
 ·have hy:scope.names.lookup y=some .cell\/scope.names.lookup y=some .free:=hy
  rcases hy with hy | hy
  ·exact qFZ hy
  ·exact absurd rfl (S.nofree _ (PySem.mem_of_lookup hy))
 ·exact Nat.le_of_lt (x.above y c (PySem.mem_of_lookup h))
 ·have hi:i < vs.length:=by
   unfold start at h2
   by_cases hi:i < vs.length
   ·exact hi
   ·rw [List.getElem?_append_right (by simpa using hi)] at h2
    rw [List.getElem?_replicate] at h2
    split at h2<;>cases h2
  have ha:vs[i]?=some v:=by
   unfold start at h2
   rw [List.getElem?_append_left (by simpa using hi),List.getElem?_map] at h2
   cases e:vs[i]? with
   | none=>rw [e] at h2;cases h2
   | some a=>rw [e] at h2;cases h2;rfl
  obtain ⟨u,hu,rv⟩:=r.get ha
  have hp:ps[i]?=some y:=by
   rw [<- S.pre,List.getElem?_take_of_lt (by omega)];exact h1
  have ndP:ps.Nodup:=by rw [<- S.pre];exact S.nd.sublist (List.take_sublist _ _)
  refine ⟨u,rv,?_⟩
  rcases S.par y (List.mem_of_getElem? hp) with k | k
  ·exact .inl ⟨k,qEW ndP hp hu k⟩
  ·obtain ⟨c,e⟩:=qFZ (n:=s.heap.objs.size + 1) k
   refine .inr ⟨.inl k,c,e,?_⟩
   have q:=x.cell y c e
   rw [qEa ndP hp hu (by show scope.names.lookup y≠_;rw [k];decide)] at q
   exact q
 ·exact e0.hok.fresh (Nat.le_of_lt (x.above y c (PySem.mem_of_lookup h)))
 ·unfold start
  show _=N.length
  rw [List.length_append,List.length_map,List.length_replicate]
  omega
theorem qMf {CX:CXT} {P:Program} {w:World} {K:PySem.W.Frag} {mg:Str -> Option Value} {base:Heap} {k:Nat} {f:Addr} {name qual:Str} {params:Arguments} {body:List Stmt} {scope:Scope} {dV kV doc pm cdv ct oc:Value} {an od:Option Addr}
  {osl:Array (Option Value)} {N ps:List Str} {sp:Sp} (lk:K.lookup f=some ⟨oc,od,.func (PySem.W.fnOf name qual params body scope dV kV doc pm an cdv ct),osl⟩) (hcd:PySem.W.codeIn K cdv qual=true) (S:qBd N ps scope)
  (len:∀ vs H Q E,sp vs H Q E -> vs.length=ps.length)
  (hbody:∀ (A:Around) (outer:List Env) (s:Shared) (H:Hp) (vs:List V) (Q:VK) (E:XK),Room k (A.deeper (envOfC qual scope s.heap.objs.size f cdv)) -> sp vs H Q E ->
   ∃ t,PSs (cxOf CX P w K mg base N qual scope f cdv A outer s H E) body t/\t { nx:=fun _ H'=>Q .non H',rt:=Q } (start N vs) H):
  FnOk P w K mg base CX (k + 1) f (PySem.W.fnOf name qual params body scope dV kV doc pm an cdv ct) ps sp:=by
 refine ⟨len,fun A outer s H args us vs Q E hr e0 hb r hsp=>?_⟩
 have hl:=len _ _ _ _ hsp
 have KX:K.In s.heap:=e0.mod.kin.keeps fun b o e=>(e0.bs b o e).1
 have lim:s.heap.NoLimit:=e0.mod.nolimit.keeps fun b o e=>(e0.bs b o e).1
 have hkind:∀ y∈ps.zip us,scope.names.lookup y.1=some .local\/(scope.names.lookup y.1=some .cell/\((cellsFrom (s.heap.objs.size + 1) scope.names []).lookup y.1).isSome=true):=fun ⟨n,v⟩ hy=>by
  rcases S.par n (List.of_mem_zip hy).1 with q | q
  ·exact .inl q
  ·exact .inr ⟨q,PySem.W.cellsFrom_some _ _ _ (.inl q)⟩
 refine codeAny_call_function hr.depth (KX _ _ lk) rfl S.co S.gen rfl (PySem.W.codeRec_of KX hcd) (hb _ _ _ _ ?_)
 refine wpAny_newFunctionEnv_cells S.kind hkind fun env he s1 x=>?_
 subst he
 refine ⟨lim.keeps x.toInCall.keep,codeAny_func ?_⟩
 obtain ⟨t,ht,hq⟩:=hbody A outer s H vs Q E (hr.deeper _) hsp
 have I:Inv (cxOf CX P w K mg base N qual scope f cdv A outer s H E) [] (start N vs) H s1:=qGx S hr.hd e0 hl r x
 refine wpAny_mono (ht [] s1 (start N vs) H _ I hq) (fun fl s' hs=>?_) fun e s' hs=>hs
 have fin:∀ {σ':St} {H':Hp} {v:V} {u:Value},Inv (cxOf CX P w K mg base N qual scope f cdv A outer s H E) [] σ' H' s' -> RelV v u -> Q v H' -> CE outer P w H s Q u s':=
  fun {σ' H' v u} J rv q=>⟨v,H',J.os,J.bare,J.base,J.hok,rv,q⟩
 cases fl with
 | ret u=>
  obtain ⟨v,σ',H',J,rv,q⟩:=hs
  exact fin J rv q
 | next=>
  obtain ⟨σ',H',J,q⟩:=hs
  exact fin (v:=V.non) (u:=Value.none) J rfl q
 | brk=>
  obtain ⟨_,_,_,q⟩:=hs
  exact False.elim q
 | cont=>
  obtain ⟨_,_,_,q⟩:=hs
  exact False.elim q
open PySem PySem.Spec PyProof.Rows
section
variable {X:Cx} {x:Str} {p pos:Pos} {e:Expr} {es:List Expr} {t:TA} {id T:String} {r:List V -> Hp -> VK -> Prop}
noncomputable def tCB (r:List V -> Hp -> VK -> Prop) (t:TA):TE:=fun σ H Q=>t σ H fun vs H1=>r vs H1 Q
theorem pe_callB (hc:qAt X (.builtin id) r) (hg:Gl X x) (hm:X.mg x=none) (hv:bootBuiltins x=some (.builtin id)) (ha:PA X (e::es) t) (hn:x≠"__name__":=by decide) (hdb:(x==("__debug__":Str))=false:=by decide)
  (he:starEach (e::es) X.env=(false,eval e X.env)::starEach es X.env:=by rfl) (hpl:(backTo pos (starEach es X.env)).any (·.1)=false:=by rfl):PE X (.Call (.Name x p) (e::es) [] pos) (tCB r t):=by
 intro pins s σ H Q I h
 refine wpAny_Call_Name_kw (ld_blt I hg hm hv ?_ hn hdb)
 exact PyProof.Rows.callWith_builtin1 (thn (ha pos pins s σ H _ I h) fun us s1 ⟨vs,H1,I1,r1,q1⟩=>hc pins s1 σ H1 vs us Q I1 r1 q1) he hpl
theorem pe_callTy (hc:qAt X (.type T) r) (hg:Gl X x) (hm:X.mg x=none) (hv:bootBuiltins x=some (.type T)) (ha:PA X (e::es) t) (hn:x≠"__name__":=by decide) (hdb:(x==("__debug__":Str))=false:=by decide)
  (he:starEach (e::es) X.env=(false,eval e X.env)::starEach es X.env:=by rfl) (hpl:(backTo pos (starEach es X.env)).any (·.1)=false:=by rfl):PE X (.Call (.Name x p) (e::es) [] pos) (tCB r t):=by
 intro pins s σ H Q I h
 refine wpAny_Call_Name_kw (ld_blt I hg hm hv ?_ hn hdb)
 exact PyProof.Rows.callWith_type1 (thn (ha pos pins s σ H _ I h) fun us s1 ⟨vs,H1,I1,r1,q1⟩=>hc pins s1 σ H1 vs us Q I1 r1 q1) he hpl
end
end L2
namespace HT
open PySem PyProof.Rows
section
open PySem.SeqAt
open PySem.AutoSeq1 (wpAny_loadPart')
open PySem.MeetsSeq PySem.MeetsSeq2 PySem.MeetsSeq3
end
section
variable {prog:Program} {w:World} {A:Around} {E:Value -> Shared -> Prop} {s:Shared}
theorem cat_tup {t b:Addr} {vs ws:List Value} {Q:Value -> Shared -> Prop} (ht:IsTup s.heap t vs.toArray) (hb:IsTup s.heap b ws.toArray) (hv:vs≠[])
  (h1:ws=[] -> Q (.ref t) s) (h2:ws≠[] -> Q (.ref s.heap.objs.size) { s with heap:=s.heap.push { cls:=.type "tuple",data:=.seq (vs++ws).toArray } })
  (hsz:vs.length + ws.length<=sizeLine):wpAny (model prog w) A (binaryOp .Add (.ref t) (.ref b)) Q E s:=by
 obtain ⟨⟨cls,dd,data,sl⟩,ho,hc,n,hd⟩:=id ht
 obtain ⟨⟨cls2,dd2,data2,sl2⟩,ho2,hc2,n2,hd2⟩:=id hb
 simp only at hc hd hc2 hd2
 subst hc hd hc2 hd2
 have e:vs.toArray++ws.toArray=(vs++ws).toArray:=by simp
 by_cases hw:ws=[]
 ·exact concat_meets ⟨_,ho,rfl⟩ ⟨_,ho2,rfl⟩ noFill_tuple_add seq_tuple_add PySem.F.slot_tuple_add PySem.F.entry_tuple_add (PySem.F.args_tuple_add_2 _ _)
   (tuple_addW1 t b vs.toArray ws.toArray n n2 dd dd2 sl sl2 (by simpa using hv) (by simp [hw])) ⟨ho,ho2,h1 hw⟩
 ·refine concat_meets ⟨_,ho,rfl⟩ ⟨_,ho2,rfl⟩ noFill_tuple_add seq_tuple_add PySem.F.slot_tuple_add PySem.F.entry_tuple_add (PySem.F.args_tuple_add_2 _ _)
   (tuple_addW2 t b vs.toArray ws.toArray n n2 dd dd2 sl sl2 (by simpa using hv) (by simpa using hw) (by rw [List.size_toArray,List.size_toArray];exact hsz)) ⟨ho,ho2,?_⟩
  rw [e]
  exact h2 hw
noncomputable def sIx (n d:Nat):Option Int -> Nat
 | none=>d
 | some v=>if v < 0 then (v + (n:Int)).toNat else min v.toNat n
theorem qKP (n d:Nat) (hd:d<=n) (o:Option Int):sIx n d o<=n:=by
 cases o with
 | none=>exact hd
 | some v=>
  show (if v < 0 then (v + (n:Int)).toNat else min v.toNat n)<=n
  by_cases hv:v < 0
  ·rw [if_pos hv];omega
  ·rw [if_neg hv];exact Nat.min_le_right _ _
theorem qHN (v:Int) (n d:Nat):(if v < 0 then max (v + (n:Int)) 0 else min v (n:Int))=((sIx n d (some v):Nat):Int):=by
 show (if v < 0 then max (v + (n:Int)) 0 else min v (n:Int))=(((if v < 0 then (v + (n:Int)).toNat else min v.toNat n):Nat):Int)
 by_cases hv:v < 0
 ·simp only [if_pos hv];omega
 ·simp only [if_neg hv];omega
theorem qF3 (lo hi:Option Int) (n:Nat):Builtin.Slice.sliceAdjust lo hi 1 (n:Int)=(((sIx n 0 lo:Nat):Int),((sIx n n hi:Nat):Int)):=by
 have h1:¬ ((1:Int) < 0):=by omega
 unfold Builtin.Slice.sliceAdjust
 simp only [h1,if_false]
 refine Prod.ext ?_ ?_
 ·cases lo with
  | none=>rfl
  | some v=>exact qHN v n 0
 ·cases hi with
  | none=>rfl
  | some v=>exact qHN v n n
theorem qFs (i j:Nat):Builtin.Slice.slicePlaces (i:Int) (j:Int) 1=j - i:=by
 unfold Builtin.Slice.slicePlaces
 have h1:(1:Int) > 0:=by omega
 simp only [h1,if_true,Int.ediv_one]
 split<;>omega
theorem qDS {v:Value} {o:Option Int} {Q:Option Int -> Shared -> Prop} (p:IsPart v o) (h:Q o s):wpAny (model prog w) A (Builtin.Slice.slicePartIndex v) Q E s:=by
 cases p with
 | none=>exact slicePart_none h
 | int i t=>exact slicePart_int h
theorem qCd {sl:Addr} {vl vu:Value} {lo hi:Option Int} {n:Nat} {Q:Int×Int×Nat -> Shared -> Prop} (hs:s.heap.IsSliceOf sl vl vu .none) (pl:IsPart vl lo) (pu:IsPart vu hi)
  (h:Q (((sIx n 0 lo:Nat):Int),1,sIx n n hi - sIx n 0 lo) s):wpAny (model prog w) A (Builtin.Slice.sliceApplied (.ref sl) (pure (n:Int))) Q E s:=by
 obtain ⟨os,hos,hcs,hds⟩:=id hs
 unfold Builtin.Slice.sliceApplied Builtin.Slice.sliceFields
 refine wpAny_bind (wpAny_bind (wpAny_field hos hds (x:=vl) rfl (wpAny_bind (wpAny_field hos hds (x:=vu) rfl (wpAny_bind (wpAny_field hos hds (x:=.none) rfl (wpAny_pure ?_)))))))
 refine wpAny_bind (slicePart_none ?_)
 show wpAny _ _ (if ((1:Int)==0)=true then _ else _) _ _ s
 rw [if_neg (by decide)]
 refine wpAny_bind (qDS pl (wpAny_bind (qDS pu (wpAny_bind (wpAny_pure ?_)))))
 show wpAny _ _ (match Builtin.Slice.sliceAdjust lo hi 1 (n:Int) with | (lo,hi)=>pure (lo,(1:Int),Builtin.Slice.slicePlaces lo hi 1)) _ _ s
 rw [qF3 lo hi n]
 show wpAny _ _ (pure (((sIx n 0 lo:Nat):Int),(1:Int),Builtin.Slice.slicePlaces ((sIx n 0 lo:Nat):Int) ((sIx n n hi:Nat):Int) 1)) _ _ s
 rw [qFs]
 exact wpAny_pure h
theorem qHx (xs:Array Value) (i k:Nat):((List.range k).filterMap fun (m:Nat)=>xs[((i:Int) + (m:Int) * 1).toNat]?).toArray=((xs.toList.drop i).take k).toArray:=by
 have e:(fun (m:Nat)=>xs[((i:Int) + (m:Int) * 1).toNat]?)=fun m=>xs[i + m]?:=by
  funext m
  have:((i:Int) + (m:Int) * 1).toNat=i + m:=by omega
  rw [this]
 rw [e]
 have:=pick_run xs i k
 rw [List.filterMap_map] at this
 have e2:((fun x=>xs[x]?)∘fun x=>i + x)=fun m=>xs[i + m]?:=rfl
 rw [e2] at this
 rw [this]
theorem getItem_tuple_cut {t sl:Addr} {items:Array Value} {vl vu:Value} {lo hi:Option Int} {Q:Value -> Shared -> Prop} (ht:IsTup s.heap t items) (hs:s.heap.IsSliceOf sl vl vu .none) (pl:IsPart vl lo) (pu:IsPart vu hi)
  (hw:¬ (sIx items.size 0 lo=0/\sIx items.size items.size hi=items.size))
  (h:Q (.ref s.heap.objs.size) { s with heap:=s.heap.push { cls:=.type "tuple",data:=.seq ((items.toList.drop (sIx items.size 0 lo)).take (sIx items.size items.size hi - sIx items.size 0 lo)).toArray } })
  (hsz:items.size<=sizeLine):wpAny (model prog w) A (getItem (.ref t) (.ref sl)) Q E s:=by
 have htake:sizeOk (.seq ((items.toList.drop (sIx items.size 0 lo)).take (sIx items.size items.size hi - sIx items.size 0 lo)).toArray):=by
  show ((items.toList.drop (sIx items.size 0 lo)).take (sIx items.size items.size hi - sIx items.size 0 lo)).toArray.size<=sizeLine
  rw [List.size_toArray,List.length_take,List.length_drop,Array.length_toList]
  omega
 have hj:sIx items.size items.size hi<=items.size:=qKP _ _ (Nat.le_refl _) hi
 obtain ⟨os,hos,hcs,hds⟩:=id hs
 have hTs:s.TypeIs (.ref sl) "slice":=⟨os,hos,hcs⟩
 unfold getItem
 try with_reducible refine wpAny_holding ?_
 first | refine wpAny_bind (wpAny_pure ?_) | skip
 refine wpAny_bind (wpAny_sequenceKey ht.typeIs (by decide) ?_)
 refine wpAny_bind (wpAny_callSpecial?_slot (name:=Str.ofString "__getitem__") ht.typeIs PyProof.Rows.slot_tuple_getitem
  (wpAny_call_entry PyProof.Rows.slot_tuple_getitem ht.typeIs entry_tuple_getitem ?_ (args_tuple_getitem _ _)))
 show wpAny _ _ (Builtin.Tuple.tupleItemsOf (.ref t) >>=_) _ _ s
 refine wpAny_bind (tupleItemsOf_ ht ?_)
 refine wpAny_bind (wpAny_typeOf hTs ?_)
 rw [if_pos (by decide)]
 refine wpAny_bind (qCd hs pl pu ?_)
 have hno:¬ ((((sIx items.size 0 lo:Nat):Int)==0&&(1:Int)==1&&(sIx items.size items.size hi - sIx items.size 0 lo)==items.size)=true):=by
  intro q
  rw [Bool.and_eq_true,Bool.and_eq_true] at q
  have q1:((sIx items.size 0 lo:Nat):Int)=0:=eq_of_beq q.1.1
  have q2:sIx items.size items.size hi - sIx items.size 0 lo=items.size:=eq_of_beq q.2
  exact hw ⟨by omega,by omega⟩
 show wpAny _ _ (if (((sIx items.size 0 lo:Nat):Int)==0&&(1:Int)==1&&(sIx items.size items.size hi - sIx items.size 0 lo)==items.size)=true then _ else _) _ _ s
 rw [if_neg hno,qHx]
 first
  | exact wpAny_bind (m:=Builtin.Tuple.tupleExact _) (wpAny_newObj_type (wpAny_pure ⟨_,rfl,wpAny_pure h⟩) htake)
  | exact wpAny_bind (m:=Builtin.Tuple.tupleExact _) (wpAny_newObj_type (wpAny_bind (wpAny_pure (wpAny_pure ⟨_,rfl,wpAny_pure h⟩))) htake)
  | exact wpAny_bind (wpAny_bind (m:=Builtin.Tuple.tupleExact _) (wpAny_newObj_type (wpAny_pure (wpAny_pure ⟨_,rfl,wpAny_pure h⟩)) htake))
  | exact wpAny_bind (wpAny_bind (m:=Builtin.Tuple.tupleExact _) (wpAny_newObj_type (wpAny_pure ⟨_,rfl,wpAny_pure h⟩) htake))
end
end HT
namespace L2
open PySem PySem.Spec PyProof.Rows
noncomputable abbrev TO:=St -> Hp -> (Option Int -> Hp -> Prop) -> Prop
noncomputable def PO (X:Cx) (e:Option Expr) (t:TO):Prop:=
 ∀ (pins:List (Addr×Obj)) (s:Shared) (σ:St) (H:Hp) (Q:Option Int -> Hp -> Prop),Inv X pins σ H s -> t σ H Q ->
  wpAny (model X.prog X.w) X.A (evalPart e X.env) (fun u s'=>∃ o H',Inv X pins σ H' s'/\IsPart u o/\Q o H') X.xe s
noncomputable def qI9:TO:=fun _ H Q=>Q none H
noncomputable def qMS (t:TE):TO:=fun σ H Q=>t σ H fun x H1=>∃ i,x=.int i/\Q (some i) H1
theorem intsAre_of {ns:List Int}:∀ {us:List Value},Vals (ns.map V.int) us -> IntsAre us ns:=by
 induction ns with
 | nil=>intro us r;rw [List.map_nil] at r;cases r;exact .nil
 | cons n ns ih=>
  intro us r
  rw [List.map_cons] at r
  cases r with
  | cons r1 r2=>
   obtain ⟨t,e⟩:=r1
   subst e
   exact .cons n t (ih r2)
section
variable {X:Cx} {e:Expr} {te:TE} {lo hi:Option Expr} {tl th:TO} {pos p2:Pos}
theorem po_none:PO X none qI9:=by
 intro pins s σ H Q I h
 rw [evalPart_none]
 exact wpAny_pure ⟨none,H,I,.none,h⟩
theorem po_some (h:PE X e te):PO X (some e) (qMS te):=by
 intro pins s σ H Q I hw
 rw [evalPart_some]
 refine thn (h pins s σ H _ I hw) fun u s1 ⟨x,H1,I1,r1,q1⟩=>?_
 obtain ⟨i,rfl,q⟩:=q1
 obtain ⟨t,rfl⟩:=r1
 exact ⟨some i,H1,I1,.int i t,q⟩
noncomputable def SlR (X:Cx) (r:V -> Option Int -> Option Int -> Hp -> VK -> Prop):Prop:=
 ∀ (pins:List (Addr×Obj)) (s:Shared) (σ:St) (H:Hp) (x:V) (v vl vu:Value) (lo hi:Option Int) (sl:Addr) (Q:VK),Inv X pins σ H s -> RelV x v -> s.heap.IsSliceOf sl vl vu .none -> IsPart vl lo -> IsPart vu hi -> r x lo hi H Q ->
  ∃ T id,typeLookup (.type T) "__getitem__"=pure (some (.builtin id))/\s.TypeIs v T/\wpAny (model X.prog X.w) X.A (getItem v (.ref sl)) (EP X pins σ Q) X.xe s
theorem SlR.or {r r':V -> Option Int -> Option Int -> Hp -> VK -> Prop} (h:SlR X r) (h':SlR X r'):SlR X (fun x lo hi H Q=>r x lo hi H Q\/r' x lo hi H Q):=by
 intro pins s σ H x v vl vu lo hi sl Q I rx hs pl pu q
 rcases q with q | q
 ·exact h pins s σ H x v vl vu lo hi sl Q I rx hs pl pu q
 ·exact h' pins s σ H x v vl vu lo hi sl Q I rx hs pl pu q
noncomputable def tSl (r:V -> Option Int -> Option Int -> Hp -> VK -> Prop) (te:TE) (tl th:TO):TE:=fun σ H Q=>te σ H fun x H1=>tl σ H1 fun l H2=>th σ H2 fun u H3=>r x l u H3 Q
theorem pe_slice {r:V -> Option Int -> Option Int -> Hp -> VK -> Prop} (hr:SlR X r) (he:PE X e te) (hl:PO X lo tl) (hu:PO X hi th):PE X (.Subscript e (.Slice lo hi none p2) pos) (tSl r te tl th):=by
 intro pins s σ H Q I h
 refine Subscript_ (thn (he pins s σ H _ I h) fun v s1 ⟨x,H1,I1,r1,q1⟩=>?_)
 refine wpAny_Slice (thn (hl pins s1 σ H1 _ I1 q1) fun vl s2 ⟨l,H2,I2,pl,q2⟩=>thn (hu pins s2 σ H2 _ I2 q2) fun vu s3 ⟨u,H3,I3,pu,q3⟩=>?_)
 rw [evalPart_none]
 refine wpAny_pure ?_
 have I4:Inv X pins σ H3 { s3 with heap:=s3.heap.push { cls:=.type "slice",data:=.fields #[vl,vu,.none] } }:=I3.kept (t':=s3.toks) fun b ob q=>Heap.get?_push_of_some _ q
 obtain ⟨T,id,hT,ht,hg⟩:=hr pins { s3 with heap:=s3.heap.push { cls:=.type "slice",data:=.fields #[vl,vu,.none] } } σ H3 x v vl vu l u s3.heap.objs.size Q I4 r1 (Heap.IsSliceOf.new ..) pl pu q3
 show wpAny (model X.prog X.w) X.A (subscriptTail e (.Slice lo hi none p2) v (.ref s3.heap.objs.size)) (EP X pins σ Q) X.xe { s3 with heap:=s3.heap.push { cls:=.type "slice",data:=.fields #[vl,vu,.none] } }
 exact tail_any (ops:=[.ref s3.heap.objs.size,v]) ht hT hg (by with_unfolding_all rfl)
noncomputable def cutV (xs:List V) (lo hi:Option Int):List V:=(xs.drop (HT.sIx xs.length 0 lo)).take (HT.sIx xs.length xs.length hi - HT.sIx xs.length 0 lo)
theorem qCu (xs:List V) (lo hi:Option Int):(cutV xs lo hi).length<=xs.length:=by
 unfold cutV
 rw [List.length_take,List.length_drop]
 omega
noncomputable def qPA (K:PySem.W.Frag):V -> Option Int -> Option Int -> Hp -> VK -> Prop:=fun x lo hi H Q=>∃ a xs,x=.ref a/\SqT K H a xs/\
 ¬ (HT.sIx xs.length 0 lo=0/\HT.sIx xs.length xs.length hi=xs.length)/\∀ p,H p=none -> Q (.ref p) (upd H p (.tup (cutV xs lo hi)))
theorem sl_tup:SlR X (qPA X.K):=by
 intro pins s σ H x v vl vu lo hi sl Q I rx hs pl pu h
 obtain ⟨a,xs,rfl,hx,hw,q⟩:=h
 cases rx
 obtain ⟨its,r,ht,hz⟩:=I.tuple hx
 have hlen:its.toArray.size=xs.length:=by rw [List.size_toArray];exact r.length.symm
 refine ⟨"tuple",_,PyProof.Rows.slot_tuple_getitem.lookup,ht.typeIs,?_⟩
 refine HT.getItem_tuple_cut ht hs pl pu (by rw [hlen];exact hw) ?_ (by rw [hlen];exact hz)
 rw [hlen]
 refine ⟨.ref s.heap.objs.size,_,I.laid (t':=s.toks) (o:=.tup (cutV xs lo hi)) (fun b ob q=>Heap.get?_push_of_some _ q) (Nat.le_refl _) ?_,rfl,q _ (I.hok.fresh (Nat.le_refl _))⟩
 exact ⟨Nat.le_trans (qCu xs lo hi) hz,_,(r.drop (HT.sIx xs.length 0 lo)).take (HT.sIx xs.length xs.length hi - HT.sIx xs.length 0 lo),IsTup.new _ _⟩
noncomputable def rCatT (K:PySem.W.Frag):R2:=fun x y H Q=>∃ a b xs ys,x=.ref a/\y=.ref b/\SqT K H a xs/\SqT K H b ys/\xs≠[]/\xs.length + ys.length<=sizeLine/\
 (ys=[] -> Q (.ref a) H)/\(ys≠[] -> ∀ p,H p=none -> Q (.ref p) (upd H p (.tup (xs++ys))))
theorem Vals.nil_iff {xs:List V} {us:List Value} (r:Vals xs us):us=[]↔xs=[]:=by
 cases r with
 | nil=>simp
 | cons _ _=>simp
theorem op_catT:OpR X (binaryOp .Add) (rCatT X.K):=by
 intro pins s σ H x y v u Q I rx ry h
 obtain ⟨a,b,xs,ys,rfl,rfl,ha,hb,hx,hz,q1,q2⟩:=h
 cases rx
 cases ry
 obtain ⟨its,r1,p1,_⟩:=I.tuple ha
 obtain ⟨its2,r2,p2,_⟩:=I.tuple hb
 refine HT.cat_tup p1 p2 (fun z=>hx (r1.nil_iff.mp z)) (fun z=>⟨.ref a,H,I,rfl,q1 (r2.nil_iff.mp z)⟩) (fun z=>?_) (by rw [<- r1.length,<- r2.length];exact hz)
 refine ⟨.ref s.heap.objs.size,_,I.laid (t':=s.toks) (o:=.tup (xs++ys)) (fun b ob q=>Heap.get?_push_of_some _ q) (Nat.le_refl _) ?_,rfl,q2 (fun w=>z (r2.nil_iff.mpr w)) _ (I.hok.fresh (Nat.le_refl _))⟩
 exact ⟨by rw [List.length_append];exact hz,_,r1.append r2,IsTup.new _ _⟩
end
open PySem PySem.Spec PyProof.Rows
noncomputable def ixN (n:Nat) (i:Int):Option Nat:=if 0<=i then (if i < n then some i.toNat else none) else if -(n:Int)<=i then some (i + n).toNat else none
noncomputable def atI {α:Type} (xs:List α) (i:Int):Option α:=(ixN xs.length i).bind fun j=>xs[j]?
theorem ixN_seq {n:Nat} {i:Int} {j:Nat} (h:ixN n i=some j):seqIndex? i n=some j/\j < n/\-(n:Int)<=i/\i < n:=by
 unfold ixN at h
 by_cases h0:0<=i
 ·rw [if_pos h0] at h
  by_cases h1:i < n
  ·rw [if_pos h1] at h
   have e:i.toNat=j:=Option.some.inj h
   exact ⟨by rw [seqIndex_of h0 h1,e],by omega,by omega,h1⟩
  ·rw [if_neg h1] at h;cases h
 ·rw [if_neg h0] at h
  by_cases h1:-(n:Int)<=i
  ·rw [if_pos h1] at h
   have e:(i + n).toNat=j:=Option.some.inj h
   exact ⟨by rw [seqIndex_neg (by omega) h1,e],by omega,h1,by omega⟩
  ·rw [if_neg h1] at h;cases h
theorem atI_get {α:Type} {xs:List α} {i:Int} {v:α} (h:atI xs i=some v):∃ j,seqIndex? i xs.length=some j/\xs[j]?=some v/\j < xs.length/\-(xs.length:Int)<=i/\i < xs.length:=by
 unfold atI at h
 cases e:ixN xs.length i with
 | none=>rw [e] at h;cases h
 | some j=>
  rw [e] at h
  obtain ⟨h1,h2,h3,h4⟩:=ixN_seq e
  exact ⟨j,h1,h,h2,h3,h4⟩
noncomputable def PlainIx (b:Expr):Prop:=∀ o i,subscripted b false o i=operate [o,i] (getItem o i)
noncomputable def IxR (X:Cx) (r:R2):Prop:=
 ∀ (value slice:Expr) (pins:List (Addr×Obj)) (s:Shared) (σ:St) (H:Hp) (x y:V) (v u:Value) (Q:VK),Inv X pins σ H s -> RelV x v -> RelV y u -> r x y H Q ->
  subscripted slice false v u=operate [v,u] (getItem v u) -> wpAny (model X.prog X.w) X.A (subscriptTail value slice v u) (EP X pins σ Q) X.xe s
noncomputable def MtR (X:Cx) (id:String) (r:V -> List V -> Hp -> VK -> Prop):Prop:=
 ∀ (pins:List (Addr×Obj)) (s:Shared) (σ:St) (H:Hp) (x:V) (xs:List V) (v:Value) (us:List Value) (Q:VK),Inv X pins σ H s -> RelV x v -> Vals xs us -> r x xs H Q ->
  wpAny (model X.prog X.w) X.A (call (.builtin id) (v::us)) (EP X pins σ Q) X.xe s
section
variable {X:Cx} {a b:Expr} {ta tb:TE} {pos:Pos}
theorem IxR.or {r r':R2} (h:IxR X r) (h':IxR X r'):IxR X (fun x y H Q=>r x y H Q\/r' x y H Q):=by
 intro value slice pins s σ H x y v u Q I rx ry q hs
 rcases q with q | q
 ·exact h value slice pins s σ H x y v u Q I rx ry q hs
 ·exact h' value slice pins s σ H x y v u Q I rx ry q hs
theorem pe_ix {r:R2} (hr:IxR X r) (ha:PE X a ta) (hb:PE X b tb) (hs:PlainIx b):PE X (.Subscript a b pos) (tOp r ta tb):=by
 intro pins s σ H Q I h
 exact Subscript_ (qAm ha hb I h fun v u s2 x y H2 I2 rx ry q=>hr a b pins s2 σ H2 x y v u Q I2 rx ry q (hs _ _))
noncomputable def rIxL (K:PySem.W.Frag):R2:=fun x y H Q=>∃ p xs i v,x=.ref p/\y=.int i/\SqL K H p xs/\atI xs i=some v/\Q v H
noncomputable def qOY (K:PySem.W.Frag):R2:=fun x y H Q=>∃ p xs i v,x=.ref p/\y=.int i/\SqT K H p xs/\atI xs i=some v/\Q v H
theorem ix_list:IxR X (rIxL X.K):=by
 intro value slice pins s σ H x y v u Q I rx ry h hs
 obtain ⟨p,xs,i,z,rfl,rfl,hq,he,q⟩:=h
 cases rx
 obtain ⟨t,rfl⟩:=ry
 obtain ⟨its,r,pl,hz⟩:=I.list hq
 obtain ⟨j,h1,h2,h3,h4,h5⟩:=atI_get he
 obtain ⟨w,ew,rw'⟩:=r.get h2
 have hl:=r.length
 have hn:=line63
 have fin:EP X pins σ Q w s:=⟨z,H,I,rw',q⟩
 by_cases h0:0<=i
 ·have hj:i.toNat=j:=by
   rw [seqIndex_of h0 h5] at h1
   exact Option.some.inj h1
  exact item_listR pl.isList h0 (by omega) (by rw [hj];simpa using ew) fin hs
 ·have hj:(i + (its.toArray.size:Int)).toNat=j:=by
   rw [seqIndex_neg (by omega) h4] at h1
   rw [List.size_toArray,<- hl]
   exact Option.some.inj h1
  exact subscriptTail_builtinR (x:=w) pl.isList.typeIs slot_list_getitem.lookup
   (wpAny_getItem_list_neg (Q:=fun r s'=>r=w/\EP X pins σ Q r s') pl.isList (by omega) (by rw [List.size_toArray]<;>omega) (by omega) (by rw [hj];simpa using ew) ⟨rfl,fin⟩) hs
theorem ix_tup:IxR X (qOY X.K):=by
 intro value slice pins s σ H x y v u Q I rx ry h hs
 obtain ⟨p,xs,i,z,rfl,rfl,hq,he,q⟩:=h
 cases rx
 obtain ⟨t,rfl⟩:=ry
 obtain ⟨its,r,pl,hz⟩:=I.tuple hq
 obtain ⟨j,h1,h2,h3,h4,h5⟩:=atI_get he
 obtain ⟨w,ew,rw'⟩:=r.get h2
 have hl:=r.length
 have hn:=line63
 have fin:EP X pins σ Q w s:=⟨z,H,I,rw',q⟩
 exact subscriptTail_builtinR (x:=w) pl.typeIs slot_tuple_getitem.lookup
  (getItem_tuple (j:=j) (Q:=fun r s'=>r=w/\EP X pins σ Q r s') pl (by omega) (by omega) (by rw [List.size_toArray,<- hl];exact h1) (by simpa using ew) ⟨rfl,fin⟩) hs
theorem qF6 (its:List Value) (n j:Nat) (u:Value):Obj.mapSeq (·.setIfInBounds j u) { cls:=.type "list",data:=.seq its.toArray n }={ cls:=.type "list",data:=.seq (its.set j u).toArray n }:=by
 simp [Obj.mapSeq]
theorem Inv.lst {pins:List (Addr×Obj)} {σ:St} {H:Hp} {s:Shared} {p:Addr} {xs:List V} (I:Inv X pins σ H s) (h:H p=some (.lst xs)):
  ∃ (its:List Value) (n:Nat),Vals xs its/\s.heap.get? p=some { cls:=.type "list",data:=.seq its.toArray n }/\xs.length<=sizeLine:=by
 obtain ⟨z,its,n,r,e⟩:=I.hok p _ h
 exact ⟨its,n,r,e,z⟩
theorem Inv.lstUpd {pins:List (Addr×Obj)} {σ:St} {H:Hp} {s:Shared} {p:Addr} {xs ys:List V} {its its':List Value} {n n':Nat} {f:Obj -> Obj} (I:Inv X pins σ H s) (h:H p=some (.lst xs))
  (ho:s.heap.get? p=some { cls:=.type "list",data:=.seq its.toArray n }) (hf:f { cls:=.type "list",data:=.seq its.toArray n }={ cls:=.type "list",data:=.seq its'.toArray n' }) (r:Vals ys its') (hz:ys.length<=sizeLine) (t:Nat):
  Inv X pins σ (upd H p (.lst ys)) { s with heap:=s.heap.update p f,toks:=t }:=by
 have e:(s.heap.update p f).get? p=some { cls:=.type "list",data:=.seq its'.toArray n' }:=by
  rw [Heap.get?_update_self f ho (by rw [hf]<;>rfl),hf]
 refine I.write (x:=p) (e:=p) (by rw [h];trivial) (.inl rfl) (fun b u hb q=>(Heap.get?_update_other _ _ (Ne.symm hb)).trans q) ⟨_,e⟩ ?_
 exact ⟨hz,its',n',r,e⟩
noncomputable def rSetL:V -> V -> V -> Hp -> (Hp -> Prop) -> Prop:=fun o i v H Q=>∃ p xs k j,o=.ref p/\i=.int k/\H p=some (.lst xs)/\ixN xs.length k=some j/\Q (upd H p (.lst (xs.set j v)))
theorem set_list:PSet X rSetL:=by
 intro pins s σ H o i v ov iv u Q I ro ri rv h
 obtain ⟨p,xs,k,j,rfl,rfl,hp,hj,q⟩:=h
 cases ro
 obtain ⟨t,rfl⟩:=ri
 obtain ⟨its,n,r,ho,hz⟩:=I.lst hp
 obtain ⟨h1,h2,h3,h4⟩:=ixN_seq hj
 have hl:=r.length
 have hn:=line63
 have I':Inv X pins σ (upd H p (.lst (xs.set j v))) { s with heap:=s.heap.update p (Obj.mapSeq (·.setIfInBounds j u)) }:=
  I.lstUpd hp ho (qF6 its n j u) (r.set rv j) (by rw [List.length_set];exact hz) s.toks
 by_cases h0:0<=k
 ·have hk:k.toNat=j:=by
   rw [seqIndex_of h0 h4] at h1
   exact Option.some.inj h1
  exact PySem.W.ki_setAt ho h0 (by omega) (by rw [List.size_toArray,<- hl];exact h4) (by rw [hk];exact ⟨_,I',q⟩)
 ·have hk:(k + (its.toArray.size:Int)).toNat=j:=by
   rw [seqIndex_neg (by omega) h3] at h1
   rw [List.size_toArray,<- hl]
   exact Option.some.inj h1
  exact PySem.W.ki_setBack ho (by omega) (by rw [List.size_toArray,<- hl];exact h3) (by omega) (by rw [hk];exact ⟨_,I',q⟩)
theorem qD4 (lo hi:Option Int) (n:Nat):(sliceBounds lo hi none n).1=((HT.sIx n 0 lo:Nat):Int)/\(sliceBounds lo hi none n).2.1=((HT.sIx n n hi:Nat):Int)/\(sliceBounds lo hi none n).2.2=1:=by
 refine ⟨?_,?_,rfl⟩
 ·cases lo with
  | none=>simp [sliceBounds,HT.sIx]
  | some i=>
   simp only [sliceBounds,HT.sIx,Option.getD_none,show (1:Int) > 0 by decide,if_true]
   by_cases h:i < 0
   ·simp only [h,if_true]<;>omega
   ·simp only [h,if_false]<;>omega
 ·cases hi with
  | none=>simp [sliceBounds,HT.sIx]
  | some i=>
   simp only [sliceBounds,HT.sIx,Option.getD_none,show (1:Int) > 0 by decide,if_true]
   by_cases h:i < 0
   ·simp only [h,if_true]<;>omega
   ·simp only [h,if_false]<;>omega
theorem qCD (its:List Value) (lo hi:Option Int):slicePick its.toArray lo hi none=((its.drop (HT.sIx its.length 0 lo)).take (HT.sIx its.length its.length hi - HT.sIx its.length 0 lo)).toArray:=by
 obtain ⟨h1,h2,h3⟩:=qD4 lo hi its.toArray.size
 unfold slicePick
 rw [h1,h2,h3]
 simp only [sliceRange_one,pick_run,List.size_toArray]<;>rfl
noncomputable def qOq (K:PySem.W.Frag):V -> Option Int -> Option Int -> Hp -> VK -> Prop:=fun x lo hi H Q=>∃ a xs,x=.ref a/\SqL K H a xs/\∀ p,H p=none -> Q (.ref p) (upd H p (.lst (cutV xs lo hi)))
theorem sl_list:SlR X (qOq X.K):=by
 intro pins s σ H x v vl vu lo hi sl Q I rx hs pl pu h
 obtain ⟨a,xs,rfl,hx,q⟩:=h
 cases rx
 obtain ⟨its,r,ht,hz⟩:=I.list hx
 have hlen:=r.length
 refine ⟨"list",_,slot_list_getitem.lookup,ht.isList.typeIs,?_⟩
 refine wpAny_getItem_list_slice ht.isList hs pl pu .none (by simp) ?_ (by rw [List.size_toArray]<;>omega)
 rw [qCD,<- hlen]
 refine ⟨.ref s.heap.objs.size,_,I.laid (t':=s.toks) (o:=.lst (cutV xs lo hi)) (fun b ob q=>Heap.get?_push_of_some _ q) (Nat.le_refl _) ?_,rfl,q _ (I.hok.fresh (Nat.le_refl _))⟩
 exact ⟨Nat.le_trans (qCu xs lo hi) hz,_,0,(r.drop (HT.sIx xs.length 0 lo)).take (HT.sIx xs.length xs.length hi - HT.sIx xs.length 0 lo),Heap.get?_push_size _ rfl⟩
noncomputable def flatV:V -> Bool
 | .non=>true
 | .bl _=>true
 | .int _=>true
 | .str _=>true
 | _=>false
noncomputable def eqV:V -> V -> Bool
 | .non,.non=>true
 | .bl a,.bl b=>a==b
 | .bl a,.int b=>(if a then 1 else 0)==b
 | .int a,.bl b=>a==(if b then 1 else 0)
 | .int a,.int b=>a==b
 | .str a,.str b=>a==b
 | _,_=>false
theorem qKL {A:Around} {s:Shared} {y x:V} {u v:Value} (ry:RelV y u) (rx:RelV x v) (fy:flatV y=true) (fx:flatV x=true):SeqAt.EqAt A s u v (eqV y x):=by
 cases y with
 | non=>
  cases ry
  cases x with
  | non=>cases rx;exact SeqAt.EqAt.same _
  | bl b=>cases rx;exact SeqAt.EqAt.none_bool b
  | int b=>obtain ⟨t,rfl⟩:=rx;exact SeqAt.EqAt.none_int b t
  | str b=>obtain ⟨t,rfl⟩:=rx;exact SeqAt.EqAt.none_str b t
  | _=>exact absurd (show false=true from fx) Bool.false_ne_true
 | bl a=>
  cases ry
  cases x with
  | non=>cases rx;exact SeqAt.EqAt.bool_none a
  | bl b=>cases rx;exact SeqAt.EqAt.bool_bool a b
  | int b=>obtain ⟨t,rfl⟩:=rx;exact SeqAt.EqAt.bool_int a b t
  | str b=>obtain ⟨t,rfl⟩:=rx;exact SeqAt.EqAt.bool_str a b t
  | _=>exact absurd (show false=true from fx) Bool.false_ne_true
 | int a=>
  obtain ⟨t',rfl⟩:=ry
  cases x with
  | non=>cases rx;exact SeqAt.EqAt.int_none a t'
  | bl b=>cases rx;exact SeqAt.EqAt.int_bool a t' b
  | int b=>obtain ⟨t,rfl⟩:=rx;exact SeqAt.EqAt.int_int a t' b t
  | str b=>obtain ⟨t,rfl⟩:=rx;exact SeqAt.EqAt.int_str a t' b t
  | _=>exact absurd (show false=true from fx) Bool.false_ne_true
 | str a=>
  obtain ⟨t',rfl⟩:=ry
  cases x with
  | non=>cases rx;exact SeqAt.EqAt.str_none a t'
  | bl b=>cases rx;exact SeqAt.EqAt.str_bool a t' b
  | int b=>obtain ⟨t,rfl⟩:=rx;exact SeqAt.EqAt.str_int a t' b t
  | str b=>obtain ⟨t,rfl⟩:=rx;exact SeqAt.EqAt.str_str a t' b t
  | _=>exact absurd (show false=true from fx) Bool.false_ne_true
 | _=>exact absurd (show false=true from fy) Bool.false_ne_true
noncomputable def eqU (x:V) (u:Value):Bool:=match u with
 | .none=>eqV .non x
 | .bool b=>eqV (.bl b) x
 | .int i _=>eqV (.int i) x
 | .str z _=>eqV (.str z) x
 | _=>false
theorem qEM {x y:V} {u:Value} (r:RelV y u) (f:flatV y=true):eqU x u=eqV y x:=by
 cases y with
 | non=>cases r;rfl
 | bl b=>cases r;rfl
 | int i=>obtain ⟨t,rfl⟩:=r;rfl
 | str z=>obtain ⟨t,rfl⟩:=r;rfl
 | _=>exact absurd (show false=true from f) Bool.false_ne_true
theorem qCw {x:V}:∀ {xs:List V} {us:List Value},Vals xs us -> xs.all flatV=true -> us.any (eqU x)=xs.any fun y=>eqV y x
 | _,_,.nil,_=>rfl
 | y::xs,u::us,.cons r t,f=>by
  rw [List.all_cons,Bool.and_eq_true] at f
  rw [List.any_cons,List.any_cons,qEM r f.1,qCw t f.2]
theorem qBA {A:Around} {s:Shared} {x:V} {v:Value} (rx:RelV x v) (fx:flatV x=true):∀ {xs:List V} {us:List Value},Vals xs us -> xs.all flatV=true -> ∀ u∈us,SeqAt.EqAt A s u v (eqU x u)
 | _,_,.nil,_=>fun u hu=>by cases hu
 | y::xs,u::us,.cons r t,f=>fun u' hu=>by
  rw [List.all_cons,Bool.and_eq_true] at f
  rcases List.mem_cons.mp hu with rfl | hu
  ·rw [qEM r f.1];exact qKL r rx f.1 fx
  ·exact qBA rx fx t f.2 u' hu
noncomputable def inV (x:V) (xs:List V):Bool:=xs.any fun y=>eqV y x
noncomputable def rIn (K:PySem.W.Frag) (neg:Bool):R2:=fun x y H Q=>∃ p xs,y=.ref p/\(SqL K H p xs\/SqT K H p xs)/\flatV x=true/\xs.all flatV=true/\Q (.bl (if neg then !inV x xs else inV x xs)) H
theorem op_in_seq:OpR X (compareOp .In) (rIn X.K false):=by
 intro pins s σ H x y v u Q I rx ry h
 obtain ⟨p,xs,rfl,hq,fx,fs,q⟩:=h
 cases ry
 rcases hq with hq | hq
 ·obtain ⟨its,r,pl,hz⟩:=I.list hq
  refine SeqAt.in_listAt (eqU x) pl.isList (fun w hw=>qBA rx fx r fs w (by simpa using hw)) ⟨.bl _,H,I,rfl,?_⟩
  rw [show its.toArray.any (eqU x)=its.any (eqU x) by simp,qCw r fs]
  exact q
 ·obtain ⟨its,r,pl,hz⟩:=I.tuple hq
  refine SeqAt.in_tupleAt (eqU x) pl (fun w hw=>qBA rx fx r fs w (by simpa using hw)) ⟨.bl _,H,I,rfl,?_⟩
  rw [show its.toArray.any (eqU x)=its.any (eqU x) by simp,qCw r fs]
  exact q
theorem op_notIn_seq:OpR X (compareOp .NotIn) (rIn X.K true):=by
 intro pins s σ H x y v u Q I rx ry h
 obtain ⟨p,xs,rfl,hq,fx,fs,q⟩:=h
 cases ry
 rcases hq with hq | hq
 ·obtain ⟨its,r,pl,hz⟩:=I.list hq
  refine SeqAt.notIn_listAt (eqU x) pl.isList (fun w hw=>qBA rx fx r fs w (by simpa using hw)) ⟨.bl _,H,I,rfl,?_⟩
  rw [show its.toArray.any (eqU x)=its.any (eqU x) by simp,qCw r fs]
  exact q
 ·obtain ⟨its,r,pl,hz⟩:=I.tuple hq
  refine SeqAt.notIn_tupleAt (eqU x) pl (fun w hw=>qBA rx fx r fs w (by simpa using hw)) ⟨.bl _,H,I,rfl,?_⟩
  rw [show its.toArray.any (eqU x)=its.any (eqU x) by simp,qCw r fs]
  exact q
theorem call_len_seq:qAt X (.builtin "len") (fun xs H Q=>∃ p ys,xs=[.ref p]/\(SqL X.K H p ys\/SqT X.K H p ys)/\Q (.int ys.length) H):=by
 intro pins s σ H xs us Q I r h
 obtain ⟨p,ys,rfl,hq,q⟩:=h
 obtain ⟨u,rfl,rx⟩:=vals1 r
 cases rx
 have hn:=line63
 rcases hq with hq | hq
 ·obtain ⟨its,r',pl,hz⟩:=I.list hq
  have hlen:=r'.length
  exact Calls.call_len_list pl.isList (by simp only [List.size_toArray]<;>omega) ⟨.int ys.length,H,I.tok _,⟨s.toks + 1,by rw [List.size_toArray,hlen]⟩,q⟩
 ·obtain ⟨its,r',pl,hz⟩:=I.tuple hq
  have hlen:=r'.length
  exact len_tuple pl (by simp only [List.size_toArray]<;>omega) ⟨.int ys.length,H,I.tok _,⟨s.toks + 1,by rw [List.size_toArray,hlen]⟩,q⟩
theorem call_list_of:qAt X (.type "list") (fun xs H Q=>∃ p ys,xs=[.ref p]/\(SqL X.K H p ys\/SqT X.K H p ys)/\∀ l,H l=none -> Q (.ref l) (upd H l (.lst ys))):=by
 intro pins s σ H xs us Q I r h
 obtain ⟨p,ys,rfl,hq,q⟩:=h
 obtain ⟨u,rfl,rx⟩:=vals1 r
 cases rx
 have fin:∀ (its:List Value),Vals ys its -> ys.length<=sizeLine -> ∀ (h':Heap) (c':Nat),(∀ b o',s.heap.get? b=some o' -> h'.get? b=some o') ->
   h'.get? s.heap.objs.size=some { cls:=.type "list",dict:=none,data:=.seq its.toArray c',slots:=#[] } -> EP X pins σ Q (.ref s.heap.objs.size) { s with heap:=h' }:=fun its r' hz h' c' kp e=>
  ⟨.ref s.heap.objs.size,_,I.laid (t':=s.toks) kp (Nat.le_refl _) (show ObjOk X.prog X.w _ h' _ (.lst ys) from ⟨hz,its,c',r',e⟩),rfl,q _ (I.hok.fresh (Nat.le_refl _))⟩
 rcases hq with hq | hq
 ·obtain ⟨its,r',pl,hz⟩:=I.list hq
  have hlen:=r'.length
  obtain ⟨o,ho,hc,n,hd⟩:=pl.isList
  exact call_list_seq p (.inl rfl) ho hc hd (fun h' c' kp e=>fin its r' hz h' c' kp e) (by simp only [List.size_toArray]<;>omega)
 ·obtain ⟨its,r',pl,hz⟩:=I.tuple hq
  have hlen:=r'.length
  obtain ⟨o,ho,hc,n,hd⟩:=pl
  exact call_list_seq p (.inr rfl) ho hc hd (fun h' c' kp e=>fin its r' hz h' c' kp e) (by simp only [List.size_toArray]<;>omega)
theorem call_tuple_of:qAt X (.type "tuple") (fun xs H Q=>∃ p ys,xs=[.ref p]/\((SqL X.K H p ys/\∀ l,H l=none -> Q (.ref l) (upd H l (.tup ys)))\/(SqT X.K H p ys/\Q (.ref p) H))):=by
 intro pins s σ H xs us Q I r h
 obtain ⟨p,ys,rfl,h⟩:=h
 obtain ⟨u,rfl,rx⟩:=vals1 r
 cases rx
 rcases h with ⟨hq,q⟩ | ⟨hq,q⟩
 ·obtain ⟨its,r',pl,hz⟩:=I.list hq
  have hlen:=r'.length
  refine call_tuple_list pl.isList (fun h' kp=>?_) (by simp only [List.size_toArray]<;>omega)
  have I1:Inv X pins σ H { s with heap:=h' }:=I.kept (t':=s.toks) kp
  have I2:Inv X pins σ (upd H h'.objs.size (.tup ys)) { s with heap:=h'.push { cls:=.type "tuple",data:=.seq its.toArray } }:=
   I1.laid (t':=s.toks) (fun b o e=>Heap.get?_push_of_some _ e) (Nat.le_refl _) (show ObjOk X.prog X.w _ _ _ (.tup ys) from ⟨hz,its,r',IsTup.new _ _⟩)
  exact ⟨.ref h'.objs.size,_,I2,rfl,q _ (I1.hok.fresh (Nat.le_refl _))⟩
 ·obtain ⟨its,r',pl,hz⟩:=I.tuple hq
  exact call_tuple_same pl ⟨.ref p,H,I,rfl,q⟩
noncomputable def tyV (K:PySem.W.Frag) (T:String) (x:V) (H:Hp):Prop:=match x with
 | .str _=>T="str"
 | .int _=>T="int"
 | .ref p=>(T="list"/\∃ xs,SqL K H p xs)\/(T="tuple"/\∃ o,K.lookup p=some o/\o.cls=.type "tuple"/\o.dict=none)\/
   (T="dict"/\((∃ kvs,H p=some (.dK kvs))\/∃ kvs,H p=some (.dT kvs)))\/(T="set"/\∃ S n,H p=some (.set S n))
 | _=>False
theorem qIx {pins:List (Addr×Obj)} {σ:St} {H:Hp} {s:Shared} {T:String} {x:V} {v:Value} (I:Inv X pins σ H s) (r:RelV x v) (ty:tyV X.K T x H):
  s.TypeIs v T/\∀ a,v=.ref a -> ∃ ob,s.heap.get? a=some ob/\ob.dict=none:=by
 cases x with
 | str z=>
  obtain ⟨t,rfl⟩:=r
  cases (show T="str" from ty)
  exact ⟨typeIs_str s z t,fun _ e=>nomatch e⟩
 | int i=>
  obtain ⟨t,rfl⟩:=r
  cases (show T="int" from ty)
  exact ⟨typeIs_int s i t,fun _ e=>nomatch e⟩
 | ref p=>
  cases r
  rcases ty with ⟨rfl,xs,hq⟩ | ⟨rfl,o,hk,hc,hd⟩ | ⟨rfl,hk⟩ | ⟨rfl,S,n,hk⟩
  ·obtain ⟨its,_,pl,_⟩:=I.list hq
   refine ⟨pl.isList.typeIs,fun a e=>?_⟩
   cases e
   obtain ⟨o,n,e,c,hd,_⟩:=pl
   exact ⟨o,e,hd⟩
  ·refine ⟨⟨o,I.kIn p o hk,hc⟩,fun a e=>?_⟩
   cases e
   exact ⟨o,I.kIn _ o hk,hd⟩
  ·have z:∃ o,s.heap.get? p=some o/\o.ExactDict:=by
    rcases hk with ⟨kvs,hk⟩ | ⟨kvs,hk⟩
    ·obtain ⟨_,_,_,_,o,_,_,e,ex,_⟩:=I.hok p _ hk
     exact ⟨o,e,ex⟩
    ·obtain ⟨_,_,_,_,o,_,_,e,ex,_⟩:=I.hok p _ hk
     exact ⟨o,e,ex⟩
   obtain ⟨o,e,ex⟩:=z
   refine ⟨⟨o,e,ex.1⟩,fun a e2=>?_⟩
   cases e2
   exact ⟨o,e,ex.2.1⟩
  ·obtain ⟨o,_,_,_,e,ex,_⟩:=I.hok p _ hk
   refine ⟨⟨o,e,ex.1⟩,fun a e2=>?_⟩
   cases e2
   exact ⟨o,e,ex.2.1⟩
 | _=>exact False.elim ty
noncomputable def tBM0 (K:PySem.W.Frag) (T:String) (r:V -> List V -> Hp -> VK -> Prop) (to:TE):TE:=fun σ H Q=>to σ H fun x H1=>tyV K T x H1/\r x [] H1 Q
noncomputable def tBM (K:PySem.W.Frag) (T:String) (r:V -> List V -> Hp -> VK -> Prop) (to:TE) (t:TA):TE:=fun σ H Q=>to σ H fun x H1=>tyV K T x H1/\t σ H1 fun xs H2=>r x xs H2 Q
variable {o e:Expr} {es:List Expr} {to:TE} {t:TA} {name:Str} {apos cpos:Pos} {T id:String} {r:V -> List V -> Hp -> VK -> Prop}
theorem pe_bm0 (pa:PlainAttrs T) (slot:Slot T name id) (hty:typeOf (.builtin id)=pure (.type "method_descriptor")) (hm:MtR X id r) (ho:PE X o to)
  (hbase:attributeBase o name X.env (eval o X.env)=eval o X.env:=by rfl) (hline:(apos.endLine==cpos.line)=true:=by rfl):PE X (.Call (.Attribute o name apos) [] [] cpos) (tBM0 X.K T r to):=by
 intro pins s σ H Q I h
 refine wpAny_Call_method0_late hbase hline (thn (ho pins s σ H _ I h) fun v s1 ⟨x,H1,I1,r1,ty,q1⟩=>?_)
 obtain ⟨h1,h2⟩:=qIx I1 r1 ty
 exact ⟨T,id,pa,slot,hty,h1,h2,Calls.callWith_builtin rfl (PySem.evalArgs_none (hm pins s1 σ H1 x [] v [] Q I1 r1 .nil q1))⟩
theorem pe_bm (pa:PlainAttrs T) (slot:Slot T name id) (hty:typeOf (.builtin id)=pure (.type "method_descriptor")) (hm:MtR X id r) (ho:PE X o to) (ha:PA X (e::es) t)
  (hbase:attributeBase o name X.env (eval o X.env)=eval o X.env:=by rfl)
  (hfew:((backTo cpos (starEach (e::es) X.env)).all (fun x=>!x.1)&&(backToKw cpos (keywordEach [] X.env)).all (fun x=>x.1.isSome)
   && decide ((e::es).length + ([]:List Keyword).length + (if ([]:List Keyword).isEmpty then 0 else 1) < 30))=true:=by rfl)
  (hline:(apos.endLine==cpos.line)=true:=by rfl) (hs:starEach (e::es) X.env=(false,eval e X.env)::starEach es X.env:=by rfl) (hplain:(backTo cpos (starEach es X.env)).any (·.1)=false:=by rfl):
  PE X (.Call (.Attribute o name apos) (e::es) [] cpos) (tBM X.K T r to t):=by
 intro pins s σ H Q I h
 refine wpAny_Call_method_late hbase hfew hline rfl (thn (ho pins s σ H _ I h) fun v s1 ⟨x,H1,I1,r1,ty,q1⟩=>?_)
 obtain ⟨h1,h2⟩:=qIx I1 r1 ty
 refine ⟨T,id,pa,slot,hty,h1,h2,?_⟩
 have hA:=ha cpos pins s1 σ H1 _ I1 q1
 rw [hs] at hA ⊢
 refine Calls.callWith_builtin (by show (false||(backTo cpos (starEach es X.env)).any (·.1))=false;rw [hplain]<;>rfl) (Calls.evalArgs_plain ?_)
 exact thn hA fun us s2 ⟨vs,H2,I2,r2,q2⟩=>hm pins s2 σ H2 x vs v us Q I2 r1 r2 q2
end
open PySem PySem.Spec PyProof.Rows
noncomputable def MtM (X:Cx) (id:String) (r:V -> List V -> Hp -> VK -> Prop):Prop:=
 ∀ (pins:List (Addr×Obj)) (s:Shared) (σ:St) (H:Hp) (x:V) (xs:List V) (v:Value) (us:List Value) (Q:VK),Inv X pins σ H s -> RelV x v -> Vals xs us -> r x xs H Q ->
  wpAny (model X.prog X.w) X.A (call (.builtin id) (v::us)) (EP X pins σ Q) X.xe s
theorem Vals.one:∀ {x:V} {us:List Value},Vals [x] us -> ∃ u,us=[u]/\RelV x u
 | _,_,.cons r .nil=>⟨_,rfl,r⟩
theorem Vals.zero:∀ {us:List Value},Vals [] us -> us=[]
 | _,.nil=>rfl
theorem Vals.dropLast {xs:List V} {us:List Value} (h:Vals xs us):Vals xs.dropLast us.dropLast:=by
 induction h with
 | nil=>exact .nil
 | cons r t ih=>
  cases t with
  | nil=>exact .nil
  | cons q t'=>exact .cons r ih
theorem Vals.eraseIdx:∀ {xs:List V} {us:List Value} (i:Nat),Vals xs us -> Vals (xs.eraseIdx i) (us.eraseIdx i)
 | _,_,_,.nil=>.nil
 | _,_,0,.cons _ t=>t
 | _,_,i + 1,.cons r t=>.cons r (Vals.eraseIdx i t)
theorem Vals.reverse {xs:List V} {us:List Value} (h:Vals xs us):Vals xs.reverse us.reverse:=by
 induction h with
 | nil=>exact .nil
 | cons r t ih=>rw [List.reverse_cons,List.reverse_cons];exact Vals.append ih (.cons r .nil)
theorem Vals.rep {xs:List V} {us:List Value} (h:Vals xs us):∀ k:Nat,Vals (List.replicate k xs).flatten (List.replicate k us).flatten
 | 0=>.nil
 | k + 1=>by
  rw [List.replicate_succ,List.replicate_succ,List.flatten_cons,List.flatten_cons]
  exact Vals.append h (Vals.rep h k)
theorem qGC {α:Type} (l:List α):l.eraseIdx (l.length - 1)=l.dropLast:=by
 induction l with
 | nil=>rfl
 | cons a r ih=>
  cases r with
  | nil=>rfl
  | cons b r=>
   have e:(a::b::r).length - 1=((b::r).length - 1) + 1:=by
    have h1:(a::b::r).length=r.length + 2:=rfl
    have h2:(b::r).length=r.length + 1:=rfl
    omega
   rw [e,List.eraseIdx_cons_succ,ih]
   all_goals rfl
theorem qC3 {α:Type}:∀ (l:List α) (i:Nat),(l.eraseIdx i).length<=l.length
 | [],_=>Nat.le_refl _
 | _::_,0=>Nat.le_succ _
 | _::r,i + 1=>Nat.succ_le_succ (qC3 r i)
theorem qEU (its:List Value):∀ (k:Nat) (acc:List Value),
  List.foldl (fun x1 x2=>x1++x2) acc.toArray (List.replicate k its.toArray)=(acc++(List.replicate k its).flatten).toArray
 | 0,acc=>by simp
 | k + 1,acc=>by
  have e:acc.toArray++its.toArray=(acc++its).toArray:=by simp
  have e2:(acc++its)++(List.replicate k its).flatten=acc++(List.replicate (k + 1) its).flatten:=by
   rw [List.replicate_succ,List.flatten_cons,List.append_assoc]
  rw [<- e2,<- qEU its k (acc++its),<- e,List.replicate_succ,List.foldl_cons]
section
variable {X:Cx} {pins:List (Addr×Obj)} {σ:St} {H:Hp} {s:Shared} {l b:Addr} {xs ys zs:List V}
theorem Inv.lset {its its':List Value} {n:Nat} {f:Array Value -> Array Value} {t':Nat} (I:Inv X pins σ H s) (hH:H l=some (.lst xs))
  (e:s.heap.get? l=some { cls:=.type "list",data:=.seq its.toArray n }) (hf:f its.toArray=its'.toArray) (hv:Vals ys its') (hz:ys.length<=sizeLine):
  Inv X pins σ (upd H l (.lst ys)) { s with heap:=s.heap.update l (Obj.mapSeq f),toks:=t' }:=by
 have q:=PySem.IsL.update e f
 rw [hf] at q
 refine I.write (x:=l) (e:=l) (by rw [hH];exact trivial) (.inl rfl) (fun b' u hb hu=>(Heap.get?_update_other s.heap (Obj.mapSeq f) (Ne.symm hb)).trans hu) ⟨_,q⟩ ?_
 exact ⟨hz,its',_,hv,q⟩
theorem Inv.lnew {its:List Value} {t':Nat} (I:Inv X pins σ H s) (hv:Vals ys its) (hz:ys.length<=sizeLine):
  Inv X pins σ (upd H s.heap.objs.size (.lst ys)) { s with heap:=s.heap.push { cls:=.type "list",data:=.seq its.toArray },toks:=t' }:=
 I.laid (fun _ _ q=>Heap.get?_push_of_some _ q) (Nat.le_refl _) ⟨hz,its,0,hv,Heap.get?_push_size _ rfl⟩
theorem Inv.fresh (I:Inv X pins σ H s):H s.heap.objs.size=none:=I.hok.fresh (Nat.le_refl _)
theorem Inv.lstM (I:Inv X pins σ H s) (hH:H l=some (.lst xs)):xs.length<=sizeLine/\∃ (its:List Value) (n:Nat),Vals xs its/\xs.length=its.length/\s.heap.get? l=some { cls:=.type "list",data:=.seq its.toArray n }:=by
 obtain ⟨z,its,n,r,e⟩:=I.hok l _ hH
 exact ⟨z,its,n,r,r.length,e⟩
theorem qIR {n:Nat} (h:n<=sizeLine):Builtin.List.listTooLong n=false:=by
 unfold Builtin.List.listTooLong
 exact decide_eq_false (by omega)
end
section
variable {X:Cx}
noncomputable def qJv:V -> List V -> Hp -> VK -> Prop:=fun x vs H Q=>∃ l xs y,x=.ref l/\vs=[y]/\H l=some (.lst xs)/\xs.length < sizeLine/\Q .non (upd H l (.lst (xs++[y])))
theorem mt_append:MtM X "list.append" qJv:=by
 intro pins s σ H x vs v us Q I rx rv h
 obtain ⟨l,xs,y,rfl,rfl,hH,hz,q⟩:=h
 cases rx
 obtain ⟨u,rfl,ru⟩:=rv.one
 obtain ⟨z,its,n,r,hl,e⟩:=I.lstM hH
 refine call_meets F.slot_list_append ⟨_,e,rfl⟩ F.entry_list_append (F.args_list_append_2 _ _) (PySem.list_append l its.toArray n u (by rw [List.size_toArray];omega)) ⟨e,?_⟩
 refine ⟨.non,_,I.lset (its':=its++[u]) hH e (by simp) (r.append (.cons ru .nil)) ?_,rfl,q⟩
 rw [List.length_append,List.length_singleton]
 omega
noncomputable def rPop:V -> List V -> Hp -> VK -> Prop:=fun x vs H Q=>∃ l xs y,x=.ref l/\vs=[]/\H l=some (.lst xs)/\xs[xs.length - 1]?=some y/\Q y (upd H l (.lst xs.dropLast))
theorem mt_pop:MtM X "list.pop" rPop:=by
 intro pins s σ H x vs v us Q I rx rv h
 obtain ⟨l,xs,y,rfl,rfl,hH,hy,q⟩:=h
 cases rx
 have hus:=rv.zero
 subst hus
 obtain ⟨z,its,n,r,hl,e⟩:=I.lstM hH
 obtain ⟨u,hu,ru⟩:=r.get hy
 have hy':its.toArray[its.toArray.size - 1]?=some u:=by
  show its.toArray[its.length - 1]?=some u
  rw [<- Array.getElem?_toList,<- hl]
  exact hu
 refine call_meets F.slot_list_pop ⟨_,e,rfl⟩ F.entry_list_pop (F.args_list_pop_1 _) (MeetsSeq.list_pop_last l its.toArray n u hy' (by rw [List.size_toArray];omega)) ⟨e,?_⟩
 refine ⟨y,_,I.lset (its':=its.dropLast) hH e ?_ r.dropLast ?_,ru,q⟩
 ·show its.toArray.eraseIdxIfInBounds (its.toArray.size - 1)=its.dropLast.toArray
  rw [List.size_toArray,List.eraseIdxIfInBounds_toArray,qGC]
 ·rw [List.length_dropLast]
  omega
noncomputable def rPopAt:V -> List V -> Hp -> VK -> Prop:=fun x vs H Q=>∃ l xs i k y,x=.ref l/\vs=[.int i]/\H l=some (.lst xs)/\-(2 ^ 63)<=i/\i < 2 ^ 63/\seqIndex? i xs.length=some k/\xs[k]?=some y/\Q y (upd H l (.lst (xs.eraseIdx k)))
theorem mt_popAt:MtM X "list.pop" rPopAt:=by
 intro pins s σ H x vs v us Q I rx rv h
 obtain ⟨l,xs,i,k,y,rfl,rfl,hH,h1,h2,hk,hy,q⟩:=h
 cases rx
 obtain ⟨u,rfl,ru⟩:=rv.one
 obtain ⟨t,rfl⟩:=ru
 obtain ⟨z,its,n,r,hl,e⟩:=I.lstM hH
 obtain ⟨w,hw,rw'⟩:=r.get hy
 refine call_meets F.slot_list_pop ⟨_,e,rfl⟩ F.entry_list_pop (F.args_list_pop_2 _ _)
  (MeetsSeq.list_pop_at l its.toArray n i t k w (fitsIndex_both h1 h2) (by rw [List.size_toArray,<- hl];exact hk) (by rw [<- Array.getElem?_toList];exact hw) (by rw [List.size_toArray];omega)) ⟨e,?_⟩
 refine ⟨y,_,I.lset (its':=its.eraseIdx k) hH e ?_ (r.eraseIdx k) ?_,rw',q⟩
 ·show its.toArray.eraseIdxIfInBounds k=(its.eraseIdx k).toArray
  rw [List.eraseIdxIfInBounds_toArray]
 ·have:=qC3 xs k
  omega
noncomputable def rReverse:V -> List V -> Hp -> VK -> Prop:=fun x vs H Q=>∃ l xs,x=.ref l/\vs=[]/\H l=some (.lst xs)/\Q .non (upd H l (.lst xs.reverse))
theorem mt_reverse:MtM X "list.reverse" rReverse:=by
 intro pins s σ H x vs v us Q I rx rv h
 obtain ⟨l,xs,rfl,rfl,hH,q⟩:=h
 cases rx
 have hus:=rv.zero
 subst hus
 obtain ⟨z,its,n,r,hl,e⟩:=I.lstM hH
 refine call_meets F.slot_list_reverse ⟨_,e,rfl⟩ F.entry_list_reverse (F.args_list_reverse_1 _) (AutoSeq1.list_reverse_list_0 l its.toArray n (by rw [List.size_toArray];omega)) ⟨e,?_⟩
 refine ⟨.non,_,I.lset (its':=its.reverse) hH e (by simp) r.reverse ?_,rfl,q⟩
 rw [List.length_reverse]
 omega
noncomputable def rClear:V -> List V -> Hp -> VK -> Prop:=fun x vs H Q=>∃ l xs,x=.ref l/\vs=[]/\H l=some (.lst xs)/\Q .non (upd H l (.lst []))
theorem mt_clear:MtM X "list.clear" rClear:=by
 intro pins s σ H x vs v us Q I rx rv h
 obtain ⟨l,xs,rfl,rfl,hH,q⟩:=h
 cases rx
 have hus:=rv.zero
 subst hus
 obtain ⟨z,its,n,r,hl,e⟩:=I.lstM hH
 refine call_meets F.slot_list_clear ⟨_,e,rfl⟩ F.entry_list_clear (F.args_list_clear_1 _) (AutoSeq1.list_clear_list_0 l its.toArray n (by rw [List.size_toArray];omega)) ⟨e,?_⟩
 exact ⟨.non,_,I.lset (its':=[]) (ys:=[]) hH e rfl .nil (Nat.zero_le _),rfl,q⟩
noncomputable def rCat:R2:=fun x y H Q=>∃ l b xs zs,x=.ref l/\y=.ref b/\H l=some (.lst xs)/\H b=some (.lst zs)/\xs.length + zs.length<=sizeLine/\∀ p,H p=none -> Q (.ref p) (upd H p (.lst (xs++zs)))
theorem op_cat:OpR X (binaryOp .Add) rCat:=by
 intro pins s σ H x y v u Q I rx ry h
 obtain ⟨l,b,xs,zs,rfl,rfl,hH,hB,hz,q⟩:=h
 cases rx
 cases ry
 obtain ⟨z,its,n,r,hl,e⟩:=I.lstM hH
 obtain ⟨z2,its2,n2,r2,hl2,e2⟩:=I.lstM hB
 refine PySem.P.add_list e e2 ?_ (by rw [List.size_toArray,List.size_toArray];omega)
 have ea:its.toArray++its2.toArray=(its++its2).toArray:=by simp
 rw [ea]
 exact ⟨.ref _,_,I.lnew (t':=s.toks) (r.append r2) (by rw [List.length_append];omega),rfl,q _ I.fresh⟩
noncomputable def rRep:R2:=fun x y H Q=>∃ l k xs,x=.ref l/\y=.int k/\H l=some (.lst xs)/\-(2 ^ 63)<=k/\k < 2 ^ 63/\xs.length * k.toNat<=sizeLine/\
 ∀ p,H p=none -> Q (.ref p) (upd H p (.lst (List.replicate k.toNat xs).flatten))
theorem qKF {α:Type} (xs:List α) (k:Nat):(List.replicate k xs).flatten.length=k * xs.length:=by
 induction k with
 | zero=>simp
 | succ k ih=>rw [List.replicate_succ,List.flatten_cons,List.length_append,ih,Nat.succ_mul,Nat.add_comm]
theorem op_rep:OpR X (binaryOp .Mult) rRep:=by
 intro pins s σ H x y v u Q I rx ry h
 obtain ⟨l,k,xs,rfl,rfl,hH,h1,h2,hz,q⟩:=h
 cases rx
 obtain ⟨t,rfl⟩:=ry
 obtain ⟨z,its,n,r,hl,e⟩:=I.lstM hH
 have hlen:its.toArray.size * k.toNat<=sizeLine:=by rw [List.size_toArray,<- hl];exact hz
 have hcap:¬ its.toArray.size * k.toNat > (2 ^ 63 - 1) / 8:=by
  have:(sizeLine:Nat)<=(2 ^ 63 - 1) / 8:=by decide
  omega
 have hfit:¬ (!Builtin.List.listFitsIndex k)=true:=by
  rw [fitsIndex_both h1 h2]
  exact Bool.false_ne_true
 have hlong:¬ Builtin.List.listTooLong (its.toArray.size * k.toNat)=true:=by
  rw [qIR hlen]
  exact Bool.false_ne_true
 have hnew:List.foldl (fun x1 x2=>x1++x2) #[] (List.replicate (if its.toArray.isEmpty=true then 0 else k.toNat) its.toArray)=(List.replicate k.toNat its).flatten.toArray:=by
  have f0:∀ m:Nat,List.foldl (fun x1 x2=>x1++x2) #[] (List.replicate m its.toArray)=(List.replicate m its).flatten.toArray:=fun m=>by
   have:=qEU its m []
   rw [List.nil_append] at this
   exact this
  rw [f0]
  cases its with
  | nil=>simp
  | cons a r'=>rw [if_neg (by simp)]
 refine wpAny_binaryOp_repeat_ref (T:="list") (U:="int") (by decide) ⟨_,e,rfl⟩ (fun s'=>typeIs_int s' k t) noFill_list_mul F.fills_int_mul F.slot_int_rmul repeat_list F.slot_int_index.lookup
  (call_meets F.slot_int_rmul (typeIs_int s k t) F.entry_int_rmul (F.args_int_rmul_2 _ _) (int___rmul___int_list k t l its.toArray n)
   ⟨e,rfl,⟨_,e,rfl⟩,call_meets F.slot_list_mul ⟨_,e,rfl⟩ F.entry_list_mul (F.args_list_mul_2 _ _) (AutoListH.list___mul___list_int_3 l its.toArray n k t hfit hcap hlong) ⟨e,?_⟩⟩)
 rw [hnew]
 exact ⟨.ref _,_,I.lnew (t':=s.toks) (r.rep k.toNat) (by rw [qKF,Nat.mul_comm];exact hz),rfl,q _ I.fresh⟩
end
section
variable {prog:Program} {w:World} {A:Around} {E:Value -> Shared -> Prop} {s:Shared}
end
section
variable {X:Cx}
end
end L2
namespace Att
open PySem PySem.W PySem.Calls PyProof.Rows
theorem qCo {P:Params} {h:Heap}:∀ (ns:List Int) (vs:List Value),WellAll P h vs (ns.map WData.int) -> IntsAre vs ns:=by
 intro ns
 induction ns with
 | nil=>
  intro vs w
  rw [List.map_nil] at w
  cases w
  exact .nil
 | cons n ns ih=>
  intro vs w
  rw [List.map_cons] at w
  cases w with
  | cons a b=>
   cases a
   exact .cons _ _ (ih _ b)
theorem qHJ {l:OpenLaw} {n:Nat} (hn:l.most=some n) {P:Params} {h:Heap} {args:List WData} {vals:List Value}
  (hpre:l.row.toRowW.claim.pre args=true) (hwl:WellAll P h vals args):
  ∃ a vs ns,vals=[Value.ref a]/\args=[WData.list (ns.map WData.int)]/\h.get? a=some { cls:=.type "list",data:=.seq vs.toArray }/\IntsAre vs ns/\ns.length<=n:=by
 have hsh:WShape.hasAll [] args [.list .int]=true:=(pre_splitW hpre).1
 have hc:l.pre.holds [] { args:=args }=true:=(pre_splitW hpre).2
 obtain ⟨d,r,rfl,h1,h2⟩:=hasAllW_cons hsh
 obtain rfl:=hasAllW_nil h2
 obtain ⟨xs,rfl,h3⟩:=hasW_list h1
 obtain ⟨ns,rfl⟩:=items_int h3
 have hlen:ns.length<=n:=by
  unfold OpenLaw.pre at hc
  have h4:(WTm.not (.lt (.lit (.int (n:Int))) (.len (.arg 0)))).holds [] { args:=[.list (ns.map .int)] }=true:=by
   have h4:=(holds_andW hc).1
   rw [hn] at h4
   exact h4
  have h5:=condW_of h4 (w_not (w_lt w_lit (w_len_list (w_arg rfl))))
  rw [List.length_map] at h5
  refine Nat.le_of_not_lt fun q=>?_
  have q':(n:Int) < ((ns.length:Nat):Int):=by omega
  first
   | (rw [decide_eq_true q'] at h5;exact absurd h5 (by decide))
   | (simp at h5;omega)
 cases hwl with
 | cons w1 w2=>
  cases w2
  cases w1 with
  | list ho hall=>exact ⟨_,_,ns,rfl,rfl,ho,qCo ns _ hall,hlen⟩
theorem qHM (l:OpenLaw) (args:List WData):l.row.toRowW.claim.post args (.bool true) args=true:=
 postW_of (r:=l.row.toRowW) (X:=(true==true))
  (show WShape.has [] (.bool true) .bool=true by first | rfl | decide | simp [WShape.has,WShape.arms,WShape.armsAll])
  (show (WTm.eq .res (.lit (.bool true))).value [] { args:=args,res:=some (.bool true),after:=args }=some (.bool (true==true)) from w_eq_bool (w_res rfl) w_lit) rfl
theorem attach_call {l:OpenLaw} {n:Nat} {q:Program} {loose:List Str} {XP:(Str -> Option Value) -> Heap -> Prop} {YP:World -> Heap -> Prop} {d:DefRec}
  (hn:l.most=some n) (hdf:d.params.defaults=[])
  (call:∀ (w:World) (s₀ s₁:Shared) (mg mb:Str -> Option Value) (fa:Addr) (o:Obj) (pm cd doc:Value) (a:Addr) (vs:List Value) (ns:List Int),
   Ground q loose [] XP w s₀ mg mb s₁.heap -> YP w s₁.heap ->
   s₁.heap.get? fa=some o -> o.data=.func (docDef d.name d.params d.body d.scope pm cd doc) -> s₁.heap.CodeRec cd d.name -> mg d.name=some (.ref fa) ->
   s₁.heap.get? a=some { cls:=.type "list",data:=.seq vs.toArray } -> IntsAre vs ns -> ns.length<=n -> s₁.gens=#[] ->
   codeAny (model l.prog w) callerA (.call (.ref fa) ⟨[.ref a],[]⟩) (fun r s'=>r=.ok (.ret (.bool true))/\OldK s₁.heap s'.heap/\s'.os=s₁.os/\AllBare s'.gens) s₁):
  WalkO q loose XP YP l.row.toRowW d [] (fun f vs=>PySem.call f vs):=by
 intro w s₀ s₁ mg mb G Y fa o pm cd doc dV kV ho hd hcd hD hmg hg args vals as hpre hlay hrd hwl hlo
 obtain rfl:dV=.none:=Dflts.none hD hdf
 obtain rfl:kV=.none:=Dflts.noKw hD
 obtain ⟨a,vs,ns,rfl,rfl,hobj,hints,hlen⟩:=qHJ hn hpre hwl
 refine enter_call (codeAny_mono (call w s₀ s₁ mg mb fa o pm cd doc a vs ns G Y ho (fd_plain hd) hcd hmg hobj hints hlen hg) fun r s' hq=>?_)
 obtain ⟨rfl,h2,h3,h4⟩:=hq
 exact ⟨.inl ⟨.bool true,.bool true,[],rfl,fun _=>rfl,.bool true,qHM l _,fun _=>⟨List.Pairwise.nil,fun _ hm=>(nomatch hm)⟩⟩,h2,h3,h4⟩
section
variable {prog:Program} {w:World} {A:Around} {E:Value -> Shared -> Prop} {s:Shared} {K:Frag}
end
end Att
namespace L2
open PySem PySem.Spec PyProof.Rows
theorem qBb:∀ {vs:List Value} {ns:List Int},IntsAre vs ns -> Vals (ns.map V.int) vs
 | _,_,.nil=>.nil
 | _,_,.cons n t h=>.cons ⟨t,rfl⟩ (qBb h)
noncomputable def Only (H:Hp):Prop:=∀ b,H b=none\/∃ o xs,H b=some (.frz o (.lst xs))
theorem qHq {P:Program} {w:World} {K:PySem.W.Frag} {mg mb:Str -> Option Value} {CX:CXT} {k:Nat} {fa a:Addr} {fd:FuncData} {x:Str} {sp:Sp} {s₁:Shared} {vs:List Value} {ns:List Int}
  (KX:K.In s₁.heap) (hns:s₁.heap.Ns mainGlobals mg) (hb:s₁.heap.Ns builtinsNs mb) (hbb:∀ x:Str,x≠"__name__" -> mb x=bootBuiltins x) (hlim:s₁.heap.NoLimit) (hg:s₁.gens=#[])
  (ha:s₁.heap.get? a=some { cls:=.type "list",data:=.seq vs.toArray }) (hi:IntsAre vs ns) (hl:ns.length<=sizeLine) (hr:Room k callerA)
  (F:∀ base:Heap,K.In base -> base.Ns mainGlobals mg -> FnOk P w K mg base CX k fa fd [x] sp) (hbind:∀ (s:Shared) (u:Value),BindsTo s fd ⟨[u],[]⟩ [(x,u)])
  (hsp:∀ H:Hp,Only H -> SqL K H a (ns.map V.int) -> sp [.ref a] H (fun v _=>v=.bl true) fun _ _ _=>False)
  (hCX:∀ H e s',CX [] H s₁ (fun _ _ _=>False) e s' -> False):
  codeAny (model P w) callerA (.call (.ref fa) ⟨[.ref a],[]⟩) (fun r s'=>r=.ok (.ret (.bool true))/\OldK s₁.heap s'.heap/\s'.os=s₁.os/\AllBare s'.gens) s₁:=by
 have rv:=qBb hi
 have lenV:=hi.length
 have core:∀ H:Hp,Only H -> SqL K H a (ns.map V.int) -> HOk P w H s₁.heap -> (∀ b,H b≠none -> b=a) -> (H a≠none -> K.lookup a=none) ->
   codeAny (model P w) callerA (.call (.ref fa) ⟨[.ref a],[]⟩) (fun r s'=>r=.ok (.ret (.bool true))/\OldK s₁.heap s'.heap/\s'.os=s₁.os/\AllBare s'.gens) s₁:=by
  intro H hO hS hok hA hK
  have base_of:∀ {b:Addr} {o:Obj},s₁.heap.get? b=some o -> H b=none -> (qH6 s₁.heap H).get? b=some o:=fun e n=>qH4 e n
  have noA:∀ {b:Addr} {o:Obj} {es:Array DictEntry} {ep:Nat},s₁.heap.get? b=some o -> o.data=.dict es ep -> H b=none:=fun {b o es ep} e d=>by
   cases q:H b with
   | none=>rfl
   | some u=>
    have e':b=a:=hA b (by rw [q];simp)
    subst e'
    rw [ha] at e;cases e
    have d':Data.seq vs.toArray _=Data.dict es ep:=d
    cases d'
  have nsK:∀ {b:Addr} {m:Str -> Option Value},s₁.heap.Ns b m -> (qH6 s₁.heap H).Ns b m:=fun {b m} ⟨o,es,ep,e,d,r⟩=>⟨o,es,ep,base_of e (noA e d),d,r⟩
  have hKb:K.In (qH6 s₁.heap H):=fun b o e=>base_of (KX b o e) (by
   cases q:H b with
   | none=>rfl
   | some u=>
    have e':b=a:=hA b (by rw [q];simp)
    subst e'
    rw [hK (by rw [q];simp)] at e;cases e)
  have hM:Mod K mg (qH6 s₁.heap H):=⟨hKb,nsK hns,⟨mb,nsK hb,hbb⟩,let ⟨mc,h1,h2⟩:=hlim;⟨mc,nsK h1,h2⟩⟩
  have e0:qL3 P w K mg (qH6 s₁.heap H) callerA [] s₁ H:=⟨rfl,hM,fun b o e=>qJw e,Nat.le_of_eq (qGe _ _),trivial,fun b hb=>absurd (show b∈([]:List Addr) from hb) (by simp),hok,.of_eq hg⟩
  refine codeAny_mono ((F _ hKb (nsK hns)).run callerA [] s₁ H ⟨[.ref a],[]⟩ [.ref a] [.ref a] _ _ hr e0 (hbind s₁ (.ref a)) (.cons rfl .nil) (hsp H hO hS)) fun r s' h=>?_
  cases r with
  | error e=>exact (hCX H e s' h).elim
  | ok fl=>
   cases fl with
   | next=>exact False.elim h
   | brk=>exact False.elim h
   | cont=>exact False.elim h
   | ret u=>
    obtain ⟨v,H',os,bare,un,hok',r',q⟩:=h
    have q':v=.bl true:=q
    subst q'
    obtain rfl:u=Value.bool true:=r'
    refine ⟨rfl,OldK.of_keep fun b o e=>?_,os,bare⟩
    cases q:H b with
    | none=>exact un.keep b o e q (by intro z;exact absurd (show b∈([]:List Addr) from z) (by simp)) (by simp)
    | some u=>
     rcases hO b with z | ⟨ob,xs,z⟩
     ·rw [q] at z;cases z
     ·have z2:=un.frzs b ob _ z
      obtain ⟨e1,_⟩:=hok b _ z
      obtain ⟨e2,_⟩:=hok' b _ z2
      rw [e] at e1;cases e1
      exact e2
 cases hk:K.lookup a with
 | some o=>
  have e:=KX a o hk
  rw [ha] at e
  cases e
  refine core (fun _=>none) (fun _=>.inl rfl) (.inr ⟨_,vs.toArray,_,hk,rfl,rfl,rfl,by rw [List.size_toArray,lenV];exact hl,by simpa using rv⟩) (fun b u z=>by have z':(none:Option HO)=some u:=z;cases z') (fun b z=>absurd rfl z) fun z=>absurd rfl z
 | none=>
  refine core (fun b=>if b=a then some (.frz { cls:=.type "list",data:=.seq vs.toArray } (.lst (ns.map V.int))) else none) (fun b=>?_) (.inl (.inr ⟨{ cls:=.type "list",data:=.seq vs.toArray },if_pos rfl⟩)) (fun b u z=>?_) (fun b z=>?_) fun _=>hk
  ·by_cases hb:b=a
   ·exact .inr ⟨_,_,if_pos hb⟩
   ·exact .inl (if_neg hb)
  ·by_cases hb:b=a
   ·have z':=(if_pos hb).symm.trans z
    cases z'
    subst hb
    exact ⟨ha,by rw [List.length_map];exact hl,vs,_,rv,ha⟩
   ·have z':=(if_neg hb).symm.trans z
    cases z'
  ·by_cases hb:b=a
   ·exact hb
   ·exact absurd (if_neg hb) z
open PySem PySem.Spec PyProof.Rows
theorem walk_of {l:PySem.W.OpenLaw} {n k:Nat} {q:Program} {loose:List Str} {XP:(Str -> Option Value) -> Heap -> Prop} {YP:World -> Heap -> Prop} {d:DefRec} {K:Params -> PySem.W.Frag} {CX:World -> CXT} {sp:World -> Sp} {x:Str}
  (hn:l.most=some n) (hn2:n<=sizeLine) (hdf:d.params.defaults=[]) (hr:Room k callerA)
  (hY:∀ (w:World) (h:Heap),YP w h -> (K w.params).In h)
  (F:∀ (w:World) (mg:Str -> Option Value) (fa:Addr) (h:Heap),(K w.params).In h -> h.Ns mainGlobals mg -> mg d.name=some (.ref fa) ->
   ∃ fd:FuncData,(∀ (s:Shared) (u:Value),BindsTo s fd ⟨[u],[]⟩ [(x,u)])/\
    ∀ base:Heap,(K w.params).In base -> base.Ns mainGlobals mg -> FnOk l.prog w (K w.params) mg base (CX w) k fa fd [x] (sp w))
  (hsp:∀ (w:World) (H:Hp) (a:Addr) (ns:List Int),ns.length<=n -> Only H -> SqL (K w.params) H a (ns.map V.int) -> sp w [.ref a] H (fun v _=>v=.bl true) fun _ _ _=>False)
  (hCX:∀ (w:World) (H:Hp) (s:Shared) (e:Value) (s':Shared),CX w [] H s (fun _ _ _=>False) e s' -> False):
  PySem.W.WalkO q loose XP YP l.row.toRowW d [] (fun f vs=>PySem.call f vs):=by
 refine Att.attach_call hn hdf fun w s₀ s₁ mg mb fa o pm cd doc a vs ns G Y ho hd hcd hmg hobj hints hlen hg=>?_
 have KX:=hY w _ Y
 obtain ⟨fd,hb,hF⟩:=F w mg fa _ KX G.T.g hmg
 exact qHq KX G.T.g G.T.b G.T.builtins G.T.nolimit hg hobj hints (Nat.le_trans hlen hn2) hr hF hb (fun H hO hS=>hsp w H a ns hlen hO hS) fun H e s'=>hCX w H s₁ e s'
open PySem PySem.Spec PyProof.Rows
noncomputable def qBt (s:Stmt):Arguments:=match s with
 | .FunctionDef _ a _ _ _ _ _ _ _ _=>a
 | _=>{ posonlyargs:=[],args:=[],vararg:=none,kwonlyargs:=[],kw_defaults:=[],kwarg:=none,defaults:=[] }
noncomputable def defBody (s:Stmt):List Stmt:=match s with
 | .FunctionDef _ _ b _ _ _ _ _ _ _=>b
 | _=>[]
noncomputable def defScope (s:Stmt):Scope:=match s with
 | .FunctionDef _ _ _ _ _ _ sc _ _ _=>sc
 | _=>{ kind:=.function,names:=[],isGenerator:=false,isCoroutine:=false }
noncomputable abbrev CX0:CXT:=fun _ _ _ _ _ _=>False
noncomputable abbrev E0:XK:=fun _ _ _=>False
theorem pass0 {X:Cx}:qE5 CX0 X E0:=fun _ _ _ _ _ _ _ h=>h.elim
structure Fun (K:PySem.W.Frag) (x qual:Str) (st:Stmt) (f:Addr) (fd:FuncData):Prop where
 ex:∃ (oc:Value) (od:Option Addr) (kV doc pm:Value) (an:Option Addr) (cdv ct:Value) (osl:Array (Option Value)),
  fd=PySem.W.fnOf x qual (qBt st) (defBody st) (defScope st) .none kV doc pm an cdv ct/\K.lookup f=some ⟨oc,od,.func fd,osl⟩/\PySem.W.codeIn K cdv qual=true
 kp:PySem.W.keepIn K (.ref f)=true
section
variable {P:Program} {w:World} {K:PySem.W.Frag} {mg:Str -> Option Value} {base:Heap}
theorem Fun.ok {x qual:Str} {st:Stmt} {f:Addr} {fd:FuncData} {N ps:List Str} {k:Nat} {sp:Sp} (F:Fun K x qual st f fd) (S:qBd N ps (defScope st)) (len:∀ vs H Q E,sp vs H Q E -> vs.length=ps.length)
  (hbody:∀ (cdv:Value) (A:Around) (outer:List Env) (s:Shared) (H:Hp) (vs:List V) (Q:VK) (E:XK),Room k (A.deeper (envOfC qual (defScope st) s.heap.objs.size f cdv)) -> sp vs H Q E ->
   ∃ t,PSs (cxOf CX0 P w K mg base N qual (defScope st) f cdv A outer s H E).nox (defBody st) t/\t { nx:=fun _ H'=>Q .non H',rt:=Q } (start N vs) H):FnOk P w K mg base CX0 (k + 1) f fd ps sp:=by
 obtain ⟨oc,od,kV,doc,pm,an,cdv,ct,osl,rfl,lk,hcd⟩:=F.ex
 refine qMf lk hcd S len fun A outer s H vs Q E hr hsp=>?_
 obtain ⟨t,h,q⟩:=hbody cdv A outer s H vs Q E hr hsp
 exact ⟨t,h.nox,q⟩
theorem Fun.binds {x qual:Str} {st:Stmt} {f:Addr} {fd:FuncData} {ps:List Str} (F:Fun K x qual st f fd)
  (h:∀ (kV doc pm:Value) (an:Option Addr) (cdv ct:Value) (us:List Value),us.length=ps.length -> bindArgs (PySem.W.fnOf x qual (qBt st) (defBody st) (defScope st) .none kV doc pm an cdv ct) ⟨us,[]⟩=pure (ps.zip us)):Binds K fd ps []:=by
 obtain ⟨oc,od,kV,doc,pm,an,cdv,ct,osl,rfl,lk,hcd⟩:=F.ex
 exact .all (h kV doc pm an cdv ct)
theorem qIq {x qual:Str} {st:Stmt} {f:Addr} {oc:Value} {od an:Option Addr} {osl:Array (Option Value)} {kV doc pm cdv ct:Value} (l:K.lookup f=some ⟨oc,od,.func (PySem.W.fnOf x qual (qBt st) (defBody st) (defScope st) .none kV doc pm an cdv ct),osl⟩)
  (c:PySem.W.codeIn K cdv qual=true) (k:PySem.W.keepIn K (.ref f)=true):Fun K x qual st f (PySem.W.fnOf x qual (qBt st) (defBody st) (defScope st) .none kV doc pm an cdv ct):=⟨⟨oc,od,kV,doc,pm,an,cdv,ct,osl,rfl,l,c⟩,k⟩
end
section
variable {X:Cx}
end
noncomputable def qEk (H H':Hp):Prop:=∀ b o,H b=some o -> H' b=some o
end L2
namespace L2
open PySem PySem.Spec PyProof.Rows
open PySem PySem.Spec PyProof.Rows
section
variable (P:Program) (w:World)
end
section
variable {P:Program} {w:World} {H H':Hp} {h h':Heap} {a:Addr} {o:HO}
end
section
variable {P:Program} {w:World} {H:Hp} {h h':Heap} {x e:Addr} {o':HO}
end
section
variable {fs fs' ex ex':List Addr} {H H1 H2:Hp} {h h1 h2 h':Heap} {a x e:Addr} {o:HO}
end
open PySem PySem.Spec PyProof.Rows
section
variable {X:Cx} {pins:List (Addr×Obj)} {σ:List (Option V)} {H H':Hp} {s:Shared} {h':Heap}
end
open PySem PySem.Spec PyProof.Rows
section
variable {X:Cx}
variable {a b:Expr} {ta tb:TE} {pos:Pos}
variable {tA tB':TT} {qBp:List Expr}
end
open PySem PySem.Spec PyProof.Rows
section
variable {X:Cx} {pins:List (Addr×Obj)} {σ:St} {H:Hp} {s:Shared} {a:Addr} {xs ys:List V}
end
section
variable {X:Cx} {pins:List (Addr×Obj)} {σ:St} {H:Hp} {s:Shared} {E:Value -> Shared -> Prop}
end
section
variable {X:Cx} {st:Stmt} {qBp:List Stmt} {t u:TS} {e:Expr} {te:TE} {pos:Pos}
end
section
variable {X:Cx} {pos:Pos}
end
section
variable {X:Cx} {pos:Pos}
end
open PySem PySem.Spec PyProof.Rows
section
variable {X:Cx} {tg:Expr}
end
open PySem PySem.Spec PyProof.Rows
section
variable {X:Cx} {a b c:Expr} {ta tb tc:TE} {pos:Pos}
end
section
variable {X:Cx} {a b c:Expr} {ta tb tc:TE} {pos:Pos}
end
open PySem PySem.Spec PyProof.Rows
section
variable {prog:Program} {w:World} {A:Around} {E:Value -> Shared -> Prop} {s:Shared} {K:PySem.W.Frag} {x dx C f:Addr} {mA:Str -> Option Value} {name:Str} {v:Value}
end
section
variable {P:Program} {w:World} {H H':Hp} {h h':Heap} {a C dx:Addr} {fs fs':List (Str×V)}
end
section
variable {X:Cx} {pins:List (Addr×Obj)} {σ:St} {H:Hp} {s:Shared} {a C dx:Addr} {fs:List (Str×V)} {f:Str} {v:V} {A:Around} {E:Value -> Shared -> Prop}
end
section
variable {X:Cx} {o e value:Expr} {f:Str} {pos pos' tpos:Pos} {ta tv:TE}
end
section
variable {X:Cx} {pins:List (Addr×Obj)} {σ:St} {H:Hp} {s:Shared} {A:Around} {E:Value -> Shared -> Prop} {Q:Value -> Shared -> Prop} {c:Value} {b:Bool}
end
open PySem PySem.Spec PyProof.Rows
section
variable {X:Cx} {e:Expr} {es:List Expr} {te:TE} {t:TA} {pos:Pos}
end
section
variable {X:Cx} {pins:List (Addr×Obj)} {σ:St} {H:Hp} {s s':Shared}
end
section
variable {X:Cx} {CX:CXT} {k:Nat} {f C:Addr} {fd:FuncData} {ps:List Str} {sp:Sp} {dvs:List V} {ds:List Value} {E:XK} {x m:Str} {p pos apos:Pos} {e o:Expr} {es:List Expr} {ta:TE} {t:TA}
end
section
variable {X:Cx} {CX:CXT} {k:Nat} {f C:Addr} {fd:FuncData} {ps ks:List Str} {sp:Sp} {E:XK} {x m:Str} {p pos apos kpos:Pos} {e o:Expr} {es:List Expr} {kws:List Keyword} {te ta:TE} {t tk:TA} {nm:Option Str}
variable {g:List Value -> List Value -> List Value} {gV:List V -> List V -> List V}
end
open PySem PySem.Spec PyProof.Rows
section
variable {X:Cx} {x:Str} {p pos:Pos} {e:Expr} {es:List Expr} {t:TA} {id T:String} {r:List V -> Hp -> VK -> Prop}
end
open PySem PySem.Spec PyProof.Rows
section
variable {κ:Type} [DecidableEq κ]
noncomputable def valV (kvs:List (κ×V)) (k:κ):Option V:=(kvs.find? fun kv=>decide (kv.1=k)).map (·.2)
noncomputable def putK (kvs:List (κ×V)) (k:κ) (v:V):List (κ×V):=
 if (kvs.any fun kv=>decide (kv.1=k))=true then kvs.map (fun kv=>if kv.1=k then (kv.1,v) else kv) else kvs++[(k,v)]
noncomputable def qLf (kvs:List (κ×V)) (k:κ):List (κ×V):=kvs.filter fun kv=>decide (kv.1≠k)
theorem qDZ {p:κ×V} {r:List (κ×V)} {k:κ} (e:p.1=k):valV (p::r) k=some p.2:=by simp [valV,List.find?_cons,e]
theorem qDW {p:κ×V} {r:List (κ×V)} {k:κ} (e:¬ p.1=k):valV (p::r) k=valV r k:=by simp [valV,List.find?_cons,e]
theorem valV_any (k:κ):∀ kvs:List (κ×V),(kvs.any fun kv=>decide (kv.1=k))=(valV kvs k).isSome
 | []=>rfl
 | p::r=>by
  rw [List.any_cons]
  by_cases e:p.1=k
  ·simp only [qDZ e,decide_eq_true e,Bool.true_or,Option.isSome_some]
  ·rw [qDW e,decide_eq_false e,Bool.false_or];exact valV_any k r
theorem qC7 (kvs:List (κ×V)) (k:κ) (v:V):(putK kvs k v).length<=kvs.length + 1:=by
 unfold putK
 split
 ·rw [List.length_map];omega
 ·rw [List.length_append,List.length_cons,List.length_nil];omega
theorem RelO.isSome_eq {o:Option V} {u:Option Value} (r:RelO o u):o.isSome=u.isSome:=by
 cases o with
 | none=>cases u with
  | none=>rfl
  | some _=>exact (show False from r).elim
 | some _=>cases u with
  | none=>exact (show False from r).elim
  | some _=>rfl
theorem RelO.getD {o:Option V} {u:Option Value} {d:V} {d':Value} (r:RelO o u) (rd:RelV d d'):RelV (o.getD d) (u.getD d'):=by
 cases o with
 | none=>cases u with
  | none=>exact rd
  | some _=>exact (show False from r).elim
 | some _=>cases u with
  | none=>exact (show False from r).elim
  | some _=>exact r
theorem KV.val {kvs:List (κ×V)} {vs:List (κ×Value)} (r:KV kvs vs) (k:κ):RelO (valV kvs k) (valueAt vs k):=by
 unfold KV at r
 induction r with
 | nil=>exact True.intro
 | @cons p q ps qs h t ih=>
  obtain ⟨h1,h2⟩:=h
  by_cases e:p.1=k
  ·have e':q.1=k:=h1.symm.trans e
   have b:valueAt (q::qs) k=some q.2:=by simp [valueAt,List.find?_cons,e']
   rw [qDZ e,b];exact h2
  ·have e':¬ q.1=k:=fun z=>e (h1.trans z)
   have b:valueAt (q::qs) k=valueAt qs k:=by simp [valueAt,List.find?_cons,e']
   rw [qDW e,b];exact ih
theorem KV.any {kvs:List (κ×V)} {vs:List (κ×Value)} (r:KV kvs vs) (k:κ):(kvs.any fun kv=>decide (kv.1=k))=vs.any fun kv=>decide (kv.1=k):=by
 unfold KV at r
 induction r with
 | nil=>rfl
 | cons h t ih=>rw [List.any_cons,List.any_cons,ih,h.1]
theorem KV.repl {kvs:List (κ×V)} {vs:List (κ×Value)} (r:KV kvs vs) (k:κ) {y:V} {u:Value} (ry:RelV y u):
  KV (kvs.map fun kv=>if kv.1=k then (kv.1,y) else kv) (vs.map fun kv=>if kv.1=k then (kv.1,u) else kv):=by
 unfold KV at r ⊢
 induction r with
 | nil=>exact .nil
 | @cons p q ps qs h t ih=>
  rw [List.map_cons,List.map_cons]
  refine .cons ?_ ih
  obtain ⟨h1,h2⟩:=h
  by_cases e:p.1=k
  ·rw [if_pos e,if_pos (h1.symm.trans e)];exact ⟨h1,ry⟩
  ·rw [if_neg e,if_neg (fun z=>e (h1.trans z))];exact ⟨h1,h2⟩
theorem KV.put {kvs:List (κ×V)} {vs:List (κ×Value)} (r:KV kvs vs) (k:κ) {y:V} {u:Value} (ry:RelV y u):KV (putK kvs k y) (stored vs k u):=by
 unfold putK stored
 rw [r.any k]
 by_cases e:(vs.any fun kv=>decide (kv.1=k))=true
 ·rw [if_pos e,if_pos e];exact r.repl k ry
 ·rw [if_neg e,if_neg e];exact Paired.snoc r ⟨rfl,ry⟩
theorem KV.drop {kvs:List (κ×V)} {vs:List (κ×Value)} (r:KV kvs vs) (k:κ):KV (qLf kvs k) (without vs k):=by
 unfold KV at r ⊢
 unfold qLf without
 induction r with
 | nil=>exact .nil
 | @cons p q ps qs h t ih=>
  obtain ⟨h1,h2⟩:=h
  rw [List.filter_cons,List.filter_cons]
  by_cases e:p.1=k
  ·have a:¬ decide (p.1≠k)=true:=by simp [e]
   have b:¬ decide (q.1≠k)=true:=by simp [h1.symm.trans e]
   rw [if_neg a,if_neg b];exact ih
  ·have e':¬ q.1=k:=fun z=>e (h1.trans z)
   have a:decide (p.1≠k)=true:=by simp [e]
   have b:decide (q.1≠k)=true:=by simp [e']
   rw [if_pos a,if_pos b];exact .cons ⟨h1,h2⟩ ih
theorem KV.length {kvs:List (κ×V)} {vs:List (κ×Value)} (r:KV kvs vs):kvs.length=vs.length:=Paired.length r
end
theorem qJV {P:Program} {w:World} {k:Key} {u:Value} (r:RelV (kV k) u):(qAu P w).is k u=true:=by
 cases k with
 | inl i=>obtain ⟨t,e⟩:=(show ∃ t,u=Value.int i t from r);subst e;exact qE0 P w i t
 | inr x=>obtain ⟨t,e⟩:=(show ∃ t,u=Value.str x t from r);subst e;exact qEo P w x t
theorem qEF {P:Program} {w:World}:∀ {ks:List Key} {us:List Value},Vals (ks.map kV) us -> ItemsAre (qAu P w) ks us
 | [],_,r=>by rw [List.map_nil] at r;cases r;exact .nil
 | k::ks,_,r=>by
  rw [List.map_cons] at r
  cases r with
  | cons h t=>exact .cons (qJV h) (qEF t)
noncomputable abbrev KT (H:Hp):List (List Key×V) -> List (List Key×Addr×Value) -> Prop:=Paired fun p q=>p.1=q.1/\H q.2.1=some (.tup (p.1.map kV))/\RelV p.2 q.2.2
theorem KT.val {H:Hp} {kvs:List (List Key×V)} {xs:List (List Key×Addr×Value)} (r:KT H kvs xs) (k:List Key):RelO (valV kvs k) ((atKey xs k).map (·.2)):=by
 induction r with
 | nil=>exact True.intro
 | @cons p q ps qs h t ih=>
  obtain ⟨h1,_,h2⟩:=h
  by_cases e:p.1=k
  ·have e':q.1=k:=h1.symm.trans e
   have b:atKey (q::qs) k=some q.2:=by simp [atKey,List.find?_cons,e']
   rw [qDZ e,b];exact h2
  ·have e':¬ q.1=k:=fun z=>e (h1.trans z)
   have b:atKey (q::qs) k=atKey qs k:=by simp [atKey,List.find?_cons,e']
   rw [qDW e,b];exact ih
theorem KT.repl {H:Hp} {kvs:List (List Key×V)} {xs:List (List Key×Addr×Value)} (r:KT H kvs xs) (k:List Key) {y:V} {u:Value} (ry:RelV y u):
  KT H (kvs.map fun kv=>if kv.1=k then (kv.1,y) else kv) (xs.map (putAt k u)):=by
 induction r with
 | nil=>exact .nil
 | @cons p q ps qs h t ih=>
  rw [List.map_cons,List.map_cons]
  refine .cons ?_ ih
  obtain ⟨h1,h2,h3⟩:=h
  unfold putAt
  by_cases e:p.1=k
  ·rw [if_pos e,if_pos (h1.symm.trans e)];exact ⟨h1,h2,ry⟩
  ·rw [if_neg e,if_neg (fun z=>e (h1.trans z))];exact ⟨h1,h2,h3⟩
theorem KT.put {H:Hp} {kvs:List (List Key×V)} {xs:List (List Key×Addr×Value)} (r:KT H kvs xs) (k:List Key) {b:Addr} {y:V} {u:Value} (hb:H b=some (.tup (k.map kV))) (ry:RelV y u):
  KT H (putK kvs k y) (storedH xs k b u):=by
 have e:(kvs.any fun kv=>decide (kv.1=k))=(atKey xs k).isSome:=by
  rw [valV_any,(r.val k).isSome_eq,Option.isSome_map]
 unfold putK storedH
 rw [e]
 by_cases q:(atKey xs k).isSome=true
 ·rw [if_pos q,if_pos q];exact r.repl k ry
 ·rw [if_neg q,if_neg q];exact Paired.snoc r ⟨rfl,hb,ry⟩
theorem KT.keeps {H H':Hp} {kvs:List (List Key×V)} {xs:List (List Key×Addr×Value)} (r:KT H kvs xs) (ht:∀ b ys,H b=some (.tup ys) -> H' b=some (.tup ys)):KT H' kvs xs:=
 Paired.mapP r fun _ _ z=>⟨z.1,ht _ _ z.2.1,z.2.2⟩
section
variable {P:Program} {w:World} {H:Hp} {h:Heap} {a:Addr}
theorem qLC {u:HO} (ok:HOk P w H h) (e:Rd H a u):ObjOk P w H h a u:=e.ok ok
theorem qLT {kvs:List (Key×V)} (ok:HOk P w H h) (e:Rd H a (.dK kvs)):kvs.length<=sizeLine/\(a==sysModules)=false/\∃ vs,KV kvs vs/\h.DictOf (qAu P w) a vs:=
 show ObjOk P w H h a (.dK kvs) from qLC ok e
theorem qMg {kvs:List (Key×V)} (ok:HOk P w H h) (e:H a=some (.dK kvs)):kvs.length<=sizeLine/\(a==sysModules)=false/\∃ vs,KV kvs vs/\h.DictOf (qAu P w) a vs:=qLT ok (.inl e)
theorem qGo {ks:List Key} (ok:HOk P w H h) (e:H a=some (.tup (ks.map kV))):(tupleKind (qAu P w)).is h ks a:=by
 obtain ⟨_,its,r,o,h1,h2,n,h3⟩:=(show ObjOk P w H h a (.tup (ks.map kV)) from ok a _ e)
 exact ⟨o,its.toArray,n,h1,h2,h3,by simpa using qEF r⟩
theorem qKq {kvs:List (List Key×V)} (ok:HOk P w H h) (e:Rd H a (.dT kvs)):kvs.length<=sizeLine/\(a==sysModules)=false/\
  ∃ xs,KT H kvs xs/\h.DictOfH (tupleKind (qAu P w)) a xs:=by
 obtain ⟨z,y,xs,r,o,es,ep,h1,h2,h3,h4,h5⟩:=(show ObjOk P w H h a (.dT kvs) from qLC ok e)
 refine ⟨z,y,xs,r,o,es,ep,h1,h2,h3,h4,fun x hx=>?_,h5⟩
 have all:∀ {l:List (List Key×V)} {m:List (List Key×Addr×Value)},KT H l m -> ∀ x∈m,(tupleKind (qAu P w)).is h x.1 x.2.1:=by
  intro l m q
  induction q with
  | nil=>intro x hx;exact nomatch hx
  | @cons p q ps qs hq t ih=>
   intro x hx
   rcases List.mem_cons.mp hx with e | hx
   ·subst e
    exact qGo ok (by rw [<- hq.1];exact hq.2.1)
   ·exact ih x hx
 exact all r x hx
theorem qNK {kvs:List (List Key×V)} (ok:HOk P w H h) (e:H a=some (.dT kvs)):kvs.length<=sizeLine/\(a==sysModules)=false/\
  ∃ xs,KT H kvs xs/\h.DictOfH (tupleKind (qAu P w)) a xs:=qKq ok (.inl e)
end
noncomputable def DGet (H:Hp) (a:Addr) (y:V) (r:Option V):Prop:=
 (∃ kvs k,Rd H a (.dK kvs)/\y=kV k/\r=valV kvs k)\/∃ kvs k b,Rd H a (.dT kvs)/\y=.ref b/\H b=some (.tup (k.map kV))/\r=valV kvs k
noncomputable def DPut (H:Hp) (a:Addr) (y v:V) (H':Hp):Prop:=
 (∃ kvs k,H a=some (.dK kvs)/\y=kV k/\kvs.length < sizeLine/\H'=upd H a (.dK (putK kvs k v)))\/
 ∃ kvs k b,H a=some (.dT kvs)/\y=.ref b/\H b=some (.tup (k.map kV))/\kvs.length < sizeLine/\H'=upd H a (.dT (putK kvs k v))
theorem DGet.k {H:Hp} {a:Addr} {kvs:List (Key×V)} {k:Key} (e:H a=some (.dK kvs)):DGet H a (kV k) (valV kvs k):=.inl ⟨kvs,k,.inl e,rfl,rfl⟩
theorem DGet.t {H:Hp} {a b:Addr} {kvs:List (List Key×V)} {k:List Key} (e:H a=some (.dT kvs)) (eb:H b=some (.tup (k.map kV))):DGet H a (.ref b) (valV kvs k):=.inr ⟨kvs,k,b,.inl e,rfl,eb,rfl⟩
theorem DPut.k {H:Hp} {a:Addr} {kvs:List (Key×V)} {k:Key} {v:V} (e:H a=some (.dK kvs)) (hl:kvs.length < sizeLine):DPut H a (kV k) v (upd H a (.dK (putK kvs k v))):=.inl ⟨kvs,k,e,rfl,hl,rfl⟩
theorem DPut.t {H:Hp} {a b:Addr} {kvs:List (List Key×V)} {k:List Key} {v:V} (e:H a=some (.dT kvs)) (eb:H b=some (.tup (k.map kV))) (hl:kvs.length < sizeLine):
  DPut H a (.ref b) v (upd H a (.dT (putK kvs k v))):=.inr ⟨kvs,k,b,e,rfl,eb,hl,rfl⟩
section
variable {X:Cx} {pins:List (Addr×Obj)} {σ:St} {H:Hp} {s:Shared} {a:Addr} {y v:V} {u r:Value} {o:Option V} {A:Around} {E:Value -> Shared -> Prop}
theorem d_in {Q:Value -> Shared -> Prop} (hu:A.units + 1 < cLine) (I:Inv X pins σ H s) (g:DGet H a y o) (ry:RelV y u) (h:∀ s',Inv X pins σ H s' -> Q (.bool o.isSome) s'):
  wpAny (model X.prog X.w) A (compareOp .In u (.ref a)) Q E s:=by
 rcases g with ⟨kvs,k,e,ey,l⟩ | ⟨kvs,k,b,e,ey,eb,l⟩
 ·subst ey
  obtain ⟨z,hd,vs,rel,dd⟩:=qLT I.hok e
  refine wpAny_in_of (qJV ry) hd dd.mapOf ?_
  rw [<- (rel.val k).isSome_eq,<- l]
  exact h _ (I.tok _)
 ·subst ey
  cases (show u=Value.ref b from ry)
  obtain ⟨z,hd,xs,rel,dd⟩:=qKq I.hok e
  refine wpAny_in_heap (tupleKind_room_in1 hu) (qGo I.hok eb) hd dd ?_
  have q:=(rel.val k).isSome_eq
  rw [Option.isSome_map] at q
  rw [<- q,<- l]
  exact h _ (I.tok _)
theorem qGF {h':Heap} {t':Nat} {ob:HO} (I:Inv X pins σ H s) (mu:Mut (H a)) (hs:Heap.SameBut a s.heap h') (he:∃ q,h'.get? a=some q) (new:ObjOk X.prog X.w (upd H a ob) h' a ob):
  Inv X pins σ (upd H a ob) { s with heap:=h',toks:=t' }:=
 I.write (x:=a) (e:=a) mu (.inl rfl) (fun b q hb z=>(hs.2 b hb).trans z) he new
theorem qLF {P:Program} {w:World} {H':Hp} {h':Heap} {kvs:List (Key×V)} {vs:List (Key×Value)} (z:kvs.length<=sizeLine) (hd:(a==sysModules)=false) (rel:KV kvs vs) (dd:h'.DictOf (qAu P w) a vs):
  ObjOk P w H' h' a (.dK kvs):=⟨z,hd,vs,rel,dd⟩
theorem d_setItem {H':Hp} {Q:Unit -> Shared -> Prop} (hu:A.units + 1 < cLine) (I:Inv X pins σ H s) (g:DPut H a y v H') (ry:RelV y u) (rv:RelV v r) (h:∀ s',Inv X pins σ H' s' -> Q () s'):
  wpAny (model X.prog X.w) A (setItem (.ref a) u r) Q E s:=by
 rcases g with ⟨kvs,k,e,ey,l,eH⟩ | ⟨kvs,k,b,e,ey,eb,l,eH⟩
 ·subst ey eH
  obtain ⟨z,hd,vs,rel,dd⟩:=qMg I.hok e
  have hz:vs.length<=sizeLine:=by rw [<- rel.length];exact z
  have hl:(putK kvs k v).length<=sizeLine:=by have:=qC7 kvs k v;omega
  refine wpAny_setItem_pairs (hsz:=hz) (qJV ry) dd fun h' dd' hs=>h _ ?_
  have he:∃ q,h'.get? a=some q:=let ⟨q,_,_,hq,_⟩:=dd';⟨q,hq⟩
  exact qGF I (by rw [e];exact True.intro) hs he (qLF hl hd (rel.put k rv) dd')
 ·subst ey eH
  cases (show u=Value.ref b from ry)
  obtain ⟨z,hd,xs,rel,dd⟩:=qNK I.hok e
  have hz:xs.length<=sizeLine:=by rw [<- Paired.length rel];exact z
  have hl:(putK kvs k v).length<=sizeLine:=by have:=qC7 kvs k v;omega
  refine wpAny_setItem_heap (hsz:=hz) (tupleKind_room_in1 hu) (qGo I.hok eb) dd fun h' dd' hs=>h _ ?_
  obtain ⟨q,es,ep,hq,h2,h3,h4,_,h5⟩:=dd'
  refine qGF I (by rw [e];exact True.intro) hs ⟨q,hq⟩ ⟨hl,hd,_,(rel.put k eb rv).keeps fun c ys ec=>?_,q,es,ep,hq,h2,h3,h4,h5⟩
  rw [qAJ (qMT ec e (fun z=>nomatch z))]
  exact ec
end
section
variable {X:Cx} {pins:List (Addr×Obj)} {σ:St} {H:Hp} {s:Shared} {a:Addr} {kvs:List (Key×V)} {k:Key} {u:Value} {A:Around} {E:Value -> Shared -> Prop}
end
section
variable {X:Cx} {o i e value:Expr} {pos pos' tpos:Pos} {td ty tv:TE}
end
section
variable {X:Cx} {pos:Pos}
end
structure M1 (X:Cx) (o:Expr) (m:Str) (apos:Pos) (e:Expr) (cpos:Pos):Prop where
 base:attributeBase o m X.env (eval o X.env)=eval o X.env
 few:((backTo cpos (starEach [e] X.env)).all (fun x=>!x.1)&&(backToKw cpos (keywordEach [] X.env)).all (fun x=>x.1.isSome)
  && decide (([e]:List Expr).length + ([]:List Keyword).length + (if ([]:List Keyword).isEmpty then 0 else 1) < 30))=true
 line:(apos.endLine==cpos.line)=true
 trees:backTo cpos (starEach [e] X.env)=[(false,eval e X.env)]
structure M2 (X:Cx) (o:Expr) (m:Str) (apos:Pos) (e f:Expr) (cpos:Pos):Prop where
 base:attributeBase o m X.env (eval o X.env)=eval o X.env
 few:((backTo cpos (starEach [e,f] X.env)).all (fun x=>!x.1)&&(backToKw cpos (keywordEach [] X.env)).all (fun x=>x.1.isSome)
  && decide (([e,f]:List Expr).length + ([]:List Keyword).length + (if ([]:List Keyword).isEmpty then 0 else 1) < 30))=true
 line:(apos.endLine==cpos.line)=true
 trees:backTo cpos (starEach [e,f] X.env)=[(false,eval e X.env),(false,eval f X.env)]
section
variable {X:Cx} {pins:List (Addr×Obj)} {σ:St} {H:Hp} {s:Shared} {a:Addr} {y d:V} {u r:Value} {o:Option V} {A:Around} {E:Value -> Shared -> Prop}
end
section
variable {X:Cx} {o e f:Expr} {apos cpos:Pos} {td ty tx:TE}
end
section
variable {X:Cx} {pins:List (Addr×Obj)} {σ:St} {H:Hp} {s:Shared} {a:Addr} {kvs:List (Key×V)} {A:Around} {E:Value -> Shared -> Prop}
end
section
variable {X:Cx} {pins:List (Addr×Obj)} {σ:St} {H:Hp} {s:Shared} {a:Addr} {y:V} {u:Value} {A:Around} {E:Value -> Shared -> Prop}
end
end L2
namespace Att
open PySem PySem.W PySem.Calls PyProof.Rows
section
variable {prog:Program} {w:World} {A:Around} {E:Value -> Shared -> Prop} {s:Shared} {K:Frag}
end
end Att
namespace L2
open PySem PySem.Spec PyProof.Rows
open PySem PySem.Spec PyProof.Rows
end L2
set_option maxHeartbeats 4000000
namespace L2
open PySem PySem.Spec PyProof.Rows
noncomputable def qGE (cells:List (Str×Addr)):List (Str×NameKind) -> List (Str×Addr) -> List (Str×Addr)
 | [],cs=>cs
 | (n,k)::r,cs=>qGE cells r (if k=.free then (match cells.lookup n with | some c=>(n,c)::cs | none=>cs) else cs)
theorem qBN {scope:Scope} {env:Env} (h:∀ y∈scope.names,y.2=.free -> ∃ c,env.cells.lookup y.1=some c):closureFor scope env=pure (qGE env.cells scope.names []):=by
 simp only [closureFor]
 generalize scope.names=names at h
 have key:∀ (names:List (Str×NameKind)) (cs:List (Str×Addr)),(∀ y∈names,y.2=.free -> ∃ c,env.cells.lookup y.1=some c) ->
   (forIn names cs fun x r=>if (x.2==NameKind.free)=true then do let c <- cellOf env x.1;pure (ForInStep.yield ((x.1,c)::r)) else pure (ForInStep.yield r))=(pure (qGE env.cells names cs):Sem _):=by
  intro names
  induction names with
  | nil=>intro cs _;rfl
  | cons y r ih=>
   intro cs hy
   obtain ⟨n,k⟩:=y
   rw [List.forIn_cons]
   by_cases hk:k=.free
   ·subst hk
    obtain ⟨c,hc⟩:=hy (n,.free) List.mem_cons_self rfl
    have hc':List.lookup n env.cells=some c:=hc
    have e:cellOf env n=pure c:=by unfold cellOf;rw [hc']
    simp only [beq_self_eq_true,if_true,e,pure_bind,qGE,hc']
    exact ih _ fun y hm=>hy y (List.mem_cons_of_mem _ hm)
   ·have hb:(k==NameKind.free)=false:=by simpa using hk
    simp only [hb,Bool.false_eq_true,if_false,pure_bind,qGE,if_neg hk]
    exact ih _ fun y hm=>hy y (List.mem_cons_of_mem _ hm)
 rw [key names [] h]
 rfl
theorem qIp {cells:List (Str×Addr)} {x:Str} {c:Addr}:∀ {names:List (Str×NameKind)} {cs:List (Str×Addr)},(qGE cells names cs).lookup x=some c -> cs.lookup x=some c\/cells.lookup x=some c
 | [],cs,h=>.inl h
 | (n,k)::r,cs,h=>by
  unfold qGE at h
  rcases qIp h with h2 | h2
  ·clear h
   by_cases hk:k=.free
   ·rw [if_pos hk] at h2
    cases e:cells.lookup n with
    | none=>rw [e] at h2;exact .inl h2
    | some c'=>
     rw [e] at h2
     simp only [List.lookup_cons] at h2
     cases hx:x==n with
     | true=>
      have hx':x=n:=by simpa using hx
      rw [hx] at h2
      subst hx'
      cases h2
      exact .inr e
     | false=>
      rw [hx] at h2
      exact .inl h2
   ·rw [if_neg hk] at h2
    exact .inl h2
  ·exact .inr h2
theorem qIy {cells:List (Str×Addr)} {x:Str} {c:Addr} (hc:cells.lookup x=some c):∀ {names:List (Str×NameKind)} {cs:List (Str×Addr)},((x,NameKind.free)∈names\/cs.lookup x=some c) -> (∀ c',cs.lookup x=some c' -> c'=c) -> (qGE cells names cs).lookup x=some c
 | [],cs,h,_=>by
  rcases h with h | h
  ·exact nomatch h
  ·exact h
 | (n,k)::r,cs,h,hu=>by
  unfold qGE
  refine qIy hc ?_ ?_
  ·rcases h with h | h
   ·rcases List.mem_cons.mp h with h | h
    ·cases h
     right
     rw [if_pos rfl,hc]
     simp
    ·exact .inl h
   ·right
    by_cases hk:k=.free
    ·rw [if_pos hk]
     cases e:cells.lookup n with
     | none=>exact h
     | some c'=>
      simp only [List.lookup_cons]
      cases hx:x==n with
      | true=>
       have hx':x=n:=by simpa using hx
       subst hx'
       rw [hc] at e
       cases e
       rfl
      | false=>exact h
    ·rw [if_neg hk];exact h
  ·intro c' h'
   by_cases hk:k=.free
   ·rw [if_pos hk] at h'
    cases e:cells.lookup n with
    | none=>rw [e] at h';exact hu c' h'
    | some c2=>
     rw [e] at h'
     simp only [List.lookup_cons] at h'
     cases hx:x==n with
     | true=>
      have hx':x=n:=by simpa using hx
      subst hx'
      rw [hx] at h'
      rw [hc] at e
      cases e
      cases h'
      rfl
     | false=>
      rw [hx] at h'
      exact hu c' h'
   ·rw [if_neg hk] at h'
    exact hu c' h'
theorem qCY {env:Env}:∀ {names:List (Str×NameKind)} {x:Str},names.lookup x=some .free ->
  (names.map fun (n,k)=>if (k==NameKind.free&&env.scope.kind==.function&&env.kindOf n==some .cell) then (n,NameKind.cell) else (n,k)).lookup x=some .cell\/
  (names.map fun (n,k)=>if (k==NameKind.free&&env.scope.kind==.function&&env.kindOf n==some .cell) then (n,NameKind.cell) else (n,k)).lookup x=some .free
 | [],_,h=>by simp at h
 | (n,k)::r,x,h=>by
  have ih:=@qCY env r x
  simp only [List.map_cons]
  cases hx:x==n with
  | true=>
   simp only [List.lookup_cons,hx] at h
   cases h
   by_cases hc:(NameKind.free==NameKind.free&&env.scope.kind==.function&&env.kindOf n==some .cell)=true
   ·rw [if_pos hc];left;simp [List.lookup_cons,hx]
   ·rw [if_neg hc];right;simp [List.lookup_cons,hx]
  | false=>
   simp only [List.lookup_cons,hx] at h
   by_cases hc:(k==NameKind.free&&env.scope.kind==.function&&env.kindOf n==some .cell)=true
   ·rw [if_pos hc];simp only [List.lookup_cons,hx];exact ih h
   ·rw [if_neg hc];simp only [List.lookup_cons,hx];exact ih h
theorem qBW {env:Env}:∀ {names:List (Str×NameKind)} {x:Str},
  ((names.map fun (n,k)=>if (k==NameKind.free&&env.scope.kind==.function&&env.kindOf n==some .cell) then (n,NameKind.cell) else (n,k)).lookup x=some .cell\/
  (names.map fun (n,k)=>if (k==NameKind.free&&env.scope.kind==.function&&env.kindOf n==some .cell) then (n,NameKind.cell) else (n,k)).lookup x=some .free) -> names.lookup x=some .free\/names.lookup x=some .cell
 | [],_,h=>by simp at h
 | (n,k)::r,x,h=>by
  have ih:=@qBW env r x
  simp only [List.map_cons] at h
  cases hx:x==n with
  | true=>
   simp only [List.lookup_cons,hx]
   by_cases hc:(k==NameKind.free&&env.scope.kind==.function&&env.kindOf n==some .cell)=true
   ·rw [if_pos hc] at h
    have hk:k=.free:=by
     cases k<;>first | rfl | (simp at hc)
    rw [hk];exact .inl rfl
   ·rw [if_neg hc] at h
    simp only [List.lookup_cons,hx] at h
    exact h.symm
  | false=>
   simp only [List.lookup_cons,hx]
   by_cases hc:(k==NameKind.free&&env.scope.kind==.function&&env.kindOf n==some .cell)=true
   ·rw [if_pos hc] at h;simp only [List.lookup_cons,hx] at h;exact ih h
   ·rw [if_neg hc] at h;simp only [List.lookup_cons,hx] at h;exact ih h
theorem qBr:∀ (names:List (Str×NameKind)) (a:Nat) (acc:List (Str×Addr)),cellsFrom a names acc=cellsFrom a names []++acc
 | [],a,acc=>rfl
 | (n,k)::r,a,acc=>by
  unfold cellsFrom
  split
  ·rw [qBr r (a + 1) ((n,a)::acc),qBr r (a + 1) [(n,a)],List.append_assoc];rfl
  ·exact qBr r a acc
theorem qDs {x:Str} {c:Addr}:∀ {names:List (Str×NameKind)} {a:Nat},(x,c)∈cellsFrom a names [] -> (x,NameKind.cell)∈names
 | [],a,h=>nomatch h
 | (n,k)::r,a,h=>by
  unfold cellsFrom at h
  split at h
  ·rename_i hk
   rw [qBr,List.mem_append] at h
   rcases h with h | h
   ·exact List.mem_cons_of_mem _ (qDs h)
   ·have:(x,c)=(n,a):=List.mem_singleton.mp h
    cases this
    rw [beq_iff_eq.mp hk];exact List.mem_cons_self
  ·exact List.mem_cons_of_mem _ (qDs h)
theorem qFT {x:Str}:∀ {names:List (Str×NameKind)} {a:Nat},(x,NameKind.cell)∈names -> ∃ c,(cellsFrom a names []).lookup x=some c
 | [],a,h=>nomatch h
 | (n,k)::r,a,h=>by
  unfold cellsFrom
  rcases List.mem_cons.mp h with h | h
  ·cases h
   rw [if_pos (by decide),qBr,List.lookup_append]
   cases (cellsFrom (a + 1) r []).lookup x with
   | none=>exact ⟨a,by simp⟩
   | some c=>exact ⟨c,rfl⟩
  ·split
   ·obtain ⟨c,hc⟩:=qFT (a:=a + 1) h
    exact ⟨c,by rw [qBr,List.lookup_append,hc];rfl⟩
   ·exact qFT h
noncomputable def qBT (X:Cx) (scope:Scope) (C:Addr):List (Str×Addr):=cellsFrom (C + 1) scope.names (qGE X.env.cells scope.names [])
noncomputable def cxComp (X:Cx) (scope:Scope) (C:Addr) (fp:List Addr) (s₂:Shared) (H₂:Hp) (N:List Str):Cx:=
 { X with N:=N,s₀:=s₂,H₀:=H₂,env:=compEnvC scope (qBT X scope C) C X.env,outer:=X.stack,ex:=fp,fn:=fun x=>decide (scope.names.lookup x=some .cell),pn:=[],xe:=fun _ _=>False }
noncomputable def inner (src:List (Option Nat)) (σ:St):St:=src.map fun o=>match o with | none=>none | some j=>(σ[j]?).join
structure CompScope (X:Cx) (scope:Scope) (N:List Str) (src:List (Option Nat)):Prop where
 kind:scope.kind=.function
 uniq:∀ y∈scope.names,scope.names.lookup y.1=some y.2
 frees:∀ y∈scope.names,y.2=NameKind.free -> X.env.kindOf y.1=some .cell\/X.env.kindOf y.1=some .free
 nd:N.Nodup
 len:src.length=N.length
 from_:∀ (i:Nat) x j,N[i]?=some x -> src[i]?=some (some j) -> X.N[j]?=some x/\scope.names.lookup x=some .free
theorem qAc {x:Str} {k:NameKind}:∀ {names:List (Str×NameKind)},names.lookup x=some k -> (x,k)∈names
 | [],h=>by simp at h
 | (n,k')::r,h=>by
  cases hx:x==n with
  | true=>
   simp only [List.lookup_cons,hx] at h
   have hx':x=n:=by simpa using hx
   cases h
   subst hx'
   exact List.mem_cons_self
  | false=>
   simp only [List.lookup_cons,hx] at h
   exact List.mem_cons_of_mem _ (qAc h)
section
variable {X:Cx} {pins:List (Addr×Obj)} {σ:St} {H₂:Hp} {s₂:Shared} {scope:Scope} {N:List Str} {src:List (Option Nat)} {fp:List Addr}
theorem CompScope.cells (S:CompScope X scope N src) (ok:X.Ok):∀ y∈scope.names,y.2=.free -> ∃ c,X.env.cells.lookup y.1=some c:=fun y hy hk=>ok.has y.1 (S.frees y hy hk)
theorem CompScope.names (S:CompScope X scope N src):∀ y∈scope.names,y.2=NameKind.local -> scope.names.lookup y.1=some .local:=fun y hy hk=>by rw [<- hk];exact S.uniq y hy
theorem qAs {C:Addr} {h₁:Heap} (ow:CellsOk h₁ (C + 1) (cellsFrom (C + 1) scope.names [])) {x:Str} {c:Addr} (h:(qBT X scope C).lookup x=some c):
  ((x,c)∈cellsFrom (C + 1) scope.names []/\(x,NameKind.cell)∈scope.names/\h₁.IsCell c none/\C < c)\/X.env.cells.lookup x=some c:=by
 unfold qBT at h
 rw [qBr,List.lookup_append] at h
 cases e:(cellsFrom (C + 1) scope.names []).lookup x with
 | some c'=>
  rw [e] at h
  cases h
  have m:=PySem.mem_of_lookup e
  exact .inl ⟨m,qDs m,(ow.empty x c m).1,(ow.empty x c m).2⟩
 | none=>
  rw [e] at h
  rcases qIp (show (qGE X.env.cells scope.names []).lookup x=some c by simpa using h) with h | h
  ·simp at h
  ·exact .inr h
theorem qDQ (S:CompScope X scope N src) {C:Addr} {x:Str} {c:Addr} (hf:scope.names.lookup x=some .free) (h:X.env.cells.lookup x=some c):(qBT X scope C).lookup x=some c:=by
 unfold qBT
 rw [qBr,List.lookup_append]
 have:(cellsFrom (C + 1) scope.names []).lookup x=none:=by
  cases e:(cellsFrom (C + 1) scope.names []).lookup x with
  | none=>rfl
  | some c'=>
   have:=S.uniq _ (qDs (PySem.mem_of_lookup e))
   rw [hf] at this;cases this
 rw [this,qIy h (.inl (qAc hf)) (by intro c' h';simp at h')];rfl
theorem qJA (S:CompScope X scope N src) (I:Inv X pins σ H₂ s₂) (f2:∀ b∈fp,qEK X pins H₂ b) (ob:∀ b∈fp,∃ o,s₂.heap.get? b=some o/\∀ v,o.data≠.cell v) {C:Addr} (hC:s₂.heap.objs.size<=C) {h₁:Heap} (ow:CellsOk h₁ (C + 1) (cellsFrom (C + 1) scope.names [])):
  (cxComp X scope C fp s₂ H₂ N).Ok:=by
 have lt:∀ x c,X.env.cells.lookup x=some c -> c < s₂.heap.objs.size:=fun x c h=>let ⟨v,q⟩:=I.cell x c h;q.lt
 refine ⟨I.ok.mod,S.kind,I.ok.glob,I.ok.blt,hC,fun x y c h1 h2=>?_,fun x hx=>?_,fun x c hf h=>?_,I.ok.hd,I.ok.frames,.inl rfl,fun b hb=>⟨?_,fun x c h=>?_⟩,fun b o e=>I.bs b o e,?_,fun b o e hb=>?_,fun b hb=>?_,I.stack,I.stkFree⟩
 ·rcases qAs ow h1 with ⟨m1,_,_,g1⟩ | g1<;>rcases qAs ow h2 with ⟨m2,_,_,g2⟩ | g2
  ·exact PySem.name_of_addr ow.apart m1 m2
  ·exact absurd (Nat.lt_trans (Nat.lt_of_lt_of_le (lt y c g2) hC) g1) (Nat.lt_irrefl _)
  ·exact absurd (Nat.lt_trans (Nat.lt_of_lt_of_le (lt x c g1) hC) g2) (Nat.lt_irrefl _)
  ·exact I.ok.inj x y c g1 g2
 ·rcases qBW hx with hf | hf
  ·obtain ⟨c,hc⟩:=S.cells I.ok (x,.free) (qAc hf) rfl
   exact ⟨c,qDQ S hf hc⟩
  ·obtain ⟨c,hc⟩:=qFT (a:=C + 1) (qAc hf)
   exact ⟨c,by show (qBT X scope C).lookup x=_;unfold qBT;rw [qBr,List.lookup_append,hc];rfl⟩
 ·have hf':scope.names.lookup x=some .cell:=of_decide_eq_true hf
  rcases qAs ow h with ⟨_,_,_,g⟩ | g
  ·exact Nat.le_of_lt (Nat.lt_of_le_of_lt hC g)
  ·unfold cxComp at h
   have h:(qBT X scope C).lookup x=some c:=h
   obtain ⟨c',hc'⟩:=qFT (a:=C + 1) (qAc hf')
   have e:(qBT X scope C).lookup x=some c':=by unfold qBT;rw [qBr,List.lookup_append,hc'];rfl
   rw [e] at h;cases h
   have:=(ow.empty x c (PySem.mem_of_lookup hc')).2
   exact Nat.le_trans hC (Nat.le_of_succ_le this)
 ·obtain ⟨o,e,_⟩:=ob b hb
  exact Nat.ne_of_lt (Nat.lt_of_lt_of_le (Heap.lt_size e) hC)
 ·rcases qAs ow h with ⟨_,_,_,g⟩ | g
  ·obtain ⟨o,e,_⟩:=ob b hb
   exact Nat.ne_of_gt (Nat.lt_trans (Nat.lt_of_lt_of_le (Heap.lt_size e) hC) g)
  ·exact (f2 b hb).2.2.2.2.1 x c g
 ·exact Nat.le_trans I.ok.bsz I.sz
 ·rcases (f2 b hb).2.2.2.1 with z | z
  ·exact I.ok.noex b o e z
  ·exact absurd (Nat.lt_of_lt_of_le (Heap.lt_size e) (Nat.le_trans I.ok.bsz z)) (Nat.lt_irrefl _)
 ·intro hz
  rcases List.mem_cons.mp (I.stkSub b hz) with e | e
  ·exact (f2 b hb).2.1 e
  ·exact (f2 b hb).2.2.1 e
theorem qDt (S:CompScope X scope N src) (I:Inv X pins σ H₂ s₂) (f2:∀ b∈fp,qEK X pins H₂ b) (ob:∀ b∈fp,∃ o,s₂.heap.get? b=some o/\∀ v,o.data≠.cell v) {C:Addr} {h₁:Heap} {m:Str -> Option Value} {tk n:Nat}
  (hC:s₂.heap.objs.size < C) (keep:∀ b o,s₂.heap.get? b=some o -> h₁.get? b=some o) (hD:h₁.get? s₂.heap.objs.size=some { cls:=.type "list",data:=.seq #[] n }) (hn:h₁.Ns C m) (ow:CellsOk h₁ (C + 1) (cellsFrom (C + 1) scope.names [])):
  Inv (cxComp X scope C fp s₂ H₂ N) [] (inner src σ) (upd H₂ s₂.heap.objs.size (.lst [])) { s₂ with heap:=h₁,toks:=tk }:=by
 have lt:∀ x c,X.env.cells.lookup x=some c -> c < s₂.heap.objs.size:=fun x c h=>let ⟨v,q⟩:=I.cell x c h;q.lt
 have hfr:H₂ s₂.heap.objs.size=none:=I.hok.fresh (Nat.le_refl _)
 refine ⟨qJA S I f2 ob (Nat.le_of_lt hC) ow,rfl,I.bare,Un.laid keep (Nat.le_refl _) hfr,⟨m,hn,fun i x v e1 e2 e3=>?_⟩,fun x c h=>?_,?_,fun x c h=>?_,fun p hp=>absurd (show p∈([]:List (Addr×Obj)) from hp) (by simp),I.hok.laid keep (Nat.le_refl _) ⟨by simp,[],n,.nil,hD⟩,?_⟩
 ·have e2':(inner src σ)[i]?=some (some v):=e2
  unfold inner at e2'
  rw [List.getElem?_map] at e2'
  cases q:src[i]? with
  | none=>rw [q] at e2';cases e2'
  | some o=>
   rw [q] at e2'
   cases o with
   | none=>cases e2'
   | some j=>
    have ej:(σ[j]?).join=some v:=Option.some.inj e2'
    have ej':σ[j]?=some (some v):=by
     cases z:σ[j]? with
     | none=>rw [z] at ej;cases ej
     | some w=>rw [z] at ej;exact congrArg some ej
    obtain ⟨n1,n2⟩:=S.from_ i x j e1 q
    obtain ⟨m0,hn0,hl⟩:=I.loc
    have hfr':=S.frees (x,.free) (qAc n2) rfl
    obtain ⟨u,r,l⟩:=hl j x v n1 ej' (by rcases hfr' with z | z;exact .inr (.inl z);exact .inr (.inr z))
    refine ⟨u,r,.inr ⟨qCY n2,?_⟩⟩
    rcases l with ⟨k,_⟩ | ⟨_,c,hc,o,ho,hd⟩
    ·have k':X.env.kindOf x=some .local:=k
     rcases hfr' with z | z
     ·have z':X.env.kindOf x=some .cell:=z
      rw [k'] at z';cases z'
     ·have z':X.env.kindOf x=some .free:=z
      rw [k'] at z';cases z'
    ·exact ⟨c,qDQ S n2 hc,o,keep c o ho,hd⟩
 ·rcases qAs ow h with ⟨_,_,g,_⟩ | g
  ·exact ⟨none,g⟩
  ·obtain ⟨v,o,ho,hd⟩:=I.cell x c g
   exact ⟨v,o,keep c o ho,hd⟩
 ·show upd H₂ s₂.heap.objs.size (.lst []) C=none
  rw [qAJ (Nat.ne_of_gt hC)]
  exact I.hok.fresh (Nat.le_of_lt hC)
 ·rcases qAs ow h with ⟨_,_,_,g⟩ | g
  ·rw [qAJ (Nat.ne_of_gt (Nat.lt_trans hC g))]
   exact I.hok.fresh (Nat.le_of_lt (Nat.lt_trans hC g))
  ·rw [qAJ (Nat.ne_of_lt (lt x c g))]
   exact I.freeC x c g
 ·show (inner src σ).length=N.length
  unfold inner
  rw [List.length_map,S.len]
theorem qEb (I:Inv X pins σ H₂ s₂) (f2:∀ b∈fp,qEK X pins H₂ b) {C:Addr} {pins':List (Addr×Obj)} {σ':St} {H':Hp} {s':Shared} {h':Heap} (hC:s₂.heap.objs.size<=C) (J:Inv (cxComp X scope C fp s₂ H₂ N) pins' σ' H' s')
  (kp:∀ b o,b≠C -> s'.heap.get? b=some o -> h'.get? b=some o):Inv X pins σ H' { s' with heap:=h' }:=by
 have neC:∀ b o,s₂.heap.get? b=some o -> b≠C:=fun b o e=>Nat.ne_of_lt (Nat.lt_of_lt_of_le (Heap.lt_size e) hC)
 have B:=J.base
 refine I.call' (s':={ s' with heap:=h' }) (ch:=fp) J.os ⟨fun b o e n hb hx=>kp b o (neC b o e) (B.keep b o e n hb hx),fun b o e n hb hx=>?_,B.free,fun b o e hx=>?_,B.tups,B.frzs,B.tbls⟩ (fun a o e=>?_) J.bare fun b hb=>⟨(f2 b hb).2.2.2.1,(f2 b hb).2.1,(f2 b hb).2.2.2.2⟩
 ·obtain ⟨sl,q⟩:=B.slot b o e n hb hx
  exact ⟨sl,kp b _ (neC b o e) q⟩
 ·obtain ⟨o',q⟩:=B.there b o e hx
  exact ⟨o',kp b o' (neC b o e) q⟩
 ·have nC:H' C=none:=J.free
  have ne:∀ b u,H' b=some u -> b≠C:=fun b u q z=>by rw [z,nC] at q;cases q
  refine (J.hok a o e).stay (fun c v hc q=>kp c v ?_ q) (fun _ q=>q) fun _ _ q=>q
  rcases hc with z | z
  ·rw [z];exact ne a o e
  ·exact ne c _ z
end
noncomputable def PTs (X:Cx) (ifs:List Expr) (t:TT):Prop:=
 ∀ (pins:List (Addr×Obj)) (s:Shared) (σ:St) (H:Hp) (Q:Bool -> Hp -> Prop),Inv X pins σ H s -> t σ H Q ->
  wpAny (model X.prog X.w) X.A (forIn ifs true fun c r=>if r=true then do let ok <- isTrue c X.env (eval c X.env);pure (ForInStep.yield ok) else pure (ForInStep.yield r)) (TP X pins σ Q) X.xe s
theorem pts_nil {X:Cx}:PTs X [] (fun _ H Q=>Q true H):=fun pins s σ H Q I h=>wpAny_pure ⟨H,I,h⟩
theorem pts_one {X:Cx} {c:Expr} {t:TT} (hc:PT X c t):PTs X [c] t:=by
 intro pins s σ H Q I h
 rw [List.forIn_cons]
 simp only [if_true]
 refine wpAny_bind (wpAny_bind (thn (hc pins s σ H Q I h) fun b s1 q=>?_))
 exact wpAny_pure (wpAny_pure q)
noncomputable def tComp (wi:TI) (src:List (Option Nat)) (g:TG) (tc:TT) (te:TE):TE:=fun σ H Q=>wi σ H fun J H1=>∀ D,H1 D=none ->
 ∃ W:Nat -> Nat -> List V -> St -> Hp -> Prop,(∃ m,W 0 m [] (inner src σ) (upd H1 D (.lst [])))/\∀ i m ys σ' H',W i m ys σ' H' -> H' D=some (.lst ys) ->
  (J.stop i H'/\Q (.ref D) H')\/
  (J.go i H'/\∀ x H2,J.yld i H' x H2 -> g x σ' H2 fun σ3 H3=>tc σ3 H3 fun b H4=>
   if b=true then te σ3 H4 fun y H5=>H5 D=some (.lst ys)/\ys.length < sizeLine/\∃ m',m' < m/\W (i + 1) m' (ys++[y]) σ3 (upd H5 D (.lst (ys++[y])))
   else H4 D=some (.lst ys)/\∃ m',m' < m/\W (i + 1) m' ys σ3 H4)
section
variable {X:Cx} {pins:List (Addr×Obj)} {σ:St} {H₂:Hp} {s₂:Shared} {scope:Scope} {N:List Str} {src:List (Option Nat)}
theorem qEq {M:Model} {A:Around} {E:Value -> Shared -> Prop} {s:Shared} {scope:Scope} {globals:Addr} {cl:List (Str×Addr)} {qual:Str} {env:Env} {Q:Env -> Shared -> Prop}
  (h:Q (newEnv scope s.heap.objs.size globals (cellsFrom (s.heap.objs.size + 1) scope.names cl) qual none .none (some env) builtinsNs) { s with heap:=pushCells (s.heap.push { cls:=.type "dict",data:=.dict #[] }) scope.names }):
  wpAny M A (newFunctionEnv scope globals cl [] qual none .none (some env)) Q E s:=by
 simp only [newFunctionEnv,Option.isSome_some,if_true]
 refine wpAny_bind (wpAny_alloc ?_)
 refine wpAny_bind (wpAny_layCells _ (fun name kind cells=>by cases hkc:kind==NameKind.cell<;>simp [hkc]) _ _ _ _ ?_)
 rw [show ({ s with heap:=s.heap.push { cls:=.type "dict",data:=.dict #[] } }:Shared).heap.objs.size=s.heap.objs.size + 1 from Heap.size_push ..]
 refine wpAny_bind ?_
 rw [List.forIn_nil]
 exact wpAny_pure (wpAny_pure h)
theorem qE7 {elt tg iter:Expr} {ifs:List Expr} {pos:Pos} {g:TG} {tc:TT} {te:TE} {it:Addr} {fp:List Addr} {tn:Nat -> Heap -> Prop} {J:It} {Q:VK} {E:Value -> Shared -> Prop} {RR:Value -> Addr -> Result -> Shared -> Prop}
  (hc:X.calm=true) (S:CompScope X scope N src) (I2:Inv X pins σ H₂ s₂) (T:qEr X.prog X.w X.K tg J fp it tn) (st2:tn 0 s₂.heap) (f2:∀ b∈fp,qEK X pins H₂ b)
  (hg:∀ C fp s H,PG (cxComp X scope C fp s H N) tg g) (ht:∀ C fp s H,PTs (cxComp X scope C fp s H N) ifs tc) (he:∀ C fp s H,PE (cxComp X scope C fp s H N) elt te)
  (h:∀ D,H₂ D=none -> ∃ W:Nat -> Nat -> List V -> St -> Hp -> Prop,(∃ m,W 0 m [] (inner src σ) (upd H₂ D (.lst [])))/\∀ i m ys σ' H',W i m ys σ' H' -> H' D=some (.lst ys) ->
   (J.stop i H'/\Q (.ref D) H')\/
   (J.go i H'/\∀ x H2,J.yld i H' x H2 -> g x σ' H2 fun σ3 H3=>tc σ3 H3 fun b H4=>
    if b=true then te σ3 H4 fun y H5=>H5 D=some (.lst ys)/\ys.length < sizeLine/\∃ m',m' < m/\W (i + 1) m' (ys++[y]) σ3 (upd H5 D (.lst (ys++[y])))
    else H4 D=some (.lst ys)/\∃ m',m' < m/\W (i + 1) m' ys σ3 H4))
  (hRR:∀ (D C:Addr) (σ':St) (H':Hp) (s':Shared),s₂.heap.objs.size<=C -> Inv (cxComp X scope C fp s₂ H₂ N) [] σ' H' s' -> Q (.ref D) H' -> RR (.ref D) C (.ok .next) s'):
  wpAny (model X.prog X.w) X.A (newList []) (fun acc s₃=>wpAny (model X.prog X.w) X.A (newFunctionEnv scope X.env.globals (qGE X.env.cells scope.names []) [] X.env.qual none .none (some X.env)) (fun cenv s₄=>
   codeAny (model X.prog X.w) X.A (.compStart (.ListComp elt [⟨tg,iter,ifs,0⟩] scope pos) 0 (.ref it) acc { cenv with scope:=relabel scope X.env }) (RR acc cenv.locals) s₄) E s₃) E s₂:=by
 refine wpAny_newObj_type (qEq ?_)
 dsimp only
 generalize hH2:s₂.heap.push { cls:=.type "list",dict:=none,data:=.seq ([]:List Value).toArray }=P2
 have hC:P2.objs.size=s₂.heap.objs.size + 1:=by rw [<- hH2,Heap.size_push]
 have ow:=cellsFrom_ok scope.names (P2.push { cls:=.type "dict",data:=.dict #[] }) (P2.objs.size + 1) [] ⟨fun _ _ hm=>(nomatch hm),List.Pairwise.nil⟩ (by rw [Heap.size_push];exact Nat.le_refl _)
 rw [Heap.size_push] at ow
 generalize hh1:pushCells (P2.push { cls:=.type "dict",data:=.dict #[] }) scope.names=h₁ at ow ⊢
 have kp:∀ b o,P2.get? b=some o -> h₁.get? b=some o:=fun b o e=>hh1 ▸ pushCells_keeps _ _ b o (Heap.get?_push_of_some _ e)
 have hns₁:h₁.Ns P2.objs.size (fun _=>none):=hh1 ▸ (Heap.Ns.new P2 (.type "dict")).keeps (pushCells_keeps _ _)
 have old:∀ b o,s₂.heap.get? b=some o -> h₁.get? b=some o:=fun b o e=>kp b o (hH2 ▸ Heap.get?_push_of_some _ e)
 have hacc:h₁.get? s₂.heap.objs.size=some { cls:=.type "list",data:=.seq #[] }:=kp _ _ (hH2 ▸ Heap.get?_push_size _ rfl)
 have st1:tn 0 h₁:=T.keep _ _ _ st2 fun b _ o e=>old b o e
 have ob:=T.obj _ _ st2
 have lt:s₂.heap.objs.size < P2.objs.size:=by rw [hC];exact Nat.lt_succ_self _
 have I3:=qDt (tk:=s₂.toks) S I2 f2 ob lt old hacc hns₁ ow
 obtain ⟨W,⟨m0,w0⟩,step⟩:=h s₂.heap.objs.size I2.fresh
 have fpn:∀ b∈fp,b≠s₂.heap.objs.size:=fun b hb=>by
  obtain ⟨o,e,_⟩:=ob b hb
  exact Nat.ne_of_lt (Heap.lt_size e)
 have fok:∀ {pins':List (Addr×Obj)} {H':Hp},(∀ b∈fp,H' b=none) -> (∀ p∈pins',p.1∉fp) -> ∀ b∈fp,qEK (cxComp X scope P2.objs.size fp s₂ H₂ N) pins' H' b:=fun {pins' H'} hn hp b hb=>by
  have okc:=I3.ok
  exact ⟨hn b hb,(okc.exf b hb).1,okc.exfs b hb,.inl hb,(okc.exf b hb).2,fun p hp' z=>hp p (by simpa [cxComp] using hp') (z ▸ hb)⟩
 have loop:∀ s₃:Shared,s₃={ s₂ with heap:=h₁,toks:=s₂.toks } ->
   codeAny (model X.prog X.w) X.A (.compLoop (.ListComp elt [⟨tg,iter,ifs,0⟩] scope pos) 0 (.ref it) (.ref s₂.heap.objs.size) (compEnvC scope (qBT X scope P2.objs.size) P2.objs.size X.env))
    (RR (.ref s₂.heap.objs.size) P2.objs.size) s₃:=by
  rintro s₃ rfl
  refine codeAny_loop rfl (fun n s'=>∃ i ys σ' H',Inv (cxComp X scope P2.objs.size fp s₂ H₂ N) [] σ' H' s'/\tn i s'.heap/\(∀ b∈fp,H' b=none)/\H' s₂.heap.objs.size=some (.lst ys)/\W i n ys σ' H') (fun n s' hI=>?_) m0
   ⟨0,[],inner src σ,_,I3,st1,fun b hb=>by rw [qAJ (fpn b hb)];exact (f2 b hb).1,qAL,w0⟩
  obtain ⟨i,ys,σ3,H3,J3,st3,fr3,hD3,w3⟩:=hI
  show wpAny _ X.A ((compTurn (.ListComp elt [⟨tg,iter,ifs,0⟩] scope pos) 0 (.ref it) (.ref s₂.heap.objs.size) _).onRaise (fun x=>do noteFrame x _;theTreesLotGoes x)) _ _ s'
  refine wpAny_noted ?_
  rw [compTurn_list]
  have never:∀ {α:Type} {t:Sem α} {Q1:α -> Shared -> Prop} {E1:Value -> Shared -> Prop} {s1:Shared},wpAny (model X.prog X.w) X.A t Q1 (fun _ _=>False) s1 -> wpAny (model X.prog X.w) X.A t Q1 E1 s1:=fun h=>wpAny_mono h (fun _ _ q=>q) fun _ _ f=>f.elim
  refine wpAny_bind (wpAny_standAt (wpAny_bind ?_))
  rcases step i n ys σ3 H3 w3 hD3 with ⟨stop,qn⟩ | ⟨go,qHS⟩
  ·refine never (thn (T.done (cxComp X scope P2.objs.size fp s₂ H₂ N) rfl rfl rfl hc i [] s' σ3 H3 _ J3 (fok fr3 (by simp)) st3 stop) fun r s4 ⟨hr,I4⟩=>?_)
   subst hr
   exact wpAny_pure (hRR _ _ σ3 H3 s4 (Nat.le_of_lt lt) I4 qn)
  ·refine never (thn (T.item (cxComp X scope P2.objs.size fp s₂ H₂ N) rfl rfl rfl hc i [] s' σ3 H3 _ J3 (fok fr3 (by simp)) st3 go) fun r s4 ⟨u,hr,h4⟩=>?_)
   subst hr
   refine wpAny_bind (never (thn h4 fun _ s5 ⟨x,H5,I5,r5,y5,st5,fr5⟩=>?_))
   have I5':=I5.pinned (fok fr5 (by simp)) (T.obj _ _ st5)
   have kept:∀ {σ7:St} {H7:Hp} {s7:Shared},Inv (cxComp X scope P2.objs.size fp s₂ H₂ N) ([]++qEP fp s5.heap) σ7 H7 s7 -> Inv (cxComp X scope P2.objs.size fp s₂ H₂ N) [] σ7 H7 s7/\tn (i + 1) s7.heap/\∀ b∈fp,H7 b=none:=fun {σ7 H7 s7} I7=>by
    refine ⟨I7.unpinned,T.keep _ _ _ st5 fun b hb o e=>(I7.pin (b,o) (List.mem_append_right _ (List.mem_append_right _ (qBi hb e)))).1,fun b hb=>?_⟩
    obtain ⟨o,e,d⟩:=T.obj _ _ st5 b hb
    exact (I7.pin (b,o) (List.mem_append_right _ (List.mem_append_right _ (qBi hb e)))).2.1
   refine wpAny_bind (never (thn (hg _ _ _ _ _ s5 σ3 H5 x u _ I5' r5 (qHS x H5 y5)) fun _ s6 ⟨σ6,H6,I6,q6⟩=>?_))
   refine wpAny_bind (never (thn (ht _ _ _ _ _ s6 σ6 H6 _ I6 q6) fun b s7 ⟨H7,I7,q7⟩=>?_))
   cases b with
   | false=>
    rw [if_neg (by decide)] at q7
    obtain ⟨hD7,m',hm,w7⟩:=q7
    obtain ⟨I7',st7,fr7⟩:=kept I7
    exact wpAny_pure ⟨rfl,m',hm,i + 1,ys,σ6,H7,I7',st7,fr7,hD7,w7⟩
   | true=>
    rw [if_pos rfl] at q7
    refine wpAny_bind (wpAny_bind (never (thn (he _ _ _ _ _ s7 σ6 H7 _ I7 q7) fun yv s8 ⟨y,H8,I8,r8,hD8,hz,m',hm,w8⟩=>?_)))
    refine wpAny_bind (never (thn (mt_append (X:=cxComp X scope P2.objs.size fp s₂ H₂ N) _ s8 σ6 H8 (.ref s₂.heap.objs.size) [y] _ [yv] (fun v H'=>v=.non/\H'=upd H8 s₂.heap.objs.size (.lst (ys++[y]))) I8 rfl (.cons r8 .nil) ⟨_,ys,y,rfl,rfl,hD8,hz,rfl,rfl⟩) fun _ s9 ⟨v9,H9,I9,_,_,e9⟩=>?_))
    subst e9
    obtain ⟨I9',st9,fr9⟩:=kept I9
    exact wpAny_pure (wpAny_pure ⟨rfl,m',hm,i + 1,_,σ6,_,I9',st9,fr9,qAL,w8⟩)
 exact codeAny_compStart_list (loop _ rfl) (T.self _ 0 _ _ _ st1 (loop _ rfl))
end
end L2
namespace L2
open PySem PySem.Spec PyProof.Rows
section
variable {X:Cx} {scope:Scope} {N:List Str} {src:List (Option Nat)} {elt tg iter:Expr} {ifs:List Expr} {pos:Pos} {wi:TI} {g:TG} {tc:TT} {te:TE}
theorem pe_comp (hc:X.calm=true) (hi:PI X tg iter wi) (S:CompScope X scope N src)
  (hg:∀ C fp s H,PG (cxComp X scope C fp s H N) tg g) (ht:∀ C fp s H,PTs (cxComp X scope C fp s H N) ifs tc) (he:∀ C fp s H,PE (cxComp X scope C fp s H N) elt te)
  (hs:∀ x,foldedSetIterable iter X.env x=pure x:=by intro _;rfl):PE X (.ListComp elt [⟨tg,iter,ifs,0⟩] scope pos) (tComp wi src g tc te):=by
 intro pins s σ H Q I h
 rw [eval_ListComp]
 refine wpAny_comprehension_free (use:=none) rfl hs (qBN (S.cells I.ok)) S.kind S.names (thn (hi pins s σ H _ I h) fun v s1 h1=>thn h1 fun itv s2 h2=>?_)
 obtain ⟨it,fp,tn,J,H2,rfl,I2,T,st2,f2,hW⟩:=h2
 refine qE7 (Q:=Q) (RR:=fun acc C=>compPost (model X.prog X.w) X.A X.xe none (EP X pins σ Q) acc C) hc S I2 T st2 f2 hg ht he hW ?_
 intro D C σ' H' s' hC J q
 obtain ⟨m,hn,_⟩:=id J.loc
 exact ⟨m,hn,fun h' hs'=>⟨.ref D,H',qEb I2 f2 hC J (fun b o hb e=>hs'.extBut b o hb e),rfl,q⟩⟩
theorem ps_setcomp {i:Nat} {x:Str} {pos' spos:Pos} (hc:X.calm=true) (hi:PI X tg iter wi) (S:CompScope X scope N src)
  (hg:∀ C fp s H,PG (cxComp X scope C fp s H N) tg g) (ht:∀ C fp s H,PTs (cxComp X scope C fp s H N) ifs tc) (he:∀ C fp s H,PE (cxComp X scope C fp s H N) elt te)
  (hsw:swapsWith (.ListComp elt [⟨tg,iter,ifs,0⟩] scope pos) (some (.Name x pos')) spos.line X.env=pure true)
  (hN:X.N.Nodup) (hx:X.N[i]?=some x) (hl:X.env.scope.names.lookup x=some .local)
  (hs:∀ x,foldedSetIterable iter X.env x=pure x:=by intro _;rfl):PS X (.Assign [.Name x pos'] (.ListComp elt [⟨tg,iter,ifs,0⟩] scope pos) spos) (tAsg (tComp wi src g tc te) (qKz i)):=by
 intro pins s σ H D I h
 rw [exec_Assign_Name_used _ _ _ _ hsw]
 refine wpAny_bind (wpAny_standAt (wpAny_bind ?_))
 show wpAny _ X.A (do let _ <- comprehension (.ListComp elt [⟨tg,iter,ifs,0⟩] scope pos) scope X.env _ (newList []) false (eval iter X.env) (some (assign (.Name x pos') X.env))) _ _ s
 refine wpAny_bind (wpAny_mono (wpAny_comprehension_free (use:=some (assign (.Name x pos') X.env)) (Q:=fun _ s'=>SP X pins D .next s') rfl hs (qBN (S.cells I.ok)) S.kind S.names
  (thn (hi pins s σ H _ I h) fun v s1 h1=>thn h1 fun itv s2 h2=>?_)) (fun _ s' hq=>wpAny_pure (wpAny_pure hq)) fun _ _ e=>e)
 obtain ⟨it,fp,tn,J,H2,rfl,I2,T,st2,f2,hW⟩:=h2
 refine qE7 (Q:=fun v H'=>D.nx (σ.set i (some v)) H') (RR:=fun acc C=>compPost (model X.prog X.w) X.A X.xe (some (assign (.Name x pos') X.env)) (fun _ s'=>SP X pins D .next s') acc C) hc S I2 T st2 f2 hg ht he hW ?_
 intro L C σ' H' s' hC J q
 obtain ⟨m,hn,_⟩:=id J.loc
 have I3:Inv X pins σ H' s':=qEb (h':=s'.heap) I2 f2 hC J (fun b o hb e=>e)
 show wpAny _ X.A (assign (.Name x pos') X.env (.ref L)) _ _ _
 have nL:X.env.locals≠C:=Nat.ne_of_lt (Nat.lt_of_lt_of_le I2.lt hC)
 refine wpAny_assign_Name (qD6 I3 hN hx (.inl hl) (show RelV (.ref L) (.ref L) from rfl) (fun s4 I4 hsb=>?_) (.inr hl))
 obtain ⟨a,sb,ha⟩:=hsb
 have ha':a≠C:=by
  rcases ha with z | z
  ·rw [z];exact nL
  ·obtain ⟨v,hv⟩:=I2.cell x a z
   exact Nat.ne_of_lt (Nat.lt_of_lt_of_le hv.lt hC)
 refine ⟨m,hn.sameBut sb (Ne.symm ha'),fun h5 sb5=>?_⟩
 have I5:Inv X pins (σ.set i (some (V.ref L))) H' { s4 with heap:=h5,toks:=s4.toks }:=I4.turned (it:=C) (fun b o hb e=>sb5.extBut b o hb e) J.free (Ne.symm nL) (.inr (Nat.le_trans I2.sz hC)) (fun y c e z=>by
   obtain ⟨v,hv⟩:=I2.cell y c e
   exact absurd (Nat.lt_of_lt_of_le hv.lt (by rw [z];exact hC)) (Nat.lt_irrefl _)) fun p hp z=>absurd (Nat.lt_of_lt_of_le (Heap.lt_size (I2.pin p hp).1) (by rw [z];exact hC)) (Nat.lt_irrefl _)
 exact ⟨_,H',I5,q⟩
end
end L2
namespace PI
open L2 (V Key)
open PySem (Str)
inductive BOp | add | sub | mul | fdiv | mod | pow | band | shl | shr | bor | bxor
 deriving DecidableEq
inductive COp | lt | le | gt | ge | eq | ne | inn | notin | is | isnot
 deriving DecidableEq
inductive BF | len | sum | all | any | max | min | abs | list | int | tuple | range | sorted | repr | bits
 deriving DecidableEq
inductive Mt | pop | popAt | rev | clr | rem | cnt | ext
 deriving DecidableEq
inductive Tg | name (i:Nat) | tup (is:List Nat)
 deriving DecidableEq
mutual
inductive E
 | var (i:Nat) | cst (v:V) | glob (g:Nat)
 | bin (op:BOp) (a b:E) | neg (a:E)
 | cmp (op:COp) (a b:E) | cmp2 (o1 o2:COp) (a b c:E) | cmp3 (o1 o2 o3:COp) (a b c d:E)
 | and (a b:E) | or (a b:E) | not (a:E) | ite (c a b:E)
 | call (f:Nat) (as:Es) | blt (f:BF) (as:Es) | isi (a:E) (ts:List String)
 | idx (a b:E) | sl (a:E) (lo hi:Es) | rev (a:E) | index (a b:E) | lst (as:Es) | tup (as:Es)
 | comp (it:Itr) (src:List (Option Nat)) (g:Tg) (c:Es) (e:E)
 | app (a b:E) | lrng (a:E) | dnew | meth (m:Mt) (a:E) (as:Es)    | stp (a e:E) | nset (a:E) | lrng2 (a b:E)
inductive Es | nil | cons (a:E) (as:Es)
inductive Itr | list (a:E) | rng1 (a:E) | rng2 (a b:E) | zip (a b:E) | enum (a:E) | revd (a:E) | rng3 (a b:E) | rvr (a:E)
end
mutual
inductive S
 | asg (g:Tg) (e:E) | par (i j:Nat) (a b:E) | put (o i v:E)
 | expr (e:E) | ret (e:E) | retN | ifs (c:E) (t u:Ss)
 | for_ (g:Tg) (it:Itr) (b:Ss) | while_ (c:E) (b:Ss) | pass | brk | cont | stop
  | nloop (u x f i:Nat) (a:E)       | retc (as:Es) (e:E)
inductive Ss | nil | cons (s:S) (r:Ss)
end
noncomputable def Es.snoc:Es -> E -> Es
 | .nil,e=>.cons e .nil
 | .cons a as,e=>.cons a (Es.snoc as e)
inductive Ob | dct (kvs:List (Int×V)) | exn (c:Str)
 deriving DecidableEq
inductive O | lst (fz:Bool) (xs:List V) | tup (xs:List V) | ob (o:Ob)
 deriving DecidableEq
noncomputable abbrev AH:=List O
noncomputable abbrev St:=List (Option V)
inductive Res (α:Type) | ok (a:α) | exc (c:Nat) (h:AH) | stuck
noncomputable def Res.bind {α β:Type}:Res α -> (α -> Res β) -> Res β
 | .ok a,f=>f a
 | .exc c h,_=>.exc c h
 | .stuck,_=>.stuck
noncomputable def Res.nx {α:Type}:Res α -> Res α
 | .ok a=>.ok a
 | .exc _ _=>.stuck
 | .stuck=>.stuck
@[simp] theorem Res.bind_ok {α β:Type} (a:α) (f:α -> Res β):(Res.ok a).bind f=f a:=rfl
noncomputable abbrev RV:=Res (V×AH)
noncomputable def items (h:AH) (a:Nat):Option (List V):=match h[a]? with
 | some (.lst _ xs)=>some xs
 | some (.tup xs)=>some xs
 | _=>none
noncomputable def qAH (h:AH) (a:Nat):Option (List V):=match h[a]? with
 | some (.lst _ xs)=>some xs
 | _=>none
noncomputable def qAT (h:AH) (a:Nat):Option (List V):=match h[a]? with
 | some (.tup xs)=>some xs
 | _=>none
noncomputable def qDA (h:AH) (a:Nat):Option (List (Int×V)):=match h[a]? with
 | some (.ob (.dct kvs))=>some kvs
 | _=>none
noncomputable def qG6 (kvs:List (Int×V)) (k:Int):Bool:=kvs.any fun p=>decide (p.1=k)
noncomputable def qC9 (kvs:List (Int×V)) (k:Int) (v:V):List (Int×V):=if qG6 kvs k=true then kvs.map (fun p=>if p.1=k then (p.1,v) else p) else kvs++[(k,v)]
noncomputable def qKx (h:AH) (a:Nat):Option Str:=match h[a]? with
 | some (.ob (.exn c))=>some c
 | _=>none
noncomputable def qAV (h:AH) (a:Nat):Option (List V):=match h[a]? with
 | some (.lst false xs)=>some xs
 | _=>none
noncomputable def lim:Nat:=100000
noncomputable def newL (xs:List V) (h:AH):RV:=.ok (.ref h.length,h++[.lst false xs])
noncomputable def newT (xs:List V) (h:AH):RV:=.ok (.ref h.length,h++[.tup xs])
noncomputable def qAq:V -> Bool
 | .non=>true | .bl _=>true | .int _=>true | .str _=>true | _=>false
noncomputable def eqF:V -> V -> Option Bool
 | .int i,.int j=>some (i==j)
 | .bl i,.bl j=>some (i==j)
 | .str i,.str j=>some (i==j)
 | .non,.non=>some true
 | .int i,.bl b=>some (i==(if b then 1 else 0))
 | .bl b,.int i=>some ((if b then 1 else 0)==i)
 | .non,.int _=>some false | .int _,.non=>some false
 | .non,.bl _=>some false | .bl _,.non=>some false
 | .non,.str _=>some false | .str _,.non=>some false
 | .int _,.str _=>some false | .str _,.int _=>some false
 | .bl _,.str _=>some false | .str _,.bl _=>some false
 | _,_=>none
noncomputable def qDC (f:V -> V -> Option Bool):List V -> List V -> Option (List Bool)
 | [],[]=>some []
 | x::xs,y::ys=>match f x y,qDC f xs ys with
  | some b,some bs=>some (b::bs)
  | _,_=>none
 | _,_=>none
noncomputable def eqD (h:AH):Nat -> V -> V -> Option Bool
 | 0,x,y=>eqF x y
 | n + 1,.ref a,.ref b=>match h[a]?,h[b]? with
  | some (.lst _ xs),some (.lst _ ys)=>if a=b then some true else if xs.length=ys.length then (qDC (eqD h n) xs ys).map fun bs=>bs.all id else some false
  | some (.tup xs),some (.tup ys)=>if a=b then some true else if xs.length=ys.length then (qDC (eqD h n) xs ys).map fun bs=>bs.all id else (qDC (eqD h n) (xs.take ys.length) (ys.take xs.length)).map fun _=>false
  | some (.lst _ _),some (.tup _)=>some false
  | some (.tup _),some (.lst _ _)=>some false
  | _,_=>none
 | _ + 1,.ref a,y=>if (items h a).isSome&&qAq y then some false else none
 | _ + 1,x,.ref b=>if qAq x&&(items h b).isSome then some false else none
 | _ + 1,x,y=>eqF x y
noncomputable abbrev ixN (n:Nat) (i:Int):Option Nat:=L2.ixN n i
noncomputable abbrev cut (xs:List V) (lo hi:Option Int):List V:=L2.cutV xs lo hi
noncomputable def two64:Int:=18446744073709551616
noncomputable def small (i:Int):Bool:=decide (-two64 < i/\i < two64)
noncomputable def mid (i:Int):Bool:=decide (i.natAbs.log2 < 9000)
noncomputable def qDz (x y:V) (f:Int -> Int -> RV):RV:=match x with
 | .int i=>(match y with | .int j=>f i j | _=>.stuck)
 | _=>.stuck
theorem qAW {x y:V} {f:Int -> Int -> RV} {r:V×AH} (e:qDz x y f=.ok r):∃ i j,x=.int i/\y=.int j/\f i j=.ok r:=by
 unfold qDz at e
 split at e
 ·split at e
  ·exact ⟨_,_,rfl,rfl,e⟩
  ·cases e
 ·cases e
noncomputable def qFq (x:V) (f:Nat -> RV):RV:=match x with
 | .ref a=>f a
 | _=>.stuck
theorem qAi {x:V} {f:Nat -> RV} {r:V×AH} (e:qFq x f=.ok r):∃ a,x=.ref a/\f a=.ok r:=by
 unfold qFq at e
 split at e
 ·exact ⟨_,rfl,e⟩
 ·cases e
noncomputable def qHV:BOp -> V -> V -> AH -> RV
 | .add,x,y,h=>(match x with
  | .ref a=>qFq y fun b=>(match qAV h a,qAV h b with
   | some xs,some ys=>if xs.length + ys.length<=lim then newL (xs++ys) h else .stuck
   | _,_=>(match qAT h a,qAT h b with
    | some xs,some ys=>if xs≠[]/\xs.length + ys.length<=lim then (if ys=[] then .ok (.ref a,h) else newT (xs++ys) h) else .stuck
    | _,_=>.stuck))
  | x=>qDz x y fun i j=>.ok (.int (i + j),h))
 | .sub,x,y,h=>qDz x y fun i j=>.ok (.int (i - j),h)
 | .mul,x,y,h=>(match x with
  | .ref a=>(match y with
   | .int k=>(match qAV h a with
    | some xs=>if 0<=k/\xs.length * k.toNat<=lim/\k < 1000000 then newL (List.replicate k.toNat xs).flatten h else .stuck
    | none=>.stuck)
   | _=>.stuck)
  | x=>qDz x y fun i j=>if small i||small j||(mid i&&mid j) then .ok (.int (i * j),h) else .stuck)
 | .fdiv,x,y,h=>qDz x y fun i j=>if 0 < j/\(j < 1073741824\/mid j=true) then .ok (.int (i / j),h) else if j < 0/\mid j=true then .ok (.int (i.fdiv j),h) else .stuck
 | .mod,x,y,h=>qDz x y fun i j=>if 0 < j then .ok (.int (i % j),h) else if j < 0 then .ok (.int (i.fmod j),h) else .stuck
 | .pow,x,y,h=>qDz x y fun i j=>if 0<=j/\j<=1000/\i.natAbs < 18446744073709551616 then .ok (.int (i ^ j.toNat),h) else .stuck
 | .band,x,y,h=>qDz x y fun i j=>.ok (.int (PySem.Builtin.bitAnd i j),h)
 | .shl,x,y,h=>qDz x y fun i j=>if 0<=j/\j<=1000/\i.natAbs < 18446744073709551616 then .ok (.int (i * 2 ^ j.toNat),h) else .stuck
 | .shr,x,y,h=>qDz x y fun i j=>if 0<=j/\j<=1000 then .ok (.int (i / 2 ^ j.toNat),h) else .stuck
 | .bor,x,y,h=>qDz x y fun i j=>.ok (.int (PySem.Builtin.bitOr i j),h)
 | .bxor,x,y,h=>qDz x y fun i j=>.ok (.int (PySem.Builtin.bitXor i j),h)
noncomputable def qKI (x y:V) (f:Int -> Int -> Bool):Option Bool:=match x with
 | .int i=>(match y with | .int j=>some (f i j) | _=>none)
 | _=>none
theorem qCk {x y:V} {f:Int -> Int -> Bool} {r:Bool} (e:qKI x y f=some r):∃ i j,x=.int i/\y=.int j/\f i j=r:=by
 unfold qKI at e
 split at e
 ·split at e
  ·exact ⟨_,_,rfl,rfl,Option.some.inj e⟩
  ·cases e
 ·cases e
noncomputable def qJ6 (y:V) (f:Nat -> Option Bool):Option Bool:=match y with
 | .ref a=>f a
 | _=>none
theorem qFQ {y:V} {f:Nat -> Option Bool} {r:Bool} (e:qJ6 y f=some r):∃ a,y=.ref a/\f a=some r:=by
 unfold qJ6 at e
 split at e
 ·exact ⟨_,rfl,e⟩
 ·cases e
noncomputable def isC (x y:V) (f:Bool -> Bool):Option Bool:=match y with
 | .non=>some (f (decide (x=.non)))
 | .bl d=>(match x with | .bl c=>some (f (c==d)) | _=>none)
 | _=>none
theorem qGK {x y:V} {f:Bool -> Bool} {r:Bool} (e:isC x y f=some r):(y=.non/\f (decide (x=.non))=r)\/∃ c d,x=.bl c/\y=.bl d/\f (c==d)=r:=by
 unfold isC at e
 split at e
 ·exact .inl ⟨rfl,Option.some.inj e⟩
 ·split at e
  ·exact .inr ⟨_,_,rfl,rfl,Option.some.inj e⟩
  ·cases e
 ·cases e
noncomputable def qHQ:COp -> V -> V -> AH -> Option Bool
 | .lt,x,y,_=>qKI x y fun i j=>decide (i < j)
 | .le,x,y,_=>qKI x y fun i j=>decide (i<=j)
 | .gt,x,y,_=>qKI x y fun i j=>decide (j < i)
 | .ge,x,y,_=>qKI x y fun i j=>decide (j<=i)
 | .eq,x,y,h=>eqD h 4 x y
 | .ne,x,y,h=>(eqD h 4 x y).map (!·)
 | .inn,x,y,h=>qJ6 y fun a=>(match items h a with
  | some xs=>if qAq x&&xs.all qAq then some (xs.any fun y=>L2.eqV y x) else none
  | none=>match qDA h a with
   | some kvs=>(match x with | .int i=>some (qG6 kvs i) | _=>none)
   | none=>none)
 | .notin,x,y,h=>qJ6 y fun a=>(match items h a with
  | some xs=>if qAq x&&xs.all qAq then some (!(xs.any fun y=>L2.eqV y x)) else none
  | none=>none)
 | .is,x,y,_=>isC x y id
 | .isnot,x,y,_=>isC x y (!·)
noncomputable def qG3 (op:COp) (x y:V) (h:AH):RV:=match qHQ op x y h with
 | some b=>.ok (.bl b,h)
 | none=>.stuck
noncomputable def qBC:List V -> Option (List Int)
 | []=>some []
 | .int i::r=>(qBC r).map (i::·)
 | _::_=>none
noncomputable def qBs:List V -> Option (List Bool)
 | []=>some []
 | .bl b::r=>(qBs r).map (b::·)
 | _::_=>none
noncomputable def qBa:List V -> Option (List Int)
 | []=>some []
 | .int i::r=>(qBa r).map (i::·)
 | .bl b::r=>(qBa r).map ((if b=true then 1 else 0)::·)
 | _::_=>none
noncomputable def qAo (lo:Int) (n:Nat):List V:=(List.range n).map fun (i:Nat)=>V.int (lo + (i:Int))
noncomputable def qIT (is:List Int):Nat:=(is.foldl PyProof.Rows.step_dedup []).length
noncomputable def ins (x:Int):List Int -> List Int
 | []=>[x]
 | y::r=>if x<=y then x::y::r else y::ins x r
noncomputable def qD7:List Int -> List Int
 | []=>[]
 | x::r=>ins x (qD7 r)
theorem qDT (x:Int):∀ l,(ins x l).Perm (x::l)
 | []=>.refl _
 | y::r=>by
  unfold ins
  split
  ·exact .refl _
  ·exact ((qDT x r).cons y).trans (.swap x y r)
theorem qCU:∀ l,(qD7 l).Perm l
 | []=>.refl _
 | x::r=>(qDT x _).trans ((qCU r).cons x)
theorem qIg (x:Int):∀ l:List Int,l.Pairwise (·<=·) -> (ins x l).Pairwise (·<=·)
 | [],_=>List.pairwise_singleton _ _
 | y::r,h=>by
  obtain ⟨h1,h2⟩:=List.pairwise_cons.mp h
  unfold ins
  split
  ·rename_i q
   refine List.pairwise_cons.mpr ⟨fun z hz=>?_,h⟩
   rcases List.mem_cons.mp hz with rfl | hz
   ·exact q
   ·exact Int.le_trans q (h1 z hz)
  ·rename_i q
   refine List.pairwise_cons.mpr ⟨fun z hz=>?_,qIg x r h2⟩
   rcases List.mem_cons.mp ((qDT x r).mem_iff.mp hz) with rfl | hz
   ·omega
   ·exact h1 z hz
theorem qFi:∀ l:List Int,(qD7 l).Pairwise (·<=·)
 | []=>.nil
 | x::r=>qIg x _ (qFi r)
theorem qFc:∀ {a b:List Int},a.Pairwise (·<=·) -> b.Pairwise (·<=·) -> a.Perm b -> a=b
 | [],b,_,_,p=>(List.Perm.eq_nil p.symm).symm
 | x::a,[],_,_,p=>absurd p.length_eq (by simp)
 | x::a,y::b,ha,hb,p=>by
  obtain ⟨a1,a2⟩:=List.pairwise_cons.mp ha
  obtain ⟨b1,b2⟩:=List.pairwise_cons.mp hb
  have e:x=y:=by
   have m1:x∈y::b:=p.mem_iff.mp (List.mem_cons_self ..)
   have m2:y∈x::a:=p.mem_iff.mpr (List.mem_cons_self ..)
   rcases List.mem_cons.mp m1 with h | h
   ·exact h
   ·rcases List.mem_cons.mp m2 with h' | h'
    ·exact h'.symm
    ·have:=a1 y h'
     have:=b1 x h
     omega
  subst e
  rw [qFc a2 b2 (List.Perm.cons_inv p)]
noncomputable def one (as:List V) (f:V -> RV):RV:=match as with
 | [a]=>f a
 | _=>.stuck
theorem qA6 {as:List V} {f:V -> RV} {r:V×AH} (e:one as f=.ok r):∃ a,as=[a]/\f a=.ok r:=by
 unfold one at e
 split at e
 ·exact ⟨_,rfl,e⟩
 ·cases e
noncomputable def two (as:List V) (f:V -> V -> RV):RV:=match as with
 | [a,b]=>f a b
 | _=>.stuck
theorem two_inv {as:List V} {f:V -> V -> RV} {r:V×AH} (e:two as f=.ok r):∃ a b,as=[a,b]/\f a b=.ok r:=by
 unfold two at e
 split at e
 ·exact ⟨_,_,rfl,e⟩
 ·cases e
noncomputable def qHp:V -> Option PySem.PyData
 | .non=>some .none
 | .bl b=>some (.bool b)
 | .int i=>some (.int i)
 | .str x=>some (.str x)
 | _=>none
noncomputable def qFV (f:V -> Option PySem.PyData):List V -> Option (List PySem.PyData)
 | []=>some []
 | x::r=>(f x).bind fun d=>(qFV f r).map fun ds=>d::ds
noncomputable def dat (h:AH):Nat -> V -> Option PySem.PyData
 | 0,x=>qHp x
 | n + 1,x=>match x with
  | .ref a=>(match h[a]? with
   | some (.lst _ xs)=>(qFV (dat h n) xs).map .list
   | some (.tup xs)=>(qFV (dat h n) xs).map .tuple
   | _=>none)
  | y=>qHp y
noncomputable def qIN (d:PySem.PyData):Option V:=if d.showable=true/\d.shown.length<=PySem.sizeLine then some (.str d.shown) else none
noncomputable def qHU (h:AH) (x:V):Option PySem.PyData:=match x with
 | .ref a=>(match h[a]? with | some (.ob (.dct []))=>some (.dict []) | _=>dat h 3 (.ref a))
 | y=>qHp y
noncomputable def qKJ (h:AH) (x:V):Option PySem.PyData:=match x with
 | .ref a=>(match h[a]? with | some (.tup xs)=>(qFV (qHU h) xs).map .tuple | some (.ob (.dct []))=>some (.dict []) | _=>dat h 4 (.ref a))
 | y=>qHp y
noncomputable def qL2 (h:AH) (x:V):RV:=match (qKJ h x).bind qIN with
 | some v=>.ok (v,h)
 | none=>.stuck
noncomputable def qLt:BF -> List V -> AH -> RV
 | .len,as,h=>one as fun x=>qFq x fun a=>(match items h a with | some xs=>.ok (.int xs.length,h) | none=>.stuck)
 | .sum,as,h=>one as fun x=>qFq x fun a=>(match qAH h a with
  | some xs=>match qBa xs with | some is=>.ok (.int is.sum,h) | none=>.stuck
  | none=>.stuck)
 | .all,as,h=>one as fun x=>qFq x fun a=>(match qAH h a with
  | some xs=>match qBs xs with | some bs=>.ok (.bl (bs.all id),h) | none=>.stuck
  | none=>.stuck)
 | .any,as,h=>one as fun x=>qFq x fun a=>(match qAH h a with
  | some xs=>match qBs xs with | some bs=>.ok (.bl (bs.any id),h) | none=>.stuck
  | none=>.stuck)
 | .max,as,h=>two as fun x y=>qDz x y fun i j=>.ok (.int (if j > i then j else i),h)
 | .min,as,h=>two as fun x y=>qDz x y fun i j=>.ok (.int (if j < i then j else i),h)
 | .abs,as,h=>one as fun x=>(match x with | .int i=>.ok (.int (if i < 0 then -i else i),h) | _=>.stuck)
 | .list,as,h=>one as fun x=>qFq x fun a=>(match items h a with | some xs=>newL xs h | none=>.stuck)
 | .tuple,as,h=>one as fun x=>qFq x fun a=>(match h[a]? with | some (.lst _ xs)=>newT xs h | some (.tup _)=>.ok (.ref a,h) | _=>.stuck)
 | .int,as,h=>one as fun x=>(match x with | .int i=>.ok (.int i,h) | .bl b=>.ok (.int (if b then 1 else 0),h) | _=>.stuck)
 | .range,_,_=>.stuck
 | .bits,as,h=>one as fun x=>(match x with | .int i=>.ok (.int ((PySem.Builtin.Int.intBits i:Nat):Int),h) | _=>.stuck)
 | .repr,as,h=>one as fun x=>qL2 h x
 | .sorted,as,h=>one as fun x=>qFq x fun a=>(match qAH h a with
  | some xs=>match qBC xs with | some is=>if is.length < 64 then newL ((qD7 is).map V.int) h else .stuck | none=>.stuck
  | none=>.stuck)
noncomputable def E.isGlob:E -> Bool
 | .glob _=>true
 | _=>false
noncomputable def qJB (g:Bool) (h:AH) (a:Nat):Option (List V):=if g=true then qAT h a else qAH h a
noncomputable def qFM (g:Bool) (p:Nat) (y:V) (h:AH):RV:=match qJB g h p with
 | some xs=>if (qAq y&&xs.all qAq)=true then (match xs.findIdx? (fun z=>L2.eqV z y) with | some j=>.ok (.int j,h) | none=>.stuck) else .stuck
 | none=>.stuck
noncomputable def qBM:Mt -> Nat -> List V -> AH -> RV
 | .pop,p,[],h=>match qAV h p with
  | some xs=>match xs[xs.length - 1]? with | some y=>.ok (y,h.set p (.lst false xs.dropLast)) | none=>.stuck
  | none=>.stuck
 | .popAt,p,[.int i],h=>match qAV h p with
  | some xs=>if xs.length<=lim then (match ixN xs.length i with | some k=>(match xs[k]? with | some y=>.ok (y,h.set p (.lst false (xs.eraseIdx k))) | none=>.stuck) | none=>.stuck) else .stuck
  | none=>.stuck
 | .rev,p,[],h=>match qAV h p with | some xs=>.ok (.non,h.set p (.lst false xs.reverse)) | none=>.stuck
 | .clr,p,[],h=>match qAV h p with | some _=>.ok (.non,h.set p (.lst false [])) | none=>.stuck
 | .rem,p,[.int i],h=>match qAV h p with
  | some xs=>if xs.length<=lim then (match (qBC xs).bind fun is=>is.findIdx? (·==i) with | some k=>.ok (.non,h.set p (.lst false (xs.eraseIdx k))) | none=>.stuck) else .stuck
  | none=>.stuck
 | .cnt,p,[y],h=>match qAV h p with
  | some xs=>if (qAq y&&xs.all qAq)=true then .ok (.int (xs.countP fun z=>L2.eqV z y),h) else .stuck
  | none=>.stuck
 | .ext,p,[.ref q],h=>match qAV h p with
  | some xs=>(match qAV h q with | some ys=>if p≠q/\xs.length + ys.length<=lim then .ok (.non,h.set p (.lst false (xs++ys))) else .stuck | none=>.stuck)
  | none=>.stuck
 | _,_,_,_=>.stuck
noncomputable def qBO (h:AH):V -> Option String
 | .non=>some "NoneType"
 | .bl _=>some "bool"
 | .int _=>some "int"
 | .str _=>some "str"
 | .ref a=>match h[a]? with | some (.lst _ _)=>some "list" | some (.tup _)=>some "tuple" | some (.ob (.dct _))=>some "dict" | _=>none
 | _=>none
noncomputable def qBw (t c:String):Bool:=t==c||(t=="bool"&&c=="int")
inductive Src | list (a:Nat) | tupl (a:Nat) | rng (lo:Int) (n:Nat) | zip (a b:Nat) | enum (a:Nat) | rvd (a n:Nat) | rngd (lo:Int) (n:Nat)
noncomputable def qFU (h:AH):Src -> Option Nat
 | .list a=>(qAH h a).map List.length
 | .tupl a=>(qAT h a).map List.length
 | .rng _ n=>some n
 | .zip a b=>match qAH h a,qAH h b with | some xs,some ys=>some (min xs.length ys.length) | _,_=>none
 | .enum a=>(qAH h a).map List.length
 | .rvd _ n=>some n
 | .rngd _ n=>some n
noncomputable def qAa (h:AH) (i:Nat):Src -> Option (V×AH)
 | .list a=>match qAH h a with | some xs=>xs[i]?.map fun x=>(x,h) | none=>none
 | .tupl a=>match qAT h a with | some xs=>xs[i]?.map fun x=>(x,h) | none=>none
 | .rng lo n=>if i < n then some (.int (lo + (i:Int)),h) else none
 | .zip a b=>match qAH h a,qAH h b with
  | some xs,some ys=>match xs[i]?,ys[i]? with | some x,some y=>some (.ref h.length,h++[.tup [x,y]]) | _,_=>none
  | _,_=>none
 | .enum a=>match qAH h a with | some xs=>xs[i]?.map fun x=>(.ref h.length,h++[.tup [.int (i:Int),x]]) | none=>none
 | .rvd a n=>if i < n then (match qAH h a with | some xs=>xs[n - 1 - i]?.map fun x=>(x,h) | none=>none) else none
 | .rngd lo n=>if i < n then some (.int (lo - (i:Int)),h) else none
noncomputable def qBZ (h:AH) (i:Nat):Src -> Bool
 | .list a=>match qAH h a with | some xs=>decide (xs.length<=i) | none=>false
 | .tupl a=>match qAT h a with | some xs=>decide (xs.length<=i) | none=>false
 | .rng _ n=>decide (n<=i)
 | .zip a b=>match qAH h a,qAH h b with | some xs,some ys=>decide (xs.length<=i\/ys.length<=i) | _,_=>false
 | .enum a=>match qAH h a with | some xs=>decide (xs.length<=i) | none=>false
 | .rvd _ n=>decide (i=n)
 | .rngd _ n=>decide (n<=i)
noncomputable def qDM:List Nat -> List V -> St -> Option St
 | [],[],σ=>some σ
 | i::is,x::xs,σ=>qDM is xs (σ.set i (some x))
 | _,_,_=>none
noncomputable def store:Tg -> V -> St -> AH -> Option St
 | .name i,v,σ,_=>some (σ.set i (some v))
 | .tup is,.ref a,σ,h=>match qAT h a with | some xs=>qDM is xs σ | none=>none
 | .tup _,_,_,_=>none
noncomputable def qEQ (s:Src) (g:Tg) (c:St -> AH -> Res (Bool×AH)) (e:St -> AH -> RV) (D:Nat):Nat -> Nat -> List V -> St -> AH -> RV
 | 0,i,_,_,h=>if qBZ h i s then .ok (.ref D,h) else .stuck
 | n + 1,i,ys,σ,h=>match qAa h i s with
  | some (x,h1)=>match store g x σ h1 with
   | some σ1=>(c σ1 h1).bind fun (b,h2)=>
    if b then (e σ1 h2).bind fun (y,h3)=>if h3[D]?=some (.lst false ys)/\ys.length < lim then qEQ s g c e D n (i + 1) (ys++[y]) σ1 (h3.set D (.lst false (ys++[y]))) else .stuck
    else if h2[D]?=some (.lst false ys) then qEQ s g c e D n (i + 1) ys σ1 h2 else .stuck
   | none=>.stuck
  | none=>.stuck
noncomputable def asB (r:RV):Res (Bool×AH):=r.bind fun (v,h)=>match v with | .bl b=>.ok (b,h) | _=>.stuck
section
variable (F:Nat -> List V -> AH -> RV)
mutual
noncomputable def ev:E -> St -> AH -> RV
 | .var i=>fun σ h=>match σ[i]? with | some (some v)=>.ok (v,h) | _=>.stuck
 | .cst v=>fun _ h=>.ok (v,h)
 | .glob g=>fun _ h=>.ok (.ref g,h)
 | .bin op a b=>fun σ h=>(ev a σ h).bind fun (x,h1)=>(ev b σ h1).bind fun (y,h2)=>qHV op x y h2
 | .neg a=>fun σ h=>(ev a σ h).bind fun (x,h1)=>match x with | .int i=>.ok (.int (-i),h1) | _=>.stuck
 | .cmp op a b=>fun σ h=>(ev a σ h).bind fun (x,h1)=>(ev b σ h1).bind fun (y,h2)=>qG3 op x y h2
 | .cmp2 o1 o2 a b c=>fun σ h=>(ev a σ h).bind fun (x,h1)=>(ev b σ h1).bind fun (y,h2)=>match qHQ o1 x y h2 with
  | some true=>(ev c σ h2).bind fun (z,h3)=>qG3 o2 y z h3
  | some false=>.ok (.bl false,h2)
  | none=>.stuck
 | .cmp3 o1 o2 o3 a b c d=>fun σ h=>(ev a σ h).bind fun (x,h1)=>(ev b σ h1).bind fun (y,h2)=>match qHQ o1 x y h2 with
  | some true=>(ev c σ h2).bind fun (z,h3)=>match qHQ o2 y z h3 with
   | some true=>(ev d σ h3).bind fun (w,h4)=>qG3 o3 z w h4
   | some false=>.ok (.bl false,h3)
   | none=>.stuck
  | some false=>.ok (.bl false,h2)
  | none=>.stuck
 | .and a b=>fun σ h=>(asB (ev a σ h)).bind fun (x,h1)=>if x then ev b σ h1 else .ok (.bl false,h1)
 | .or a b=>fun σ h=>(asB (ev a σ h)).bind fun (x,h1)=>if x then .ok (.bl true,h1) else ev b σ h1
 | .not a=>fun σ h=>(asB (ev a σ h)).bind fun (x,h1)=>.ok (.bl (!x),h1)
 | .ite c a b=>fun σ h=>(asB (ev c σ h)).bind fun (x,h1)=>if x then ev a σ h1 else ev b σ h1
 | .call f as=>fun σ h=>(evs as σ h).bind fun (xs,h1)=>(F f xs h1).nx
 | .blt f as=>fun σ h=>(evs as σ h).bind fun (xs,h1)=>qLt f xs h1
 | .isi a ts=>fun σ h=>(ev a σ h).bind fun (x,h1)=>match qBO h1 x with | some t=>.ok (.bl (ts.any (qBw t)),h1) | none=>.stuck
 | .idx a b=>fun σ h=>(ev a σ h).bind fun (x,h1)=>(ev b σ h1).bind fun (y,h2)=>match x,y with
  | .ref p,.int i=>match items h2 p with
   | some xs=>match (ixN xs.length i).bind fun j=>xs[j]? with | some v=>.ok (v,h2) | none=>.stuck
   | none=>.stuck
  | _,_=>.stuck
 | .index a b=>fun σ h=>(ev a σ h).bind fun (x,h1)=>qFq x fun p=>(match qJB a.isGlob h1 p with
  | some _=>(ev b σ h1).bind fun (y,h2)=>qFM a.isGlob p y h2
  | none=>.stuck)
 | .rev a=>fun σ h=>(ev a σ h).bind fun (x,h1)=>qFq x fun p=>(match qAH h1 p with | some xs=>newL xs.reverse h1 | none=>.stuck)
 | .sl a lo hi=>fun σ h=>(ev a σ h).bind fun (x,h1)=>(evs lo σ h1).bind fun (l,h2)=>(evs hi σ h2).bind fun (u,h3)=>
  match x,qBC l,qBC u with
  | .ref p,some l,some u=>match qAH h3 p with
   | some xs=>newL (cut xs l.head? u.head?) h3
   | none=>match qAT h3 p with
    | some xs=>if HT.sIx xs.length 0 l.head?=0/\HT.sIx xs.length xs.length u.head?=xs.length then .stuck else newT (cut xs l.head? u.head?) h3
    | none=>.stuck
  | _,_,_=>.stuck
 | .lst as=>fun σ h=>(evs as σ h).bind fun (xs,h1)=>if xs.length<=lim then newL xs h1 else .stuck
 | .tup as=>fun σ h=>(evs as σ h).bind fun (xs,h1)=>if xs.length<=lim then newT xs h1 else .stuck
 | .comp it src g c e=>fun σ h=>(evi it σ h).bind fun (s,h1)=>match qFU (h1++[.lst false []]) s with
  | some n=>qEQ s g (evc c) (ev e) h1.length n 0 [] (L2.inner src σ) (h1++[.lst false []])
  | none=>.stuck
 | .app a b=>fun σ h=>(ev a σ h).bind fun (x,h1)=>match x with
  | .ref p=>(match qAH h1 p with
   | some _=>(ev b σ h1).bind fun (y,h2)=>match qAV h2 p with
    | some xs=>if xs.length < lim then .ok (.non,h2.set p (.lst false (xs++[y]))) else .stuck
    | none=>.stuck
   | none=>.stuck)
  | _=>.stuck
 | .nset a=>fun σ h=>(ev a σ h).bind fun (x,h1)=>match x with | .ref p=>(match qAH h1 p with | some ys=>(match qBC ys with | some is=>if is.length < 1000 then .ok (.int ((qIT is:Nat):Int),h1) else .stuck | none=>.stuck) | none=>.stuck) | _=>.stuck
 | .lrng2 a b=>fun σ h=>(ev a σ h).bind fun (x,h1)=>(ev b σ h1).bind fun (y,h2)=>qDz x y fun i j=>if -1000000<=i/\-1000000<=j/\i<=100000/\j<=100000/\j - i<=100000 then newL (qAo i (j - i).toNat) h2 else .stuck
 | .lrng a=>fun σ h=>(ev a σ h).bind fun (x,h1)=>match x with | .int j=>if -1000000<=j/\j<=100000 then newL (qAo 0 j.toNat) h1 else .stuck | _=>.stuck
 | .dnew=>fun _ h=>.ok (.ref h.length,h++[.ob (.dct [])])
 | .stp a e=>fun σ h=>(ev a σ h).bind fun (x,h1)=>(ev e σ h1).bind fun (y,h2)=>(match x,y with
  | .ref p,.int i=>(match qAH h2 p with | some xs=>if i=1 then newL xs h2 else if i=-1 then newL xs.reverse h2 else .stuck | none=>.stuck)
  | _,_=>.stuck)
 | .meth m a as=>fun σ h=>(ev a σ h).bind fun (x,h1)=>match x with
  | .ref p=>(match qAH h1 p with
   | some _=>(evs as σ h1).bind fun (ys,h2)=>qBM m p ys h2
   | none=>.stuck)
  | _=>.stuck
noncomputable def evs:Es -> St -> AH -> Res (List V×AH)
 | .nil=>fun _ h=>.ok ([],h)
 | .cons a as=>fun σ h=>(ev a σ h).bind fun (x,h1)=>(evs as σ h1).bind fun (xs,h2)=>.ok (x::xs,h2)
noncomputable def evc:Es -> St -> AH -> Res (Bool×AH)
 | .nil=>fun _ h=>.ok (true,h)
 | .cons a _=>fun σ h=>asB (ev a σ h)
noncomputable def evi:Itr -> St -> AH -> Res (Src×AH)
 | .list a=>fun σ h=>(ev a σ h).bind fun (x,h1)=>match x with | .ref p=>(match h1[p]? with | some (.lst _ _)=>.ok (.list p,h1) | some (.tup _)=>.ok (.tupl p,h1) | _=>.stuck) | _=>.stuck
 | .rng1 a=>fun σ h=>(ev a σ h).bind fun (x,h1)=>match x with | .int j=>if -1000000<=j/\j<=1000000 then .ok (.rng 0 j.toNat,h1) else .stuck | _=>.stuck
 | .rng2 a b=>fun σ h=>(ev a σ h).bind fun (x,h1)=>(ev b σ h1).bind fun (y,h2)=>match x,y with
  | .int i,.int j=>if (-1000000<=i/\i<=1000000)/\-1000000<=j/\j<=1000000 then .ok (.rng i (j - i).toNat,h2) else .stuck
  | _,_=>.stuck
 | .zip a b=>fun σ h=>(ev a σ h).bind fun (x,h1)=>(ev b σ h1).bind fun (y,h2)=>match x,y with
  | .ref p,.ref q=>match qAH h2 p,qAH h2 q with | some _,some _=>.ok (.zip p q,h2) | _,_=>.stuck
  | _,_=>.stuck
 | .enum a=>fun σ h=>(ev a σ h).bind fun (x,h1)=>match x with | .ref p=>(match qAH h1 p with | some _=>.ok (.enum p,h1) | none=>.stuck) | _=>.stuck
 | .revd a=>fun σ h=>(ev a σ h).bind fun (x,h1)=>match x with | .ref p=>(match qAH h1 p with | some xs=>.ok (.rvd p xs.length,h1) | none=>.stuck) | _=>.stuck
 | .rvr a=>fun σ h=>(ev a σ h).bind fun (x,h1)=>match x with
  | .int j=>if 0<=j/\j<=1000000 then .ok (.rngd (j - 1) j.toNat,h1) else .stuck
  | _=>.stuck
 | .rng3 a b=>fun σ h=>(ev a σ h).bind fun (x,h1)=>(ev b σ h1).bind fun (y,h2)=>match x,y with
  | .int i,.int j=>if (-1000000<=i/\i<=1000000)/\-1000000<=j/\j<=1000000 then .ok (.rngd i (i - j).toNat,h2) else .stuck
  | _,_=>.stuck
end
inductive Out | nx (σ:St) | rt (v:V) | bk (σ:St) | ct (σ:St)
noncomputable abbrev RS:=Res (Out×AH)
noncomputable def qFe (s:Src) (g:Tg) (b:St -> AH -> RS):Nat -> Nat -> St -> AH -> RS
 | 0,i,σ,h=>if qBZ h i s then .ok (.nx σ,h) else .stuck
 | n + 1,i,σ,h=>match qAa h i s with
  | some (x,h1)=>match store g x σ h1 with
   | some σ1=>(b σ1 h1).bind fun (o,h2)=>match o with
    | .nx σ2=>qFe s g b n (i + 1) σ2 h2
    | .ct σ2=>qFe s g b n (i + 1) σ2 h2
    | .bk σ2=>.ok (.nx σ2,h2)
    | .rt v=>.ok (.rt v,h2)
   | none=>.stuck
  | none=>.stuck
noncomputable def qCA (c:St -> AH -> Res (Bool×AH)) (b:St -> AH -> RS):Nat -> St -> AH -> RS
 | 0,_,_=>.stuck
 | n + 1,σ,h=>(c σ h).bind fun (t,h1)=>if t then (b σ h1).bind fun (o,h2)=>match o with
   | .nx σ2=>qCA c b n σ2 h2
   | .ct σ2=>qCA c b n σ2 h2
   | .bk σ2=>.ok (.nx σ2,h2)
   | .rt v=>.ok (.rt v,h2)
  else .ok (.nx σ,h1)
noncomputable def qNw (u x f i:Nat):E:=.or (.not (.call f (.cons (.var i) (.cons (.var x) .nil)))) (.or (.cmp .inn (.idx (.var x) (.cst (.int 0))) (.var u)) (.cmp .inn (.idx (.var x) (.cst (.int 1))) (.var u)))
noncomputable def qJt (F:Nat -> List V -> AH -> RV) (u x:Nat) (k:Int) (σ:St) (h:AH):RS:=(ev F (.cst (.bl true)) σ h).bind fun (x1,h1)=>(ev F (.var u) σ h1).bind fun (p,h2)=>(ev F (.idx (.var x) (.cst (.int k))) σ h2).bind fun (k,h3)=>match p,k with
  | .ref a,.int k=>match qAV h3 a with
   | some xs=>match ixN xs.length k with | some j=>.ok (.nx σ,h3.set a (.lst false (xs.set j x1))) | none=>.stuck
   | none=>match qDA h3 a with
    | some kvs=>if qAq x1=true/\kvs.length < lim then .ok (.nx σ,h3.set a (.ob (.dct (qC9 kvs k x1)))) else .stuck
    | none=>.stuck
  | _,_=>.stuck
noncomputable def qEu (r:RS) (k:St -> AH -> RS):RS:=r.bind fun (o,h1)=>match o with
  | .nx σ1=>k σ1 h1
  | o=>.ok (o,h1)
noncomputable def qBx (F:Nat -> List V -> AH -> RV) (u x f i:Nat) (σ:St) (h:AH):RS:=qEu ((asB (ev F (qNw u x f i) σ h)).bind fun (b,h1)=>if b then qEu ((ev F (.cst (.bl false)) σ h1).bind fun (y,h2)=>.ok (.rt y,h2)) (fun σ h=>.ok (.nx σ,h)) else .ok (.nx σ,h1)) fun σ h=>qEu (qJt F u x 0 σ h) fun σ h=>qEu (qJt F u x 1 σ h) fun σ h=>.ok (.nx σ,h)
noncomputable def qK6:Nat:=1000000
mutual
noncomputable def ex:S -> St -> AH -> RS
 | .asg g e=>fun σ h=>(ev F e σ h).bind fun (x,h1)=>match store g x σ h1 with | some σ1=>.ok (.nx σ1,h1) | none=>.stuck
 | .par i j a b=>fun σ h=>(ev F a σ h).bind fun (x,h1)=>(ev F b σ h1).bind fun (y,h2)=>.ok (.nx ((σ.set i (some x)).set j (some y)),h2)
 | .put o i v=>fun σ h=>(ev F v σ h).bind fun (x,h1)=>(ev F o σ h1).bind fun (p,h2)=>(ev F i σ h2).bind fun (k,h3)=>match p,k with
  | .ref a,.int k=>match qAV h3 a with
   | some xs=>match ixN xs.length k with | some j=>.ok (.nx σ,h3.set a (.lst false (xs.set j x))) | none=>.stuck
   | none=>match qDA h3 a with
    | some kvs=>if qAq x=true/\kvs.length < lim then .ok (.nx σ,h3.set a (.ob (.dct (qC9 kvs k x)))) else .stuck
    | none=>.stuck
  | _,_=>.stuck
 | .expr e=>fun σ h=>(ev F e σ h).bind fun (_,h1)=>.ok (.nx σ,h1)
 | .ret e=>fun σ h=>(ev F e σ h).bind fun (x,h1)=>.ok (.rt x,h1)
 | .retN=>fun _ h=>.ok (.rt .non,h)
 | .retc as e=>fun σ h=>(ev F (.tup (as.snoc e)) σ h).bind fun (x,h1)=>.ok (.rt x,h1)
 | .ifs c t u=>fun σ h=>(asB (ev F c σ h)).bind fun (x,h1)=>if x then exs t σ h1 else exs u σ h1
 | .for_ g it b=>fun σ h=>(evi F it σ h).bind fun (s,h1)=>match qFU h1 s with
  | some n=>qFe s g (exs b) n 0 σ h1
  | none=>.stuck
 | .while_ c b=>fun σ h=>qCA (fun σ h=>asB (ev F c σ h)) (exs b) qK6 σ h
 | .pass=>fun σ h=>.ok (.nx σ,h)
 | .brk=>fun σ h=>.ok (.bk σ,h)
 | .cont=>fun σ h=>.ok (.ct σ,h)
 | .stop=>fun _ _=>.stuck
 | .nloop u x f i a=>fun σ h=>(evi F (.list a) (σ.set u (some (.ref h.length))) (h++[.ob (.dct [])])).bind fun (s,h1)=>match qFU h1 s with
  | some n=>qFe s (.name x) (qBx F u x f i) n 0 (σ.set u (some (.ref h.length))) h1
  | none=>.stuck
noncomputable def exs:Ss -> St -> AH -> RS
 | .nil=>fun σ h=>.ok (.nx σ,h)
 | .cons s r=>fun σ h=>(ex s σ h).bind fun (o,h1)=>match o with
  | .nx σ1=>exs r σ1 h1
  | o=>.ok (o,h1)
end
end
structure Fn where
 npar:Nat
 nslot:Nat
 body:Ss
noncomputable def Fk (tb:List Fn):Nat -> Nat -> List V -> AH -> RV
 | 0,_,_,_=>.stuck
 | k + 1,f,vs,h=>match tb[f]? with
  | some d=>if vs.length=d.npar/\d.npar<=d.nslot then (exs (Fk tb k) d.body (vs.map some++List.replicate (d.nslot - d.npar) none) h).bind fun (o,h1)=>match o with
    | .nx _=>.ok (.non,h1)
    | .rt v=>.ok (v,h1)
    | _=>.stuck
   else .stuck
  | none=>.stuck
end PI
namespace PI
open PySem PySem.Spec PyProof.Rows
open L2 (V Hp HO Cx PE PT PA PS PSs TE TT TA TS VK upd qAL qAJ SqL SqT qEk)
noncomputable def rv (φ:List Addr):V -> V -> Prop
 | .ref i,.ref a=>φ[i]?=some a
 | .non,.non=>True
 | .bl b,.bl c=>b=c
 | .int i,.int j=>i=j
 | .str x,.str y=>x=y
 | _,_=>False
noncomputable abbrev rvs (φ:List Addr):List V -> List V -> Prop:=Paired (rv φ)
noncomputable def ropt (φ:List Addr):Option V -> Option V -> Prop
 | some v,oc=>∃ w,oc=some w/\rv φ v w
 | none,_=>True
noncomputable abbrev rst (φ:List Addr):St -> St -> Prop:=Paired (ropt φ)
noncomputable def Ext (φ φ':List Addr):Prop:=∃ r,φ'=φ++r
theorem Ext.refl (φ:List Addr):Ext φ φ:=⟨[],by simp⟩
theorem Ext.trans {a b c:List Addr} (h:Ext a b) (g:Ext b c):Ext a c:=by
 obtain ⟨r,rfl⟩:=h
 obtain ⟨q,rfl⟩:=g
 exact ⟨r++q,by simp⟩
theorem Ext.get {φ φ':List Addr} (x:Ext φ φ') {i:Nat} {a:Addr} (h:φ[i]?=some a):φ'[i]?=some a:=by
 obtain ⟨r,rfl⟩:=x
 rw [List.getElem?_append_left (List.getElem?_eq_some_iff.mp h).1]
 exact h
theorem rv.mono {φ φ':List Addr} (x:Ext φ φ'):∀ {v w:V},rv φ v w -> rv φ' v w
 | .ref i,.ref a,h=>x.get h
 | .non,.non,h=>h
 | .bl _,.bl _,h=>h
 | .int _,.int _,h=>h
 | .str _,.str _,h=>h
 | .byt _,_,h=>by cases h
 | .flt _,_,h=>by cases h
 | .ty _,_,h=>by cases h
theorem rvs.mono {φ φ':List Addr} (x:Ext φ φ') {vs ws:List V} (h:rvs φ vs ws):rvs φ' vs ws:=L2.Paired.mapP h fun _ _ r=>rv.mono x r
theorem ropt.mono {φ φ':List Addr} (x:Ext φ φ'):∀ {v w:Option V},ropt φ v w -> ropt φ' v w
 | some v,oc,h=>by obtain ⟨w,e,r⟩:=h;exact ⟨w,e,rv.mono x r⟩
 | none,_,_=>trivial
theorem rst.mono {φ φ':List Addr} (x:Ext φ φ') {σ τ:St} (h:rst φ σ τ):rst φ' σ τ:=L2.Paired.mapP h fun _ _ r=>ropt.mono x r
theorem qAF {α β:Type} {R:α -> β -> Prop}:∀ {xs:List α} {ys:List β} {i:Nat} {x:α},Paired R xs ys -> xs[i]?=some x -> ∃ y,ys[i]?=some y/\R x y
 | _,_,_,_,.nil,e=>by simp at e
 | _,_,0,_,.cons r _,e=>by simp at e;subst e;exact ⟨_,rfl,r⟩
 | _,_,i + 1,x,.cons _ t,e=>by
  obtain ⟨u,h1,h2⟩:=qAF (i:=i) (x:=x) t (by simpa using e)
  exact ⟨u,by simpa using h1,h2⟩
theorem qAl {α β:Type} {R:α -> β -> Prop} {x:α} {u:β} (r:R x u):∀ {xs:List α} {us:List β} (i:Nat),Paired R xs us -> Paired R (xs.set i x) (us.set i u)
 | _,_,_,.nil=>.nil
 | _,_,0,.cons _ t=>.cons r t
 | _,_,i + 1,.cons q t=>.cons q (qAl r i t)
theorem qAG {α β:Type} {R:α -> β -> Prop}:∀ {xs ys:List α} {us ws:List β},Paired R xs us -> Paired R ys ws -> Paired R (xs++ys) (us++ws)
 | _,_,_,_,.nil,s=>s
 | _,_,_,_,.cons r t,s=>.cons r (qAG t s)
theorem qAk {α β:Type} {R:α -> β -> Prop}:∀ {xs:List α} {us:List β} (n:Nat),Paired R xs us -> Paired R (xs.take n) (us.take n)
 | _,_,0,_=>.nil
 | _,_,_ + 1,.nil=>.nil
 | _,_,n + 1,.cons r t=>.cons r (qAk n t)
theorem qBJ {α β:Type} {R:α -> β -> Prop}:∀ {xs:List α} {us:List β} (n:Nat),Paired R xs us -> Paired R (xs.drop n) (us.drop n)
 | _,_,0,r=>r
 | _,_,_ + 1,.nil=>.nil
 | _,_,n + 1,.cons _ t=>qBJ n t
theorem qDE {α β:Type} {R:α -> β -> Prop} {xs:List α} {us:List β} (h:Paired R xs us):∀ k:Nat,Paired R (List.replicate k xs).flatten (List.replicate k us).flatten
 | 0=>.nil
 | k + 1=>by
  rw [List.replicate_succ,List.replicate_succ,List.flatten_cons,List.flatten_cons]
  exact qAG h (qDE h k)
noncomputable def kk (p:Int×V):L2.Key×V:=(.inl p.1,p.2)
noncomputable def O.mu:O -> Bool
 | .lst false _=>true | .ob (.dct _)=>true | _=>false
noncomputable def exP (a C:Addr):Heap -> Prop:=fun h=>∃ o,h.get? a=some o/\o.cls=.ref C
noncomputable def ro (K:PySem.W.Frag) (φ:List Addr) (H:Hp) (a:Addr):O -> Prop
 | .lst false xs=>∃ ys,H a=some (.lst ys)/\rvs φ xs ys
 | .lst true xs=>∃ ys,((∃ o,H a=some (.frz o (.lst ys)))\/SqL K (fun _=>none) a ys)/\rvs φ xs ys
 | .tup xs=>∃ ys,SqT K H a ys/\rvs φ xs ys
 | .ob (.dct kvs)=>H a=some (.dK (kvs.map kk))
 | .ob (.exn x)=>∃ C,PySem.W.nsIn K mainGlobals x=some (some (.ref C))/\H a=some (.ext (exP a C))
structure Rl (K:PySem.W.Frag) (G:List Addr) (φ:List Addr) (h:AH) (H:Hp):Prop where
 len:φ.length=h.length
 glob:Ext G φ
 obj:∀ (i:Nat) o a,h[i]?=some o -> φ[i]?=some a -> ro K φ H a o
 inj:∀ (i j:Nat) x y a,x.mu=true -> y.mu=true -> h[i]?=some x -> h[j]?=some y -> φ[i]?=some a -> φ[j]?=some a -> i=j
section
variable {K:PySem.W.Frag} {G φ φ':List Addr} {h:AH} {H H':Hp} {a b p:Addr}
theorem qHn {xs:List V} (s:qEk H H') (q:SqT K H a xs):SqT K H' a xs:=by
 rcases q with (h | ⟨o,h⟩) | h
 ·exact .inl (.inl (s _ _ h))
 ·exact .inl (.inr ⟨o,s _ _ h⟩)
 ·exact .inr h
theorem qHk {xs:List V} (q:SqL K (fun _=>none) a xs):SqL K H a xs:=by
 rcases q with (h | ⟨o,h⟩) | h
 ·cases h
 ·cases h
 ·exact .inr h
theorem qBf {o:HO} (hp:H p=none):qEk H (upd H p o):=fun b u e=>by rw [qAJ (L2.ne_of_none e hp)];exact e
theorem ro.keep {o:O} (x:Ext φ φ') (s:qEk H H') (r:ro K φ H a o):ro K φ' H' a o:=by
 match o,r with
 | .lst false xs,⟨ys,e,r⟩=>exact ⟨ys,s _ _ e,rvs.mono x r⟩
 | .lst true xs,⟨ys,.inl ⟨o,e⟩,r⟩=>exact ⟨ys,.inl ⟨o,s _ _ e⟩,rvs.mono x r⟩
 | .lst true xs,⟨ys,.inr e,r⟩=>exact ⟨ys,.inr e,rvs.mono x r⟩
 | .tup xs,⟨ys,e,r⟩=>exact ⟨ys,qHn s e,rvs.mono x r⟩
 | .ob (.dct _),e=>exact s _ _ e
 | .ob (.exn _),⟨C,e1,e2⟩=>exact ⟨C,e1,s _ _ e2⟩
noncomputable def Wr (w:HO):Prop:=(∃ zs,w=.lst zs)\/∃ ks,w=.dK ks
theorem ro.wr {o:O} (m:o.mu=true) (r:ro K φ H a o):∃ w,H a=some w/\Wr w:=by
 match o,m,r with
 | .lst false xs,_,⟨ys,e,r⟩=>exact ⟨_,e,.inl ⟨_,rfl⟩⟩
 | .ob (.dct _),_,e=>exact ⟨_,e,.inr ⟨_,rfl⟩⟩
theorem Wr.ne {w v:HO} (h:Wr w) (e:H a=some v) (hb:H b=some w) (h1:∀ zs,v≠.lst zs) (h2:∀ ks,v≠.dK ks):a≠b:=fun z=>by
 subst z
 rw [e] at hb;cases hb
 rcases h with ⟨zs,rfl⟩ | ⟨ks,rfl⟩
 ·exact h1 _ rfl
 ·exact h2 _ rfl
theorem ro.other {o:O} {w w':HO} (hw:Wr w) (hb:H b=some w) (hne:o.mu=true -> a≠b) (r:ro K φ H a o):ro K φ (upd H b w') a o:=by
 match o,r with
 | .lst false xs,⟨ys,e,r⟩=>exact ⟨ys,by rw [qAJ (hne rfl)];exact e,r⟩
 | .lst true xs,⟨ys,.inl ⟨o,e⟩,r⟩=>exact ⟨ys,.inl ⟨o,by rw [qAJ (hw.ne e hb (fun _ z=>by cases z) (fun _ z=>by cases z))];exact e⟩,r⟩
 | .lst true xs,⟨ys,.inr e,r⟩=>exact ⟨ys,.inr e,r⟩
 | .tup xs,⟨ys,e,r⟩=>
  refine ⟨ys,?_,r⟩
  rcases e with (h | ⟨o,h⟩) | h
  ·exact .inl (.inl (by rw [qAJ (hw.ne h hb (fun _ z=>by cases z) (fun _ z=>by cases z))];exact h))
  ·exact .inl (.inr ⟨o,by rw [qAJ (hw.ne h hb (fun _ z=>by cases z) (fun _ z=>by cases z))];exact h⟩)
  ·exact .inr h
 | .ob (.dct _),e=>exact (by show upd H b _ a=_;rw [qAJ (hne rfl)];exact e)
 | .ob (.exn _),⟨C,e1,e2⟩=>exact ⟨C,e1,by rw [qAJ (hw.ne e2 hb (fun _ z=>by cases z) (fun _ z=>by cases z))];exact e2⟩
theorem Rl.at (R:Rl K G φ h H) {i:Nat} {o:O} (e:h[i]?=some o):∃ a,φ[i]?=some a/\ro K φ H a o:=by
 have hi:i < φ.length:=by rw [R.len];exact (List.getElem?_eq_some_iff.mp e).1
 exact ⟨φ[i],List.getElem?_eq_getElem hi,R.obj i o _ e (List.getElem?_eq_getElem hi)⟩
theorem Rl.new (R:Rl K G φ h H) (hp:H p=none) {o:O} {ob:HO} (n:ro K (φ++[p]) (upd H p ob) p o):Rl K G (φ++[p]) (h++[o]) (upd H p ob):=by
 have x:Ext φ (φ++[p]):=⟨[p],rfl⟩
 refine ⟨by simp [R.len],R.glob.trans x,fun i u a e1 e2=>?_,fun i j xs ys a m1 m2 e1 e2 e3 e4=>?_⟩
 ·by_cases hi:i < h.length
  ·rw [List.getElem?_append_left hi] at e1
   rw [List.getElem?_append_left (by rw [R.len];exact hi)] at e2
   exact (R.obj i u a e1 e2).keep x (qBf hp)
  ·have hi':i=h.length:=by
    have:=(List.getElem?_eq_some_iff.mp e1).1
    simp at this
    omega
   subst hi'
   simp at e1
   rw [<- R.len] at e2
   simp at e2
   subst e1 e2
   exact n
 ·have lt:∀ {k:Nat} {z:O},(h++[o])[k]?=some z -> (h[k]?=some z/\k < h.length)\/k=h.length:=fun {k zs} e=>by
   by_cases hk:k < h.length
   ·rw [List.getElem?_append_left hk] at e
    exact .inl ⟨e,hk⟩
   ·have:=(List.getElem?_eq_some_iff.mp e).1
    simp at this
    exact .inr (by omega)
  have old:∀ {k:Nat} {b:Addr},k < h.length -> (φ++[p])[k]?=some b -> φ[k]?=some b:=fun {k b} hk e=>by
   rwa [List.getElem?_append_left (by rw [R.len];exact hk)] at e
  have newA:∀ {b:Addr},(φ++[p])[h.length]?=some b -> b=p:=fun {b} e=>by
   rw [<- R.len] at e
   simp at e
   exact e.symm
  rcases lt e1 with ⟨e1,h1⟩ | rfl<;>rcases lt e2 with ⟨e2,h2⟩ | rfl
  ·exact R.inj i j xs ys a m1 m2 e1 e2 (old h1 e3) (old h2 e4)
  ·have ea:=newA e4
   subst ea
   obtain ⟨w,hz,_⟩:=(R.obj i _ a e1 (old h1 e3)).wr m1
   rw [hp] at hz;cases hz
  ·have ea:=newA e3
   subst ea
   obtain ⟨w,hz,_⟩:=(R.obj j _ a e2 (old h2 e4)).wr m2
   rw [hp] at hz;cases hz
  ·rfl
theorem Rl.more (R:Rl K G φ h H) (hp:H p=none) {ob:HO}:Rl K G φ h (upd H p ob):=
 ⟨R.len,R.glob,fun i u a e1 e2=>(R.obj i u a e1 e2).keep (Ext.refl _) (qBf hp),R.inj⟩
theorem Rl.exn (R:Rl K G φ h H) {i:Nat} {x:Str} (e:qKx h i=some x):∃ a C,φ[i]?=some a/\PySem.W.nsIn K mainGlobals x=some (some (.ref C))/\H a=some (.ext (exP a C)):=by
 unfold qKx at e
 split at e
 ·rename_i c q
  cases e
  obtain ⟨a,ea,C,r1,r2⟩:=R.at q
  exact ⟨a,C,ea,r1,r2⟩
 ·cases e
theorem Rl.newL (R:Rl K G φ h H) (hp:H p=none) {xs ys:List V} (r:rvs φ xs ys):Rl K G (φ++[p]) (h++[.lst false xs]) (upd H p (.lst ys)):=
 R.new hp ⟨ys,qAL,rvs.mono ⟨[p],rfl⟩ r⟩
theorem Rl.newT (R:Rl K G φ h H) (hp:H p=none) {xs ys:List V} (r:rvs φ xs ys):Rl K G (φ++[p]) (h++[.tup xs]) (upd H p (.tup ys)):=
 R.new hp ⟨ys,.inl (.inl qAL),rvs.mono ⟨[p],rfl⟩ r⟩
theorem Rl.lastRef (R:Rl K G φ h H):(φ++[p])[h.length]?=some p:=by rw [<- R.len];simp
theorem Rl.write (R:Rl K G φ h H) {i:Nat} {x y:O} {w':HO} (mx:x.mu=true) (my:y.mu=true) (e:h[i]?=some x) (ea:φ[i]?=some a) (n:ro K φ (upd H a w') a y):Rl K G φ (h.set i y) (upd H a w'):=by
 have hi:=(List.getElem?_eq_some_iff.mp e).1
 obtain ⟨w,hw,ww⟩:=(R.obj i _ a e ea).wr mx
 have lk:∀ {k:Nat} {z:O},z.mu=true -> (h.set i y)[k]?=some z -> ∃ z',z'.mu=true/\h[k]?=some z':=fun {k zs} m q=>by
  by_cases hk:k=i
  ·subst hk;exact ⟨x,mx,e⟩
  ·rw [List.getElem?_set_ne (Ne.symm hk)] at q;exact ⟨zs,m,q⟩
 refine ⟨by simp [R.len],R.glob,fun k u b e1 e2=>?_,fun k l us vs b m1 m2 e1 e2 e3 e4=>?_⟩
 ·by_cases hk:k=i
  ·subst hk
   rw [List.getElem?_set_self hi] at e1
   rw [ea] at e2
   cases e1
   cases e2
   exact n
  ·rw [List.getElem?_set_ne (Ne.symm hk)] at e1
   refine (R.obj k u b e1 e2).other ww hw fun mu hb=>?_
   subst hb
   exact hk (R.inj k i u x b mu mx e1 e e2 ea)
 ·obtain ⟨z1,n1,q1⟩:=lk m1 e1
  obtain ⟨z2,n2,q2⟩:=lk m2 e2
  exact R.inj k l z1 z2 b n1 n2 q1 q2 e3 e4
theorem Rl.set (R:Rl K G φ h H) {i:Nat} {xs ys zs:List V} (e:h[i]?=some (.lst false xs)) (ea:φ[i]?=some a) (r:rvs φ ys zs):Rl K G φ (h.set i (.lst false ys)) (upd H a (.lst zs)):=
 R.write rfl rfl e ea ⟨zs,qAL,r⟩
theorem Rl.dct (R:Rl K G φ h H) {i:Nat} {kvs:List (Int×V)} (e:qDA h i=some kvs):∃ a,φ[i]?=some a/\h[i]?=some (.ob (.dct kvs))/\H a=some (.dK (kvs.map kk)):=by
 unfold qDA at e
 split at e
 ·rename_i zs q
  cases e
  obtain ⟨a,ea,r⟩:=R.at q
  exact ⟨a,ea,q,r⟩
 ·cases e
theorem Rl.lst (R:Rl K G φ h H) {i:Nat} {xs:List V} (e:qAH h i=some xs):∃ a ys,φ[i]?=some a/\SqL K H a ys/\rvs φ xs ys:=by
 unfold qAH at e
 split at e
 ·rename_i fz zs q
  cases e
  obtain ⟨a,ea,r⟩:=R.at q
  cases fz with
  | false=>obtain ⟨ys,e,r⟩:=r;exact ⟨a,ys,ea,.inl (.inl e),r⟩
  | true=>
   obtain ⟨ys,e,r⟩:=r
   rcases e with ⟨o,e⟩ | e
   ·exact ⟨a,ys,ea,.inl (.inr ⟨o,e⟩),r⟩
   ·exact ⟨a,ys,ea,qHk e,r⟩
 ·cases e
theorem Rl.tup (R:Rl K G φ h H) {i:Nat} {xs:List V} (e:qAT h i=some xs):∃ a ys,φ[i]?=some a/\SqT K H a ys/\rvs φ xs ys:=by
 unfold qAT at e
 split at e
 ·rename_i zs q
  cases e
  obtain ⟨a,ea,ys,e,r⟩:=R.at q
  exact ⟨a,ys,ea,e,r⟩
 ·cases e
theorem Rl.mut (R:Rl K G φ h H) {i:Nat} {xs:List V} (e:qAV h i=some xs):h[i]?=some (.lst false xs)/\∃ a ys,φ[i]?=some a/\H a=some (.lst ys)/\rvs φ xs ys:=by
 unfold qAV at e
 split at e
 ·rename_i zs q
  cases e
  obtain ⟨a,ea,ys,e,r⟩:=R.at q
  exact ⟨q,a,ys,ea,e,r⟩
 ·cases e
theorem Rl.its (R:Rl K G φ h H) {i:Nat} {xs:List V} (e:items h i=some xs):∃ a ys,φ[i]?=some a/\(SqL K H a ys\/SqT K H a ys)/\rvs φ xs ys:=by
 unfold items at e
 split at e
 ·rename_i fz zs q
  cases e
  obtain ⟨a,ys,h1,h2,h3⟩:=R.lst (i:=i) (xs:=xs) (by unfold qAH;rw [q])
  exact ⟨a,ys,h1,.inl h2,h3⟩
 ·rename_i zs q
  cases e
  obtain ⟨a,ys,h1,h2,h3⟩:=R.tup (i:=i) (xs:=xs) (by unfold qAT;rw [q])
  exact ⟨a,ys,h1,.inr h2,h3⟩
 ·cases e
end
end PI
namespace PI
open PySem PySem.Spec PyProof.Rows
open L2 (V Hp HO Cx PE PT PA PS PSs PG TE TT TA TS VK upd qAL qAJ SqL SqT qEk Inv RelV Vals EP TP AP SP OpR qAt R2)
theorem Res.bind_inv {α β:Type} {r:Res α} {f:α -> Res β} {x:β} (h:r.bind f=.ok x):∃ a,r=.ok a/\f a=.ok x:=by
 cases r with
 | ok a=>exact ⟨a,rfl,h⟩
 | exc c h'=>cases h
 | stuck=>cases h
theorem qAB {φ:List Addr} {i:Int} {w:V} (h:rv φ (.int i) w):w=.int i:=by
 cases w with
 | int j=>exact congrArg V.int (show i=j from h).symm
 | _=>exact False.elim h
theorem qA3 {φ:List Addr} {i:Bool} {w:V} (h:rv φ (.bl i) w):w=.bl i:=by
 cases w with
 | bl j=>exact congrArg V.bl (show i=j from h).symm
 | _=>exact False.elim h
theorem qA8 {φ:List Addr} {i:Str} {w:V} (h:rv φ (.str i) w):w=.str i:=by
 cases w with
 | str j=>exact congrArg V.str (show i=j from h).symm
 | _=>exact False.elim h
theorem qAy {φ:List Addr} {w:V} (h:rv φ .non w):w=.non:=by
 cases w with
 | non=>rfl
 | _=>exact False.elim h
theorem qAI {φ:List Addr} {i:Nat} {w:V} (h:rv φ (.ref i) w):∃ a,w=.ref a/\φ[i]?=some a:=by
 cases w with
 | ref j=>exact ⟨j,rfl,h⟩
 | _=>exact False.elim h
section
variable (K:PySem.W.Frag) (G:List Addr) (F:Nat -> List V -> AH -> RV)
noncomputable def tE (e:E):TE:=fun σc H Q=>∃ φ h σ v h',Rl K G φ h H/\rst φ σ σc/\ev F e σ h=.ok (v,h')/\∀ φ' H' w,Ext φ φ' -> Rl K G φ' h' H' -> rv φ' v w -> Q w H'
noncomputable def tB (r:St -> AH -> Res (Bool×AH)):TT:=fun σc H Q=>∃ φ h σ b h',Rl K G φ h H/\rst φ σ σc/\r σ h=.ok (b,h')/\∀ φ' H',Ext φ φ' -> Rl K G φ' h' H' -> Q b H'
noncomputable abbrev tT (e:E):TT:=tB K G (fun σ h=>asB (ev F e σ h))
noncomputable def tL (as:Es):TA:=fun σc H Q=>∃ φ h σ vs h',Rl K G φ h H/\rst φ σ σc/\evs F as σ h=.ok (vs,h')/\∀ φ' H' ws,Ext φ φ' -> Rl K G φ' h' H' -> rvs φ' vs ws -> Q ws H'
end
section
variable {X:Cx} {G:List Addr} {F:Nat -> List V -> AH -> RV}
theorem qAX {e:Expr} {t t':TE} (h:PE X e t) (w:∀ σ H Q,t' σ H Q -> t σ H Q):PE X e t':=fun pins s σ H Q I q=>h pins s σ H Q I (w σ H Q q)
theorem qGm {e:Expr} {t t':TT} (h:PT X e t) (w:∀ σ H Q,t' σ H Q -> t σ H Q):PT X e t':=fun pins s σ H Q I q=>h pins s σ H Q I (w σ H Q q)
theorem qKZ {e:List Expr} {t t':TA} (h:PA X e t) (w:∀ σ H Q,t' σ H Q -> t σ H Q):PA X e t':=fun pos pins s σ H Q I q=>h pos pins s σ H Q I (w σ H Q q)
variable (X G F) in
noncomputable abbrev SE (e:Expr) (a:E):Prop:=PE X e (tE X.K G F a)
variable (X G F) in
noncomputable abbrev ST (e:Expr) (a:E):Prop:=PT X e (tT X.K G F a)
variable (X G F) in
noncomputable abbrev SA (es:List Expr) (as:Es):Prop:=PA X es (tL X.K G F as)
variable {K:PySem.W.Frag} {φ φ':List Addr} {h h1 h2:AH} {H:Hp} {σ σc:St} {a b:E} {x y:V}
theorem qBU (R:Rl K G φ h H) (rs:rst φ σ σc) (ea:ev F a σ h=.ok (x,h1)) (eb:ev F b σ h1=.ok (y,h2)) {Rr:V -> V -> Hp -> Prop}
  (k:∀ φ2 H2 xc yc,Ext φ φ2 -> Rl K G φ2 h2 H2 -> rv φ2 x xc -> rv φ2 y yc -> Rr xc yc H2):tE K G F a σc H (fun xc H1=>tE K G F b σc H1 (fun yc H2=>Rr xc yc H2)):=
 ⟨φ,h,σ,x,h1,R,rs,ea,fun φ1 H1 xc e1 R1 r1=>⟨φ1,h1,σ,y,h2,R1,rst.mono e1 rs,eb,fun φ2 H2 yc e2 R2 r2=>k φ2 H2 xc yc (e1.trans e2) R2 (rv.mono e2 r1) r2⟩⟩
theorem qKX {i:Nat} {n:Str} {pos:Pos} (hN:X.N[i]?=some n) (hv:L2.Vis X.env.scope n) (hd:(n==("__debug__":Str))=false) (hcd:(n==("__classdict__":Str))=false):SE X G F (.Name n pos) (.var i):=by
 refine qAX (L2.pe_var hN hv hd hcd) fun σc H Q q=>?_
 obtain ⟨φ,h,σ,v,h',R,rs,e,k⟩:=q
 unfold ev at e
 split at e
 ·rename_i w q
  cases e
  obtain ⟨oc,ec,r⟩:=qAF rs q
  obtain ⟨u,rfl,r⟩:=r
  exact ⟨u,ec,k φ H u (.refl _) R r⟩
 ·cases e
theorem qG0 {v:V} {w:V} {σc:St} {H:Hp} {Q:VK} (hr:∀ φ,rv φ v w) (q:tE K G F (.cst v) σc H Q):L2.tC w σc H Q:=by
 obtain ⟨φ,h,σ,v',h',R,rs,e,k⟩:=q
 unfold ev at e
 cases e
 exact k φ H w (.refl _) R (hr φ)
theorem qGa {i j pos}:SE X G F (.Constant (.int i) j pos) (.cst (.int i)):=qAX L2.pe_int fun _ _ _=>qG0 fun _=>rfl
theorem qKN {i j pos}:SE X G F (.Constant (.bool i) j pos) (.cst (.bl i)):=qAX L2.pe_bl fun _ _ _=>qG0 fun _=>rfl
theorem qIs {j pos}:SE X G F (.Constant .none j pos) (.cst .non):=qAX L2.pe_non fun _ _ _=>qG0 fun _=>trivial
theorem qIw {i j pos}:SE X G F (.Constant (.str i) j pos) (.cst (.str i)):=qAX L2.pe_str fun _ _ _=>qG0 fun _=>rfl
theorem qJE {n:Str} {v:V} {u:Value} {pos:Pos} (hg:L2.Gl X n) (hm:X.mg n=some u) (r:RelV v u) (hv:∀ φ,rv φ v v) (hd:(n==("__debug__":Str))=false):SE X G F (.Name n pos) (.cst v):=
 qAX (L2.pe_glob hg hm r hd) fun _ _ _=>qG0 hv
theorem qJx {n:Str} {g:Nat} {a:Addr} {pos:Pos} (hg:L2.Gl X n) (hm:X.mg n=some (.ref a)) (hG:G[g]?=some a) (hd:(n==("__debug__":Str))=false):SE X G F (.Name n pos) (.glob g):=by
 refine qAX (L2.pe_glob (v:=.ref a) hg hm rfl hd) fun σc H Q q=>?_
 obtain ⟨φ,h,σ,v',h',R,rs,e,k⟩:=q
 unfold ev at e
 cases e
 exact k φ H (.ref a) (.refl _) R (R.glob.get hG)
noncomputable def opB:BOp -> Operator
 | .add=>.Add | .sub=>.Sub | .mul=>.Mult | .fdiv=>.FloorDiv | .mod=>.Mod | .pow=>.Pow | .band=>.BitAnd | .shl=>.LShift | .shr=>.RShift | .bor=>.BitOr | .bxor=>.BitXor
noncomputable def qNc (i j:Int):Prop:=j≠0/\j.natAbs.log2 < 9000
theorem qIM:OpR X (binaryOp .FloorDiv) (L2.rI qNc fun i j=>.int (i.fdiv j)):=L2.opI fun _ _ _ _ _ _ _ hc q=>floordiv_int hc.1 q (.inl (PyProof.noPylong_of_log2 hc.2))
noncomputable def qOC (i j:Int):Prop:=i.natAbs.log2 < 9000/\j.natAbs.log2 < 9000
theorem qE4 {i:Int} (h:i.natAbs.log2 < 9000):Builtin.Int.intBits i<=2 ^ 20:=by
 unfold Builtin.Int.intBits
 have e:(2:Nat) ^ 20=1048576:=by decide
 rw [e]
 split<;>omega
theorem qI3:OpR X (binaryOp .Mult) (L2.rI qOC fun i j=>.int (i * j)):=L2.opI fun _ _ _ _ _ _ _ hc q=>mul_int q (IntMulOk.of_bits (qE4 hc.1) (qE4 hc.2))
theorem qFI {i:Int} (h:mid i=true):i.natAbs.log2 < 9000:=of_decide_eq_true h
noncomputable def qNv (K:PySem.W.Frag):BOp -> R2
 | .add=>fun x y H Q=>(L2.rI0 (fun i j=>.int (i + j)) x y H Q\/L2.rCat x y H Q)\/L2.rCatT K x y H Q
 | .sub=>L2.rI0 fun i j=>.int (i - j)
 | .mul=>fun x y H Q=>(L2.rI L2.CMul (fun i j=>.int (i * j)) x y H Q\/L2.rRep x y H Q)\/L2.rI qOC (fun i j=>.int (i * j)) x y H Q
 | .fdiv=>fun x y H Q=>L2.rI L2.CDiv (fun i j=>.int (i / j)) x y H Q\/L2.rI qNc (fun i j=>.int (i.fdiv j)) x y H Q
 | .mod=>fun x y H Q=>L2.rI (fun _ j=>0 < j) (fun i j=>.int (i % j)) x y H Q\/L2.rI (fun _ j=>j≠0) (fun i j=>.int (i.fmod j)) x y H Q
 | .pow=>L2.rI L2.CPow fun i j=>.int (i ^ j.toNat)
 | .band=>L2.rI0 fun i j=>.int (Builtin.bitAnd i j)
 | .shl=>L2.rI L2.CPow fun i j=>.int (i * 2 ^ j.toNat)
 | .shr=>L2.rI (fun _ j=>0<=j) fun i j=>.int (i / 2 ^ j.toNat)
 | .bor=>L2.rI0 fun i j=>.int (Builtin.bitOr i j)
 | .bxor=>L2.rI0 fun i j=>.int (Builtin.bitXor i j)
theorem qKE:∀ op,OpR X (binaryOp (opB op)) (qNv X.K op)
 | .add=>(L2.op_add.or L2.op_cat).or L2.op_catT
 | .sub=>L2.op_sub
 | .mul=>(L2.op_mul.or L2.op_rep).or qI3
 | .fdiv=>L2.op_fdiv.or qIM
 | .mod=>L2.op_mod.or L2.op_modN
 | .pow=>L2.op_pow
 | .band=>L2.op_and
 | .shl=>L2.op_shl
 | .shr=>L2.op_shr
 | .bor=>L2.op_or
 | .bxor=>L2.op_xor
theorem qCB:lim<=sizeLine:=by decide
theorem qIo:lim < sizeLine:=by decide
theorem qFN {i:Int} (h:small i=true):-(2 ^ 64) < i/\i < 2 ^ 64:=by
 unfold small two64 at h
 have:=of_decide_eq_true h
 omega
theorem qJe {op:BOp} {v xc yc:V} {h':AH} {Q:VK} (e:qHV op x y h=.ok (v,h')) (R:Rl K G φ h H) (rx:rv φ x xc) (ry:rv φ y yc)
  (k:∀ φ' H' w,Ext φ φ' -> Rl K G φ' h' H' -> rv φ' v w -> Q w H'):qNv K op xc yc H Q:=by
 cases op with
 | add=>
  dsimp only [qHV] at e
  split at e
  ·replace e:=qAi e
   obtain ⟨b,rfl,e⟩:=e
   split at e
   ·rename_i xs ys e1 e2
    split at e
    ·rename_i hl
     cases e
     obtain ⟨q1,a1,ys1,ha1,hH1,r1⟩:=R.mut e1
     obtain ⟨q2,a2,ys2,ha2,hH2,r2⟩:=R.mut e2
     obtain ⟨b1,rfl,hb1⟩:=qAI rx
     obtain ⟨b2,rfl,hb2⟩:=qAI ry
     rw [ha1] at hb1;cases hb1
     rw [ha2] at hb2;cases hb2
     refine .inl (.inr ⟨a1,a2,ys1,ys2,rfl,rfl,hH1,hH2,?_,fun p hp=>k (φ++[p]) _ _ ⟨[p],rfl⟩ (R.newL hp (qAG r1 r2)) R.lastRef⟩)
     have l1:=Paired.length r1
     have l2:=Paired.length r2
     have:=qCB
     omega
    ·cases e
   ·split at e
    ·rename_i xs ys e1 e2
     split at e
     ·rename_i hl
      obtain ⟨a1,ys1,ha1,hH1,r1⟩:=R.tup e1
      obtain ⟨a2,ys2,ha2,hH2,r2⟩:=R.tup e2
      obtain ⟨b1,rfl,hb1⟩:=qAI rx
      obtain ⟨b2,rfl,hb2⟩:=qAI ry
      rw [ha1] at hb1;cases hb1
      rw [ha2] at hb2;cases hb2
      have l1:=Paired.length r1
      have l2:=Paired.length r2
      refine .inr ⟨a1,a2,ys1,ys2,rfl,rfl,hH1,hH2,?_,?_,fun z=>?_,fun z p hp=>?_⟩
      ·rintro rfl
       exact hl.1 (List.length_eq_zero_iff.mp l1)
      ·have:=qCB
       omega
      ·subst z
       rw [if_pos (List.length_eq_zero_iff.mp l2)] at e
       cases e
       exact k φ H _ (.refl _) R ha1
      ·rw [if_neg (fun q=>z (by subst q;exact List.length_eq_zero_iff.mp l2.symm))] at e
       cases e
       exact k (φ++[p]) _ _ ⟨[p],rfl⟩ (R.newT hp (qAG r1 r2)) R.lastRef
     ·cases e
    ·cases e
  ·replace e:=qAW e
   obtain ⟨i,j,rfl,rfl,e⟩:=e
   cases e;cases qAB rx;cases qAB ry
   exact .inl (.inl ⟨_,_,rfl,rfl,k φ H _ (.refl _) R rfl⟩)
 | sub=>
  replace e:=qAW e
  obtain ⟨i,j,rfl,rfl,e⟩:=e
  cases e;cases qAB rx;cases qAB ry
  exact ⟨_,_,rfl,rfl,k φ H _ (.refl _) R rfl⟩
 | mul=>
  dsimp only [qHV] at e
  split at e
  ·split at e
   ·split at e
    ·rename_i xs e1
     split at e
     ·rename_i hl
      obtain ⟨h0,hl,h3⟩:=hl
      cases e
      obtain ⟨q1,a1,ys1,ha1,hH1,r1⟩:=R.mut e1
      obtain ⟨b1,rfl,hb1⟩:=qAI rx
      rw [ha1] at hb1;cases hb1
      cases qAB ry
      refine .inl (.inr ⟨a1,_,ys1,rfl,rfl,hH1,by omega,by omega,?_,fun p hp=>k (φ++[p]) _ _ ⟨[p],rfl⟩ (R.newL hp (qDE r1 _)) R.lastRef⟩)
      have l1:=Paired.length r1
      have:=qCB
      rw [<- l1]
      omega
     ·cases e
    ·cases e
   ·cases e
  ·replace e:=qAW e
   obtain ⟨i,j,rfl,rfl,e⟩:=e
   split at e
   ·rename_i hs
    cases e;cases qAB rx;cases qAB ry
    rw [Bool.or_eq_true,Bool.or_eq_true,Bool.and_eq_true] at hs
    rcases hs with (z | z) | z
    ·exact .inl (.inl ⟨_,_,rfl,rfl,.inl (qFN z),k φ H _ (.refl _) R rfl⟩)
    ·exact .inl (.inl ⟨_,_,rfl,rfl,.inr (qFN z),k φ H _ (.refl _) R rfl⟩)
    ·exact .inr ⟨_,_,rfl,rfl,⟨qFI z.1,qFI z.2⟩,k φ H _ (.refl _) R rfl⟩
   ·cases e
 | fdiv=>
  replace e:=qAW e
  obtain ⟨i,j,rfl,rfl,e⟩:=e
  split at e
  ·rename_i hc
   cases e;cases qAB rx;cases qAB ry
   rcases hc.2 with z | z
   ·exact .inl ⟨_,_,rfl,rfl,⟨hc.1,z⟩,k φ H _ (.refl _) R rfl⟩
   ·refine .inr ⟨_,_,rfl,rfl,⟨by omega,qFI z⟩,?_⟩
    dsimp only
    rw [Int.fdiv_eq_ediv_of_nonneg _ (by omega)]
    exact k φ H _ (.refl _) R rfl
  ·split at e
   ·rename_i hc
    cases e;cases qAB rx;cases qAB ry
    exact .inr ⟨_,_,rfl,rfl,⟨by omega,qFI hc.2⟩,k φ H _ (.refl _) R rfl⟩
   ·cases e
 | mod=>
  replace e:=qAW e
  obtain ⟨i,j,rfl,rfl,e⟩:=e
  split at e
  ·rename_i hc
   cases e;cases qAB rx;cases qAB ry
   exact .inl ⟨_,_,rfl,rfl,hc,k φ H _ (.refl _) R rfl⟩
  ·split at e
   ·rename_i hc
    cases e;cases qAB rx;cases qAB ry
    exact .inr ⟨_,_,rfl,rfl,(by omega),k φ H _ (.refl _) R rfl⟩
   ·cases e
 | pow=>
  replace e:=qAW e
  obtain ⟨i,j,rfl,rfl,e⟩:=e
  split at e
  ·rename_i hc
   cases e;cases qAB rx;cases qAB ry
   refine ⟨_,_,rfl,rfl,⟨hc.1,by omega,by omega⟩,k φ H _ (.refl _) R rfl⟩
  ·cases e
 | band=>
  replace e:=qAW e
  obtain ⟨i,j,rfl,rfl,e⟩:=e
  cases e;cases qAB rx;cases qAB ry
  exact ⟨_,_,rfl,rfl,k φ H _ (.refl _) R rfl⟩
 | shl=>
  replace e:=qAW e
  obtain ⟨i,j,rfl,rfl,e⟩:=e
  split at e
  ·rename_i hc
   cases e;cases qAB rx;cases qAB ry
   refine ⟨_,_,rfl,rfl,⟨hc.1,by omega,by omega⟩,k φ H _ (.refl _) R rfl⟩
  ·cases e
 | shr=>
  replace e:=qAW e
  obtain ⟨i,j,rfl,rfl,e⟩:=e
  split at e
  ·rename_i hc
   cases e;cases qAB rx;cases qAB ry
   refine ⟨_,_,rfl,rfl,hc.1,k φ H _ (.refl _) R rfl⟩
  ·cases e
 | bor=>
  replace e:=qAW e
  obtain ⟨i,j,rfl,rfl,e⟩:=e
  cases e;cases qAB rx;cases qAB ry
  exact ⟨_,_,rfl,rfl,k φ H _ (.refl _) R rfl⟩
 | bxor=>
  replace e:=qAW e
  obtain ⟨i,j,rfl,rfl,e⟩:=e
  cases e;cases qAB rx;cases qAB ry
  exact ⟨_,_,rfl,rfl,k φ H _ (.refl _) R rfl⟩
theorem qLp {op:BOp} {ea eb:Expr} {pos:Pos} (ha:SE X G F ea a) (hb:SE X G F eb b):SE X G F (.BinOp ea (opB op) eb pos) (.bin op a b):=by
 refine qAX (L2.pe_op (qKE op) ha hb) fun σc H Q q=>?_
 obtain ⟨φ,h,σ,v,h',R,rs,e,k⟩:=q
 unfold ev at e
 obtain ⟨⟨x,h1⟩,e1,e⟩:=Res.bind_inv e
 obtain ⟨⟨y,h2⟩,e2,e⟩:=Res.bind_inv e
 exact qBU R rs e1 e2 fun φ2 H2 xc yc x2 R2 r1 r2=>qJe e R2 r1 r2 fun φ' H' w x' R' r'=>k φ' H' w (x2.trans x') R' r'
theorem qIW {ea:Expr} {pos:Pos} (ha:SE X G F ea a):SE X G F (.UnaryOp .USub ea pos) (.neg a):=by
 refine qAX (L2.pe_un L2.un_neg ha) fun σc H Q q=>?_
 obtain ⟨φ,h,σ,v,h',R,rs,e,k⟩:=q
 unfold ev at e
 obtain ⟨⟨x,h1⟩,e1,e⟩:=Res.bind_inv e
 refine ⟨φ,h,σ,x,h1,R,rs,e1,fun φ1 H1 xc x1 R1 r1=>?_⟩
 dsimp only at e
 split at e
 ·cases e
  cases qAB r1
  exact ⟨_,rfl,k φ1 H1 _ x1 R1 rfl⟩
 ·cases e
end
end PI
namespace PI
open PySem PySem.Spec PyProof.Rows PySem.SeqAt
open L2 (V Hp HO Cx PE PT PA PS PSs PG TE TT TA TS VK upd qAL qAJ SqL SqT qEk Inv RelV Vals EP TP AP SP OpR qAt R2)
structure Eq3 (A:Around) (s:Shared) (u w:Value) (b:Bool):Prop where
 eq:EqAt A s u w b
 rc:RcAt A s u w b
 ne:RcNeAt A s u w (!b)
theorem qED {A:Around} {s:Shared} {φ:List Addr}:∀ {x y xc yc:V} {u w:Value} {b:Bool},eqF x y=some b -> rv φ x xc -> rv φ y yc -> RelV xc u -> RelV yc w -> Eq3 A s u w b:=by
 intro x y xc yc u w b e rx ry ru rw'
 cases x with
 | non=>
  cases qAy rx;cases ru
  cases y with
  | non=>cases qAy ry;cases rw';cases e;exact ⟨.same _,.none_none,.none_none⟩
  | bl j=>cases qA3 ry;cases rw';cases e;exact ⟨.none_bool _,.none_bool _,.none_bool _⟩
  | int j=>cases qAB ry;obtain ⟨t,rfl⟩:=rw';cases e;exact ⟨.none_int _ _,.none_int _ _,.none_int _ _⟩
  | str j=>cases qA8 ry;obtain ⟨t,rfl⟩:=rw';cases e;exact ⟨.none_str _ _,.none_str _ _,.none_str _ _⟩
  | _=>cases e
 | bl i=>
  cases qA3 rx;cases ru
  cases y with
  | non=>cases qAy ry;cases rw';cases e;exact ⟨.bool_none _,.bool_none _,.bool_none _⟩
  | bl j=>cases qA3 ry;cases rw';cases e;exact ⟨.bool_bool _ _,.bool_bool _ _,.bool_bool _ _⟩
  | int j=>cases qAB ry;obtain ⟨t,rfl⟩:=rw';cases e;exact ⟨.bool_int _ _ _,.bool_int _ _ _,.bool_int _ _ _⟩
  | str j=>cases qA8 ry;obtain ⟨t,rfl⟩:=rw';cases e;exact ⟨.bool_str _ _ _,.bool_str _ _ _,.bool_str _ _ _⟩
  | _=>cases e
 | int i=>
  cases qAB rx;obtain ⟨t,rfl⟩:=ru
  cases y with
  | non=>cases qAy ry;cases rw';cases e;exact ⟨.int_none _ _,.int_none _ _,.int_none _ _⟩
  | bl j=>cases qA3 ry;cases rw';cases e;exact ⟨.int_bool _ _ _,.int_bool _ _ _,.int_bool _ _ _⟩
  | int j=>cases qAB ry;obtain ⟨t,rfl⟩:=rw';cases e;exact ⟨.int_int _ _ _ _,.int_int _ _ _ _,.int_int _ _ _ _⟩
  | str j=>cases qA8 ry;obtain ⟨t,rfl⟩:=rw';cases e;exact ⟨.int_str _ _ _ _,.int_str _ _ _ _,.int_str _ _ _ _⟩
  | _=>cases e
 | str i=>
  cases qA8 rx;obtain ⟨t,rfl⟩:=ru
  cases y with
  | non=>cases qAy ry;cases rw';cases e;exact ⟨.str_none _ _,.str_none _ _,.str_none _ _⟩
  | bl j=>cases qA3 ry;cases rw';cases e;exact ⟨.str_bool _ _ _,.str_bool _ _ _,.str_bool _ _ _⟩
  | int j=>cases qAB ry;obtain ⟨t,rfl⟩:=rw';cases e;exact ⟨.str_int _ _ _ _,.str_int _ _ _ _,.str_int _ _ _ _⟩
  | str j=>cases qA8 ry;obtain ⟨t,rfl⟩:=rw';cases e;exact ⟨.str_str _ _ _ _,.str_str _ _ _ _,.str_str _ _ _ _⟩
  | _=>cases e
 | _=>cases y<;>cases e
theorem qFA {φ:List Addr} {x y w:V} {b:Bool} (e:eqF x y=some b) (rx:rv φ x w) (ry:rv φ y w):b=true:=by
 cases x with
 | non=>cases qAy rx;cases y<;>first | exact False.elim ry | (cases e;rfl) | cases e
 | bl i=>cases qA3 rx;cases y<;>first | exact False.elim ry | (rename_i j;cases (show j=i from ry);cases e;simp) | cases e
 | int i=>cases qAB rx;cases y<;>first | exact False.elim ry | (rename_i j;cases (show j=i from ry);cases e;simp) | cases e
 | str i=>cases qA8 rx;cases y<;>first | exact False.elim ry | (rename_i j;cases (show j=i from ry);cases e;simp) | cases e
 | _=>cases y<;>cases e
theorem qCt {f:V -> V -> Option Bool}:∀ {xs ys:List V} {bs:List Bool},qDC f xs ys=some bs -> bs.length=xs.length/\ys.length=xs.length/\∀ (j:Nat) x y,xs[j]?=some x -> ys[j]?=some y -> ∃ b,bs[j]?=some b/\f x y=some b
 | [],[],bs,e=>by
  cases e
  exact ⟨rfl,rfl,fun j x y h=>by simp at h⟩
 | [],_::_,_,e=>by cases e
 | _::_,[],_,e=>by cases e
 | x::xs,y::ys,bs,e=>by
  unfold qDC at e
  split at e
  ·rename_i b bs' e1 e2
   cases e
   obtain ⟨l1,l2,k⟩:=qCt e2
   refine ⟨by simp [l1],by simp [l2],fun j u v h1 h2=>?_⟩
   cases j with
   | zero=>simp at h1 h2;subst h1 h2;exact ⟨b,rfl,e1⟩
   | succ j=>obtain ⟨b',h3,h4⟩:=k j u v (by simpa using h1) (by simpa using h2);exact ⟨b',by simpa using h3,h4⟩
  ·cases e
theorem qD8 (bs:List Bool):(List.range bs.length).all (fun j=>bs.getD j true)=bs.all id:=by
 rw [Bool.eq_iff_iff]
 simp only [List.all_eq_true,List.mem_range,id]
 constructor
 ·intro h b hb
  obtain ⟨j,hj,rfl⟩:=List.mem_iff_getElem.mp hb
  have:=h j hj
  rw [List.getD_eq_getElem?_getD,List.getElem?_eq_getElem hj] at this
  exact this
 ·intro h j hj
  rw [List.getD_eq_getElem?_getD,List.getElem?_eq_getElem hj]
  exact h _ (List.getElem_mem hj)
section
variable {X:Cx} {G φ:List Addr} {h:AH} {H:Hp} {pins:List (Addr×Obj)} {σ:L2.St} {s:Shared}
theorem qFE (I:Inv X pins σ H s) (R:Rl X.K G φ h H):∀ (n:Nat) {x y w:V} {b:Bool},eqD h n x y=some b -> rv φ x w -> rv φ y w -> b=true
 | 0,x,y,w,b,e,rx,ry=>qFA e rx ry
 | n + 1,x,y,w,b,e,rx,ry=>by
  have all:∀ {xs ys zs:List V} {bs:List Bool},rvs φ xs zs -> rvs φ ys zs -> qDC (eqD h n) xs ys=some bs -> bs.all id=true:=fun {xs ys zs bs} r1 r2 e=>by
   obtain ⟨l1,l2,k⟩:=qCt e
   rw [List.all_eq_true]
   intro b hb
   obtain ⟨j,hj,rfl⟩:=List.mem_iff_getElem.mp hb
   have hx:j < xs.length:=by omega
   have hy:j < ys.length:=by omega
   obtain ⟨b',hb',e'⟩:=k j _ _ (List.getElem?_eq_getElem hx) (List.getElem?_eq_getElem hy)
   rw [List.getElem?_eq_getElem hj] at hb'
   cases hb'
   obtain ⟨z,hz,q1⟩:=qAF r1 (List.getElem?_eq_getElem hx)
   obtain ⟨z',hz',q2⟩:=qAF r2 (List.getElem?_eq_getElem hy)
   rw [hz] at hz';cases hz'
   exact qFE I R n e' q1 q2
  cases x with
  | ref a=>
   obtain ⟨p,rfl,hp⟩:=qAI rx
   cases y with
   | ref c=>
    have hc:φ[c]?=some p:=ry
    simp only [eqD] at e
    split at e
    ·rename_i f1 xs f2 ys e1 e2
     split at e
     ·cases e;rfl
     ·obtain ⟨p1,z1,q1,s1,r1⟩:=R.lst (i:=a) (xs:=xs) (by unfold qAH;rw [e1])
      obtain ⟨p2,z2,q2,s2,r2⟩:=R.lst (i:=c) (xs:=ys) (by unfold qAH;rw [e2])
      rw [hp] at q1;cases q1
      rw [hc] at q2;cases q2
      have:=I.list_inj s1 s2
      subst this
      split at e
      ·obtain ⟨bs,e3,rfl⟩:=Option.map_eq_some_iff.mp e
       exact all r1 r2 e3
      ·rename_i hne
       exact absurd ((Paired.length r1).trans (Paired.length r2).symm) hne
    ·rename_i xs ys e1 e2
     split at e
     ·cases e;rfl
     ·obtain ⟨p1,z1,q1,s1,r1⟩:=R.tup (i:=a) (xs:=xs) (by unfold qAT;rw [e1])
      obtain ⟨p2,z2,q2,s2,r2⟩:=R.tup (i:=c) (xs:=ys) (by unfold qAT;rw [e2])
      rw [hp] at q1;cases q1
      rw [hc] at q2;cases q2
      have:=I.tuple_inj s1 s2
      subst this
      split at e
      ·obtain ⟨bs,e3,rfl⟩:=Option.map_eq_some_iff.mp e
       exact all r1 r2 e3
      ·rename_i hne
       exact absurd ((Paired.length r1).trans (Paired.length r2).symm) hne
    ·rename_i f1 xs ys e1 e2
     obtain ⟨p1,z1,q1,s1,r1⟩:=R.lst (i:=a) (xs:=xs) (by unfold qAH;rw [e1])
     obtain ⟨p2,z2,q2,s2,r2⟩:=R.tup (i:=c) (xs:=ys) (by unfold qAT;rw [e2])
     rw [hp] at q1;cases q1
     rw [hc] at q2;cases q2
     obtain ⟨i1,_,t1,_⟩:=I.list s1
     obtain ⟨i2,_,t2,_⟩:=I.tuple s2
     exact absurd rfl (ne_of_list_tuple t1.isList t2)
    ·rename_i xs f1 ys e1 e2
     obtain ⟨p1,z1,q1,s1,r1⟩:=R.tup (i:=a) (xs:=xs) (by unfold qAT;rw [e1])
     obtain ⟨p2,z2,q2,s2,r2⟩:=R.lst (i:=c) (xs:=ys) (by unfold qAH;rw [e2])
     rw [hp] at q1;cases q1
     rw [hc] at q2;cases q2
     obtain ⟨i1,_,t1,_⟩:=I.tuple s1
     obtain ⟨i2,_,t2,_⟩:=I.list s2
     exact absurd rfl (ne_of_list_tuple t2.isList t1)
    ·cases e
   | _=>exact False.elim ry
  | _=>
   cases y with
   | ref c=>
    obtain ⟨p,rfl,hp⟩:=qAI ry
    exact False.elim rx
   | _=>exact qFA e rx ry
theorem qGP (I:Inv X pins σ H s) (R:Rl X.K G φ h H):∀ (n:Nat) {A:Around} {x y xc yc:V} {u w:Value} {b:Bool},A.units + n < cLine -> eqD h n x y=some b -> rv φ x xc -> rv φ y yc -> RelV xc u -> RelV yc w -> Eq3 A s u w b
 | 0,A,x,y,xc,yc,u,w,b,hu,e,rx,ry,ru,rw'=>qED e rx ry ru rw'
 | n + 1,A,x,y,xc,yc,u,w,b,hu,e,rx,ry,ru,rw'=>by
  have hu0:A.units < cLine:=by omega
  have hu1:A.in1.units + n < cLine:=by show A.units + 1 + n < cLine;omega
  have item:∀ {xs ys zs ts:List V} {us ws:List Value} {bs:List Bool},rvs φ xs zs -> rvs φ ys ts -> Vals zs us -> Vals ts ws -> qDC (eqD h n) xs ys=some bs -> us.length=bs.length/\ws.length=bs.length/\
    ∀ (j:Nat) (h1:j < us.toArray.size) (h2:j < ws.toArray.size),EqAt A.in1 s us.toArray[j] ws.toArray[j] (bs.getD j true):=fun {xs ys zs ts us ws bs} r1 r2 v1 v2 e=>by
   obtain ⟨l1,l2,k⟩:=qCt e
   have n1:=Paired.length r1
   have n2:=Paired.length r2
   have n3:=v1.length
   have n4:=v2.length
   refine ⟨by omega,by omega,fun j h1 h2=>?_⟩
   have g1:j < us.length:=by simpa using h1
   have g2:j < ws.length:=by simpa using h2
   have hx:j < xs.length:=by omega
   have hy:j < ys.length:=by omega
   obtain ⟨b',hb',e'⟩:=k j _ _ (List.getElem?_eq_getElem hx) (List.getElem?_eq_getElem hy)
   obtain ⟨z,hz,q1⟩:=qAF r1 (List.getElem?_eq_getElem hx)
   obtain ⟨t,ht,q2⟩:=qAF r2 (List.getElem?_eq_getElem hy)
   obtain ⟨u',hu',q3⟩:=v1.get hz
   obtain ⟨w',hw',q4⟩:=v2.get ht
   rw [List.getElem?_eq_getElem g1] at hu'
   rw [List.getElem?_eq_getElem g2] at hw'
   cases hu'
   cases hw'
   rw [List.getD_eq_getElem?_getD,hb']
   have:=(qGP I R n (A:=A.in1) hu1 e' q1 q2 q3 q4).eq
   simpa using this
  have refs:∀ {a:Nat} {p:Addr} {v:V} {b:Bool},φ[a]?=some p -> (if (items h a).isSome&&qAq v then some false else none)=some b -> b=false/\∃ its,s.heap.IsList p its\/s.heap.IsTuple p its:=fun {a p v b} hp e=>by
   cases ea:h[a]? with
   | none=>rw [show items h a=none from (by unfold items;rw [ea])] at e;cases e
   | some o=>
    have hb:b=false:=by
     split at e
     ·cases e;rfl
     ·cases e
    refine ⟨hb,?_⟩
    cases o with
    | lst f xs=>
     obtain ⟨p1,z1,q1,s1,r1⟩:=R.lst (i:=a) (xs:=xs) (by unfold qAH;rw [ea])
     rw [hp] at q1;cases q1
     obtain ⟨i1,_,t1,_⟩:=I.list s1
     exact ⟨_,.inl t1.isList⟩
    | tup xs=>
     obtain ⟨p1,z1,q1,s1,r1⟩:=R.tup (i:=a) (xs:=xs) (by unfold qAT;rw [ea])
     rw [hp] at q1;cases q1
     obtain ⟨i1,_,t1,_⟩:=I.tuple s1
     exact ⟨_,.inr t1⟩
    | ob ks=>rw [show items h a=none from (by unfold items;rw [ea])] at e;cases e
  cases x with
  | ref a=>
   obtain ⟨p,rfl,hp⟩:=qAI rx
   cases ru
   cases y with
   | ref c=>
    obtain ⟨q,rfl,hq⟩:=qAI ry
    cases rw'
    have same:p=q -> b=true:=fun z=>by
     subst z
     exact qFE I R (n + 1) e rx (show rv φ (.ref c) (.ref p) from hq)
    simp only [eqD] at e
    split at e
    ·rename_i f1 xs f2 ys e1 e2
     obtain ⟨p1,z1,q1,s1,r1⟩:=R.lst (i:=a) (xs:=xs) (by unfold qAH;rw [e1])
     obtain ⟨p2,z2,q2,s2,r2⟩:=R.lst (i:=c) (xs:=ys) (by unfold qAH;rw [e2])
     rw [hp] at q1;cases q1
     rw [hq] at q2;cases q2
     obtain ⟨i1,v1,t1,_⟩:=I.list s1
     obtain ⟨i2,v2,t2,_⟩:=I.list s2
     split at e
     ·rename_i hac
      subst hac
      rw [hp] at hq;cases hq
      cases e
      have rc:=RcAt.lists (A:=A) (e:=fun _=>true) t1.isList t1.isList rfl hu0 fun j _ _=>EqAt.same _
      have ne:=RcNeAt.lists (A:=A) (e:=fun _=>true) t1.isList t1.isList rfl hu0 fun j _ _=>EqAt.same _
      have al:∀ l:List Nat,(l.all fun _=>true)=true:=fun l=>by simp
      rw [al] at rc ne
      exact ⟨.same _,rc,ne⟩
     ·split at e
      ·obtain ⟨bs,e3,rfl⟩:=Option.map_eq_some_iff.mp e
       obtain ⟨m1,m2,he⟩:=item r1 r2 v1 v2 e3
       have hsz:i1.toArray.size=i2.toArray.size:=by simp;omega
       have rc:=RcAt.lists (A:=A) (e:=fun j=>bs.getD j true) t1.isList t2.isList hsz hu0 he
       have ne:=RcNeAt.lists (A:=A) (e:=fun j=>bs.getD j true) t1.isList t2.isList hsz hu0 he
       have sz:i1.toArray.size=bs.length:=by simpa using m1
       rw [sz,qD8] at rc ne
       refine ⟨?_,rc,ne⟩
       by_cases hpq:p=q
       ·rw [same hpq];subst hpq;exact .same _
       ·exact .of_refs hpq rc
      ·rename_i hl
       cases e
       have n1:=Paired.length r1
       have n2:=Paired.length r2
       have n3:=v1.length
       have n4:=v2.length
       have hsz:(i1.toArray.size != i2.toArray.size)=true:=by simp;omega
       have rc:=RcAt.lists_lengths (A:=A) t1.isList t2.isList hsz hu0
       have ne:=RcNeAt.lists_lengths (A:=A) t1.isList t2.isList hsz hu0
       refine ⟨?_,rc,ne⟩
       by_cases hpq:p=q
       ·exact absurd (same hpq) (by decide)
       ·exact .of_refs hpq rc
    ·rename_i xs ys e1 e2
     obtain ⟨p1,z1,q1,s1,r1⟩:=R.tup (i:=a) (xs:=xs) (by unfold qAT;rw [e1])
     obtain ⟨p2,z2,q2,s2,r2⟩:=R.tup (i:=c) (xs:=ys) (by unfold qAT;rw [e2])
     rw [hp] at q1;cases q1
     rw [hq] at q2;cases q2
     obtain ⟨i1,v1,t1,_⟩:=I.tuple s1
     obtain ⟨i2,v2,t2,_⟩:=I.tuple s2
     have t1':s.heap.IsTuple p i1.toArray:=t1
     have t2':s.heap.IsTuple q i2.toArray:=t2
     split at e
     ·rename_i hac
      subst hac
      rw [hp] at hq;cases hq
      cases e
      have rc:=RcAt.tuples (A:=A) (e:=fun _=>true) t1' t1' hu0 fun j _ _=>EqAt.same _
      have ne:=RcNeAt.tuples (A:=A) (e:=fun _=>true) t1' t1' hu0 fun j _ _=>EqAt.same _
      have al:∀ l:List Nat,(l.all fun _=>true)=true:=fun l=>by simp
      rw [al] at rc ne
      simp only [beq_self_eq_true,Bool.and_self] at rc ne
      exact ⟨.same _,rc,ne⟩
     ·split at e
      ·obtain ⟨bs,e3,rfl⟩:=Option.map_eq_some_iff.mp e
       obtain ⟨m1,m2,he⟩:=item r1 r2 v1 v2 e3
       have hsz:i1.toArray.size=i2.toArray.size:=by simp;omega
       have rc:=RcAt.tuples (A:=A) (e:=fun j=>bs.getD j true) t1' t2' hu0 he
       have ne:=RcNeAt.tuples (A:=A) (e:=fun j=>bs.getD j true) t1' t2' hu0 he
       have sz:i1.toArray.size=bs.length:=by simpa using m1
       have sz2:i2.toArray.size=bs.length:=by simpa using m2
       rw [sz,sz2,Nat.min_self,qD8,beq_self_eq_true,Bool.and_true] at rc ne
       refine ⟨?_,rc,ne⟩
       by_cases hpq:p=q
       ·rw [same hpq];subst hpq;exact .same _
       ·exact .of_refs hpq rc
      ·rename_i hl
       have n1:=Paired.length r1
       have n2:=Paired.length r2
       have n3:=v1.length
       have n4:=v2.length
       obtain ⟨bs,e3,hb⟩:=Option.map_eq_some_iff.mp e
       subst hb
       have hsz:(i1.toArray.size==i2.toArray.size)=false:=by simp;omega
       obtain ⟨m1,m2,he⟩:=item (qAk ys.length r1) (qAk xs.length r2) (v1.take ys.length) (v2.take xs.length) e3
       have he':∀ (j:Nat) (h1:j < i1.toArray.size) (h2:j < i2.toArray.size),EqAt A.in1 s i1.toArray[j] i2.toArray[j] (bs.getD j true):=fun j h1 h2=>by
        have g1:j < i1.length:=by simpa using h1
        have g2:j < i2.length:=by simpa using h2
        have:=he j (by simp;omega) (by simp;omega)
        simpa using this
       have rc:=RcAt.tuples (A:=A) (e:=fun j=>bs.getD j true) t1' t2' hu0 he'
       have ne:=RcNeAt.tuples (A:=A) (e:=fun j=>bs.getD j true) t1' t2' hu0 he'
       rw [hsz,Bool.and_false] at rc ne
       refine ⟨?_,rc,ne⟩
       by_cases hpq:p=q
       ·exact absurd (same hpq) (by decide)
       ·exact .of_refs hpq rc
    ·rename_i f1 xs ys e1 e2
     cases e
     obtain ⟨p1,z1,q1,s1,r1⟩:=R.lst (i:=a) (xs:=xs) (by unfold qAH;rw [e1])
     obtain ⟨p2,z2,q2,s2,r2⟩:=R.tup (i:=c) (xs:=ys) (by unfold qAT;rw [e2])
     rw [hp] at q1;cases q1
     rw [hq] at q2;cases q2
     obtain ⟨i1,_,t1,_⟩:=I.list s1
     obtain ⟨i2,_,t2,_⟩:=I.tuple s2
     exact ⟨.list_tuple t1.isList t2 hu0,.list_tuple t1.isList t2 hu0,.list_tuple t1.isList t2 hu0⟩
    ·rename_i xs f1 ys e1 e2
     cases e
     obtain ⟨p1,z1,q1,s1,r1⟩:=R.tup (i:=a) (xs:=xs) (by unfold qAT;rw [e1])
     obtain ⟨p2,z2,q2,s2,r2⟩:=R.lst (i:=c) (xs:=ys) (by unfold qAH;rw [e2])
     rw [hp] at q1;cases q1
     rw [hq] at q2;cases q2
     obtain ⟨i1,_,t1,_⟩:=I.tuple s1
     obtain ⟨i2,_,t2,_⟩:=I.list s2
     exact ⟨.tuple_list t1 t2.isList hu0,.tuple_list t1 t2.isList hu0,.tuple_list t1 t2.isList hu0⟩
    ·cases e
   | non=>
    cases qAy ry;cases rw'
    rcases refs hp (show (if (items h a).isSome&&qAq V.non then some false else none)=some b from e) with ⟨rfl,its,t | t⟩
    ·exact ⟨.list_none t hu0,.list_none t hu0,.list_none t hu0⟩
    ·exact ⟨.tuple_none t hu0,.tuple_none t hu0,.tuple_none t hu0⟩
   | bl j=>
    cases qA3 ry;cases rw'
    rcases refs hp (show (if (items h a).isSome&&qAq (V.bl j) then some false else none)=some b from e) with ⟨rfl,its,t | t⟩
    ·exact ⟨.list_bool _ t hu0,.list_bool _ t hu0,.list_bool _ t hu0⟩
    ·exact ⟨.tuple_bool _ t hu0,.tuple_bool _ t hu0,.tuple_bool _ t hu0⟩
   | int j=>
    cases qAB ry;obtain ⟨t',rfl⟩:=rw'
    rcases refs hp (show (if (items h a).isSome&&qAq (V.int j) then some false else none)=some b from e) with ⟨rfl,its,t | t⟩
    ·exact ⟨.list_int _ _ t hu0,.list_int _ _ t hu0,.list_int _ _ t hu0⟩
    ·exact ⟨.tuple_int _ _ t hu0,.tuple_int _ _ t hu0,.tuple_int _ _ t hu0⟩
   | str j=>
    cases qA8 ry;obtain ⟨t',rfl⟩:=rw'
    rcases refs hp (show (if (items h a).isSome&&qAq (V.str j) then some false else none)=some b from e) with ⟨rfl,its,t | t⟩
    ·exact ⟨.list_str _ _ t hu0,.list_str _ _ t hu0,.list_str _ _ t hu0⟩
    ·exact ⟨.tuple_str _ _ t hu0,.tuple_str _ _ t hu0,.tuple_str _ _ t hu0⟩
   | _=>exact False.elim ry
  | non=>
   cases y with
   | ref c=>
    obtain ⟨p,rfl,hp⟩:=qAI ry
    cases rw'
    cases qAy rx;cases ru
    rcases refs hp (show (if (items h c).isSome&&qAq V.non then some false else none)=some b from (Bool.and_comm _ _) ▸ e) with ⟨rfl,its,t | t⟩
    ·exact ⟨.none_list t hu0,.none_list t hu0,.none_list t hu0⟩
    ·exact ⟨.none_tuple t hu0,.none_tuple t hu0,.none_tuple t hu0⟩
   | _=>exact qED e rx ry ru rw'
  | bl i=>
   cases y with
   | ref c=>
    obtain ⟨p,rfl,hp⟩:=qAI ry
    cases rw'
    cases qA3 rx;cases ru
    rcases refs hp (show (if (items h c).isSome&&qAq (V.bl i) then some false else none)=some b from (Bool.and_comm _ _) ▸ e) with ⟨rfl,its,t | t⟩
    ·exact ⟨.bool_list _ t hu0,.bool_list _ t hu0,.bool_list _ t hu0⟩
    ·exact ⟨.bool_tuple _ t hu0,.bool_tuple _ t hu0,.bool_tuple _ t hu0⟩
   | _=>exact qED e rx ry ru rw'
  | int i=>
   cases y with
   | ref c=>
    obtain ⟨p,rfl,hp⟩:=qAI ry
    cases rw'
    cases qAB rx;obtain ⟨t',rfl⟩:=ru
    rcases refs hp (show (if (items h c).isSome&&qAq (V.int i) then some false else none)=some b from (Bool.and_comm _ _) ▸ e) with ⟨rfl,its,t | t⟩
    ·exact ⟨.int_list _ _ t hu0,.int_list _ _ t hu0,.int_list _ _ t hu0⟩
    ·exact ⟨.int_tuple _ _ t hu0,.int_tuple _ _ t hu0,.int_tuple _ _ t hu0⟩
   | _=>exact qED e rx ry ru rw'
  | str i=>
   cases y with
   | ref c=>
    obtain ⟨p,rfl,hp⟩:=qAI ry
    cases rw'
    cases qA8 rx;obtain ⟨t',rfl⟩:=ru
    rcases refs hp (show (if (items h c).isSome&&qAq (V.str i) then some false else none)=some b from (Bool.and_comm _ _) ▸ e) with ⟨rfl,its,t | t⟩
    ·exact ⟨.str_list _ _ t hu0,.str_list _ _ t hu0,.str_list _ _ t hu0⟩
    ·exact ⟨.str_tuple _ _ t hu0,.str_tuple _ _ t hu0,.str_tuple _ _ t hu0⟩
   | _=>exact qED e rx ry ru rw'
  | _=>cases xc<;>exact False.elim rx
end
end PI
namespace PI
open PySem PySem.Spec PyProof.Rows PySem.SeqAt
open L2 (V Hp HO Cx PE PT PA PS PSs PG TE TT TA TS VK upd qAL qAJ SqL SqT qEk Inv RelV Vals EP TP AP SP OpR qAt R2)
theorem qCN {φ:List Addr}:∀ {x w:V},qAq x=true -> rv φ x w -> w=x
 | .non,_,_,h=>qAy h
 | .bl _,_,_,h=>qA3 h
 | .int _,_,_,h=>qAB h
 | .str _,_,_,h=>qA8 h
 | .ref _,_,f,_=>by cases f
 | .byt _,_,f,_=>by cases f
 | .flt _,_,f,_=>by cases f
 | .ty _,_,f,_=>by cases f
theorem qAw {φ:List Addr}:∀ {xs ws:List V},xs.all qAq=true -> rvs φ xs ws -> ws=xs
 | _,_,_,.nil=>rfl
 | x::xs,w::ws,f,.cons r t=>by
  simp only [List.all_cons,Bool.and_eq_true] at f
  rw [qCN f.1 r,qAw f.2 t]
theorem qB8:∀ x:V,L2.flatV x=qAq x:=by intro x;cases x<;>rfl
theorem qCF (xs:List V):xs.all L2.flatV=xs.all qAq:=by
 induction xs with
 | nil=>rfl
 | cons x xs ih=>rw [List.all_cons,List.all_cons,ih,qB8]
section
variable {X:Cx} {G:List Addr} {F:Nat -> List V -> AH -> RV}
noncomputable def opC:COp -> CmpOp
 | .lt=>.Lt | .le=>.LtE | .gt=>.Gt | .ge=>.GtE | .eq=>.Eq | .ne=>.NotEq | .inn=>.In | .notin=>.NotIn | .is=>.Is | .isnot=>.IsNot
variable (X G) in
noncomputable def qJo (op:COp):R2:=fun x y H Q=>∃ φ h xa ya b,Rl X.K G φ h H/\rv φ xa x/\rv φ ya y/\qHQ op xa ya h=some b/\Q (.bl b) H
theorem qFf {φ:List Addr} {x y:V} (r:rv φ x y):decide (x=V.non)=decide (y=V.non):=by
 by_cases hx:x=V.non
 ·subst hx;cases qAy r;rfl
 ·have hy:y≠V.non:=fun hy=>by subst hy;cases x<;>first | exact hx rfl | exact False.elim r
  rw [decide_eq_false hx,decide_eq_false hy]
theorem qGM (kvs:List (Int×V)) (i:Int):((kvs.map kk).any fun kv=>decide (kv.1=Sum.inl i))=qG6 kvs i:=by
 unfold qG6
 rw [List.any_map]
 congr 1
 funext p
 show decide ((Sum.inl p.1:L2.Key)=Sum.inl i)=_
 rw [Bool.eq_iff_iff]
 simp
theorem qKD (kvs:List (Int×V)) (i:Int) (v:V):L2.putK (kvs.map kk) (Sum.inl i:L2.Key) v=(qC9 kvs i v).map kk:=by
 unfold L2.putK qC9
 rw [qGM]
 split
 ·rw [List.map_map,List.map_map]
  congr 1
  funext p
  show (if (Sum.inl p.1:L2.Key)=Sum.inl i then ((Sum.inl p.1:L2.Key),v) else kk p)=kk (if p.1=i then (p.1,v) else p)
  by_cases h:p.1=i
  ·rw [if_pos (by rw [h]),if_pos h];rfl
  ·rw [if_neg (fun z=>h (Sum.inl.inj z)),if_neg h]
 ·rw [List.map_append];rfl
theorem qA0 (hu:X.A.units + 8 < cLine):∀ op,OpR X (compareOp (opC op)) (qJo X G op):=by
 intro op pins s σ H x y v u Q I rx ry ⟨φ,h,xa,ya,b,R,r1,r2,e,q⟩
 have hin:∀ (neg:Bool) {p:Nat} {ya':V} (e:(match items h p with | some xs=>if qAq xa&&xs.all qAq then some (if neg then !(xs.any fun y=>L2.eqV y xa) else xs.any fun y=>L2.eqV y xa) else none | none=>none)=some b),rv φ (.ref p) y -> L2.rIn X.K neg x y H Q:=by
  intro neg p ya' e r2
  split at e
  ·rename_i xs ex
   split at e
   ·rename_i hf
    simp only [Bool.and_eq_true] at hf
    obtain ⟨a,ys,ha,hs,rs⟩:=R.its ex
    obtain ⟨a',rfl,ha'⟩:=qAI r2
    rw [ha] at ha';cases ha'
    have e1:=qCN hf.1 r1
    have e2:=qAw hf.2 rs
    subst e1 e2
    refine ⟨a,ys,rfl,hs,by rw [qB8];exact hf.1,by rw [qCF];exact hf.2,?_⟩
    cases e
    exact q
   ·cases e
  ·cases e
 cases op with
 | lt=>
  replace e:=qCk e
  obtain ⟨i,j,rfl,rfl,rfl⟩:=e
  cases qAB r1;cases qAB r2
  exact L2.op_lt pins s σ H _ _ v u Q I rx ry ⟨_,_,rfl,rfl,q⟩
 | le=>
  replace e:=qCk e
  obtain ⟨i,j,rfl,rfl,rfl⟩:=e
  cases qAB r1;cases qAB r2
  exact L2.op_le pins s σ H _ _ v u Q I rx ry ⟨_,_,rfl,rfl,q⟩
 | gt=>
  replace e:=qCk e
  obtain ⟨i,j,rfl,rfl,rfl⟩:=e
  cases qAB r1;cases qAB r2
  exact L2.op_gt pins s σ H _ _ v u Q I rx ry ⟨_,_,rfl,rfl,q⟩
 | ge=>
  replace e:=qCk e
  obtain ⟨i,j,rfl,rfl,rfl⟩:=e
  cases qAB r1;cases qAB r2
  exact L2.op_ge pins s σ H _ _ v u Q I rx ry ⟨_,_,rfl,rfl,q⟩
 | eq=>exact (qGP I R 4 (by omega) (show eqD h 4 xa ya=some b from e) r1 r2 rx ry).rc _ _ _ _ ⟨.bl b,H,I,rfl,q⟩
 | ne=>
  have e':(eqD h 4 xa ya).map (!·)=some b:=e
  obtain ⟨c,e1,rfl⟩:=Option.map_eq_some_iff.mp e'
  exact (qGP I R 4 (by omega) e1 r1 r2 rx ry).ne _ _ _ _ ⟨.bl (!c),H,I,rfl,q⟩
 | inn=>
  replace e:=qFQ e
  obtain ⟨p,rfl,e⟩:=e
  cases ei:items h p with
  | some xs=>exact L2.op_in_seq pins s σ H x y v u Q I rx ry (hin false (ya':=.non) (by rw [ei] at e ⊢;exact e) r2)
  | none=>
   rw [ei] at e
   dsimp only at e
   split at e
   ·rename_i kvs ed
    split at e
    ·rename_i i
     cases e
     obtain ⟨a,ea,_,hH⟩:=R.dct ed
     obtain ⟨a',rfl,ha'⟩:=qAI r2
     rw [ea] at ha';cases ha'
     cases qAB r1
     cases ry
     refine L2.d_in (by omega) I (L2.DGet.k (k:=.inl i) hH) rx fun s' I'=>⟨.bl (L2.valV (kvs.map kk) (Sum.inl i)).isSome,H,I',rfl,?_⟩
     rw [<- L2.valV_any,qGM]
     exact q
    ·cases e
   ·cases e
 | notin=>
  replace e:=qFQ e
  obtain ⟨p,rfl,e⟩:=e
  exact L2.op_notIn_seq pins s σ H x y v u Q I rx ry (hin true (ya':=.non) (by exact e) r2)
 | is=>
  rcases qGK (show isC xa ya id=some b from e) with ⟨rfl,rfl⟩ | ⟨c,d,rfl,rfl,rfl⟩
  ·cases qAy r2
   rw [qFf r1] at q
   exact L2.op_isN pins s σ H x _ v u Q I rx ry ⟨rfl,q⟩
  ·cases qA3 r1;cases qA3 r2
   cases (show v=Value.bool c from rx);cases (show u=Value.bool d from ry)
   exact PySem.wpAny_is_plain rfl ⟨.bl (c==d),H,I,(by cases c<;>cases d<;>rfl),q⟩
 | isnot=>
  rcases qGK (show isC xa ya (!·)=some b from e) with ⟨rfl,rfl⟩ | ⟨c,d,rfl,rfl,rfl⟩
  ·cases qAy r2
   rw [qFf r1] at q
   exact L2.op_notN pins s σ H x _ v u Q I rx ry ⟨rfl,q⟩
  ·cases qA3 r1;cases qA3 r2
   cases (show v=Value.bool c from rx);cases (show u=Value.bool d from ry)
   exact PySem.wpAny_isNot_plain rfl ⟨.bl (!(c==d)),H,I,(by cases c<;>cases d<;>rfl),q⟩
theorem qDi:∀ {bs:List Bool} {us:List Value},Vals (bs.map V.bl) us -> LSm.BoolsAre us bs
 | [],_,.nil=>.nil
 | b::bs,u::us,.cons r t=>by
  cases (show u=Value.bool b from r)
  exact .cons b (qDi t)
theorem qFt {A:Around} {E:Value -> Shared -> Prop} {prog:Program} {w:World} {s:Shared} {l:Addr} {vs:List Value} {bs:List Bool} {Q:Value -> Shared -> Prop} (hh:A.handled=none) (hl:s.heap.IsList l vs.toArray) (hb:LSm.BoolsAre vs bs)
  (h:∀ h' tk,(∀ b x,s.heap.get? b=some x -> h'.get? b=some x) -> Q (.bool (bs.all id)) { s with heap:=h',toks:=tk }):wpAny (model prog w) A (call (.builtin "all") [.ref l]) Q E s:=by
 have hlt:l < s.heap.objs.size:=by obtain ⟨_,e,_⟩:=hl;exact Heap.lt_size e
 refine call_all_walk (wpAny_pyIter_list hl ?_)
 refine ⟨s.heap.objs.size,[s.heap.objs.size,l],[s.heap.objs.size],vs.toArray.size,_,_,fun i=>(bs[i]?).getD true,rfl,Walks.list (A:=A.in1) hh _ l (Nat.ne_of_lt hlt) vs.toArray,
  ⟨⟨_,Heap.get?_push_size _ rfl,rfl,rfl⟩,hl.push _⟩,fun i v s' Q' E' hP hQ=>?_,fun h' tk hk=>?_⟩
 ·obtain ⟨b,e,rfl⟩:=hb.get i v (by simpa using hP)
  simp only [e,Option.getD_some] at hQ
  exact wpAny_truthy_bool hQ
 ·have e:((List.range vs.toArray.size).all fun i=>(bs[i]?).getD true)=bs.all id:=by
   rw [List.size_toArray,hb.length];exact LSm.range_all bs
  rw [e]
  exact h h' tk (LSm.kept_iter hk)
theorem qF4 {A:Around} {E:Value -> Shared -> Prop} {prog:Program} {w:World} {s:Shared} {l:Addr} {vs:List Value} {bs:List Bool} {Q:Value -> Shared -> Prop} (hh:A.handled=none) (hl:s.heap.IsList l vs.toArray) (hb:LSm.BoolsAre vs bs)
  (h:∀ h' tk,(∀ b x,s.heap.get? b=some x -> h'.get? b=some x) -> Q (.bool (bs.any id)) { s with heap:=h',toks:=tk }):wpAny (model prog w) A (call (.builtin "any") [.ref l]) Q E s:=by
 have hlt:l < s.heap.objs.size:=by obtain ⟨_,e,_⟩:=hl;exact Heap.lt_size e
 refine call_any_walk (wpAny_pyIter_list hl ?_)
 refine ⟨s.heap.objs.size,[s.heap.objs.size,l],[s.heap.objs.size],vs.toArray.size,_,_,fun i=>(bs[i]?).getD false,rfl,Walks.list (A:=A.in1) hh _ l (Nat.ne_of_lt hlt) vs.toArray,
  ⟨⟨_,Heap.get?_push_size _ rfl,rfl,rfl⟩,hl.push _⟩,fun i v s' Q' E' hP hQ=>?_,fun h' tk hk=>?_⟩
 ·obtain ⟨b,e,rfl⟩:=hb.get i v (by simpa using hP)
  simp only [e,Option.getD_some] at hQ
  exact wpAny_truthy_bool hQ
 ·have e:((List.range vs.toArray.size).any fun i=>(bs[i]?).getD false)=bs.any id:=by
   rw [List.size_toArray,hb.length];exact LSm.range_any bs
  rw [e]
  exact h h' tk (LSm.kept_iter hk)
theorem qEl:∀ {xs:List V} {is:List Int} {us:List Value},qBa xs=some is -> Vals xs us -> us.length=is.length/\∀ i v,us[i]?=some v -> NumOf (is.getD i 0) v
 | [],is,_,e,.nil=>by cases e;exact ⟨rfl,fun i v e=>by simp at e⟩
 | x::r,is,u::us,e,.cons a t=>by
  unfold qBa at e
  split at e
  ·rename_i e';cases e'
  ·rename_i e';cases e'
   obtain ⟨js,e1,rfl⟩:=Option.map_eq_some_iff.mp e
   obtain ⟨l,g⟩:=qEl e1 t
   refine ⟨by simp [l],fun i v q=>?_⟩
   cases i with
   | zero=>
    cases q
    obtain ⟨w,rfl⟩:=a
    exact .inl ⟨w,rfl⟩
   | succ i=>exact g i v q
  ·rename_i e';cases e'
   obtain ⟨js,e1,rfl⟩:=Option.map_eq_some_iff.mp e
   obtain ⟨l,g⟩:=qEl e1 t
   refine ⟨by simp [l],fun i v q=>?_⟩
   cases i with
   | zero=>
    cases q
    exact .inr ⟨_,a,rfl⟩
   | succ i=>exact g i v q
  ·cases e
theorem qCp:∀ {xs:List V} {is:List Int},qBa xs=some is -> xs.all qAq=true
 | [],_,_=>rfl
 | x::r,is,e=>by
  unfold qBa at e
  split at e
  ·rename_i e';cases e'
  ·rename_i e';cases e'
   obtain ⟨js,e1,rfl⟩:=Option.map_eq_some_iff.mp e
   rw [List.all_cons,qCp e1];rfl
  ·rename_i e';cases e'
   obtain ⟨js,e1,rfl⟩:=Option.map_eq_some_iff.mp e
   rw [List.all_cons,qCp e1];rfl
  ·cases e
theorem qFp {A:Around} {E:Value -> Shared -> Prop} {prog:Program} {w:World} {s:Shared} {l:Addr} {vs:List Value} {xs:List V} {is:List Int} {Q:Value -> Shared -> Prop} (hh:A.handled=none) (hl:s.heap.IsList l vs.toArray) (ei:qBa xs=some is) (hb:Vals xs vs)
  (h:∀ h' tk t',(∀ b x,s.heap.get? b=some x -> h'.get? b=some x) -> Q (.int is.sum t') { s with heap:=h',toks:=tk }):wpAny (model prog w) A (call (.builtin "sum") [.ref l]) Q E s:=by
 have hlt:l < s.heap.objs.size:=by obtain ⟨_,e,_⟩:=hl;exact Heap.lt_size e
 obtain ⟨hlen,hn⟩:=qEl ei hb
 refine call_sum_walkAnyB (wpAny_pyIter_list hl ?_)
 refine ⟨s.heap.objs.size,_,_,_,_,_,_,fun i=>is.getD i 0,rfl,(Walks.list (prog:=prog) (w:=w) (A:=A.in1) hh s.heap.objs.size l (Nat.ne_of_lt hlt) vs.toArray).toS,
  ⟨⟨_,Heap.get?_push_size _ rfl,rfl,rfl⟩,hl.push _⟩,fun b hb=>?_,fun i v hP=>hn i v (by simpa using hP),fun s' t' hm=>?_⟩
 ·rcases List.mem_cons.mp hb with rfl | hb
  ·exact Heap.lt_size (Heap.get?_push_size _ rfl)
  ·obtain rfl:=List.mem_singleton.mp hb
   obtain ⟨_,e,_⟩:=hl
   exact Heap.lt_size (Heap.get?_push_of_some _ e)
 ·obtain ⟨h',g',d',tk',os'⟩:=s'
  have e1:g'=s.gens:=hm.gens
  have e2:d'=s.drawn:=hm.drawn
  have e3:os'=s.os:=hm.os
  subst e1 e2 e3
  have e:=preSum_getD is vs.toArray.size
  rw [List.size_toArray,hlen,List.take_of_length_le (Nat.le_refl _),<- hlen,<- List.size_toArray] at e
  rw [e]
  exact h h' tk' t' fun b o e=>hm.heap b o (fun hb=>absurd (Heap.lt_size e) ((List.mem_singleton.mp hb) ▸ Nat.lt_irrefl _)) (Heap.get?_push_of_some _ e)
theorem qBD:∀ {xs:List V} {is:List Int},qBC xs=some is -> xs=is.map V.int
 | [],is,e=>by cases e;rfl
 | .int i::r,is,e=>by
  simp only [qBC] at e
  obtain ⟨js,e1,rfl⟩:=Option.map_eq_some_iff.mp e
  rw [qBD e1]
  rfl
 | .non::_,_,e=>by cases e
 | .bl _::_,_,e=>by cases e
 | .str _::_,_,e=>by cases e
 | .ref _::_,_,e=>by cases e
 | .byt _::_,_,e=>by cases e
 | .flt _::_,_,e=>by cases e
 | .ty _::_,_,e=>by cases e
theorem qBy:∀ {xs:List V} {is:List Bool},qBs xs=some is -> xs=is.map V.bl
 | [],is,e=>by cases e;rfl
 | .bl i::r,is,e=>by
  simp only [qBs] at e
  obtain ⟨js,e1,rfl⟩:=Option.map_eq_some_iff.mp e
  rw [qBy e1]
  rfl
 | .non::_,_,e=>by cases e
 | .int _::_,_,e=>by cases e
 | .str _::_,_,e=>by cases e
 | .ref _::_,_,e=>by cases e
 | .byt _::_,_,e=>by cases e
 | .flt _::_,_,e=>by cases e
 | .ty _::_,_,e=>by cases e
theorem qEY {φ:List Addr}:∀ {xs:List V},xs.all qAq=true -> rvs φ xs xs
 | [],_=>.nil
 | x::xs,h=>by
  simp only [List.all_cons,Bool.and_eq_true] at h
  refine .cons ?_ (qEY h.2)
  cases x<;>first | rfl | exact trivial | (cases h.1)
theorem qBb:∀ {us:List Value} {ns:List Int},IntsAre us ns -> Vals (ns.map V.int) us
 | _,_,.nil=>.nil
 | _,_,.cons n t r=>.cons ⟨_,rfl⟩ (qBb r)
theorem qCE (is:List Int):(is.map V.int).all qAq=true:=by simp [qAq]
theorem qDR (is:List Bool):(is.map V.bl).all qAq=true:=by simp [qAq]
noncomputable def fnB:BF -> Value
 | .len=>.builtin "len" | .sum=>.builtin "sum" | .all=>.builtin "all" | .any=>.builtin "any" | .max=>.builtin "max" | .min=>.builtin "min" | .abs=>.builtin "abs"
 | .list=>.type "list" | .int=>.type "int" | .tuple=>.type "tuple" | .range=>.type "range" | .sorted=>.builtin "sorted" | .repr=>.builtin "repr" | .bits=>.builtin "int.bit_length"
variable (X G) in
noncomputable def qNF (f:BF):List V -> Hp -> VK -> Prop:=fun xs H Q=>∃ φ h ws v h',Rl X.K G φ h H/\rvs φ ws xs/\qLt f ws h=.ok (v,h')/\∀ φ' H' w,Ext φ φ' -> Rl X.K G φ' h' H' -> rv φ' v w -> Q w H'
theorem qEg {φ:List Addr} {hp:Heap} {x v:V} {u:Value} {d:PyData} (e:qHp x=some d) (r:rv φ x v) (ru:RelV v u):(∃ as,Reads hp u d as)/\d.hasDict=false/\d.depth<=0:=by
 unfold qHp at e
 split at e
 ·cases e;cases qAy r;cases (show u=Value.none from ru);exact ⟨⟨_,.none⟩,rfl,Nat.le_refl _⟩
 ·cases e;cases qA3 r;cases (show u=Value.bool _ from ru);exact ⟨⟨_,.bool _⟩,rfl,Nat.le_refl _⟩
 ·cases e;cases qAB r;obtain ⟨t,rfl⟩:=ru;exact ⟨⟨_,.int _ _⟩,rfl,Nat.le_refl _⟩
 ·cases e;cases qA8 r;obtain ⟨t,rfl⟩:=ru;exact ⟨⟨_,.str _ _⟩,rfl,Nat.le_refl _⟩
 ·cases e
theorem qEc {φ:List Addr} {hp:Heap} {n:Nat} {f:V -> Option PyData} (hf:∀ x v u d,f x=some d -> rv φ x v -> RelV v u -> (∃ as,Reads hp u d as)/\d.hasDict=false/\d.depth<=n):∀ (xs ys:List V) (us:List Value) (ds:List PyData),qFV f xs=some ds -> rvs φ xs ys -> Vals ys us -> (∃ as,ReadsAll hp us ds as)/\PyData.hasDictAll ds=false/\PyData.depthAll ds<=n
 | [],ys,us,ds,e,r,ru=>by
  cases e;cases r;cases ru
  exact ⟨⟨_,.nil⟩,rfl,Nat.zero_le _⟩
 | x::xs,ys,us,ds,e,r,ru=>by
  unfold qFV at e
  obtain ⟨d,e1,e⟩:=Option.bind_eq_some_iff.mp e
  obtain ⟨ds',e2,rfl⟩:=Option.map_eq_some_iff.mp e
  cases r with
  | cons r1 r2=>
   cases ru with
   | cons u1 u2=>
    obtain ⟨⟨as,q1⟩,q2,q3⟩:=hf _ _ _ _ e1 r1 u1
    obtain ⟨⟨bs,p1⟩,p2,p3⟩:=qEc hf xs _ _ ds' e2 r2 u2
    exact ⟨⟨_,.cons q1 p1⟩,by show (d.hasDict||PyData.hasDictAll ds')=false;rw [q2,p2];rfl,Nat.max_le.mpr ⟨q3,p3⟩⟩
theorem qFK {pins:List (Addr×Obj)} {s:Shared} {σ:L2.St} {H:Hp} {φ:List Addr} {h:AH} (I:Inv X pins σ H s) (R:Rl X.K G φ h H):∀ (n:Nat) (x v:V) (u:Value) (d:PyData),dat h n x=some d -> rv φ x v -> RelV v u -> (∃ as,Reads s.heap u d as)/\d.hasDict=false/\d.depth<=n
 | 0,x,v,u,d,e,r,ru=>qEg e r ru
 | n + 1,x,v,u,d,e,r,ru=>by
  unfold dat at e
  split at e
  ·rename_i a
   obtain ⟨p,rfl,hp⟩:=qAI r
   cases (show u=Value.ref p from ru)
   split at e
   ·rename_i f xs ey
    obtain ⟨ds,e1,rfl⟩:=Option.map_eq_some_iff.mp e
    obtain ⟨p',zs,hp',hs,rs⟩:=R.lst (show qAH h a=some xs by unfold qAH;rw [ey])
    rw [hp] at hp';cases hp'
    obtain ⟨its,rv',pl,_⟩:=I.list hs
    obtain ⟨o,ho,hc,m,hd⟩:=pl.isList
    obtain ⟨⟨as,q1⟩,q2,q3⟩:=qEc (qFK I R n) xs zs its ds e1 rs rv'
    exact ⟨⟨_,.list ho hc hd (by simpa using q1)⟩,q2,Nat.succ_le_succ q3⟩
   ·rename_i xs ey
    obtain ⟨ds,e1,rfl⟩:=Option.map_eq_some_iff.mp e
    obtain ⟨p',zs,hp',hs,rs⟩:=R.tup (show qAT h a=some xs by unfold qAT;rw [ey])
    rw [hp] at hp';cases hp'
    obtain ⟨its,rv',pl,_⟩:=I.tuple hs
    obtain ⟨o,ho,hc,m,hd⟩:=pl
    obtain ⟨⟨as,q1⟩,q2,q3⟩:=qEc (qFK I R n) xs zs its ds e1 rs rv'
    exact ⟨⟨_,.tuple ho hc hd (by simpa using q1)⟩,q2,Nat.succ_le_succ q3⟩
   ·cases e
  ·obtain ⟨a,b,c⟩:=qEg (hp:=s.heap) e r ru
   exact ⟨a,b,Nat.le_trans c (Nat.zero_le _)⟩
theorem qG8 {pins:List (Addr×Obj)} {s:Shared} {σ:L2.St} {H:Hp} {φ:List Addr} {h:AH} (I:Inv X pins σ H s) (R:Rl X.K G φ h H) (x v:V) (u:Value) (d:PyData) (e:qHU h x=some d) (r:rv φ x v) (ru:RelV v u):
  (∃ as,Reads s.heap u d as/\(d.hasDict=true -> sysModules∉as))/\d.depth<=3:=by
 have go:∀ {as:List Addr},Reads s.heap u d as -> d.hasDict=false -> (∃ as,Reads s.heap u d as/\(d.hasDict=true -> sysModules∉as)):=fun {as} q z=>⟨as,q,fun y=>by rw [z] at y;cases y⟩
 unfold qHU at e
 split at e
 ·rename_i a
  split at e
  ·rename_i ey
   cases e
   obtain ⟨p,hp,hs⟩:=R.at ey
   obtain ⟨q,rfl,hq⟩:=qAI r
   rw [hp] at hq;cases hq
   cases (show u=Value.ref p from ru)
   obtain ⟨_,hne,vs,hkv,o,es,ep,h1,h2,h3,h4,h5,h6⟩:=(show L2.ObjOk X.prog X.w H s.heap p (.dK []) from I.hok p _ hs)
   cases hkv
   have he:es.toList=[]:=by cases hh:es.toList with | nil=>rfl | cons a b=>rw [hh] at h5;cases h5
   refine ⟨⟨_,.dict (as:=[]) (bs:=[]) h1 h2.1 h3 (by rw [he];exact .nil) (by rw [he];exact .nil),fun _ z=>?_⟩,by decide⟩
   simp at z
   rw [<- z] at hne
   simp at hne
  ·obtain ⟨⟨as,q1⟩,q2,q3⟩:=qFK I R 3 _ v u d e r ru
   exact ⟨go q1 q2,q3⟩
 ·obtain ⟨⟨as,q1⟩,q2,q3⟩:=qEg (hp:=s.heap) e r ru
  exact ⟨go q1 q2,Nat.le_trans q3 (Nat.zero_le _)⟩
theorem qE6 {pins:List (Addr×Obj)} {s:Shared} {σ:L2.St} {H:Hp} {φ:List Addr} {h:AH} (I:Inv X pins σ H s) (R:Rl X.K G φ h H):∀ (xs ys:List V) (us:List Value) (ds:List PyData),qFV (qHU h) xs=some ds -> rvs φ xs ys -> Vals ys us ->
  (∃ as,ReadsAll s.heap us ds as)/\PyData.depthAll ds<=3/\(PyData.showableAll ds=true -> (∀ t∈PyData.shownAll ds,t.length<=sizeLine) -> ∃ bs,ReadAtMost s.heap (PyData.depthAll ds) bs/\ReprAllK X.prog X.w bs s.heap (PyData.depthAll ds) us (PyData.shownAll ds))
 | [],ys,us,ds,e,r,ru=>by
  cases e;cases r;cases ru
  exact ⟨⟨_,.nil⟩,Nat.zero_le _,fun _ _=>⟨[],(fun _ h=>nomatch h),by simp only [PyData.shownAll];exact .nil⟩⟩
 | x::xs,ys,us,ds,e,r,ru=>by
  unfold qFV at e
  obtain ⟨d,e1,e⟩:=Option.bind_eq_some_iff.mp e
  obtain ⟨ds',e2,rfl⟩:=Option.map_eq_some_iff.mp e
  cases r with
  | cons r1 r2=>
   cases ru with
   | cons u1 u2=>
    obtain ⟨⟨as,q1,q2⟩,q3⟩:=qG8 I R _ _ _ _ e1 r1 u1
    obtain ⟨⟨bs,p1⟩,p2,p3⟩:=qE6 I R xs _ _ ds' e2 r2 u2
    refine ⟨⟨_,.cons q1 p1⟩,Nat.max_le.mpr ⟨q3,p2⟩,fun hs hz=>?_⟩
    have hs':d.showable=true/\PyData.showableAll ds'=true:=by simpa [PyData.showableAll] using hs
    obtain ⟨b1,hb1,k1⟩:=ReprK.of_reads (prog:=X.prog) (w:=X.w) q1 hs'.1 q2 (hz _ (by simp only [PyData.shownAll];exact List.mem_cons_self ..))
    obtain ⟨b2,hb2,k2⟩:=p3 hs'.2 (fun t ht=>hz t (by simp only [PyData.shownAll];exact List.mem_cons_of_mem _ ht))
    refine ⟨b1++b2,?_,?_⟩
    ·intro b hm
     simp only [PyData.depthAll]
     rcases List.mem_append.mp hm with hm | hm
     ·obtain ⟨d',as',r',hd'⟩:=hb1 b hm
      exact ⟨d',as',r',Nat.le_trans hd' (Nat.le_max_left _ _)⟩
     ·obtain ⟨d',as',r',hd'⟩:=hb2 b hm
      exact ⟨d',as',r',Nat.le_trans hd' (Nat.le_max_right _ _)⟩
    ·simp only [PyData.depthAll,PyData.shownAll]
     exact .cons ((k1.more fun b hb=>List.mem_append_left _ hb).level_le (Nat.le_max_left _ _)) (k2.more_le (fun b hb=>List.mem_append_right _ hb) (Nat.le_max_right _ _))
theorem qES (hc:X.calm=true) (hu:X.A.units + 8 < cLine) (hgd:X.A.guards=some []):∀ f,qAt X (fnB f) (qNF X G f):=by
 intro f pins s σ H xs us Q I r ⟨φ,h,ws,v,h',R,rw',e,k⟩
 cases f with
 | len=>
  replace e:=qA6 e
  obtain ⟨x0,rfl,e⟩:=e
  replace e:=qAi e
  obtain ⟨a,rfl,e⟩:=e
  split at e
  ·rename_i ys ey
   cases e
   cases rw' with
   | cons r1 t=>
    cases t
    obtain ⟨p,rfl,hp⟩:=qAI r1
    obtain ⟨p',zs,hp',hs,rs⟩:=R.its ey
    rw [hp] at hp';cases hp'
    refine L2.call_len_seq pins s σ H _ us Q I r ⟨p,zs,rfl,hs,?_⟩
    rw [<- Paired.length rs]
    exact k φ H _ (.refl _) R rfl
  ·cases e
 | sum=>
  replace e:=qA6 e
  obtain ⟨x0,rfl,e⟩:=e
  replace e:=qAi e
  obtain ⟨a,rfl,e⟩:=e
  split at e
  ·rename_i ys ey
   split at e
   ·rename_i is ei
    cases e
    cases rw' with
    | cons r1 t=>
     cases t
     obtain ⟨p,rfl,hp⟩:=qAI r1
     obtain ⟨p',zs,hp',hs,rs⟩:=R.lst ey
     rw [hp] at hp';cases hp'
     have hz:=qAw (qCp ei) rs
     subst hz
     obtain ⟨its,rv',pl,_⟩:=I.list hs
     obtain ⟨u,rfl,ru⟩:=L2.vals1 r
     cases ru
     exact qFp (I.ok.hd hc) pl.isList ei rv' fun h1 tk t' hk=>⟨.int is.sum,H,I.kept hk,⟨_,rfl⟩,k φ H _ (.refl _) R rfl⟩
   ·cases e
  ·cases e
 | all=>
  replace e:=qA6 e
  obtain ⟨x0,rfl,e⟩:=e
  replace e:=qAi e
  obtain ⟨a,rfl,e⟩:=e
  split at e
  ·rename_i ys ey
   split at e
   ·rename_i is ei
    cases e
    cases rw' with
    | cons r1 t=>
     cases t
     obtain ⟨p,rfl,hp⟩:=qAI r1
     obtain ⟨p',zs,hp',hs,rs⟩:=R.lst ey
     rw [hp] at hp';cases hp'
     have hm:=qBy ei
     subst hm
     have hz:=qAw (qDR is) rs
     subst hz
     obtain ⟨its,rv',pl,_⟩:=I.list hs
     obtain ⟨u,rfl,ru⟩:=L2.vals1 r
     cases ru
     exact qFt (I.ok.hd hc) pl.isList (qDi rv') fun h1 tk hk=>⟨.bl (is.all id),H,I.kept hk,rfl,k φ H _ (.refl _) R rfl⟩
   ·cases e
  ·cases e
 | any=>
  replace e:=qA6 e
  obtain ⟨x0,rfl,e⟩:=e
  replace e:=qAi e
  obtain ⟨a,rfl,e⟩:=e
  split at e
  ·rename_i ys ey
   split at e
   ·rename_i is ei
    cases e
    cases rw' with
    | cons r1 t=>
     cases t
     obtain ⟨p,rfl,hp⟩:=qAI r1
     obtain ⟨p',zs,hp',hs,rs⟩:=R.lst ey
     rw [hp] at hp';cases hp'
     have hm:=qBy ei
     subst hm
     have hz:=qAw (qDR is) rs
     subst hz
     obtain ⟨its,rv',pl,_⟩:=I.list hs
     obtain ⟨u,rfl,ru⟩:=L2.vals1 r
     cases ru
     exact qF4 (I.ok.hd hc) pl.isList (qDi rv') fun h1 tk hk=>⟨.bl (is.any id),H,I.kept hk,rfl,k φ H _ (.refl _) R rfl⟩
   ·cases e
  ·cases e
 | max=>
  replace e:=two_inv e
  obtain ⟨x0,y0,rfl,e⟩:=e
  replace e:=qAW e
  obtain ⟨i,j,rfl,rfl,e⟩:=e
  cases e
  cases rw' with
  | cons r1 t=>
   cases t with
   | cons r2 t=>
    cases t
    cases qAB r1;cases qAB r2
    exact L2.call_max2 hc pins s σ H _ us Q I r ⟨_,_,rfl,k φ H _ (.refl _) R rfl⟩
 | min=>
  replace e:=two_inv e
  obtain ⟨x0,y0,rfl,e⟩:=e
  replace e:=qAW e
  obtain ⟨i,j,rfl,rfl,e⟩:=e
  cases e
  cases rw' with
  | cons r1 t=>
   cases t with
   | cons r2 t=>
    cases t
    cases qAB r1;cases qAB r2
    exact L2.call_min2 hc pins s σ H _ us Q I r ⟨_,_,rfl,k φ H _ (.refl _) R rfl⟩
 | abs=>
  replace e:=qA6 e
  obtain ⟨x0,rfl,e⟩:=e
  split at e
  ·cases e
   cases rw' with
   | cons r1 t=>
    cases t
    cases qAB r1
    exact L2.call_abs pins s σ H _ us Q I r ⟨_,rfl,k φ H _ (.refl _) R rfl⟩
  ·cases e
 | bits=>
  replace e:=qA6 e
  obtain ⟨x0,rfl,e⟩:=e
  split at e
  ·cases e
   cases rw' with
   | cons r1 t=>
    cases t
    cases qAB r1
    obtain ⟨u,rfl,ru⟩:=L2.vals1 r
    obtain ⟨t,rfl⟩:=ru
    rename_i j
    exact call_int_bit_length ⟨.int ((Builtin.Int.intBits j:Nat):Int),H,I.tok _,⟨_,rfl⟩,k φ H _ (.refl _) R rfl⟩
  ·cases e
 | list=>
  replace e:=qA6 e
  obtain ⟨x0,rfl,e⟩:=e
  replace e:=qAi e
  obtain ⟨a,rfl,e⟩:=e
  split at e
  ·rename_i ys ey
   cases e
   cases rw' with
   | cons r1 t=>
    cases t
    obtain ⟨p,rfl,hp⟩:=qAI r1
    obtain ⟨p',zs,hp',hs,rs⟩:=R.its ey
    rw [hp] at hp';cases hp'
    exact L2.call_list_of pins s σ H _ us Q I r ⟨p,zs,rfl,hs,fun l hl=>k (φ++[l]) _ _ ⟨[l],rfl⟩ (R.newL hl rs) R.lastRef⟩
  ·cases e
 | tuple=>
  replace e:=qA6 e
  obtain ⟨x0,rfl,e⟩:=e
  replace e:=qAi e
  obtain ⟨a,rfl,e⟩:=e
  split at e
  ·rename_i fz ys ey
   cases e
   cases rw' with
   | cons r1 t=>
    cases t
    obtain ⟨p,rfl,hp⟩:=qAI r1
    obtain ⟨p',zs,hp',hs,rs⟩:=R.lst (i:=_) (xs:=ys) (by unfold qAH;rw [ey])
    rw [hp] at hp';cases hp'
    exact L2.call_tuple_of pins s σ H _ us Q I r ⟨p,zs,rfl,.inl ⟨hs,fun l hl=>k (φ++[l]) _ _ ⟨[l],rfl⟩ (R.newT hl rs) R.lastRef⟩⟩
  ·rename_i ys ey
   cases e
   cases rw' with
   | cons r1 t=>
    cases t
    obtain ⟨p,rfl,hp⟩:=qAI r1
    obtain ⟨p',zs,hp',hs,rs⟩:=R.tup (i:=_) (xs:=ys) (by unfold qAT;rw [ey])
    rw [hp] at hp';cases hp'
    exact L2.call_tuple_of pins s σ H _ us Q I r ⟨p,zs,rfl,.inr ⟨hs,k φ H _ (.refl _) R hp⟩⟩
  ·cases e
 | int=>
  replace e:=qA6 e
  obtain ⟨x0,rfl,e⟩:=e
  split at e
  ·cases e
   cases rw' with
   | cons r1 t=>
    cases t
    cases qAB r1
    exact L2.call_int1 pins s σ H _ us Q I r (.inl ⟨_,rfl,k φ H _ (.refl _) R rfl⟩)
  ·cases e
   cases rw' with
   | cons r1 t=>
    cases t
    cases qA3 r1
    exact L2.call_int1 pins s σ H _ us Q I r (.inr ⟨_,rfl,k φ H _ (.refl _) R rfl⟩)
  ·cases e
 | range=>cases e
 | repr=>
  replace e:=qA6 e
  obtain ⟨x0,rfl,e⟩:=e
  unfold qL2 at e
  split at e
  ·rename_i v0 ev0
   cases e
   obtain ⟨d,e1,e2⟩:=Option.bind_eq_some_iff.mp ev0
   unfold qIN at e2
   split at e2
   ·rename_i hsh
    cases e2
    cases rw' with
    | cons r1 t=>
     cases t
     obtain ⟨u,rfl,ru⟩:=L2.vals1 r
     cases x0 with
     | ref a=>
      obtain ⟨p,rfl,hp⟩:=qAI r1
      cases (show u=Value.ref p from ru)
      unfold qKJ at e1
      dsimp only at e1
      split at e1
      ·rename_i ws ey
       obtain ⟨ds,e2,rfl⟩:=Option.map_eq_some_iff.mp e1
       obtain ⟨p',zs,hp',hs,rs⟩:=R.tup (show qAT h a=some ws by unfold qAT;rw [ey])
       rw [hp] at hp';cases hp'
       obtain ⟨its,rv',pl,_⟩:=I.tuple hs
       obtain ⟨o,ho,hc',m,hd⟩:=pl
       obtain ⟨⟨as,q1⟩,q2,q3⟩:=qE6 I R ws zs its ds e2 rs rv'
       have hz':(tupleText (PyData.shownAll ds)).length<=sizeLine:=by simpa only [PyData.shown] using hsh.2
       obtain ⟨bs,hb,hk⟩:=q3 (by simpa [PyData.showable] using hsh.1) (fun t ht=>Nat.le_trans (tupleText_mem_le ht) hz')
       have hna:p∉bs:=not_mem_of_deeper (.tuple ho hc' hd (by simpa using q1)) (by simp only [PyData.depth];omega) hb
       refine call_repr_slot (by omega) ⟨o,ho,hc'⟩ F.slot_tuple_repr (call_tuple_reprK ho hc' hd hna (by simpa using hk) hgd (fun b _=>Clear.nil b) (by show X.A.units + 1 + _ < cLine;omega) (fun _ _ e=>e) (fun h1 u tk hk=>⟨_,_,rfl,?_⟩) hz')
       exact ⟨.str (PyData.shown (.tuple ds)),H,I.kept hk,⟨u,by simp only [PyData.shown]⟩,k φ H _ (.refl _) R rfl⟩
      ·rename_i ey
       cases e1
       obtain ⟨⟨as,q1,q2⟩,q3⟩:=qG8 I R _ _ _ (.dict []) (show qHU h (.ref a)=some (.dict []) by unfold qHU;dsimp only;rw [ey]) r1 ru
       refine repr_of_reads' q1 hsh.1 q2 hgd (by omega) (fun b o e=>e) (fun h1 u tk hk=>?_) hsh.2
       exact ⟨.str (PyData.shown (.dict [])),H,I.kept hk,⟨_,rfl⟩,k φ H _ (.refl _) R rfl⟩
      obtain ⟨⟨as,q1⟩,q2,q3⟩:=qFK I R 4 _ _ _ d e1 r1 ru
      refine repr_of_reads' q1 hsh.1 (fun z=>by rw [q2] at z;cases z) hgd (by omega) (fun b o e=>e) (fun h1 u tk hk=>?_) hsh.2
      exact ⟨.str d.shown,H,I.kept hk,⟨_,rfl⟩,k φ H _ (.refl _) R rfl⟩
     | non=>
      cases e1;cases qAy r1;cases (show u=Value.none from ru)
      exact PySem.P.repr_of_none ⟨.str (PyData.shown .none),H,I.tok _,⟨_,rfl⟩,k φ H _ (.refl _) R rfl⟩
     | bl b=>
      cases e1;cases qA3 r1;cases (show u=Value.bool b from ru)
      exact PySem.P.repr_of_bool ⟨.str (PyData.shown (.bool b)),H,I.tok _,⟨_,by cases b<;>rfl⟩,k φ H _ (.refl _) R rfl⟩
     | int i=>
      cases e1;cases qAB r1;obtain ⟨tt,rfl⟩:=ru
      exact PySem.P.repr_of_int (of_decide_eq_true hsh.1) ⟨.str (PyData.shown (.int i)),H,I.tok _,⟨_,rfl⟩,k φ H _ (.refl _) R rfl⟩
     | str x=>
      cases e1;cases qA8 r1;obtain ⟨tt,rfl⟩:=ru
      exact PySem.P.repr_of_str ⟨.str (PyData.shown (.str x)),H,I.tok _,⟨_,rfl⟩,k φ H _ (.refl _) R rfl⟩ hsh.2
     | _=>cases e1
   ·cases e2
  ·cases e
 | sorted=>
  replace e:=qA6 e
  obtain ⟨x0,rfl,e⟩:=e
  replace e:=qAi e
  obtain ⟨a,rfl,e⟩:=e
  split at e
  ·rename_i ys ey
   split at e
   ·rename_i is ei
    split at e
    ·rename_i h64
     cases e
     cases rw' with
     | cons r1 t=>
      cases t
      obtain ⟨p,rfl,hp⟩:=qAI r1
      obtain ⟨p',zs,hp',hs,rs⟩:=R.lst ey
      rw [hp] at hp';cases hp'
      have hm:=qBD ei
      subst hm
      have hz:=qAw (qCE is) rs
      subst hz
      obtain ⟨its,rv',pl,_⟩:=I.list hs
      obtain ⟨u,rfl,ru⟩:=L2.vals1 r
      cases ru
      have hi:IntsAre its is:=L2.intsAre_of rv'
      refine sorted_ints pl.isList hi (by rw [IntsAre.length hi];exact h64) fun out ns' a1 a2 a3=>?_
      have e1:ns'=qD7 is:=qFc a3 (qFi is) (a2.trans (qCU is).symm)
      subst e1
      obtain ⟨c,hc'⟩:=sortedAll_at s.heap its out
      have hl:=(qCU is).length_eq
      refine ⟨.ref (s.heap.objs.size + 1),_,I.laid (t':=s.toks) (o:=.lst ((qD7 is).map V.int)) (fun b o q=>sortedAll_old q) (Nat.le_succ _) ?_,rfl,k (φ++[s.heap.objs.size + 1]) _ _ ⟨[_],rfl⟩ (R.newL (I.hok.fresh (Nat.le_succ _)) (qEY (qCE _))) R.lastRef⟩
      refine ⟨by rw [List.length_map,hl,sizeLine_eq];omega,out.toList,c,qBb a1,?_⟩
      rw [Array.toArray_toList];exact hc'
    ·cases e
   ·cases e
  ·cases e
end
end PI
namespace PI
open PySem PySem.SeqAt
open AutoSeq1 (wpAny_loadPart')
open MeetsSeq MeetsSeq2 MeetsSeq3 SeqRoads2
theorem qI4 {M:Model} {A:Around} {E:Value -> Shared -> Prop} {s:Shared} {β:Type} {n:Nat} (f:Nat -> β -> Sem (ForInStep β)) (I:List Nat -> β -> Shared -> Prop) (Q:β -> Shared -> Prop)
  (qHS:∀ x qBp b s,I (x::qBp) b s -> wpAny M A (f x b) (fun r s'=>match r with | .yield b'=>I qBp b' s' | .done b'=>Q b' s') E s)
  (fin:∀ b s,I [] b s -> Q b s) (b:β) (h:I (List.range' 0 n) b s):wpAny M A (forIn [0:n] b f) Q E s:=by
 rw [Std.Legacy.Range.forIn_eq_forIn_range']
 have e:(List.range' 0 ([0:n]:Std.Legacy.Range).size)=List.range' 0 n:=by simp [Std.Legacy.Range.size]
 exact wpAny_forIn_list f I Q qHS fin _ b (by simpa [Std.Legacy.Range.size] using h)
theorem tuple_indexAt (l:Addr) (items:Array Value) (n:Nat) (dd:Option Addr) (sl:Array (Option Value)) (x:Value) (e:Value -> Bool) (j:Nat) (hj:j < items.size)
  (hit:e items[j]=true) (hno:∀ m (hm:m < items.size),m < j -> e items[m]=false):
  Meets (Builtin.«tuple.index» ⟨[.ref l,x],[]⟩)
   (fun A R s=>s.heap.get? l=some { cls:=.type "tuple",dict:=dd,data:=.seq items n,slots:=sl }/\(∀ y,y∈items -> EqAt A.in1 s y x (e y))/\R (.ok (.ret (.int j s.toks))) { s with toks:=s.toks + 1 }):=
 .of_wp fun prog w A R s h=>by
  obtain ⟨hp,g,d,tk,os⟩:=s;obtain ⟨hl,he,h⟩:=h
  wp_walk using wpAny_loadPart' hl,qI4 _ (fun qBp b s'=>b.1=none/\s'=⟨hp,g,d,tk,os⟩/\∃ i,i<=j/\qBp=List.range' i (items.size - i)) _
  case qHS=>
   rintro i qBp b s' ⟨hb,rfl,i',hi,hr⟩
   have hz:items.size - i'≠0:=by omega
   obtain ⟨z,hz⟩:∃ z,items.size - i'=z + 1:=⟨items.size - i' - 1,by omega⟩
   rw [hz,List.range'_succ] at hr
   cases hr
   have hlt:i < items.size:=by omega
   have hg:items[i]?=some items[i]:=Array.getElem?_eq_getElem hlt
   dsimp only
   rw [hg]
   refine wpAny_bind (he _ (Array.getElem_mem hlt) prog w _ _ ?_)
   by_cases hij:i=j
   ·subst hij
    rw [hit]
    wp_walk
    exact ⟨_,rfl,h⟩
   ·rw [hno i hlt (by omega)]
    wp_walk
    exact ⟨rfl,rfl,i + 1,by omega,by congr 1;omega⟩
  case fin=>
   rintro ⟨b1,b2⟩ s' ⟨hb,rfl,i,hi,hr⟩
   have:(List.range' i (items.size - i)).length=0:=by rw [<- hr];rfl
   rw [List.length_range'] at this
   omega
  case h=>
   refine ⟨rfl,rfl,0,Nat.zero_le _,?_⟩
   simp
end PI
namespace PI
open PySem PySem.Spec PyProof.Rows PySem.SeqAt
open L2 (V Hp HO Cx PE PT PA PS PSs PG PW TE TT TA TS VK upd qAL qAJ SqL SqT qEk Inv RelV Vals EP TP AP SP OpR qAt R2)
theorem qBQ {r:RV} {b:Bool} {h:AH} (e:asB r=.ok (b,h)):r=.ok (.bl b,h):=by
 unfold asB at e
 obtain ⟨⟨v,h1⟩,e1,e2⟩:=Res.bind_inv e
 dsimp only at e2
 split at e2
 ·cases e2;exact e1
 ·cases e2
theorem qFd {r:RV} {b:Bool} {h:AH} (e:r=.ok (.bl b,h)):asB r=.ok (b,h):=by
 subst e
 rfl
section
variable {X:Cx} {G:List Addr} {F:Nat -> List V -> AH -> RV} {a b c:E} {as:Es} {ea eb ec:Expr} {es:List Expr} {pos:Pos}
theorem qCg {K:PySem.W.Frag} {σ:St} {H:Hp} {Q:Bool -> Hp -> Prop} (q:tT K G F a σ H Q):tE K G F a σ H (fun x H'=>∃ k,x=.bl k/\Q k H'):=by
 obtain ⟨φ,h,σa,b,h',R,rs,e,k⟩:=q
 exact ⟨φ,h,σa,.bl b,h',R,rs,qBQ e,fun φ' H' w x' R' r'=>⟨b,qA3 r',k φ' H' x' R'⟩⟩
theorem qAM (h:SE X G F ea a) (he:∀ whole,isTrue ea X.env whole=(do let v <- whole;standAt ea.pos;holding [v] (truthy v))):ST X G F ea a:=
 qGm (L2.pt_val h he) fun _ _ _ q=>qCg q
theorem qIz {op:COp} {σc:St} {H:Hp} {Q:VK} (q:tE X.K G F (.cmp op a b) σc H Q):L2.tOp (qJo X G op) (tE X.K G F a) (tE X.K G F b) σc H Q:=by
 obtain ⟨φ,h,σ,v,h',R,rs,e,k⟩:=q
 unfold ev at e
 obtain ⟨⟨x,h1⟩,e1,e⟩:=Res.bind_inv e
 obtain ⟨⟨y,h2⟩,e2,e⟩:=Res.bind_inv e
 refine qBU R rs e1 e2 fun φ2 H2 xc yc x2 R2 r1 r2=>?_
 unfold qG3 at e
 dsimp only at e
 split at e
 ·rename_i t et
  cases e
  exact ⟨φ2,_,x,y,t,R2,r1,r2,et,k φ2 H2 _ x2 R2 rfl⟩
 ·cases e
theorem qKd {op:COp} (hu:X.A.units + 8 < cLine) (ha:SE X G F ea a) (hb:SE X G F eb b) (hm:behindInMarks (opC op) eb=false):SE X G F (.Compare ea [opC op] [eb] pos) (.cmp op a b):=
 qAX (L2.pe_cmpR (qA0 hu op) ha hb hm) fun _ _ _=>qIz
theorem qLV {op:COp} (hu:X.A.units + 8 < cLine) (ha:SE X G F ea a) (hb:SE X G F eb b) (hm:behindInMarks (opC op) eb=false):ST X G F (.Compare ea [opC op] [eb] pos) (.cmp op a b):=
 qGm (L2.pt_cmpR (qA0 hu op) ha hb hm) fun _ _ _ q=>qIz (qCg q)
theorem qFn {o1 o2:COp} {σc:St} {H:Hp} {Q:VK} (q:tE X.K G F (.cmp2 o1 o2 a b c) σc H Q):L2.tChain (qJo X G o1) (qJo X G o2) (tE X.K G F a) (tE X.K G F b) (tE X.K G F c) σc H Q:=by
 obtain ⟨φ,h,σ,v,h',R,rs,e,k⟩:=q
 unfold ev at e
 obtain ⟨⟨x,h1⟩,e1,e⟩:=Res.bind_inv e
 obtain ⟨⟨y,h2⟩,e2,e⟩:=Res.bind_inv e
 refine qBU R rs e1 e2 fun φ2 H2 xc yc x2 R2 r1 r2=>?_
 dsimp only at e
 split at e
 ·rename_i et
  refine ⟨φ2,_,x,y,true,R2,r1,r2,et,true,rfl,?_⟩
  rw [if_pos rfl]
  obtain ⟨⟨z,h3⟩,e3,e⟩:=Res.bind_inv e
  refine ⟨φ2,_,σ,z,h3,R2,rst.mono x2 rs,e3,fun φ3 H3 zc x3 R3 r3=>?_⟩
  unfold qG3 at e
  dsimp only at e
  split at e
  ·rename_i t et
   cases e
   exact ⟨φ3,_,y,z,t,R3,rv.mono x3 r2,r3,et,k φ3 H3 _ (x2.trans x3) R3 rfl⟩
  ·cases e
 ·rename_i et
  cases e
  refine ⟨φ2,_,x,y,false,R2,r1,r2,et,false,rfl,?_⟩
  rw [if_neg (by decide)]
  exact k φ2 H2 _ x2 R2 rfl
 ·cases e
theorem qHg {o1 o2:COp} (hu:X.A.units + 8 < cLine) (ha:SE X G F ea a) (hb:SE X G F eb b) (hc:SE X G F ec c) (hm:lastMarks [opC o1,opC o2] [eb,ec]=false):SE X G F (.Compare ea [opC o1,opC o2] [eb,ec] pos) (.cmp2 o1 o2 a b c):=
 qAX (L2.pe_chain (qA0 hu o1) (qA0 hu o2) ha hb hc hm) fun _ _ _=>qFn
theorem qHj {o1 o2:COp} (hu:X.A.units + 8 < cLine) (ha:SE X G F ea a) (hb:SE X G F eb b) (hc:SE X G F ec c) (hm:lastMarks [opC o1,opC o2] [eb,ec]=false):ST X G F (.Compare ea [opC o1,opC o2] [eb,ec] pos) (.cmp2 o1 o2 a b c):=
 qGm (L2.pt_chain (qA0 hu o1) (qA0 hu o2) ha hb hc hm) fun _ _ _ q=>qFn (qCg q)
noncomputable def qEw (r r' r2:L2.R2) (ta tb tc td:L2.TE):L2.TE:=fun σ H Q=>ta σ H fun x H1=>tb σ H1 fun y H2=>r x y H2 fun z H3=>∃ k,z=.bl k/\
 (if k=true then tc σ H3 fun w' H4=>r' y w' H4 fun z' H5=>∃ k',z'=.bl k'/\(if k'=true then td σ H5 fun u' H6=>r2 w' u' H6 Q else Q (.bl false) H5) else Q (.bl false) H3)
section
open L2
theorem qHO {X:L2.Cx} {a b c d:Expr} {ta tb tc td:L2.TE} {op op' op2:CmpOp} {r r' r2:R2} (ho:OpR X (compareOp op) r) (ho':OpR X (compareOp op') r') (ho2:OpR X (compareOp op2) r2) (ha:PE X a ta) (hb:PE X b tb) (hc:PE X c tc) (hd:PE X d td)
  (hm:lastMarks [op,op',op2] [b,c,d]=false):PE X (.Compare a [op,op',op2] [b,c,d] pos) (qEw r r' r2 ta tb tc td):=by
 intro pins s σ H Q I h
 refine Compare_chain (thn (ha pins s σ H _ I h) fun v s1 ⟨x,H1,I1,r1,q1⟩=>chain_link (thn (hb pins s1 σ H1 _ I1 q1) fun u s2 ⟨y,H2,I2,r2,q2⟩=>
  thn (ho pins s2 σ H2 x y v u _ I2 r1 r2 q2) fun d s3 ⟨z,H3,I3,r3,k,e,q3⟩=>?_)) hm
 subst e
 cases r3
 refine wpAny_truthy_bool ?_
 cases k with
 | false=>exact ite_ff ⟨.bl false,H3,I3,rfl,q3⟩
 | true=>
  refine ite_tt (chain_link (thn (hc pins s3 σ H3 _ I3 q3) fun w' s4 ⟨z',H4,I4,r4,q4⟩=>thn (ho' pins s4 σ H4 y z' u w' _ I4 r2 r4 q4) fun d' s5 ⟨z2,H5,I5,r5,k2,e2,q5⟩=>?_))
  subst e2
  cases r5
  refine wpAny_truthy_bool ?_
  cases k2 with
  | false=>exact ite_ff ⟨.bl false,H5,I5,rfl,q5⟩
  | true=>exact ite_tt (chain_last (thn (hd pins s5 σ H5 _ I5 q5) fun w2 s6 ⟨z3,H6,I6,r6,q6⟩=>ho2 pins s6 σ H6 z' z3 w' w2 Q I6 r4 r6 q6))
theorem qGH {X:L2.Cx} {a b c d:Expr} {ta tb tc td:L2.TE} {op op' op2:CmpOp} {r r' r2:R2} (ho:OpR X (compareOp op) r) (ho':OpR X (compareOp op') r') (ho2:OpR X (compareOp op2) r2) (ha:PE X a ta) (hb:PE X b tb) (hc:PE X c tc) (hd:PE X d td)
  (hm:lastMarks [op,op',op2] [b,c,d]=false):PT X (.Compare a [op,op',op2] [b,c,d] pos) (qJk (qEw r r' r2 ta tb tc td)):=by
 intro pins s σ H Q I h
 refine isTrue_chain (thn (ha pins s σ H _ I h) fun v s1 ⟨x,H1,I1,r1,q1⟩=>test_link (thn (hb pins s1 σ H1 _ I1 q1) fun u s2 ⟨y,H2,I2,r2,q2⟩=>
  thn (ho pins s2 σ H2 x y v u _ I2 r1 r2 q2) fun d s3 ⟨z,H3,I3,r3,k,e,q3⟩=>?_)) hm
 subst e
 cases r3
 refine wpAny_truthy_bool ?_
 cases k with
 | false=>
  obtain ⟨k',e',q'⟩:=q3
  cases e'
  exact ite_ff ⟨H3,I3,q'⟩
 | true=>
  refine ite_tt (test_link (thn (hc pins s3 σ H3 _ I3 q3) fun w' s4 ⟨z',H4,I4,r4,q4⟩=>thn (ho' pins s4 σ H4 y z' u w' _ I4 r2 r4 q4) fun d' s5 ⟨z2,H5,I5,r5,k2,e2,q5⟩=>?_))
  subst e2
  cases r5
  refine wpAny_truthy_bool ?_
  cases k2 with
  | false=>
   obtain ⟨k',e',q'⟩:=q5
   cases e'
   exact ite_ff ⟨H5,I5,q'⟩
  | true=>
   refine ite_tt (test_last (thn (hd pins s5 σ H5 _ I5 q5) fun w2 s6 ⟨z3,H6,I6,r6,q6⟩=>thn (ho2 pins s6 σ H6 z' z3 w' w2 _ I6 r4 r6 q6) fun d2 s7 ⟨z4,H7,I7,r7,k4,e4,q7⟩=>?_))
   subst e4
   cases r7
   exact wpAny_truthy_bool ⟨H7,I7,q7⟩
end
theorem qEH {o1 o2 o3:COp} {σc:St} {H:Hp} {Q:VK} (q:tE X.K G F (.cmp3 o1 o2 o3 a b c d) σc H Q):qEw (qJo X G o1) (qJo X G o2) (qJo X G o3) (tE X.K G F a) (tE X.K G F b) (tE X.K G F c) (tE X.K G F d) σc H Q:=by
 obtain ⟨φ,h,σ,v,h',R,rs,e,k⟩:=q
 unfold ev at e
 obtain ⟨⟨x,h1⟩,e1,e⟩:=Res.bind_inv e
 obtain ⟨⟨y,h2⟩,e2,e⟩:=Res.bind_inv e
 refine qBU R rs e1 e2 fun φ2 H2 xc yc x2 R2 r1 r2=>?_
 dsimp only at e
 split at e
 ·rename_i et
  refine ⟨φ2,_,x,y,true,R2,r1,r2,et,true,rfl,?_⟩
  rw [if_pos rfl]
  obtain ⟨⟨z,h3⟩,e3,e⟩:=Res.bind_inv e
  refine ⟨φ2,_,σ,z,h3,R2,rst.mono x2 rs,e3,fun φ3 H3 zc x3 R3 r3=>?_⟩
  dsimp only at e
  split at e
  ·rename_i et3
   refine ⟨φ3,_,y,z,true,R3,rv.mono x3 r2,r3,et3,true,rfl,?_⟩
   rw [if_pos rfl]
   obtain ⟨⟨w,h4⟩,e4,e⟩:=Res.bind_inv e
   refine ⟨φ3,_,σ,w,h4,R3,rst.mono x3 (rst.mono x2 rs),e4,fun φ4 H4 wc x4 R4 r4=>?_⟩
   unfold qG3 at e
   dsimp only at e
   split at e
   ·rename_i t et
    cases e
    exact ⟨φ4,_,z,w,t,R4,rv.mono x4 r3,r4,et,k φ4 H4 _ ((x2.trans x3).trans x4) R4 rfl⟩
   ·cases e
  ·rename_i et3
   cases e
   refine ⟨φ3,_,y,z,false,R3,rv.mono x3 r2,r3,et3,false,rfl,?_⟩
   rw [if_neg (by decide)]
   exact k φ3 H3 _ (x2.trans x3) R3 rfl
  ·cases e
 ·rename_i et
  cases e
  refine ⟨φ2,_,x,y,false,R2,r1,r2,et,false,rfl,?_⟩
  rw [if_neg (by decide)]
  exact k φ2 H2 _ x2 R2 rfl
 ·cases e
theorem qG9 {o1 o2 o3:COp} (hu:X.A.units + 8 < cLine) (ha:SE X G F ea a) (hb:SE X G F eb b) (hc:SE X G F ec c) (hd:SE X G F ed d) (hm:lastMarks [opC o1,opC o2,opC o3] [eb,ec,ed]=false):SE X G F (.Compare ea [opC o1,opC o2,opC o3] [eb,ec,ed] pos) (.cmp3 o1 o2 o3 a b c d):=
 qAX (qHO (qA0 hu o1) (qA0 hu o2) (qA0 hu o3) ha hb hc hd hm) fun _ _ _=>qEH
theorem qGV {o1 o2 o3:COp} (hu:X.A.units + 8 < cLine) (ha:SE X G F ea a) (hb:SE X G F eb b) (hc:SE X G F ec c) (hd:SE X G F ed d) (hm:lastMarks [opC o1,opC o2,opC o3] [eb,ec,ed]=false):ST X G F (.Compare ea [opC o1,opC o2,opC o3] [eb,ec,ed] pos) (.cmp3 o1 o2 o3 a b c d):=
 qGm (qGH (qA0 hu o1) (qA0 hu o2) (qA0 hu o3) ha hb hc hd hm) fun _ _ _ q=>qEH (qCg q)
theorem qKB {σc:St} {H:Hp} {Q:VK} (q:tE X.K G F (.and a b) σc H Q):L2.tAndV (tE X.K G F a) (tE X.K G F b) σc H Q:=by
 obtain ⟨φ,h,σ,v,h',R,rs,e,k⟩:=q
 unfold ev at e
 obtain ⟨⟨x,h1⟩,e1,e⟩:=Res.bind_inv e
 refine ⟨φ,h,σ,.bl x,h1,R,rs,qBQ e1,fun φ1 H1 w x1 R1 r1=>⟨x,qA3 r1,?_⟩⟩
 dsimp only at e
 cases x with
 | true=>
  rw [if_pos rfl] at e ⊢
  exact ⟨φ1,h1,σ,v,h',R1,rst.mono x1 rs,e,fun φ2 H2 w2 x2 R2 r2=>k φ2 H2 w2 (x1.trans x2) R2 r2⟩
 | false=>
  rw [if_neg (by decide)] at e ⊢
  cases e
  exact k φ1 H1 _ x1 R1 rfl
theorem qKo {σc:St} {H:Hp} {Q:VK} (q:tE X.K G F (.or a b) σc H Q):L2.tOrV (tE X.K G F a) (tE X.K G F b) σc H Q:=by
 obtain ⟨φ,h,σ,v,h',R,rs,e,k⟩:=q
 unfold ev at e
 obtain ⟨⟨x,h1⟩,e1,e⟩:=Res.bind_inv e
 refine ⟨φ,h,σ,.bl x,h1,R,rs,qBQ e1,fun φ1 H1 w x1 R1 r1=>⟨x,qA3 r1,?_⟩⟩
 dsimp only at e
 cases x with
 | false=>
  rw [if_neg (by decide)] at e ⊢
  exact ⟨φ1,h1,σ,v,h',R1,rst.mono x1 rs,e,fun φ2 H2 w2 x2 R2 r2=>k φ2 H2 w2 (x1.trans x2) R2 r2⟩
 | true=>
  rw [if_pos rfl] at e ⊢
  cases e
  exact k φ1 H1 _ x1 R1 rfl
theorem qKv {σc:St} {H:Hp} {Q:Bool -> Hp -> Prop} (q:tT X.K G F (.and a b) σc H Q):L2.tAnd (tT X.K G F a) (tT X.K G F b) σc H Q:=by
 obtain ⟨φ,h,σ,t,h',R,rs,e,k⟩:=q
 have e:=qBQ e
 unfold ev at e
 obtain ⟨⟨x,h1⟩,e1,e⟩:=Res.bind_inv e
 refine ⟨φ,h,σ,x,h1,R,rs,e1,fun φ1 H1 x1 R1=>?_⟩
 dsimp only at e
 cases x with
 | true=>
  rw [if_pos rfl] at e ⊢
  exact ⟨φ1,h1,σ,t,h',R1,rst.mono x1 rs,qFd e,fun φ2 H2 x2 R2=>k φ2 H2 (x1.trans x2) R2⟩
 | false=>
  rw [if_neg (by decide)] at e ⊢
  cases e
  exact k φ1 H1 x1 R1
theorem qM7 {σc:St} {H:Hp} {Q:Bool -> Hp -> Prop} (q:tT X.K G F (.or a b) σc H Q):L2.tOr (tT X.K G F a) (tT X.K G F b) σc H Q:=by
 obtain ⟨φ,h,σ,t,h',R,rs,e,k⟩:=q
 have e:=qBQ e
 unfold ev at e
 obtain ⟨⟨x,h1⟩,e1,e⟩:=Res.bind_inv e
 refine ⟨φ,h,σ,x,h1,R,rs,e1,fun φ1 H1 x1 R1=>?_⟩
 dsimp only at e
 cases x with
 | false=>
  rw [if_neg (by decide)] at e ⊢
  exact ⟨φ1,h1,σ,t,h',R1,rst.mono x1 rs,qFd e,fun φ2 H2 x2 R2=>k φ2 H2 (x1.trans x2) R2⟩
 | true=>
  rw [if_pos rfl] at e ⊢
  cases e
  exact k φ1 H1 x1 R1
variable (X G F) in
noncomputable abbrev SW (e:Expr) (a:E):Prop:=PW X e (tT X.K G F a)
theorem qLD {e:Expr} {t t':TT} (h:PW X e t) (w:∀ σ H Q,t' σ H Q -> t σ H Q):PW X e t':=fun wh pins s σ H Q I q=>h wh pins s σ H Q I (w σ H Q q)
theorem qKr {qBp:List Expr} (ha:SE X G F ea a) (hb:SE X G F (.BoolOp .And (eb::qBp) pos) b):SE X G F (.BoolOp .And (ea::eb::qBp) pos) (.and a b):=qAX (L2.pe_and ha hb) fun _ _ _=>qKB
theorem qNI {qBp:List Expr} (ha:SE X G F ea a) (hb:SE X G F (.BoolOp .Or (eb::qBp) pos) b):SE X G F (.BoolOp .Or (ea::eb::qBp) pos) (.or a b):=qAX (L2.pe_or ha hb) fun _ _ _=>qKo
theorem qLR {qBp:List Expr} (ha:ST X G F ea a) (hb:SW X G F (.BoolOp .And (eb::qBp) pos) b):SW X G F (.BoolOp .And (ea::eb::qBp) pos) (.and a b):=qLD (L2.pw_and ha hb) fun _ _ _=>qKv
theorem qMp {qBp:List Expr} (ha:ST X G F ea a) (hb:SW X G F (.BoolOp .Or (eb::qBp) pos) b):SW X G F (.BoolOp .Or (ea::eb::qBp) pos) (.or a b):=qLD (L2.pw_or ha hb) fun _ _ _=>qM7
theorem qLA (ha:SE X G F ea a):SE X G F (.UnaryOp .Not ea pos) (.not a):=by
 refine qAX (L2.pe_not ha) fun σc H Q q=>?_
 obtain ⟨φ,h,σ,v,h',R,rs,e,k⟩:=q
 unfold ev at e
 obtain ⟨⟨x,h1⟩,e1,e⟩:=Res.bind_inv e
 cases e
 exact ⟨φ,h,σ,.bl x,_,R,rs,qBQ e1,fun φ1 H1 w x1 R1 r1=>⟨x,qA3 r1,k φ1 H1 _ x1 R1 rfl⟩⟩
theorem qKT (ha:ST X G F ea a):ST X G F (.UnaryOp .Not ea pos) (.not a):=by
 refine qGm (L2.pt_not ha) fun σc H Q q=>?_
 obtain ⟨φ,h,σ,t,h',R,rs,e,k⟩:=q
 have e:=qBQ e
 unfold ev at e
 obtain ⟨⟨x,h1⟩,e1,e⟩:=Res.bind_inv e
 cases e
 exact ⟨φ,h,σ,x,_,R,rs,e1,fun φ1 H1 x1 R1=>k φ1 H1 x1 R1⟩
theorem qLP (hc:ST X G F ec c) (ha:SE X G F ea a) (hb:SE X G F eb b):SE X G F (.IfExp ec ea eb pos) (.ite c a b):=by
 refine qAX (L2.pe_ifExp hc ha hb) fun σc H Q q=>?_
 obtain ⟨φ,h,σ,v,h',R,rs,e,k⟩:=q
 unfold ev at e
 obtain ⟨⟨x,h1⟩,e1,e⟩:=Res.bind_inv e
 refine ⟨φ,h,σ,x,h1,R,rs,e1,fun φ1 H1 x1 R1=>?_⟩
 dsimp only at e
 cases x with
 | true=>
  rw [if_pos rfl] at e ⊢
  exact ⟨φ1,h1,σ,v,h',R1,rst.mono x1 rs,e,fun φ2 H2 w2 x2 R2 r2=>k φ2 H2 w2 (x1.trans x2) R2 r2⟩
 | false=>
  rw [if_neg (by decide)] at e ⊢
  exact ⟨φ1,h1,σ,v,h',R1,rst.mono x1 rs,e,fun φ2 H2 w2 x2 R2 r2=>k φ2 H2 w2 (x1.trans x2) R2 r2⟩
theorem qKS (hc:ST X G F ec c) (ha:ST X G F ea a) (hb:ST X G F eb b):ST X G F (.IfExp ec ea eb pos) (.ite c a b):=by
 intro pins s σc H Q I q
 obtain ⟨φ,h,σ,t,h',R,rs,e,k⟩:=q
 have e:=qBQ e
 unfold ev at e
 obtain ⟨⟨x,h1⟩,e1,e⟩:=Res.bind_inv e
 refine isTrue_IfExp (L2.thn (hc pins s σc H (fun z H1=>(z=true -> tT X.K G F a σc H1 Q)/\(z=false -> tT X.K G F b σc H1 Q)) I ⟨φ,h,σ,x,h1,R,rs,e1,fun φ1 H1 x1 R1=>?_⟩) fun z s1 ⟨H1,I1,q1,q2⟩=>?_)
 ·dsimp only at e
  cases x with
  | true=>
   rw [if_pos rfl] at e
   exact ⟨fun _=>⟨φ1,h1,σ,t,h',R1,rst.mono x1 rs,qFd e,fun φ2 H2 x2 R2=>k φ2 H2 (x1.trans x2) R2⟩,fun z=>nomatch z⟩
  | false=>
   rw [if_neg (by decide)] at e
   exact ⟨(fun z=>nomatch z),fun _=>⟨φ1,h1,σ,t,h',R1,rst.mono x1 rs,qFd e,fun φ2 H2 x2 R2=>k φ2 H2 (x1.trans x2) R2⟩⟩
 ·cases z with
  | true=>exact ha pins s1 σc H1 Q I1 (q1 rfl)
  | false=>exact hb pins s1 σc H1 Q I1 (q2 rfl)
noncomputable def qAE:Expr -> Bool
 | .Starred ..=>false
 | _=>true
theorem qAA {e:Expr} {env:Env} (h:qAE e=true):starEach (e::es) env=(false,eval e env)::starEach es env:=by
 cases e<;>first | rfl | cases h
theorem qAv {env:Env}:∀ {es:List Expr},es.all qAE=true -> (backTo pos (starEach es env)).any (·.1)=false
 | [],_=>rfl
 | e::es,h=>by
  simp only [List.all_cons,Bool.and_eq_true] at h
  rw [qAA h.1]
  show (false||(backTo pos (starEach es env)).any (·.1))=false
  rw [qAv h.2]
  rfl
theorem qCZ:SA X G F [] .nil:=by
 refine qKZ L2.pa_nil fun σc H Q q=>?_
 obtain ⟨φ,h,σ,v,h',R,rs,e,k⟩:=q
 unfold evs at e
 cases e
 exact k φ H [] (.refl _) R .nil
theorem qBH (hn:qAE ea=true) (ha:SE X G F ea a) (hr:SA X G F es as):SA X G F (ea::es) (.cons a as):=by
 refine qKZ (L2.pa_cons ha hr (qAA hn)) fun σc H Q q=>?_
 obtain ⟨φ,h,σ,v,h',R,rs,e,k⟩:=q
 unfold evs at e
 obtain ⟨⟨x,h1⟩,e1,e⟩:=Res.bind_inv e
 obtain ⟨⟨xs,h2⟩,e2,e⟩:=Res.bind_inv e
 cases e
 exact ⟨φ,h,σ,x,h1,R,rs,e1,fun φ1 H1 w x1 R1 r1=>⟨φ1,h1,σ,xs,_,R1,rst.mono x1 rs,e2,fun φ2 H2 ws x2 R2 r2=>k φ2 H2 _ (x1.trans x2) R2 (.cons (rv.mono x2 r1) r2)⟩⟩
theorem qLn (h:SA X G F es as):SE X G F (.List es pos) (.lst as):=by
 refine qAX (L2.pe_lst h) fun σc H Q q=>?_
 obtain ⟨φ,h,σ,v,h',R,rs,e,k⟩:=q
 unfold ev at e
 obtain ⟨⟨xs,h1⟩,e1,e⟩:=Res.bind_inv e
 refine ⟨φ,h,σ,xs,h1,R,rs,e1,fun φ1 H1 ws x1 R1 r1=>?_⟩
 dsimp only at e
 split at e
 ·rename_i hl
  cases e
  refine ⟨by rw [<- Paired.length r1];exact Nat.le_trans hl qCB,fun p hp=>k (φ1++[p]) _ _ (x1.trans ⟨[p],rfl⟩) (R1.newL hp r1) R1.lastRef⟩
 ·cases e
theorem qGw:SE X G F (.Dict [] [] pos) .dnew:=by
 intro pins s σc H Q I q
 obtain ⟨φ,h,σ,v,h',R,rs,e,k⟩:=q
 unfold ev at e
 cases e
 have hbig:sysModules < s.heap.objs.size:=Nat.lt_trans (by decide) (I.mod.glob.keeps I.bk).lt
 have hn:=I.hok.fresh (Nat.le_refl s.heap.objs.size)
 exact wpAny_Dict_empty ⟨.ref s.heap.objs.size,_,I.laid (a:=s.heap.objs.size) (o:=.dK []) (t':=s.toks) (fun _ _ q=>Heap.get?_push_of_some _ q) (Nat.le_refl _)
  ⟨Nat.zero_le _,beq_eq_false_iff_ne.mpr (Ne.symm (Nat.ne_of_lt hbig)),[],.nil,Heap.DictOf.new s.heap⟩,rfl,
  k (φ++[s.heap.objs.size]) _ _ ⟨[s.heap.objs.size],rfl⟩ (R.new hn (o:=.ob (.dct [])) qAL) R.lastRef⟩
theorem qI0 {x1} (h:SA X G F es as):SE X G F (.Tuple es x1 pos) (.tup as):=by
 refine qAX (L2.pe_tup h) fun σc H Q q=>?_
 obtain ⟨φ,h,σ,v,h',R,rs,e,k⟩:=q
 unfold ev at e
 obtain ⟨⟨xs,h1⟩,e1,e⟩:=Res.bind_inv e
 refine ⟨φ,h,σ,xs,h1,R,rs,e1,fun φ1 H1 ws x1 R1 r1=>?_⟩
 dsimp only at e
 split at e
 ·rename_i hl
  cases e
  refine ⟨by rw [<- Paired.length r1];exact Nat.le_trans hl qCB,fun p hp=>k (φ1++[p]) _ _ (x1.trans ⟨[p],rfl⟩) (R1.newT hp r1) R1.lastRef⟩
 ·cases e
variable (G F) in
noncomputable def spF (K:PySem.W.Frag) (f:Nat):L2.Sp:=fun vs H Q _=>∃ φ h ws v h',Rl K G φ h H/\rvs φ ws vs/\F f ws h=.ok (v,h')/\∀ φ' H' w,Ext φ φ' -> Rl K G φ' h' H' -> rv φ' v w -> Q w H'
variable (X G F) in
structure FnS (f:Nat) (x:Str):Prop where
 ex:∃ k fa fd ps,L2.FnOk X.prog X.w X.K X.mg X.base L2.CX0 k fa fd ps (spF G F X.K f)/\L2.Room k X.A/\X.mg x=some (.ref fa)/\PySem.W.keepIn X.K (.ref fa)=true/\L2.Binds X.K fd ps []
theorem qGT {f:Nat} {σc:St} {H:Hp} {Q:VK} (q:tE X.K G F (.call f as) σc H Q):L2.tCall (spF G F X.K f) [] L2.E0 (tL X.K G F as) σc H Q:=by
 obtain ⟨φ,h,σ,v,h',R,rs,e,k⟩:=q
 unfold ev at e
 obtain ⟨⟨xs,h1⟩,e1,e⟩:=Res.bind_inv e
 refine ⟨φ,h,σ,xs,h1,R,rs,e1,fun φ1 H1 ws x1 R1 r1=>?_⟩
 have e:F f xs h1=.ok (v,h'):=by
  have e:(F f xs h1).nx=.ok (v,h'):=e
  revert e
  generalize F f xs h1=r
  cases r<;>intro e<;>first | exact e | cases e
 refine ⟨φ1,h1,xs,v,h',R1,by rw [List.append_nil];exact r1,e,fun φ2 H2 w x2 R2 r2=>k φ2 H2 w (x1.trans x2) R2 r2⟩
theorem qJ9 {f:Nat} {x:Str} {p:Pos} (hf:FnS X G F f x) (hg:L2.Gl X x) (hd:(x==("__debug__":Str))=false) (hn:qAE ea=true) (hs:es.all qAE=true) (ha:SA X G F (ea::es) as):SE X G F (.Call (.Name x p) (ea::es) [] pos) (.call f as):=by
 obtain ⟨k,fa,fd,ps,h1,h2,h3,h4,h5⟩:=hf.ex
 exact qAX (L2.pe_call h1 h2 hg h3 h4 h5 .nil L2.pass0 ha hd (qAA hn) (qAv hs)) fun _ _ _=>qGT
theorem qH7 {f:Nat} {x:Str} {p:Pos} (hf:FnS X G F f x) (hg:L2.Gl X x) (hd:(x==("__debug__":Str))=false):SE X G F (.Call (.Name x p) [] [] pos) (.call f .nil):=by
 obtain ⟨k,fa,fd,ps,h1,h2,h3,h4,h5⟩:=hf.ex
 refine qAX (L2.pe_call0 h1 h2 hg h3 h4 h5 .nil L2.pass0 hd) fun σc H Q q=>?_
 obtain ⟨φ,h,σ,vs,h',R,rs,e,k⟩:=qGT q
 unfold evs at e
 cases e
 exact k φ H [] (.refl _) R .nil
theorem qIh {f:BF} {σc:St} {H:Hp} {Q:VK} (q:tE X.K G F (.blt f as) σc H Q):L2.tCB (qNF X G f) (tL X.K G F as) σc H Q:=by
 obtain ⟨φ,h,σ,v,h',R,rs,e,k⟩:=q
 unfold ev at e
 obtain ⟨⟨xs,h1⟩,e1,e⟩:=Res.bind_inv e
 exact ⟨φ,h,σ,xs,h1,R,rs,e1,fun φ1 H1 ws x1 R1 r1=>⟨φ1,h1,xs,v,h',R1,r1,e,fun φ2 H2 w x2 R2 r2=>k φ2 H2 w (x1.trans x2) R2 r2⟩⟩
theorem qKy {f:BF} {x:Str} {p:Pos} (hc:X.calm=true) (hu:X.A.units + 8 < cLine) (hgd:X.A.guards=some []) (hg:L2.Gl X x) (hm:X.mg x=none) (hv:bootBuiltins x=some (fnB f)) (hn:qAE ea=true) (hs:es.all qAE=true) (ha:SA X G F (ea::es) as)
  (h1:x≠"__name__") (h2:(x==("__debug__":Str))=false):SE X G F (.Call (.Name x p) (ea::es) [] pos) (.blt f as):=by
 have rule:=qES (G:=G) hc hu hgd f
 cases f
 all_goals first
  | exact qAX (L2.pe_callB rule hg hm hv ha h1 h2 (qAA hn) (qAv hs)) fun _ _ _=>qIh
  | exact qAX (L2.pe_callTy rule hg hm hv ha h1 h2 (qAA hn) (qAv hs)) fun _ _ _=>qIh
theorem qI7 {apos cpos:Pos} (hc:X.calm=true) (hu:X.A.units + 8 < cLine) (hgd:X.A.guards=some []) (hbase:attributeBase ea "bit_length" X.env (eval ea X.env)=eval ea X.env) (hline:(apos.endLine==cpos.line)=true) (ha:SE X G F ea a):
  SE X G F (.Call (.Attribute ea "bit_length" apos) [] [] cpos) (.blt .bits (.cons a .nil)):=by
 have rule:L2.MtR X "int.bit_length" (fun x xs H Q=>∃ i,x=.int i/\xs=[]/\qNF X G .bits [.int i] H Q):=fun pins s σ H x xs v us Q I rx rs q=>by
  obtain ⟨i,rfl,rfl,q⟩:=q
  cases rs
  exact qES (G:=G) hc hu hgd .bits pins s σ H [.int i] [v] Q I (.cons rx .nil) q
 refine qAX (L2.pe_bm0 PySem.F.plainAttrs_int PyProof.Rows.slot_int_bit_length PyProof.Rows.type_int_bit_length rule ha hbase hline) fun σc H Q q=>?_
 obtain ⟨φ,h,σ,v,h',R,rs,e,k⟩:=q
 unfold ev at e
 obtain ⟨⟨xs,h1⟩,e1,e2⟩:=Res.bind_inv e
 unfold evs evs at e1
 obtain ⟨⟨x,h2⟩,e3,e4⟩:=Res.bind_inv e1
 cases e4
 replace e2:qLt .bits [x] h1=.ok (v,h'):=e2
 cases x with
 | int i=>exact ⟨φ,h,σ,_,_,R,rs,e3,fun φ1 H1 w x1 R1 r1=>by
   cases qAB r1
   exact ⟨rfl,i,rfl,rfl,φ1,_,[.int i],v,h',R1,.cons rfl .nil,e2,fun φ2 H2 w x2 R2 r2=>k φ2 H2 w (x1.trans x2) R2 r2⟩⟩
 | _=>cases e2
noncomputable def qEZ (t:String):Bool:=t=="int"||t=="bool"||t=="list"||t=="tuple"||t=="str"||t=="dict"
theorem qCy (K:PySem.W.Frag):∀ {t c:String},(t="NoneType"\/t="bool"\/t="int"\/t="str"\/t="list"\/t="tuple"\/t="dict") -> qEZ c=true -> PySem.W.kitOne K (.type t) (.type c)=some (qBw t c):=by
 intro t c ht hc
 have hc':c="int"\/c="bool"\/c="list"\/c="tuple"\/c="str"\/c="dict":=by
  simp only [qEZ,Bool.or_eq_true,beq_iff_eq] at hc
  rcases hc with ((((h | h) | h) | h) | h) | h<;>simp [h]
 rcases ht with rfl | rfl | rfl | rfl | rfl | rfl | rfl<;>rcases hc' with rfl | rfl | rfl | rfl | rfl | rfl<;>kernel_rfl
variable (X G) in
noncomputable def qOK (c:String):List V -> Hp -> VK -> Prop:=fun xs H Q=>∃ φ h xa x t,xs=[x,.ty c]/\Rl X.K G φ h H/\rv φ xa x/\qBO h xa=some t/\Q (.bl (qBw t c)) H
theorem qGN {c:String} (hc:qEZ c=true):qAt X (.builtin "isinstance") (qOK X G c):=by
 intro pins s σ H xs us Q I r ⟨φ,h,xa,x,t,e,R,rx,ht,q⟩
 subst e
 obtain ⟨u,u2,rfl,r1,r2⟩:=L2.vals2 r
 cases (show u2=Value.type c from r2)
 have fin:∀ tk,EP X pins σ Q (.bool (qBw t c)) { s with toks:=tk }:=fun tk=>⟨.bl (qBw t c),H,I.tok tk,rfl,q⟩
 cases xa with
 | non=>cases qAy rx;cases r1;cases ht;exact PySem.W.kia_one PySem.W.kitx_none I.kIn True.intro (qCy _ (by simp) hc) (fun z=>nomatch z) fin
 | bl i=>cases qA3 rx;cases r1;cases ht;exact PySem.W.kia_one PySem.W.kitx_bool I.kIn True.intro (qCy _ (by simp) hc) (fun z=>nomatch z) fin
 | int i=>cases qAB rx;obtain ⟨t',rfl⟩:=r1;cases ht;exact PySem.W.kia_one PySem.W.kitx_int I.kIn True.intro (qCy _ (by simp) hc) (fun z=>nomatch z) fin
 | str i=>cases qA8 rx;obtain ⟨t',rfl⟩:=r1;cases ht;exact PySem.W.kia_one PySem.W.kitx_str I.kIn True.intro (qCy _ (by simp) hc) (fun z=>nomatch z) fin
 | ref i=>
  obtain ⟨p,rfl,hp⟩:=qAI rx
  cases r1
  cases ey:h[i]? with
  | none=>rw [show qBO h (.ref i)=none by simp only [qBO,ey]] at ht;cases ht
  | some o=>
   cases o with
   | lst fz ys=>
    rw [show qBO h (.ref i)=some "list" by simp only [qBO,ey]] at ht;cases ht
    obtain ⟨p',zs,hp',hs,rs⟩:=R.lst (i:=i) (xs:=ys) (by unfold qAH;rw [ey])
    rw [hp] at hp';cases hp'
    obtain ⟨its,_,pl,_⟩:=I.list hs
    obtain ⟨o,ho,hcl,_⟩:=pl.isList
    exact PySem.W.kia_one PySem.W.kitx_list I.kIn ⟨o,ho,hcl⟩ (qCy _ (by simp) hc) (fun z=>nomatch z) fin
   | tup ys=>
    rw [show qBO h (.ref i)=some "tuple" by simp only [qBO,ey]] at ht;cases ht
    obtain ⟨p',zs,hp',hs,rs⟩:=R.tup (i:=i) (xs:=ys) (by unfold qAT;rw [ey])
    rw [hp] at hp';cases hp'
    obtain ⟨its,_,pl,_⟩:=I.tuple hs
    obtain ⟨o,ho,hcl,_⟩:=pl
    exact PySem.W.kia_one PySem.W.kitx_tuple I.kIn ⟨o,ho,hcl⟩ (qCy _ (by simp) hc) (fun z=>nomatch z) fin
   | ob ks=>
    cases ks with
    | exn c=>rw [show qBO h (.ref i)=none by simp only [qBO,ey]] at ht;cases ht
    | dct kvs=>
     rw [show qBO h (.ref i)=some "dict" by simp only [qBO,ey]] at ht
     cases ht
     obtain ⟨p',hp',hs⟩:=R.at ey
     rw [hp] at hp';cases hp'
     obtain ⟨_,_,vs,_,o,es,ep,h1,h2,_⟩:=(show L2.ObjOk X.prog X.w H s.heap p (.dK (kvs.map kk)) from I.hok p _ hs)
     exact PySem.W.kia_one PySem.W.kitx_dict I.kIn ⟨o,h1,h2.1⟩ (qCy _ (by simp) hc) (fun z=>nomatch z) fin
 | _=>cases ht
theorem qK1 {c:String} {xc:Str} {p pc:Pos} (hc:qEZ c=true) (hg:L2.Gl X "isinstance") (hm:X.mg "isinstance"=none) (hgc:L2.Gl X xc) (hmc:X.mg xc=none) (hvc:bootBuiltins xc=some (.type c)) (hn1:xc≠"__name__") (hn2:(xc==("__debug__":Str))=false)
  (hn:qAE ea=true) (ha:SE X G F ea a):SE X G F (.Call (.Name "isinstance" p) [ea,.Name xc pc] [] pos) (.isi a [c]):=by
 refine qAX (L2.pe_callB (qGN (G:=G) hc) hg hm PyProof.Rows.boot_isinstance (L2.pa_cons ha (L2.pa_cons (L2.pe_bltn (v:=.ty c) hgc hmc hvc rfl hn1 hn2) L2.pa_nil rfl) (qAA hn)) (by decide) (by decide) (qAA hn) rfl) fun σc H Q q=>?_
 obtain ⟨φ,h,σ,v,h',R,rs,e,k⟩:=q
 unfold ev at e
 obtain ⟨⟨x,h1⟩,e1,e⟩:=Res.bind_inv e
 refine ⟨φ,h,σ,x,h1,R,rs,e1,fun φ1 H1 w x1 R1 r1=>?_⟩
 dsimp only at e
 split at e
 ·rename_i t et
  cases e
  refine ⟨φ1,_,x,w,t,rfl,R1,r1,et,?_⟩
  have:=k φ1 H1 (.bl ([c].any (qBw t))) x1 R1 rfl
  simpa using this
 ·cases e
noncomputable def qB0:Expr -> Bool
 | .Slice ..=>false
 | _=>true
theorem qFx {e:Expr} (h:qB0 e=true):L2.PlainIx e:=by
 intro o i
 cases e<;>first | rfl | cases h
theorem qKn (hb':qB0 eb=true) (ha:SE X G F ea a) (hb:SE X G F eb b):SE X G F (.Subscript ea eb pos) (.idx a b):=by
 refine qAX (L2.pe_ix (L2.ix_list.or L2.ix_tup) ha hb (qFx hb')) fun σc H Q q=>?_
 obtain ⟨φ,h,σ,v,h',R,rs,e,k⟩:=q
 unfold ev at e
 obtain ⟨⟨x,h1⟩,e1,e⟩:=Res.bind_inv e
 obtain ⟨⟨y,h2⟩,e2,e⟩:=Res.bind_inv e
 refine qBU R rs e1 e2 fun φ2 H2 xc yc x2 R2 r1 r2=>?_
 cases x with
 | ref p=>
  cases y with
  | int i=>
   dsimp only at e
   split at e
   ·rename_i xs ex
    split at e
    ·rename_i w ew
     cases e
     obtain ⟨p',zs,hp',hs,rs'⟩:=R2.its ex
     obtain ⟨q,rfl,hq⟩:=qAI r1
     rw [hp'] at hq;cases hq
     cases qAB r2
     obtain ⟨j,ej,ew⟩:=Option.bind_eq_some_iff.mp ew
     obtain ⟨w',hw',rw'⟩:=qAF rs' ew
     have hat:L2.atI zs i=some w':=by
      unfold L2.atI
      rw [<- Paired.length rs']
      exact Option.bind_eq_some_iff.mpr ⟨j,ej,hw'⟩
     rcases hs with hs | hs
     ·exact .inl ⟨_,zs,i,w',rfl,rfl,hs,hat,k φ2 H2 w' x2 R2 rw'⟩
     ·exact .inr ⟨_,zs,i,w',rfl,rfl,hs,hat,k φ2 H2 w' x2 R2 rw'⟩
    ·cases e
   ·cases e
  | _=>cases e
 | _=>cases e
theorem qDO {φ:List Addr} {xs ys:List V} (r:rvs φ xs ys) (lo hi:Option Int):rvs φ (L2.cutV xs lo hi) (L2.cutV ys lo hi):=by
 unfold L2.cutV
 rw [Paired.length r]
 exact qAk _ (qBJ _ r)
variable (X G F) in
noncomputable def SO (o:Option Expr) (as:Es):Prop:=L2.PO X o fun σc H Q=>∃ φ h σ is h',Rl X.K G φ h H/\rst φ σ σc/\(∃ vs,evs F as σ h=.ok (vs,h')/\qBC vs=some is)/\∀ φ' H',Ext φ φ' -> Rl X.K G φ' h' H' -> Q is.head? H'
theorem qJp:SO X G F none .nil:=by
 intro pins s σc H Q I q
 obtain ⟨φ,h,σ,is,h',R,rs,⟨vs,e,ei⟩,k⟩:=q
 unfold evs at e
 cases e
 cases ei
 exact L2.po_none pins s σc H Q I (k φ H (.refl _) R)
theorem qDj (ha:SE X G F ea a):SO X G F (some ea) (.cons a .nil):=by
 intro pins s σc H Q I q
 obtain ⟨φ,h,σ,is,h',R,rs,⟨vs,e,ei⟩,k⟩:=q
 unfold evs at e
 obtain ⟨⟨x,h1⟩,e1,e⟩:=Res.bind_inv e
 unfold evs at e
 cases e
 refine L2.po_some ha pins s σc H Q I ⟨φ,h,σ,x,_,R,rs,e1,fun φ1 H1 w x1 R1 r1=>?_⟩
 have hm:=qBD ei
 cases is with
 | nil=>cases hm
 | cons i r=>
  simp only [List.map_cons,List.cons.injEq] at hm
  obtain ⟨rfl,_⟩:=hm
  cases qAB r1
  exact ⟨i,rfl,k φ1 H1 x1 R1⟩
theorem qLx {lo hi:Option Expr} {al ah:Es} {p2:Pos} (ha:SE X G F ea a) (hl:SO X G F lo al) (hh:SO X G F hi ah):SE X G F (.Subscript ea (.Slice lo hi none p2) pos) (.sl a al ah):=by
 refine qAX (L2.pe_slice (L2.SlR.or L2.sl_list L2.sl_tup) ha hl hh) fun σc H Q q=>?_
 obtain ⟨φ,h,σ,v,h',R,rs,e,k⟩:=q
 unfold ev at e
 obtain ⟨⟨x,h1⟩,e1,e⟩:=Res.bind_inv e
 obtain ⟨⟨l,h2⟩,e2,e⟩:=Res.bind_inv e
 obtain ⟨⟨u,h3⟩,e3,e⟩:=Res.bind_inv e
 cases x with
 | ref p=>
  cases eil:qBC l with
  | none=>dsimp only at e;rw [eil] at e;cases e
  | some il=>
   cases eiu:qBC u with
   | none=>dsimp only at e;rw [eil,eiu] at e;cases e
   | some iu=>
    dsimp only at e
    rw [eil,eiu] at e
    dsimp only at e
    split at e
    ·rename_i xs ex
     cases e
     refine ⟨φ,h,σ,_,h1,R,rs,e1,fun φ1 H1 w x1 R1 r1=>?_⟩
     refine ⟨φ1,h1,σ,il,h2,R1,rst.mono x1 rs,⟨l,e2,eil⟩,fun φ2 H2 x2 R2=>?_⟩
     refine ⟨φ2,h2,σ,iu,h3,R2,rst.mono (x1.trans x2) rs,⟨u,e3,eiu⟩,fun φ3 H3 x3 R3=>?_⟩
     obtain ⟨p',zs,hp',hs,rs'⟩:=R3.lst ex
     obtain ⟨q,rfl,hq⟩:=qAI (rv.mono (x2.trans x3) r1)
     rw [hp'] at hq;cases hq
     exact .inl ⟨_,zs,rfl,hs,fun m hm=>k (φ3++[m]) _ _ ((x1.trans (x2.trans x3)).trans ⟨[m],rfl⟩) (R3.newL hm (qDO rs' _ _)) R3.lastRef⟩
    ·split at e
     ·rename_i xs ex
      split at e
      ·cases e
      ·rename_i hw
       cases e
       refine ⟨φ,h,σ,_,h1,R,rs,e1,fun φ1 H1 w x1 R1 r1=>?_⟩
       refine ⟨φ1,h1,σ,il,h2,R1,rst.mono x1 rs,⟨l,e2,eil⟩,fun φ2 H2 x2 R2=>?_⟩
       refine ⟨φ2,h2,σ,iu,h3,R2,rst.mono (x1.trans x2) rs,⟨u,e3,eiu⟩,fun φ3 H3 x3 R3=>?_⟩
       obtain ⟨p',zs,hp',hs,rs'⟩:=R3.tup ex
       obtain ⟨q,rfl,hq⟩:=qAI (rv.mono (x2.trans x3) r1)
       rw [hp'] at hq;cases hq
       exact .inr ⟨_,zs,rfl,hs,by rw [<- Paired.length rs'];exact hw,fun m hm=>k (φ3++[m]) _ _ ((x1.trans (x2.trans x3)).trans ⟨[m],rfl⟩) (R3.newT hm (qDO rs' _ _)) R3.lastRef⟩
     ·cases e
 | _=>cases e
section
open L2 PyProof.Rows
theorem qJs {X:L2.Cx} {e ek:Expr} {te:L2.TE} {tk:L2.TO} {p2 pos:Pos} (he:PE X e te) (hk:PO X (some ek) tk):PE X (.Subscript e (.Slice none none (some ek) p2) pos) (fun σ H Q=>te σ H fun x H1=>tk σ H1 fun o H2=>o=some (-1)/\∃ a xs,x=.ref a/\SqL X.K H2 a xs/\∀ p,H2 p=none -> Q (.ref p) (upd H2 p (.lst xs.reverse))):=by
 intro pins s σ H Q I h
 refine Subscript_ (thn (he pins s σ H _ I h) fun v s1 ⟨x,H1,I1,r1,q1⟩=>?_)
 refine wpAny_Slice ?_
 rw [evalPart_none]
 refine wpAny_pure (wpAny_pure (thn (hk pins s1 σ H1 _ I1 q1) fun vk s3 ⟨o,H3,I3,pk,ho,a,xs,hxa,hx,q⟩=>?_))
 subst ho
 subst hxa
 cases r1
 have I4:Inv X pins σ H3 { s3 with heap:=s3.heap.push { cls:=.type "slice",data:=.fields #[.none,.none,vk] } }:=I3.kept (t':=s3.toks) fun b ob q=>Heap.get?_push_of_some _ q
 obtain ⟨its,r,ht,hz⟩:=I4.list hx
 have hlen:=r.length
 show wpAny (model X.prog X.w) X.A (subscriptTail e (.Slice none none (some ek) p2) (.ref a) (.ref s3.heap.objs.size)) (EP X pins σ Q) X.xe { s3 with heap:=s3.heap.push { cls:=.type "slice",data:=.fields #[.none,.none,vk] } }
 refine tail_any (ops:=[.ref a,.ref s3.heap.objs.size]) (T:="list") ht.isList.typeIs slot_list_getitem.lookup (wpAny_getItem_list_slice ht.isList (Heap.IsSliceOf.new ..) .none .none pk (by decide) ?_ (by rw [List.size_toArray]<;>omega)) (by with_unfolding_all rfl)
 rw [PySem.W.krv_pick]
 refine ⟨.ref _,_,I4.laid (t':=s3.toks) (o:=.lst xs.reverse) (fun b ob q=>Heap.get?_push_of_some _ q) (Nat.le_refl _) ?_,rfl,q _ (I4.hok.fresh (Nat.le_refl _))⟩
 exact ⟨by rw [List.length_reverse];exact hz,_,0,r.reverse,Heap.get?_push_size _ rfl⟩
end
theorem qCT {φ:List Addr}:∀ {xs ys:List V},rvs φ xs ys -> rvs φ xs.reverse ys.reverse
 | _,_,.nil=>.nil
 | _,_,.cons r t=>by rw [List.reverse_cons,List.reverse_cons];exact qAG (qCT t) (.cons r .nil)
theorem qIm {ek:Expr} {p2:Pos} (ha:SE X G F ea a) (hk:SO X G F (some ek) (.cons (.cst (.int (-1))) .nil)):SE X G F (.Subscript ea (.Slice none none (some ek) p2) pos) (.rev a):=by
 refine qAX (qJs ha hk) fun σc H Q q=>?_
 obtain ⟨φ,h,σ,v,h',R,rs,e,k⟩:=q
 unfold ev at e
 obtain ⟨⟨x,h1⟩,e1,e⟩:=Res.bind_inv e
 replace e:=qAi e
 obtain ⟨p,rfl,e⟩:=e
 split at e
 ·rename_i xs ex
  cases e
  refine ⟨φ,h,σ,_,h1,R,rs,e1,fun φ1 H1 w x1 R1 r1=>?_⟩
  refine ⟨φ1,h1,σ,[-1],h1,R1,rst.mono x1 rs,⟨[.int (-1)],by unfold evs ev;rfl,rfl⟩,fun φ2 H2 x2 R2=>⟨rfl,?_⟩⟩
  obtain ⟨p',zs,hp',hs,rs'⟩:=R2.lst ex
  obtain ⟨q,rfl,hq⟩:=qAI (rv.mono x2 r1)
  rw [hp'] at hq;cases hq
  exact ⟨_,zs,rfl,hs,fun m hm=>k (φ2++[m]) _ _ ((x1.trans x2).trans ⟨[m],rfl⟩) (R2.newL hm (qCT rs')) R2.lastRef⟩
 ·cases e
section
open L2 PyProof.Rows
theorem qHw (its:List Value):slicePick its.toArray none none (some 1)=its.toArray:=by
 have h:slicePick its.toArray none none (some 1)=slicePick its.toArray none none none:=rfl
 rw [h,qCD]
 simp [HT.sIx]
theorem qI2 {X:L2.Cx} {e ek:Expr} {te:L2.TE} {tk:L2.TO} {p2 pos:Pos} (he:PE X e te) (hk:PO X (some ek) tk):PE X (.Subscript e (.Slice none none (some ek) p2) pos) (fun σ H Q=>te σ H fun x H1=>tk σ H1 fun o H2=>∃ i,o=some i/\(i=1\/i=-1)/\∃ a xs,x=.ref a/\SqL X.K H2 a xs/\∀ p,H2 p=none -> Q (.ref p) (upd H2 p (.lst (if i=1 then xs else xs.reverse)))):=by
 intro pins s σ H Q I h
 refine Subscript_ (thn (he pins s σ H _ I h) fun v s1 ⟨x,H1,I1,r1,q1⟩=>?_)
 refine wpAny_Slice ?_
 rw [evalPart_none]
 refine wpAny_pure (wpAny_pure (thn (hk pins s1 σ H1 _ I1 q1) fun vk s3 ⟨o,H3,I3,pk,i,ho,hi,a,xs,hxa,hx,q⟩=>?_))
 subst ho
 subst hxa
 cases r1
 have I4:Inv X pins σ H3 { s3 with heap:=s3.heap.push { cls:=.type "slice",data:=.fields #[.none,.none,vk] } }:=I3.kept (t':=s3.toks) fun b ob q=>Heap.get?_push_of_some _ q
 obtain ⟨its,r,ht,hz⟩:=I4.list hx
 have hlen:=r.length
 show wpAny (model X.prog X.w) X.A (subscriptTail e (.Slice none none (some ek) p2) (.ref a) (.ref s3.heap.objs.size)) (EP X pins σ Q) X.xe { s3 with heap:=s3.heap.push { cls:=.type "slice",data:=.fields #[.none,.none,vk] } }
 refine tail_any (ops:=[.ref a,.ref s3.heap.objs.size]) (T:="list") ht.isList.typeIs slot_list_getitem.lookup (wpAny_getItem_list_slice ht.isList (Heap.IsSliceOf.new ..) .none .none pk (by rcases hi with rfl | rfl<;>decide) ?_ (by rw [List.size_toArray]<;>omega)) (by with_unfolding_all rfl)
 rcases hi with rfl | rfl
 ·rw [qHw]
  refine ⟨.ref _,_,I4.laid (t':=s3.toks) (o:=.lst xs) (fun b ob q=>Heap.get?_push_of_some _ q) (Nat.le_refl _) ?_,rfl,q _ (I4.hok.fresh (Nat.le_refl _))⟩
  exact ⟨hz,_,0,r,Heap.get?_push_size _ rfl⟩
 ·rw [PySem.W.krv_pick]
  refine ⟨.ref _,_,I4.laid (t':=s3.toks) (o:=.lst xs.reverse) (fun b ob q=>Heap.get?_push_of_some _ q) (Nat.le_refl _) ?_,rfl,q _ (I4.hok.fresh (Nat.le_refl _))⟩
  exact ⟨by rw [List.length_reverse];exact hz,_,0,r.reverse,Heap.get?_push_size _ rfl⟩
end
theorem qIk {ek:Expr} {b:E} {p2:Pos} (ha:SE X G F ea a) (hk:SE X G F ek b):SE X G F (.Subscript ea (.Slice none none (some ek) p2) pos) (.stp a b):=by
 refine qAX (qI2 ha (qDj hk)) fun σc H Q q=>?_
 obtain ⟨φ,h,σ,v,h',R,rs,e,k⟩:=q
 unfold ev at e
 obtain ⟨⟨x,h1⟩,e1,e⟩:=Res.bind_inv e
 obtain ⟨⟨y,h2⟩,e2,e⟩:=Res.bind_inv e
 cases x with
 | ref p=>
  cases y with
  | int i=>
   dsimp only at e
   split at e
   ·rename_i xs ex
    have fin:(i=1\/i=-1)/\newL (if i=1 then xs else xs.reverse) h2=.ok (v,h'):=by
     by_cases h1:i=1
     ·rw [if_pos h1] at e ⊢;exact ⟨.inl h1,e⟩
     ·rw [if_neg h1] at e ⊢
      by_cases h2:i=-1
      ·rw [if_pos h2] at e;exact ⟨.inr h2,e⟩
      ·rw [if_neg h2] at e;cases e
    obtain ⟨hi,e⟩:=fin
    cases e
    refine ⟨φ,h,σ,_,h1,R,rs,e1,fun φ1 H1 w x1 R1 r1=>?_⟩
    refine ⟨φ1,h1,σ,[i],h2,R1,rst.mono x1 rs,⟨[.int i],by unfold evs;rw [e2,Res.bind_ok];unfold evs;rfl,rfl⟩,fun φ2 H2 x2 R2=>⟨i,rfl,hi,?_⟩⟩
    obtain ⟨p',zs,hp',hs,rs'⟩:=R2.lst ex
    obtain ⟨q,rfl,hq⟩:=qAI (rv.mono x2 r1)
    rw [hp'] at hq;cases hq
    refine ⟨_,zs,rfl,hs,fun m hm=>k (φ2++[m]) _ _ ((x1.trans x2).trans ⟨[m],rfl⟩) (R2.newL hm ?_) R2.lastRef⟩
    split
    ·exact rs'
    ·exact qCT rs'
   ·cases e
  | _=>dsimp only at e;cases e
 | _=>dsimp only at e;cases e
theorem qLa {p p3:Pos} {n:Nat}:SE X G F (.UnaryOp .USub (.Constant (.int 1) n p) p3) (.cst (.int (-1))):=by
 refine qAX (qIW (G:=G) (F:=F) (a:=.cst (.int 1)) qGa) fun σc H Q q=>?_
 obtain ⟨φ,h,σ,v,h',R,rs,e,k⟩:=q
 refine ⟨φ,h,σ,v,h',R,rs,?_,k⟩
 unfold ev at e ⊢
 unfold ev
 exact e
theorem qKw {apos cpos:Pos} (hbase:attributeBase ea "append" X.env (eval ea X.env)=eval ea X.env) (hline:(apos.endLine==cpos.line)=true) (hn:qAE eb=true) (ha:SE X G F ea a) (hb:SE X G F eb b):
  SE X G F (.Call (.Attribute ea "append" apos) [eb] [] cpos) (.app a b):=by
 refine qAX (L2.pe_bm PySem.F.plainAttrs_list PySem.F.slot_list_append PySem.F.type_list_append L2.mt_append ha (L2.pa_cons hb L2.pa_nil (qAA hn)) hbase (by rw [qAA hn];rfl) hline (qAA hn) rfl) fun σc H Q q=>?_
 obtain ⟨φ,h,σ,v,h',R,rs,e,k⟩:=q
 unfold ev at e
 obtain ⟨⟨x,h1⟩,e1,e⟩:=Res.bind_inv e
 dsimp only at e
 split at e
 ·rename_i p
  split at e
  ·rename_i ys ey
   obtain ⟨⟨y,h2⟩,e2,e⟩:=Res.bind_inv e
   dsimp only at e
   split at e
   ·rename_i xs ex
    split at e
    ·rename_i hl
     cases e
     refine ⟨φ,h,σ,_,h1,R,rs,e1,fun φ1 H1 w x1 R1 r1=>?_⟩
     obtain ⟨p1,zs1,hp1,hs1,_⟩:=R1.lst ey
     obtain ⟨q,rfl,hq⟩:=qAI r1
     rw [hp1] at hq;cases hq
     refine ⟨.inl ⟨rfl,_,hs1⟩,φ1,h1,σ,y,h2,R1,rst.mono x1 rs,e2,fun φ2 H2 yc x2 R2 r2=>?_⟩
     obtain ⟨q1,p2,zs2,hp2,hH2,rs2⟩:=R2.mut ex
     have:=x2.get hp1
     rw [hp2] at this;cases this
     refine ⟨_,zs2,yc,rfl,rfl,hH2,?_,k φ2 _ _ (x1.trans x2) (R2.set q1 hp2 (qAG rs2 (.cons r2 .nil))) trivial⟩
     rw [<- Paired.length rs2]
     exact Nat.lt_trans hl qIo
    ·cases e
   ·cases e
  ·cases e
 ·cases e
theorem Rl.same {K:PySem.W.Frag} {G φ:List Addr} {h:AH} {H H':Hp} (R:Rl K G φ h H) (s:qEk H H'):Rl K G φ h H':=⟨R.len,R.glob,fun i o a e1 e2=>(R.obj i o a e1 e2).keep (.refl _) s,R.inj⟩
theorem qC8 {φ:List Addr}:∀ {xs:List V},xs.all qAq=true -> rvs φ xs xs
 | [],_=>.nil
 | x::xs,h=>by
  simp only [List.all_cons,Bool.and_eq_true] at h
  refine .cons ?_ (qC8 h.2)
  cases x<;>first | rfl | exact trivial | (cases h.1)
theorem qCr {α β:Type} {R:α -> β -> Prop} {xs:List α} {us:List β} (h:Paired R xs us):Paired R xs.dropLast us.dropLast:=by
 rw [List.dropLast_eq_take,List.dropLast_eq_take,<- Paired.length h]
 exact qAk _ h
theorem qCs {α β:Type} {R:α -> β -> Prop} {xs:List α} {us:List β} (h:Paired R xs us) (k:Nat):Paired R (xs.eraseIdx k) (us.eraseIdx k):=by
 rw [List.eraseIdx_eq_take_drop_succ,List.eraseIdx_eq_take_drop_succ]
 exact qAG (qAk _ h) (qBJ _ h)
theorem qBo {α β:Type} {R:α -> β -> Prop}:∀ {xs:List α} {us:List β},Paired R xs us -> Paired R xs.reverse us.reverse
 | _,_,.nil=>.nil
 | _,_,.cons r t=>by
  rw [List.reverse_cons,List.reverse_cons]
  exact qAG (qBo t) (.cons r .nil)
theorem qET:qAt X (.type "range") (fun xs H Q=>∃ j:Int,xs=[.int j]/\∀ p,H p=none -> Q (.ref p) (upd H p (.rng 0 j))):=by
 intro pins s σ H xs us Q I r ⟨j,e,q⟩
 subst e
 obtain ⟨u,rfl,ru⟩:=L2.vals1 r
 obtain ⟨t,rfl⟩:=ru
 refine call_range_1 ⟨.ref s.heap.objs.size,_,I.laid (fun _ _ q=>Heap.get?_push_of_some _ q) (Nat.le_refl _) ?_,rfl,q _ (I.hok.fresh (Nat.le_refl _))⟩
 exact ⟨_,_,_,Heap.get?_push_size _ rfl⟩
theorem qB3 {P:Nat -> V}:∀ {n:Nat} {acc:List Value},acc.length=n -> (∀ (j:Nat) v,acc[j]?=some v -> RelV (P j) v) -> Vals ((List.range n).map P) acc:=by
 intro n
 induction n with
 | zero=>intro acc hl _;cases acc with | nil=>exact .nil | cons _ _=>simp at hl
 | succ n ih=>
  intro acc hl ha
  have hne:acc≠[]:=by intro z;subst z;simp at hl
  rw [List.range_succ,List.map_append,<- List.dropLast_concat_getLast hne]
  have hd:acc.dropLast.length=n:=by rw [List.length_dropLast,hl];rfl
  refine qAG (ih hd fun j v e=>ha j v ?_) (.cons (ha n _ ?_) .nil)
  ·rw [<- List.dropLast_concat_getLast hne,List.getElem?_append_left (List.getElem?_eq_some_iff.mp e).1];exact e
  ·rw [List.getElem?_eq_getElem (by omega),List.getLast_eq_getElem]
   congr 1
   simp [hl]
theorem qFr:qAt X (.type "range") (fun xs H Q=>∃ i j:Int,xs=[.int i,.int j]/\∀ p,H p=none -> Q (.ref p) (upd H p (.rng i j))):=by
 intro pins s σ H xs us Q I r ⟨i,j,e,q⟩
 subst e
 cases r with
 | cons r1 rr=>
  cases rr with
  | cons r2 rr=>
   cases rr
   obtain ⟨t,rfl⟩:=r1
   obtain ⟨u,rfl⟩:=r2
   refine call_range_2 ⟨.ref s.heap.objs.size,_,I.laid (fun _ _ q=>Heap.get?_push_of_some _ q) (Nat.le_refl _) ?_,rfl,q _ (I.hok.fresh (Nat.le_refl _))⟩
   exact ⟨_,_,_,Heap.get?_push_size _ rfl⟩
theorem qDB (hc:X.calm=true):qAt X (.type "list") (fun xs H Q=>∃ p,∃ i j:Int,xs=[.ref p]/\H p=some (.rng i j)/\(-1000000<=i/\-1000000<=j/\i<=100000/\j<=100000/\j - i<=100000)/\∀ l,H l=none -> Q (.ref l) (upd H l (.lst (qAo i (j - i).toNat)))):=by
 intro pins s σ H xs us Q I r ⟨p,i,j,e,hp,hj,q⟩
 subst e
 obtain ⟨u,rfl,ru⟩:=L2.vals1 r
 cases ru
 obtain ⟨t,u,v,hr⟩:=I.hok p _ hp
 have hn:Builtin.Range.rangeSize i j 1=(((j - i).toNat:Nat):Int):=by rw [rangeSize_one];split<;>omega
 refine call_list_range (I.ok.hd hc) hr (small_one (by omega) (by omega) (by omega) (by omega)) hn (by omega) fun h' tk acc' c' hk hS hI=>?_
 refine ⟨.ref s.heap.objs.size,_,I.laid (t':=tk) hk (Nat.le_refl _) ?_,rfl,q _ (I.hok.fresh (Nat.le_refl _))⟩
 obtain ⟨i1,i2⟩:=hI
 refine ⟨?_,acc'.toList,c',qB3 (by simpa using i1) fun k v e=>?_,by simpa using hS⟩
 ·have:=qCB
  unfold lim at this
  rw [qAo,List.length_map,List.length_range]
  omega
 ·obtain ⟨t',rfl⟩:=i2 k v (by simpa using e)
  exact ⟨t',by rw [Int.mul_one]⟩
theorem qDk (hc:X.calm=true):qAt X (.type "list") (fun xs H Q=>∃ p,∃ j:Int,xs=[.ref p]/\H p=some (.rng 0 j)/\(-1000000<=j/\j<=100000)/\∀ l,H l=none -> Q (.ref l) (upd H l (.lst (qAo 0 j.toNat)))):=by
 intro pins s σ H xs us Q I r ⟨p,j,e,hp,hj,q⟩
 subst e
 obtain ⟨u,rfl,ru⟩:=L2.vals1 r
 cases ru
 obtain ⟨t,u,v,hr⟩:=I.hok p _ hp
 have hn:Builtin.Range.rangeSize 0 j 1=((j.toNat:Nat):Int):=by rw [rangeSize_one];split<;>omega
 refine call_list_range (I.ok.hd hc) hr (small_one (by omega) (by omega) (by omega) (by omega)) hn (by omega) fun h' tk acc' c' hk hS hI=>?_
 refine ⟨.ref s.heap.objs.size,_,I.laid (t':=tk) hk (Nat.le_refl _) ?_,rfl,q _ (I.hok.fresh (Nat.le_refl _))⟩
 obtain ⟨i1,i2⟩:=hI
 refine ⟨?_,acc'.toList,c',qB3 (by simpa using i1) fun k v e=>?_,by simpa using hS⟩
 ·have:=qCB
  unfold lim at this
  rw [qAo,List.length_map,List.length_range]
  omega
 ·obtain ⟨t',rfl⟩:=i2 k v (by simpa using e)
  exact ⟨t',by rw [Int.mul_one]⟩
theorem qJT {p p2 pos2:Pos} (hc:X.calm=true) (hg:L2.Gl X "list") (hm:X.mg "list"=none) (hg2:L2.Gl X "range") (hm2:X.mg "range"=none) (hn:qAE ea=true) (ha:SE X G F ea a):
  SE X G F (.Call (.Name "list" p) [.Call (.Name "range" p2) [ea] [] pos2] [] pos) (.lrng a):=by
 refine qAX (L2.pe_callTy (qDk hc) hg hm PyProof.Rows.boot_list (L2.pa_cons (L2.pe_callTy qET hg2 hm2 PyProof.Rows.boot_range (L2.pa_cons ha L2.pa_nil (qAA hn)) (by decide) (by decide) (qAA hn) rfl) L2.pa_nil rfl) (by decide) (by decide) rfl rfl) fun σc H Q q=>?_
 obtain ⟨φ,h,σ,v,h',R,rs,e,k⟩:=q
 unfold ev at e
 obtain ⟨⟨x,h1⟩,e1,e⟩:=Res.bind_inv e
 refine ⟨φ,h,σ,x,h1,R,rs,e1,fun φ1 H1 w x1 R1 r1=>?_⟩
 cases x with
 | int j=>
  dsimp only at e
  split at e
  ·rename_i hj
   cases e
   cases qAB r1
   refine ⟨j,rfl,fun p hp=>⟨p,j,rfl,qAL,hj,fun l hl=>?_⟩⟩
   have hlp:l≠p:=by rintro rfl;rw [qAL] at hl;cases hl
   have R2:Rl X.K G φ1 h1 (upd H1 p (.rng 0 j)):=R1.same (qBf hp)
   exact k (φ1++[l]) _ _ (x1.trans ⟨[l],rfl⟩) (R2.newL hl (qC8 (by simp [qAo,qAq]))) R2.lastRef
  ·cases e
 | _=>cases e
theorem qIO {p p2 pos2:Pos} (hc:X.calm=true) (hg:L2.Gl X "list") (hm:X.mg "list"=none) (hg2:L2.Gl X "range") (hm2:X.mg "range"=none) (hn:qAE ea=true) (hn2:qAE eb=true) (ha:SE X G F ea a) (hb:SE X G F eb b):
  SE X G F (.Call (.Name "list" p) [.Call (.Name "range" p2) [ea,eb] [] pos2] [] pos) (.lrng2 a b):=by
 refine qAX (L2.pe_callTy (qDB hc) hg hm PyProof.Rows.boot_list (L2.pa_cons (L2.pe_callTy qFr hg2 hm2 PyProof.Rows.boot_range (L2.pa_cons ha (L2.pa_cons hb L2.pa_nil (qAA hn2)) (qAA hn)) (by decide) (by decide) (qAA hn) (qAv (by simp [hn2]))) L2.pa_nil rfl) (by decide) (by decide) rfl rfl) fun σc H Q q=>?_
 obtain ⟨φ,h,σ,v,h',R,rs,e,k⟩:=q
 unfold ev at e
 obtain ⟨⟨x,h1⟩,e1,e⟩:=Res.bind_inv e
 obtain ⟨⟨y,h2⟩,e2,e⟩:=Res.bind_inv e
 obtain ⟨i,j,rfl,rfl,e3⟩:=qAW e
 clear e
 refine ⟨φ,h,σ,_,h1,R,rs,e1,fun φ1 H1 w x1 R1 r1=>⟨φ1,h1,σ,_,h2,R1,rst.mono x1 rs,e2,fun φ2 H2 w2 x2 R2 r2=>?_⟩⟩
 split at e3
 ·rename_i hj
  cases e3
  cases qAB r1
  cases qAB r2
  refine ⟨i,j,rfl,fun p hp=>⟨p,i,j,rfl,qAL,hj,fun l hl=>?_⟩⟩
  have R3:Rl X.K G φ2 h2 (upd H2 p (.rng i j)):=R2.same (qBf hp)
  exact k (φ2++[l]) _ _ (x1.trans (x2.trans ⟨[l],rfl⟩)) (R3.newL hl (qC8 (by simp [qAo,qAq]))) R3.lastRef
 ·cases e3
theorem qDp {m:Mt} {r:V -> List V -> Hp -> VK -> Prop} {σc:St} {H:Hp} {Q:VK} {as:Es}
  (hr:∀ φ h H p ys ws v h' Q,Rl X.K G φ h H -> rvs φ ys ws -> qBM m p ys h=.ok (v,h') -> (∀ φ' H' w,Ext φ φ' -> Rl X.K G φ' h' H' -> rv φ' v w -> Q w H') -> ∀ a,φ[p]?=some a -> r (.ref a) ws H Q)
  (q:tE X.K G F (.meth m a as) σc H Q):L2.tBM X.K "list" r (tE X.K G F a) (tL X.K G F as) σc H Q:=by
 obtain ⟨φ,h,σ,v,h',R,rs,e,k⟩:=q
 unfold ev at e
 obtain ⟨⟨x,h1⟩,e1,e⟩:=Res.bind_inv e
 dsimp only at e
 split at e
 ·rename_i p
  split at e
  ·rename_i ys ey
   obtain ⟨⟨zs,h2⟩,e2,e⟩:=Res.bind_inv e
   refine ⟨φ,h,σ,_,h1,R,rs,e1,fun φ1 H1 w x1 R1 r1=>?_⟩
   obtain ⟨p1,zs1,hp1,hs1,_⟩:=R1.lst ey
   obtain ⟨q,rfl,hq⟩:=qAI r1
   rw [hp1] at hq;cases hq
   exact ⟨.inl ⟨rfl,_,hs1⟩,φ1,h1,σ,zs,h2,R1,rst.mono x1 rs,e2,fun φ2 H2 yc x2 R2 r2=>hr φ2 h2 H2 p zs yc v h' Q R2 r2 e (fun φ3 H3 w x3 R3 r3=>k φ3 H3 w (x1.trans (x2.trans x3)) R3 r3) _ (x2.get hp1)⟩
  ·cases e
 ·cases e
theorem qDe {m:Mt} {r:V -> List V -> Hp -> VK -> Prop} {σc:St} {H:Hp} {Q:VK}
  (hr:∀ φ h H p ys ws v h' Q,Rl X.K G φ h H -> rvs φ ys ws -> qBM m p ys h=.ok (v,h') -> (∀ φ' H' w,Ext φ φ' -> Rl X.K G φ' h' H' -> rv φ' v w -> Q w H') -> ∀ a,φ[p]?=some a -> r (.ref a) ws H Q)
  (q:tE X.K G F (.meth m a .nil) σc H Q):L2.tBM0 X.K "list" r (tE X.K G F a) σc H Q:=by
 obtain ⟨φ,h,σ,v,h',R,rs,e,k⟩:=q
 unfold ev at e
 obtain ⟨⟨x,h1⟩,e1,e⟩:=Res.bind_inv e
 dsimp only at e
 split at e
 ·rename_i p
  split at e
  ·rename_i ys ey
   obtain ⟨⟨zs,h2⟩,e2,e⟩:=Res.bind_inv e
   unfold evs at e2
   cases e2
   refine ⟨φ,h,σ,_,h1,R,rs,e1,fun φ1 H1 w x1 R1 r1=>?_⟩
   obtain ⟨p1,zs1,hp1,hs1,_⟩:=R1.lst ey
   obtain ⟨q,rfl,hq⟩:=qAI r1
   rw [hp1] at hq;cases hq
   exact ⟨.inl ⟨rfl,_,hs1⟩,hr φ1 h1 H1 p [] [] v h' Q R1 .nil e (fun φ3 H3 w x3 R3 r3=>k φ3 H3 w (x1.trans x3) R3 r3) _ hp1⟩
  ·cases e
 ·cases e
theorem qHu:∀ φ h H p ys ws v h' Q,Rl X.K G φ h H -> rvs φ ys ws -> qBM .pop p ys h=.ok (v,h') -> (∀ φ' H' w,Ext φ φ' -> Rl X.K G φ' h' H' -> rv φ' v w -> Q w H') -> ∀ a,φ[p]?=some a -> L2.rPop (.ref a) ws H Q:=by
 intro φ h H p ys ws v h' Q R rw' e k a ha
 cases ys with
 | cons y ys=>cases e
 | nil=>
  cases rw'
  unfold qBM at e
  dsimp only at e
  split at e
  ·rename_i xs ex
   split at e
   ·rename_i y ey
    cases e
    obtain ⟨q1,p2,zs2,hp2,hH2,rs2⟩:=R.mut ex
    rw [ha] at hp2;cases hp2
    obtain ⟨w,hw,rw2⟩:=qAF rs2 ey
    refine ⟨a,zs2,w,rfl,rfl,hH2,by rw [<- Paired.length rs2];exact hw,k φ _ _ (.refl _) (R.set q1 ha (qCr rs2)) rw2⟩
   ·cases e
  ·cases e
theorem qFu:∀ φ h H p ys ws v h' Q,Rl X.K G φ h H -> rvs φ ys ws -> qBM .popAt p ys h=.ok (v,h') -> (∀ φ' H' w,Ext φ φ' -> Rl X.K G φ' h' H' -> rv φ' v w -> Q w H') -> ∀ a,φ[p]?=some a -> L2.rPopAt (.ref a) ws H Q:=by
 intro φ h H p ys ws v h' Q R rw' e k a ha
 unfold qBM at e
 split at e
 all_goals first | (rename_i z _ _;cases z;done) | (rename_i z _;cases z;done) | (rename_i z;cases z;done) | skip
 ·cases rw' with
  | cons r1 t=>
   cases t
   cases qAB r1
   split at e
   ·rename_i xs ex
    split at e
    ·rename_i hl
     split at e
     ·rename_i j ej
      split at e
      ·rename_i y ey
       cases e
       obtain ⟨q1,p2,zs2,hp2,hH2,rs2⟩:=R.mut ex
       rw [ha] at hp2;cases hp2
       obtain ⟨w,hw,rw2⟩:=qAF rs2 ey
       obtain ⟨s1,s2,s3,s4⟩:=L2.ixN_seq ej
       have:=qCB
       unfold lim at hl
       refine ⟨a,zs2,_,j,w,rfl,rfl,hH2,by omega,by omega,by rw [<- Paired.length rs2];exact s1,hw,k φ _ _ (.refl _) (R.set q1 ha (qCs rs2 j)) rw2⟩
      ·cases e
     ·cases e
    ·cases e
   ·cases e
 ·cases e
theorem qII:∀ φ h H p ys ws v h' Q,Rl X.K G φ h H -> rvs φ ys ws -> qBM .rev p ys h=.ok (v,h') -> (∀ φ' H' w,Ext φ φ' -> Rl X.K G φ' h' H' -> rv φ' v w -> Q w H') -> ∀ a,φ[p]?=some a -> L2.rReverse (.ref a) ws H Q:=by
 intro φ h H p ys ws v h' Q R rw' e k a ha
 cases ys with
 | cons y ys=>cases e
 | nil=>
  cases rw'
  unfold qBM at e
  dsimp only at e
  split at e
  ·rename_i xs ex
   cases e
   obtain ⟨q1,p2,zs2,hp2,hH2,rs2⟩:=R.mut ex
   rw [ha] at hp2;cases hp2
   exact ⟨a,zs2,rfl,rfl,hH2,k φ _ _ (.refl _) (R.set q1 ha (qBo rs2)) trivial⟩
  ·cases e
theorem qIG:∀ φ h H p ys ws v h' Q,Rl X.K G φ h H -> rvs φ ys ws -> qBM .clr p ys h=.ok (v,h') -> (∀ φ' H' w,Ext φ φ' -> Rl X.K G φ' h' H' -> rv φ' v w -> Q w H') -> ∀ a,φ[p]?=some a -> L2.rClear (.ref a) ws H Q:=by
 intro φ h H p ys ws v h' Q R rw' e k a ha
 cases ys with
 | cons y ys=>cases e
 | nil=>
  cases rw'
  unfold qBM at e
  dsimp only at e
  split at e
  ·rename_i xs ex
   cases e
   obtain ⟨q1,p2,zs2,hp2,hH2,rs2⟩:=R.mut ex
   rw [ha] at hp2;cases hp2
   exact ⟨a,zs2,rfl,rfl,hH2,k φ _ _ (.refl _) (R.set q1 ha .nil) trivial⟩
  ·cases e
section
open L2 PyProof.Rows
noncomputable def qIY (K:PySem.W.Frag):V -> List V -> Hp -> VK -> Prop:=fun x vs H Q=>∃ l xs y,∃ j:Nat,∃ hj:j < xs.length,x=.ref l/\vs=[y]/\SqL K H l xs/\flatV y=true/\xs.all flatV=true/\eqV (xs[j]) y=true/\(∀ m (hm:m < j),eqV (xs[m]'(Nat.lt_trans hm hj)) y=false)/\Q (.int (j:Int)) H
theorem qIP {X:L2.Cx}:MtM X "list.index" (qIY X.K):=by
 intro pins s σ H x vs v us Q I rx rv h
 obtain ⟨l,xs,y,j,hj,rfl,rfl,hq,fy,fs,hit,hno,q⟩:=h
 cases rx
 obtain ⟨u,rfl,ru⟩:=rv.one
 obtain ⟨its,r,pl,hz⟩:=I.list hq
 have hl:=r.length
 obtain ⟨o,n,e,c1,c2,c3⟩:=id pl
 have e':s.heap.get? l=some { cls:=.type "list",dict:=o.dict,data:=.seq its.toArray n,slots:=o.slots }:=by
  rw [e];cases o;cases c1;cases c3;rfl
 have rel:∀ m (hm:m < xs.length),eqU y (its[m]'(by omega))=eqV xs[m] y:=fun m hm=>by
  obtain ⟨w,hw,rw'⟩:=r.get (List.getElem?_eq_getElem hm)
  rw [List.getElem?_eq_getElem (by omega)] at hw
  cases hw
  exact qEM rw' (List.all_eq_true.mp fs _ (List.getElem_mem hm))
 refine call_meets F.slot_list_index ⟨_,e',rfl⟩ F.entry_list_index (F.args_list_index_2 _ _) (SeqAt.list_indexAt l its.toArray n o.dict o.slots u (eqU y) j (by rw [List.size_toArray];omega) (by
  rw [sizeLine_eq] at hz
  omega) ?_ ?_) ⟨e',fun w hw=>qBA ru fy r fs w (by simpa using hw),⟨.int (j:Int),H,I.tok _,⟨_,rfl⟩,q⟩⟩
 ·rw [List.getElem_toArray,rel j hj];exact hit
 ·intro m hm hmj
  rw [List.getElem_toArray,rel m (by omega)];exact hno m hmj
end
section
open L2 PyProof.Rows
noncomputable def qGc (K:PySem.W.Frag):V -> List V -> Hp -> VK -> Prop:=fun x vs H Q=>∃ l xs y,∃ j:Nat,∃ hj:j < xs.length,x=.ref l/\vs=[y]/\SqT K H l xs/\flatV y=true/\xs.all flatV=true/\eqV (xs[j]) y=true/\(∀ m (hm:m < j),eqV (xs[m]'(Nat.lt_trans hm hj)) y=false)/\Q (.int (j:Int)) H
theorem qHD {X:L2.Cx}:MtM X "tuple.index" (qGc X.K):=by
 intro pins s σ H x vs v us Q I rx rv h
 obtain ⟨l,xs,y,j,hj,rfl,rfl,hq,fy,fs,hit,hno,q⟩:=h
 cases rx
 obtain ⟨u,rfl,ru⟩:=rv.one
 obtain ⟨its,r,pl,hz⟩:=I.tuple hq
 have hl:=r.length
 obtain ⟨o,e,c1,n,c3⟩:=id pl
 have e':s.heap.get? l=some { cls:=.type "tuple",dict:=o.dict,data:=.seq its.toArray n,slots:=o.slots }:=by
  rw [e];cases o;cases c1;cases c3;rfl
 have rel:∀ m (hm:m < xs.length),eqU y (its[m]'(by omega))=eqV xs[m] y:=fun m hm=>by
  obtain ⟨w,hw,rw'⟩:=r.get (List.getElem?_eq_getElem hm)
  rw [List.getElem?_eq_getElem (by omega)] at hw
  cases hw
  exact qEM rw' (List.all_eq_true.mp fs _ (List.getElem_mem hm))
 refine call_meets F.slot_tuple_index ⟨_,e',rfl⟩ F.entry_tuple_index (F.args_tuple_index_2 _ _) (PI.tuple_indexAt l its.toArray n o.dict o.slots u (eqU y) j (by rw [List.size_toArray];omega) ?_ ?_) ⟨e',fun w hw=>qBA ru fy r fs w (by simpa using hw),⟨.int (j:Int),H,I.tok _,⟨_,rfl⟩,q⟩⟩
 ·rw [List.getElem_toArray,rel j hj];exact hit
 ·intro m hm hmj
  rw [List.getElem_toArray,rel m (by omega)];exact hno m hmj
end
theorem qHo (hg:a.isGlob=false) {σc:St} {H:Hp} {Q:VK} (q:tE X.K G F (.index a b) σc H Q):L2.tBM X.K "list" (qIY X.K) (tE X.K G F a) (tL X.K G F (.cons b .nil)) σc H Q:=by
 obtain ⟨φ,h,σ,v,h',R,rs,e,k⟩:=q
 unfold ev at e
 rw [hg] at e
 obtain ⟨⟨x,h1⟩,e1,e⟩:=Res.bind_inv e
 replace e:=qAi e
 obtain ⟨p,rfl,e⟩:=e
 split at e
 ·rename_i ys ey
  replace ey:qAH h1 p=some ys:=ey
  obtain ⟨⟨y,h2⟩,e2,e⟩:=Res.bind_inv e
  refine ⟨φ,h,σ,_,h1,R,rs,e1,fun φ1 H1 w x1 R1 r1=>?_⟩
  obtain ⟨p1,zs1,hp1,hs1,_⟩:=R1.lst ey
  obtain ⟨q,rfl,hq⟩:=qAI r1
  rw [hp1] at hq;cases hq
  refine ⟨.inl ⟨rfl,_,hs1⟩,φ1,h1,σ,[y],h2,R1,rst.mono x1 rs,by unfold evs;rw [e2];unfold evs;rfl,fun φ2 H2 yc x2 R2 r2=>?_⟩
  cases r2 with
  | cons r3 t=>
   cases t
   dsimp only at e
   unfold qFM at e
   split at e
   ·rename_i xs ex
    replace ex:qAH h2 p=some xs:=ex
    split at e
    ·rename_i hf
     simp only [Bool.and_eq_true] at hf
     split at e
     ·rename_i j ej
      cases e
      obtain ⟨p2,zs2,hp2,hs2,rs2⟩:=R2.lst ex
      have hpp:=x2.get hp1
      rw [hp2] at hpp;cases hpp
      cases qCN hf.1 r3
      cases qAw hf.2 rs2
      obtain ⟨hj,a1,a2⟩:=List.findIdx?_eq_some_iff_getElem.mp ej
      exact ⟨_,xs,y,j,hj,rfl,rfl,hs2,by rw [qB8];exact hf.1,by rw [qCF];exact hf.2,a1,fun m hm=>by simpa using a2 m hm,k φ2 H2 _ (x1.trans x2) R2 rfl⟩
     ·cases e
    ·cases e
   ·cases e
 ·cases e
theorem qG4 {g:Nat} {ga:Addr} {og:Obj} (h1g:G[g]?=some ga) (h2g:X.K.lookup ga=some og) (h3g:og.cls=.type "tuple") (h4g:og.dict=none) {σc:St} {H:Hp} {Q:VK} (q:tE X.K G F (.index (.glob g) b) σc H Q):L2.tBM X.K "tuple" (qGc X.K) (tE X.K G F (.glob g)) (tL X.K G F (.cons b .nil)) σc H Q:=by
 obtain ⟨φ,h,σ,v,h',R,rs,e,k⟩:=q
 unfold ev at e
 obtain ⟨⟨x,h1⟩,e1,e⟩:=Res.bind_inv e
 replace e:=qAi e
 obtain ⟨p,rfl,e⟩:=e
 split at e
 ·rename_i ys ey
  replace ey:qAT h1 p=some ys:=ey
  have hpg:p=g:=by unfold ev at e1;cases e1;rfl
  subst hpg
  obtain ⟨⟨y,h2⟩,e2,e⟩:=Res.bind_inv e
  refine ⟨φ,h,σ,_,h1,R,rs,e1,fun φ1 H1 w x1 R1 r1=>?_⟩
  obtain ⟨p1,zs1,hp1,hs1,_⟩:=R1.tup ey
  obtain ⟨q,rfl,hq⟩:=qAI r1
  rw [hp1] at hq;cases hq
  have hgg:=R1.glob.get h1g
  rw [hp1] at hgg;cases hgg
  refine ⟨.inr (.inl ⟨rfl,og,h2g,h3g,h4g⟩),φ1,h1,σ,[y],h2,R1,rst.mono x1 rs,by unfold evs;rw [e2];unfold evs;rfl,fun φ2 H2 yc x2 R2 r2=>?_⟩
  cases r2 with
  | cons r3 t=>
   cases t
   dsimp only at e
   unfold qFM at e
   split at e
   ·rename_i xs ex
    replace ex:qAT h2 p=some xs:=ex
    split at e
    ·rename_i hf
     simp only [Bool.and_eq_true] at hf
     split at e
     ·rename_i j ej
      cases e
      obtain ⟨p2,zs2,hp2,hs2,rs2⟩:=R2.tup ex
      have hpp:=x2.get hp1
      rw [hp2] at hpp;cases hpp
      cases qCN hf.1 r3
      cases qAw hf.2 rs2
      obtain ⟨hj,a1,a2⟩:=List.findIdx?_eq_some_iff_getElem.mp ej
      exact ⟨_,xs,y,j,hj,rfl,rfl,hs2,by rw [qB8];exact hf.1,by rw [qCF];exact hf.2,a1,fun m hm=>by simpa using a2 m hm,k φ2 H2 _ (x1.trans x2) R2 rfl⟩
     ·cases e
    ·cases e
   ·cases e
 ·cases e
theorem qHY {apos cpos:Pos} (hglob:∀ g,a=.glob g -> ∃ ga o,G[g]?=some ga/\X.K.lookup ga=some o/\o.cls=.type "tuple"/\o.dict=none) (hbase:attributeBase ea "index" X.env (eval ea X.env)=eval ea X.env) (hline:(apos.endLine==cpos.line)=true) (hn:qAE eb=true) (ha:SE X G F ea a) (hb:SE X G F eb b):
  SE X G F (.Call (.Attribute ea "index" apos) [eb] [] cpos) (.index a b):=by
 cases hg:a.isGlob with
 | false=>exact qAX (L2.pe_bm PySem.F.plainAttrs_list PySem.F.slot_list_index PySem.F.type_list_index qIP ha (qBH hn hb qCZ) hbase (by rw [qAA hn];rfl) hline (qAA hn) rfl) fun _ _ _=>qHo hg
 | true=>
  unfold E.isGlob at hg
  split at hg
  ·obtain ⟨ga,o,g1,g2,g3,g4⟩:=hglob _ rfl
   exact qAX (L2.pe_bm PySem.F.plainAttrs_tuple PySem.F.slot_tuple_index PySem.F.type_tuple_index qHD ha (qBH hn hb qCZ) hbase (by rw [qAA hn];rfl) hline (qAA hn) rfl) fun _ _ _=>qG4 g1 g2 g3 g4
  ·cases hg
section
open L2 PyProof.Rows
noncomputable def qNs:V -> List V -> Hp -> VK -> Prop:=fun x vs H Q=>∃ l,∃ is:List Int,∃ i:Int,∃ k:Nat,x=.ref l/\vs=[.int i]/\H l=some (.lst (is.map V.int))/\is.findIdx? (·==i)=some k/\Q .non (upd H l (.lst ((is.map V.int).eraseIdx k)))
theorem qLY {X:L2.Cx}:MtM X "list.remove" qNs:=by
 intro pins s σ H x vs v us Q I rx rv h
 obtain ⟨l,is,i,k,rfl,rfl,hH,hk,q⟩:=h
 cases rx
 obtain ⟨u,rfl,ru⟩:=rv.one
 obtain ⟨t,rfl⟩:=ru
 obtain ⟨z,its,n,r,hl,e⟩:=I.lstM hH
 obtain ⟨hk1,hk2,hk3⟩:=List.findIdx?_eq_some_iff_getElem.mp hk
 have hl':its.length=is.length:=by rw [<- r.length,List.length_map]
 have at_:∀ m (hm:m < is.length),∃ t',its[m]'(by omega)=.int is[m] t':=fun m hm=>by
  obtain ⟨w,hw,rw'⟩:=r.get (i:=m) (x:=V.int is[m]) (by rw [List.getElem?_map,List.getElem?_eq_getElem hm];rfl)
  rw [List.getElem?_eq_getElem (by omega)] at hw
  cases hw
  exact rw'
 obtain ⟨ee,hee⟩:∃ ee:Value -> Bool,ee=fun v=>match v with | .int a _=>a==i | _=>false:=⟨_,rfl⟩
 refine call_meets F.slot_list_remove ⟨_,e,rfl⟩ F.entry_list_remove (F.args_list_remove_2 _ _)
  (MeetsSeq.list_remove l its.toArray n (.int i t) ee (fun y hy=>?_) k (by rw [List.size_toArray];omega) ?_ ?_ (by rw [List.size_toArray];omega)) ⟨e,?_⟩
 ·obtain ⟨m,hm,rfl⟩:=List.getElem_of_mem (show y∈its by simpa using hy)
  obtain ⟨t',et⟩:=at_ m (by omega)
  rw [et,hee]
  exact MeetsSeq.EqGives.int _ _ _ _
 ·rw [List.getElem_toArray]
  obtain ⟨t',et⟩:=at_ k hk1
  rw [et,hee];exact hk2
 ·intro m hm hmk
  rw [List.getElem_toArray]
  obtain ⟨t',et⟩:=at_ m (by omega)
  rw [et,hee]
  simpa using hk3 m hmk
 ·refine ⟨.non,_,I.lset (its':=its.eraseIdx k) hH e ?_ (r.eraseIdx k) ?_,rfl,q⟩
  ·show its.toArray.eraseIdxIfInBounds k=(its.eraseIdx k).toArray
   rw [List.eraseIdxIfInBounds_toArray]
  ·have:=qC3 (is.map V.int) k
   omega
end
theorem qFO {φ:List Addr}:∀ {is:List Int} {ws:List V},rvs φ (is.map V.int) ws -> ws=is.map V.int
 | [],_,.nil=>rfl
 | i::is,_,.cons r t=>by rw [qAB r,qFO t];rfl
theorem qHi:∀ φ h H p ys ws v h' Q,Rl X.K G φ h H -> rvs φ ys ws -> qBM .rem p ys h=.ok (v,h') -> (∀ φ' H' w,Ext φ φ' -> Rl X.K G φ' h' H' -> rv φ' v w -> Q w H') -> ∀ a,φ[p]?=some a -> qNs (.ref a) ws H Q:=by
 intro φ h H p ys ws v h' Q R rw' e k a ha
 unfold qBM at e
 split at e
 all_goals first | (rename_i z _ _;cases z;done) | (rename_i z _;cases z;done) | (rename_i z;cases z;done) | skip
 ·cases rw' with
  | cons r1 t=>
   cases t
   cases qAB r1
   split at e
   ·rename_i xs ex
    split at e
    ·split at e
     ·rename_i j ej
      cases e
      obtain ⟨is,eis,ej2⟩:=Option.bind_eq_some_iff.mp ej
      obtain ⟨q1,p2,zs2,hp2,hH2,rs2⟩:=R.mut ex
      rw [ha] at hp2;cases hp2
      have exs:=qBD eis
      subst exs
      have ez:=qFO rs2
      subst ez
      refine ⟨a,is,_,j,rfl,rfl,hH2,ej2,k φ _ _ (.refl _) (R.set q1 ha ?_) trivial⟩
      rw [List.eraseIdx_eq_take_drop_succ]
      exact qAG (qAk _ rs2) (qBJ _ rs2)
     ·cases e
    ·cases e
   ·cases e
 ·cases e
theorem qLd {apos cpos:Pos} (hbase:attributeBase ea "remove" X.env (eval ea X.env)=eval ea X.env) (hline:(apos.endLine==cpos.line)=true) (hn:qAE eb=true) (ha:SE X G F ea a) (hb:SE X G F eb b):
  SE X G F (.Call (.Attribute ea "remove" apos) [eb] [] cpos) (.meth .rem a (.cons b .nil)):=
 qAX (L2.pe_bm PySem.F.plainAttrs_list PySem.F.slot_list_remove PySem.F.type_list_remove qLY ha (qBH hn hb qCZ) hbase (by rw [qAA hn];rfl) hline (qAA hn) rfl) fun _ _ _=>qDp qHi
section
open L2 PyProof.Rows
noncomputable def qNj (K:PySem.W.Frag):V -> List V -> Hp -> VK -> Prop:=fun x vs H Q=>∃ l xs y,x=.ref l/\vs=[y]/\SqL K H l xs/\flatV y=true/\xs.all flatV=true/\Q (.int (xs.countP fun z=>eqV z y:Nat)) H
theorem qJz {y:V}:∀ {xs:List V} {its:List Value},Vals xs its -> xs.all flatV=true -> its.countP (eqU y)=xs.countP fun z=>eqV z y:=by
 intro xs its r
 induction r with
 | nil=>intro _;rfl
 | cons h t ih=>
  intro f
  rw [List.all_cons,Bool.and_eq_true] at f
  rw [List.countP_cons,List.countP_cons,ih f.2,qEM h f.1]
theorem qK0 {X:L2.Cx}:MtM X "list.count" (qNj X.K):=by
 intro pins s σ H x vs v us Q I rx rv h
 obtain ⟨l,xs,y,rfl,rfl,hq,fy,fs,q⟩:=h
 cases rx
 obtain ⟨u,rfl,ru⟩:=rv.one
 obtain ⟨its,r,pl,hz⟩:=I.list hq
 obtain ⟨o,n,e,c1,c2,c3⟩:=id pl
 have e':s.heap.get? l=some { cls:=.type "list",dict:=o.dict,data:=.seq its.toArray n,slots:=o.slots }:=by
  rw [e];cases o;cases c1;cases c3;rfl
 refine call_meets F.slot_list_count ⟨_,e',rfl⟩ F.entry_list_count (F.args_list_count_2 _ _) (list_countAt l its.toArray n o.dict o.slots u (eqU y)) ⟨e',fun w hw=>qBA ru fy r fs w (by simpa using hw),⟨.int (xs.countP fun z=>eqV z y:Nat),H,I.tok _,⟨s.toks,by rw [<- qJz r fs]⟩,q⟩⟩
end
theorem qCL {h:AH} {p:Nat} {xs:List V} (ex:qAV h p=some xs):qAH h p=some xs:=by
 unfold qAV at ex
 unfold qAH
 split at ex
 ·rename_i e0
  cases ex
  rw [e0]
 ·cases ex
theorem qHe:∀ φ h H p ys ws v h' Q,Rl X.K G φ h H -> rvs φ ys ws -> qBM .cnt p ys h=.ok (v,h') -> (∀ φ' H' w,Ext φ φ' -> Rl X.K G φ' h' H' -> rv φ' v w -> Q w H') -> ∀ a,φ[p]?=some a -> qNj X.K (.ref a) ws H Q:=by
 intro φ h H p ys ws v h' Q R rw' e k a ha
 unfold qBM at e
 split at e
 all_goals first | (rename_i z _ _;cases z;done) | (rename_i z _;cases z;done) | (rename_i z;cases z;done) | skip
 ·cases rw' with
  | cons r1 t=>
   cases t
   split at e
   ·rename_i xs ex
    split at e
    ·rename_i hf
     simp only [Bool.and_eq_true] at hf
     cases e
     obtain ⟨p2,zs2,hp2,hs2,rs2⟩:=R.lst (qCL ex)
     rw [ha] at hp2;cases hp2
     cases qCN hf.1 r1
     cases qAw hf.2 rs2
     exact ⟨a,xs,_,rfl,rfl,hs2,by rw [qB8];exact hf.1,by rw [qCF];exact hf.2,k φ H _ (.refl _) R rfl⟩
    ·cases e
   ·cases e
 ·cases e
theorem qLX {apos cpos:Pos} (hbase:attributeBase ea "count" X.env (eval ea X.env)=eval ea X.env) (hline:(apos.endLine==cpos.line)=true) (hn:qAE eb=true) (ha:SE X G F ea a) (hb:SE X G F eb b):
  SE X G F (.Call (.Attribute ea "count" apos) [eb] [] cpos) (.meth .cnt a (.cons b .nil)):=
 qAX (L2.pe_bm PySem.F.plainAttrs_list PySem.F.slot_list_count PySem.F.type_list_count qK0 ha (qBH hn hb qCZ) hbase (by rw [qAA hn];rfl) hline (qAA hn) rfl) fun _ _ _=>qDp qHe
section
open L2 PyProof.Rows
noncomputable def qNf:V -> List V -> Hp -> VK -> Prop:=fun x vs H Q=>∃ l m xs ys,x=.ref l/\vs=[.ref m]/\H l=some (.lst xs)/\H m=some (.lst ys)/\xs.length + ys.length<=100000/\Q .non (upd H l (.lst (xs++ys)))
theorem qLM {X:L2.Cx}:MtM X "list.extend" qNf:=by
 intro pins s σ H x vs v us Q I rx rv h
 obtain ⟨l,m,xs,ys,rfl,rfl,hH,hM,hlen,q⟩:=h
 cases rx
 obtain ⟨u,rfl,ru⟩:=rv.one
 cases ru
 obtain ⟨z,its,n,r,hl,e⟩:=I.lstM hH
 obtain ⟨z2,its2,n2,r2,hl2,e2⟩:=I.lstM hM
 have b1:its.length=xs.length:=r.length.symm
 have b2:its2.length=ys.length:=r2.length.symm
 have sz:=sizeLine_eq
 refine call_meets F.slot_list_extend ⟨_,e,rfl⟩ F.entry_list_extend (F.args_list_extend_2 _ _)
  (AutoSeq1.list_extend_list_list_0 l its.toArray n m its2.toArray n2 ?_ (by rw [List.size_toArray];omega) (by rw [List.size_toArray,List.size_toArray];omega)) ⟨e,e2,?_⟩
 ·unfold Builtin.List.listTooLong
  simp
  intro _
  omega
 ·refine ⟨.non,_,I.lset (its':=its++its2) hH e (by simp) (qAG r r2) ?_,rfl,q⟩
  rw [List.length_append]
  omega
end
theorem qHr:∀ φ h H p ys ws v h' Q,Rl X.K G φ h H -> rvs φ ys ws -> qBM .ext p ys h=.ok (v,h') -> (∀ φ' H' w,Ext φ φ' -> Rl X.K G φ' h' H' -> rv φ' v w -> Q w H') -> ∀ a,φ[p]?=some a -> qNf (.ref a) ws H Q:=by
 intro φ h H p ys ws v h' Q R rw' e k a ha
 unfold qBM at e
 split at e
 all_goals first | (rename_i z _ _;cases z;done) | (rename_i z _;cases z;done) | (rename_i z;cases z;done) | skip
 ·cases rw' with
  | cons r1 t=>
   cases t
   obtain ⟨q0,rfl,hq0⟩:=qAI r1
   split at e
   ·rename_i xs ex
    split at e
    ·rename_i ys ey
     split at e
     ·rename_i hc
      cases e
      obtain ⟨q1,p2,zs2,hp2,hH2,rs2⟩:=R.mut ex
      rw [ha] at hp2;cases hp2
      obtain ⟨q3,p3,zs3,hp3,hH3,rs3⟩:=R.mut ey
      rw [hq0] at hp3;cases hp3
      have l2:=Paired.length rs2
      have l3:=Paired.length rs3
      have hcl:xs.length + ys.length<=100000:=hc.2
      refine ⟨a,_,_,_,rfl,rfl,hH2,hH3,by rw [<- l2,<- l3];exact hcl,k φ _ _ (.refl _) (R.set q1 ha (qAG rs2 rs3)) trivial⟩
     ·cases e
    ·cases e
   ·cases e
 ·cases e
theorem qKl {apos cpos:Pos} (hbase:attributeBase ea "extend" X.env (eval ea X.env)=eval ea X.env) (hline:(apos.endLine==cpos.line)=true) (hn:qAE eb=true) (ha:SE X G F ea a) (hb:SE X G F eb b):
  SE X G F (.Call (.Attribute ea "extend" apos) [eb] [] cpos) (.meth .ext a (.cons b .nil)):=
 qAX (L2.pe_bm PySem.F.plainAttrs_list PySem.F.slot_list_extend PySem.F.type_list_extend qLM ha (qBH hn hb qCZ) hbase (by rw [qAA hn];rfl) hline (qAA hn) rfl) fun _ _ _=>qDp qHr
theorem qH5 {apos cpos:Pos} (hbase:attributeBase ea "pop" X.env (eval ea X.env)=eval ea X.env) (hline:(apos.endLine==cpos.line)=true) (hn:qAE eb=true) (ha:SE X G F ea a) (hb:SE X G F eb b):
  SE X G F (.Call (.Attribute ea "pop" apos) [eb] [] cpos) (.meth .popAt a (.cons b .nil)):=
 qAX (L2.pe_bm PySem.F.plainAttrs_list PySem.F.slot_list_pop PySem.F.type_list_pop L2.mt_popAt ha (qBH hn hb qCZ) hbase (by rw [qAA hn];rfl) hline (qAA hn) rfl) fun _ _ _=>qDp qFu
theorem qI8 {apos cpos:Pos} (hbase:attributeBase ea "pop" X.env (eval ea X.env)=eval ea X.env) (hline:(apos.endLine==cpos.line)=true) (ha:SE X G F ea a):SE X G F (.Call (.Attribute ea "pop" apos) [] [] cpos) (.meth .pop a .nil):=
 qAX (L2.pe_bm0 PySem.F.plainAttrs_list PySem.F.slot_list_pop PySem.F.type_list_pop L2.mt_pop ha hbase hline) fun _ _ _=>qDe qHu
theorem qJ5 {apos cpos:Pos} (hbase:attributeBase ea "reverse" X.env (eval ea X.env)=eval ea X.env) (hline:(apos.endLine==cpos.line)=true) (ha:SE X G F ea a):SE X G F (.Call (.Attribute ea "reverse" apos) [] [] cpos) (.meth .rev a .nil):=
 qAX (L2.pe_bm0 PySem.F.plainAttrs_list PySem.F.slot_list_reverse PySem.F.type_list_reverse L2.mt_reverse ha hbase hline) fun _ _ _=>qDe qII
theorem qJb {apos cpos:Pos} (hbase:attributeBase ea "clear" X.env (eval ea X.env)=eval ea X.env) (hline:(apos.endLine==cpos.line)=true) (ha:SE X G F ea a):SE X G F (.Call (.Attribute ea "clear" apos) [] [] cpos) (.meth .clr a .nil):=
 qAX (L2.pe_bm0 PySem.F.plainAttrs_list PySem.F.slot_list_clear PySem.F.type_list_clear L2.mt_clear ha hbase hline) fun _ _ _=>qDe qIG
end
end PI
namespace PI
open PySem PySem.Spec PyProof.Rows PySem.SeqAt
open L2 (V Hp HO Cx PE PT PA PS PSs PG PW TE TT TA TS VK upd qAL qAJ SqL SqT qEk Inv RelV Vals EP TP AP SP OpR qAt R2)
theorem qFR (is:List Int):qIT is=(firstMet (fun i=>is.getD i 0) is.length).length:=by
 unfold qIT firstMet
 congr 2
 apply List.ext_getElem
 ·simp
 ·intro i h1 h2
  simp [List.getD_eq_getElem?_getD,h1]
noncomputable def qM3 (P:Program) (w:World) (a:Addr) (n:Nat):Heap -> Prop:=fun h=>∃ o,∃ S:Int -> Bool,h.get? a=some o/\o.SetObjOf (intKind P w) S n
section
variable {X:Cx}
theorem qHG (hc:X.calm=true):qAt X (.type "set") (fun xs H Q=>∃ p,∃ is:List Int,xs=[.ref p]/\SqL X.K H p (is.map V.int)/\is.length < 1000/\∀ l,H l=none -> Q (.ref l) (upd H l (.ext (qM3 X.prog X.w l (qIT is))))):=by
 intro pins s σ H xs us Q I r ⟨p,is,e,hp,hj,q⟩
 subst e
 obtain ⟨u,rfl,ru⟩:=L2.vals1 r
 cases ru
 obtain ⟨its,rv',pl,_⟩:=I.list hp
 have hi:IntsAre its is:=L2.intsAre_of rv'
 have hl:its.length=is.length:=IntsAre.length hi
 refine call_set_list (items:=its.toArray) (ns:=is) (I.ok.hd hc) pl.isList (by simpa using hi) (by simp [scanBound];omega) fun h' tk hS hk=>?_
 obtain ⟨o,ho,hso⟩:=hS.objOf
 refine ⟨.ref s.heap.objs.size,_,I.laid (t':=tk) (fun b o' e=>hk b o' (Heap.lt_size e) e) (Nat.le_refl _) ?_,rfl,q _ (I.hok.fresh (Nat.le_refl _))⟩
 have e:qIT is=(firstMet (fun i=>is.getD i 0) its.toArray.size).length:=by rw [qFR,List.size_toArray,hl]
 rw [e]
 exact ⟨⟨o,_,ho,hso⟩,⟨o,ho⟩,fun h1 h2 ⟨o,S,q1,q2⟩ k=>⟨o,S,k _ q1,q2⟩⟩
theorem qFy:qAt X (.builtin "len") (fun xs H Q=>∃ p n,xs=[.ref p]/\H p=some (.ext (qM3 X.prog X.w p n))/\n < 1000/\Q (.int n) H):=by
 intro pins s σ H xs us Q I r ⟨p,n,e,hp,hn,q⟩
 subst e
 obtain ⟨u,rfl,ru⟩:=L2.vals1 r
 cases ru
 obtain ⟨⟨o,S,ho,hex,es,ep,t,hd,_,_,hz,hf⟩,_⟩:=I.hok p _ hp
 subst hz
 exact call_len_set ho hex hd hf (by omega) ⟨.int _,H,(I.tok _).tok _,⟨_,rfl⟩,q⟩
theorem qJS (is:List Int):qIT is<=is.length:=by rw [qFR];exact firstMet_length_le _ _
end
section
variable {X:Cx} {G:List Addr} {F:Nat -> List V -> AH -> RV} {a:E} {ea:Expr} {pos:Pos}
theorem qJF {p p2 pos2:Pos} (hc:X.calm=true) (hg:L2.Gl X "len") (hm:X.mg "len"=none) (hg2:L2.Gl X "set") (hm2:X.mg "set"=none) (hn:qAE ea=true) (ha:SE X G F ea a):
  SE X G F (.Call (.Name "len" p) [.Call (.Name "set" p2) [ea] [] pos2] [] pos) (.nset a):=by
 refine qAX (L2.pe_callB qFy hg hm PySem.boot_len (L2.pa_cons (L2.pe_callTy (qHG hc) hg2 hm2 PyProof.Rows.boot_set (L2.pa_cons ha L2.pa_nil (qAA hn)) (by decide) (by decide) (qAA hn) rfl) L2.pa_nil rfl) (by decide) (by decide) rfl rfl) fun σc H Q q=>?_
 obtain ⟨φ,h,σ,v,h',R,rs,e,k⟩:=q
 unfold ev at e
 obtain ⟨⟨x,h1⟩,e1,e⟩:=Res.bind_inv e
 refine ⟨φ,h,σ,x,h1,R,rs,e1,fun φ1 H1 w x1 R1 r1=>?_⟩
 dsimp only at e
 split at e
 ·rename_i q0
  split at e
  ·rename_i ys ey
   split at e
   ·rename_i is ei
    split at e
    ·rename_i hl
     cases e
     obtain ⟨p',rfl,hp⟩:=qAI r1
     obtain ⟨p'',zs,hp',hs,rs'⟩:=R1.lst ey
     rw [hp] at hp';cases hp'
     have hm':=qBD ei
     subst hm'
     have hz:=qAw (qCE is) rs'
     subst hz
     have:=qJS is
     refine ⟨p',is,rfl,hs,hl,fun l hl'=>⟨l,qIT is,rfl,qAL,by omega,?_⟩⟩
     have R2:=R1.same (qBf (o:=.ext (qM3 X.prog X.w l (qIT is))) hl')
     exact k φ1 _ _ x1 R2 rfl
    ·cases e
   ·cases e
  ·cases e
 ·cases e
end
end PI
namespace PI
open PySem PySem.Spec PyProof.Rows PySem.SeqAt
open L2 (V Hp HO Cx PE PT PA PS PSs PG PW TE TT TA TS VK upd qAL qAJ SqL SqT qEk Inv RelV Vals EP TP AP SP OpR qAt R2 It qEr qEK)
noncomputable def Itz (K:PySem.W.Frag) (a b:Addr):It:=
 ⟨fun i H=>∃ xs ys x y,SqL K H a xs/\SqL K H b ys/\xs[i]?=some x/\ys[i]?=some y,
  fun i H v H'=>∃ p x y,H p=none/\v=.ref p/\H'=upd H p (.tup [x,y])/\(∀ xs,SqL K H a xs -> xs[i]?=some x)/\∀ ys,SqL K H b ys -> ys[i]?=some y,
  fun i H=>∃ xs ys,SqL K H a xs/\SqL K H b ys/\(xs.length<=i\/ys.length<=i)⟩
theorem qHI {X:Cx} {pins:List (Addr×Obj)} {σ:L2.St} {H:Hp} {s:Shared} {h':Heap} {T:Addr} {xs:List V} {its:List Value} {ch:List Addr} {t':Nat} (I:Inv X pins σ H s) (hf:∀ b∈ch,qEK X pins H b)
  (hT:s.heap.objs.size<=T) (k:∀ b o,b∉ch -> s.heap.get? b=some o -> h'.get? b=some o) (hp:IsTup h' T its.toArray) (hv:Vals xs its) (hz:xs.length<=sizeLine) (hTc:T∉ch):
  Inv X pins σ (upd H T (.tup xs)) { s with heap:=h',toks:=t' }:=by
 have hn:H T=none:=I.hok.fresh hT
 have neT:∀ b o,s.heap.get? b=some o -> b≠T:=fun b o e=>Nat.ne_of_lt (Nat.lt_of_lt_of_le (Heap.lt_size e) hT)
 refine I.step (g':=s.gens) (d':=s.drawn) (ch:=ch) (fun b hb=>⟨(hf b hb).2.2.2.1,(hf b hb).2.1,(hf b hb).2.2.2.2.1,(hf b hb).2.2.2.2.2⟩) (fun b o _ _ hc e _=>k b o hc e) (fun b o _ _ hc e _=>⟨o.slots,k b o hc e⟩)
  (fun b o _ e n=>by rw [qAJ (neT b o e)];exact n) (fun b o hc e=>⟨o,k b o hc e⟩) (fun b ys e=>by rw [qAJ (L2.ne_of_none e hn)];exact e) (fun b o u e=>by rw [qAJ (L2.ne_of_none e hn)];exact e)
  (fun b ps e=>⟨#[],by rw [qAJ (L2.ne_of_none e hn),e];simp⟩) (fun m hm=>?_) (fun b u e=>?_) I.bare
 ·obtain ⟨o,es,ep,ho,r⟩:=hm
  exact ⟨o,es,ep,k _ o (fun z=>(hf _ z).2.1 rfl) ho,r⟩
 ·by_cases hb:b=T
  ·subst hb
   rw [qAL] at e
   cases e
   exact ⟨hz,its,hv,hp⟩
  ·rw [qAJ hb] at e
   have nc:∀ c u,H c=some u -> c∉ch:=fun c u q z=>by rw [(hf c z).1] at q;cases q
   refine (I.hok b u e).stay (fun c v hc q=>k c v ?_ q) (fun c q=>by rw [qAJ (L2.ne_of_none q hn)];exact q) fun c ys q=>by rw [qAJ (L2.ne_of_none q hn)];exact q
   rcases hc with z | z
   ·rw [z];exact nc b u e
   ·exact nc c _ z
theorem qH0 {P:Program} {w:World} {K:PySem.W.Frag} {elts:List Expr} {kk:Nat} {tpos:Pos} (z TI TO i1 i2 a b:Addr) (D:ZipApart z TI TO i1 i2 a b):
  qEr P w K (.Tuple elts kk tpos) (Itz K a b) [z,TI,TO,i1,i2] z (fun i h=>IsZip h z TI TO .none/\IsPair h TI (.ref i1) (.ref i2)/\(∃ x y,IsPair h TO x y)/\h.IsListIter i1 a i/\h.IsListIter i2 b i) where
 mem:=by simp
 obj:=fun i h st c hc=>by
  obtain ⟨h1,h2,⟨x,y,h3⟩,⟨o4,e4,c4,d4⟩,⟨o5,e5,c5,d5⟩⟩:=st
  simp only [List.mem_cons,List.not_mem_nil,or_false] at hc
  rcases hc with rfl | rfl | rfl | rfl | rfl
  ·exact ⟨_,h1,fun v q=>by have q':Data.fields _=Data.cell v:=q;cases q'⟩
  ·exact ⟨_,h2,fun v q=>by have q':Data.seq _ _=Data.cell v:=q;cases q'⟩
  ·exact ⟨_,h3,fun v q=>by have q':Data.seq _ _=Data.cell v:=q;cases q'⟩
  ·exact ⟨o4,e4,fun v q=>by rw [d4] at q;cases q⟩
  ·exact ⟨o5,e5,fun v q=>by rw [d5] at q;cases q⟩
 keep:=fun i h h' st k=>by
  obtain ⟨h1,h2,⟨x,y,h3⟩,h4,h5⟩:=st
  exact ⟨k z (by simp) _ h1,k TI (by simp) _ h2,⟨x,y,k TO (by simp) _ h3⟩,h4.at fun o e=>k i1 (by simp) o e,h5.at fun o e=>k i2 (by simp) o e⟩
 item:=by
  intro X hP hw hK hc i pins s σ H E I hf st hg
  subst hP hw hK
  obtain ⟨xs,ys,x,y,hq1,hq2,hx,hy⟩:=hg
  obtain ⟨its1,rv1,p1,_⟩:=I.list hq1
  obtain ⟨its2,rv2,p2,_⟩:=I.list hq2
  obtain ⟨u,hu,ru⟩:=rv1.get hx
  obtain ⟨w',hw',rw'⟩:=rv2.get hy
  obtain ⟨h1,h2,⟨ta,tb,h3⟩,h4,h5⟩:=st
  refine wpAny_pyNext_zip_item D h1 h2 h3 h4 h5 p1.isList p2.isList (x:=u) (y:=w') (by simpa using hu) (by simpa using hw') fun h' z1 z2 z3 z4 z5 z6 z7=>?_
  refine ⟨_,rfl,wpAny_letOwnedTupleGo_zip z1 fun h'' g1 gs=>?_⟩
  have lt:∀ c∈[z,TI,TO,i1,i2],c≠s.heap.objs.size:=fun c hc=>by
   have ex:∃ o,s.heap.get? c=some o:=by
    simp only [List.mem_cons,List.not_mem_nil,or_false] at hc
    rcases hc with rfl | rfl | rfl | rfl | rfl
    ·exact ⟨_,h1⟩
    ·exact ⟨_,h2⟩
    ·exact ⟨_,h3⟩
    ·obtain ⟨o,e,_⟩:=h4;exact ⟨o,e⟩
    ·obtain ⟨o,e,_⟩:=h5;exact ⟨o,e⟩
   obtain ⟨o,e⟩:=ex
   exact Nat.ne_of_lt (Heap.lt_size e)
  have up:∀ c o,c≠z -> h'.get? c=some o -> h''.get? c=some o:=fun c o hz e=>gs.extBut c o hz e
  have kp:∀ c o,c∉[z,TI,TO,i1,i2] -> s.heap.get? c=some o -> h''.get? c=some o:=fun c o hn e=>by
   simp only [List.mem_cons,List.not_mem_nil,or_false,not_or] at hn
   exact up c o hn.1 (z7 c o hn.1 hn.2.2.1 hn.2.2.2.1 hn.2.2.2.2 e)
  have ht:IsTup h'' s.heap.objs.size #[u,w']:=⟨_,up _ _ (Ne.symm (lt z (by simp))) z5,rfl,_,rfl⟩
  have I1:=qHI (t':=s.toks) (xs:=[x,y]) (its:=[u,w']) I hf (Nat.le_refl _) kp ht (.cons ru (.cons rw' .nil)) (by show 2<=sizeLine;decide) (fun q=>lt _ q rfl)
  refine ⟨.ref s.heap.objs.size,_,I1,rfl,⟨s.heap.objs.size,x,y,I.hok.fresh (Nat.le_refl _),rfl,rfl,fun zs hz=>by rw [I.list_inj hz hq1];exact hx,fun zs hz=>by rw [I.list_inj hz hq2];exact hy⟩,
   ⟨g1,up _ _ D.TIz (z7 TI _ D.TIz D.TITO D.TIi1 D.TIi2 h2),⟨_,_,up _ _ D.TOz z2⟩,z3.at fun o e=>up _ o D.i1z e,z4.at fun o e=>up _ o D.i2z e⟩,fun c hc=>?_⟩
  rw [qAJ (lt c hc)]
  exact (hf c hc).1
 done:=by
  intro X hP hw hK hc i pins s σ H E I hf st hg
  subst hP hw hK
  obtain ⟨xs,ys,hq1,hq2,hl⟩:=hg
  obtain ⟨its1,rv1,p1,_⟩:=I.list hq1
  obtain ⟨its2,rv2,p2,_⟩:=I.list hq2
  obtain ⟨h1,h2,⟨ta,tb,h3⟩,h4,h5⟩:=st
  have n1:=rv1.length
  have n2:=rv2.length
  refine wpAny_pyNext_zip_end (I.ok.hd hc) D h1 h2 h3 h4 h5 p1.isList p2.isList ?_ fun h' z7=>⟨rfl,?_⟩
  ·rcases hl with hl | hl
   ·left;simp;omega
   ·right;simp;omega
  ·have kp:∀ c o,c∉[z,TI,TO,i1,i2] -> s.heap.get? c=some o -> h'.get? c=some o:=fun c o hn e=>by
    simp only [List.mem_cons,List.not_mem_nil,or_false,not_or] at hn
    exact z7 c o hn.1 hn.2.2.1 hn.2.2.2.1 hn.2.2.2.2 e
   refine I.step (g':=s.gens) (d':=s.drawn) (t':=s.toks) (ch:=[z,TI,TO,i1,i2]) (fun b hb=>⟨(hf b hb).2.2.2.1,(hf b hb).2.1,(hf b hb).2.2.2.2.1,(hf b hb).2.2.2.2.2⟩) (fun b o _ _ hc e _=>kp b o hc e) (fun b o _ _ hc e _=>⟨o.slots,kp b o hc e⟩)
    (fun b o _ e n=>n) (fun b o hc e=>⟨o,kp b o hc e⟩) (fun b ys e=>e) (fun b o u e=>e) (fun b ps e=>⟨#[],by rw [e];simp⟩) (fun m hm=>?_) (fun b u e=>?_) I.bare
   ·obtain ⟨o,es,ep,ho,r⟩:=hm
    exact ⟨o,es,ep,kp _ o (fun z=>(hf _ z).2.1 rfl) ho,r⟩
   ·have nc:∀ c u,H c=some u -> c∉[z,TI,TO,i1,i2]:=fun c u q z=>by rw [(hf c z).1] at q;cases q
    refine (I.hok b u e).stay (fun c v hc q=>kp c v ?_ q) (fun c q=>q) fun c ys q=>q
    rcases hc with z | z
    ·rw [z];exact nc b u e
    ·exact nc c _ z
 self:=fun _ _ _ _ _ st h=>wpAny_pyIter_zip st.1 h
noncomputable def qOV (K:PySem.W.Frag) (ta:TA):L2.TI:=fun σ H R=>ta σ H fun vs H1=>∃ a b,vs=[.ref a,.ref b]/\(∃ xs,SqL K H1 a xs)/\(∃ ys,SqL K H1 b ys)/\R (Itz K a b) H1
theorem qLj {X:Cx} {ea eb:Expr} {ta:TA} {p pos tpos:Pos} {elts:List Expr} {kk:Nat} (hg:L2.Gl X "zip") (hm:X.mg "zip"=none) (ha:PA X [ea,eb] ta) (h1:qAE ea=true) (h2:qAE eb=true):
  L2.PI X (.Tuple elts kk tpos) (.Call (.Name "zip" p) [ea,eb] [] pos) (qOV X.K ta):=by
 intro pins s σ H R I h
 refine Call_ (L2.ld_blt I hg hm PyProof.Rows.boot_zip (PyProof.Rows.callWith_type1 (L2.thn (ha pos pins s σ H _ I h) fun us s1 ⟨vs,H1,I1,r1,q1⟩=>?_) (qAA h1) (qAv (by simp [h2]))))
 obtain ⟨a,b,e,⟨xs,hq1⟩,⟨ys,hq2⟩,q⟩:=q1
 subst e
 cases r1 with
 | cons r rr=>
  cases rr with
  | cons r' rr=>
   cases rr
   cases r
   cases r'
   obtain ⟨its1,rv1,p1,_⟩:=I1.list hq1
   obtain ⟨its2,rv2,p2,_⟩:=I1.list hq2
   have a1:a < s1.heap.objs.size:=by obtain ⟨_,e,_⟩:=p1.isList;exact Heap.lt_size e
   have a2:b < s1.heap.objs.size:=by obtain ⟨_,e,_⟩:=p2.isList;exact Heap.lt_size e
   refine call_zip_2 p1.isList p2.isList fun h' hz hTI hTO hi1 hi2 _ hk=>?_
   refine wpAny_pyIter_zip hz ?_
   have I2:Inv X pins σ H1 { s1 with heap:=h' }:=I1.kept (t':=s1.toks) hk
   refine ⟨_,_,_,_,H1,rfl,I2,qH0 _ _ _ _ _ a b (zipApart_new a1 a2),⟨hz,hTI,⟨_,_,hTO⟩,hi1,hi2⟩,fun c hc=>?_,q⟩
   have hge:s1.heap.objs.size<=c:=by
    simp only [List.mem_cons,List.not_mem_nil,or_false] at hc
    rcases hc with rfl | rfl | rfl | rfl | rfl
    ·exact Nat.le_add_right _ 4
    ·exact Nat.le_add_right _ 2
    ·exact Nat.le_add_right _ 3
    ·exact Nat.le_refl _
    ·exact Nat.le_add_right _ 1
   exact I1.fpOk hge (I1.hok.fresh hge)
end PI
namespace PI
open PySem PySem.Spec PyProof.Rows PySem.SeqAt
open L2 (V Hp HO Cx PE PT PA PS PSs PG PW TE TT TA TS VK upd qAL qAJ SqL SqT qEk Inv RelV Vals EP TP AP SP OpR qAt R2 It qEr qEK)
noncomputable def Ite (K:PySem.W.Frag) (a:Addr):It:=
 ⟨fun i H=>∃ xs x,SqL K H a xs/\xs[i]?=some x,
  fun i H v H'=>∃ p x,H p=none/\v=.ref p/\H'=upd H p (.tup [.int (i:Int),x])/\∀ xs,SqL K H a xs -> xs[i]?=some x,
  fun i H=>∃ xs,SqL K H a xs/\xs.length<=i⟩
theorem qGi {P:Program} {w:World} {K:PySem.W.Frag} {elts:List Expr} {kk:Nat} {tpos:Pos} (e it a:Addr) (hei:e≠it):
  qEr P w K (.Tuple elts kk tpos) (Ite K a) [e,it] e (fun i h=>(∃ old,IsEnum h e it i old)/\h.IsListIter it a i) where
 mem:=by simp
 obj:=fun i h st c hc=>by
  obtain ⟨⟨old,h1⟩,⟨o4,e4,c4,d4⟩⟩:=st
  simp only [List.mem_cons,List.not_mem_nil,or_false] at hc
  rcases hc with rfl | rfl
  ·exact ⟨_,h1,fun v q=>by have q':Data.fields _=Data.cell v:=q;cases q'⟩
  ·exact ⟨o4,e4,fun v q=>by rw [d4] at q;cases q⟩
 keep:=fun i h h' st k=>by
  obtain ⟨⟨old,h1⟩,h4⟩:=st
  exact ⟨⟨old,k e (by simp) _ h1⟩,h4.at fun o x=>k it (by simp) o x⟩
 item:=by
  intro X hP hw hK hc i pins s σ H E I hf st hg
  subst hP hw hK
  obtain ⟨xs,x,hq1,hx⟩:=hg
  obtain ⟨its1,rv1,p1,_⟩:=I.list hq1
  obtain ⟨u,hu,ru⟩:=rv1.get hx
  obtain ⟨⟨old,h1⟩,h4⟩:=st
  refine wpAny_pyNext_enum_item h1 h4 p1.isList (x:=u) (by simpa using hu) hei fun h' z1 z3 z5 z6 z7=>?_
  refine ⟨_,rfl,wpAny_letOwnedTupleGo_enum z1 fun h'' g1 gs=>?_⟩
  have lt:∀ c∈[e,it],c≠s.heap.objs.size:=fun c hc=>by
   have ex:∃ o,s.heap.get? c=some o:=by
    simp only [List.mem_cons,List.not_mem_nil,or_false] at hc
    rcases hc with rfl | rfl
    ·exact ⟨_,h1⟩
    ·obtain ⟨o,e,_⟩:=h4;exact ⟨o,e⟩
   obtain ⟨o,e⟩:=ex
   exact Nat.ne_of_lt (Heap.lt_size e)
  have up:∀ c o,c≠e -> h'.get? c=some o -> h''.get? c=some o:=fun c o hz q=>gs.extBut c o hz q
  have kp:∀ c o,c∉[e,it] -> s.heap.get? c=some o -> h''.get? c=some o:=fun c o hn q=>by
   simp only [List.mem_cons,List.not_mem_nil,or_false,not_or] at hn
   exact up c o hn.1 (z7 c o hn.1 hn.2 q)
  have ht:IsTup h'' s.heap.objs.size #[.int i s.toks,u]:=⟨_,up _ _ (Ne.symm (lt e (by simp))) z5,rfl,_,rfl⟩
  have I1:=qHI (t':=s.toks + 1) (xs:=[.int (i:Int),x]) (its:=[.int i s.toks,u]) I hf (Nat.le_refl _) kp ht (.cons ⟨_,rfl⟩ (.cons ru .nil)) (by show 2<=sizeLine;decide) (fun q=>lt _ q rfl)
  refine ⟨.ref s.heap.objs.size,_,I1,rfl,⟨s.heap.objs.size,x,I.hok.fresh (Nat.le_refl _),rfl,rfl,fun zs hz=>by rw [I.list_inj hz hq1];exact hx⟩,
   ⟨⟨_,by simpa using g1⟩,z3.at fun o q=>up _ o (Ne.symm hei) q⟩,fun c hc=>?_⟩
  rw [qAJ (lt c hc)]
  exact (hf c hc).1
 done:=by
  intro X hP hw hK hc i pins s σ H E I hf st hg
  subst hP hw hK
  obtain ⟨xs,hq1,hl⟩:=hg
  obtain ⟨its1,rv1,p1,_⟩:=I.list hq1
  obtain ⟨⟨old,h1⟩,h4⟩:=st
  have n1:=rv1.length
  obtain ⟨f0,f1,f2,f3,f4,f5⟩:=hf it (by simp)
  exact wpAny_pyNext_enum_end (I.ok.hd hc) h1 h4 p1.isList (by simp;omega) fun h' eb=>⟨rfl,I.turned (t':=s.toks) (fun b o hb q=>eb b o hb q) f0 f1 f3 f4 f5⟩
 self:=fun _ i s Q E st hQ=>by
  obtain ⟨⟨old,h1⟩,h4⟩:=st
  exact wpAny_pyIter_enum h1 hQ
noncomputable def qM6 (K:PySem.W.Frag) (ta:TA):L2.TI:=fun σ H R=>ta σ H fun vs H1=>∃ a,vs=[.ref a]/\(∃ xs,SqL K H1 a xs)/\R (Ite K a) H1
theorem qJl {X:Cx} {ea:Expr} {ta:TA} {p pos tpos:Pos} {elts:List Expr} {kk:Nat} (hg:L2.Gl X "enumerate") (hm:X.mg "enumerate"=none) (ha:PA X [ea] ta) (h1:qAE ea=true):
  L2.PI X (.Tuple elts kk tpos) (.Call (.Name "enumerate" p) [ea] [] pos) (qM6 X.K ta):=by
 intro pins s σ H R I h
 refine Call_ (L2.ld_blt I hg hm PyProof.Rows.boot_enumerate (PyProof.Rows.callWith_type1 (L2.thn (ha pos pins s σ H _ I h) fun us s1 ⟨vs,H1,I1,r1,q1⟩=>?_) (qAA h1) (qAv (by simp))))
 obtain ⟨a,e,⟨xs,hq1⟩,q⟩:=q1
 subst e
 cases r1 with
 | cons r rr=>
  cases rr
  cases r
  obtain ⟨its1,rv1,p1,_⟩:=I1.list hq1
  refine call_enumerate_list p1.isList fun h' he hi hsz hk=>?_
  refine wpAny_pyIter_enum he ?_
  have I2:Inv X pins σ H1 { s1 with heap:=h' }:=I1.kept (t':=s1.toks) hk
  refine ⟨_,_,_,_,H1,rfl,I2,qGi _ _ a (Nat.succ_ne_self _),⟨⟨_,he⟩,hi⟩,fun c hc=>?_,q⟩
  have hge:s1.heap.objs.size<=c:=by
   simp only [List.mem_cons,List.not_mem_nil,or_false] at hc
   rcases hc with rfl | rfl
   ·exact Nat.le_add_right _ 1
   ·exact Nat.le_refl _
  exact I1.fpOk hge (I1.hok.fresh hge)
noncomputable def Itv (K:PySem.W.Frag) (a:Addr) (n:Nat):It:=
 ⟨fun i H=>i < n/\∃ xs x,SqL K H a xs/\xs[n - 1 - i]?=some x,fun i H x H'=>H'=H/\∀ xs,SqL K H a xs -> xs[n - 1 - i]?=some x,fun i _=>i=n⟩
theorem qH3 {P:Program} {w:World} {K:PySem.W.Frag} {tg:Expr} (a it:Addr) (n:Nat):qEr P w K tg (Itv K a n) [it] it (fun i h=>h.IsRevIter it a ((n:Int) - 1 - (i:Int))) where
 mem:=by simp
 obj:=fun i h st b hb=>by
  have e:b=it:=by simpa using hb
  subst e
  obtain ⟨o,e,c,d⟩:=st
  exact ⟨o,e,fun v z=>by rw [d] at z;cases z⟩
 keep:=fun i h h' st k=>st.at fun o e=>k it (by simp) o e
 item:=by
  intro X hP hw hK hc i pins s σ H E I hf st hg
  subst hP hw hK
  obtain ⟨hi,xs,x,hq,hx⟩:=hg
  obtain ⟨its,rv,p,hz⟩:=I.list hq
  obtain ⟨u,hu,ru⟩:=rv.get hx
  obtain ⟨f0,f1,f2,f3,f4,f5⟩:=hf it (by simp)
  have e:(n:Int) - 1 - (i:Int)=((n - 1 - i:Nat):Int):=by omega
  rw [e] at st
  refine wpAny_pyNext_rev_item st p.isList (x:=u) (by simpa using hu) fun h' st' sb=>?_
  have e2:((n - 1 - i:Nat):Int) - 1=(n:Int) - 1 - ((i + 1:Nat):Int):=by omega
  rw [e2] at st'
  have I1:Inv X pins σ H { s with heap:=h' }:=I.turned (t':=s.toks) (fun b o hb e=>(sb.2 b hb).trans e) f0 f1 f3 f4 f5
  obtain ⟨o,e,c,d⟩:=id st'
  exact ⟨u,rfl,L2.go_of (s:={ s with heap:=h' }) e c d (by decide) ⟨x,H,I1,ru,⟨rfl,fun ys hy=>by rw [I.list_inj hy hq];exact hx⟩,st',fun b hb=>(hf b hb).1⟩⟩
 done:=by
  intro X hP hw hK hc i pins s σ H E I hf st hg
  subst hP hw hK
  cases hg
  obtain ⟨f0,f1,f2,f3,f4,f5⟩:=hf it (by simp)
  have e:(n:Int) - 1 - (n:Int)=-1:=by omega
  rw [e] at st
  exact wpAny_pyNext_rev_end (I.ok.hd hc) st fun h' eb=>⟨rfl,I.turned (t':=s.toks) (fun b o hb e=>eb b o hb e) f0 f1 f3 f4 f5⟩
 self:=fun _ _ _ _ _ st h=>wpAny_pyIter_revIter st h
noncomputable def qOb (K:PySem.W.Frag) (ta:TA):L2.TI:=fun σ H R=>ta σ H fun vs H1=>∃ a xs,vs=[.ref a]/\SqL K H1 a xs/\R (Itv K a xs.length) H1
theorem qKm {X:Cx} {ea tg:Expr} {ta:TA} {p pos:Pos} (hg:L2.Gl X "reversed") (hm:X.mg "reversed"=none) (ha:PA X [ea] ta) (h1:qAE ea=true):
  L2.PI X tg (.Call (.Name "reversed" p) [ea] [] pos) (qOb X.K ta):=by
 intro pins s σ H R I h
 refine Call_ (L2.ld_blt I hg hm PyProof.Rows.boot_reversed (PyProof.Rows.callWith_type1 (L2.thn (ha pos pins s σ H _ I h) fun us s1 ⟨vs,H1,I1,r1,q1⟩=>?_) (qAA h1) (qAv (by simp))))
 obtain ⟨a,xs,e,hq1,q⟩:=q1
 subst e
 cases r1 with
 | cons r rr=>
  cases rr
  cases r
  obtain ⟨its1,rv1,p1,_⟩:=I1.list hq1
  refine call_reversed_list p1.isList ?_
  have hk:∀ b o,s1.heap.get? b=some o -> (s1.heap.push (revObj a ((its1.toArray.size:Int) - 1))).get? b=some o:=fun b o e=>Heap.get?_push_of_some _ e
  have hit:(s1.heap.push (revObj a ((its1.toArray.size:Int) - 1))).IsRevIter s1.heap.objs.size a ((xs.length:Int) - 1 - ((0:Nat):Int)):=by
   refine ⟨_,Heap.get?_push_size _ rfl,rfl,?_⟩
   have:((its1.toArray.size:Nat):Int) - 1=(xs.length:Int) - 1 - ((0:Nat):Int):=by rw [rv1.length];simp
   rw [<- this];rfl
  refine wpAny_pyIter_revIter hit ?_
  have I2:Inv X pins σ H1 { s1 with heap:=s1.heap.push (revObj a ((its1.toArray.size:Int) - 1)) }:=I1.kept (t':=s1.toks) hk
  refine ⟨_,_,_,_,H1,rfl,I2,qH3 a _ xs.length,hit,fun c hc=>?_,q⟩
  have e:c=s1.heap.objs.size:=by simpa using hc
  subst e
  exact I1.fpOk (Nat.le_refl _) (I1.hok.fresh (Nat.le_refl _))
noncomputable def Itd (lo:Int) (n:Nat):It:=⟨fun i _=>i < n,fun i H x H'=>H'=H/\x=.int (lo - (i:Int)),fun i _=>n<=i⟩
theorem qEX {P:Program} {w:World} {K:PySem.W.Frag} {tg:Expr} (it:Addr) (lo:Int) (n:Nat):qEr P w K tg (Itd lo n) [it] it (fun i h=>IsRangeIter h it (lo + (i:Nat) * (-1)) ((n:Int) - (i:Nat)) (-1)) where
 mem:=by simp
 obj:=fun i h st b hb=>by
  have e:b=it:=by simpa using hb
  subst e
  exact ⟨_,st,fun v z=>by
   have z':Data.fields _=Data.cell v:=z
   cases z'⟩
 keep:=fun i h h' st k=>k it (by simp) _ st
 item:=by
  intro X hP hw hK hc i pins s σ H E I hf st hg
  subst hP hw hK
  obtain ⟨f0,f1,f2,f3,f4,f5⟩:=hf it (by simp)
  have W:=Walks.range (prog:=X.prog) (w:=X.w) (I.ok.hd hc) it lo (-1) n
  refine W.item i s _ _ hg st fun v h' tk hv st' kk=>?_
  obtain ⟨t,rfl⟩:=hv
  have I1:Inv X pins σ H { s with heap:=h',toks:=tk }:=I.turned (fun b o hb e=>kk b o (by simpa using hb) e) f0 f1 f3 f4 f5
  refine ⟨_,rfl,L2.go_of (s:={ s with heap:=h',toks:=tk }) (n:="range_iterator") st' rfl rfl (by decide) ⟨.int (lo - i),H,I1,⟨t,?_⟩,⟨rfl,rfl⟩,st',fun b hb=>(hf b hb).1⟩⟩
  congr 1
  omega
 done:=by
  intro X hP hw hK hc i pins s σ H E I hf st hg
  subst hP hw hK
  obtain ⟨f0,f1,f2,f3,f4,f5⟩:=hf it (by simp)
  exact wpAny_pyNext_range_end (I.ok.hd hc) st (by have:n<=i:=hg;omega) fun h' eb=>⟨rfl,I.turned (t':=s.toks) (fun b o hb e=>eb b o hb e) f0 f1 f3 f4 f5⟩
 self:=fun _ _ _ _ _ st h=>wpAny_pyIter_rangeiter st h
theorem qD0 (lo hi:Int):Builtin.Range.rangeSize lo hi (-1)=(((lo - hi).toNat:Nat):Int):=by
 unfold Builtin.Range.rangeSize
 simp
 split<;>omega
theorem qF7 {i j:Int} (h1:-1000000<=i) (h2:i<=1000000) (h3:-1000000<=j) (h4:j<=1000000):Builtin.Range.small i j (-1)=true:=by
 unfold Builtin.Range.small
 rw [qD0]
 simp only [Builtin.Range.rangeFitsLong,Bool.and_eq_true,Bool.or_eq_true,decide_eq_true_eq,beq_iff_eq,show ¬ ((-1:Int) > 0) by decide,if_false]
 (repeat' split)<;>omega
noncomputable def qNE (ta:TA):L2.TI:=fun σ H R=>ta σ H fun vs H1=>∃ i j:Int,vs=[.int i,.int j,.int (-1)]/\(-1000000<=i/\i<=1000000/\-1000000<=j/\j<=1000000)/\R (Itd i (i - j).toNat) H1
theorem qGb {X:Cx} {tg a b c:Expr} {ta:TA} {p pos:Pos} (hg:L2.Gl X "range") (hm:X.mg "range"=none) (ha:PA X [a,b,c] ta) (h1:qAE a=true) (h2:qAE b=true) (h3:qAE c=true):
  L2.PI X tg (.Call (.Name "range" p) [a,b,c] [] pos) (qNE ta):=by
 intro pins s σ H R I h
 refine Call_ (L2.ld_blt I hg hm PyProof.Rows.boot_range (PyProof.Rows.callWith_type1 (L2.thn (ha pos pins s σ H _ I h) fun us s1 ⟨vs,H1,I1,r1,q1⟩=>?_) (qAA h1) (qAv (by simp [h2,h3]))))
 obtain ⟨i,j,e,⟨q1,q2,q3,q4⟩,q⟩:=q1
 subst e
 cases r1 with
 | cons r rr=>
  cases rr with
  | cons r' rr=>
   cases rr with
   | cons r'' rr=>
    cases rr
    obtain ⟨t,rfl⟩:=r
    obtain ⟨t',rfl⟩:=r'
    obtain ⟨t'',rfl⟩:=r''
    refine call_range_3 (by decide) ?_ (Or.inl (PyProof.noPylong_small (by omega)))
    refine wpAny_pyIter_range (IsRange.new ..) (qF7 q1 q2 q3 q4) ?_
    have I2:Inv X pins σ H1 { s1 with heap:=s1.heap.push { cls:=.type "range",data:=.fields #[.int i t,.int j t',.int (-1) t''] },toks:=s1.toks }:=I1.kept fun b o e=>Heap.get?_push_of_some _ e
    refine ⟨(s1.heap.push { cls:=.type "range",data:=.fields #[.int i t,.int j t',.int (-1) t''] }).objs.size,[(s1.heap.push { cls:=.type "range",data:=.fields #[.int i t,.int j t',.int (-1) t''] }).objs.size],_,_,H1,rfl,
     I2.kept (t':=s1.toks) fun b o e=>Heap.get?_push_of_some _ e,qEX _ i (i - j).toNat,?_,fun b hb=>?_,q⟩
    ·show IsRangeIter _ _ (i + ((0:Nat):Int) * (-1)) ((((i - j).toNat:Nat):Int) - ((0:Nat):Int)) (-1)
     have e1:i + ((0:Nat):Int) * (-1)=i:=by simp
     have e2:(((i - j).toNat:Nat):Int) - ((0:Nat):Int)=Builtin.Range.rangeSize i j (-1):=by rw [qD0];simp
     rw [e1,e2]
     exact Heap.get?_push_size _ rfl
    ·have e:b=(s1.heap.push { cls:=.type "range",data:=.fields #[.int i t,.int j t',.int (-1) t''] }).objs.size:=by simpa using hb
     subst e
     exact I2.fpOk (Nat.le_refl _) (I2.hok.fresh (Nat.le_refl _))
end PI
namespace PI
open PySem PySem.Spec PyProof.Rows PySem.SeqAt
open L2 (V Hp HO Cx PE PT PA PS PSs TE TT TA TS VK It TI qEr Inv RelV FnOk)
noncomputable abbrev rrS (a b c:Int):Bool:=Builtin.Range.rangeFitsLong a&&Builtin.Range.rangeFitsLong b&&Builtin.Range.rangeFitsLong c&&Builtin.Range.rangeFitsLong (-c)&&Builtin.Range.rangeFitsLong (a - c)&&Builtin.Range.rangeFitsLong (Builtin.Range.rangeSize a b c)
noncomputable abbrev rrO (a b c:Int):Obj:={ cls:=.type (if rrS a b c then "range_iterator" else "longrange_iterator"),data:=.fields #[rawInt (a + (Builtin.Range.rangeSize a b c - 1) * c),rawInt (Builtin.Range.rangeSize a b c),rawInt (-c)] }
theorem qIF (r:Addr) (a b c:Int) (t u v:Tok) (hc0:¬ (!rrS a b c)=true):
  Meets (Builtin.«range.__reversed__» ⟨[.ref r],[]⟩) (fun _ R s=>IsRange s.heap r a b c t u v/\R (.ok (.ret (Value.ref s.heap.objs.size))) { s with heap:=s.heap.push (rrO a b c) }):=
 .of_wp fun prog w A R s h=>by
  obtain ⟨hp,g,d,tk,os⟩:=s
  obtain ⟨hl,h⟩:=h
  wp_walk
  exact ⟨_,rfl,h⟩
section
variable {prog:Program} {w:World} {A:Around} {E:Value -> Shared -> Prop} {s:Shared}
theorem qHB:isSubtype (.type "range_iterator") (.type "reversed")=pure false:=by rw [isSubtype_type];kernel_rfl
theorem qI1 {r:Addr} {a b c:Int} {t u v:Tok} {Q₁:Value -> Shared -> Prop} (hc0:¬ (!rrS a b c)=true) (hr:IsRange s.heap r a b c t u v) (h:Q₁ (.ref s.heap.objs.size) { s with heap:=s.heap.push (rrO a b c) }):
  codeAny (model prog w) A (.call (.builtin "reversed.__new__") ⟨[.type "reversed",.ref r],[]⟩) (wants Q₁ E) s:=by
 have hT:s.TypeIs (.ref r) "range":=⟨_,hr,rfl⟩
 have cr:∀ {B:Around} {Q₂:Value -> Shared -> Prop} {E₂:Value -> Shared -> Prop},Q₂ (.ref s.heap.objs.size) { s with heap:=s.heap.push (rrO a b c) } -> wpAny (model prog w) B (call (.builtin "range.__reversed__") [.ref r]) Q₂ E₂ s:=fun q=>call_meets F.slot_range_reversed hT F.entry_range_reversed (F.args_range_reversed_1 _) (qIF r a b c t u v hc0) ⟨hr,q⟩
 have nn:¬ ((Value.builtin "range.__reversed__"==Value.none)=true):=Bool.false_ne_true
 refine codeAny_of_tree ?_;show wpAny _ A.in1 (do checkBuiltinCall "reversed.__new__" ⟨[.type "reversed",.ref r],[]⟩;again (.builtin "reversed.__new__" ⟨[.type "reversed",.ref r],[]⟩)) _ _ s
 refine wpAny_bind (wpAny_of_eq (F.newCall_reversed_1 (.ref r)) (wpAny_pure ⟨plainId_quiet F.plain_reversed_new _,codeAny_builtin F.entry_reversed_new ?_⟩));rw [Around.under_plainId F.plain_reversed_new _];unfold Builtin.«reversed.__new__»
 refine wpAny_bind (wpAny_of_eq (newClass_reversed (.ref r)) ?_);(try dsimp only);refine wpAny_bind (wpAny_of_eq (a:=()) (by first | rfl | kernel_rfl) (wpAny_bind (wpAny_of_eq (a:=()) (by first | rfl | kernel_rfl) ?_)))
 (try dsimp only);refine wpAny_bind (wpAny_specialOf hT F.slot_range_reversed.lookup ?_);(try dsimp only);refine wpAny_bind (wpAny_of_eq (F.slot_range_reversed.bind (.ref r)) ?_);(try dsimp only)
 first | rw [if_neg nn] | (show wpAny _ _ (if (Value.builtin "range.__reversed__"==Value.none)=true then _ else _) _ _ _;rw [if_neg nn])
 refine wpAny_bind (wpAny_rule (wpAny_bind (m:=runValue (.call (.builtin "range.__reversed__") ⟨[.ref r],[]⟩)) (show wpAny _ _ (call (.builtin "range.__reversed__") [.ref r]) _ _ _ from cr ?_)))
 first | exact wpAny_pure h | exact wpAny_bind (wpAny_pure (wpAny_pure h))
theorem qJ8 {r:Addr} {a b c:Int} {t u v:Tok} {Q:Value -> Shared -> Prop} (hc0:¬ (!rrS a b c)=true) (hr:IsRange s.heap r a b c t u v) (h:Q (.ref s.heap.objs.size) { s with heap:=s.heap.push (rrO a b c) }):wpAny (model prog w) A (call (.type "reversed") [.ref r]) Q E s:=by
 refine callType_other (U:="range_iterator") (Q₁:=fun obj s₁=>obj=.ref s.heap.objs.size/\s₁={ s with heap:=s.heap.push (rrO a b c) }) (by decide +kernel) F.create_reversed ⟨_,_,F.mro_reversed⟩ F.made_reversed qHB (F.typeCall_reversed_1 (.ref r)) (qI1 hc0 hr ⟨rfl,rfl⟩) ?_
 rintro obj s₁ ⟨rfl,rfl⟩
 have e:rrS a b c=true:=by simpa using hc0
 exact ⟨⟨_,Heap.get?_push_size _ rfl,by show Value.type _=_;rw [e];rfl⟩,h⟩
end
theorem qGY {n:Int} (h0:0<=n):Builtin.Range.rangeSize 0 n 1=n:=by
 unfold Builtin.Range.rangeSize
 simp
 omega
theorem qKb {n:Int} (h0:0<=n) (h1:n<=1000000):¬ (!rrS 0 n 1)=true:=by
 unfold rrS
 rw [qGY h0]
 simp only [Builtin.Range.rangeFitsLong,Bool.not_eq_true',Bool.and_eq_false_iff,decide_eq_false_iff_not]
 omega
noncomputable def iRr (ta:TA):L2.TI:=fun σ H R=>ta σ H fun vs H1=>∃ p,∃ j:Int,vs=[.ref p]/\H1 p=some (.rng 0 j)/\(0<=j/\j<=1000000)/\R (Itd (j - 1) j.toNat) H1
theorem qNL {X:Cx} {ea tg:Expr} {ta:TA} {p pos:Pos} (hg:L2.Gl X "reversed") (hm:X.mg "reversed"=none) (ha:PA X [ea] ta) (h1:qAE ea=true):
  L2.PI X tg (.Call (.Name "reversed" p) [ea] [] pos) (iRr ta):=by
 intro pins s σ H R I h
 refine Call_ (L2.ld_blt I hg hm PyProof.Rows.boot_reversed (PyProof.Rows.callWith_type1 (L2.thn (ha pos pins s σ H _ I h) fun us s1 ⟨vs,H1,I1,r1,q1⟩=>?_) (qAA h1) (qAv (by simp))))
 obtain ⟨a,j,e,hH,⟨j0,j1⟩,q⟩:=q1
 subst e
 cases r1 with
 | cons r rr=>
  cases rr
  cases r
  obtain ⟨t,u,v,hr⟩:=(show L2.ObjOk X.prog X.w H1 s1.heap a (.rng 0 j) from I1.hok a _ hH)
  have sm:=qKb j0 j1
  have sm':rrS 0 j 1=true:=by simpa using sm
  refine qJ8 sm hr ?_
  have hk:∀ b o,s1.heap.get? b=some o -> (s1.heap.push (rrO 0 j 1)).get? b=some o:=fun b o e=>Heap.get?_push_of_some _ e
  have hit:IsRangeIter (s1.heap.push (rrO 0 j 1)) s1.heap.objs.size (j - 1 + ((0:Nat):Int) * (-1)) (((j.toNat:Nat):Int) - ((0:Nat):Int)) (-1):=by
   have e1:j - 1 + ((0:Nat):Int) * (-1)=0 + (j - 1) * 1:=by simp
   have e2:((j.toNat:Nat):Int) - ((0:Nat):Int)=j:=by omega
   rw [e1,e2]
   have e3:rrO 0 j 1={ cls:=.type "range_iterator",data:=.fields #[rawInt (0 + (j - 1) * 1),rawInt j,rawInt (-1)] }:=by
    unfold rrO;rw [sm',qGY j0];rfl
   rw [e3]
   exact Heap.get?_push_size _ rfl
  refine wpAny_pyIter_rangeiter hit ?_
  have I2:Inv X pins σ H1 { s1 with heap:=s1.heap.push (rrO 0 j 1) }:=I1.kept (t':=s1.toks) hk
  refine ⟨_,[s1.heap.objs.size],_,_,H1,rfl,I2,qEX _ (j - 1) j.toNat,hit,fun c hc=>?_,q⟩
  have e:c=s1.heap.objs.size:=by simpa using hc
  subst e
  exact I1.fpOk (Nat.le_refl _) (I1.hok.fresh (Nat.le_refl _))
end PI
namespace PI
open PySem PySem.Spec PyProof.Rows PySem.SeqAt
open L2 (V Hp HO Cx PE PT PA PS PSs PG PGs PW TE TT TA TS TG TGs VK upd qAL qAJ SqL SqT qEk Inv RelV Vals EP TP AP SP OpR qAt R2 It qEr qEK Itl Itt qGk)
section
variable (K:PySem.W.Frag) (G:List Addr)
noncomputable def tG (g:Tg):TG:=fun v σc H Q=>∃ φ h σ w σ',Rl K G φ h H/\rst φ σ σc/\rv φ w v/\store g w σ h=some σ'/\∀ σc',rst φ σ' σc' -> Q σc' H
noncomputable def tGs (is:List Nat):TGs:=fun vs σc H Q=>∃ φ σ ws σ',rst φ σ σc/\rvs φ ws vs/\qDM is ws σ=some σ'/\∀ σc',rst φ σ' σc' -> Q σc' H
end
section
variable {X:Cx} {G:List Addr} {F:Nat -> List V -> AH -> RV}
theorem qLs {e:Expr} {t t':TG} (h:PG X e t) (w:∀ v σ H Q,t' v σ H Q -> t v σ H Q):PG X e t':=fun pins s σ H v u Q I r q=>h pins s σ H v u Q I r (w v σ H Q q)
theorem qIa {e:List Expr} {t t':TGs} (h:PGs X e t) (w:∀ v σ H Q,t' v σ H Q -> t v σ H Q):PGs X e t':=fun pins s σ H v u Q I r q=>h pins s σ H v u Q I r (w v σ H Q q)
variable (X G) in
noncomputable abbrev SG (e:Expr) (g:Tg):Prop:=PG X e (tG X.K G g)
theorem qG7 {i:Nat} {x:Str} {pos:Pos} (hN:X.N.Nodup) (hi:X.N[i]?=some x) (hx:L2.Loc X.env.scope x) (hf:X.fn x=true\/X.env.scope.names.lookup x=some .local):SG X G (.Name x pos) (.name i):=by
 refine qLs (L2.pg_name hN hi hx hf) fun v σc H Q q=>?_
 obtain ⟨φ,h,σ,w,σ',R,rs,r,e,k⟩:=q
 unfold store at e
 cases e
 exact k _ (qAl (R:=ropt φ) (show ropt φ (some w) (some v) from ⟨v,rfl,r⟩) i rs)
theorem qJ1:PGs X [] (tGs []):=by
 refine qIa L2.pgs_nil fun vs σc H Q q=>?_
 obtain ⟨φ,σ,ws,σ',rs,r,e,k⟩:=q
 cases ws with
 | nil=>
  cases r
  cases e
  exact ⟨rfl,k _ rs⟩
 | cons _ _=>cases e
theorem qIB {i:Nat} {is:List Nat} {x:Str} {pos:Pos} {es:List Expr} (hN:X.N.Nodup) (hi:X.N[i]?=some x) (hx:L2.Loc X.env.scope x) (hf:X.fn x=true\/X.env.scope.names.lookup x=some .local) (hs:PGs X es (tGs is)):
  PGs X (.Name x pos::es) (tGs (i::is)):=by
 refine qIa (L2.pgs_cons (L2.pg_name hN hi hx hf) hs rfl) fun vs σc H Q q=>?_
 obtain ⟨φ,σ,ws,σ',rs,r,e,k⟩:=q
 cases ws with
 | nil=>cases e
 | cons w ws=>
  cases r with
  | cons r1 rr=>exact ⟨_,_,rfl,φ,_,ws,σ',qAl (R:=ropt φ) (show ropt φ (some w) (some _) from ⟨_,rfl,r1⟩) i rs,rr,e,k⟩
theorem qDH:∀ {is:List Nat} {xs:List V} {σ σ':St},qDM is xs σ=some σ' -> xs.length=is.length
 | [],[],_,_,_=>rfl
 | [],_::_,_,_,e=>by cases e
 | _::_,[],_,_,e=>by cases e
 | i::is,x::xs,σ,σ',e=>by
  have:=qDH (show qDM is xs _=some σ' from e)
  simp [this]
theorem qLL {is:List Nat} {es:List Expr} {k:Nat} {pos:Pos} (hc:X.calm=true) (h:PGs X es (tGs is)) (hn:(assignEach es X.env).length=is.length) (hst:(assignEach es X.env).findIdx? (·.1)=none):SG X G (.Tuple es k pos) (.tup is):=by
 refine qLs (L2.pg_tup hc h hn hst) fun v σc H Q q=>?_
 obtain ⟨φ,h,σ,w,σ',R,rs,r,e,k⟩:=q
 cases w with
 | ref a=>
  unfold store at e
  dsimp only at e
  split at e
  ·rename_i xs ex
   obtain ⟨p,zs,hp,hs,rz⟩:=R.tup ex
   obtain ⟨q,rfl,hq⟩:=qAI r
   rw [hp] at hq;cases hq
   exact ⟨_,zs,rfl,hs,by rw [<- Paired.length rz];exact qDH e,φ,σ,xs,σ',rs,rz,e,k⟩
  ·cases e
 | _=>cases e
noncomputable def IsJ (K:PySem.W.Frag) (φ:List Addr):Src -> It -> Prop
 | .list p,J=>∃ a,φ[p]?=some a/\J=Itl K a
 | .tupl p,J=>∃ a,φ[p]?=some a/\J=Itt K a
 | .rng lo n,J=>J=L2.Itr lo n
 | .zip p q,J=>∃ a b,φ[p]?=some a/\φ[q]?=some b/\J=Itz K a b
 | .enum p,J=>∃ a,φ[p]?=some a/\J=Ite K a
 | .rvd p n,J=>∃ a,φ[p]?=some a/\J=Itv K a n
 | .rngd lo n,J=>J=Itd lo n
theorem IsJ.mono {K:PySem.W.Frag} {φ φ':List Addr} (x:Ext φ φ'):∀ {s:Src} {J:It},IsJ K φ s J -> IsJ K φ' s J
 | .list _,_,⟨a,h,e⟩=>⟨a,x.get h,e⟩
 | .tupl _,_,⟨a,h,e⟩=>⟨a,x.get h,e⟩
 | .rng _ _,_,e=>e
 | .zip _ _,_,⟨a,b,h,g,e⟩=>⟨a,b,x.get h,x.get g,e⟩
 | .enum _,_,⟨a,h,e⟩=>⟨a,x.get h,e⟩
 | .rvd _ _,_,⟨a,h,e⟩=>⟨a,x.get h,e⟩
 | .rngd _ _,_,e=>e
section
variable {K:PySem.W.Frag} {φ:List Addr} {h h1:AH} {H H':Hp} {s:Src} {J:It} {i:Nat} {x v:V}
theorem IsJ.stop (j:IsJ K φ s J) (R:Rl K G φ h H) (e:qBZ h i s=true):J.stop i H:=by
 cases s with
 | list p=>
  obtain ⟨a,ha,rfl⟩:=j
  unfold qBZ at e
  dsimp only at e
  split at e
  ·rename_i xs ex
   obtain ⟨q,zs,hq,hs,rz⟩:=R.lst ex
   rw [ha] at hq;cases hq
   exact ⟨zs,hs,by rw [<- Paired.length rz];exact of_decide_eq_true e⟩
  ·cases e
 | tupl p=>
  obtain ⟨a,ha,rfl⟩:=j
  unfold qBZ at e
  dsimp only at e
  split at e
  ·rename_i xs ex
   obtain ⟨q,zs,hq,hs,rz⟩:=R.tup ex
   rw [ha] at hq;cases hq
   exact ⟨zs,hs,by rw [<- Paired.length rz];exact of_decide_eq_true e⟩
  ·cases e
 | rng lo n=>
  cases j
  show n<=i
  exact of_decide_eq_true e
 | zip p q=>
  obtain ⟨a,b,ha,hb,rfl⟩:=j
  unfold qBZ at e
  dsimp only at e
  split at e
  ·rename_i xs ys ex ey
   obtain ⟨a',zs,hq,hs,rz⟩:=R.lst ex
   obtain ⟨b',ws,hq',hs',rz'⟩:=R.lst ey
   rw [ha] at hq;cases hq
   rw [hb] at hq';cases hq'
   exact ⟨zs,ws,hs,hs',by rw [<- Paired.length rz,<- Paired.length rz'];exact of_decide_eq_true e⟩
  ·cases e
 | enum p=>
  obtain ⟨a,ha,rfl⟩:=j
  unfold qBZ at e
  dsimp only at e
  split at e
  ·rename_i xs ex
   obtain ⟨q,zs,hq,hs,rz⟩:=R.lst ex
   rw [ha] at hq;cases hq
   exact ⟨zs,hs,by rw [<- Paired.length rz];exact of_decide_eq_true e⟩
  ·cases e
 | rvd p n=>
  obtain ⟨a,ha,rfl⟩:=j
  show i=n
  exact of_decide_eq_true e
 | rngd lo n=>
  cases j
  show n<=i
  exact of_decide_eq_true e
theorem IsJ.go (j:IsJ K φ s J) (R:Rl K G φ h H) (e:qAa h i s=some (x,h1)):J.go i H:=by
 cases s with
 | list p=>
  obtain ⟨a,ha,rfl⟩:=j
  unfold qAa at e
  dsimp only at e
  split at e
  ·rename_i xs ex
   obtain ⟨y,ey,e2⟩:=Option.map_eq_some_iff.mp e
   obtain ⟨q,zs,hq,hs,rz⟩:=R.lst ex
   rw [ha] at hq;cases hq
   obtain ⟨z,hz,_⟩:=qAF rz ey
   exact ⟨zs,z,hs,hz⟩
  ·cases e
 | tupl p=>
  obtain ⟨a,ha,rfl⟩:=j
  unfold qAa at e
  dsimp only at e
  split at e
  ·rename_i xs ex
   obtain ⟨y,ey,e2⟩:=Option.map_eq_some_iff.mp e
   obtain ⟨q,zs,hq,hs,rz⟩:=R.tup ex
   rw [ha] at hq;cases hq
   obtain ⟨z,hz,_⟩:=qAF rz ey
   exact ⟨zs,z,hs,hz⟩
  ·cases e
 | rng lo n=>
  cases j
  unfold qAa at e
  dsimp only at e
  split at e
  ·rename_i hl
   exact hl
  ·cases e
 | zip p q=>
  obtain ⟨a,b,ha,hb,rfl⟩:=j
  unfold qAa at e
  dsimp only at e
  split at e
  ·rename_i xs ys ex ey
   split at e
   ·rename_i u w eu ew
    obtain ⟨a',zs,hq,hs,rz⟩:=R.lst ex
    obtain ⟨b',ws,hq',hs',rz'⟩:=R.lst ey
    rw [ha] at hq;cases hq
    rw [hb] at hq';cases hq'
    obtain ⟨z,hz,_⟩:=qAF rz eu
    obtain ⟨z',hz',_⟩:=qAF rz' ew
    exact ⟨zs,ws,z,z',hs,hs',hz,hz'⟩
   ·cases e
  ·cases e
 | enum p=>
  obtain ⟨a,ha,rfl⟩:=j
  unfold qAa at e
  dsimp only at e
  split at e
  ·rename_i xs ex
   obtain ⟨y,ey,e2⟩:=Option.map_eq_some_iff.mp e
   obtain ⟨q,zs,hq,hs,rz⟩:=R.lst ex
   rw [ha] at hq;cases hq
   obtain ⟨z,hz,_⟩:=qAF rz ey
   exact ⟨zs,z,hs,hz⟩
  ·cases e
 | rvd p n=>
  obtain ⟨a,ha,rfl⟩:=j
  unfold qAa at e
  dsimp only at e
  split at e
  ·rename_i hi
   split at e
   ·rename_i xs ex
    obtain ⟨y,ey,e2⟩:=Option.map_eq_some_iff.mp e
    obtain ⟨q,zs,hq,hs,rz⟩:=R.lst ex
    rw [ha] at hq;cases hq
    obtain ⟨z,hz,_⟩:=qAF rz ey
    exact ⟨hi,zs,z,hs,hz⟩
   ·cases e
  ·cases e
 | rngd lo n=>
  cases j
  unfold qAa at e
  dsimp only at e
  split at e
  ·rename_i hl
   exact hl
  ·cases e
theorem IsJ.yld (j:IsJ K φ s J) (R:Rl K G φ h H) (e:qAa h i s=some (x,h1)) (y:J.yld i H v H'):∃ φ',Ext φ φ'/\Rl K G φ' h1 H'/\rv φ' x v:=by
 cases s with
 | list p=>
  obtain ⟨a,ha,rfl⟩:=j
  unfold qAa at e
  dsimp only at e
  split at e
  ·rename_i xs ex
   obtain ⟨y',ey,e2⟩:=Option.map_eq_some_iff.mp e
   cases e2
   obtain ⟨q,zs,hq,hs,rz⟩:=R.lst ex
   rw [ha] at hq;cases hq
   obtain ⟨z,hz,rz'⟩:=qAF rz ey
   obtain ⟨rfl,k⟩:=y
   have:=k zs hs
   rw [hz] at this;cases this
   exact ⟨φ,.refl _,R,rz'⟩
  ·cases e
 | tupl p=>
  obtain ⟨a,ha,rfl⟩:=j
  unfold qAa at e
  dsimp only at e
  split at e
  ·rename_i xs ex
   obtain ⟨y',ey,e2⟩:=Option.map_eq_some_iff.mp e
   cases e2
   obtain ⟨q,zs,hq,hs,rz⟩:=R.tup ex
   rw [ha] at hq;cases hq
   obtain ⟨z,hz,rz'⟩:=qAF rz ey
   obtain ⟨rfl,k⟩:=y
   have:=k zs hs
   rw [hz] at this;cases this
   exact ⟨φ,.refl _,R,rz'⟩
  ·cases e
 | rng lo n=>
  cases j
  unfold qAa at e
  dsimp only at e
  split at e
  ·cases e
   obtain ⟨rfl,rfl⟩:=y
   exact ⟨φ,.refl _,R,rfl⟩
  ·cases e
 | zip p q=>
  obtain ⟨a,b,ha,hb,rfl⟩:=j
  unfold qAa at e
  dsimp only at e
  split at e
  ·rename_i xs ys ex ey
   split at e
   ·rename_i u w eu ew
    cases e
    obtain ⟨a',zs,hq,hs,rz⟩:=R.lst ex
    obtain ⟨b',ws,hq',hs',rz'⟩:=R.lst ey
    rw [ha] at hq;cases hq
    rw [hb] at hq';cases hq'
    obtain ⟨z,hz,r1⟩:=qAF rz eu
    obtain ⟨z',hz',r2⟩:=qAF rz' ew
    obtain ⟨p',x',y',hn,rfl,rfl,k1,k2⟩:=y
    have t1:=k1 zs hs
    have t2:=k2 ws hs'
    rw [hz] at t1;cases t1
    rw [hz'] at t2;cases t2
    exact ⟨φ++[p'],⟨[p'],rfl⟩,R.newT hn (.cons r1 (.cons r2 .nil)),R.lastRef⟩
   ·cases e
  ·cases e
 | enum p=>
  obtain ⟨a,ha,rfl⟩:=j
  unfold qAa at e
  dsimp only at e
  split at e
  ·rename_i xs ex
   obtain ⟨y',ey,e2⟩:=Option.map_eq_some_iff.mp e
   cases e2
   obtain ⟨q,zs,hq,hs,rz⟩:=R.lst ex
   rw [ha] at hq;cases hq
   obtain ⟨z,hz,r1⟩:=qAF rz ey
   obtain ⟨p',x',hn,rfl,rfl,k⟩:=y
   have:=k zs hs
   rw [hz] at this;cases this
   exact ⟨φ++[p'],⟨[p'],rfl⟩,R.newT hn (.cons rfl (.cons r1 .nil)),R.lastRef⟩
  ·cases e
 | rvd p n=>
  obtain ⟨a,ha,rfl⟩:=j
  unfold qAa at e
  dsimp only at e
  split at e
  ·split at e
   ·rename_i xs ex
    obtain ⟨y',ey,e2⟩:=Option.map_eq_some_iff.mp e
    cases e2
    obtain ⟨q,zs,hq,hs,rz⟩:=R.lst ex
    rw [ha] at hq;cases hq
    obtain ⟨z,hz,rz'⟩:=qAF rz ey
    obtain ⟨rfl,k⟩:=y
    have:=k zs hs
    rw [hz] at this;cases this
    exact ⟨φ,.refl _,R,rz'⟩
   ·cases e
  ·cases e
 | rngd lo n=>
  cases j
  unfold qAa at e
  dsimp only at e
  split at e
  ·cases e
   obtain ⟨rfl,rfl⟩:=y
   exact ⟨φ,.refl _,R,rfl⟩
  ·cases e
end
variable (G F) in
noncomputable def tI (K:PySem.W.Frag) (it:Itr):L2.TI:=fun σc H R=>∃ φ h σ s h',Rl K G φ h H/\rst φ σ σc/\evi F it σ h=.ok (s,h')/\∀ φ' H' J,Ext φ φ' -> Rl K G φ' h' H' -> IsJ K φ' s J -> R J H'
variable (X G F) in
noncomputable abbrev SI (tg iter:Expr) (it:Itr):Prop:=L2.PI X tg iter (tI G F X.K it)
theorem qEL {tg e:Expr} {t t':L2.TI} (h:L2.PI X tg e t) (w:∀ σ H Q,t' σ H Q -> t σ H Q):L2.PI X tg e t':=fun pins s σ H Q I q=>h pins s σ H Q I (w σ H Q q)
variable {a b:E} {ea eb tg:Expr} {pos p:Pos}
noncomputable def qO4 (K:PySem.W.Frag) (tl:TE):L2.TI:=fun σ H R=>tl σ H fun x H1=>∃ a,x=.ref a/\(((∃ xs,SqL K H1 a xs)/\R (Itl K a) H1)\/((∃ xs,SqT K H1 a xs)/\R (Itt K a) H1))
theorem qLl {l:Expr} {tl:TE} (hl:PE X l tl):L2.PI X tg l (qO4 X.K tl):=by
 intro pins s σ H R I h
 refine L2.thn (hl pins s σ H _ I h) fun v s1 ⟨x,H1,I1,r1,q1⟩=>?_
 obtain ⟨a,e,q⟩:=q1
 subst e
 cases r1
 rcases q with ⟨⟨xs,hq⟩,q⟩ | ⟨⟨xs,hq⟩,q⟩
 ·obtain ⟨its,rv,p,hz⟩:=I1.list hq
  refine wpAny_pyIter_list p.isList ?_
  refine ⟨s1.heap.objs.size,[s1.heap.objs.size],_,_,H1,rfl,I1.kept (t':=s1.toks) fun b o e=>Heap.get?_push_of_some _ e,L2.turn_list a _,⟨_,Heap.get?_push_size _ rfl,rfl,rfl⟩,fun b hb=>?_,q⟩
  have e:b=s1.heap.objs.size:=by simpa using hb
  subst e
  exact I1.fpOk (Nat.le_refl _) (I1.hok.fresh (Nat.le_refl _))
 ·obtain ⟨its,rv,p,hz⟩:=I1.tuple hq
  refine wpAny_pyIter_tuple (show s1.heap.IsTuple a its.toArray from p) ?_
  refine ⟨s1.heap.objs.size,[s1.heap.objs.size],_,_,H1,rfl,I1.kept (t':=s1.toks) fun b o e=>Heap.get?_push_of_some _ e,L2.turn_tuple a _,⟨_,Heap.get?_push_size _ rfl,rfl,rfl⟩,fun b hb=>?_,q⟩
  have e:b=s1.heap.objs.size:=by simpa using hb
  subst e
  exact I1.fpOk (Nat.le_refl _) (I1.hok.fresh (Nat.le_refl _))
theorem qGj (ha:SE X G F ea a):SI X G F tg ea (.list a):=by
 refine qEL (qLl ha) fun σc H Q q=>?_
 obtain ⟨φ,h,σ,s,h',R,rs,e,k⟩:=q
 unfold evi at e
 obtain ⟨⟨x,h1⟩,e1,e⟩:=Res.bind_inv e
 refine ⟨φ,h,σ,x,h1,R,rs,e1,fun φ1 H1 w x1 R1 r1=>?_⟩
 cases x with
 | ref p=>
  dsimp only at e
  cases ey:h1[p]? with
  | none=>rw [ey] at e;cases e
  | some o=>
   cases o with
   | lst fz ys=>
    rw [ey] at e
    cases e
    obtain ⟨q,zs,hq,hs,rz⟩:=R1.lst (i:=p) (xs:=ys) (by unfold qAH;rw [ey])
    obtain ⟨q',rfl,hq'⟩:=qAI r1
    rw [hq] at hq';cases hq'
    exact ⟨_,rfl,.inl ⟨⟨zs,hs⟩,k φ1 H1 _ x1 R1 ⟨_,hq,rfl⟩⟩⟩
   | tup ys=>
    rw [ey] at e
    cases e
    obtain ⟨q,zs,hq,hs,rz⟩:=R1.tup (i:=p) (xs:=ys) (by unfold qAT;rw [ey])
    obtain ⟨q',rfl,hq'⟩:=qAI r1
    rw [hq] at hq';cases hq'
    exact ⟨_,rfl,.inr ⟨⟨zs,hs⟩,k φ1 H1 _ x1 R1 ⟨_,hq,rfl⟩⟩⟩
   | ob ks=>rw [ey] at e;cases e
 | _=>cases e
theorem qJg (hg:L2.Gl X "range") (hm:X.mg "range"=none) (hn:qAE ea=true) (ha:SE X G F ea a):SI X G F tg (.Call (.Name "range" p) [ea] [] pos) (.rng1 a):=by
 refine qEL (L2.pi_range1 hg hm (L2.pa_cons ha L2.pa_nil (qAA hn)) (qAA hn)) fun σc H Q q=>?_
 obtain ⟨φ,h,σ,s,h',R,rs,e,k⟩:=q
 unfold evi at e
 obtain ⟨⟨x,h1⟩,e1,e⟩:=Res.bind_inv e
 refine ⟨φ,h,σ,x,h1,R,rs,e1,fun φ1 H1 w x1 R1 r1=>?_⟩
 cases x with
 | int j=>
  dsimp only at e
  split at e
  ·rename_i hj
   cases e
   cases qAB r1
   exact ⟨j,rfl,by omega,by omega,k φ1 H1 _ x1 R1 rfl⟩
  ·cases e
 | _=>cases e
theorem qJj (hg:L2.Gl X "range") (hm:X.mg "range"=none) (hn:qAE ea=true) (hn2:qAE eb=true) (ha:SE X G F ea a) (hb:SE X G F eb b):SI X G F tg (.Call (.Name "range" p) [ea,eb] [] pos) (.rng2 a b):=by
 refine qEL (L2.pi_range2 hg hm (L2.pa_cons ha (L2.pa_cons hb L2.pa_nil (qAA hn2)) (qAA hn)) (by rw [qAA hn,qAA hn2];rfl) (qAA hn2)) fun σc H Q q=>?_
 obtain ⟨φ,h,σ,s,h',R,rs,e,k⟩:=q
 unfold evi at e
 obtain ⟨⟨x,h1⟩,e1,e⟩:=Res.bind_inv e
 obtain ⟨⟨y,h2⟩,e2,e⟩:=Res.bind_inv e
 refine qBU R rs e1 e2 fun φ2 H2 xc yc x2 R2 r1 r2=>?_
 cases x with
 | int i=>
  cases y with
  | int j=>
   dsimp only at e
   split at e
   ·rename_i hj
    cases e
    cases qAB r1
    cases qAB r2
    exact ⟨i,j,rfl,⟨by omega,by omega,by omega,by omega⟩,k φ2 H2 _ x2 R2 rfl⟩
   ·cases e
  | _=>cases e
 | _=>cases e
noncomputable def E.isM1:E -> Bool
 | .neg (.cst (.int i))=>i==1
 | _=>false
theorem qMn {F:Nat -> List V -> AH -> RV} {c:E} {σ:St} {h:AH} (e:c.isM1=true):ev F c σ h=.ok (.int (-1),h):=by
 unfold E.isM1 at e
 split at e
 ·have:=eq_of_beq e
  subst this
  rfl
 ·cases e
theorem qJZ {ec:Expr} {c:E} (hg:L2.Gl X "range") (hm:X.mg "range"=none) (hn:qAE ea=true) (hn2:qAE eb=true) (hn3:qAE ec=true) (ha:SE X G F ea a) (hb:SE X G F eb b) (hc:SE X G F ec c) (h1:c.isM1=true):SI X G F tg (.Call (.Name "range" p) [ea,eb,ec] [] pos) (.rng3 a b):=by
 refine qEL (qGb hg hm (L2.pa_cons ha (L2.pa_cons hb (L2.pa_cons hc L2.pa_nil (qAA hn3)) (qAA hn2)) (qAA hn)) hn hn2 hn3) fun σc H Q q=>?_
 obtain ⟨φ,h,σ,s,h',R,rs,e,k⟩:=q
 unfold evi at e
 obtain ⟨⟨x,h1'⟩,e1,e⟩:=Res.bind_inv e
 obtain ⟨⟨y,h2⟩,e2,e⟩:=Res.bind_inv e
 refine qBU R rs e1 e2 fun φ2 H2 xc yc x2 R2 r1 r2=>?_
 refine ⟨φ2,h2,σ,.int (-1),h2,R2,rst.mono x2 rs,qMn h1,fun φ3 H3 zc x3 R3 r3=>?_⟩
 cases x with
 | int i=>
  cases y with
  | int j=>
   dsimp only at e
   split at e
   ·rename_i hj
    cases e
    cases qAB r1
    cases qAB r2
    cases qAB r3
    exact ⟨i,j,rfl,⟨by omega,by omega,by omega,by omega⟩,k φ3 H3 _ (x2.trans x3) R3 rfl⟩
   ·cases e
  | _=>cases e
 | _=>cases e
theorem qMQ {p2 pos2:Pos} (hg:L2.Gl X "reversed") (hm:X.mg "reversed"=none) (hg2:L2.Gl X "range") (hm2:X.mg "range"=none) (hn:qAE ea=true) (ha:SE X G F ea a):
  SI X G F tg (.Call (.Name "reversed" p) [.Call (.Name "range" p2) [ea] [] pos2] [] pos) (.rvr a):=by
 refine qEL (qNL hg hm (L2.pa_cons (L2.pe_callTy qET hg2 hm2 PyProof.Rows.boot_range (L2.pa_cons ha L2.pa_nil (qAA hn)) (by decide) (by decide) (qAA hn) rfl) L2.pa_nil rfl) rfl) fun σc H Q q=>?_
 obtain ⟨φ,h,σ,s,h',R,rs,e,k⟩:=q
 unfold evi at e
 obtain ⟨⟨x,h1⟩,e1,e⟩:=Res.bind_inv e
 refine ⟨φ,h,σ,x,h1,R,rs,e1,fun φ1 H1 w x1 R1 r1=>?_⟩
 cases x with
 | int j=>
  dsimp only at e
  split at e
  ·rename_i hj
   cases e
   cases qAB r1
   exact ⟨j,rfl,fun p hp=>⟨p,j,rfl,qAL,hj,k φ1 _ _ x1 (R1.same (qBf hp)) rfl⟩⟩
  ·cases e
 | _=>cases e
theorem qJH {elts:List Expr} {kk:Nat} {tpos:Pos} (hg:L2.Gl X "enumerate") (hm:X.mg "enumerate"=none) (hn:qAE ea=true) (ha:SE X G F ea a):
  SI X G F (.Tuple elts kk tpos) (.Call (.Name "enumerate" p) [ea] [] pos) (.enum a):=by
 refine qEL (qJl hg hm (L2.pa_cons ha L2.pa_nil (qAA hn)) hn) fun σc H Q q=>?_
 obtain ⟨φ,h,σ,s,h',R,rs,e,k⟩:=q
 unfold evi at e
 obtain ⟨⟨x,h1⟩,e1,e⟩:=Res.bind_inv e
 refine ⟨φ,h,σ,x,h1,R,rs,e1,fun φ1 H1 w x1 R1 r1=>?_⟩
 cases x with
 | ref p=>
  dsimp only at e
  split at e
  ·rename_i xs ex
   cases e
   obtain ⟨q,zs,hq,hs,rz⟩:=R1.lst ex
   obtain ⟨q',rfl,hq'⟩:=qAI r1
   rw [hq] at hq';cases hq'
   exact ⟨_,rfl,⟨zs,hs⟩,k φ1 H1 _ x1 R1 ⟨_,hq,rfl⟩⟩
  ·cases e
 | _=>cases e
theorem qGy (hg:L2.Gl X "reversed") (hm:X.mg "reversed"=none) (hn:qAE ea=true) (ha:SE X G F ea a):
  SI X G F tg (.Call (.Name "reversed" p) [ea] [] pos) (.revd a):=by
 refine qEL (qKm hg hm (L2.pa_cons ha L2.pa_nil (qAA hn)) hn) fun σc H Q q=>?_
 obtain ⟨φ,h,σ,s,h',R,rs,e,k⟩:=q
 unfold evi at e
 obtain ⟨⟨x,h1⟩,e1,e⟩:=Res.bind_inv e
 refine ⟨φ,h,σ,x,h1,R,rs,e1,fun φ1 H1 w x1 R1 r1=>?_⟩
 cases x with
 | ref p=>
  dsimp only at e
  split at e
  ·rename_i xs ex
   cases e
   obtain ⟨q,zs,hq,hs,rz⟩:=R1.lst ex
   obtain ⟨q',rfl,hq'⟩:=qAI r1
   rw [hq] at hq';cases hq'
   exact ⟨_,zs,rfl,hs,k φ1 H1 _ x1 R1 ⟨_,hq,by rw [<- Paired.length rz]⟩⟩
  ·cases e
 | _=>cases e
theorem qKt {elts:List Expr} {kk:Nat} {tpos:Pos} (hg:L2.Gl X "zip") (hm:X.mg "zip"=none) (hn:qAE ea=true) (hn2:qAE eb=true) (ha:SE X G F ea a) (hb:SE X G F eb b):
  SI X G F (.Tuple elts kk tpos) (.Call (.Name "zip" p) [ea,eb] [] pos) (.zip a b):=by
 refine qEL (qLj hg hm (L2.pa_cons ha (L2.pa_cons hb L2.pa_nil (qAA hn2)) (qAA hn)) hn hn2) fun σc H Q q=>?_
 obtain ⟨φ,h,σ,s,h',R,rs,e,k⟩:=q
 unfold evi at e
 obtain ⟨⟨x,h1⟩,e1,e⟩:=Res.bind_inv e
 obtain ⟨⟨y,h2⟩,e2,e⟩:=Res.bind_inv e
 refine qBU R rs e1 e2 fun φ2 H2 xc yc x2 R2 r1 r2=>?_
 cases x with
 | ref i=>
  cases y with
  | ref j=>
   dsimp only at e
   split at e
   ·rename_i xs ys ex ey
    cases e
    obtain ⟨a',zs,hq,hs,rz⟩:=R2.lst ex
    obtain ⟨b',ws,hq',hs',rz'⟩:=R2.lst ey
    obtain ⟨a2,rfl,ha2⟩:=qAI r1
    obtain ⟨b2,rfl,hb2⟩:=qAI r2
    rw [hq] at ha2;cases ha2
    rw [hq'] at hb2;cases hb2
    exact ⟨_,_,rfl,⟨zs,hs⟩,⟨ws,hs'⟩,k φ2 H2 _ x2 R2 ⟨_,_,hq,hq',rfl⟩⟩
   ·cases e
  | _=>cases e
 | _=>cases e
end
end PI
namespace PI
open PySem PySem.Spec PyProof.Rows PySem.SeqAt
open L2 (V Hp HO Cx PE PT PA PS PSs PG PGs PW TE TT TA TS TG TGs VK upd qAL qAJ SqL SqT qEk Inv RelV Vals EP TP AP SP OpR qAt R2 It qEr qEK Itl Itt qGk)
section
variable {X:Cx} {G:List Addr} {F:Nat -> List V -> AH -> RV}
theorem qLG {φ:List Addr}:∀ {v w w':V},rv φ v w -> rv φ v w' -> w=w'
 | .ref _,w,w',h,g=>by
  obtain ⟨a,e1,h1⟩:=qAI h
  obtain ⟨b,e2,g1⟩:=qAI g
  rw [h1] at g1
  cases g1
  rw [e1,e2]
 | .non,_,_,h,g=>by rw [qAy h,qAy g]
 | .bl _,_,_,h,g=>by rw [qA3 h,qA3 g]
 | .int _,_,_,h,g=>by rw [qAB h,qAB g]
 | .str _,_,_,h,g=>by rw [qA8 h,qA8 g]
 | .byt _,w,_,h,_=>by cases w<;>exact False.elim h
 | .flt _,w,_,h,_=>by cases w<;>exact False.elim h
 | .ty _,w,_,h,_=>by cases w<;>exact False.elim h
theorem qEn {φ:List Addr}:∀ {vs ws us:List V},rvs φ vs ws -> rvs φ vs us -> ws=us
 | _,_,_,.nil,.nil=>rfl
 | _,_,_,.cons r t,.cons r' t'=>by rw [qLG r r',qEn t t']
theorem qC5 {φ:List Addr} {σ σc:St} (r:rst φ σ σc):∀ src,rst φ (L2.inner src σ) (L2.inner src σc)
 | []=>.nil
 | none::src=>.cons trivial (qC5 r src)
 | some j::src=>by
  refine .cons ?_ (qC5 r src)
  show ropt φ (σ[j]?).join (σc[j]?).join
  cases e:σ[j]? with
  | none=>exact trivial
  | some o=>
   cases o with
   | none=>exact trivial
   | some v=>
    obtain ⟨oc,ec,r'⟩:=qAF r e
    obtain ⟨w,rfl,r'⟩:=r'
    rw [ec]
    exact ⟨w,rfl,r'⟩
variable (X G F) in
noncomputable abbrev SC (ifs:List Expr) (c:Es):Prop:=L2.PTs X ifs (tB X.K G (evc F c))
theorem qKO:SC X G F [] .nil:=by
 intro pins s σ H Q I q
 obtain ⟨φ,h,σa,b,h',R,rs,e,k⟩:=q
 unfold evc at e
 cases e
 exact L2.pts_nil pins s σ H Q I (k φ H (.refl _) R)
theorem qKp {c:Expr} {a:E} (hc:ST X G F c a):SC X G F [c] (.cons a .nil):=by
 intro pins s σ H Q I q
 obtain ⟨φ,h,σa,b,h',R,rs,e,k⟩:=q
 unfold evc at e
 exact L2.pts_one hc pins s σ H Q I ⟨φ,h,σa,b,h',R,rs,e,k⟩
theorem qG1 {it:Itr} {src:List (Option Nat)} {g:Tg} {c:Es} {e:E} {σc:St} {H:Hp} {Q:VK} (q:tE X.K G F (.comp it src g c e) σc H Q):
  L2.tComp (tI G F X.K it) src (tG X.K G g) (tB X.K G (evc F c)) (tE X.K G F e) σc H Q:=by
 obtain ⟨φ,h,σ,v,h',R,rs,ee,k⟩:=q
 unfold ev at ee
 obtain ⟨⟨s,h1⟩,e1,ee⟩:=Res.bind_inv ee
 refine ⟨φ,h,σ,s,h1,R,rs,e1,fun φ1 H1 J x1 R1 j1=>?_⟩
 dsimp only at ee
 split at ee
 ·rename_i n hn
  intro D hD
  have R2:Rl X.K G (φ1++[D]) (h1++[.lst false []]) (upd H1 D (.lst [])):=R1.newL hD .nil
  have hDφ:(φ1++[D])[h1.length]?=some D:=R1.lastRef
  refine ⟨fun i m ys σ' H'=>∃ φ' h2 σa ya,Ext (φ1++[D]) φ'/\Rl X.K G φ' h2 H'/\rst φ' σa σ'/\rvs φ' ya ys/\h2[h1.length]?=some (.lst false ya)/\qEQ s g (evc F c) (ev F e) h1.length m i ya σa h2=.ok (v,h'),
   ⟨n,φ1++[D],_,_,[],.refl _,R2,qC5 (rst.mono (x1.trans ⟨[D],rfl⟩) rs) src,.nil,by simp,ee⟩,?_⟩
  rintro i m ys σ' H' ⟨φ',h2,σa,ya,x2,Ra,rsa,rya,hya,ec⟩ hys
  have jj:IsJ X.K φ' s J:=j1.mono (Ext.trans ⟨[D],rfl⟩ x2)
  have hDφ':=x2.get hDφ
  cases m with
  | zero=>
   unfold qEQ at ec
   split at ec
   ·rename_i hst
    cases ec
    exact .inl ⟨jj.stop Ra hst,k φ' H' _ ((x1.trans ⟨[D],rfl⟩).trans x2) Ra hDφ'⟩
   ·cases ec
  | succ m=>
   unfold qEQ at ec
   split at ec
   ·rename_i x h3 hy
    split at ec
    ·rename_i σ3 hst
     refine .inr ⟨jj.go Ra hy,fun xv H2 hyl=>?_⟩
     obtain ⟨φ3,x3,R3,rx⟩:=jj.yld Ra hy hyl
     refine ⟨φ3,h3,σa,x,σ3,R3,rst.mono x3 rsa,rx,hst,fun σc3 rs3=>?_⟩
     obtain ⟨⟨t,h4⟩,e4,ec⟩:=Res.bind_inv ec
     refine ⟨φ3,h3,σ3,t,h4,R3,rs3,e4,fun φ4 H4 x4 R4=>?_⟩
     dsimp only at ec
     cases t with
     | true=>
      rw [if_pos rfl] at ec ⊢
      obtain ⟨⟨y,h5⟩,e5,ec⟩:=Res.bind_inv ec
      refine ⟨φ4,h4,σ3,y,h5,R4,rst.mono x4 rs3,e5,fun φ5 H5 yc x5 R5 r5=>?_⟩
      dsimp only at ec
      split at ec
      ·rename_i hc5
       have xx:Ext φ' φ5:=x3.trans (x4.trans x5)
       have hD5:=xx.get hDφ'
       obtain ⟨zs,hz,rz⟩:=R5.obj _ _ D hc5.1 hD5
       have ez:zs=ys:=qEn rz (rvs.mono xx rya)
       subst ez
       refine ⟨hz,by rw [<- Paired.length rz];exact Nat.lt_trans hc5.2 qIo,m,Nat.lt_succ_self _,φ5,_,σ3,_,x2.trans xx,R5.set hc5.1 hD5 (qAG rz (.cons r5 .nil)),rst.mono (x4.trans x5) rs3,qAG rz (.cons r5 .nil),?_,ec⟩
       rw [List.getElem?_set_self (List.getElem?_eq_some_iff.mp hc5.1).1]
      ·cases ec
     | false=>
      rw [if_neg (by decide)] at ec ⊢
      split at ec
      ·rename_i hc4
       have xx:Ext φ' φ4:=x3.trans x4
       have hD4:=xx.get hDφ'
       obtain ⟨zs,hz,rz⟩:=R4.obj _ _ D hc4 hD4
       have ez:zs=ys:=qEn rz (rvs.mono xx rya)
       subst ez
       exact ⟨hz,m,Nat.lt_succ_self _,φ4,_,σ3,_,x2.trans xx,R4,rst.mono x4 rs3,rz,hc4,ec⟩
      ·cases ec
    ·cases ec
   ·cases ec
 ·cases ee
end
end PI
namespace PI
open PySem PySem.Spec PyProof.Rows PySem.SeqAt
open L2 (V Hp HO Cx PE PT PA PS PSs PG PGs PW TE TT TA TS TG TGs VK upd qAL qAJ SqL SqT qEk Inv RelV Vals EP TP AP SP OpR qAt R2 It qEr qEK Itl Itt qGk)
section
variable {X:Cx} {G:List Addr} {F:Nat -> List V -> AH -> RV} {a b c:E} {ea eb ec tg:Expr} {pos:Pos}
theorem qGr {iter elt:Expr} {ifs:List Expr} {scope:Scope} {N:List Str} {it:Itr} {src:List (Option Nat)} {g:Tg} {cs:Es} {e:E} (hc:X.calm=true) (hi:SI X G F tg iter it) (S:L2.CompScope X scope N src)
  (hg:∀ C fp s H,SG (L2.cxComp X scope C fp s H N) G tg g) (ht:∀ C fp s H,SC (L2.cxComp X scope C fp s H N) G F ifs cs) (he:∀ C fp s H,SE (L2.cxComp X scope C fp s H N) G F elt e)
  (hs:∀ x,foldedSetIterable iter X.env x=pure x):SE X G F (.ListComp elt [⟨tg,iter,ifs,0⟩] scope pos) (.comp it src g cs e):=
 qAX (L2.pe_comp hc hi S hg ht he hs) fun _ _ _=>qG1
noncomputable def Post (K:PySem.W.Frag) (G:List Addr) (D:qGk) (φ:List Addr) (o:Out) (h':AH):Prop:=∀ φ' H',Ext φ φ' -> Rl K G φ' h' H' -> match o with
 | .nx σ=>∀ σc,rst φ' σ σc -> D.nx σc H'
 | .rt v=>∀ w,rv φ' v w -> D.rt w H'
 | .bk σ=>∀ σc,rst φ' σ σc -> D.bk σc H'
 | .ct σ=>∀ σc,rst φ' σ σc -> D.ct σc H'
theorem Post.mono {K:PySem.W.Frag} {D:qGk} {φ φ1:List Addr} {o:Out} {h':AH} (x:Ext φ φ1) (p:Post K G D φ o h'):Post K G D φ1 o h':=fun φ' H' x' R=>p φ' H' (x.trans x') R
noncomputable def tS (K:PySem.W.Frag) (G:List Addr) (r:St -> AH -> RS):TS:=fun D σc H=>∃ φ h σ o h',Rl K G φ h H/\rst φ σ σc/\r σ h=.ok (o,h')/\Post K G D φ o h'
variable (X G F) in
noncomputable abbrev SS (st:Stmt) (s:S):Prop:=PS X st (tS X.K G (ex F s))
variable (X G F) in
noncomputable abbrev SSs (st:List Stmt) (s:Ss):Prop:=PSs X st (tS X.K G (exs F s))
theorem qBl {e:Stmt} {t t':TS} (h:PS X e t) (w:∀ D σ H,t' D σ H -> t D σ H):PS X e t':=fun pins s σ H D I q=>h pins s σ H D I (w D σ H q)
theorem qIl {e:List Stmt} {t t':TS} (h:PSs X e t) (w:∀ D σ H,t' D σ H -> t D σ H):PSs X e t':=fun pins s σ H D I q=>h pins s σ H D I (w D σ H q)
theorem qAS {st:Stmt}:SS X G F st .stop:=by
 intro pins s σ H D I q
 obtain ⟨φ,h,σa,o,h',R,rs,e,k⟩:=q
 unfold ex at e
 cases e
noncomputable def qB9:Expr -> Bool
 | .ListComp ..=>false
 | .SetComp ..=>false
 | .DictComp ..=>false
 | _=>true
noncomputable def qLu:Expr -> Bool
 | .Tuple ..=>false
 | _=>true
theorem qCv {e:Expr} {t:Option Expr} {l:Nat} {env:Env} (h:qB9 e=true):swapsWith e t l env=pure false:=by
 cases e<;>first | rfl | cases h
theorem qBh {e t:Expr} {l:Nat} {env:Env} (h:qB9 e=true):swapsWithSole [t] e l env=pure false:=qCv h
theorem qJn {K:PySem.W.Frag} {σ:St} {H:Hp} {Q Q':VK} (q:tE K G F a σ H Q) (w:∀ v H,Q v H -> Q' v H):tE K G F a σ H Q':=by
 obtain ⟨φ,h,σa,v,h',R,rs,e,k⟩:=q
 exact ⟨φ,h,σa,v,h',R,rs,e,fun φ' H' u x' R' r'=>w u H' (k φ' H' u x' R' r')⟩
theorem qFo {g:Tg} {D:qGk} {σc:St} {H:Hp} (q:tS X.K G (ex F (.asg g a)) D σc H):L2.tAsg (tE X.K G F a) (tG X.K G g) D σc H:=by
 obtain ⟨φ,h,σ,o,h',R,rs,e,k⟩:=q
 unfold ex at e
 obtain ⟨⟨x,h1⟩,e1,e⟩:=Res.bind_inv e
 dsimp only at e
 split at e
 ·rename_i σ1 es
  cases e
  exact ⟨φ,h,σ,x,_,R,rs,e1,fun φ1 H1 w x1 R1 r1=>⟨φ1,_,σ,x,σ1,R1,rst.mono x1 rs,r1,es,fun σc' rs'=>k φ1 H1 x1 R1 σc' rs'⟩⟩
 ·cases e
theorem qLe {is:List Nat} {es:List Expr} {kk:Nat} {p:Pos} (hg:SG X G (.Tuple es kk p) (.tup is)) (ha:SE X G F ea a) (hc:qB9 ea=true) (ht:qLu ea=true):
  SS X G F (.Assign [.Tuple es kk p] ea pos) (.asg (.tup is) a):=
 qBl (L2.ps_asg ha hg (qBh hc) (by cases ea<;>first | rfl | cases ht) rfl) fun _ _ _=>qFo
theorem qLi {i j:Nat} {x y:Str} {ea eb:Expr} {a b:E} {px py pt pt2:Pos} {kt k2:Nat} (hc:X.calm=true) (hN:X.N.Nodup) (hi:X.N[i]?=some x) (hj:X.N[j]?=some y) (hij:i≠j)
  (hx:X.env.scope.names.lookup x=some .local) (hy:X.env.scope.names.lookup y=some .local) (h:SA X G F [ea,eb] (.cons a (.cons b .nil)))
  (hw:swappedStores [.Tuple [.Name x px,.Name y py] kt pt] (.Tuple [ea,eb] k2 pt2) X.env=pure (some [x,y])):
  SS X G F (.Assign [.Tuple [.Name x px,.Name y py] kt pt] (.Tuple [ea,eb] k2 pt2) pos) (.par i j a b):=by
 refine qBl (L2.ps_par hc hN hi hj hij hx hy h hw (qBh rfl)) fun D σc H q=>?_
 obtain ⟨φ,h,σ,o,h',R,rs,e,k⟩:=q
 unfold ex at e
 obtain ⟨⟨x1,h1⟩,e1,e⟩:=Res.bind_inv e
 obtain ⟨⟨y1,h2⟩,e2,e⟩:=Res.bind_inv e
 cases e
 refine ⟨φ,h,σ,[x1,y1],h',R,rs,?_,fun φ1 H1 ws xx R1 r1=>?_⟩
 ·unfold evs evs evs
  rw [e1]
  show ((ev F b σ h1).bind fun p=>Res.ok ([p.1],p.2)).bind _=_
  rw [e2];rfl
 ·cases r1 with
  | cons p q=>
   cases q with
   | cons p' q'=>
    cases q'
    have rs1:=qAl (R:=ropt φ1) (show ropt φ1 (some x1) (some _) from ⟨_,rfl,p⟩) i (rst.mono xx rs)
    exact ⟨_,_,rfl,k φ1 H1 xx R1 _ (qAl (R:=ropt φ1) (show ropt φ1 (some y1) (some _) from ⟨_,rfl,p'⟩) j rs1)⟩
theorem qJX {ea eb:Expr} (f:Expr -> Bool) (hf:∀ e,qAE e=true -> f e=false) (h1:qAE ea=true) (h2:qAE eb=true):[ea,eb].any f=false:=by
 simp [hf _ h1,hf _ h2]
theorem qEz {x y:Str} {ea eb:Expr} {px py pt pt2:Pos} {kt k2:Nat} {env:Env} (hb:env.blockKind=.function) (hx:env.scope.names.lookup x=some .local) (hy:env.scope.names.lookup y=some .local) (hl:py.line=px.line) (hxy:x≠y)
  (h1:qAE ea=true) (h2:qAE eb=true) (hf:[ea,eb].all (foldedForSure 8)=false) (hk:[ea,eb].all (constantsAlone 8)=false):
  swappedStores [.Tuple [.Name x px,.Name y py] kt pt] (.Tuple [ea,eb] k2 pt2) env=pure (some [x,y]):=by
 have hd:[x,y].eraseDups.length=2:=by
  have:(y==x)=false:=by simpa using fun e=>hxy e.symm
  simp [List.eraseDups_cons,this]
 have kx:env.kindOf x=some .local:=hx
 have ky:env.kindOf y=some .local:=hy
 unfold swappedStores
 show (if (!((2:Nat)==2||(2:Nat)==3)||(2:Nat) != 2||env.blockKind != .function)=true then _ else _)=_
 rw [hb,if_neg (by decide),qJX _ (fun e he=>by cases e<;>first | rfl | cases he) h1 h2,if_neg (by decide)]
 have fm:∀ f:Expr -> Option Str,f (.Name x px)=some x -> f (.Name y py)=some y -> [Expr.Name x px,.Name y py].filterMap f=[x,y]:=fun f a b=>by simp [a,b]
 dsimp (config:={ zeta:=true }) only
 rw [fm _ (by simp [kx,Expr.pos]) (by simp [ky,hl,Expr.pos]),hd,hf,hk]
 rfl
theorem qJm {iter elt:Expr} {ifs:List Expr} {scope:Scope} {N:List Str} {it:Itr} {src:List (Option Nat)} {g:Tg} {cs:Es} {e:E} {i:Nat} {n:Str} {p cpos:Pos} (hc:X.calm=true) (hi:SI X G F tg iter it) (S:L2.CompScope X scope N src)
  (hg:∀ C fp s H,SG (L2.cxComp X scope C fp s H N) G tg g) (ht:∀ C fp s H,SC (L2.cxComp X scope C fp s H N) G F ifs cs) (he:∀ C fp s H,SE (L2.cxComp X scope C fp s H N) G F elt e)
  (hs:∀ x,foldedSetIterable iter X.env x=pure x) (hN:X.N.Nodup) (hn:X.N[i]?=some n) (hx:L2.Loc X.env.scope n) (hf:X.fn n=true\/X.env.scope.names.lookup n=some .local):
  SS X G F (.Assign [.Name n p] (.ListComp elt [⟨tg,iter,ifs,0⟩] scope cpos) pos) (.asg (.name i) (.comp it src g cs e)):=by
 have hsw:swapsWith (.ListComp elt [⟨tg,iter,ifs,0⟩] scope cpos) (some (.Name n p)) pos.line X.env=pure (X.env.blockKind==.function&&X.env.kindOf n==some .local&&p.line==(Expr.ListComp elt [⟨tg,iter,ifs,0⟩] scope cpos).pos.line
   && !(scope.names.any fun (m,k)=>m==n&&(k==.local||k==.cell))):=rfl
 generalize hb:(X.env.blockKind==.function&&X.env.kindOf n==some .local&&p.line==(Expr.ListComp elt [⟨tg,iter,ifs,0⟩] scope cpos).pos.line
   && !(scope.names.any fun (m,k)=>m==n&&(k==.local||k==.cell)))=bb at hsw
 cases bb with
 | true=>
  have hl:X.env.scope.names.lookup n=some .local:=by
   simp only [Bool.and_eq_true] at hb
   have z:X.env.kindOf n=some .local:=by simpa using hb.1.1.2
   exact z
  refine qBl (L2.ps_setcomp (i:=i) (g:=tG X.K G g) (tc:=tB X.K G (evc F cs)) (te:=tE X.K G F e) hc hi S hg ht he hsw hN hn hl hs) fun D σc H q=>?_
  refine qG1 (qJn (qFo q) fun v H1 z=>?_)
  obtain ⟨φ,h,σ,w,σ',R,rs,r,es,k⟩:=z
  unfold store at es
  cases es
  exact k _ (qAl (R:=ropt φ) (show ropt φ (some w) (some v) from ⟨v,rfl,r⟩) i rs)
 | false=>exact qBl (L2.ps_asg (qGr hc hi S hg ht he hs) (qG7 hN hn hx hf) hsw rfl rfl) fun _ _ _=>qFo
noncomputable def qM0:L2.TSet:=fun o i v H Q=>L2.rSetL o i v H Q\/∃ p H',o=.ref p/\L2.DPut H p i v H'/\Q H'
theorem qJW (hu:X.A.units + 8 < cLine):L2.PSet X qM0:=by
 intro pins s σ H o i v ov iv u Q I ro ri rv h
 rcases h with h | ⟨p,H',rfl,g,q⟩
 ·exact L2.set_list pins s σ H o i v ov iv u Q I ro ri rv h
 ·cases ro
  exact L2.d_setItem (by omega) I g ri rv fun s' I'=>⟨H',I',q⟩
theorem qLI (hu:X.A.units + 8 < cLine) {eo ei:Expr} {o i:E} {p:Pos} (ho:SE X G F eo o) (hi:SE X G F ei i) (ha:SE X G F ea a) (hc:qB9 ea=true) (hsl:qB0 ei=true):SS X G F (.Assign [.Subscript eo ei p] ea pos) (.put o i a):=by
 refine qBl (L2.ps_asg ha (L2.pg_sub ho hi (qJW hu) (fun v=>by cases ei<;>first | rfl | cases hsl)) (qBh hc) (by cases ea<;>rfl) rfl) fun D σc H q=>?_
 obtain ⟨φ,h,σ,out,h',R,rs,e,k⟩:=q
 unfold ex at e
 obtain ⟨⟨x,h1⟩,e1,e⟩:=Res.bind_inv e
 obtain ⟨⟨p1,h2⟩,e2,e⟩:=Res.bind_inv e
 obtain ⟨⟨k1,h3⟩,e3,e⟩:=Res.bind_inv e
 refine ⟨φ,h,σ,x,h1,R,rs,e1,fun φ1 H1 w x1 R1 r1=>?_⟩
 refine ⟨φ1,h1,σ,p1,h2,R1,rst.mono x1 rs,e2,fun φ2 H2 w2 x2 R2 r2=>?_⟩
 refine ⟨φ2,h2,σ,k1,h3,R2,rst.mono (x1.trans x2) rs,e3,fun φ3 H3 w3 x3 R3 r3=>?_⟩
 cases p1 with
 | ref q=>
  cases k1 with
  | int j=>
   dsimp only at e
   split at e
   ·rename_i xs ex1
    split at e
    ·rename_i jj ej
     cases e
     obtain ⟨q1,a',zs,ha',hH,rz⟩:=R3.mut ex1
     obtain ⟨a2,rfl,ha2⟩:=qAI (rv.mono x3 r2)
     rw [ha'] at ha2;cases ha2
     cases qAB r3
     refine .inl ⟨_,zs,j,jj,rfl,rfl,hH,by rw [<- Paired.length rz];exact ej,?_⟩
     have xx:Ext φ φ3:=x1.trans (x2.trans x3)
     exact k φ3 _ xx (R3.set q1 ha' (qAl (rv.mono (x2.trans x3) r1) jj rz)) σc (rst.mono xx rs)
    ·cases e
   ·split at e
    ·rename_i kvs ed
     split at e
     ·rename_i hf
      cases e
      obtain ⟨a',ea,eh,hH⟩:=R3.dct ed
      obtain ⟨a2,rfl,ha2⟩:=qAI (rv.mono x3 r2)
      rw [ea] at ha2;cases ha2
      cases qAB r3
      have hl:(kvs.map kk).length < sizeLine:=by rw [List.length_map];exact Nat.lt_of_lt_of_le hf.2 qCB
      have xx:Ext φ φ3:=x1.trans (x2.trans x3)
      have fw:=qCN hf.1 r1
      subst fw
      refine .inr ⟨_,_,rfl,L2.DPut.k (k:=.inl j) hH hl,?_⟩
      rw [qKD]
      exact k φ3 _ xx (R3.write rfl rfl eh ea qAL) σc (rst.mono xx rs)
     ·cases e
    ·cases e
  | _=>cases e
 | _=>cases e
noncomputable def pur:Nat -> E -> Bool
 | 0,_=>false
 | n + 1,e=>match e with
  | .var _=>true
  | .cst _=>true
  | .idx a b=>pur n a&&pur n b
  | .blt .int (.cons a .nil)=>pur n a
  | .meth .cnt a (.cons b .nil)=>pur n a&&pur n b
  | _=>false
noncomputable def qHR:Nat -> E -> Bool
 | 0,_=>false
 | n + 1,e=>match e with
  | .bin _ a b=>qHR n a&&qHR n b
  | e=>pur n e
theorem qEt:∀ (n:Nat) {e:E} {σ:St} {h h':AH} {v:V},pur n e=true -> ev F e σ h=.ok (v,h') -> h'=h
 | 0,_,_,_,_,_,q,_=>by cases q
 | n + 1,e,σ,h,h',v,q,k=>by
  unfold pur at q
  split at q
  ·unfold ev at k
   split at k
   ·cases k;rfl
   ·cases k
  ·unfold ev at k;cases k;rfl
  ·rw [Bool.and_eq_true] at q
   unfold ev at k
   obtain ⟨⟨x,h1⟩,e1,k1⟩:=Res.bind_inv k
   obtain ⟨⟨y,h2⟩,e2,k2⟩:=Res.bind_inv k1
   rw [<- qEt n q.1 e1,<- qEt n q.2 e2]
   clear k k1
   dsimp only at k2
   (repeat' split at k2)<;>first | (cases k2;done) | (cases k2;rfl)
  ·unfold ev evs evs at k
   obtain ⟨⟨x,h1⟩,e1,k1⟩:=Res.bind_inv k
   obtain ⟨⟨y,h2⟩,e2,k2⟩:=Res.bind_inv e1
   cases k2
   rw [<- qEt n q e2]
   clear k e1
   unfold qLt one at k1
   dsimp only at k1
   (repeat' split at k1)<;>first | (cases k1;done) | (cases k1;rfl)
  ·rw [Bool.and_eq_true] at q
   unfold ev at k
   obtain ⟨⟨x,h1⟩,e1,k1⟩:=Res.bind_inv k
   rw [<- qEt n q.1 e1]
   clear k
   dsimp only at k1
   split at k1
   ·split at k1
    ·unfold evs evs at k1
     obtain ⟨⟨y,h2⟩,e2,k2⟩:=Res.bind_inv k1
     obtain ⟨⟨z,h3⟩,e3,k3⟩:=Res.bind_inv e2
     cases k3
     rw [<- qEt n q.2 e3]
     clear k1 e2
     dsimp only at k2
     unfold qBM at k2
     dsimp only at k2
     (repeat' split at k2)<;>first | (cases k2;done) | (cases k2;rfl)
    ·cases k1
   ·cases k1
  ·cases q
theorem qKA {op:BOp} {x y:V} {h h':AH} {i:Int} (e:qHV op x y h=.ok (.int i,h')):h'=h/\(∃ a,x=.int a)/\∃ b,y=.int b:=by
 have fin:∀ {f:Int -> Int -> RV},qDz x y f=.ok (.int i,h') -> (∀ a b,f a b=.ok (.int i,h') -> h'=h) -> h'=h/\(∃ a,x=.int a)/\∃ b,y=.int b:=fun w k=>by
  obtain ⟨a,b,e1,e2,e3⟩:=qAW w
  exact ⟨k a b e3,⟨a,e1⟩,b,e2⟩
 cases op
 case add=>
  unfold qHV at e
  dsimp only at e
  split at e
  ·obtain ⟨b,rfl,e2⟩:=qAi e
   clear e
   (repeat' split at e2)<;>cases e2
  ·refine fin e fun a b z=>?_
   cases z;rfl
 case mul=>
  unfold qHV at e
  dsimp only at e
  split at e
  ·(repeat' split at e)<;>cases e
  ·refine fin e fun a b z=>?_
   split at z
   ·cases z;rfl
   ·cases z
 all_goals
  unfold qHV at e
  refine fin e fun a b z=>?_
  first | (cases z;rfl) | ((repeat' split at z)<;>first | (cases z;done) | (cases z;rfl))
theorem qFg:∀ (n:Nat) {e:E} {σ:St} {h h':AH} {i:Int},qHR n e=true -> ev F e σ h=.ok (.int i,h') -> h'=h
 | 0,_,_,_,_,_,q,_=>by cases q
 | n + 1,e,σ,h,h',i,q,k=>by
  unfold qHR at q
  split at q
  ·rw [Bool.and_eq_true] at q
   unfold ev at k
   obtain ⟨⟨x,h1⟩,e1,k1⟩:=Res.bind_inv k
   obtain ⟨⟨y,h2⟩,e2,k2⟩:=Res.bind_inv k1
   obtain ⟨z,⟨a,rfl⟩,b,rfl⟩:=qKA k2
   rw [z,qFg n q.2 e2,qFg n q.1 e1]
  ·exact qEt n q k
theorem qID:L2.PGet X (L2.rIxL X.K):=by
 intro pins s σ H x y v u Q I rx ry h
 obtain ⟨p,xs,i,z,rfl,rfl,hq,he,q⟩:=h
 cases rx
 obtain ⟨t,rfl⟩:=ry
 obtain ⟨its,r,pl,hz⟩:=I.list hq
 obtain ⟨j,h1,h2,h3,h4,h5⟩:=L2.atI_get he
 obtain ⟨w,ew,rw'⟩:=r.get h2
 have hl:=r.length
 have hn:=L2.line63
 have fin:EP X pins σ Q w s:=⟨z,H,I,rw',q⟩
 by_cases h0:0<=i
 ·have hj:i.toNat=j:=by
   rw [seqIndex_of h0 h5] at h1
   exact Option.some.inj h1
  exact wpAny_getItem_list pl.isList h0 (by omega) (by rw [hj];simpa using ew) fin
 ·have hj:(i + (its.toArray.size:Int)).toNat=j:=by
   rw [seqIndex_neg (by omega) h4] at h1
   rw [List.size_toArray,<- hl]
   exact Option.some.inj h1
  exact wpAny_getItem_list_neg pl.isList (by omega) (by rw [List.size_toArray]<;>omega) (by omega) (by rw [hj];simpa using ew) fin
noncomputable def qL4 (o i a:E):E:=.bin .add (.idx o i) (.bin .sub a (.cst (.int 0)))
theorem qJC {n:Nat} {o i:E} {σ:St} {h h4:AH} {x:V} (po:pur n o=true) (pi:qHR n i=true) (pa:qHR n a=true) (e:ev F (qL4 o i a) σ h=.ok (x,h4)):
  ∃ q kk xs iv jz,ev F o σ h=.ok (.ref q,h)/\ev F i σ h=.ok (.int kk,h)/\items h q=some xs/\((ixN xs.length kk).bind fun j=>xs[j]?)=some (.int iv)/\ev F a σ h=.ok (.int jz,h)/\x=.int (iv + jz)/\h4=h:=by
 unfold qL4 ev at e
 obtain ⟨⟨v0,h2⟩,a1,a2⟩:=Res.bind_inv e
 obtain ⟨⟨z,h3⟩,a3,a4⟩:=Res.bind_inv a2
 clear e a2
 unfold ev at a3
 obtain ⟨⟨z0,h3'⟩,a5,a6⟩:=Res.bind_inv a3
 obtain ⟨jz,j0,b1,b2,b3⟩:=qAW (show qDz z0 (.int 0) (fun i j=>.ok (.int (i - j),h3'))=.ok (z,h3) from a6)
 subst b1
 cases b2
 cases b3
 clear a3 a6
 unfold ev at a1
 obtain ⟨⟨x0,h1⟩,a7,a8⟩:=Res.bind_inv a1
 obtain ⟨⟨y0,h1'⟩,a9,a10⟩:=Res.bind_inv a8
 clear a1 a8
 have t1:=qEt n po a7
 subst t1
 cases x0 with
 | ref q=>
  cases y0 with
  | int kk=>
   have t2:=qFg n pi a9
   subst t2
   dsimp only at a10
   split at a10
   ·rename_i xs exs
    split at a10
    ·rename_i v1 ev1
     cases a10
     have t3:=qFg n pa a5
     subst t3
     dsimp only at a4
     unfold qHV at a4
     dsimp only at a4
     split at a4
     ·cases a4
     ·obtain ⟨iv,jv,c1,c2,c3⟩:=qAW a4
      subst c1
      cases c2
      cases c3
      exact ⟨q,kk,xs,iv,jz,a7,a9,exs,ev1,a5,by rw [Int.sub_zero],rfl⟩
    ·cases a10
   ·cases a10
  | _=>cases a10
 | _=>cases a10
theorem qKi {eo ei:Expr} {o i:E} {p:Pos} (ho:SE X G F eo o) (hi:SE X G F ei i) (ha:SE X G F ea a) (hsl:qB0 ei=true) {n:Nat} (po:pur n o=true) (pi:qHR n i=true) (pa:qHR n a=true):
  SS X G F (.AugAssign (.Subscript eo ei p) .Add ea pos) (.put o i (qL4 o i a)):=by
 refine qBl (L2.ps_augS ho hi qID ha L2.ip_add L2.set_list (fun ov iv new=>by cases ei<;>first | rfl | cases hsl)) fun D σc H q=>?_
 obtain ⟨φ,h,σ,out,h',R,rs,e,k⟩:=q
 unfold ex at e
 obtain ⟨⟨x,h4⟩,a1,a2⟩:=Res.bind_inv e
 clear e
 obtain ⟨q,kk,xs,iv,jz,eo1,ek1,exs,ev1,ez0,b1,b2⟩:=qJC po pi pa a1
 subst b1 b2
 dsimp only at a2
 rw [eo1,Res.bind_ok] at a2
 dsimp only at a2
 rw [ek1,Res.bind_ok] at a2
 dsimp only at a2
 split at a2
 ·rename_i ys eys
  split at a2
  ·rename_i jj ej
   cases a2
   have hxs:xs=ys:=by
    have:=qCL eys
    unfold qAH at this
    unfold items at exs
    split at this
    ·rename_i e0
     rw [e0] at exs
     cases this;cases exs;rfl
    ·cases this
   subst hxs
   refine ⟨φ,_,σ,_,_,R,rs,eo1,fun φ1 H1 w1 x1 R1 r1=>?_⟩
   refine ⟨φ1,_,σ,_,_,R1,rst.mono x1 rs,ek1,fun φ2 H2 w2 x2 R2 r2=>?_⟩
   obtain ⟨a2,rfl,ha2⟩:=qAI (rv.mono x2 r1)
   cases qAB r2
   obtain ⟨p2,zs2,hp2,hs2,rz2⟩:=R2.lst (qCL eys)
   rw [ha2] at hp2;cases hp2
   obtain ⟨jx,ejx,ew⟩:=Option.bind_eq_some_iff.mp ev1
   obtain ⟨w',hw',rw'⟩:=qAF rz2 ew
   cases qAB rw'
   have hat:L2.atI zs2 kk=some (.int iv):=by
    unfold L2.atI
    rw [<- Paired.length rz2]
    exact Option.bind_eq_some_iff.mpr ⟨jx,ejx,hw'⟩
   refine ⟨_,zs2,kk,.int iv,rfl,rfl,hs2,hat,?_⟩
   refine ⟨φ2,_,σ,_,_,R2,rst.mono (x1.trans x2) rs,ez0,fun φ3 H3 w3 x3 R3 r3=>?_⟩
   cases qAB r3
   refine ⟨iv,jz,rfl,rfl,?_⟩
   obtain ⟨q1,a',zs,ha',hH,rz⟩:=R3.mut eys
   have ha3:=x3.get ha2
   rw [ha'] at ha3;cases ha3
   refine ⟨_,zs,kk,jj,rfl,rfl,hH,by rw [<- Paired.length rz];exact ej,?_⟩
   have xx:Ext φ φ3:=x1.trans (x2.trans x3)
   exact k φ3 _ xx (R3.set q1 ha' (qAl (show rv φ3 (.int (iv + jz)) (.int (iv + jz)) from rfl) jj rz)) σc (rst.mono xx rs)
  ·cases a2
 ·split at a2
  ·rename_i kvs ed
   exfalso
   unfold items at exs
   unfold qDA at ed
   split at ed
   ·rename_i e0
    rw [e0] at exs
    cases exs
   ·cases ed
  ·cases a2
theorem qI6 (ha:SE X G F ea a) (hc:qB9 ea=true):SS X G F (.Expr ea pos) (.expr a):=by
 refine qBl (L2.ps_expr ha (qCv hc)) fun D σc H q=>?_
 obtain ⟨φ,h,σ,out,h',R,rs,e,k⟩:=q
 unfold ex at e
 obtain ⟨⟨x,h1⟩,e1,e⟩:=Res.bind_inv e
 cases e
 exact ⟨φ,h,σ,x,_,R,rs,e1,fun φ1 H1 w x1 R1 r1=>k φ1 H1 x1 R1 σc (rst.mono x1 rs)⟩
theorem qK9 (ha:SE X G F ea a):SS X G F (.Return (some ea) pos) (.ret a):=by
 refine qBl (L2.ps_ret ha) fun D σc H q=>?_
 obtain ⟨φ,h,σ,out,h',R,rs,e,k⟩:=q
 unfold ex at e
 obtain ⟨⟨x,h1⟩,e1,e⟩:=Res.bind_inv e
 cases e
 exact ⟨φ,h,σ,x,_,R,rs,e1,fun φ1 H1 w x1 R1 r1=>k φ1 H1 x1 R1 w r1⟩
theorem qJN:SS X G F (.Return none pos) .retN:=by
 refine qBl L2.ps_retN fun D σc H q=>?_
 obtain ⟨φ,h,σ,out,h',R,rs,e,k⟩:=q
 unfold ex at e
 cases e
 exact k φ H (.refl _) R .non trivial
theorem qJI:SS X G F (.Pass pos) .pass:=by
 refine qBl L2.ps_pass fun D σc H q=>?_
 obtain ⟨φ,h,σ,out,h',R,rs,e,k⟩:=q
 unfold ex at e
 cases e
 exact k φ H (.refl _) R σc rs
theorem qLU:SS X G F (.Break pos) .brk:=by
 refine qBl L2.ps_break fun D σc H q=>?_
 obtain ⟨φ,h,σ,out,h',R,rs,e,k⟩:=q
 unfold ex at e
 cases e
 exact k φ H (.refl _) R σc rs
theorem qJ4:SS X G F (.Continue pos) .cont:=by
 refine qBl L2.ps_continue fun D σc H q=>?_
 obtain ⟨φ,h,σ,out,h',R,rs,e,k⟩:=q
 unfold ex at e
 cases e
 exact k φ H (.refl _) R σc rs
theorem qJh:SSs X G F [] .nil:=by
 refine qIl L2.pss_nil fun D σc H q=>?_
 obtain ⟨φ,h,σ,out,h',R,rs,e,k⟩:=q
 unfold exs at e
 cases e
 exact k φ H (.refl _) R σc rs
theorem qH8 {st:Stmt} {sts:List Stmt} {s:S} {ss:Ss} (h1:SS X G F st s) (h2:SSs X G F sts ss):SSs X G F (st::sts) (.cons s ss):=by
 refine qIl (L2.pss_cons h1 h2) fun D σc H q=>?_
 obtain ⟨φ,h,σ,out,h',R,rs,e,k⟩:=q
 unfold exs at e
 obtain ⟨⟨o,h1⟩,e1,e⟩:=Res.bind_inv e
 refine ⟨φ,h,σ,o,h1,R,rs,e1,fun φ1 H1 x1 R1=>?_⟩
 cases o with
 | nx σ1=>exact fun σc1 rs1=>⟨φ1,h1,σ1,out,h',R1,rs1,e,k.mono x1⟩
 | rt v=>cases e;exact k φ1 H1 x1 R1
 | bk σ1=>cases e;exact k φ1 H1 x1 R1
 | ct σ1=>cases e;exact k φ1 H1 x1 R1
theorem qKW {t u:List Stmt} {st su:Ss} (hc:ST X G F ec c) (ht:SSs X G F t st) (hu:SSs X G F u su):SS X G F (.If ec t u pos) (.ifs c st su):=by
 refine qBl (L2.ps_if hc ht hu) fun D σc H q=>?_
 obtain ⟨φ,h,σ,out,h',R,rs,e,k⟩:=q
 unfold ex at e
 obtain ⟨⟨x,h1⟩,e1,e⟩:=Res.bind_inv e
 refine ⟨φ,h,σ,x,h1,R,rs,e1,fun φ1 H1 x1 R1=>?_⟩
 dsimp only at e
 cases x with
 | true=>
  rw [if_pos rfl] at e ⊢
  exact ⟨φ1,h1,σ,out,h',R1,rst.mono x1 rs,e,k.mono x1⟩
 | false=>
  rw [if_neg (by decide)] at e ⊢
  exact ⟨φ1,h1,σ,out,h',R1,rst.mono x1 rs,e,k.mono x1⟩
theorem qK8 {iter:Expr} {body:List Stmt} {it:Itr} {g:Tg} {sb:Ss} (hx:X.xe=fun _ _=>False) (hc:X.calm=true) (hi:SI X G F tg iter it) (hg:SG X G tg g) (hb:SSs X G F body sb)
  (hs:∀ x,foldedSetIterable iter X.env x=pure x):SS X G F (.For tg iter body [] pos) (.for_ g it sb):=by
 refine qBl (L2.ps_for (by rw [hx];exact PassesOwn.never) hc hi hg hb hs) fun D σc H q=>?_
 obtain ⟨φ,h,σ,out,h',R,rs,e,k⟩:=q
 unfold ex at e
 obtain ⟨⟨s,h1⟩,e1,e⟩:=Res.bind_inv e
 refine ⟨φ,h,σ,s,h1,R,rs,e1,fun φ1 H1 J x1 R1 j1=>?_⟩
 dsimp only at e
 split at e
 ·rename_i n hn
  refine ⟨fun i m σ' H'=>∃ φ' h2 σa,Ext φ1 φ'/\Rl X.K G φ' h2 H'/\rst φ' σa σ'/\qFe s g (exs F sb) m i σa h2=.ok (out,h'),⟨n,φ1,h1,σ,.refl _,R1,rst.mono x1 rs,e⟩,?_⟩
  rintro i m σ' H' ⟨φ',h2,σa,x2,Ra,rsa,ef⟩
  have jj:IsJ X.K φ' s J:=j1.mono x2
  cases m with
  | zero=>
   unfold qFe at ef
   split at ef
   ·rename_i hst
    cases ef
    exact .inl ⟨jj.stop Ra hst,k φ' H' (x1.trans x2) Ra σ' rsa⟩
   ·cases ef
  | succ m=>
   unfold qFe at ef
   split at ef
   ·rename_i x h3 hy
    split at ef
    ·rename_i σ3 hst
     refine .inr ⟨jj.go Ra hy,fun σ' H'=>∃ φ' h2 σa,Ext φ1 φ'/\Rl X.K G φ' h2 H'/\rst φ' σa σ'/\qFe s g (exs F sb) m (i + 1) σa h2=.ok (out,h'),fun σ2 H2 w=>⟨m,Nat.lt_succ_self _,w⟩,fun xv H2 hyl=>?_⟩
     obtain ⟨φ3,x3,R3,rx⟩:=jj.yld Ra hy hyl
     refine ⟨φ3,h3,σa,x,σ3,R3,rst.mono x3 rsa,rx,hst,fun σc3 rs3=>?_⟩
     obtain ⟨⟨o,h4⟩,e4,ef⟩:=Res.bind_inv ef
     refine ⟨φ3,h3,σ3,o,h4,R3,rs3,e4,fun φ4 H4 x4 R4=>?_⟩
     dsimp only at ef
     cases o with
     | nx σ4=>exact fun σc4 rs4=>⟨φ4,h4,σ4,x2.trans (x3.trans x4),R4,rs4,ef⟩
     | ct σ4=>exact fun σc4 rs4=>⟨φ4,h4,σ4,x2.trans (x3.trans x4),R4,rs4,ef⟩
     | bk σ4=>cases ef;exact k φ4 H4 (x1.trans (x2.trans (x3.trans x4))) R4
     | rt v=>cases ef;exact k φ4 H4 (x1.trans (x2.trans (x3.trans x4))) R4
    ·cases ef
   ·cases ef
 ·cases e
theorem qHf {body:List Stmt} {sb:Ss} (hx:X.xe=fun _ _=>False) (hc:ST X G F ec c) (hb:SSs X G F body sb):SS X G F (.While ec body [] pos) (.while_ c sb):=by
 refine qBl (L2.ps_while (by rw [hx];exact PassesOwn.never) hc hb) fun D σc H q=>?_
 obtain ⟨φ,h,σ,out,h',R,rs,e,k⟩:=q
 unfold ex at e
 refine ⟨fun m σ' H'=>∃ φ' h2 σa,Ext φ φ'/\Rl X.K G φ' h2 H'/\rst φ' σa σ'/\qCA (fun σ h=>asB (ev F c σ h)) (exs F sb) m σa h2=.ok (out,h'),⟨qK6,φ,h,σ,.refl _,R,rs,e⟩,?_⟩
 rintro m σ' H' ⟨φ',h2,σa,x2,Ra,rsa,ew⟩
 cases m with
 | zero=>unfold qCA at ew;cases ew
 | succ m=>
  unfold qCA at ew
  obtain ⟨⟨t,h3⟩,e3,ew⟩:=Res.bind_inv ew
  refine ⟨φ',h2,σa,t,h3,Ra,rsa,e3,fun φ3 H3 x3 R3=>?_⟩
  dsimp only at ew
  cases t with
  | true=>
   rw [if_pos rfl] at ew ⊢
   obtain ⟨⟨o,h4⟩,e4,ew⟩:=Res.bind_inv ew
   refine ⟨fun σ' H'=>∃ φ' h2 σa,Ext φ φ'/\Rl X.K G φ' h2 H'/\rst φ' σa σ'/\qCA (fun σ h=>asB (ev F c σ h)) (exs F sb) m σa h2=.ok (out,h'),fun σ2 H2 w=>⟨m,Nat.lt_succ_self _,w⟩,φ3,h3,σa,o,h4,R3,rst.mono x3 rsa,e4,fun φ4 H4 x4 R4=>?_⟩
   dsimp only at ew
   cases o with
   | nx σ4=>exact fun σc4 rs4=>⟨φ4,h4,σ4,x2.trans (x3.trans x4),R4,rs4,ew⟩
   | ct σ4=>exact fun σc4 rs4=>⟨φ4,h4,σ4,x2.trans (x3.trans x4),R4,rs4,ew⟩
   | bk σ4=>cases ew;exact k φ4 H4 (x2.trans (x3.trans x4)) R4
   | rt v=>cases ew;exact k φ4 H4 (x2.trans (x3.trans x4)) R4
  | false=>
   rw [if_neg (by decide)] at ew ⊢
   cases ew
   exact k φ3 H3 (x2.trans x3) R3 σ' (rst.mono x3 rsa)
end
end PI
namespace PI
open PySem PySem.Spec PyProof.Rows
open L2 (V)
structure Gam where
 N:List Str
 sc:Scope
 fns:List Str
 gl:List (Str×E)
 bl:List Str
 own:Str -> Bool
 cls:List Str:=[]
 xr:Bool:=false
noncomputable def slot (N:List Str) (x:Str):Option Nat:=(List.range N.length).find? fun i=>N[i]?==some x
theorem qBc {N:List Str} {x:Str} {i:Nat} (h:slot N x=some i):N[i]?=some x:=by
 unfold slot at h
 simpa using List.find?_some h
noncomputable def qMJ (sc:Scope) (x:Str):Bool:=match sc.names.lookup x with | some .local=>true | some .cell=>true | some .free=>true | _=>false
theorem qJf {sc:Scope} {x:Str} (h:qMJ sc x=true):L2.Vis sc x:=by
 unfold qMJ at h
 unfold L2.Vis
 split at h<;>first | (rename_i e;simp [e]) | cases h
noncomputable def glB (sc:Scope) (x:Str):Bool:=sc.names.lookup x==some .globalImplicit
noncomputable def okN (x:Str):Bool:=!(x==("__debug__":Str))&&!(x==("__classdict__":Str))&&!decide (x="__name__")
noncomputable def qN1:Operator -> Option BOp
 | .Add=>some .add | .Sub=>some .sub | .Mult=>some .mul | .FloorDiv=>some .fdiv | .Mod=>some .mod | .Pow=>some .pow | .BitAnd=>some .band | .LShift=>some .shl | .RShift=>some .shr | .BitOr=>some .bor | .BitXor=>some .bxor | _=>none
theorem qKC {o:Operator} {b:BOp} (h:qN1 o=some b):o=opB b:=by
 cases o<;>cases h<;>rfl
noncomputable def qCb:CmpOp -> COp
 | .Lt=>.lt | .LtE=>.le | .Gt=>.gt | .GtE=>.ge | .Eq=>.eq | .NotEq=>.ne | .In=>.inn | .NotIn=>.notin | .Is=>.is | .IsNot=>.isnot
theorem qCO (o:CmpOp):o=opC (qCb o):=by cases o<;>rfl
noncomputable def qDd:Expr -> Bool
 | .Set ..=>false
 | _=>true
noncomputable def qB4:Expr -> Bool
 | .Call ..=>false
 | _=>true
noncomputable def qMu (x:Str):Option BF:=
 if x="len" then some .len else if x="sum" then some .sum else if x="all" then some .all else if x="any" then some .any else if x="max" then some .max else if x="min" then some .min else if x="abs" then some .abs
 else if x="list" then some .list else if x="int" then some .int else if x="tuple" then some .tuple else if x="sorted" then some .sorted else if x="repr" then some .repr else none
theorem qJL {x:Str} {f:BF} (h:qMu x=some f):bootBuiltins x=some (fnB f):=by
 unfold qMu at h
 repeat' split at h
 all_goals first | cases h | skip
 all_goals (rename_i hx;subst hx)
 ·exact PySem.boot_len
 ·exact PyProof.Rows.boot_sum
 ·exact PyProof.Rows.boot_all
 ·exact PyProof.Rows.boot_any
 ·exact PyProof.Rows.boot_max
 ·exact PyProof.Rows.boot_min
 ·exact PyProof.Rows.boot_abs
 ·exact PyProof.Rows.boot_list
 ·exact PyProof.Rows.boot_int
 ·exact PyProof.Rows.boot_tuple
 ·exact PyProof.Rows.boot_sorted
 ·exact PyProof.Rows.boot_repr
noncomputable def mt0 (m:Str):Option Mt:=if m="pop" then some .pop else if m="reverse" then some .rev else if m="clear" then some .clr else none
noncomputable def qMw (x:Str):Option String:=
 if x="int" then some "int" else if x="bool" then some "bool" else if x="list" then some "list" else if x="tuple" then some "tuple" else if x="str" then some "str" else if x="dict" then some "dict" else none
theorem qKG {x:Str} {t:String} (h:qMw x=some t):bootBuiltins x=some (.type t)/\qEZ t=true:=by
 unfold qMw at h
 repeat' split at h
 all_goals first | cases h | skip
 all_goals (rename_i hx;subst hx)
 ·exact ⟨PyProof.Rows.boot_int,by decide⟩
 ·exact ⟨PyProof.Rows.boot_bool,by decide⟩
 ·exact ⟨PyProof.Rows.boot_list,by decide⟩
 ·exact ⟨PyProof.Rows.boot_tuple,by decide⟩
 ·exact ⟨PyProof.Rows.boot_str,by decide⟩
 ·exact ⟨PyProof.Rows.boot_dict,by decide⟩
noncomputable def qMG (scope sc:Scope):Scope:=
 { scope with names:=scope.names.map fun (n,k)=>if (k==.free&&sc.kind==.function&&sc.names.lookup n==some .cell) then (n,.cell) else (n,k) }
noncomputable def qGR:Expr -> List Str
 | .Name x _=>[x]
 | .Tuple es _ _=>es.filterMap fun e:Expr=>match e with | .Name x _=>some x | _=>none
 | _=>[]
noncomputable def qKg (scope:Scope):List Str:=scope.names.filterMap fun y=>if y.2=.free then some y.1 else none
noncomputable def qDl (Γ:Gam) (scope:Scope) (N:List Str) (src:List (Option Nat)):Bool:=
 decide (scope.kind=.function)&&scope.names.all (fun y=>decide (scope.names.lookup y.1=some y.2))
 && scope.names.all (fun y=>decide (y.2=.free -> (Γ.sc.names.lookup y.1=some .cell\/Γ.sc.names.lookup y.1=some .free)))&&decide N.Nodup&&decide (src.length=N.length)
 && (List.range N.length).all (fun i=>match N[i]?,src[i]? with | some x,some (some j)=>decide (Γ.N[j]?=some x/\scope.names.lookup x=some .free) | _,_=>true)
noncomputable def qE3 (Γ:Gam) (x:Str):Bool:=match Γ.sc.names.lookup x with | some .local=>true | some .cell=>Γ.own x | _=>false
noncomputable def qMA (Γ:Gam):List Expr -> Option (List Nat)
 | []=>some []
 | .Name x _::r=>if qE3 Γ x then (match slot Γ.N x,qMA Γ r with | some i,some is=>some (i::is) | _,_=>none) else none
 | _=>none
noncomputable def trT (Γ:Gam):Expr -> Option Tg
 | .Name x _=>if qE3 Γ x then (slot Γ.N x).map .name else none
 | .Tuple es _ _=>(qMA Γ es).map .tup
 | _=>none
noncomputable def qLE:List Expr -> Bool
 | [.Call (.Name r _) [_] [] _]=>decide (r="set")
 | _=>false
noncomputable def qMz:List Expr -> Bool
 | [.Call (.Name r _) [_] [] _]=>decide (r="range")
 | [.Call (.Name r _) [_,_] [] _]=>decide (r="range")
 | _=>false
noncomputable def qE1 (g:Nat):E -> Bool
 | .glob i=>i==g
 | _=>false
noncomputable def qIj (Γ:Gam):E -> Bool
 | .glob g=>Γ.gl.any fun p=>((Γ.gl.lookup p.1).map (qE1 g)).getD false
 | _=>true
mutual
noncomputable def trE:Nat -> Gam -> Expr -> Option E
 | 0,_,_=>none
 | n + 1,Γ,e=>match e with
  | .Constant c _ _=>(match c with
   | .int i=>some (.cst (.int i))
   | .bool i=>some (.cst (.bl i))
   | .none=>some (.cst .non)
   | .str i=>some (.cst (.str i))
   | _=>none)
  | .Name x _=>if okN x then (if qMJ Γ.sc x then (slot Γ.N x).map .var else if glB Γ.sc x then Γ.gl.lookup x else none) else none
  | .BinOp a op b _=>match qN1 op,trE n Γ a,trE n Γ b with | some o,some a',some b'=>some (.bin o a' b') | _,_,_=>none
  | .UnaryOp op a _=>(match op with
   | .USub=>(trE n Γ a).map .neg
   | .Not=>(trE n Γ a).map .not
   | _=>none)
  | .BoolOp op vs p=>trB n Γ op p vs
  | .IfExp c a b _=>match trE n Γ c,trE n Γ a,trE n Γ b with | some c',some a',some b'=>some (.ite c' a' b') | _,_,_=>none
  | .Compare a ops bs _=>(match ops,bs with
   | [op],[b]=>if qDd b then (match trE n Γ a,trE n Γ b with | some a',some b'=>some (.cmp (qCb op) a' b') | _,_=>none) else none
   | [o1,o2],[b,c]=>if qDd c then (match trE n Γ a,trE n Γ b,trE n Γ c with | some a',some b',some c'=>some (.cmp2 (qCb o1) (qCb o2) a' b' c') | _,_,_=>none) else none
   | [o1,o2,o3],[b,c,d]=>if qDd d then (match trE n Γ a,trE n Γ b,trE n Γ c,trE n Γ d with | some a',some b',some c',some d'=>some (.cmp3 (qCb o1) (qCb o2) (qCb o3) a' b' c' d') | _,_,_,_=>none) else none
   | _,_=>none)
  | .Call fn args kws cpos=>(match kws with
   | []=>(match fn with
    | .Name f _=>if okN f&&glB Γ.sc f&&args.all qAE then trC n Γ f args else none
    | .Attribute o m apos=>(match args with
     | [x]=>if m="append"/\qB4 o=true/\qAE x=true/\(apos.endLine==cpos.line)=true then (match trE n Γ o,trE n Γ x with | some o',some x'=>some (.app o' x') | _,_=>none)
   else if m="pop"/\qB4 o=true/\qAE x=true/\(apos.endLine==cpos.line)=true then (match trE n Γ o,trE n Γ x with | some o',some x'=>some (.meth .popAt o' (.cons x' .nil)) | _,_=>none)
   else if m="index"/\qB4 o=true/\qAE x=true/\(apos.endLine==cpos.line)=true then (match trE n Γ o,trE n Γ x with | some o',some x'=>if qIj Γ o' then some (.index o' x') else none | _,_=>none)
   else if m="remove"/\qB4 o=true/\qAE x=true/\(apos.endLine==cpos.line)=true then (match trE n Γ o,trE n Γ x with | some o',some x'=>some (.meth .rem o' (.cons x' .nil)) | _,_=>none)
   else if m="count"/\qB4 o=true/\qAE x=true/\(apos.endLine==cpos.line)=true then (match trE n Γ o,trE n Γ x with | some o',some x'=>some (.meth .cnt o' (.cons x' .nil)) | _,_=>none)
   else if m="extend"/\qB4 o=true/\qAE x=true/\(apos.endLine==cpos.line)=true then (match trE n Γ o,trE n Γ x with | some o',some x'=>some (.meth .ext o' (.cons x' .nil)) | _,_=>none) else none
     | []=>if m="bit_length" then (if qB4 o=true/\(apos.endLine==cpos.line)=true then (trE n Γ o).map (fun o'=>.blt .bits (.cons o' .nil)) else none) else if qB4 o=true/\(apos.endLine==cpos.line)=true then (match trE n Γ o,mt0 m with | some o',some k=>some (.meth k o' .nil) | _,_=>none) else none
     | _=>none)
    | _=>none)
   | _=>none)
  | .Subscript a b _=>(match b with
   | .Slice lo hi st _=>(match st with
    | none=>(match trE n Γ a,trO n Γ lo,trO n Γ hi with | some a',some l,some h=>some (.sl a' l h) | _,_,_=>none)
    | some k=>(match lo,hi,k with
     | none,none,.UnaryOp .USub (.Constant (.int 1) _ _) _=>(trE n Γ a).map .rev
     | none,none,k=>(match trE n Γ a,trE n Γ k with | some a',some k'=>some (.stp a' k') | _,_=>none)
     | _,_,_=>none))
   | b=>if qB0 b then (match trE n Γ a,trE n Γ b with | some a',some b'=>some (.idx a' b') | _,_=>none) else none)
  | .List es _=>if es.all qAE then (trA n Γ es).map .lst else none
  | .Tuple es _ _=>if es.all qAE then (trA n Γ es).map .tup else none
  | .Dict ks vs _=>(match ks,vs with | [],[]=>some .dnew | _,_=>none)
  | .ListComp elt gens scope _=>(match gens with
   | [gen]=>(match gen with
    | ⟨tg,iter,ifs,asy⟩=>(match asy with
     | 0=>
      let N:=qGR tg++qKg scope
      let src:=(qGR tg).map (fun _=>none)++(qKg scope).map (slot Γ.N)
      let Γ':Gam:={ Γ with N:=N,sc:=qMG scope Γ.sc,own:=fun x=>decide (scope.names.lookup x=some .cell) }
      if qDl Γ scope N src&&qDd iter then (match trI n Γ tg iter,trT Γ' tg,qKK n Γ' ifs,trE n Γ' elt with | some it,some g,some c,some e'=>some (.comp it src g c e') | _,_,_,_=>none) else none
     | _=>none))
   | _=>none)
  | _=>none
noncomputable def trA:Nat -> Gam -> List Expr -> Option Es
 | 0,_,_=>none
 | _ + 1,_,[]=>some .nil
 | n + 1,Γ,e::es=>match trE n Γ e,trA n Γ es with | some a,some as=>some (.cons a as) | _,_=>none
noncomputable def trB:Nat -> Gam -> BoolOp -> Pos -> List Expr -> Option E
 | 0,_,_,_,_=>none
 | _ + 1,_,_,_,[]=>none
 | n + 1,Γ,_,_,[a]=>trE n Γ a
 | n + 1,Γ,op,p,a::b::r=>match trE n Γ a,trB n Γ op p (b::r) with | some a',some b'=>some (match op with | .And=>.and a' b' | .Or=>.or a' b') | _,_=>none
noncomputable def trC:Nat -> Gam -> Str -> List Expr -> Option E
 | 0,_,_,_=>none
 | n + 1,Γ,f,args=>match slot Γ.fns f with
  | some i=>(trA n Γ args).map (.call i)
  | none=>if Γ.bl.contains f then
    (if f="isinstance" then (match args with
     | [a,.Name t _]=>if okN t&&glB Γ.sc t&&Γ.bl.contains t then (match trE n Γ a,qMw t with | some a',some t'=>some (.isi a' [t']) | _,_=>none) else none
     | _=>none)
    else if f="list"/\qMz args=true then (match args with
     | [.Call (.Name r _) [a] [] _]=>if okN r&&glB Γ.sc r&&Γ.bl.contains r&&qAE a&&decide (r="range") then (trE n Γ a).map .lrng else none
     | [.Call (.Name r _) [a,b] [] _]=>if okN r&&glB Γ.sc r&&Γ.bl.contains r&&qAE a&&decide (r="range")&&qAE b then (match trE n Γ a,trE n Γ b with | some a',some b'=>some (.lrng2 a' b') | _,_=>none) else none
     | _=>none)
    else if f="len"/\qLE args=true then (match args with
     | [.Call (.Name r _) [a] [] _]=>if okN r&&glB Γ.sc r&&Γ.bl.contains r&&qAE a&&decide (r="set") then (trE n Γ a).map .nset else none
     | _=>none)
    else match qMu f,args with
     | some b,_::_=>(trA n Γ args).map (.blt b)
     | _,_=>none)
   else none
noncomputable def trO:Nat -> Gam -> Option Expr -> Option Es
 | 0,_,_=>none
 | _ + 1,_,none=>some .nil
 | n + 1,Γ,some e=>(trE n Γ e).map fun a=>.cons a .nil
noncomputable def qKK:Nat -> Gam -> List Expr -> Option Es
 | 0,_,_=>none
 | _ + 1,_,[]=>some .nil
 | n + 1,Γ,[c]=>(trE n Γ c).map fun a=>.cons a .nil
 | _,_,_=>none
noncomputable def trI:Nat -> Gam -> Expr -> Expr -> Option Itr
 | 0,_,_,_=>none
 | n + 1,Γ,tg,iter=>match iter with
  | .Call (.Name f _) args [] _=>
   if f="range" then (if glB Γ.sc f&&Γ.bl.contains f&&args.all qAE then (match args with
    | [a]=>(trE n Γ a).map .rng1
    | [a,b]=>match trE n Γ a,trE n Γ b with | some a',some b'=>some (.rng2 a' b') | _,_=>none
    | [a,b,c]=>match trE n Γ a,trE n Γ b,trE n Γ c with | some a',some b',some c'=>if c'.isM1 then some (.rng3 a' b') else none | _,_,_=>none
    | _=>none) else none)
   else if f="zip" then (if glB Γ.sc f&&Γ.bl.contains f&&args.all qAE then (match tg,args with
    | .Tuple ..,[a,b]=>match trE n Γ a,trE n Γ b with | some a',some b'=>some (.zip a' b') | _,_=>none
    | _,_=>none) else none)
   else if f="enumerate" then (if glB Γ.sc f&&Γ.bl.contains f&&args.all qAE then (match tg,args with
    | .Tuple ..,[a]=>(trE n Γ a).map .enum
    | _,_=>none) else none)
   else if f="reversed" then (if glB Γ.sc f&&Γ.bl.contains f&&args.all qAE then (match args with
    | [.Call (.Name r p1) [a] [] p2]=>if r="range" then (if okN r&&glB Γ.sc r&&Γ.bl.contains r&&qAE a then (trE n Γ a).map .rvr else none) else (trE n Γ (.Call (.Name r p1) [a] [] p2)).map .revd
    | [a]=>(trE n Γ a).map .revd
    | _=>none) else none)
   else (trE n Γ iter).map .list
  | _=>(trE n Γ iter).map .list
end
noncomputable def qOF (Γ:Gam) (x y:Str) (px py:Pos) (va vb:Expr):Bool:=
 (if Γ.sc.kind.isAnnotationScope then ScopeKind.function else Γ.sc.kind)==.function&&Γ.sc.names.lookup x==some .local&&Γ.sc.names.lookup y==some .local&&decide (py.line=px.line)&&qAE va&&qAE vb&&!([va,vb].all (foldedForSure 8))&&!([va,vb].all (constantsAlone 8))&&decide (x≠y)
mutual
noncomputable def trS:Nat -> Gam -> Stmt -> S
 | 0,_,_=>.stop
 | n + 1,Γ,st=>match st with
  | .Assign ts v _=>(match ts with
   | [tgt]=>(match tgt with
    | .Name x _=>(match trT Γ (.Name x ⟨0,0,0,0⟩),trE 60 Γ v with | some g,some a=>.asg g a | _,_=>.stop)
    | .Tuple es k p=>(match es,v with
     | [.Name x px,.Name y py],.Tuple [va,vb] _ _=>if qOF Γ x y px py va vb then (match slot Γ.N x,slot Γ.N y,trE 60 Γ va,trE 60 Γ vb with | some i,some j,some a,some b=>if i=j then .stop else .par i j a b | _,_,_,_=>.stop) else .stop
     | es,v=>if qB9 v&&qLu v then (match trT Γ (.Tuple es k p),trE 60 Γ v with | some g,some a=>.asg g a | _,_=>.stop) else .stop)
    | .Subscript o i _=>if qB9 v&&qB0 i then (match trE 60 Γ o,trE 60 Γ i,trE 60 Γ v with | some o',some i',some v'=>.put o' i' v' | _,_,_=>.stop) else .stop
    | _=>.stop)
   | _=>.stop)
  | .Expr e _=>if qB9 e then (match trE 60 Γ e with | some a=>.expr a | none=>.stop) else .stop
  | .Return r _=>(match r with
   | some e=>(match trE 60 Γ e with | some a=>.ret a | none=>.stop)
   | none=>.retN)
  | .If c t u _=>match trE 60 Γ c with | some c'=>.ifs c' (qGD n Γ t) (qGD n Γ u) | none=>.stop
  | .For tg iter b els _=>(match els with
   | []=>if qDd iter then (match trI 60 Γ tg iter,trT Γ tg with | some it,some g=>.for_ g it (qGD n Γ b) | _,_=>.stop) else .stop
   | _=>.stop)
  | .While c b els _=>(match els with
   | []=>(match trE 60 Γ c with | some c'=>.while_ c' (qGD n Γ b) | none=>.stop)
   | _=>.stop)
  | .AugAssign tgt op v _=>(match tgt,op with
   | .Subscript o i _,.Add=>if qB0 i then (match trE 60 Γ o,trE 60 Γ i,trE 60 Γ v with | some o',some i',some v'=>if pur 20 o'&&qHR 20 i'&&qHR 20 v' then .put o' i' (qL4 o' i' v') else .stop | _,_,_=>.stop) else .stop
   | _,_=>.stop)
  | .Pass _=>.pass
  | .Break _=>.brk
  | .Continue _=>.cont
  | _=>.stop
noncomputable def qGD:Nat -> Gam -> List Stmt -> Ss
 | 0,_,_=>.cons .stop .nil
 | _ + 1,_,[]=>.nil
 | n + 1,Γ,s::r=>.cons (trS n Γ s) (qGD n Γ r)
end
end PI
namespace PI
open PySem PySem.Spec PyProof.Rows PySem.SeqAt
open L2 (V Hp HO Cx PE PT PA PS PSs PG PGs PW RelV)
structure Fit (Γ:Gam) (X:Cx) (G:List Addr) (F:Nat -> List V -> AH -> RV):Prop where
 hN:X.N=Γ.N
 nd:Γ.N.Nodup
 sc:X.env.scope=Γ.sc
 calm:X.calm=true
 fn:∀ x,Γ.own x=true -> X.fn x=true
 fns:∀ (f:Nat) x,Γ.fns[f]?=some x -> FnS X G F f x
 gls:∀ x e,Γ.gl.lookup x=some e -> (∃ v u,e=.cst v/\X.mg x=some u/\RelV v u/\∀ φ,rv φ v v)\/(∃ g a,e=.glob g/\X.mg x=some (.ref a)/\G[g]?=some a)
 blt:∀ x,Γ.bl.contains x=true -> X.mg x=none
 hu:X.A.units + 8 < cLine
 gd:X.A.guards=some []
 gtu:∀ a∈G,∃ o,X.K.lookup a=some o/\o.cls=.type "tuple"/\o.dict=none
section
variable {Γ:Gam} {X:Cx} {G:List Addr} {F:Nat -> List V -> AH -> RV}
theorem qGv {x:Str} (h:okN x=true):(x==("__debug__":Str))=false/\(x==("__classdict__":Str))=false/\x≠"__name__":=by
 unfold okN at h
 simp only [Bool.and_eq_true,Bool.not_eq_true',decide_eq_false_iff_not] at h
 exact ⟨h.1.1,h.1.2,h.2⟩
theorem Fit.gl' (f:Fit Γ X G F) {x:Str} (h:glB Γ.sc x=true):L2.Gl X x:=by
 unfold L2.Gl Env.kindOf
 rw [f.sc]
 simpa [glB] using h
theorem Fit.store (f:Fit Γ X G F) {x:Str} (h:qE3 Γ x=true):L2.Loc X.env.scope x/\(X.fn x=true\/X.env.scope.names.lookup x=some .local):=by
 rw [f.sc]
 unfold qE3 at h
 unfold L2.Loc
 split at h
 ·rename_i e;exact ⟨.inl e,.inr e⟩
 ·rename_i e;exact ⟨.inr e,.inl (f.fn x h)⟩
 ·cases h
theorem qIv (f:Fit Γ X G F):∀ {es:List Expr} {is:List Nat},qMA Γ es=some is -> PGs X es (tGs is)/\(assignEach es X.env).length=is.length/\(assignEach es X.env).findIdx? (·.1)=none
 | [],is,h=>by
  cases h
  exact ⟨qJ1,rfl,rfl⟩
 | e::es,is,h=>by
  unfold qMA at h
  split at h
  ·rename_i e1;cases e1
  ·rename_i x p r e1
   cases e1
   split at h
   ·rename_i hs
    split at h
    ·rename_i i is' ei eis
     cases h
     obtain ⟨h1,h2⟩:=f.store hs
     obtain ⟨g1,g2,g3⟩:=qIv f eis
     refine ⟨qIB (by rw [f.hN];exact f.nd) (by rw [f.hN];exact qBc ei) h1 h2 g1,?_,?_⟩
     ·show (assignEach es X.env).length + 1=_
      rw [g2];rfl
     ·show (((false,assign (.Name x p) X.env)::assignEach es X.env).findIdx? (·.1))=none
      rw [List.findIdx?_cons,g3]
      rfl
    ·cases h
   ·cases h
  ·cases h
theorem qGU (f:Fit Γ X G F) {tg:Expr} {g:Tg} (h:trT Γ tg=some g):SG X G tg g:=by
 unfold trT at h
 split at h
 ·rename_i x p
  split at h
  ·rename_i hs
   obtain ⟨i,ei,rfl⟩:=Option.map_eq_some_iff.mp h
   obtain ⟨h1,h2⟩:=f.store hs
   exact qG7 (by rw [f.hN];exact f.nd) (by rw [f.hN];exact qBc ei) h1 h2
  ·cases h
 ·obtain ⟨is,ei,rfl⟩:=Option.map_eq_some_iff.mp h
  obtain ⟨g1,g2,g3⟩:=qIv f ei
  exact qLL f.calm g1 g2 g3
 ·cases h
theorem qFW {op:CmpOp} {e:Expr} (h:qDd e=true):behindInMarks op e=false:=by
 cases e<;>first | rfl | cases h
theorem qGf {o1 o2:CmpOp} {b c:Expr} (h:qDd c=true):lastMarks [o1,o2] [b,c]=false:=by
 show behindInMarks o2 c=false
 exact qFW h
theorem qHA {o1 o2 o3:CmpOp} {b c d:Expr} (h:qDd d=true):lastMarks [o1,o2,o3] [b,c,d]=false:=by
 show behindInMarks o3 d=false
 exact qFW h
theorem qG5 {iter:Expr} {env:Env} (h:qDd iter=true):∀ x,foldedSetIterable iter env x=pure x:=by
 intro x
 cases iter<;>first | rfl | cases h
theorem qCa {o:Expr} {n:Str} {env:Env} {w:Sem Value} (h:qB4 o=true):attributeBase o n env w=w:=by
 cases o<;>first | rfl | cases h
theorem qCM (f:Fit Γ X G F) {scope:Scope} {N:List Str} {src:List (Option Nat)} (h:qDl Γ scope N src=true):L2.CompScope X scope N src:=by
 unfold qDl at h
 simp only [Bool.and_eq_true,List.all_eq_true,decide_eq_true_eq] at h
 obtain ⟨⟨⟨⟨⟨h1,h2⟩,h4⟩,h5⟩,h6⟩,h7⟩:=h
 refine ⟨h1,h2,fun y hy hk=>?_,h5,h6,fun i x j e1 e2=>?_⟩
 ·unfold Env.kindOf
  rw [f.sc]
  exact h4 y hy hk
 ·have hi:i < N.length:=(List.getElem?_eq_some_iff.mp e1).1
  have:=h7 i (List.mem_range.mpr hi)
  rw [e1,e2] at this
  rw [f.hN]
  simpa using this
theorem qBe (f:Fit Γ X G F) {scope:Scope} {N:List Str} {src:List (Option Nat)} (h:qDl Γ scope N src=true) (C:Addr) (fp:List Addr) (s:Shared) (H:Hp):
  Fit { Γ with N:=N,sc:=qMG scope Γ.sc,own:=fun x=>decide (scope.names.lookup x=some .cell) } (L2.cxComp X scope C fp s H N) G F:=by
 have S:=qCM f h
 refine ⟨rfl,S.nd,?_,f.calm,fun x z=>z,fun g x e=>?_,f.gls,f.blt,f.hu,f.gd,f.gtu⟩
 ·show relabel scope X.env=qMG scope Γ.sc
  unfold relabel qMG Env.kindOf
  rw [f.sc]
 ·exact ⟨(f.fns g x e).ex⟩
theorem qIE {m:Str} {k:Mt} {o:Expr} {a:E} {apos cpos:Pos} (hk:mt0 m=some k) (hbase:attributeBase o m X.env (eval o X.env)=eval o X.env) (hline:(apos.endLine==cpos.line)=true) (ha:SE X G F o a):SE X G F (.Call (.Attribute o m apos) [] [] cpos) (.meth k a .nil):=by
 unfold mt0 at hk
 split at hk
 ·rename_i e;subst e;cases hk;exact qI8 hbase hline ha
 ·split at hk
  ·rename_i e;subst e;cases hk;exact qJ5 hbase hline ha
  ·split at hk
   ·rename_i e;subst e;cases hk;exact qJb hbase hline ha
   ·cases hk
theorem qHK (f:Fit Γ X G F) {a:E} (h:qIj Γ a=true):∀ g,a=.glob g -> ∃ ga o,G[g]?=some ga/\X.K.lookup ga=some o/\o.cls=.type "tuple"/\o.dict=none:=by
 rintro g rfl
 obtain ⟨p,_,hp⟩:=List.any_eq_true.mp h
 cases hl:Γ.gl.lookup p.1 with
 | none=>rw [hl] at hp;cases hp
 | some e=>
  rw [hl] at hp
  replace hp:qE1 g e=true:=hp
  unfold qE1 at hp
  split at hp
  ·rename_i i
   have:i=g:=by simpa using hp
   subst this
   rcases f.gls _ _ hl with ⟨v,u,z,_⟩ | ⟨g',ga,z,_,hg⟩
   ·cases z
   ·cases z
    obtain ⟨o,h1⟩:=f.gtu ga (List.mem_of_getElem? hg)
    exact ⟨ga,o,hg,h1⟩
  ·cases hp
theorem qFC (n:Nat):
  (∀ Γ e a,trE n Γ e=some a -> ∀ X:Cx,Fit Γ X G F -> SE X G F e a/\ST X G F e a)/\
  (∀ Γ es as,trA n Γ es=some as -> es.all qAE=true -> ∀ X:Cx,Fit Γ X G F -> SA X G F es as)/\
  (∀ Γ op p vs a,trB n Γ op p vs=some a -> ∀ X:Cx,Fit Γ X G F -> SE X G F (.BoolOp op vs p) a/\SW X G F (.BoolOp op vs p) a)/\
  (∀ Γ f args a,trC n Γ f args=some a -> okN f=true -> glB Γ.sc f=true -> args.all qAE=true -> ∀ X:Cx,Fit Γ X G F -> ∀ p pos,SE X G F (.Call (.Name f p) args [] pos) a)/\
  (∀ Γ o as,trO n Γ o=some as -> ∀ X:Cx,Fit Γ X G F -> SO X G F o as)/\
  (∀ Γ ifs as,qKK n Γ ifs=some as -> ∀ X:Cx,Fit Γ X G F -> SC X G F ifs as)/\
  (∀ Γ tg iter it,trI n Γ tg iter=some it -> ∀ X:Cx,Fit Γ X G F -> SI X G F tg iter it):=by
 induction n with
 | zero=>exact ⟨(fun _ _ _ h=>by unfold trE at h;cases h),(fun _ _ _ h=>by unfold trA at h;cases h),(fun _ _ _ _ _ h=>by unfold trB at h;cases h),(fun _ _ _ _ h=>by unfold trC at h;cases h),(fun _ _ _ h=>by unfold trO at h;cases h),(fun _ _ _ h=>by unfold qKK at h;cases h),(fun _ _ _ _ h=>by unfold trI at h;cases h)⟩
 | succ n ih=>
  obtain ⟨iE,iA,iB,iC,iO,iIf,iI⟩:=ih
  refine ⟨?_,?_,?_,?_,?_,?_,?_⟩
  ·intro Γ e a h X f
   unfold trE at h
   split at h
   ·split at h
    ·cases h;exact ⟨qGa,qAM qGa fun _=>rfl⟩
    ·cases h;exact ⟨qKN,qAM qKN fun _=>rfl⟩
    ·cases h;exact ⟨qIs,qAM qIs fun _=>rfl⟩
    ·cases h;exact ⟨qIw,qAM qIw fun _=>rfl⟩
    ·cases h
   ·rename_i x p
    split at h
    ·rename_i ho
     obtain ⟨o1,o2,o3⟩:=qGv ho
     split at h
     ·rename_i hv
      obtain ⟨i,ei,rfl⟩:=Option.map_eq_some_iff.mp h
      have s1:SE X G F (.Name x p) (.var i):=qKX (by rw [f.hN];exact qBc ei) (by rw [f.sc];exact qJf hv) o1 o2
      exact ⟨s1,qAM s1 fun _=>rfl⟩
     ·split at h
      ·rename_i hg
       rcases f.gls x a h with ⟨v,u,rfl,e1,e2,e3⟩ | ⟨g,ad,rfl,e1,e2⟩
       ·have s1:SE X G F (.Name x p) (.cst v):=qJE (f.gl' hg) e1 e2 e3 o1
        exact ⟨s1,qAM s1 fun _=>rfl⟩
       ·have s1:SE X G F (.Name x p) (.glob g):=qJx (f.gl' hg) e1 e2 o1
        exact ⟨s1,qAM s1 fun _=>rfl⟩
      ·cases h
    ·cases h
   ·split at h
    ·rename_i o a' b' eo ea eb
     cases h
     rw [qKC eo]
     have s1:=qLp (op:=o) (pos:=‹Pos›) (iE _ _ _ ea X f).1 (iE _ _ _ eb X f).1
     exact ⟨s1,qAM s1 fun _=>rfl⟩
    ·cases h
   ·split at h
    ·obtain ⟨a',ea,rfl⟩:=Option.map_eq_some_iff.mp h
     have s1:=qIW (pos:=‹Pos›) (iE _ _ _ ea X f).1
     exact ⟨s1,qAM s1 fun _=>rfl⟩
    ·obtain ⟨a',ea,rfl⟩:=Option.map_eq_some_iff.mp h
     exact ⟨qLA (iE _ _ _ ea X f).1,qKT (iE _ _ _ ea X f).2⟩
    ·cases h
   ·obtain ⟨s1,s2⟩:=iB _ _ _ _ _ h X f
    exact ⟨s1,s2.pt⟩
   ·split at h
    ·rename_i c' a' b' ec ea eb
     cases h
     exact ⟨qLP (iE _ _ _ ec X f).2 (iE _ _ _ ea X f).1 (iE _ _ _ eb X f).1,qKS (iE _ _ _ ec X f).2 (iE _ _ _ ea X f).2 (iE _ _ _ eb X f).2⟩
    ·cases h
   ·split at h
    ·rename_i op b0
     split at h
     ·rename_i hs
      split at h
      ·rename_i a' b' ea eb
       cases h
       rw [qCO op]
       have e1:qCb (opC (qCb op))=qCb op:=by cases op<;>rfl
       rw [e1]
       exact ⟨qKd f.hu (iE _ _ _ ea X f).1 (iE _ _ _ eb X f).1 (qFW hs),qLV f.hu (iE _ _ _ ea X f).1 (iE _ _ _ eb X f).1 (qFW hs)⟩
      ·cases h
     ·cases h
    ·rename_i o1 o2 b0 c0
     split at h
     ·rename_i hs
      split at h
      ·rename_i a' b' c' ea eb ec
       cases h
       rw [qCO o1,qCO o2]
       have e1:qCb (opC (qCb o1))=qCb o1:=by cases o1<;>rfl
       have e2:qCb (opC (qCb o2))=qCb o2:=by cases o2<;>rfl
       rw [e1,e2]
       exact ⟨qHg f.hu (iE _ _ _ ea X f).1 (iE _ _ _ eb X f).1 (iE _ _ _ ec X f).1 (qGf hs),qHj f.hu (iE _ _ _ ea X f).1 (iE _ _ _ eb X f).1 (iE _ _ _ ec X f).1 (qGf hs)⟩
      ·cases h
     ·cases h
    ·rename_i o1 o2 o3 b0 c0 d0
     split at h
     ·rename_i hs
      split at h
      ·rename_i a' b' c' d' ea eb ec ed
       cases h
       rw [qCO o1,qCO o2,qCO o3]
       have e1:qCb (opC (qCb o1))=qCb o1:=by cases o1<;>rfl
       have e2:qCb (opC (qCb o2))=qCb o2:=by cases o2<;>rfl
       have e3:qCb (opC (qCb o3))=qCb o3:=by cases o3<;>rfl
       rw [e1,e2,e3]
       exact ⟨qG9 f.hu (iE _ _ _ ea X f).1 (iE _ _ _ eb X f).1 (iE _ _ _ ec X f).1 (iE _ _ _ ed X f).1 (qHA hs),qGV f.hu (iE _ _ _ ea X f).1 (iE _ _ _ eb X f).1 (iE _ _ _ ec X f).1 (iE _ _ _ ed X f).1 (qHA hs)⟩
      ·cases h
     ·cases h
    ·cases h
   ·split at h
    ·split at h
     ·split at h
      ·rename_i hc
       simp only [Bool.and_eq_true] at hc
       have s1:=iC _ _ _ _ h hc.1.1 hc.1.2 hc.2 X f
       exact ⟨s1 _ _,qAM (s1 _ _) fun _=>rfl⟩
      ·cases h
     ·split at h
      ·split at h
       ·rename_i hc
        obtain ⟨rfl,hc1,hc2,hc3⟩:=hc
        split at h
        ·rename_i o' x' eo ex
         cases h
         have s1:=qKw (qCa hc1) hc3 hc2 (iE _ _ _ eo X f).1 (iE _ _ _ ex X f).1
         exact ⟨s1,qAM s1 fun _=>rfl⟩
        ·cases h
       ·split at h
        ·rename_i hc
         obtain ⟨rfl,hc1,hc2,hc3⟩:=hc
         split at h
         ·rename_i o' x' eo ex
          cases h
          have s1:=qH5 (qCa hc1) hc3 hc2 (iE _ _ _ eo X f).1 (iE _ _ _ ex X f).1
          exact ⟨s1,qAM s1 fun _=>rfl⟩
         ·cases h
        ·split at h
         ·rename_i hc
          obtain ⟨rfl,hc1,hc2,hc3⟩:=hc
          split at h
          ·rename_i o' x' eo ex
           split at h
           ·rename_i hgo
            cases h
            have s1:=qHY (qHK f hgo) (qCa hc1) hc3 hc2 (iE _ _ _ eo X f).1 (iE _ _ _ ex X f).1
            exact ⟨s1,qAM s1 fun _=>rfl⟩
           ·cases h
          ·cases h
         ·split at h
          ·rename_i hc
           obtain ⟨rfl,hc1,hc2,hc3⟩:=hc
           split at h
           ·rename_i o' x' eo ex
            cases h
            have s1:=qLd (qCa hc1) hc3 hc2 (iE _ _ _ eo X f).1 (iE _ _ _ ex X f).1
            exact ⟨s1,qAM s1 fun _=>rfl⟩
           ·cases h
          ·split at h
           ·rename_i hc
            obtain ⟨rfl,hc1,hc2,hc3⟩:=hc
            split at h
            ·rename_i o' x' eo ex
             cases h
             have s1:=qLX (qCa hc1) hc3 hc2 (iE _ _ _ eo X f).1 (iE _ _ _ ex X f).1
             exact ⟨s1,qAM s1 fun _=>rfl⟩
            ·cases h
           ·split at h
            ·rename_i hc
             obtain ⟨rfl,hc1,hc2,hc3⟩:=hc
             split at h
             ·rename_i o' x' eo ex
              cases h
              have s1:=qKl (qCa hc1) hc3 hc2 (iE _ _ _ eo X f).1 (iE _ _ _ ex X f).1
              exact ⟨s1,qAM s1 fun _=>rfl⟩
             ·cases h
            ·cases h
      ·split at h
       ·rename_i hm
        subst hm
        split at h
        ·rename_i hc
         obtain ⟨o',eo,rfl⟩:=Option.map_eq_some_iff.mp h
         have s1:=qI7 f.calm f.hu f.gd (qCa hc.1) hc.2 (iE _ _ _ eo X f).1
         exact ⟨s1,qAM s1 fun _=>rfl⟩
        ·cases h
       split at h
       ·rename_i hc
        obtain ⟨hc1,hc3⟩:=hc
        split at h
        ·rename_i o' k eo ek
         cases h
         have s1:=qIE ek (qCa hc1) hc3 (iE _ _ _ eo X f).1
         exact ⟨s1,qAM s1 fun _=>rfl⟩
        ·cases h
       ·cases h
      ·cases h
     ·cases h
    ·cases h
   ·split at h
    ·split at h
     ·split at h
      ·rename_i a' l h' ea el eh
       cases h
       exact ⟨qLx (iE _ _ _ ea X f).1 (iO _ _ _ el X f) (iO _ _ _ eh X f),qAM (qLx (iE _ _ _ ea X f).1 (iO _ _ _ el X f) (iO _ _ _ eh X f)) fun _=>rfl⟩
      ·cases h
     ·split at h
      ·obtain ⟨a',ea,rfl⟩:=Option.map_eq_some_iff.mp h
       exact ⟨qIm (iE _ _ _ ea X f).1 (qDj qLa),qAM (qIm (iE _ _ _ ea X f).1 (qDj qLa)) fun _=>rfl⟩
      ·split at h
       ·rename_i a' k' ea ek
        cases h
        exact ⟨qIk (iE _ _ _ ea X f).1 (iE _ _ _ ek X f).1,qAM (qIk (iE _ _ _ ea X f).1 (iE _ _ _ ek X f).1) fun _=>rfl⟩
       ·cases h
      ·cases h
    ·split at h
     ·rename_i hs
      split at h
      ·rename_i a' b' ea eb
       cases h
       have s1:=qKn (pos:=‹Pos›) hs (iE _ _ _ ea X f).1 (iE _ _ _ eb X f).1
       exact ⟨s1,qAM s1 fun _=>rfl⟩
      ·cases h
     ·cases h
   ·split at h
    ·rename_i hs
     obtain ⟨a',ea,rfl⟩:=Option.map_eq_some_iff.mp h
     have s1:=qLn (pos:=‹Pos›) (iA _ _ _ ea hs X f)
     exact ⟨s1,qAM s1 fun _=>rfl⟩
    ·cases h
   ·split at h
    ·rename_i hs
     obtain ⟨a',ea,rfl⟩:=Option.map_eq_some_iff.mp h
     exact ⟨qI0 (iA _ _ _ ea hs X f),qAM (qI0 (iA _ _ _ ea hs X f)) fun _=>rfl⟩
    ·cases h
   ·split at h
    ·cases h
     exact ⟨qGw,qAM qGw fun _=>rfl⟩
    ·cases h
   ·split at h
    ·split at h
     split at h
     ·dsimp only at h
      split at h
      ·rename_i hc
       simp only [Bool.and_eq_true] at hc
       split at h
       ·rename_i it g c e' ei eg ec ee
        cases h
        have s1:=qGr (pos:=‹Pos›) f.calm (iI _ _ _ _ ei X f) (qCM f hc.1) (fun C fp s H=>qGU (qBe f hc.1 C fp s H) eg) (fun C fp s H=>iIf _ _ _ ec _ (qBe f hc.1 C fp s H)) (fun C fp s H=>(iE _ _ _ ee _ (qBe f hc.1 C fp s H)).1) (qG5 hc.2)
        exact ⟨s1,qAM s1 fun _=>rfl⟩
       ·cases h
      ·cases h
     ·cases h
    ·cases h
   ·cases h
  ·intro Γ es as h hs X f
   cases es with
   | nil=>simp only [trA] at h;cases h;exact qCZ
   | cons e es=>
    simp only [trA] at h
    simp only [List.all_cons,Bool.and_eq_true] at hs
    split at h
    ·rename_i a as ea eas
     cases h
     exact qBH hs.1 (iE _ _ _ ea X f).1 (iA _ _ _ eas hs.2 X f)
    ·cases h
  ·intro Γ op p vs a h X f
   cases vs with
   | nil=>simp only [trB] at h;cases h
   | cons e r=>
    cases r with
    | nil=>
     simp only [trB] at h
     obtain ⟨s1,s2⟩:=iE _ _ _ h X f
     refine ⟨L2.pe_one s1,?_⟩
     cases op with
     | And=>exact L2.pw_and1 s2
     | Or=>exact L2.pw_or1 s2
    | cons b r=>
     simp only [trB] at h
     split at h
     ·rename_i a' b' ea eb
      cases h
      obtain ⟨s1,s2⟩:=iE _ _ _ ea X f
      obtain ⟨s3,s4⟩:=iB _ _ _ _ _ eb X f
      cases op with
      | And=>exact ⟨qKr s1 s3,qLR s2 s4⟩
      | Or=>exact ⟨qNI s1 s3,qMp s2 s4⟩
     ·cases h
  ·intro Γ g args a h ho hg hs X f p pos
   obtain ⟨o1,o2,o3⟩:=qGv ho
   unfold trC at h
   split at h
   ·rename_i i ei
    obtain ⟨as,ea,rfl⟩:=Option.map_eq_some_iff.mp h
    have sA:=iA _ _ _ ea hs X f
    cases args with
    | nil=>
     have:as=.nil:=by
      cases n with
      | zero=>simp only [trA] at ea;cases ea
      | succ m=>simp only [trA] at ea;cases ea;rfl
     subst this
     exact qH7 (f.fns i g (qBc ei)) (f.gl' hg) o1
    | cons e es=>
     simp only [List.all_cons,Bool.and_eq_true] at hs
     exact qJ9 (f.fns i g (qBc ei)) (f.gl' hg) o1 hs.1 hs.2 sA
   ·split at h
    ·rename_i hb
     split at h
     ·rename_i hi
      subst hi
      split at h
      ·rename_i e0 t pt
       split at h
       ·rename_i hc
        simp only [Bool.and_eq_true] at hc
        obtain ⟨t1,t2,t3⟩:=qGv hc.1.1
        split at h
        ·rename_i a' t' ea et
         cases h
         obtain ⟨b1,b2⟩:=qKG et
         simp only [List.all_cons,Bool.and_eq_true] at hs
         exact qK1 b2 (f.gl' hg) (f.blt _ hb) (f.gl' hc.1.2) (f.blt _ hc.2) b1 t3 t1 hs.1 (iE _ _ _ ea X f).1
        ·cases h
       ·cases h
      ·cases h
     ·split at h
      ·rename_i hl
       obtain ⟨rfl,_⟩:=hl
       split at h
       ·rename_i r pr e0 pc
        split at h
        ·rename_i hc
         simp only [Bool.and_eq_true,decide_eq_true_eq] at hc
         obtain ⟨⟨⟨⟨c1,c2⟩,c3⟩,c4⟩,rfl⟩:=hc
         obtain ⟨a',ea,rfl⟩:=Option.map_eq_some_iff.mp h
         exact qJT f.calm (f.gl' hg) (f.blt _ hb) (f.gl' c2) (f.blt _ c3) c4 (iE _ _ _ ea X f).1
        ·cases h
       ·rename_i r pr e0 e1 pc
        split at h
        ·rename_i hc
         simp only [Bool.and_eq_true,decide_eq_true_eq] at hc
         obtain ⟨⟨⟨⟨⟨c1,c2⟩,c3⟩,c4⟩,rfl⟩,c5⟩:=hc
         split at h
         ·rename_i a' b' ea eb
          cases h
          exact qIO f.calm (f.gl' hg) (f.blt _ hb) (f.gl' c2) (f.blt _ c3) c4 c5 (iE _ _ _ ea X f).1 (iE _ _ _ eb X f).1
         ·cases h
        ·cases h
       ·cases h
      rename_i hneg
      clear hneg
      split at h
      ·rename_i hl
       obtain ⟨rfl,_⟩:=hl
       split at h
       ·rename_i r pr e0 pc
        split at h
        ·rename_i hc
         simp only [Bool.and_eq_true,decide_eq_true_eq] at hc
         obtain ⟨⟨⟨⟨c1,c2⟩,c3⟩,c4⟩,rfl⟩:=hc
         obtain ⟨a',ea,rfl⟩:=Option.map_eq_some_iff.mp h
         exact qJF f.calm (f.gl' hg) (f.blt _ hb) (f.gl' c2) (f.blt _ c3) c4 (iE _ _ _ ea X f).1
        ·cases h
       ·cases h
      rename_i hneg
      clear hneg
      split at h
      ·rename_i b e es eb
       obtain ⟨as,ea,rfl⟩:=Option.map_eq_some_iff.mp h
       have sA:=iA _ _ _ ea hs X f
       simp only [List.all_cons,Bool.and_eq_true] at hs
       exact qKy f.calm f.hu f.gd (f.gl' hg) (f.blt _ hb) (qJL eb) hs.1 hs.2 sA o3 o1
      ·cases h
    ·cases h
  ·intro Γ o as h X f
   cases o with
   | none=>simp only [trO] at h;cases h;exact qJp
   | some e=>
    simp only [trO] at h
    obtain ⟨a,ea,rfl⟩:=Option.map_eq_some_iff.mp h
    exact qDj (iE _ _ _ ea X f).1
  ·intro Γ ifs as h X f
   cases ifs with
   | nil=>simp only [qKK] at h;cases h;exact qKO
   | cons e r=>
    cases r with
    | nil=>
     simp only [qKK] at h
     obtain ⟨a,ea,rfl⟩:=Option.map_eq_some_iff.mp h
     exact qKp (iE _ _ _ ea X f).2
    | cons b r=>simp only [qKK] at h;cases h
  ·intro Γ tg iter it h X f
   unfold trI at h
   split at h
   ·rename_i fn p args pos
    split at h
    ·rename_i hf
     subst hf
     split at h
     ·rename_i hc
      simp only [Bool.and_eq_true] at hc
      split at h
      ·rename_i e
       obtain ⟨a,ea,rfl⟩:=Option.map_eq_some_iff.mp h
       have hs:=hc.2
       simp only [List.all_cons,Bool.and_eq_true] at hs
       exact qJg (f.gl' hc.1.1) (f.blt _ hc.1.2) hs.1 (iE _ _ _ ea X f).1
      ·rename_i e e2
       split at h
       ·rename_i a' b' ea eb
        cases h
        have hs:=hc.2
        simp only [List.all_cons,Bool.and_eq_true] at hs
        exact qJj (f.gl' hc.1.1) (f.blt _ hc.1.2) hs.1 hs.2.1 (iE _ _ _ ea X f).1 (iE _ _ _ eb X f).1
       ·cases h
      ·split at h
       ·rename_i a' b' c' ea eb ec
        split at h
        ·rename_i hm1
         cases h
         have hs:=hc.2
         simp only [List.all_cons,Bool.and_eq_true] at hs
         exact qJZ (f.gl' hc.1.1) (f.blt _ hc.1.2) hs.1 hs.2.1 hs.2.2.1 (iE _ _ _ ea X f).1 (iE _ _ _ eb X f).1 (iE _ _ _ ec X f).1 hm1
        ·cases h
       ·cases h
      ·cases h
     ·cases h
    ·split at h
     ·rename_i hf
      subst hf
      split at h
      ·rename_i hc
       simp only [Bool.and_eq_true] at hc
       split at h
       ·split at h
        ·rename_i a' b' ea eb
         cases h
         have hs:=hc.2
         simp only [List.all_cons,Bool.and_eq_true] at hs
         exact qKt (f.gl' hc.1.1) (f.blt _ hc.1.2) hs.1 hs.2.1 (iE _ _ _ ea X f).1 (iE _ _ _ eb X f).1
        ·cases h
       ·cases h
      ·cases h
     ·split at h
      ·rename_i hf
       subst hf
       split at h
       ·rename_i hc
        simp only [Bool.and_eq_true] at hc
        split at h
        ·obtain ⟨a,ea,rfl⟩:=Option.map_eq_some_iff.mp h
         have hs:=hc.2
         simp only [List.all_cons,Bool.and_eq_true] at hs
         exact qJH (f.gl' hc.1.1) (f.blt _ hc.1.2) hs.1 (iE _ _ _ ea X f).1
        ·cases h
       ·cases h
      ·split at h
       ·rename_i hf
        subst hf
        split at h
        ·rename_i hc
         simp only [Bool.and_eq_true] at hc
         split at h
         ·split at h
          ·rename_i hr
           subst hr
           split at h
           ·rename_i c0
            simp only [Bool.and_eq_true] at c0
            obtain ⟨⟨⟨c1,c2⟩,c3⟩,c4⟩:=c0
            obtain ⟨a,ea,rfl⟩:=Option.map_eq_some_iff.mp h
            exact qMQ (f.gl' hc.1.1) (f.blt _ hc.1.2) (f.gl' c2) (f.blt _ c3) c4 (iE _ _ _ ea X f).1
           ·cases h
          ·obtain ⟨a,ea,rfl⟩:=Option.map_eq_some_iff.mp h
           have hs:=hc.2
           simp only [List.all_cons,Bool.and_eq_true] at hs
           exact qGy (f.gl' hc.1.1) (f.blt _ hc.1.2) hs.1 (iE _ _ _ ea X f).1
         ·obtain ⟨a,ea,rfl⟩:=Option.map_eq_some_iff.mp h
          have hs:=hc.2
          simp only [List.all_cons,Bool.and_eq_true] at hs
          exact qGy (f.gl' hc.1.1) (f.blt _ hc.1.2) hs.1 (iE _ _ _ ea X f).1
         ·cases h
        ·cases h
       ·obtain ⟨a,ea,rfl⟩:=Option.map_eq_some_iff.mp h
        exact qGj (iE _ _ _ ea X f).1
   ·obtain ⟨a,ea,rfl⟩:=Option.map_eq_some_iff.mp h
    exact qGj (iE _ _ _ ea X f).1
end
end PI
namespace PI
open PySem PySem.Spec PyProof.Rows PySem.SeqAt
open L2 (V Hp HO Cx PE PT PA PS PSs PG PGs PW RelV FnOk Fun qBd Binds Room SqL SqT)
section
variable {G:List Addr} {F:Nat -> List V -> AH -> RV}
theorem qDt {Γ:Gam} {X:Cx} (f:Fit Γ X G F) (hx:∀ x,Γ.own x=true) {n:Nat} {elt:Expr} {gens:List Comprehension} {scope:Scope} {cpos p pos:Pos} {a:E} {x:Str} {g:Tg} (h:trE n Γ (.ListComp elt gens scope cpos)=some a)
  (hg:trT Γ (.Name x ⟨0,0,0,0⟩)=some g):SS X G F (.Assign [.Name x p] (.ListComp elt gens scope cpos) pos) (.asg g a):=by
 cases n with
 | zero=>unfold trE at h;cases h
 | succ n=>
  unfold trT at hg
  dsimp only at hg
  split at hg
  ·rename_i hs
   obtain ⟨i,ei,rfl⟩:=Option.map_eq_some_iff.mp hg
   obtain ⟨h1,h2⟩:=f.store hs
   obtain ⟨iE,iA,iB,iC,iO,iIf,iI⟩:=qFC (G:=G) (F:=F) n
   unfold trE at h
   dsimp only at h
   split at h
   ·split at h
    split at h
    ·split at h
     ·rename_i hc
      simp only [Bool.and_eq_true] at hc
      split at h
      ·rename_i it g c e' ei' eg ec ee
       cases h
       exact qJm f.calm (iI _ _ _ _ ei' X f) (qCM f hc.1) (fun C fp s H=>qGU (qBe f hc.1 C fp s H) eg) (fun C fp s H=>iIf _ _ _ ec _ (qBe f hc.1 C fp s H)) (fun C fp s H=>(iE _ _ _ ee _ (qBe f hc.1 C fp s H)).1) (qG5 hc.2) (by rw [f.hN];exact f.nd) (by rw [f.hN];exact qBc ei) h1 h2
      ·cases h
     ·cases h
    ·cases h
   ·cases h
  ·cases hg
theorem qGL (n:Nat):(∀ Γ st (X:Cx),Fit Γ X G F -> (∀ x,Γ.own x=true) -> X.xe=(fun _ _=>False) -> SS X G F st (trS n Γ st))/\(∀ Γ sts (X:Cx),Fit Γ X G F -> (∀ x,Γ.own x=true) -> X.xe=(fun _ _=>False) -> SSs X G F sts (qGD n Γ sts)):=by
 induction n with
 | zero=>
  refine ⟨fun Γ st X f ho hx=>?_,fun Γ sts X f ho hx=>?_⟩
  ·unfold trS;exact qAS
  ·unfold qGD
   intro pins s σ H D I q
   obtain ⟨φ,h,σa,o,h',R,rs,e,k⟩:=q
   unfold exs ex at e
   cases e
 | succ n ih=>
  obtain ⟨i1,i2⟩:=ih
  obtain ⟨iE,iA,iB,iC,iO,iIf,iI⟩:=qFC (G:=G) (F:=F) 60
  refine ⟨fun Γ st X f ho hx=>?_,fun Γ sts X f ho hx=>?_⟩
  ·unfold trS
   split
   ·split
    ·split
     ·rename_i v pos _ _ x p
      split
      ·rename_i g a eg ea
       by_cases hc:qB9 v=true
       ·refine qBl (L2.ps_asg (iE _ _ _ ea X f).1 (qGU f (tg:=.Name x p) eg) (qBh hc) (by cases v<;>rfl) rfl) fun _ _ _=>qFo
       ·cases v with
        | ListComp elt gens scope cpos=>exact qDt f ho ea eg
        | SetComp elt gens scope cpos=>unfold trE at ea;cases ea
        | DictComp k elt gens scope cpos=>unfold trE at ea;cases ea
        | _=>exact absurd rfl hc
      ·exact qAS
     ·split
      ·split
       ·rename_i hc
        split
        ·rename_i i j a b ei ej ea eb
         split
         ·exact qAS
         ·rename_i hij
          unfold qOF at hc
          simp only [Bool.and_eq_true,decide_eq_true_eq,Bool.not_eq_true',beq_iff_eq] at hc
          obtain ⟨⟨⟨⟨⟨⟨⟨⟨c1,c2⟩,c3⟩,c4⟩,c5⟩,c6⟩,c7⟩,c8⟩,c9⟩:=hc
          refine qLi f.calm (by rw [f.hN];exact f.nd) (by rw [f.hN];exact qBc ei) (by rw [f.hN];exact qBc ej) hij (by rw [f.sc];exact c2) (by rw [f.sc];exact c3) (qBH c5 (iE _ _ _ ea X f).1 (qBH c6 (iE _ _ _ eb X f).1 qCZ)) ?_
          exact qEz (by unfold Env.blockKind;rw [f.sc];exact c1) (by rw [f.sc];exact c2) (by rw [f.sc];exact c3) c4 c9 c5 c6 c7 c8
        ·exact qAS
       ·exact qAS
      ·split
       ·rename_i hc
        simp only [Bool.and_eq_true] at hc
        split
        ·rename_i g a eg ea
         have hg:=eg
         unfold trT at hg
         obtain ⟨is,ei,rfl⟩:=Option.map_eq_some_iff.mp hg
         exact qLe (qGU f eg) (iE _ _ _ ea X f).1 hc.1 hc.2
        ·exact qAS
       ·exact qAS
     ·split
      ·rename_i hc
       simp only [Bool.and_eq_true] at hc
       split
       ·rename_i o' i' v' eo ei ev
        exact qLI f.hu (iE _ _ _ eo X f).1 (iE _ _ _ ei X f).1 (iE _ _ _ ev X f).1 hc.1 hc.2
       ·exact qAS
      ·exact qAS
     ·exact qAS
    ·exact qAS
   ·split
    ·rename_i hc
     split
     ·rename_i a ea;exact qI6 (iE _ _ _ ea X f).1 hc
     ·exact qAS
    ·exact qAS
   ·split
    ·split
     ·rename_i a ea;exact qK9 (iE _ _ _ ea X f).1
     ·exact qAS
    ·exact qJN
   ·split
    ·rename_i a ea;exact qKW (iE _ _ _ ea X f).2 (i2 _ _ X f ho hx) (i2 _ _ X f ho hx)
    ·exact qAS
   ·split
    ·split
     ·rename_i hs
      split
      ·rename_i it g ei eg;exact qK8 hx f.calm (iI _ _ _ _ ei X f) (qGU f eg) (i2 _ _ X f ho hx) (qG5 hs)
      ·exact qAS
     ·exact qAS
    ·exact qAS
   ·split
    ·split
     ·rename_i a ea;exact qHf hx (iE _ _ _ ea X f).2 (i2 _ _ X f ho hx)
     ·exact qAS
    ·exact qAS
   ·split
    ·split
     ·rename_i hc
      split
      ·rename_i o' i' v' eo ei ev
       split
       ·rename_i hp
        simp only [Bool.and_eq_true] at hp
        exact qKi (iE _ _ _ eo X f).1 (iE _ _ _ ei X f).1 (iE _ _ _ ev X f).1 hc hp.1.1 hp.1.2 hp.2
       ·exact qAS
      ·exact qAS
     ·exact qAS
    ·exact qAS
   ·exact qJI
   ·exact qLU
   ·exact qJ4
   ·exact qAS
  ·cases sts with
   | nil=>unfold qGD;exact qJh
   | cons s r=>unfold qGD;exact qH8 (i1 _ _ X f ho hx) (i2 _ _ X f ho hx)
end
theorem len0 {α:Type} {us:List α} (h:us.length=0):us=[]:=List.length_eq_zero_iff.mp h
theorem len1 {α:Type} {us:List α} (h:us.length=1):∃ a,us=[a]:=List.length_eq_one_iff.mp h
theorem len2 {α:Type} {us:List α} (h:us.length=2):∃ a b,us=[a,b]:=by
 cases us with
 | nil=>cases h
 | cons a r=>obtain ⟨b,rfl⟩:=len1 (us:=r) (by simpa using h);exact ⟨a,b,rfl⟩
theorem len3 {α:Type} {us:List α} (h:us.length=3):∃ a b c,us=[a,b,c]:=by
 cases us with
 | nil=>cases h
 | cons a r=>obtain ⟨b,c,rfl⟩:=len2 (us:=r) (by simpa using h);exact ⟨a,b,c,rfl⟩
theorem len4 {α:Type} {us:List α} (h:us.length=4):∃ a b c d,us=[a,b,c,d]:=by
 cases us with
 | nil=>cases h
 | cons a r=>obtain ⟨b,c,d,rfl⟩:=len3 (us:=r) (by simpa using h);exact ⟨a,b,c,d,rfl⟩
theorem len5 {α:Type} {us:List α} (h:us.length=5):∃ a b c d e,us=[a,b,c,d,e]:=by
 cases us with
 | nil=>cases h
 | cons a r=>obtain ⟨b,c,d,e,rfl⟩:=len4 (us:=r) (by simpa using h);exact ⟨a,b,c,d,e,rfl⟩
theorem len6 {α:Type} {us:List α} (h:us.length=6):∃ a b c d e f,us=[a,b,c,d,e,f]:=by
 cases us with
 | nil=>cases h
 | cons a r=>obtain ⟨b,c,d,e,f,rfl⟩:=len5 (us:=r) (by simpa using h);exact ⟨a,b,c,d,e,f,rfl⟩
structure qHX where
 x:Str
 st:Stmt
 ps:List Str
 N:List Str
structure Tbl where
 ds:List qHX
 gl:List (Str×E)
 bl:List Str
 cls:List Str:=[]
 xr:List Str:=[]
noncomputable def Tbl.gam (T:Tbl) (d:qHX):Gam:=⟨d.N,L2.defScope d.st,T.ds.map (·.x),T.gl,T.bl,fun _=>true,T.cls,T.xr.contains d.x⟩
noncomputable def Tbl.fn (T:Tbl) (d:qHX):Fn:=⟨d.ps.length,d.N.length,qGD 60 (T.gam d) (L2.defBody d.st)⟩
noncomputable def Tbl.fns (T:Tbl):List Fn:=T.ds.map T.fn
structure qIS (K:PySem.W.Frag) (mg:Str -> Option Value) (G:List Addr) (T:Tbl) (fa:List Addr) (fd:List FuncData):Prop where
 def_:∀ (i:Nat) d,T.ds[i]?=some d -> ∃ a f,fa[i]?=some a/\fd[i]?=some f/\Fun K d.x d.x d.st a f/\qBd d.N d.ps (L2.defScope d.st)/\mg d.x=some (.ref a)/\Binds K f d.ps []
 gls:∀ x e,T.gl.lookup x=some e -> (∃ v u,e=.cst v/\mg x=some u/\RelV v u/\∀ φ,rv φ v v)\/(∃ g a,e=.glob g/\mg x=some (.ref a)/\G[g]?=some a)
 blt:∀ x,T.bl.contains x=true -> mg x=none
 gtu:∀ a∈G,∃ o,K.lookup a=some o/\o.cls=.type "tuple"/\o.dict=none
theorem qGZ {φ:List Addr} {ws vs:List V} (r:rvs φ ws vs) (n:Nat):rst φ (ws.map some++List.replicate n none) (vs.map some++List.replicate n none):=by
 refine qAG ?_ ?_
 ·induction r with
  | nil=>exact .nil
  | cons h t ih=>exact .cons ⟨_,rfl,h⟩ ih
 ·induction n with
  | zero=>exact .nil
  | succ n ih=>exact .cons trivial ih
section
variable {P:Program} {w:World} {K:PySem.W.Frag} {mg:Str -> Option Value} {base:Heap} {G:List Addr} {T:Tbl} {fa:List Addr} {fd:List FuncData}
theorem qKQ {k i:Nat} {d:qHX} (h1:T.ds[i]?=some d) {ws:List V} {h h':AH} {v:V} (e:Fk T.fns (k + 1) i ws h=.ok (v,h')):ws.length=d.ps.length/\d.ps.length<=d.N.length/\∃ o,exs (Fk T.fns k) (qGD 60 (T.gam d) (L2.defBody d.st)) (ws.map some++List.replicate (d.N.length - d.ps.length) none) h=.ok (o,h')/\
  ((∃ σ,o=.nx σ/\v=.non)\/o=.rt v):=by
 unfold Fk at e
 have ht:T.fns[i]?=some (T.fn d):=by unfold Tbl.fns;rw [List.getElem?_map,h1];rfl
 rw [ht] at e
 dsimp only at e
 split at e
 ·rename_i hc
  obtain ⟨⟨o,h2⟩,e2,e⟩:=Res.bind_inv e
  have e4:exs (Fk T.fns k) (qGD 60 (T.gam d) (L2.defBody d.st)) (ws.map some++List.replicate (d.N.length - d.ps.length) none) h=.ok (o,h2):=e2
  refine ⟨hc.1,hc.2,o,?_,?_⟩
  ·cases o<;>cases e<;>exact e4
  ·cases o with
   | nx σ=>cases e;exact .inl ⟨σ,rfl,rfl⟩
   | rt u=>cases e;exact .inr rfl
   | bk σ=>cases e
   | ct σ=>cases e
 ·cases e
theorem qKk (O:qIS K mg G T fa fd) {k:Nat} {d:qHX} (f0:∀ (i:Nat) d a f,T.ds[i]?=some d -> fa[i]?=some a -> fd[i]?=some f -> FnOk P w K mg base L2.CX0 k a f d.ps (spF G (Fk T.fns k) K i))
  (hS:qBd d.N d.ps (L2.defScope d.st)) (CX:L2.CXT) (a:Addr) (cdv:Value) (A:Around) (outer:List Env) (s:Shared) (H:Hp) (E:L2.XK) (E2:Value -> Shared -> Prop) (hr:Room k (A.deeper (envOfC d.x (L2.defScope d.st) s.heap.objs.size a cdv))):
  Fit (T.gam d) ((L2.cxOf CX P w K mg base d.N d.x (L2.defScope d.st) a cdv A outer s H E).wish E2) G (Fk T.fns k):=by
 have get:∀ (g:Nat) x,(T.gam d).fns[g]?=some x -> ∃ d2 a2 f2,T.ds[g]?=some d2/\d2.x=x/\fa[g]?=some a2/\fd[g]?=some f2/\mg x=some (.ref a2)/\PySem.W.keepIn K (.ref a2)=true/\Binds K f2 d2.ps []:=fun g x eg=>by
  have eg':(T.ds.map (·.x))[g]?=some x:=eg
  rw [List.getElem?_map] at eg'
  cases hd:T.ds[g]? with
  | none=>rw [hd] at eg';cases eg'
  | some d2=>
   rw [hd] at eg'
   cases eg'
   obtain ⟨a2,f2,q1,q2,q3,q4,q5,q6⟩:=O.def_ g d2 hd
   exact ⟨d2,a2,f2,rfl,rfl,q1,q2,q5,q3.kp,q6⟩
 refine ⟨rfl,hS.nd,rfl,rfl,fun _ _=>rfl,fun g x eg=>?_,O.gls,O.blt,?_,hr.gd,O.gtu⟩
 ·obtain ⟨d2,a2,f2,q1,rfl,q2,q3,q4,q5,q6⟩:=get g x eg
  exact ⟨k,a2,f2,d2.ps,f0 g d2 a2 f2 q1 q2 q3,hr,q4,q5,q6⟩
 ·have:=hr.units
  show (A.deeper (envOfC d.x (L2.defScope d.st) s.heap.objs.size a cdv)).units + 8 < cLine
  omega
theorem qFG (O:qIS K mg G T fa fd):∀ (k:Nat) (i:Nat) d a f,T.ds[i]?=some d -> fa[i]?=some a -> fd[i]?=some f -> FnOk P w K mg base L2.CX0 k a f d.ps (spF G (Fk T.fns k) K i)
 | 0=>fun i d a f h1 h2 h3=>⟨(fun vs H Q E h=>by obtain ⟨_,_,_,_,_,_,_,e,_⟩:=h;unfold Fk at e;cases e),(fun A outer s H args us vs Q E hr e0 hb r h=>by obtain ⟨_,_,_,_,_,_,_,e,_⟩:=h;unfold Fk at e;cases e)⟩
 | k + 1=>by
  have f0:=qFG O k
  refine fun i d a f h1 h2 h3=>?_
  obtain ⟨a',f',e1,e2,hF,hS,hm,hB⟩:=O.def_ i d h1
  rw [h2] at e1;cases e1
  rw [h3] at e2;cases e2
  refine hF.ok hS (fun vs H Q E h=>?_) (fun cdv A outer s H vs Q E hr h=>?_)
  ·obtain ⟨φ,h0,ws,v,h',R,r,e,_⟩:=h
   rw [<- Paired.length r]
   exact (qKQ h1 e).1
  ·obtain ⟨φ,h0,ws,v,h',R,r,e,kk⟩:=h
   obtain ⟨l1,l2,o,eo,ho⟩:=qKQ h1 e
   have fit:=qKk O f0 hS L2.CX0 a cdv A outer s H E (fun _ _=>False) hr
   refine ⟨_,(qGL (G:=G) (F:=Fk T.fns k) 60).2 (T.gam d) (L2.defBody d.st) _ fit (fun _=>rfl) rfl,φ,h0,_,o,h',R,?_,eo,fun φ' H' x' R'=>?_⟩
   ·unfold L2.start
    rw [<- Paired.length r,l1]
    exact qGZ r _
   ·rcases ho with ⟨σ,rfl,rfl⟩ | rfl
    ·exact fun σc _=>kk φ' H' .non x' R' trivial
    ·exact fun u ru=>kk φ' H' u x' R' ru
end
noncomputable def qHd (K:PySem.W.Frag):L2.Sp:=fun vs H Q _=>∃ (a:Addr) (ns:List Int),vs=[.ref a]/\L2.Only H/\SqL K H a (ns.map V.int)/\ns.length<=63/\∀ H',Q (.bl true) H'
noncomputable def qD5 (gs:List O) (ns:List Int):AH:=gs++[.lst true (ns.map V.int)]
noncomputable def qE9 (K:PySem.W.Frag):List Addr -> List O -> Prop
 | [],[]=>True
 | a::as,.tup xs::os=>(SqT K (fun _=>none) a xs/\xs.all qAq=true)/\qE9 K as os
 | _,_=>False
theorem qDh {φ:List Addr}:∀ {xs:List V},xs.all qAq=true -> rvs φ xs xs
 | [],_=>.nil
 | x::xs,h=>by
  simp only [List.all_cons,Bool.and_eq_true] at h
  refine .cons ?_ (qDh h.2)
  cases x<;>first | rfl | exact trivial | (cases h.1)
theorem qIA {K:PySem.W.Frag} {H:Hp} {a:Addr} {xs:List V} (q:SqT K (fun _=>none) a xs):SqT K H a xs:=by
 rcases q with (h | ⟨o,h⟩) | h
 ·cases h
 ·cases h
 ·exact .inr h
theorem qDN {K:PySem.W.Frag}:∀ {as:List Addr} {os:List O},qE9 K as os -> as.length=os.length/\∀ (i:Nat) o a,os[i]?=some o -> as[i]?=some a -> ∃ xs,o=.tup xs/\SqT K (fun _=>none) a xs/\xs.all qAq=true
 | [],[],_=>⟨rfl,fun i o a h=>by simp at h⟩
 | [],_::_,h=>False.elim h
 | _::_,[],h=>False.elim h
 | a::as,.lst _ _::os,h=>False.elim h
 | a::as,.tup xs::os,h=>by
  obtain ⟨h1,h2⟩:=h
  obtain ⟨l,k⟩:=qDN h2
  refine ⟨by simp [l],fun i o b e1 e2=>?_⟩
  cases i with
  | zero=>simp at e1 e2;subst e1 e2;exact ⟨xs,rfl,h1⟩
  | succ i=>exact k i o b (by simpa using e1) (by simpa using e2)
theorem qHP {P:Program} {w:World} {K:PySem.W.Frag} {mg:Str -> Option Value} {base:Heap} {G:List Addr} {gs:List O} {T:Tbl} {fa:List Addr} {fd:List FuncData} (O:qIS K mg G T fa fd) (hG:qE9 K G gs) {k i:Nat} {d:qHX} {a:Addr} {f:FuncData}
  (h1:T.ds[i]?=some d) (h2:fa[i]?=some a) (h3:fd[i]?=some f) (hp:d.ps=(["_law_script"]:List Str)) (main:∀ ns:List Int,ns.length<=63 -> ∃ h',Fk T.fns k i [.ref gs.length] (qD5 gs ns)=.ok (.bl true,h')):
  FnOk P w K mg base L2.CX0 k a f (["_law_script"]:List Str) (qHd K):=by
 have F:=qFG (P:=P) (w:=w) (base:=base) O k i d a f h1 h2 h3
 rw [hp] at F
 refine ⟨fun vs H Q E h=>by obtain ⟨b,ns,rfl,_⟩:=h;rfl,fun A outer s H args us vs Q E hr e0 hb r h=>?_⟩
 obtain ⟨b,ns,rfl,hO,hS,hl,q⟩:=h
 obtain ⟨h',e⟩:=main ns hl
 obtain ⟨lg,kg⟩:=qDN hG
 refine F.run A outer s H args us _ Q E hr e0 hb r ⟨G++[b],qD5 gs ns,[.ref gs.length],.bl true,h',⟨by unfold qD5;simp [lg],⟨[b],rfl⟩,fun j o c e1 e2=>?_,fun j l xs ys c e1 e2 e3 e4=>?_⟩,.cons (by show (G++[b])[gs.length]?=some b;rw [<- lg];simp) .nil,e,fun φ' H' u x' R' ru=>by rw [qA3 ru];exact q H'⟩
 ·unfold qD5 at e1
  by_cases hj:j < gs.length
  ·rw [List.getElem?_append_left hj] at e1
   rw [List.getElem?_append_left (by omega)] at e2
   obtain ⟨xs,rfl,h5,h6⟩:=kg j o c e1 e2
   exact ⟨xs,qIA h5,qDh h6⟩
  ·have hj':j=gs.length:=by
    have:=(List.getElem?_eq_some_iff.mp e1).1
    simp at this
    omega
   subst hj'
   simp at e1
   rw [<- lg] at e2
   simp at e2
   subst e1 e2
   refine ⟨ns.map V.int,?_,qDh (qCE ns)⟩
   rcases hS with (z | ⟨ob,z⟩) | z
   ·rcases hO b with y | ⟨ob,xs,y⟩<;>(rw [y] at z;cases z)
   ·exact .inl ⟨ob,z⟩
   ·exact .inr (.inr z)
 ·have no:∀ {m:Nat} {z:PI.O},z.mu=true -> (qD5 gs ns)[m]?=some z -> False:=fun {m zs} mz em=>by
   unfold qD5 at em
   by_cases hj:m < gs.length
   ·rw [List.getElem?_append_left hj] at em
    obtain ⟨xs,ex,_⟩:=kg m _ (G[m]'(by omega)) em (List.getElem?_eq_getElem (by omega))
    subst ex
    cases mz
   ·have hj':m=gs.length:=by
     have:=(List.getElem?_eq_some_iff.mp em).1
     simp at this
     omega
    subst hj'
    simp at em
    subst em
    cases mz
  exact (no ‹_› ‹_›).elim
end PI
namespace PI
open PySem PySem.Spec PyProof.Rows L2
noncomputable abbrev qKY (K:PySem.W.Frag) (d:qHX):Prop:=∃ (f:Addr) (oc:Value) (od an:Option Addr) (sl:Array (Option Value)) (kV dc pm cd ct:Value),PySem.W.nsIn K mainGlobals d.x=some (some (.ref f))/\K.lookup f=some ⟨oc,od,.func (PySem.W.fnOf d.x d.x (qBt d.st) (defBody d.st) (defScope d.st) .none kV dc pm an cd ct),sl⟩/\PySem.W.codeIn K cd d.x=true/\PySem.W.keepIn K (.ref f)=true
structure qMa (d:qHX):Prop where
 sc:qBd d.N d.ps (defScope d.st)
 bd:∀ (kV doc pm:Value) (an:Option Addr) (cdv ct:Value) (us:List Value),us.length=d.ps.length -> bindArgs (PySem.W.fnOf d.x d.x (qBt d.st) (defBody d.st) (defScope d.st) .none kV doc pm an cdv ct) ⟨us,[]⟩=pure (d.ps.zip us)
theorem qIt {K:PySem.W.Frag} {h:Heap} {mg:Str -> Option Value} (X:K.In h) (G:h.Ns mainGlobals mg):∀ (ds:List qHX),(∀ d∈ds,qKY K d) -> (∀ d∈ds,qMa d) -> ∃ (fa:List Addr) (fd:List FuncData),∀ (i:Nat) d,ds[i]?=some d -> ∃ a f,fa[i]?=some a/\fd[i]?=some f/\Fun K d.x d.x d.st a f/\qBd d.N d.ps (L2.defScope d.st)/\mg d.x=some (.ref a)/\Binds K f d.ps []
 | [],_,_=>⟨[],[],fun i d h=>by simp at h⟩
 | d::ds,h,hk=>by
  obtain ⟨fa,fd,k⟩:=qIt X G ds (fun x hx=>h x (by simp [hx])) fun x hx=>hk x (by simp [hx])
  obtain ⟨f,oc,od,an,sl,kV,dc,pm,cd,ct,h1,h2,h3,h4⟩:=h d (by simp)
  have hd:=hk d (by simp)
  refine ⟨f::fa,PySem.W.fnOf d.x d.x (qBt d.st) (defBody d.st) (defScope d.st) .none kV dc pm an cd ct::fd,fun i e he=>?_⟩
  cases i with
  | zero=>cases he;exact ⟨_,_,rfl,rfl,qIq h2 h3 h4,hd.sc,PySem.W.mg_of X G h1,(qIq h2 h3 h4).binds hd.bd⟩
  | succ i=>exact k i e he
theorem qMi {K:PySem.W.Frag} {d:qHX} {a:Addr} {f:FuncData} {x:Str} (F:Fun K d.x d.x d.st a f) (h:qMa d) (hp:d.ps=[x]) (s:Shared) (v:Value):BindsTo s f ⟨[v],[]⟩ [(x,v)]:=by
 obtain ⟨oc,od,kV,doc,pm,an,cdv,ct,osl,rfl,lk,hcd⟩:=F.ex
 refine .of_eq ?_
 rw [h.bd kV doc pm an cdv ct [v] (by rw [hp];rfl),hp];rfl
end PI
namespace PI
open L2 (V)
inductive T where
 | v (x:V) | cell (n:Nat) | fz (xs:List T) | lst (xs:List T) | tup (xs:List T) | ob (o:Ob)
noncomputable abbrev Mem:=List (List T)
noncomputable abbrev TS:=List (Option T)
inductive PR (α:Type) | ok (a:α) | exc (c:Nat) (M:Mem) | stuck
noncomputable def PR.bind {α β:Type}:PR α -> (α -> PR β) -> PR β
 | .ok a,f=>f a
 | .exc c M,_=>.exc c M
 | .stuck,_=>.stuck
@[simp] theorem PR.bind_ok {α β:Type} (a:α) (f:α -> PR β):(PR.ok a).bind f=f a:=Eq.trans rfl rfl
@[simp] theorem PR.bind_stuck {α β:Type} (f:α -> PR β):(PR.stuck:PR α).bind f=.stuck:=Eq.trans rfl rfl
noncomputable def PR.nx {α:Type}:PR α -> PR α
 | .ok a=>.ok a
 | .exc _ _=>.stuck
 | .stuck=>.stuck
@[simp] theorem PR.nx_ok {α:Type} (a:α):(PR.ok a).nx=.ok a:=Eq.trans rfl rfl
@[simp] theorem PR.nx_stuck {α:Type}:(PR.stuck:PR α).nx=.stuck:=Eq.trans rfl rfl
noncomputable def PR.ofO {α:Type}:Option α -> PR α
 | some a=>.ok a
 | none=>.stuck
@[simp] theorem PR.ofO_some {α:Type} (a:α):PR.ofO (some a)=.ok a:=Eq.trans rfl rfl
mutual
noncomputable def T.lf:T -> Bool
 | .v _=>true
 | .ob _=>true
 | .tup ts=>T.lfs ts
 | _=>false
noncomputable def T.lfs:List T -> Bool
 | []=>true
 | t::ts=>T.lf t&&T.lfs ts
end
mutual
noncomputable def T.und (n:Nat):T -> Bool
 | .v _=>true
 | .ob _=>true
 | .cell k=>decide (k < n)
 | .fz ts=>T.unds n ts
 | .lst ts=>T.unds n ts
 | .tup ts=>T.unds n ts
noncomputable def T.unds (n:Nat):List T -> Bool
 | []=>true
 | t::ts=>T.und n t&&T.unds n ts
end
mutual
noncomputable def T.beq:T -> T -> Bool
 | .v x,.v y=>decide (x=y)
 | .cell x,.cell y=>decide (x=y)
 | .fz x,.fz y=>T.beqs x y
 | .lst x,.lst y=>T.beqs x y
 | .tup x,.tup y=>T.beqs x y
 | .ob x,.ob y=>decide (x=y)
 | _,_=>false
noncomputable def T.beqs:List T -> List T -> Bool
 | [],[]=>true
 | x::xs,y::ys=>T.beq x y&&T.beqs xs ys
 | _,_=>false
end
noncomputable abbrev qCc:=List (Nat×List T)
noncomputable def qAd (d:qCc) (M:Mem):Bool:=d.all fun p=>match M[p.1]? with | some ts=>T.beqs ts p.2 | none=>false
noncomputable def T.its (M:Mem):T -> Option (List T)
 | .lst xs=>some xs | .tup xs=>some xs | .fz xs=>some xs | .cell n=>M[n]? | _=>none
noncomputable def T.lis (M:Mem):T -> Option (List T)
 | .lst xs=>some xs | .fz xs=>some xs | .cell n=>M[n]? | _=>none
noncomputable def T.mu (M:Mem):T -> Option (List T)
 | .lst xs=>some xs | .cell n=>M[n]? | _=>none
noncomputable def qA1:List T -> Option (List Int)
 | []=>some []
 | .v (.int i)::r=>(qA1 r).map (i::·)
 | _::_=>none
noncomputable def qBz:List T -> Option (List Int)
 | []=>some []
 | .v (.int i)::r=>(qBz r).map (i::·)
 | .v (.bl b)::r=>(qBz r).map ((if b=true then 1 else 0)::·)
 | _=>none
noncomputable def qA9:List T -> Option (List Bool)
 | []=>some []
 | .v (.bl i)::r=>(qA9 r).map (i::·)
 | _::_=>none
noncomputable def qBG:List T -> Option (List V)
 | []=>some []
 | .v x::r=>(qBG r).map (x::·)
 | _::_=>none
noncomputable def qA5 (f:T -> T -> Option Bool):List T -> List T -> Option (List Bool)
 | [],[]=>some []
 | x::xs,y::ys=>match f x y,qA5 f xs ys with
  | some b,some bs=>some (b::bs)
  | _,_=>none
 | _,_=>none
noncomputable def T.isV:T -> Option V | .v x=>some x | _=>none
noncomputable def eqT (M:Mem):Nat -> T -> T -> Option Bool
 | 0,s,t=>match s.isV,t.isV with | some x,some y=>eqF x y | _,_=>none
 | n + 1,s,t=>match s.isV,t.isV with
  | some x,some y=>eqF x y
  | some _,none=>if (t.its M).isSome then some false else none
  | none,some _=>if (s.its M).isSome then some false else none
  | none,none=>match s.lis M,t.lis M with
   | some xs,some ys=>if xs.length=ys.length then (qA5 (eqT M n) xs ys).map fun bs=>bs.all id else some false
   | some _,none=>if (t.its M).isSome then some false else none
   | none,some _=>if (s.its M).isSome then some false else none
   | none,none=>match s.its M,t.its M with
    | some xs,some ys=>if xs.length=ys.length then (qA5 (eqT M n) xs ys).map fun bs=>bs.all id else (qA5 (eqT M n) (xs.take ys.length) (ys.take xs.length)).map fun _=>false
    | _,_=>none
noncomputable def qHv (xs:List T) (lo hi:Option Int):List T:=(xs.drop (HT.sIx xs.length 0 lo)).take (HT.sIx xs.length xs.length hi - HT.sIx xs.length 0 lo)
noncomputable abbrev TB:=T×Bool
noncomputable def iT (i:Int):TB:=(.v (.int i),true)
noncomputable def bT (b:Bool):TB:=(.v (.bl b),true)
noncomputable def lT (xs:List T):TB:=(.lst xs,T.lfs xs)
noncomputable def qJR (x:T) (xs:List T) (lo hi:Option Int):Option TB:=match x with
 | .tup _=>if HT.sIx xs.length 0 lo=0/\HT.sIx xs.length xs.length hi=xs.length then none else some (.tup (qHv xs lo hi),T.lfs (qHv xs lo hi))
 | _=>some (lT (qHv xs lo hi))
noncomputable def qAm (M:Mem) (op:BOp) (x y:T):Option TB:=match x.isV,y.isV with
 | some (.int i),some (.int j)=>match op with
  | .add=>some (iT (i + j))
  | .sub=>some (iT (i - j))
  | .mul=>if small i||small j||(mid i&&mid j) then some (iT (i * j)) else none
  | .fdiv=>if 0 < j/\(j < 1073741824\/mid j=true) then some (iT (i / j)) else if j < 0/\mid j=true then some (iT (i.fdiv j)) else none
  | .mod=>if 0 < j then some (iT (i % j)) else if j < 0 then some (iT (i.fmod j)) else none
  | .pow=>if 0<=j/\j<=1000/\i.natAbs < 18446744073709551616 then some (iT (i ^ j.toNat)) else none
  | .band=>some (iT (PySem.Builtin.bitAnd i j))
  | .shl=>if 0<=j/\j<=1000/\i.natAbs < 18446744073709551616 then some (iT (i * 2 ^ j.toNat)) else none
  | .shr=>if 0<=j/\j<=1000 then some (iT (i / 2 ^ j.toNat)) else none
  | .bor=>some (iT (PySem.Builtin.bitOr i j))
  | .bxor=>some (iT (PySem.Builtin.bitXor i j))
 | none,some (.int k)=>match op with
  | .mul=>(x.mu M).bind fun xs=>if 0<=k/\xs.length * k.toNat<=lim/\k < 1000000 then some (lT (List.replicate k.toNat xs).flatten) else none
  | _=>none
 | none,none=>match op with
  | .add=>(match x,y with
   | .tup xs,.tup ys=>if xs≠[]/\xs.length + ys.length<=lim then some (.tup (xs++ys),T.lfs (xs++ys)) else none
   | x,y=>(x.mu M).bind fun xs=>(y.mu M).bind fun ys=>if xs.length + ys.length<=lim then some (lT (xs++ys)) else none)
  | _=>none
 | _,_=>none
noncomputable def inT (M:Mem) (x y:T):Option Bool:=x.isV.bind fun a=>(y.its M).bind fun ts=>(qBG ts).map fun xs=>xs.any fun z=>L2.eqV z a
noncomputable def qBF (M:Mem) (op:COp) (x y:T):Option Bool:=match op with
 | .eq=>eqT M 4 x y
 | .ne=>(eqT M 4 x y).map (!·)
 | .inn=>inT M x y
 | .notin=>(inT M x y).map (!·)
 | .is=>match y.isV with | some .non=>some (match x.isV with | some .non=>true | _=>false) | some (.bl d)=>(match x.isV with | some (.bl c)=>some (c==d) | _=>none) | _=>none
 | .isnot=>match y.isV with | some .non=>some (match x.isV with | some .non=>false | _=>true) | some (.bl d)=>(match x.isV with | some (.bl c)=>some (!(c==d)) | _=>none) | _=>none
 | .lt=>match x.isV,y.isV with | some (.int i),some (.int j)=>some (decide (i < j)) | _,_=>none
 | .le=>match x.isV,y.isV with | some (.int i),some (.int j)=>some (decide (i<=j)) | _,_=>none
 | .gt=>match x.isV,y.isV with | some (.int i),some (.int j)=>some (decide (j < i)) | _,_=>none
 | .ge=>match x.isV,y.isV with | some (.int i),some (.int j)=>some (decide (j<=i)) | _,_=>none
noncomputable def qFw (as:List T) (f:T -> Option TB):Option TB:=match as with
 | [a]=>f a
 | _=>none
theorem qAp {as:List T} {f:T -> Option TB} {r:TB} (e:qFw as f=some r):∃ a,as=[a]/\f a=some r:=by
 unfold qFw at e
 split at e
 ·exact ⟨_,rfl,e⟩
 ·cases e
noncomputable def twoT (as:List T) (f:Int -> Int -> Option TB):Option TB:=match as with
 | [a,b]=>(match a with
  | .v (.int i)=>(match b with | .v (.int j)=>f i j | _=>none)
  | _=>none)
 | _=>none
theorem twoT_inv {as:List T} {f:Int -> Int -> Option TB} {r:TB} (e:twoT as f=some r):∃ i j,as=[.v (.int i),.v (.int j)]/\f i j=some r:=by
 unfold twoT at e
 split at e
 ·split at e
  ·split at e
   ·exact ⟨_,_,rfl,e⟩
   ·cases e
  ·cases e
 ·cases e
noncomputable def qDo (f:T -> Option PySem.PyData):List T -> Option (List PySem.PyData)
 | []=>some []
 | x::r=>(f x).bind fun d=>(qDo f r).map fun ds=>d::ds
noncomputable def qHW (M:Mem):Nat -> T -> Option PySem.PyData
 | 0,t=>match t with | .v x=>qHp x | _=>none
 | n + 1,t=>match t with
  | .v x=>qHp x
  | .tup ts=>(qDo (qHW M n) ts).map .tuple
  | .lst ts=>(qDo (qHW M n) ts).map .list
  | .fz ts=>(qDo (qHW M n) ts).map .list
  | .cell k=>(M[k]?).bind fun ts=>(qDo (qHW M n) ts).map .list
  | .ob _=>none
noncomputable def qJD (M:Mem) (t:T):Option PySem.PyData:=match t with | .ob (.dct [])=>some (.dict []) | t=>qHW M 3 t
noncomputable def qJr (M:Mem) (t:T):Option PySem.PyData:=match t with | .tup ts=>(qDo (qJD M) ts).map .tuple | .ob (.dct [])=>some (.dict []) | t=>qHW M 4 t
noncomputable def qCG (M:Mem):BF -> List T -> Option TB
 | .len,as=>qFw as fun a=>(a.its M).map fun xs=>iT xs.length
 | .sum,as=>qFw as fun a=>(a.lis M).bind fun xs=>(qBz xs).map fun is=>iT is.sum
 | .all,as=>qFw as fun a=>(a.lis M).bind fun xs=>(qA9 xs).map fun bs=>bT (bs.all id)
 | .any,as=>qFw as fun a=>(a.lis M).bind fun xs=>(qA9 xs).map fun bs=>bT (bs.any id)
 | .max,as=>twoT as fun i j=>some (iT (if j > i then j else i))
 | .min,as=>twoT as fun i j=>some (iT (if j < i then j else i))
 | .abs,as=>qFw as fun a=>(match a with | .v (.int i)=>some (iT (if i < 0 then -i else i)) | _=>none)
 | .list,as=>qFw as fun a=>(a.its M).map lT
 | .tuple,as=>qFw as fun a=>(match a with | .tup xs=>some (.tup xs,T.lfs xs) | a=>(a.lis M).map fun xs=>(.tup xs,T.lfs xs))
 | .int,as=>qFw as fun a=>(match a with | .v (.int i)=>some (iT i) | .v (.bl b)=>some (iT (if b then 1 else 0)) | _=>none)
 | .range,_=>none
 | .bits,as=>qFw as fun a=>(match a with | .v (.int i)=>some (iT ((PySem.Builtin.Int.intBits i:Nat):Int)) | _=>none)
 | .repr,as=>qFw as fun a=>((qJr M a).bind qIN).map fun v=>(.v v,true)
 | .sorted,as=>qFw as fun a=>(a.lis M).bind fun xs=>(qA1 xs).bind fun is=>if is.length < 64 then some (.lst ((qD7 is).map fun i=>.v (.int i)),true) else none
noncomputable def T.sel (g:Bool) (M:Mem) (t:T):Option (List T):=if g=true then (match t with | .tup xs=>some xs | _=>none) else t.lis M
noncomputable def qGl (g:Bool) (M:Mem) (x y:T):Option TB:=y.isV.bind fun a=>(x.sel g M).bind fun ts=>(qBG ts).bind fun xs=>(xs.findIdx? fun z=>L2.eqV z a).map fun (j:Nat)=>iT (j:Int)
noncomputable def T.isC (n:Nat):T -> Bool | .cell k=>decide (k=n) | _=>false
noncomputable def qEG:Mt -> Nat -> List T -> Mem -> Option (TB×Mem)
 | .pop,n,[],M=>(M[n]?).bind fun xs=>(xs[xs.length - 1]?).map fun y=>((y,y.lf),M.set n xs.dropLast)
 | .popAt,n,[.v (.int i)],M=>(M[n]?).bind fun xs=>if xs.length<=lim then (ixN xs.length i).bind fun k=>(xs[k]?).map fun y=>((y,y.lf),M.set n (xs.eraseIdx k)) else none
 | .rev,n,[],M=>(M[n]?).map fun xs=>((.v .non,true),M.set n xs.reverse)
 | .clr,n,[],M=>(M[n]?).map fun _=>((.v .non,true),M.set n [])
 | .rem,n,[.v (.int i)],M=>(M[n]?).bind fun xs=>if xs.length<=lim then ((qA1 xs).bind fun is=>is.findIdx? (·==i)).map fun k=>((.v .non,true),M.set n (xs.eraseIdx k)) else none
 | .cnt,n,[.v y],M=>(M[n]?).bind fun xs=>(qBG xs).map fun vs=>(iT (vs.countP fun z=>L2.eqV z y:Nat),M)
 | .ext,n,[t],M=>(M[n]?).bind fun xs=>(t.mu M).bind fun ys=>if t.isC n=false/\xs.length + ys.length<=lim then some ((.v .non,true),M.set n (xs++ys)) else none
 | _,_,_,_=>none
noncomputable def qBm (M:Mem):T -> Option String
 | .v .non=>some "NoneType"
 | .v (.bl _)=>some "bool"
 | .v (.int _)=>some "int"
 | .v (.str _)=>some "str"
 | .v _=>none
 | .tup _=>some "tuple"
 | .cell n=>(M[n]?).map fun _=>"list"
 | .ob (.dct _)=>some "dict"
 | .ob _=>none
 | _=>some "list"
noncomputable def qF2 (M:Mem) (x y:T):Option TB:=match y with
 | .v (.int i)=>(x.its M).bind fun xs=>(ixN xs.length i).bind fun j=>(xs[j]?).map fun t=>(t,t.lf)
 | _=>none
noncomputable def qLO:List Nat -> List T -> TS -> Option TS
 | [],[],σ=>some σ
 | i::is,x::xs,σ=>qLO is xs (σ.set i (some x))
 | _,_,_=>none
noncomputable def qBE:Tg -> T -> TS -> Option TS
 | .name i,t,σ=>some (σ.set i (some t))
 | .tup is,.tup ts,σ=>qLO is ts σ
 | .tup _,_,_=>none
noncomputable def qCX (src:List (Option Nat)) (σ:TS):TS:=src.map fun o=>match o with | none=>none | some j=>(σ[j]?).join
noncomputable def qAZ (lo:Int) (n:Nat):List T:=(List.range n).map fun (i:Nat)=>.v (.int (lo + (i:Int)))
noncomputable def qC0 (lo:Int) (n:Nat):List T:=(List.range n).map fun (i:Nat)=>.v (.int (lo - (i:Int)))
noncomputable def qEh (M:Mem):T -> Option (List T×qCc)
 | .lst ts=>some (ts,[])
 | .fz ts=>some (ts,[])
 | .tup ts=>some (ts,[])
 | .cell n=>(M[n]?).map fun ts=>(ts,[(n,ts)])
 | _=>none
noncomputable def qF5 (M:Mem):T -> Option (List T×qCc)
 | .lst ts=>some (ts,[])
 | .fz ts=>some (ts,[])
 | .cell n=>(M[n]?).map fun ts=>(ts,[(n,ts)])
 | _=>none
noncomputable def qCJ:Nat -> List T -> List T
 | _,[]=>[]
 | i,t::ts=>.tup [.v (.int (i:Int)),t]::qCJ (i + 1) ts
noncomputable def qAg (d:qCc) (g:Tg) (c:TS -> Mem -> PR (Bool×Mem)) (e:TS -> Mem -> PR (TB×Mem)):List T -> List T -> Bool -> TS -> Mem -> PR (TB×Mem)
 | [],ys,f,_,M=>.ok ((.lst ys,f),M)
 | x::r,ys,f,σ,M=>match qBE g x σ with
  | some σ1=>(c σ1 M).bind fun (b,M2)=>
   if b then (e σ1 M2).bind fun (y,M3)=>if ys.length < lim/\qAd d M3=true then qAg d g c e r (ys++[y.1]) (f&&y.2) σ1 M3 else .stuck
   else if qAd d M2=true then qAg d g c e r ys f σ1 M2 else .stuck
  | none=>.stuck
noncomputable def pB (r:PR (TB×Mem)):PR (Bool×Mem):=r.bind fun (x,M)=>match x.1 with | .v (.bl b)=>.ok (b,M) | _=>.stuck
section
variable (gl:List T) (P:Nat -> List T -> Mem -> PR (TB×Mem))
mutual
noncomputable def pe:E -> TS -> Mem -> PR (TB×Mem)
 | .var i=>fun σ M=>match σ[i]? with | some (some t)=>.ok ((t,t.lf),M) | _=>.stuck
 | .cst v=>fun _ M=>if qAq v then .ok ((.v v,true),M) else .stuck
 | .glob g=>fun _ M=>match gl[g]? with | some t=>.ok ((t,t.lf),M) | none=>.stuck
 | .bin op a b=>fun σ M=>(pe a σ M).bind fun (x,M1)=>(pe b σ M1).bind fun (y,M2)=>(PR.ofO (qAm M2 op x.1 y.1)).bind fun r=>.ok (r,M2)
 | .neg a=>fun σ M=>(pe a σ M).bind fun (x,M1)=>match x.1 with | .v (.int i)=>.ok (iT (-i),M1) | _=>.stuck
 | .cmp op a b=>fun σ M=>(pe a σ M).bind fun (x,M1)=>(pe b σ M1).bind fun (y,M2)=>(PR.ofO (qBF M2 op x.1 y.1)).bind fun r=>.ok (bT r,M2)
 | .cmp2 o1 o2 a b c=>fun σ M=>(pe a σ M).bind fun (x,M1)=>(pe b σ M1).bind fun (y,M2)=>(PR.ofO (qBF M2 o1 x.1 y.1)).bind fun r=>
  if r then (pe c σ M2).bind fun (z,M3)=>(PR.ofO (qBF M3 o2 y.1 z.1)).bind fun r=>.ok (bT r,M3) else .ok (bT false,M2)
 | .cmp3 o1 o2 o3 a b c d=>fun σ M=>(pe a σ M).bind fun (x,M1)=>(pe b σ M1).bind fun (y,M2)=>(PR.ofO (qBF M2 o1 x.1 y.1)).bind fun r=>
  if r then (pe c σ M2).bind fun (z,M3)=>(PR.ofO (qBF M3 o2 y.1 z.1)).bind fun r=>(if r then (pe d σ M3).bind fun (w,M4)=>(PR.ofO (qBF M4 o3 z.1 w.1)).bind fun r=>.ok (bT r,M4) else .ok (bT false,M3)) else .ok (bT false,M2)
 | .and a b=>fun σ M=>(pB (pe a σ M)).bind fun (x,M1)=>if x then pe b σ M1 else .ok (bT false,M1)
 | .or a b=>fun σ M=>(pB (pe a σ M)).bind fun (x,M1)=>if x then .ok (bT true,M1) else pe b σ M1
 | .not a=>fun σ M=>(pB (pe a σ M)).bind fun (x,M1)=>.ok (bT (!x),M1)
 | .ite c a b=>fun σ M=>(pB (pe c σ M)).bind fun (x,M1)=>if x then pe a σ M1 else pe b σ M1
 | .call f as=>fun σ M=>(pes as σ M).bind fun (xs,M1)=>(P f (xs.map (·.1)) M1).nx
 | .blt f as=>fun σ M=>(pes as σ M).bind fun (xs,M1)=>(PR.ofO (qCG M1 f (xs.map (·.1)))).bind fun r=>.ok (r,M1)
 | .isi a ts=>fun σ M=>(pe a σ M).bind fun (x,M1)=>(PR.ofO (qBm M1 x.1)).bind fun t=>.ok (bT (ts.any (qBw t)),M1)
 | .idx a b=>fun σ M=>(pe a σ M).bind fun (x,M1)=>(pe b σ M1).bind fun (y,M2)=>(PR.ofO (qF2 M2 x.1 y.1)).bind fun r=>.ok (r,M2)
 | .index a b=>fun σ M=>(pe a σ M).bind fun (x,M1)=>(PR.ofO (x.1.sel a.isGlob M1)).bind fun _=>(pe b σ M1).bind fun (y,M2)=>(PR.ofO (qGl a.isGlob M2 x.1 y.1)).bind fun r=>.ok (r,M2)
 | .rev a=>fun σ M=>(pe a σ M).bind fun (x,M1)=>(PR.ofO (x.1.lis M1)).bind fun xs=>.ok (lT xs.reverse,M1)
 | .sl a lo hi=>fun σ M=>(pe a σ M).bind fun (x,M1)=>(pes lo σ M1).bind fun (l,M2)=>(pes hi σ M2).bind fun (u,M3)=>
  (PR.ofO (x.1.its M3)).bind fun xs=>(PR.ofO (qA1 (l.map (·.1)))).bind fun l=>(PR.ofO (qA1 (u.map (·.1)))).bind fun u=>(PR.ofO (qJR x.1 xs l.head? u.head?)).bind fun r=>.ok (r,M3)
 | .lst as=>fun σ M=>(pes as σ M).bind fun (xs,M1)=>if xs.length<=lim then .ok ((.lst (xs.map (·.1)),xs.all (·.2)),M1) else .stuck
 | .tup as=>fun σ M=>(pes as σ M).bind fun (xs,M1)=>if xs.length<=lim then .ok ((.tup (xs.map (·.1)),xs.all (·.2)),M1) else .stuck
 | .comp it src g c e=>fun σ M=>(pei it σ M).bind fun (s,M1)=>qAg s.2 g (pec c) (pe e) s.1 [] true (qCX src σ) M1
 | .app a b=>fun σ M=>(pe a σ M).bind fun (x,M1)=>match x.1 with
  | .cell n=>(pe b σ M1).bind fun (y,M2)=>match M2[n]? with
   | some xs=>if xs.length < lim then .ok ((.v .non,true),M2.set n (xs++[y.1])) else .stuck
   | none=>.stuck
  | _=>.stuck
 | .nset a=>fun σ M=>(pe a σ M).bind fun (x,M1)=>match (x.1.lis M1).bind qA1 with | some is=>if is.length < 1000 then .ok ((.v (.int ((qIT is:Nat):Int)),true),M1) else .stuck | none=>.stuck
 | .lrng2 a b=>fun σ M=>(pe a σ M).bind fun (x,M1)=>(pe b σ M1).bind fun (y,M2)=>match x.1,y.1 with | .v (.int i),.v (.int j)=>if -1000000<=i/\-1000000<=j/\i<=100000/\j<=100000/\j - i<=100000 then .ok ((.lst (qAZ i (j - i).toNat),true),M2) else .stuck | _,_=>.stuck
 | .lrng a=>fun σ M=>(pe a σ M).bind fun (x,M1)=>match x.1 with | .v (.int j)=>if -1000000<=j/\j<=100000 then .ok ((.lst (qAZ 0 j.toNat),true),M1) else .stuck | _=>.stuck
 | .dnew=>fun _ M=>.ok ((.ob (.dct []),true),M)
 | .stp a e=>fun σ M=>(pe a σ M).bind fun (x,M1)=>(pe e σ M1).bind fun (y,M2)=>(match y.1 with | .v (.int i)=>(PR.ofO (x.1.lis M2)).bind fun xs=>if i=1 then .ok (lT xs,M2) else if i=-1 then .ok (lT xs.reverse,M2) else .stuck | _=>.stuck)
 | .meth m a as=>fun σ M=>(pe a σ M).bind fun (x,M1)=>match x.1 with
  | .cell n=>(pes as σ M1).bind fun (ys,M2)=>PR.ofO (qEG m n (ys.map (·.1)) M2)
  | _=>.stuck
noncomputable def pes:Es -> TS -> Mem -> PR (List TB×Mem)
 | .nil=>fun _ M=>.ok ([],M)
 | .cons a as=>fun σ M=>(pe a σ M).bind fun (x,M1)=>(pes as σ M1).bind fun (xs,M2)=>.ok (x::xs,M2)
noncomputable def pec:Es -> TS -> Mem -> PR (Bool×Mem)
 | .nil=>fun _ M=>.ok (true,M)
 | .cons a _=>fun σ M=>pB (pe a σ M)
noncomputable def pei:Itr -> TS -> Mem -> PR ((List T×qCc)×Mem)
 | .list a=>fun σ M=>(pe a σ M).bind fun (x,M1)=>(PR.ofO (qEh M1 x.1)).bind fun s=>.ok (s,M1)
 | .rng1 a=>fun σ M=>(pe a σ M).bind fun (x,M1)=>match x.1 with | .v (.int j)=>if -1000000<=j/\j<=1000000 then .ok ((qAZ 0 j.toNat,[]),M1) else .stuck | _=>.stuck
 | .rng2 a b=>fun σ M=>(pe a σ M).bind fun (x,M1)=>(pe b σ M1).bind fun (y,M2)=>match x.1,y.1 with
  | .v (.int i),.v (.int j)=>if (-1000000<=i/\i<=1000000)/\-1000000<=j/\j<=1000000 then .ok ((qAZ i (j - i).toNat,[]),M2) else .stuck
  | _,_=>.stuck
 | .zip a b=>fun σ M=>(pe a σ M).bind fun (x,M1)=>(pe b σ M1).bind fun (y,M2)=>(PR.ofO (qF5 M2 x.1)).bind fun s=>(PR.ofO (qF5 M2 y.1)).bind fun t=>
  .ok ((List.zipWith (fun a b=>T.tup [a,b]) s.1 t.1,s.2++t.2),M2)
 | .enum a=>fun σ M=>(pe a σ M).bind fun (x,M1)=>(PR.ofO (qF5 M1 x.1)).bind fun s=>.ok ((qCJ 0 s.1,s.2),M1)
 | .revd a=>fun σ M=>(pe a σ M).bind fun (x,M1)=>(PR.ofO (qF5 M1 x.1)).bind fun s=>.ok ((s.1.reverse,s.2),M1)
 | .rvr a=>fun σ M=>(pe a σ M).bind fun (x,M1)=>match x.1 with
  | .v (.int j)=>if 0<=j/\j<=1000000 then .ok ((qC0 (j - 1) j.toNat,[]),M1) else .stuck
  | _=>.stuck
 | .rng3 a b=>fun σ M=>(pe a σ M).bind fun (x,M1)=>(pe b σ M1).bind fun (y,M2)=>match x.1,y.1 with
  | .v (.int i),.v (.int j)=>if (-1000000<=i/\i<=1000000)/\-1000000<=j/\j<=1000000 then .ok ((qC0 i (i - j).toNat,[]),M2) else .stuck
  | _,_=>.stuck
end
inductive PO | nx (σ:TS) | rt (t:TB) | bk (σ:TS) | ct (σ:TS)
noncomputable abbrev RSt:=PR (PO×Mem)
noncomputable def qBP (d:qCc) (g:Tg) (b:TS -> Mem -> RSt):List T -> TS -> Mem -> RSt
 | [],σ,M=>.ok (.nx σ,M)
 | x::r,σ,M=>match qBE g x σ with
  | some σ1=>(b σ1 M).bind fun (o,M2)=>match o with
   | .nx σ2=>if qAd d M2=true then qBP d g b r σ2 M2 else .stuck
   | .ct σ2=>if qAd d M2=true then qBP d g b r σ2 M2 else .stuck
   | .bk σ2=>.ok (.nx σ2,M2)
   | .rt t=>.ok (.rt t,M2)
  | none=>.stuck
noncomputable def qCR (c:TS -> Mem -> PR (Bool×Mem)) (b:TS -> Mem -> RSt):Nat -> TS -> Mem -> RSt
 | 0,_,_=>.stuck
 | n + 1,σ,M=>(c σ M).bind fun (t,M1)=>if t then (b σ M1).bind fun (o,M2)=>match o with
   | .nx σ2=>qCR c b n σ2 M2
   | .ct σ2=>qCR c b n σ2 M2
   | .bk σ2=>.ok (.nx σ2,M2)
   | .rt t=>.ok (.rt t,M2)
  else .ok (.nx σ,M1)
noncomputable def qHH (d:qCc) (f x:Nat) (l:T):List T -> List (Int×V) -> TS -> Mem -> RSt
 | [],_,σ,M=>.ok (.nx σ,M)
 | t::r,ks,σ,M=>(P f [l,t] M).nx.bind fun (y,M2)=>match y.1 with
  | .v (.bl false)=>.ok (.rt (bT false),M2)
  | .v (.bl true)=>match t with
   | .tup [.v (.int p),.v (.int q)]=>if qAd d M2=true/\ks.length + 1 < lim then (if qG6 ks p||qG6 ks q then .ok (.rt (bT false),M2) else qHH d f x l r (qC9 (qC9 ks p (.bl true)) q (.bl true)) (σ.set x (some t)) M2) else .stuck
   | _=>.stuck
  | _=>.stuck
mutual
noncomputable def thaw (n:Nat):T -> T×Mem
 | .lst ts=>let r:=qB5 n ts;(.cell (n + r.2.length),r.2++[r.1])
 | .tup ts=>let r:=qB5 n ts;(.tup r.1,r.2)
 | t=>(t,[])
noncomputable def qB5 (n:Nat):List T -> List T×Mem
 | []=>([],[])
 | t::ts=>let r:=thaw n t;let q:=qB5 (n + r.2.length) ts;(r.1::q.1,r.2++q.2)
end
noncomputable def qLN:E -> Bool
 | .bin .add _ _=>true
 | .lst _=>true
 | _=>false
variable (C:List Nat)
mutual
noncomputable def px:S -> TS -> Mem -> RSt
 | .asg g e=>fun σ M=>(pe gl P e σ M).bind fun (x,M1)=>match g with
  | .name i=>if C.contains i&&x.2 then .ok (.nx (σ.set i (some (thaw M1.length x.1).1)),M1++(thaw M1.length x.1).2) else if C.contains (i + 1000)&&qLN e then (match x.1 with | .lst ts=>.ok (.nx (σ.set i (some (.cell M1.length))),M1++[ts]) | _=>.stuck) else .ok (.nx (σ.set i (some x.1)),M1)
  | g=>match qBE g x.1 σ with | some σ1=>.ok (.nx σ1,M1) | none=>.stuck
 | .par i j a b=>fun σ M=>(pe gl P a σ M).bind fun (x,M1)=>(pe gl P b σ M1).bind fun (y,M2)=>.ok (.nx ((σ.set i (some x.1)).set j (some y.1)),M2)
 | .put o i v=>fun σ M=>(pe gl P v σ M).bind fun (x,M1)=>(pe gl P o σ M1).bind fun (p,M2)=>(pe gl P i σ M2).bind fun (k,M3)=>match p.1,k.1 with
  | .cell n,.v (.int k)=>match M3[n]? with
   | some xs=>match ixN xs.length k with | some j=>.ok (.nx σ,M3.set n (xs.set j x.1)) | none=>.stuck
   | none=>.stuck
  | _,_=>.stuck
 | .expr e=>fun σ M=>(pe gl P e σ M).bind fun (_,M1)=>.ok (.nx σ,M1)
 | .ret e=>fun σ M=>(pe gl P e σ M).bind fun (x,M1)=>.ok (.rt x,M1)
 | .retN=>fun _ M=>.ok (.rt (.v .non,true),M)
 | .retc as e=>fun σ M=>(pes gl P as σ M).bind fun (xs,M1)=>(pe gl P e σ M1).bind fun (y,M2)=>if y.2=true/\xs.length < lim then .ok (.rt (.tup (xs.map (·.1)++[(thaw M2.length y.1).1]),false),M2++(thaw M2.length y.1).2) else .stuck
 | .ifs c t u=>fun σ M=>(pB (pe gl P c σ M)).bind fun (x,M1)=>if x then pxs t σ M1 else pxs u σ M1
 | .for_ g it b=>fun σ M=>(pei gl P it σ M).bind fun (s,M1)=>qBP s.2 g (pxs b) s.1 σ M1
 | .while_ c b=>fun σ M=>qCR (fun σ M=>pB (pe gl P c σ M)) (pxs b) qK6 σ M
 | .pass=>fun σ M=>.ok (.nx σ,M)
 | .brk=>fun σ M=>.ok (.bk σ,M)
 | .cont=>fun σ M=>.ok (.ct σ,M)
 | .stop=>fun _ _=>.stuck
 | .nloop u x f i a=>fun σ M=>if u=i\/x=i\/u=x\/σ.length<=u\/σ.length<=x then .stuck else (pei gl P (.list a) (σ.set u none) M).bind fun (s,M1)=>match σ[i]? with | some (some l)=>qHH P s.2 f x l s.1 [] (σ.set u none) M1 | _=>.stuck
noncomputable def pxs:Ss -> TS -> Mem -> RSt
 | .nil=>fun σ M=>.ok (.nx σ,M)
 | .cons s r=>fun σ M=>(px s σ M).bind fun (o,M1)=>match o with
  | .nx σ1=>pxs r σ1 M1
  | o=>.ok (o,M1)
end
end
noncomputable def qAP (M:Mem) (n0:Nat):Nat -> T -> Option T
 | 0,t=>if t.und n0 then some t else none
 | d + 1,t=>if t.und n0 then some t else match t with
  | .lst ts=>(ts.mapM (qAP M n0 d)).map .lst
  | .tup ts=>(ts.mapM (qAP M n0 d)).map .tup
  | .cell n=>(M[n]?).bind fun ts=>(ts.mapM (qAP M n0 d)).map .lst
  | _=>none
noncomputable def qB1 (M:Mem) (n0:Nat):Nat -> T -> Option (List Nat)
 | 0,t=>if t.lf then some [] else none
 | d + 1,t=>if t.lf then some [] else match t with
  | .tup ts=>(ts.mapM (qB1 M n0 d)).map List.flatten
  | .cell n=>if n0<=n then (M[n]?).bind fun ts=>(ts.mapM (qB1 M n0 d)).map fun l=>l.flatten++[n] else none
  | _=>none
noncomputable def frR (M:Mem) (n0:Nat) (t:T):Bool:=match qB1 M n0 6 t with | some l=>decide l.Nodup | none=>false
noncomputable def finish (n0:Nat) (x:TB) (M:Mem):PR (TB×Mem):=
 if M.length=n0 then .ok (x,M) else if (M.take n0).all (T.unds n0) then (PR.ofO (qAP M n0 6 x.1)).bind fun t=>.ok ((t,x.2||frR M n0 x.1),M.take n0) else .stuck
noncomputable def qEd (n0:Nat):RSt -> PR (TB×Mem)
 | .ok (.nx _,M1)=>finish n0 (.v .non,true) M1
 | .ok (.rt t,M1)=>finish n0 t M1
 | .ok (_,_)=>.stuck
 | .exc c M1=>if M1.length=n0 then .exc c M1 else if (M1.take n0).all (T.unds n0) then .exc c (M1.take n0) else .stuck
 | .stuck=>.stuck
noncomputable def Pk (gl:List T) (tb:List Fn) (Cs:List (List Nat)):Nat -> Nat -> List T -> Mem -> PR (TB×Mem)
 | 0,_,_,_=>.stuck
 | k + 1,f,vs,M=>match tb[f]? with
  | some d=>if vs.length=d.npar/\d.npar<=d.nslot then qEd M.length (pxs gl (Pk gl tb Cs k) (Cs.getD f []) d.body (vs.map some++List.replicate (d.nslot - d.npar) none) M)
   else .stuck
  | none=>.stuck
end PI
namespace PI
open L2 (V)
noncomputable def qBq {α β:Type} (R:α -> β -> Prop):List α -> List β -> Prop
 | [],vs=>vs=[]
 | t::ts,vs=>∃ v vs',vs=v::vs'/\R t v/\qBq R ts vs'
section
variable {α β:Type} {R:α -> β -> Prop}
theorem qAC:∀ {xs:List α} {ys:List β},qBq R xs ys -> xs.length=ys.length
 | [],_,h=>by cases h;rfl
 | x::xs,_,⟨v,vs,rfl,_,h⟩=>by simp [qAC h]
theorem qAh:∀ {xs:List α} {ys:List β} {i:Nat} {x:α},qBq R xs ys -> xs[i]?=some x -> ∃ y,ys[i]?=some y/\R x y
 | [],_,i,x,h,e=>by simp at e
 | x::xs,_,0,x',⟨v,vs,rfl,r,h⟩,e=>⟨v,rfl,by simp at e;subst e;exact r⟩
 | x::xs,_,i + 1,x',⟨v,vs,rfl,r,h⟩,e=>by
  obtain ⟨y,e1,r1⟩:=qAh (i:=i) h (by simpa using e)
  exact ⟨y,by simpa using e1,r1⟩
theorem qAr:∀ {xs:List α} {ys:List β} {xs':List α} {ys':List β},qBq R xs ys -> qBq R xs' ys' -> qBq R (xs++xs') (ys++ys')
 | [],_,_,_,h,k=>by cases h;exact k
 | x::xs,_,_,_,⟨v,vs,rfl,r,h⟩,k=>⟨v,vs++_,rfl,r,qAr h k⟩
theorem qBB:∀ (n:Nat) {xs:List α} {ys:List β},qBq R xs ys -> qBq R (xs.take n) (ys.take n)
 | 0,_,_,_=>by simp [qBq]
 | n + 1,[],_,h=>by cases h;simp [qBq]
 | n + 1,x::xs,_,⟨v,vs,rfl,r,h⟩=>⟨v,vs.take n,rfl,r,qBB n h⟩
theorem qCz:∀ (n:Nat) {xs:List α} {ys:List β},qBq R xs ys -> qBq R (xs.drop n) (ys.drop n)
 | 0,_,_,h=>h
 | n + 1,[],_,h=>by cases h;simp [qBq]
 | n + 1,x::xs,_,⟨v,vs,rfl,r,h⟩=>qCz n h
theorem qAx:∀ {xs:List α} {ys:List β} (j:Nat) {x:α} {y:β},qBq R xs ys -> R x y -> qBq R (xs.set j x) (ys.set j y)
 | [],_,j,_,_,h,r=>by cases h;simp [qBq]
 | x::xs,_,0,_,_,⟨v,vs,rfl,r0,h⟩,r=>⟨_,vs,rfl,r,h⟩
 | x::xs,_,j + 1,_,_,⟨v,vs,rfl,r0,h⟩,r=>⟨v,vs.set j _,rfl,r0,qAx j h r⟩
theorem qHb (n:Nat) {xs:List α} {ys:List β} (h:qBq R xs ys):qBq R (List.replicate n xs).flatten (List.replicate n ys).flatten:=by
 induction n with
 | zero=>simp [qBq]
 | succ n ih=>simp only [List.replicate_succ,List.flatten_cons];exact qAr h ih
theorem qD9 {S:α -> β -> Prop} (f:∀ x y,R x y -> S x y):∀ {xs:List α} {ys:List β},qBq R xs ys -> qBq S xs ys
 | [],_,h=>h
 | x::xs,_,⟨v,vs,rfl,r,h⟩=>⟨v,vs,rfl,f _ _ r,qD9 f h⟩
end
mutual
noncomputable def Rep (A X:List Nat) (h:AH):T -> V -> Prop
 | .v x,w=>w=x/\qAq x=true
 | .cell n,w=>∃ a:Nat,A[n]?=some a/\w=.ref a
 | .fz ts,w=>∃ a vs,w=.ref a/\a∉X/\h[a]?=some (.lst true vs)/\qAN A X h ts vs
 | .lst ts,w=>∃ a vs,w=.ref a/\a∉X/\h[a]?=some (.lst false vs)/\qAN A X h ts vs
 | .tup ts,w=>∃ a vs,w=.ref a/\a∉X/\h[a]?=some (.tup vs)/\qAN A X h ts vs
 | .ob o,w=>∃ a,w=.ref a/\a∉X/\h[a]?=some (.ob o)
noncomputable def qAN (A X:List Nat) (h:AH):List T -> List V -> Prop
 | [],vs=>vs=[]
 | t::ts,vs=>∃ v vs',vs=v::vs'/\Rep A X h t v/\qAN A X h ts vs'
end
theorem reps_iff {A X:List Nat} {h:AH}:∀ {ts:List T} {vs:List V},qAN A X h ts vs↔qBq (Rep A X h) ts vs
 | [],vs=>by unfold qAN qBq;rfl
 | t::ts,vs=>by
  unfold qAN qBq
  constructor
  ·rintro ⟨v,vs',e,r,k⟩;exact ⟨v,vs',e,r,reps_iff.mp k⟩
  ·rintro ⟨v,vs',e,r,k⟩;exact ⟨v,vs',e,r,reps_iff.mpr k⟩
mutual
noncomputable def FP (X:List Nat) (h:AH):T -> V -> List Nat -> Prop
 | .v x,w,fp=>(w=x/\qAq x=true)/\fp=[]
 | .lst ts,w,fp=>∃ a vs f,w=.ref a/\a∉X/\h[a]?=some (.lst false vs)/\FPs X h ts vs f/\fp=f++[a]
 | .tup ts,w,fp=>∃ a vs,w=.ref a/\a∉X/\h[a]?=some (.tup vs)/\FPs X h ts vs fp
 | .ob o,w,fp=>(∃ a,w=.ref a/\a∉X/\h[a]?=some (.ob o))/\fp=[]
 | .fz _,_,_=>False
 | .cell _,_,_=>False
noncomputable def FPs (X:List Nat) (h:AH):List T -> List V -> List Nat -> Prop
 | [],vs,fp=>vs=[]/\fp=[]
 | t::ts,vs,fp=>∃ v vs' f1 f2,vs=v::vs'/\FP X h t v f1/\FPs X h ts vs' f2/\fp=f1++f2
end
mutual
theorem qAj {A X A' X':List Nat} {h h':AH} (hc:∀ (n:Nat) a,A[n]?=some a -> A'[n]?=some a) (hn:∀ a o,a∉X -> h[a]?=some o -> a∉X'/\h'[a]?=some o):∀ (t:T) {w:V},Rep A X h t w -> Rep A' X' h' t w
 | .v x,w,r=>by unfold Rep at r ⊢;exact r
 | .cell n,w,r=>by unfold Rep at r ⊢;obtain ⟨a,e,q⟩:=r;exact ⟨a,hc _ _ e,q⟩
 | .fz ts,w,r=>by unfold Rep at r ⊢;obtain ⟨a,vs,e,q1,q2,q3⟩:=r;exact ⟨a,vs,e,(hn _ _ q1 q2).1,(hn _ _ q1 q2).2,qAQ hc hn ts q3⟩
 | .lst ts,w,r=>by unfold Rep at r ⊢;obtain ⟨a,vs,e,q1,q2,q3⟩:=r;exact ⟨a,vs,e,(hn _ _ q1 q2).1,(hn _ _ q1 q2).2,qAQ hc hn ts q3⟩
 | .tup ts,w,r=>by unfold Rep at r ⊢;obtain ⟨a,vs,e,q1,q2,q3⟩:=r;exact ⟨a,vs,e,(hn _ _ q1 q2).1,(hn _ _ q1 q2).2,qAQ hc hn ts q3⟩
 | .ob o,w,r=>by unfold Rep at r ⊢;obtain ⟨a,e,q1,q2⟩:=r;exact ⟨a,e,(hn _ _ q1 q2).1,(hn _ _ q1 q2).2⟩
theorem qAQ {A X A' X':List Nat} {h h':AH} (hc:∀ (n:Nat) a,A[n]?=some a -> A'[n]?=some a) (hn:∀ a o,a∉X -> h[a]?=some o -> a∉X'/\h'[a]?=some o):∀ (ts:List T) {ws:List V},qAN A X h ts ws -> qAN A' X' h' ts ws
 | [],w,r=>by unfold qAN at r ⊢;exact r
 | t::ts,w,r=>by unfold qAN at r ⊢;obtain ⟨v,vs,e,q1,q2⟩:=r;exact ⟨v,vs,e,qAj hc hn t q1,qAQ hc hn ts q2⟩
end
mutual
theorem qCn {X X':List Nat} {h h':AH} (hn:∀ a o,a∉X -> h[a]?=some o -> a∉X'/\h'[a]?=some o):∀ (t:T) {w:V} {fp:List Nat},FP X h t w fp -> FP X' h' t w fp
 | .v x,w,_,r=>by unfold FP at r ⊢;exact r
 | .cell n,w,_,r=>by unfold FP at r;exact r.elim
 | .fz ts,w,_,r=>by unfold FP at r;exact r.elim
 | .lst ts,w,_,r=>by unfold FP at r ⊢;obtain ⟨a,vs,f,e,q1,q2,q3,q4⟩:=r;exact ⟨a,vs,f,e,(hn _ _ q1 q2).1,(hn _ _ q1 q2).2,qBL hn ts q3,q4⟩
 | .tup ts,w,_,r=>by unfold FP at r ⊢;obtain ⟨a,vs,e,q1,q2,q3⟩:=r;exact ⟨a,vs,e,(hn _ _ q1 q2).1,(hn _ _ q1 q2).2,qBL hn ts q3⟩
 | .ob o,w,_,r=>by unfold FP at r ⊢;obtain ⟨⟨a,e,q1,q2⟩,q3⟩:=r;exact ⟨⟨a,e,(hn _ _ q1 q2).1,(hn _ _ q1 q2).2⟩,q3⟩
theorem qBL {X X':List Nat} {h h':AH} (hn:∀ a o,a∉X -> h[a]?=some o -> a∉X'/\h'[a]?=some o):∀ (ts:List T) {ws:List V} {fp:List Nat},FPs X h ts ws fp -> FPs X' h' ts ws fp
 | [],w,_,r=>by unfold FPs at r ⊢;exact r
 | t::ts,w,_,r=>by unfold FPs at r ⊢;obtain ⟨v,vs,f1,f2,e,q1,q2,q3⟩:=r;exact ⟨v,vs,f1,f2,e,qCn hn t q1,qBL hn ts q2,q3⟩
end
mutual
theorem qKR {A X:List Nat} {h:AH}:∀ (t:T) {w:V} {fp:List Nat},FP X h t w fp -> Rep A X h t w
 | .v x,w,_,r=>by unfold FP at r;unfold Rep;exact r.1
 | .cell n,w,_,r=>by unfold FP at r;exact r.elim
 | .fz ts,w,_,r=>by unfold FP at r;exact r.elim
 | .lst ts,w,_,r=>by unfold FP at r;unfold Rep;obtain ⟨a,vs,f,e,q1,q2,q3,q4⟩:=r;exact ⟨a,vs,e,q1,q2,qEv ts q3⟩
 | .tup ts,w,_,r=>by unfold FP at r;unfold Rep;obtain ⟨a,vs,e,q1,q2,q3⟩:=r;exact ⟨a,vs,e,q1,q2,qEv ts q3⟩
 | .ob o,w,_,r=>by unfold FP at r;unfold Rep;exact r.1
theorem qEv {A X:List Nat} {h:AH}:∀ (ts:List T) {ws:List V} {fp:List Nat},FPs X h ts ws fp -> qAN A X h ts ws
 | [],w,_,r=>by unfold FPs at r;unfold qAN;exact r.1
 | t::ts,w,_,r=>by unfold FPs at r;unfold qAN;obtain ⟨v,vs,f1,f2,e,q1,q2,q3⟩:=r;exact ⟨v,vs,e,qKR t q1,qEv ts q2⟩
end
mutual
theorem qIf {X:List Nat} {h:AH} (n:Nat):∀ (t:T) {w:V} {fp:List Nat},FP X h t w fp -> t.und n=true
 | .v x,w,_,r=>rfl
 | .cell n,w,_,r=>by unfold FP at r;exact r.elim
 | .fz ts,w,_,r=>by unfold FP at r;exact r.elim
 | .lst ts,w,_,r=>by unfold FP at r;obtain ⟨a,vs,f,e,q1,q2,q3,q4⟩:=r;exact qEm n ts q3
 | .tup ts,w,_,r=>by unfold FP at r;obtain ⟨a,vs,e,q1,q2,q3⟩:=r;exact qEm n ts q3
 | .ob o,w,_,r=>rfl
theorem qEm {X:List Nat} {h:AH} (n:Nat):∀ (ts:List T) {ws:List V} {fp:List Nat},FPs X h ts ws fp -> T.unds n ts=true
 | [],w,_,r=>rfl
 | t::ts,w,_,r=>by unfold FPs at r;obtain ⟨v,vs,f1,f2,e,q1,q2,q3⟩:=r;unfold T.unds;rw [qIf n t q1,qEm n ts q2];rfl
end
mutual
theorem qFh {X:List Nat} {h:AH}:∀ (t:T) {w:V} {fp:List Nat},FP X h t w fp -> ∀ a∈fp,a∉X/\∃ vs,h[a]?=some (.lst false vs)
 | .v x,w,_,r=>by unfold FP at r;obtain ⟨_,rfl⟩:=r;intro a ha;simp at ha
 | .cell n,w,_,r=>by unfold FP at r;exact r.elim
 | .fz ts,w,_,r=>by unfold FP at r;exact r.elim
 | .lst ts,w,_,r=>by
  unfold FP at r;obtain ⟨a,vs,f,e,q1,q2,q3,rfl⟩:=r
  intro b hb
  rcases List.mem_append.mp hb with hb | hb
  ·exact qCS ts q3 b hb
  ·simp at hb;subst hb;exact ⟨q1,vs,q2⟩
 | .tup ts,w,_,r=>by unfold FP at r;obtain ⟨a,vs,e,q1,q2,q3⟩:=r;exact qCS ts q3
 | .ob o,w,_,r=>by unfold FP at r;obtain ⟨_,rfl⟩:=r;intro a ha;simp at ha
theorem qCS {X:List Nat} {h:AH}:∀ (ts:List T) {ws:List V} {fp:List Nat},FPs X h ts ws fp -> ∀ a∈fp,a∉X/\∃ vs,h[a]?=some (.lst false vs)
 | [],w,_,r=>by unfold FPs at r;obtain ⟨_,rfl⟩:=r;intro a ha;simp at ha
 | t::ts,w,_,r=>by
  unfold FPs at r;obtain ⟨v,vs,f1,f2,e,q1,q2,rfl⟩:=r
  intro b hb
  rcases List.mem_append.mp hb with hb | hb
  ·exact qFh t q1 b hb
  ·exact qCS ts q2 b hb
end
mutual
theorem qI5 {A X:List Nat} {h:AH}:∀ (t:T) {w:V},Rep A X h t w -> t.lf=true -> FP X h t w []
 | .v x,w,r,l=>by unfold Rep at r;unfold FP;exact ⟨r,rfl⟩
 | .cell n,w,r,l=>by unfold T.lf at l;cases l
 | .fz ts,w,r,l=>by unfold T.lf at l;cases l
 | .lst ts,w,r,l=>by unfold T.lf at l;cases l
 | .tup ts,w,r,l=>by unfold Rep at r;unfold FP;obtain ⟨a,vs,e,q1,q2,q3⟩:=r;exact ⟨a,vs,e,q1,q2,qGQ ts q3 (by unfold T.lf at l;exact l)⟩
 | .ob o,w,r,l=>by unfold Rep at r;unfold FP;exact ⟨r,rfl⟩
theorem qGQ {A X:List Nat} {h:AH}:∀ (ts:List T) {ws:List V},qAN A X h ts ws -> T.lfs ts=true -> FPs X h ts ws []
 | [],w,r,l=>by unfold qAN at r;unfold FPs;exact ⟨r,rfl⟩
 | t::ts,w,r,l=>by
  unfold qAN at r;unfold FPs;obtain ⟨v,vs,e,q1,q2⟩:=r
  unfold T.lfs at l;simp only [Bool.and_eq_true] at l
  exact ⟨v,vs,[],[],e,qI5 t q1 l.1,qGQ ts q2 l.2,rfl⟩
end
mutual
theorem qGI {A X A1 X1:List Nat} {h:AH} {n0:Nat} (hc:∀ n,n < n0 -> A1[n]?=A[n]?) (hX:∀ a∈X,a∈X1):∀ (t:T) {w:V},Rep A1 X1 h t w -> t.und n0=true -> Rep A X h t w
 | .v x,w,r,u=>by unfold Rep at r ⊢;exact r
 | .cell n,w,r,u=>by
  unfold Rep at r ⊢;obtain ⟨a,e,q⟩:=r
  unfold T.und at u
  exact ⟨a,(hc n (by simpa using u)).symm.trans e,q⟩
 | .fz ts,w,r,u=>by unfold Rep at r ⊢;obtain ⟨a,vs,e,q1,q2,q3⟩:=r;exact ⟨a,vs,e,fun z=>q1 (hX _ z),q2,qB6 hc hX ts q3 (by unfold T.und at u;exact u)⟩
 | .lst ts,w,r,u=>by unfold Rep at r ⊢;obtain ⟨a,vs,e,q1,q2,q3⟩:=r;exact ⟨a,vs,e,fun z=>q1 (hX _ z),q2,qB6 hc hX ts q3 (by unfold T.und at u;exact u)⟩
 | .tup ts,w,r,u=>by unfold Rep at r ⊢;obtain ⟨a,vs,e,q1,q2,q3⟩:=r;exact ⟨a,vs,e,fun z=>q1 (hX _ z),q2,qB6 hc hX ts q3 (by unfold T.und at u;exact u)⟩
 | .ob o,w,r,u=>by unfold Rep at r ⊢;obtain ⟨a,e,q1,q2⟩:=r;exact ⟨a,e,fun z=>q1 (hX _ z),q2⟩
theorem qB6 {A X A1 X1:List Nat} {h:AH} {n0:Nat} (hc:∀ n,n < n0 -> A1[n]?=A[n]?) (hX:∀ a∈X,a∈X1):∀ (ts:List T) {ws:List V},qAN A1 X1 h ts ws -> T.unds n0 ts=true -> qAN A X h ts ws
 | [],w,r,u=>by unfold qAN at r ⊢;exact r
 | t::ts,w,r,u=>by
  unfold qAN at r ⊢;obtain ⟨v,vs,e,q1,q2⟩:=r
  unfold T.unds at u;simp only [Bool.and_eq_true] at u
  exact ⟨v,vs,e,qGI hc hX t q1 u.1,qB6 hc hX ts q2 u.2⟩
end
theorem qBI {x:V} {a:Nat} (h:qAq x=true) (e:V.ref a=x):False:=by subst e;cases h
mutual
theorem qGO {A X:List Nat} {h:AH} (nd:A.Nodup) (hs:∀ a∈A,a∈X):∀ (s t:T) {w:V},Rep A X h s w -> Rep A X h t w -> s=t
 | .v x,t,w,r,q=>by
  unfold Rep at r;obtain ⟨rfl,f⟩:=r
  cases t with
  | v y=>unfold Rep at q;obtain ⟨rfl,_⟩:=q;rfl
  | cell n=>unfold Rep at q;obtain ⟨a,_,e⟩:=q;subst e;cases f
  | fz ts=>unfold Rep at q;obtain ⟨a,vs,e,_⟩:=q;subst e;cases f
  | lst ts=>unfold Rep at q;obtain ⟨a,vs,e,_⟩:=q;subst e;cases f
  | tup ts=>unfold Rep at q;obtain ⟨a,vs,e,_⟩:=q;subst e;cases f
  | ob o=>unfold Rep at q;obtain ⟨a,e,_⟩:=q;subst e;cases f
 | .cell n,t,w,r,q=>by
  unfold Rep at r;obtain ⟨a,ea,rfl⟩:=r
  have am:a∈X:=hs _ (List.mem_of_getElem? ea)
  cases t with
  | v y=>unfold Rep at q;obtain ⟨e,f⟩:=q;exact (qBI f e).elim
  | cell m=>
   unfold Rep at q;obtain ⟨b,eb,e⟩:=q;cases e
   have:n=m:=(List.getElem?_inj (by exact (List.getElem?_eq_some_iff.mp ea).1) nd).mp (ea.trans eb.symm)
   rw [this]
  | fz ts=>unfold Rep at q;obtain ⟨b,vs,e,k,_⟩:=q;cases e;exact (k am).elim
  | lst ts=>unfold Rep at q;obtain ⟨b,vs,e,k,_⟩:=q;cases e;exact (k am).elim
  | tup ts=>unfold Rep at q;obtain ⟨b,vs,e,k,_⟩:=q;cases e;exact (k am).elim
  | ob o=>unfold Rep at q;obtain ⟨b,e,k,_⟩:=q;cases e;exact (k am).elim
 | .fz ss,t,w,r,q=>by
  unfold Rep at r;obtain ⟨a,vs,rfl,k1,k2,k3⟩:=r
  cases t with
  | v y=>unfold Rep at q;obtain ⟨e,f⟩:=q;exact (qBI f e).elim
  | cell m=>unfold Rep at q;obtain ⟨b,eb,e⟩:=q;cases e;exact (k1 (hs _ (List.mem_of_getElem? eb))).elim
  | fz ts=>unfold Rep at q;obtain ⟨b,vs',e,z1,z2,z3⟩:=q;cases e;rw [k2] at z2;cases z2;rw [qCj nd hs ss ts k3 z3]
  | lst ts=>unfold Rep at q;obtain ⟨b,vs',e,z1,z2,z3⟩:=q;cases e;rw [k2] at z2;cases z2
  | tup ts=>unfold Rep at q;obtain ⟨b,vs',e,z1,z2,z3⟩:=q;cases e;rw [k2] at z2;cases z2
  | ob o=>unfold Rep at q;obtain ⟨b,e,z1,z2⟩:=q;cases e;rw [k2] at z2;cases z2
 | .lst ss,t,w,r,q=>by
  unfold Rep at r;obtain ⟨a,vs,rfl,k1,k2,k3⟩:=r
  cases t with
  | v y=>unfold Rep at q;obtain ⟨e,f⟩:=q;exact (qBI f e).elim
  | cell m=>unfold Rep at q;obtain ⟨b,eb,e⟩:=q;cases e;exact (k1 (hs _ (List.mem_of_getElem? eb))).elim
  | lst ts=>unfold Rep at q;obtain ⟨b,vs',e,z1,z2,z3⟩:=q;cases e;rw [k2] at z2;cases z2;rw [qCj nd hs ss ts k3 z3]
  | fz ts=>unfold Rep at q;obtain ⟨b,vs',e,z1,z2,z3⟩:=q;cases e;rw [k2] at z2;cases z2
  | tup ts=>unfold Rep at q;obtain ⟨b,vs',e,z1,z2,z3⟩:=q;cases e;rw [k2] at z2;cases z2
  | ob o=>unfold Rep at q;obtain ⟨b,e,z1,z2⟩:=q;cases e;rw [k2] at z2;cases z2
 | .tup ss,t,w,r,q=>by
  unfold Rep at r;obtain ⟨a,vs,rfl,k1,k2,k3⟩:=r
  cases t with
  | v y=>unfold Rep at q;obtain ⟨e,f⟩:=q;exact (qBI f e).elim
  | cell m=>unfold Rep at q;obtain ⟨b,eb,e⟩:=q;cases e;exact (k1 (hs _ (List.mem_of_getElem? eb))).elim
  | tup ts=>unfold Rep at q;obtain ⟨b,vs',e,z1,z2,z3⟩:=q;cases e;rw [k2] at z2;cases z2;rw [qCj nd hs ss ts k3 z3]
  | fz ts=>unfold Rep at q;obtain ⟨b,vs',e,z1,z2,z3⟩:=q;cases e;rw [k2] at z2;cases z2
  | lst ts=>unfold Rep at q;obtain ⟨b,vs',e,z1,z2,z3⟩:=q;cases e;rw [k2] at z2;cases z2
  | ob o=>unfold Rep at q;obtain ⟨b,e,z1,z2⟩:=q;cases e;rw [k2] at z2;cases z2
 | .ob o,t,w,r,q=>by
  unfold Rep at r;obtain ⟨a,rfl,k1,k2⟩:=r
  cases t with
  | v y=>unfold Rep at q;obtain ⟨e,f⟩:=q;exact (qBI f e).elim
  | cell m=>unfold Rep at q;obtain ⟨b,eb,e⟩:=q;cases e;exact (k1 (hs _ (List.mem_of_getElem? eb))).elim
  | fz ts=>unfold Rep at q;obtain ⟨b,vs',e,z1,z2,z3⟩:=q;cases e;rw [k2] at z2;cases z2
  | lst ts=>unfold Rep at q;obtain ⟨b,vs',e,z1,z2,z3⟩:=q;cases e;rw [k2] at z2;cases z2
  | tup ts=>unfold Rep at q;obtain ⟨b,vs',e,z1,z2,z3⟩:=q;cases e;rw [k2] at z2;cases z2
  | ob o'=>unfold Rep at q;obtain ⟨b,e,z1,z2⟩:=q;cases e;rw [k2] at z2;cases z2;rfl
theorem qCj {A X:List Nat} {h:AH} (nd:A.Nodup) (hs:∀ a∈A,a∈X):∀ (ss ts:List T) {ws:List V},qAN A X h ss ws -> qAN A X h ts ws -> ss=ts
 | [],[],w,r,q=>rfl
 | [],t::ts,w,r,q=>by unfold qAN at r q;obtain ⟨v,vs,e,_⟩:=q;subst r;cases e
 | s::ss,[],w,r,q=>by unfold qAN at r q;obtain ⟨v,vs,e,_⟩:=r;subst q;cases e
 | s::ss,t::ts,w,r,q=>by
  unfold qAN at r q;obtain ⟨v,vs,rfl,k1,k2⟩:=r;obtain ⟨v',vs',e,z1,z2⟩:=q
  cases e
  rw [qGO nd hs s t k1 z1,qCj nd hs ss ts k2 z2]
end
mutual
theorem qLm:∀ (s t:T),T.beq s t=true -> s=t
 | .v x,.v y,h=>by unfold T.beq at h;simp at h;rw [h]
 | .cell x,.cell y,h=>by unfold T.beq at h;simp at h;rw [h]
 | .fz x,.fz y,h=>by unfold T.beq at h;rw [qCH x y h]
 | .lst x,.lst y,h=>by unfold T.beq at h;rw [qCH x y h]
 | .tup x,.tup y,h=>by unfold T.beq at h;rw [qCH x y h]
 | .ob x,.ob y,h=>by unfold T.beq at h;simp at h;rw [h]
 | .ob _,.v _,h | .ob _,.cell _,h | .ob _,.fz _,h | .ob _,.lst _,h | .ob _,.tup _,h=>by simp [T.beq] at h
 | .v _,.ob _,h | .cell _,.ob _,h | .fz _,.ob _,h | .lst _,.ob _,h | .tup _,.ob _,h=>by simp [T.beq] at h
 | .v _,.cell _,h | .v _,.fz _,h | .v _,.lst _,h | .v _,.tup _,h=>by simp [T.beq] at h
 | .cell _,.v _,h | .cell _,.fz _,h | .cell _,.lst _,h | .cell _,.tup _,h=>by simp [T.beq] at h
 | .fz _,.v _,h | .fz _,.cell _,h | .fz _,.lst _,h | .fz _,.tup _,h=>by simp [T.beq] at h
 | .lst _,.v _,h | .lst _,.cell _,h | .lst _,.fz _,h | .lst _,.tup _,h=>by simp [T.beq] at h
 | .tup _,.v _,h | .tup _,.cell _,h | .tup _,.fz _,h | .tup _,.lst _,h=>by simp [T.beq] at h
theorem qCH:∀ (ss ts:List T),T.beqs ss ts=true -> ss=ts
 | [],[],h=>rfl
 | [],_::_,h=>by simp [T.beqs] at h
 | _::_,[],h=>by simp [T.beqs] at h
 | s::ss,t::ts,h=>by unfold T.beqs at h;simp only [Bool.and_eq_true] at h;rw [qLm s t h.1,qCH ss ts h.2]
end
noncomputable def Frm (A:List Nat) (h h':AH):Prop:=h.length<=h'.length/\∀ j,j < h.length -> j∉A -> h'[j]?=h[j]?
theorem Frm.refl (A:List Nat) (h:AH):Frm A h h:=⟨Nat.le_refl _,fun _ _ _=>rfl⟩
theorem Frm.trans {A:List Nat} {a b c:AH} (x:Frm A a b) (y:Frm A b c):Frm A a c:=⟨Nat.le_trans x.1 y.1,fun j hj hA=>(y.2 j (Nat.lt_of_lt_of_le hj x.1) hA).trans (x.2 j hj hA)⟩
theorem Frm.trans2 {A B:List Nat} {a b c:AH} (x:Frm A a b) (hB:∀ k∈B,a.length<=k) (y:Frm (A++B) b c):Frm A a c:=
 ⟨Nat.le_trans x.1 y.1,fun j hj hA=>(y.2 j (Nat.lt_of_lt_of_le hj x.1) (by rw [List.mem_append];rintro (z | z);exact hA z;have:=hB _ z;omega)).trans (x.2 j hj hA)⟩
theorem Frm.app (A:List Nat) (h e:AH):Frm A h (h++e):=⟨by simp,fun j hj _=>by rw [List.getElem?_append_left hj]⟩
theorem Frm.set {A:List Nat} {h h':AH} (f:Frm A h h') {a:Nat} (ha:a∈A\/h.length<=a) (o:O):Frm A h (h'.set a o):=⟨by simpa using f.1,fun j hj hA=>by
 rw [List.getElem?_set_ne (by rintro rfl;rcases ha with z | z;exact hA z;omega)];exact f.2 j hj hA⟩
theorem qAK {h:AH} {a:Nat} {o:O} (e:h[a]?=some o):a < h.length:=(List.getElem?_eq_some_iff.mp e).1
structure RelM (gl:List T) (A X:List Nat) (h:AH) (M:Mem):Prop where
 len:A.length=M.length
 nd:A.Nodup
 sub:∀ a∈A,a∈X
 lt:∀ a∈X,a < h.length
 at_:∀ (n:Nat) a,A[n]?=some a -> ∃ ts vs,M[n]?=some ts/\h[a]?=some (.lst false vs)/\qAN A X h ts vs
 glo:∀ (g:Nat) t,gl[g]?=some t -> Rep A X h t (.ref g)
section
variable {gl:List T} {A X:List Nat} {h h':AH} {M:Mem}
theorem RelM.keepN (R:RelM gl A X h M) (f:Frm A h h'):∀ a o,a∉X -> h[a]?=some o -> a∉X/\h'[a]?=some o:=fun a o hx e=>⟨hx,(f.2 a (qAK e) fun z=>hx (R.sub _ z)).trans e⟩
theorem RelM.keep (R:RelM gl A X h M) (f:Frm A h h') {t:T} {w:V} (r:Rep A X h t w):Rep A X h' t w:=qAj (fun _ _ e=>e) (R.keepN f) t r
theorem RelM.keeps (R:RelM gl A X h M) (f:Frm A h h') {t:List T} {w:List V} (r:qAN A X h t w):qAN A X h' t w:=qAQ (fun _ _ e=>e) (R.keepN f) t r
theorem RelM.up (R:RelM gl A X h M) (e:AH):RelM gl A X (h++e) M:=by
 have f:Frm A h (h++e):=Frm.app A h e
 refine ⟨R.len,R.nd,R.sub,fun a ha=>Nat.lt_of_lt_of_le (R.lt a ha) f.1,fun n a ea=>?_,fun g t eg=>R.keep f (R.glo g t eg)⟩
 obtain ⟨ts,vs,e1,e2,e3⟩:=R.at_ n a ea
 exact ⟨ts,vs,e1,by rw [List.getElem?_append_left (qAK e2)];exact e2,R.keeps f e3⟩
theorem RelM.put (R:RelM gl A X h M) {n a:Nat} (ea:A[n]?=some a) {ts:List T} {vs:List V} (r:qAN A X h ts vs):RelM gl A X (h.set a (.lst false vs)) (M.set n ts)/\Frm A h (h.set a (.lst false vs)):=by
 have am:a∈A:=List.mem_of_getElem? ea
 have f:Frm A h (h.set a (.lst false vs)):=(Frm.refl A h).set (.inl am) _
 have al:a < h.length:=R.lt a (R.sub a am)
 refine ⟨⟨by simpa using R.len,R.nd,R.sub,fun b hb=>by simpa using R.lt b hb,fun m b eb=>?_,fun g t eg=>R.keep f (R.glo g t eg)⟩,f⟩
 by_cases hm:n=m
 ·subst hm
  rw [ea] at eb;cases eb
  have nl:n < M.length:=by rw [<- R.len];exact (List.getElem?_eq_some_iff.mp ea).1
  exact ⟨ts,vs,by rw [List.getElem?_set_self nl],by rw [List.getElem?_set_self al],R.keeps f r⟩
 ·obtain ⟨ts',vs',e1,e2,e3⟩:=R.at_ m b eb
  have hab:a≠b:=by
   rintro rfl
   exact hm ((List.getElem?_inj (List.getElem?_eq_some_iff.mp ea).1 R.nd).mp (ea.trans eb.symm))
  exact ⟨ts',vs',by rw [List.getElem?_set_ne hm];exact e1,by rw [List.getElem?_set_ne hab];exact e2,R.keeps f e3⟩
end
noncomputable def Frs (gl:List T) (A X:List Nat) (n:Nat) (h:AH) (M:Mem) (t:T) (w:V):Prop:=∃ fp,FP X h t w fp/\fp.Nodup/\(∀ a∈fp,n<=a)/\RelM gl A (X++fp) h M
noncomputable def Frss (gl:List T) (A X:List Nat) (n:Nat) (h:AH) (M:Mem) (t:List T) (w:List V):Prop:=∃ fp,FPs X h t w fp/\fp.Nodup/\(∀ a∈fp,n<=a)/\RelM gl A (X++fp) h M
theorem Frs.of_lf {gl:List T} {A X:List Nat} {n:Nat} {h:AH} {M:Mem} {t:T} {w:V} (R:RelM gl A X h M) (r:Rep A X h t w) (l:t.lf=true):Frs gl A X n h M t w:=⟨[],qI5 t r l,List.nodup_nil,fun a ha=>by simp at ha,by rw [List.append_nil];exact R⟩
theorem Frss.of_lf {gl:List T} {A X:List Nat} {n:Nat} {h:AH} {M:Mem} {t:List T} {w:List V} (R:RelM gl A X h M) (r:qAN A X h t w) (l:T.lfs t=true):Frss gl A X n h M t w:=⟨[],qGQ t r l,List.nodup_nil,fun a ha=>by simp at ha,by rw [List.append_nil];exact R⟩
noncomputable def Sim {α β:Type} (gl:List T) (A X:List Nat) (h:AH) (Q:α -> β -> AH -> Mem -> Prop):PR (α×Mem) -> Res (β×AH) -> Prop
 | .ok (x,M'),r=>∃ y h',r=.ok (y,h')/\Frm A h h'/\RelM gl A X h' M'/\Q x y h' M'
 | .exc c M',r=>∃ h',r=.exc c h'/\Frm A h h'/\RelM gl A X h' M'
 | .stuck,_=>True
theorem Sim.bind {α β α2 β2:Type} {gl:List T} {A X:List Nat} {h:AH} {Q:α -> β -> AH -> Mem -> Prop} {Q2:α2 -> β2 -> AH -> Mem -> Prop} {r:PR (α×Mem)} {rh:Res (β×AH)} {f:α×Mem -> PR (α2×Mem)} {g:β×AH -> Res (β2×AH)}
  (s:Sim gl A X h Q r rh) (k:∀ x M' y h',Frm A h h' -> RelM gl A X h' M' -> Q x y h' M' -> Sim gl A X h' Q2 (f (x,M')) (g (y,h'))):Sim gl A X h Q2 (r.bind f) (rh.bind g):=by
 cases r with
 | ok p=>
  obtain ⟨x,M'⟩:=p
  obtain ⟨y,h',rfl,f1,R1,q⟩:=s
  have:=k x M' y h' f1 R1 q
  rw [PR.bind_ok,Res.bind_ok]
  revert this
  generalize f (x,M')=r2
  generalize g (y,h')=rh2
  intro s2
  cases r2 with
  | ok p2=>
   obtain ⟨x2,M2⟩:=p2
   obtain ⟨y2,h2,e2,f2,R2,q2⟩:=s2
   exact ⟨y2,h2,e2,f1.trans f2,R2,q2⟩
  | exc c M2=>
   obtain ⟨h2,e2,f2,R2⟩:=s2
   exact ⟨h2,e2,f1.trans f2,R2⟩
  | stuck=>trivial
 | exc c M'=>
  obtain ⟨h',rfl,f1,R1⟩:=s
  exact ⟨h',rfl,f1,R1⟩
 | stuck=>trivial
theorem Sim.nx {α β:Type} {gl:List T} {A X:List Nat} {h:AH} {Q:α -> β -> AH -> Mem -> Prop} {r:PR (α×Mem)} {rh:Res (β×AH)} (s:Sim gl A X h Q r rh):Sim gl A X h Q r.nx rh.nx:=by
 cases r with
 | ok p=>obtain ⟨x,M'⟩:=p;obtain ⟨y,h',rfl,a,b,c⟩:=s;exact ⟨y,h',rfl,a,b,c⟩
 | exc c M'=>trivial
 | stuck=>trivial
theorem Sim.stuck {α β:Type} {gl:List T} {A X:List Nat} {h:AH} {Q:α -> β -> AH -> Mem -> Prop} {r:Res (β×AH)}:Sim gl A X h Q (.stuck:PR (α×Mem)) r:=trivial
theorem Sim.ofO {α β α2:Type} {gl:List T} {A X:List Nat} {h:AH} {Q:α -> β -> AH -> Mem -> Prop} {o:Option α2} {f:α2 -> PR (α×Mem)} {r:Res (β×AH)} (k:∀ x,o=some x -> Sim gl A X h Q (f x) r):Sim gl A X h Q ((PR.ofO o).bind f) r:=by
 cases o with
 | none=>trivial
 | some x=>exact k x rfl
noncomputable def QE (gl:List T) (A X:List Nat) (n:Nat):TB -> V -> AH -> Mem -> Prop:=fun x w h M=>Rep A X h x.1 w/\(x.2=true -> Frs gl A X n h M x.1 w)
noncomputable def QEs (gl:List T) (A X:List Nat) (n:Nat):List TB -> List V -> AH -> Mem -> Prop:=fun x w h M=>qAN A X h (x.map (·.1)) w/\(x.all (·.2)=true -> Frss gl A X n h M (x.map (·.1)) w)
theorem QE.le {gl:List T} {A X:List Nat} {n m:Nat} {x:TB} {w:V} {h:AH} {M:Mem} (q:QE gl A X n x w h M) (l:m<=n):QE gl A X m x w h M:=⟨q.1,fun e=>by obtain ⟨fp,a,b,c,d⟩:=q.2 e;exact ⟨fp,a,b,fun z hz=>Nat.le_trans l (c z hz),d⟩⟩
theorem Sim.le {gl:List T} {A X:List Nat} {h:AH} {n m:Nat} {r:PR (TB×Mem)} {rh:RV} (s:Sim gl A X h (QE gl A X n) r rh) (l:m<=n):Sim gl A X h (QE gl A X m) r rh:=by
 cases r with
 | ok p=>obtain ⟨y,h',e,f,R,q⟩:=s;exact ⟨y,h',e,f,R,q.le l⟩
 | exc c M=>exact s
 | stuck=>trivial
theorem RelM.weak {gl:List T} {A X X':List Nat} {h:AH} {M:Mem} (R:RelM gl A X' h M) (hX:∀ a∈X,a∈X') (hA:∀ a∈A,a∈X):RelM gl A X h M:=by
 have hn:∀ a o,a∉X' -> h[a]?=some o -> a∉X/\h[a]?=some o:=fun a o x y=>⟨fun z=>x (hX _ z),y⟩
 refine ⟨R.len,R.nd,hA,fun a ha=>R.lt a (hX a ha),fun n a e=>?_,fun g t e=>qAj (fun _ _ e=>e) hn t (R.glo g t e)⟩
 obtain ⟨ts,vs,e1,e2,e3⟩:=R.at_ n a e
 exact ⟨ts,vs,e1,e2,qAQ (fun _ _ e=>e) hn ts e3⟩
theorem RelM.addX {gl:List T} {A X X':List Nat} {h:AH} {M:Mem} (R:RelM gl A X h M) {o:O} (h1:∀ a,a∈X'↔a=h.length\/a∈X):RelM gl A X' (h++[o]) M:=by
 have hn:∀ a o',a∉X -> h[a]?=some o' -> a∉X'/\(h++[o])[a]?=some o':=fun a o' x y=>⟨by
  rw [h1];rintro (z | z)
  ·have:=qAK y;omega
  ·exact x z,by rw [List.getElem?_append_left (qAK y)];exact y⟩
 refine ⟨R.len,R.nd,fun a ha=>(h1 a).mpr (.inr (R.sub a ha)),fun a ha=>?_,fun n a e=>?_,fun g t e=>qAj (fun _ _ e=>e) hn t (R.glo g t e)⟩
 ·rcases (h1 a).mp ha with z | z
  ·simp [z]
  ·have:=R.lt a z;simp;omega
 ·obtain ⟨ts,vs,e1,e2,e3⟩:=R.at_ n a e
  exact ⟨ts,vs,e1,by rw [List.getElem?_append_left (qAK e2)];exact e2,qAQ (fun _ _ e=>e) hn ts e3⟩
end PI
namespace PI
open L2 (V)
section
variable {gl:List T} {A X:List Nat} {h:AH} {M:Mem}
theorem qFY (R:RelM gl A X h M) {t:T} {w:V} {ts:List T} (r:Rep A X h t w) (e:t.its M=some ts):∃ a vs,w=.ref a/\items h a=some vs/\qAN A X h ts vs:=by
 cases t with
 | v x=>cases e
 | cell n=>
  unfold Rep at r;obtain ⟨a,ea,rfl⟩:=r
  obtain ⟨ts',vs,e1,e2,e3⟩:=R.at_ n a ea
  have:M[n]?=some ts:=e
  rw [e1] at this;cases this
  exact ⟨a,vs,rfl,by unfold items;rw [e2],e3⟩
 | fz xs=>unfold Rep at r;obtain ⟨a,vs,rfl,_,q,k⟩:=r;cases e;exact ⟨a,vs,rfl,by unfold items;rw [q],k⟩
 | lst xs=>unfold Rep at r;obtain ⟨a,vs,rfl,_,q,k⟩:=r;cases e;exact ⟨a,vs,rfl,by unfold items;rw [q],k⟩
 | tup xs=>unfold Rep at r;obtain ⟨a,vs,rfl,_,q,k⟩:=r;cases e;exact ⟨a,vs,rfl,by unfold items;rw [q],k⟩
 | ob o=>cases e
theorem qAz (R:RelM gl A X h M) {t:T} {w:V} {ts:List T} (r:Rep A X h t w) (e:t.lis M=some ts):∃ a vs f,w=.ref a/\h[a]?=some (.lst f vs)/\qAN A X h ts vs:=by
 cases t with
 | v x=>cases e
 | cell n=>
  unfold Rep at r;obtain ⟨a,ea,rfl⟩:=r
  obtain ⟨ts',vs,e1,e2,e3⟩:=R.at_ n a ea
  have:M[n]?=some ts:=e
  rw [e1] at this;cases this
  exact ⟨a,vs,false,rfl,e2,e3⟩
 | fz xs=>unfold Rep at r;obtain ⟨a,vs,rfl,_,q,k⟩:=r;cases e;exact ⟨a,vs,true,rfl,q,k⟩
 | lst xs=>unfold Rep at r;obtain ⟨a,vs,rfl,_,q,k⟩:=r;cases e;exact ⟨a,vs,false,rfl,q,k⟩
 | tup xs=>cases e
 | ob o=>cases e
theorem qIb (R:RelM gl A X h M) {g:Bool} {t:T} {w:V} {ts:List T} (r:Rep A X h t w) (e:t.sel g M=some ts):∃ a vs,w=.ref a/\qJB g h a=some vs/\qAN A X h ts vs:=by
 cases g with
 | false=>
  obtain ⟨a,vs,f,h1,h2,h3⟩:=qAz R r (show t.lis M=some ts from e)
  exact ⟨a,vs,h1,by show qAH h a=_;unfold qAH;rw [h2],h3⟩
 | true=>
  unfold T.sel at e
  rw [if_pos rfl] at e
  split at e
  ·cases e
   unfold Rep at r;obtain ⟨a,vs,rfl,_,q,k⟩:=r
   exact ⟨a,vs,rfl,by show qAT h a=_;unfold qAT;rw [q],k⟩
  ·cases e
theorem qF8 (R:RelM gl A X h M) {t:T} {w:V} {ts:List T} (r:Rep A X h t w) (e:t.mu M=some ts):∃ a vs,w=.ref a/\qAV h a=some vs/\qAN A X h ts vs:=by
 cases t with
 | v x=>cases e
 | cell n=>
  unfold Rep at r;obtain ⟨a,ea,rfl⟩:=r
  obtain ⟨ts',vs,e1,e2,e3⟩:=R.at_ n a ea
  have:M[n]?=some ts:=e
  rw [e1] at this;cases this
  exact ⟨a,vs,rfl,by unfold qAV;rw [e2],e3⟩
 | fz xs=>cases e
 | lst xs=>unfold Rep at r;obtain ⟨a,vs,rfl,_,q,k⟩:=r;cases e;exact ⟨a,vs,rfl,by unfold qAV;rw [q],k⟩
 | tup xs=>cases e
 | ob o=>cases e
theorem qAY {t:T} {x:V} (e:t.isV=some x):t=.v x:=by cases t<;>cases e;rfl
theorem qCC {t:T} {w:V} (e:t.isV=none) (r:Rep A X h t w):∃ a:Nat,w=.ref a:=by
 cases t with
 | v x=>cases e
 | cell n=>unfold Rep at r;obtain ⟨a,_,e⟩:=r;exact ⟨a,e⟩
 | fz xs=>unfold Rep at r;obtain ⟨a,vs,e,_⟩:=r;exact ⟨a,e⟩
 | lst xs=>unfold Rep at r;obtain ⟨a,vs,e,_⟩:=r;exact ⟨a,e⟩
 | tup xs=>unfold Rep at r;obtain ⟨a,vs,e,_⟩:=r;exact ⟨a,e⟩
 | ob o=>unfold Rep at r;obtain ⟨a,e,_⟩:=r;exact ⟨a,e⟩
theorem qC1 (R:RelM gl A X h M) {ts:List T} {vs:List V} {n:Nat} {f:Bool} (r:qAN A X h ts vs) (hn:n<=h.length) (hf:f=true -> Frss gl A X n h M ts vs):Sim gl A X h (QE gl A X n) (.ok ((.lst ts,f),M)) (newL vs h):=by
 have fm:Frm A h (h++[O.lst false vs]):=Frm.app A h _
 have hx:h.length∉X:=fun z=>Nat.lt_irrefl _ (R.lt _ z)
 have ha:(h++[O.lst false vs])[h.length]?=some (.lst false vs):=by simp
 refine ⟨.ref h.length,_,rfl,fm,R.up _,?_,fun e=>?_⟩
 ·show Rep A X _ (.lst ts) _
  unfold Rep
  exact ⟨_,vs,rfl,hx,ha,R.keeps fm r⟩
 ·obtain ⟨fp,p,nd,l,R'⟩:=hf e
  refine ⟨fp++[h.length],?_,?_,?_,R'.addX fun a=>by simp only [List.mem_append,List.mem_singleton];grind⟩
  ·show FP X _ (.lst ts) _ _
   unfold FP
   exact ⟨_,vs,fp,rfl,hx,ha,qBL (R.keepN fm) ts p,rfl⟩
  ·rw [List.nodup_append]
   refine ⟨nd,by simp,?_⟩
   rintro a ha b hb rfl
   obtain ⟨_,vs',q⟩:=qCS ts p a ha
   simp at hb
   have:=qAK q
   omega
  ·intro a ha
   rcases List.mem_append.mp ha with z | z
   ·exact l a z
   ·simp at z;omega
theorem qDx (R:RelM gl A X h M) {ts:List T} {vs:List V} {n:Nat} {f:Bool} (r:qAN A X h ts vs) (hf:f=true -> Frss gl A X n h M ts vs):Sim gl A X h (QE gl A X n) (.ok ((.tup ts,f),M)) (newT vs h):=by
 have fm:Frm A h (h++[O.tup vs]):=Frm.app A h _
 have hx:h.length∉X:=fun z=>Nat.lt_irrefl _ (R.lt _ z)
 have ha:(h++[O.tup vs])[h.length]?=some (.tup vs):=by simp
 refine ⟨.ref h.length,_,rfl,fm,R.up _,?_,fun e=>?_⟩
 ·show Rep A X _ (.tup ts) _
  unfold Rep
  exact ⟨_,vs,rfl,hx,ha,R.keeps fm r⟩
 ·obtain ⟨fp,p,nd,l,R'⟩:=hf e
  refine ⟨fp,?_,nd,l,R'.up _⟩
  show FP X _ (.tup ts) _ _
  unfold FP
  exact ⟨_,vs,rfl,hx,ha,qBL (R.keepN fm) ts p⟩
theorem qDV (R:RelM gl A X h M) {ts:List T} {vs:List V} (r:qAN A X h ts vs):Sim gl A X h (QE gl A X h.length) (.ok (lT ts,M)) (newL vs h):=
 qC1 R r (Nat.le_refl _) fun e=>Frss.of_lf R r e
theorem qAD (R:RelM gl A X h M) {x:V} (fx:qAq x=true) {n:Nat}:Sim gl A X h (QE gl A X n) (.ok ((.v x,true),M)) (.ok (x,h)):=
 have r:Rep A X h (.v x) x:=by unfold Rep;exact ⟨rfl,fx⟩
 ⟨x,h,rfl,Frm.refl A h,R,r,fun _=>Frs.of_lf R r rfl⟩
theorem qAn {x w:V} (r:Rep A X h (.v x) w):w=x:=by unfold Rep at r;exact r.1
theorem qJa (xs:List T):T.lf (.tup xs)=T.lfs xs:=by rw [T.lf]
theorem qJQ (R:RelM gl A X h M) {op:BOp} {s t:T} {x y:V} {r:TB} (e:qAm M op s t=some r) (r1:Rep A X h s x) (r2:Rep A X h t y):Sim gl A X h (QE gl A X h.length) (.ok (r,M)) (qHV op x y h):=by
 unfold qAm at e
 split at e
 ·rename_i i j e1 e2
  cases qAY e1;cases qAY e2
  cases qAn r1;cases qAn r2
  cases op with
  | add=>cases e;exact qAD R rfl
  | sub=>cases e;exact qAD R rfl
  | mul=>dsimp only at e;split at e<;>cases e;rename_i c;show Sim _ _ _ _ _ _ (if _ then _ else _);rw [if_pos c];exact qAD R rfl
  | fdiv=>
   dsimp only at e
   show Sim _ _ _ _ _ _ (if _ then _ else _)
   split at e
   ·rename_i c;cases e;rw [if_pos c];exact qAD R rfl
   ·rename_i c
    rw [if_neg c]
    split at e
    ·rename_i c;cases e;rw [if_pos c];exact qAD R rfl
    ·cases e
  | mod=>
   dsimp only at e
   show Sim _ _ _ _ _ _ (if _ then _ else _)
   split at e
   ·rename_i c;cases e;rw [if_pos c];exact qAD R rfl
   ·rename_i c
    rw [if_neg c]
    split at e
    ·rename_i c;cases e;rw [if_pos c];exact qAD R rfl
    ·cases e
  | pow=>dsimp only at e;split at e<;>cases e;rename_i c;show Sim _ _ _ _ _ _ (if _ then _ else _);rw [if_pos c];exact qAD R rfl
  | band=>cases e;exact qAD R rfl
  | shl=>dsimp only at e;split at e<;>cases e;rename_i c;show Sim _ _ _ _ _ _ (if _ then _ else _);rw [if_pos c];exact qAD R rfl
  | shr=>dsimp only at e;split at e<;>cases e;rename_i c;show Sim _ _ _ _ _ _ (if _ then _ else _);rw [if_pos c];exact qAD R rfl
  | bor=>cases e;exact qAD R rfl
  | bxor=>cases e;exact qAD R rfl
 ·rename_i k e1 e2
  cases qAY e2
  cases qAn r2
  obtain ⟨a,rfl⟩:=qCC e1 r1
  cases op<;>first | cases e | skip
  dsimp only at e
  cases em:s.mu M with
  | none=>rw [em] at e;cases e
  | some xs=>
   rw [em] at e
   dsimp only [Option.bind_some] at e
   split at e<;>cases e
   rename_i c
   obtain ⟨a',vs,ea,m,rs⟩:=qF8 R r1 em
   cases ea
   have lv:vs.length=xs.length:=(qAC (reps_iff.mp rs)).symm
   show Sim _ _ _ _ _ _ (match qAV h a with | some xs=>_ | none=>_)
   rw [m]
   dsimp only
   rw [if_pos (by rw [lv];exact c)]
   exact qDV R (reps_iff.mpr (qHb _ (reps_iff.mp rs)))
 ·rename_i e1 e2
  obtain ⟨a,rfl⟩:=qCC e1 r1
  obtain ⟨b,rfl⟩:=qCC e2 r2
  cases op<;>first | cases e | skip
  dsimp only at e
  split at e
  ·rename_i xs ys
   split at e<;>cases e
   rename_i c
   unfold Rep at r1 r2
   obtain ⟨a1,vs,ea,n1,k1,q1⟩:=r1
   cases ea
   obtain ⟨b1,us,eb,n2,k2,q2⟩:=r2
   cases eb
   have lv:vs.length=xs.length:=(qAC (reps_iff.mp q1)).symm
   have lu:us.length=ys.length:=(qAC (reps_iff.mp q2)).symm
   have m1:qAV h a=none:=by unfold qAV;rw [k1]
   have t1:qAT h a=some vs:=by unfold qAT;rw [k1]
   have t2:qAT h b=some us:=by unfold qAT;rw [k2]
   have q3:=reps_iff.mpr (qAr (reps_iff.mp q1) (reps_iff.mp q2))
   show Sim _ _ _ _ _ _ (match qAV h a,qAV h b with | some xs,some ys=>_ | _,_=>_)
   rw [m1]
   show Sim _ _ _ _ _ _ (match qAT h a,qAT h b with | some xs,some ys=>_ | _,_=>_)
   rw [t1,t2]
   dsimp only
   rw [if_pos ⟨fun z=>c.1 (by subst z;exact List.length_eq_zero_iff.mp lv.symm),by rw [lv,lu];exact c.2⟩]
   split
   ·rename_i z
    subst z
    have y0:ys=[]:=List.length_eq_zero_iff.mp lu.symm
    subst y0
    have r:Rep A X h (.tup (xs++[])) (.ref a):=by
     rw [List.append_nil]
     unfold Rep
     exact ⟨a,vs,rfl,n1,k1,q1⟩
    exact ⟨_,h,rfl,Frm.refl A h,R,r,fun e=>Frs.of_lf R r (by rw [qJa];exact e)⟩
   ·exact qDx R q3 fun e=>Frss.of_lf R q3 e
  cases em:s.mu M with
  | none=>rw [em] at e;cases e
  | some xs=>
   rw [em] at e
   dsimp only [Option.bind_some] at e
   cases en:t.mu M with
   | none=>rw [en] at e;cases e
   | some ys=>
    rw [en] at e
    dsimp only [Option.bind_some] at e
    split at e<;>cases e
    rename_i c
    obtain ⟨a',vs,ea,m,rs⟩:=qF8 R r1 em
    cases ea
    obtain ⟨b',us,eb,m2,rs2⟩:=qF8 R r2 en
    cases eb
    have lv:vs.length=xs.length:=(qAC (reps_iff.mp rs)).symm
    have lu:us.length=ys.length:=(qAC (reps_iff.mp rs2)).symm
    show Sim _ _ _ _ _ _ (match qAV h a,qAV h b with | some xs,some ys=>_ | _,_=>_)
    rw [m,m2]
    dsimp only
    rw [if_pos (by rw [lv,lu];exact c)]
    exact qDV R (reps_iff.mpr (qAr (reps_iff.mp rs) (reps_iff.mp rs2)))
 ·cases e
theorem qFX {x:V} {b:Bool} (e:eqF x x=some b):b=true:=by
 cases x with
 | int i=>cases e;exact beq_self_eq_true i
 | bl i=>cases e;exact beq_self_eq_true i
 | str i=>cases e;exact beq_self_eq_true i
 | non=>cases e;rfl
 | _=>cases e
theorem qBv {f:T -> T -> Option Bool} (hf:∀ t b,f t t=some b -> b=true):∀ (ts:List T) bs,qA5 f ts ts=some bs -> bs.all id=true
 | [],bs,e=>by cases e;rfl
 | t::ts,bs,e=>by
  unfold qA5 at e
  split at e
  ·rename_i b bs' e1 e2
   cases e
   rw [List.all_cons,hf t b e1,qBv hf ts bs' e2]
   rfl
  ·cases e
theorem qDg:∀ (n:Nat) (t:T) (b:Bool),eqT M n t t=some b -> b=true
 | 0,t,b,e=>by
  unfold eqT at e
  split at e
  ·rename_i x y e1 e2;rw [e1] at e2;cases e2;exact qFX e
  ·cases e
 | n + 1,t,b,e=>by
  unfold eqT at e
  split at e
  ·rename_i x y e1 e2;rw [e1] at e2;cases e2;exact qFX e
  ·rename_i e1 e2;rw [e1] at e2;cases e2
  ·rename_i e1 e2;rw [e1] at e2;cases e2
  ·split at e
   ·rename_i xs ys e1 e2
    rw [e1] at e2;cases e2
    rw [if_pos rfl] at e
    obtain ⟨bs,eb,rfl⟩:=Option.map_eq_some_iff.mp e
    exact qBv (qDg n) xs bs eb
   ·rename_i e1 e2;rw [e1] at e2;cases e2
   ·rename_i e1 e2;rw [e1] at e2;cases e2
   ·split at e
    ·rename_i xs ys e1 e2
     rw [e1] at e2;cases e2
     rw [if_pos rfl] at e
     obtain ⟨bs,eb,rfl⟩:=Option.map_eq_some_iff.mp e
     exact qBv (qDg n) xs bs eb
    ·cases e
theorem qCf {f:T -> T -> Option Bool} {g:V -> V -> Option Bool} (hf:∀ s t x y b,Rep A X h s x -> Rep A X h t y -> f s t=some b -> g x y=some b):∀ {ss ts:List T} {xs ys:List V} {bs:List Bool},qAN A X h ss xs -> qAN A X h ts ys -> qA5 f ss ts=some bs -> qDC g xs ys=some bs
 | [],[],xs,ys,bs,r1,r2,e=>by unfold qAN at r1 r2;subst r1 r2;exact e
 | [],t::ts,xs,ys,bs,r1,r2,e=>by cases e
 | s::ss,[],xs,ys,bs,r1,r2,e=>by cases e
 | s::ss,t::ts,xs,ys,bs,r1,r2,e=>by
  unfold qAN at r1 r2
  obtain ⟨x,xs',rfl,a1,a2⟩:=r1
  obtain ⟨y,ys',rfl,b1,b2⟩:=r2
  unfold qA5 at e
  split at e
  ·rename_i b bs' e1 e2
   cases e
   unfold qDC
   rw [hf s t x y b a1 b1 e1,qCf hf a2 b2 e2]
  ·cases e
theorem qBV {x w:V} (r:Rep A X h (.v x) w):qAq x=true:=by unfold Rep at r;exact r.2
theorem qFD (R:RelM gl A X h M) {t:T} {a:Nat} (r:Rep A X h t (.ref a)) (hs:(t.its M).isSome=true):(items h a).isSome=true:=by
 cases t with
 | v x=>unfold Rep at r;exact (qBI r.2 r.1).elim
 | cell n=>unfold Rep at r;obtain ⟨b,eb,e⟩:=r;cases e;obtain ⟨_,_,_,q,_⟩:=R.at_ n _ eb;unfold items;rw [q];rfl
 | fz xs=>unfold Rep at r;obtain ⟨b,vs,e,_,q,_⟩:=r;cases e;unfold items;rw [q];rfl
 | lst xs=>unfold Rep at r;obtain ⟨b,vs,e,_,q,_⟩:=r;cases e;unfold items;rw [q];rfl
 | tup xs=>unfold Rep at r;obtain ⟨b,vs,e,_,q,_⟩:=r;cases e;unfold items;rw [q];rfl
 | ob o=>cases hs
theorem qE2 {t:T} {w:V} {ts:List T} (r:Rep A X h t w) (e1:t.isV=none) (e2:t.lis M=none) (e:t.its M=some ts):∃ a vs,w=.ref a/\h[a]?=some (.tup vs)/\qAN A X h ts vs:=by
 cases t with
 | v x=>cases e1
 | cell n=>have z:M[n]?=some ts:=e;have z2:M[n]?=none:=e2;rw [z] at z2;cases z2
 | fz xs=>cases e2
 | lst xs=>cases e2
 | tup xs=>unfold Rep at r;obtain ⟨b,vs,e',_,q,k⟩:=r;cases e;exact ⟨b,vs,e',q,k⟩
 | ob o=>cases e
theorem qIK {n:Nat} {x y:V} (fx:qAq x=true) (fy:qAq y=true):eqD h (n + 1) x y=eqF x y:=by
 cases x<;>cases y<;>first | rfl | (simp [qAq] at fx;done) | (simp [qAq] at fy;done)
theorem qEA (R:RelM gl A X h M):∀ (n:Nat) (s t:T) (x y:V) (b:Bool),Rep A X h s x -> Rep A X h t y -> eqT M n s t=some b -> eqD h n x y=some b
 | 0,s,t,x,y,b,r1,r2,e=>by
  unfold eqT at e
  split at e
  ·rename_i x' y' e1 e2
   cases qAY e1;cases qAY e2;cases qAn r1;cases qAn r2
   unfold eqD;exact e
  ·cases e
 | n + 1,s,t,x,y,b,r1,r2,e=>by
  unfold eqT at e
  split at e
  ·rename_i x' y' e1 e2
   cases qAY e1;cases qAY e2;cases qAn r1;cases qAn r2
   rw [qIK (qBV r1) (qBV r2)];exact e
  ·rename_i x' e1 e2
   cases qAY e1;cases qAn r1
   obtain ⟨c,rfl⟩:=qCC e2 r2
   have fx:=qBV r1
   split at e<;>cases e
   rename_i hz
   have:=qFD R r2 hz
   cases x<;>first | (unfold eqD;simp [qAq,this];done) | (simp [qAq] at fx;done)
  ·rename_i y' e1 e2
   cases qAY e2;cases qAn r2
   obtain ⟨c,rfl⟩:=qCC e1 r1
   have fx:=qBV r2
   split at e<;>cases e
   rename_i hz
   have:=qFD R r1 hz
   cases y<;>first | (unfold eqD;simp [qAq,this];done) | (simp [qAq] at fx;done)
  ·rename_i e1 e2
   obtain ⟨c,rfl⟩:=qCC e1 r1
   obtain ⟨d,rfl⟩:=qCC e2 r2
   have same:c=d -> b=true:=by
    rintro rfl
    have:=qGO R.nd R.sub s t r1 r2
    subst this
    refine qDg (M:=M) (n + 1) s b ?_
    unfold eqT
    rw [e1]
    exact e
   split at e
   ·rename_i xs ys l1 l2
    obtain ⟨_,vs,f1,q1,k1,m1⟩:=qAz R r1 l1;cases q1
    obtain ⟨_,us,f2,q2,k2,m2⟩:=qAz R r2 l2;cases q2
    unfold eqD
    rw [k1,k2]
    dsimp only
    by_cases hcd:c=d
    ·rw [if_pos hcd,same hcd]
    ·rw [if_neg hcd,<- qAC (reps_iff.mp m1),<- qAC (reps_iff.mp m2)]
     split at e
     ·rename_i hl
      rw [if_pos hl]
      obtain ⟨bs,eb,rfl⟩:=Option.map_eq_some_iff.mp e
      rw [qCf (fun s t x y b a1 a2 a3=>qEA R n s t x y b a1 a2 a3) m1 m2 eb]
      rfl
     ·rename_i hl
      rw [if_neg hl];exact e
   ·rename_i l1 l2
    obtain ⟨_,vs,f1,q1,k1,m1⟩:=qAz R r1 l1;cases q1
    split at e<;>cases e
    rename_i z
    cases ei:t.its M with
    | none=>rw [ei] at z;cases z
    | some ys=>
     obtain ⟨_,us,q2,k2,m2⟩:=qE2 r2 e2 l2 ei;cases q2
     unfold eqD
     rw [k1,k2]
   ·rename_i l1 l2
    obtain ⟨_,vs,f1,q1,k1,m1⟩:=qAz R r2 l2;cases q1
    split at e<;>cases e
    rename_i z
    cases ei:s.its M with
    | none=>rw [ei] at z;cases z
    | some ys=>
     obtain ⟨_,us,q2,k2,m2⟩:=qE2 r1 e1 l1 ei;cases q2
     unfold eqD
     rw [k1,k2]
   ·rename_i l1 l2
    split at e
    ·rename_i xs ys i1 i2
     obtain ⟨_,vs,q1,k1,m1⟩:=qE2 r1 e1 l1 i1;cases q1
     obtain ⟨_,us,q2,k2,m2⟩:=qE2 r2 e2 l2 i2;cases q2
     unfold eqD
     rw [k1,k2]
     dsimp only
     by_cases hcd:c=d
     ·rw [if_pos hcd,same hcd]
     ·rw [if_neg hcd,<- qAC (reps_iff.mp m1),<- qAC (reps_iff.mp m2)]
      split at e
      ·rename_i hl
       rw [if_pos hl]
       obtain ⟨bs,eb,rfl⟩:=Option.map_eq_some_iff.mp e
       rw [qCf (fun s t x y b a1 a2 a3=>qEA R n s t x y b a1 a2 a3) m1 m2 eb]
       rfl
      ·rename_i hl
       rw [if_neg hl]
       obtain ⟨bs,eb,rfl⟩:=Option.map_eq_some_iff.mp e
       rw [qCf (fun s t x y b a1 a2 a3=>qEA R n s t x y b a1 a2 a3) (reps_iff.mpr (qBB _ (reps_iff.mp m1))) (reps_iff.mpr (qBB _ (reps_iff.mp m2))) eb]
       rfl
    ·cases e
theorem qCe:∀ {ts:List T} {vs xs:List V},qAN A X h ts vs -> qBG ts=some xs -> vs=xs/\xs.all qAq=true
 | [],vs,xs,r,e=>by unfold qAN at r;subst r;cases e;exact ⟨rfl,rfl⟩
 | t::ts,vs,xs,r,e=>by
  unfold qAN at r
  obtain ⟨v,vs',rfl,a,b⟩:=r
  cases t with
  | v x=>
   unfold qBG at e
   obtain ⟨xs',e',rfl⟩:=Option.map_eq_some_iff.mp e
   obtain ⟨rfl,k⟩:=qCe b e'
   cases qAn a
   exact ⟨rfl,by rw [List.all_cons,qBV a,k];rfl⟩
  | _=>cases e
theorem qIZ (R:RelM gl A X h M) {s t:T} {x y:V} {b:Bool} (r1:Rep A X h s x) (r2:Rep A X h t y) (e:inT M s t=some b):qHQ .inn x y h=some b/\qHQ .notin x y h=some (!b):=by
 unfold inT at e
 obtain ⟨a,ea,e⟩:=Option.bind_eq_some_iff.mp e
 obtain ⟨ts,et,e⟩:=Option.bind_eq_some_iff.mp e
 obtain ⟨xs,ex,rfl⟩:=Option.map_eq_some_iff.mp e
 cases qAY ea;cases qAn r1
 obtain ⟨p,vs,rfl,q1,q2⟩:=qFY R r2 et
 obtain ⟨rfl,k⟩:=qCe q2 ex
 have fx:=qBV r1
 constructor
 ·dsimp only [qHQ,qJ6];rw [q1];dsimp only;rw [if_pos (by rw [fx,k];rfl)]
 ·dsimp only [qHQ,qJ6];rw [q1];dsimp only;rw [if_pos (by rw [fx,k];rfl)]
theorem qCK (R:RelM gl A X h M) {op:COp} {s t:T} {x y:V} {b:Bool} (r1:Rep A X h s x) (r2:Rep A X h t y) (e:qBF M op s t=some b):qHQ op x y h=some b:=by
 cases op with
 | eq=>exact qEA R 4 s t x y b r1 r2 e
 | ne=>
  obtain ⟨c,ec,rfl⟩:=Option.map_eq_some_iff.mp (show (eqT M 4 s t).map (!·)=some b from e)
  show (eqD h 4 x y).map (!·)=_
  rw [qEA R 4 s t x y c r1 r2 ec];rfl
 | inn=>exact (qIZ R r1 r2 e).1
 | notin=>
  obtain ⟨c,ec,rfl⟩:=Option.map_eq_some_iff.mp (show (inT M s t).map (!·)=some b from e)
  exact (qIZ R r1 r2 ec).2
 | is=>
  unfold qBF at e;dsimp only at e
  split at e
  ·rename_i e2
   cases qAY e2;cases qAn r2
   cases e
   show some (decide (x=V.non))=_
   cases hs:s.isV with
   | none=>obtain ⟨a,rfl⟩:=qCC hs r1;rfl
   | some z=>cases qAY hs;cases qAn r1;cases x<;>rfl
  ·rename_i e2
   cases qAY e2;cases qAn r2
   split at e
   ·rename_i e3
    cases qAY e3;cases qAn r1
    exact e
   ·cases e
  ·cases e
 | isnot=>
  unfold qBF at e;dsimp only at e
  split at e
  ·rename_i e2
   cases qAY e2;cases qAn r2
   cases e
   show some (!decide (x=V.non))=_
   cases hs:s.isV with
   | none=>obtain ⟨a,rfl⟩:=qCC hs r1;rfl
   | some z=>cases qAY hs;cases qAn r1;cases x<;>rfl
  ·rename_i e2
   cases qAY e2;cases qAn r2
   split at e
   ·rename_i e3
    cases qAY e3;cases qAn r1
    exact e
   ·cases e
  ·cases e
 | lt=>unfold qBF at e;dsimp only at e;split at e<;>first | (rename_i e1 e2;cases qAY e1;cases qAY e2;cases qAn r1;cases qAn r2;exact e) | cases e
 | le=>unfold qBF at e;dsimp only at e;split at e<;>first | (rename_i e1 e2;cases qAY e1;cases qAY e2;cases qAn r1;cases qAn r2;exact e) | cases e
 | gt=>unfold qBF at e;dsimp only at e;split at e<;>first | (rename_i e1 e2;cases qAY e1;cases qAY e2;cases qAn r1;cases qAn r2;exact e) | cases e
 | ge=>unfold qBF at e;dsimp only at e;split at e<;>first | (rename_i e1 e2;cases qAY e1;cases qAY e2;cases qAn r1;cases qAn r2;exact e) | cases e
theorem qCQ:∀ {ts:List T} {vs:List V} {is:List Int},qAN A X h ts vs -> qA1 ts=some is -> qBC vs=some is
 | [],vs,xs,r,e=>by unfold qAN at r;subst r;cases e;rfl
 | t::ts,vs,xs,r,e=>by
  unfold qAN at r
  obtain ⟨v,vs',rfl,a,b⟩:=r
  unfold qA1 at e
  split at e
  ·rename_i e';cases e'
  ·rename_i e';cases e'
   obtain ⟨xs',e',rfl⟩:=Option.map_eq_some_iff.mp e
   cases qAn a
   show (qBC vs').map _=_
   rw [qCQ b e'];rfl
  ·cases e
theorem qEf:∀ {ts:List T} {vs:List V} {is:List Int},qAN A X h ts vs -> qBz ts=some is -> qBa vs=some is
 | [],vs,xs,r,e=>by unfold qAN at r;subst r;cases e;rfl
 | t::ts,vs,xs,r,e=>by
  unfold qAN at r
  obtain ⟨v,vs',rfl,a,b⟩:=r
  unfold qBz at e
  split at e
  ·rename_i e';cases e'
  ·rename_i e';cases e'
   obtain ⟨xs',e',rfl⟩:=Option.map_eq_some_iff.mp e
   cases qAn a
   show (qBa vs').map _=_
   rw [qEf b e'];rfl
  ·rename_i e';cases e'
   obtain ⟨xs',e',rfl⟩:=Option.map_eq_some_iff.mp e
   cases qAn a
   show (qBa vs').map _=_
   rw [qEf b e'];rfl
  ·cases e
theorem qDc:∀ {ts:List T} {vs:List V} {is:List Bool},qAN A X h ts vs -> qA9 ts=some is -> qBs vs=some is
 | [],vs,xs,r,e=>by unfold qAN at r;subst r;cases e;rfl
 | t::ts,vs,xs,r,e=>by
  unfold qAN at r
  obtain ⟨v,vs',rfl,a,b⟩:=r
  unfold qA9 at e
  split at e
  ·rename_i e';cases e'
  ·rename_i e';cases e'
   obtain ⟨xs',e',rfl⟩:=Option.map_eq_some_iff.mp e
   cases qAn a
   show (qBs vs').map _=_
   rw [qDc b e'];rfl
  ·cases e
theorem qBS {t:T} {ws:List V} (r:qAN A X h [t] ws):∃ w,ws=[w]/\Rep A X h t w:=by
 unfold qAN at r;obtain ⟨v,vs,rfl,a,b⟩:=r;unfold qAN at b;subst b;exact ⟨v,rfl,a⟩
theorem qLS {s t:T} {ws:List V} (r:qAN A X h [s,t] ws):∃ w u,ws=[w,u]/\Rep A X h s w/\Rep A X h t u:=by
 unfold qAN at r;obtain ⟨v,vs,rfl,a,b⟩:=r;obtain ⟨u,rfl,c⟩:=qBS b;exact ⟨v,u,rfl,a,c⟩
theorem qAR {a:Nat} {f:Bool} {vs:List V} (e:h[a]?=some (.lst f vs)):qAH h a=some vs:=by unfold qAH;rw [e]
theorem qDm (R:RelM gl A X h M) {t:T} {w:V} {n:Nat} (r:Rep A X h t w):Sim gl A X h (QE gl A X n) (.ok ((t,t.lf),M)) (.ok (w,h)):=
 ⟨w,h,rfl,Frm.refl A h,R,r,fun e=>Frs.of_lf R r e⟩
theorem qFF:∀ l:List Int,T.lfs (l.map fun i=>T.v (.int i))=true
 | []=>by rw [List.map_nil,T.lfs]
 | x::r=>by rw [List.map_cons,T.lfs,qFF r];rfl
theorem qD3 {A X:List Nat} {h:AH}:∀ l:List Int,qAN A X h (l.map fun i=>T.v (.int i)) (l.map V.int)
 | []=>by rw [List.map_nil,List.map_nil];unfold qAN;rfl
 | x::r=>by
  rw [List.map_cons,List.map_cons]
  unfold qAN
  exact ⟨_,_,rfl,by unfold Rep;exact ⟨rfl,rfl⟩,qD3 r⟩
theorem qCi {f:T -> Option PySem.PyData} {g:V -> Option PySem.PyData} (hf:∀ t w d,f t=some d -> Rep A X h t w -> g w=some d):∀ (ts:List T) (ws:List V) (ds:List PySem.PyData),qDo f ts=some ds -> qAN A X h ts ws -> qFV g ws=some ds
 | [],ws,ds,e,r=>by
  unfold qAN at r;subst r;exact e
 | t::ts,ws,ds,e,r=>by
  unfold qAN at r
  obtain ⟨w,ws',rfl,r1,r2⟩:=r
  unfold qDo at e
  obtain ⟨d,e1,e⟩:=Option.bind_eq_some_iff.mp e
  obtain ⟨ds',e2,rfl⟩:=Option.map_eq_some_iff.mp e
  unfold qFV
  rw [hf t w d e1 r1,Option.bind_some,qCi hf ts ws' ds' e2 r2];rfl
theorem qFP {h:AH} {n:Nat} {x:V} {d:PySem.PyData} (e:qHp x=some d):dat h n x=some d:=by
 cases n with
 | zero=>exact e
 | succ n=>cases x<;>first | exact e | cases e
theorem qDU (R:RelM gl A X h M):∀ (n:Nat) (t:T) (w:V) (d:PySem.PyData),qHW M n t=some d -> Rep A X h t w -> dat h n w=some d
 | 0,t,w,d,e,r=>by
  unfold qHW at e
  split at e
  ·cases qAn r;exact qFP e
  ·cases e
 | n + 1,t,w,d,e,r=>by
  have ls:∀ (ts:List T),t.lis M=some ts -> (qDo (qHW M n) ts).map PySem.PyData.list=some d -> dat h (n + 1) w=some d:=fun ts hl e=>by
   obtain ⟨ds,e1,rfl⟩:=Option.map_eq_some_iff.mp e
   obtain ⟨a,vs,f,rfl,q1,q2⟩:=qAz R r hl
   show (match h[a]? with | some (.lst _ xs)=>(qFV (dat h n) xs).map PySem.PyData.list | some (.tup xs)=>(qFV (dat h n) xs).map PySem.PyData.tuple | _=>none)=_
   rw [q1]
   dsimp only
   rw [qCi (qDU R n) ts vs ds e1 q2];rfl
  unfold qHW at e
  split at e
  ·cases qAn r;exact qFP e
  ·rename_i ts
   obtain ⟨ds,e1,rfl⟩:=Option.map_eq_some_iff.mp e
   unfold Rep at r
   obtain ⟨a,vs,rfl,q1,q2,q3⟩:=r
   show (match h[a]? with | some (.lst _ xs)=>(qFV (dat h n) xs).map PySem.PyData.list | some (.tup xs)=>(qFV (dat h n) xs).map PySem.PyData.tuple | _=>none)=_
   rw [q2]
   dsimp only
   rw [qCi (qDU R n) ts vs ds e1 q3];rfl
  ·exact ls _ rfl e
  ·exact ls _ rfl e
  ·obtain ⟨ts,e1,e2⟩:=Option.bind_eq_some_iff.mp e
   exact ls ts e1 e2
  ·cases e
theorem qJ2 {n:Nat} {w:V} {d:PySem.PyData} (e:dat h 3 w=some d):qHU h w=some d:=by
 unfold qHU
 split
 ·split
  ·rename_i ey
   unfold dat at e
   dsimp only at e
   rw [ey] at e
   cases e
  ·exact e
 ·rename_i hn
  unfold dat at e
  split at e
  ·exact absurd rfl (hn _)
  ·exact e
theorem qIC (R:RelM gl A X h M) (t:T) (w:V) (d:PySem.PyData) (e:qJD M t=some d) (r:Rep A X h t w):qHU h w=some d:=by
 unfold qJD at e
 split at e
 ·cases e
  unfold Rep at r
  obtain ⟨a,rfl,_,q⟩:=r
  unfold qHU
  dsimp only
  rw [q]
 ·exact qJ2 (n:=0) (qDU R 3 _ w d e r)
theorem qHs (R:RelM gl A X h M) (t:T) (w:V) (d:PySem.PyData) (e:qJr M t=some d) (r:Rep A X h t w):qKJ h w=some d:=by
 unfold qJr at e
 split at e
 ·obtain ⟨ds,e1,rfl⟩:=Option.map_eq_some_iff.mp e
  unfold Rep at r
  obtain ⟨a,vs,rfl,_,q,rr⟩:=r
  unfold qKJ
  dsimp only
  rw [q]
  dsimp only
  rw [qCi (qIC R) _ vs ds e1 rr];rfl
 ·cases e
  unfold Rep at r
  obtain ⟨a,rfl,_,q⟩:=r
  unfold qKJ
  dsimp only
  rw [q]
 ·have e2:=qDU R 4 _ w d e r
  unfold qKJ
  split
  ·split
   ·rename_i ey
    unfold dat at e2
    dsimp only at e2
    rw [ey] at e2
    dsimp only at e2
    rename_i ht _ _ a _ xs
    exfalso
    cases t with
    | v x=>unfold Rep at r;exact qBI r.2 r.1
    | cell n=>unfold Rep at r;obtain ⟨b,eb,e⟩:=r;cases e;obtain ⟨_,_,_,q,_⟩:=R.at_ n _ eb;rw [ey] at q;cases q
    | fz xs=>unfold Rep at r;obtain ⟨b,vs,e,_,q,_⟩:=r;cases e;rw [ey] at q;cases q
    | lst xs=>unfold Rep at r;obtain ⟨b,vs,e,_,q,_⟩:=r;cases e;rw [ey] at q;cases q
    | tup ts=>exact ht _ rfl
    | ob o=>unfold Rep at r;obtain ⟨b,e,_,q⟩:=r;cases e;rw [ey] at q;cases q
   ·rename_i ey
    unfold dat at e2
    dsimp only at e2
    rw [ey] at e2
    cases e2
   ·exact e2
  ·rename_i hn
   unfold dat at e2
   split at e2
   ·exact absurd rfl (hn _)
   ·exact e2
theorem qJq (R:RelM gl A X h M) {f:BF} {ts:List T} {ws:List V} {r:TB} (rs:qAN A X h ts ws) (e:qCG M f ts=some r):Sim gl A X h (QE gl A X h.length) (.ok (r,M)) (qLt f ws h):=by
 cases f with
 | len=>
  replace e:=qAp e
  obtain ⟨t0,rfl,e⟩:=e
  obtain ⟨w,rfl,rw_⟩:=qBS rs
  obtain ⟨xs,ex,rfl⟩:=Option.map_eq_some_iff.mp e
  obtain ⟨a,vs,rfl,q1,q2⟩:=qFY R rw_ ex
  show Sim _ _ _ _ _ _ (match items h a with | some xs=>_ | none=>_)
  rw [q1,qAC (reps_iff.mp q2)]
  exact qAD R rfl
 | sum=>
  replace e:=qAp e
  obtain ⟨t0,rfl,e⟩:=e
  obtain ⟨w,rfl,rw_⟩:=qBS rs
  obtain ⟨xs,ex,e⟩:=Option.bind_eq_some_iff.mp e
  obtain ⟨is,ei,rfl⟩:=Option.map_eq_some_iff.mp e
  obtain ⟨a,vs,f,rfl,q1,q2⟩:=qAz R rw_ ex
  show Sim _ _ _ _ _ _ (match qAH h a with | some xs=>_ | none=>_)
  rw [qAR q1]
  dsimp only
  rw [qEf q2 ei]
  exact qAD R rfl
 | all=>
  replace e:=qAp e
  obtain ⟨t0,rfl,e⟩:=e
  obtain ⟨w,rfl,rw_⟩:=qBS rs
  obtain ⟨xs,ex,e⟩:=Option.bind_eq_some_iff.mp e
  obtain ⟨is,ei,rfl⟩:=Option.map_eq_some_iff.mp e
  obtain ⟨a,vs,f,rfl,q1,q2⟩:=qAz R rw_ ex
  show Sim _ _ _ _ _ _ (match qAH h a with | some xs=>_ | none=>_)
  rw [qAR q1]
  dsimp only
  rw [qDc q2 ei]
  exact qAD R rfl
 | any=>
  replace e:=qAp e
  obtain ⟨t0,rfl,e⟩:=e
  obtain ⟨w,rfl,rw_⟩:=qBS rs
  obtain ⟨xs,ex,e⟩:=Option.bind_eq_some_iff.mp e
  obtain ⟨is,ei,rfl⟩:=Option.map_eq_some_iff.mp e
  obtain ⟨a,vs,f,rfl,q1,q2⟩:=qAz R rw_ ex
  show Sim _ _ _ _ _ _ (match qAH h a with | some xs=>_ | none=>_)
  rw [qAR q1]
  dsimp only
  rw [qDc q2 ei]
  exact qAD R rfl
 | max=>
  replace e:=twoT_inv e
  obtain ⟨i,j,rfl,e⟩:=e
  obtain ⟨w,u,rfl,a,b⟩:=qLS rs;cases qAn a;cases qAn b;cases e;exact qAD R rfl
 | min=>
  replace e:=twoT_inv e
  obtain ⟨i,j,rfl,e⟩:=e
  obtain ⟨w,u,rfl,a,b⟩:=qLS rs;cases qAn a;cases qAn b;cases e;exact qAD R rfl
 | abs=>
  replace e:=qAp e
  obtain ⟨t0,rfl,e⟩:=e
  split at e
  ·obtain ⟨w,rfl,a⟩:=qBS rs;cases qAn a;cases e;exact qAD R rfl
  ·cases e
 | bits=>
  replace e:=qAp e
  obtain ⟨t0,rfl,e⟩:=e
  split at e
  ·obtain ⟨w,rfl,a⟩:=qBS rs;cases qAn a;cases e;exact qAD R rfl
  ·cases e
 | list=>
  replace e:=qAp e
  obtain ⟨t0,rfl,e⟩:=e
  obtain ⟨w,rfl,rw_⟩:=qBS rs
  obtain ⟨xs,ex,rfl⟩:=Option.map_eq_some_iff.mp e
  obtain ⟨a,vs,rfl,q1,q2⟩:=qFY R rw_ ex
  show Sim _ _ _ _ _ _ (match items h a with | some xs=>_ | none=>_)
  rw [q1]
  exact qDV R q2
 | tuple=>
  replace e:=qAp e
  obtain ⟨t0,rfl,e⟩:=e
  obtain ⟨w,rfl,rw_⟩:=qBS rs
  split at e
  ·cases e
   unfold Rep at rw_
   obtain ⟨a,vs,rfl,q1,q2,q3⟩:=rw_
   show Sim _ _ _ _ _ _ (match h[a]? with | some (.lst _ xs)=>_ | some (.tup _)=>_ | _=>_)
   rw [q2]
   exact qDm R (by unfold Rep;exact ⟨a,vs,rfl,q1,q2,q3⟩)
  ·obtain ⟨xs,ex,rfl⟩:=Option.map_eq_some_iff.mp e
   obtain ⟨a,vs,f,rfl,q1,q2⟩:=qAz R rw_ ex
   show Sim _ _ _ _ _ _ (match h[a]? with | some (.lst _ xs)=>_ | some (.tup _)=>_ | _=>_)
   rw [q1]
   exact qDx R q2 fun e=>Frss.of_lf R q2 e
 | int=>
  replace e:=qAp e
  obtain ⟨t0,rfl,e⟩:=e
  split at e
  ·obtain ⟨w,rfl,a⟩:=qBS rs;cases qAn a;cases e;exact qAD R rfl
  ·obtain ⟨w,rfl,a⟩:=qBS rs;cases qAn a;cases e;exact qAD R rfl
  ·cases e
 | range=>cases e
 | repr=>
  replace e:=qAp e
  obtain ⟨t0,rfl,e⟩:=e
  obtain ⟨w,rfl,rw_⟩:=qBS rs
  obtain ⟨v,e0,rfl⟩:=Option.map_eq_some_iff.mp e
  obtain ⟨d,e1,e2⟩:=Option.bind_eq_some_iff.mp e0
  have e3:=qHs R t0 w d e1 rw_
  show Sim _ _ _ _ _ _ (qL2 h w)
  unfold qL2
  rw [e3,Option.bind_some,e2]
  unfold qIN at e2
  split at e2
  ·cases e2;exact qAD R rfl
  ·cases e2
 | sorted=>
  replace e:=qAp e
  obtain ⟨t0,rfl,e⟩:=e
  obtain ⟨w,rfl,rw_⟩:=qBS rs
  obtain ⟨xs,ex,e⟩:=Option.bind_eq_some_iff.mp e
  obtain ⟨is,ei,e⟩:=Option.bind_eq_some_iff.mp e
  obtain ⟨a,vs,f,rfl,q1,q2⟩:=qAz R rw_ ex
  show Sim _ _ _ _ _ _ (match qAH h a with | some xs=>_ | none=>_)
  rw [qAR q1]
  dsimp only
  rw [qCQ q2 ei]
  dsimp only
  split at e
  ·rename_i h64
   cases e
   rw [if_pos h64]
   have rr:=qD3 (A:=A) (X:=X) (h:=h) (qD7 is)
   exact qC1 R rr (Nat.le_refl _) fun e=>Frss.of_lf R rr (qFF _)
  ·cases e
theorem qHm (R:RelM gl A X h M) {t:T} {w:V} {s:String} (r:Rep A X h t w) (e:qBm M t=some s):qBO h w=some s:=by
 cases t with
 | v x=>cases qAn r;cases w<;>first | exact e | (cases e;done)
 | cell n=>unfold Rep at r;obtain ⟨a,ea,rfl⟩:=r;obtain ⟨ts,vs,e1,e2,_⟩:=R.at_ n a ea;unfold qBm at e;dsimp only at e;rw [e1] at e;cases e;unfold qBO;dsimp only;rw [e2]
 | fz xs=>unfold Rep at r;obtain ⟨a,vs,rfl,_,q,_⟩:=r;cases e;unfold qBO;dsimp only;rw [q]
 | lst xs=>unfold Rep at r;obtain ⟨a,vs,rfl,_,q,_⟩:=r;cases e;unfold qBO;dsimp only;rw [q]
 | tup xs=>unfold Rep at r;obtain ⟨a,vs,rfl,_,q,_⟩:=r;cases e;unfold qBO;dsimp only;rw [q]
 | ob o=>cases o with
  | dct=>unfold Rep at r;obtain ⟨a,rfl,_,q⟩:=r;cases e;unfold qBO;dsimp only;rw [q]
  | exn c=>cases e
theorem qEC {ts:List T} {vs:List V} {lo hi:Option Int} (r:qAN A X h ts vs):qAN A X h (qHv ts lo hi) (L2.cutV vs lo hi):=by
 have l:=qAC (reps_iff.mp r)
 unfold qHv L2.cutV
 rw [l]
 exact reps_iff.mpr (qBB _ (qCz _ (reps_iff.mp r)))
end
end PI
namespace PI
open L2 (V)
noncomputable def qHT (A X:List Nat) (h:AH):Option T -> Option V -> Prop
 | none,_=>True
 | some t,some w=>Rep A X h t w
 | some _,none=>False
noncomputable abbrev qBj (A X:List Nat) (h:AH):TS -> List (Option V) -> Prop:=qBq (qHT A X h)
section
variable {gl:List T} {A X:List Nat} {h h':AH} {M M':Mem} {σ:TS} {σh:List (Option V)}
theorem qDY {i:Nat} {t:T} (r:qBj A X h σ σh) (e:σ[i]?=some (some t)):∃ w,σh[i]?=some (some w)/\Rep A X h t w:=by
 obtain ⟨o,e1,q⟩:=qAh r e
 cases o with
 | none=>exact q.elim
 | some w=>exact ⟨w,e1,q⟩
theorem qA2 {A' X':List Nat} (hc:∀ (n:Nat) a,A[n]?=some a -> A'[n]?=some a) (hn:∀ a o,a∉X -> h[a]?=some o -> a∉X'/\h'[a]?=some o) (r:qBj A X h σ σh):qBj A' X' h' σ σh:=
 qD9 (fun x y q=>by
  cases x with
  | none=>trivial
  | some t=>cases y with
   | none=>exact q.elim
   | some w=>exact qAj hc hn t q) r
theorem RelM.keepS (R:RelM gl A X h M) (f:Frm A h h') (r:qBj A X h σ σh):qBj A X h' σ σh:=qA2 (fun _ _ e=>e) (R.keepN f) r
theorem qCI (r:qBj A X h σ σh):∀ src:List (Option Nat),qBj A X h (qCX src σ) (L2.inner src σh)
 | []=>rfl
 | none::src=>⟨none,_,rfl,trivial,qCI r src⟩
 | some j::src=>by
  refine ⟨(σh[j]?).join,_,rfl,?_,qCI r src⟩
  show qHT A X h (σ[j]?).join _
  cases hj:σ[j]? with
  | none=>trivial
  | some o=>cases o with
   | none=>trivial
   | some t=>
    obtain ⟨w,e1,q⟩:=qDY r hj
    rw [e1]
    exact q
theorem qGn:∀ {is:List Nat} {ts:List T} {ws:List V} {σ σ1:TS} {σh:List (Option V)},qLO is ts σ=some σ1 -> qAN A X h ts ws -> qBj A X h σ σh -> ∃ σh1,qDM is ws σh=some σh1/\qBj A X h σ1 σh1
 | [],[],ws,σ,σ1,σh,e,r,rs=>by unfold qAN at r;subst r;cases e;exact ⟨σh,rfl,rs⟩
 | [],t::ts,ws,σ,σ1,σh,e,r,rs=>by cases e
 | i::is,[],ws,σ,σ1,σh,e,r,rs=>by cases e
 | i::is,t::ts,ws,σ,σ1,σh,e,r,rs=>by
  unfold qAN at r
  obtain ⟨w,ws',rfl,a,b⟩:=r
  exact qGn (is:=is) (show qLO is ts (σ.set i (some t))=some σ1 from e) b (qAx i rs (show qHT A X h (some t) (some w) from a))
theorem qBK {g:Tg} {t:T} {w:V} {σ1:TS} (e:qBE g t σ=some σ1) (r:Rep A X h t w) (rs:qBj A X h σ σh):∃ σh1,store g w σh h=some σh1/\qBj A X h σ1 σh1:=by
 cases g with
 | name i=>cases e;exact ⟨σh.set i (some w),rfl,qAx i rs (show qHT A X h (some t) (some w) from r)⟩
 | tup is=>
  cases t with
  | tup ts=>
   unfold Rep at r
   obtain ⟨a,vs,rfl,_,q,k⟩:=r
   obtain ⟨σh1,e1,r1⟩:=qGn (show qLO is ts σ=some σ1 from e) k rs
   refine ⟨σh1,?_,r1⟩
   show (match qAT h a with | some xs=>_ | none=>_)=_
   rw [show qAT h a=some vs by unfold qAT;rw [q]]
   exact e1
  | _=>cases e
theorem qCq:∀ (i:Nat) (ts:List T),(qCJ i ts).length=ts.length
 | _,[]=>rfl
 | i,t::ts=>by rw [qCJ,List.length_cons,List.length_cons,qCq]
theorem qD2:∀ (i j:Nat) (ts:List T),(qCJ i ts)[j]?=(ts[j]?).map fun t=>T.tup [.v (.int ((i + j:Nat):Int)),t]
 | _,_,[]=>by simp [qCJ]
 | i,0,t::ts=>by simp [qCJ]
 | i,j + 1,t::ts=>by
  rw [qCJ,List.getElem?_cons_succ,List.getElem?_cons_succ,qD2 (i + 1) j ts]
  rw [show i + 1 + j=i + (j + 1) by omega]
inductive qB7 (A X:List Nat) (h:AH):Src -> List T -> qCc -> Prop
 | list (a f vs ts):a∉X -> h[a]?=some (.lst f vs) -> qAN A X h ts vs -> qB7 A X h (.list a) ts []
 | cell (n a vs ts):A[n]?=some a -> h[a]?=some (.lst false vs) -> qAN A X h ts vs -> qB7 A X h (.list a) ts [(n,ts)]
 | tupl (a vs ts):a∉X -> h[a]?=some (.tup vs) -> qAN A X h ts vs -> qB7 A X h (.tupl a) ts []
 | rng (lo n):qB7 A X h (.rng lo n) (qAZ lo n) []
 | rngd (lo n):qB7 A X h (.rngd lo n) (qC0 lo n) []
 | enum (a ts d):qB7 A X h (.list a) ts d -> qB7 A X h (.enum a) (qCJ 0 ts) d
 | rvd (a ts d):qB7 A X h (.list a) ts d -> qB7 A X h (.rvd a ts.length) ts.reverse d
 | zip (a b ts us d1 d2):qB7 A X h (.list a) ts d1 -> qB7 A X h (.list b) us d2 -> qB7 A X h (.zip a b) (List.zipWith (fun x y=>T.tup [x,y]) ts us) (d1++d2)
theorem qBg {d1 d2:qCc} (e:qAd (d1++d2) M=true):qAd d1 M=true/\qAd d2 M=true:=by
 unfold qAd at e ⊢
 rw [List.all_append,Bool.and_eq_true] at e
 exact e
theorem qEB {s:Src} {ts:List T} {d:qCc} (r:qB7 A X h s ts d) (hn:∀ a o,a∉X -> h[a]?=some o -> h'[a]?=some o) (R:RelM gl A X h' M') (hd:qAd d M'=true):qB7 A X h' s ts d:=by
 induction r with
 | list a f vs ts q1 q2 q3=>exact .list a f vs ts q1 (hn _ _ q1 q2) (qAQ (fun _ _ e=>e) (fun a o x y=>⟨x,hn a o x y⟩) ts q3)
 | cell n a vs ts q1 q2 q3=>
  obtain ⟨ts',vs',e1,e2,e3⟩:=R.at_ n a q1
  unfold qAd at hd
  simp only [List.all_cons,List.all_nil,Bool.and_true] at hd
  rw [e1] at hd
  have:=qCH _ _ hd
  subst this
  exact .cell n a vs' ts' q1 e2 e3
 | tupl a vs ts q1 q2 q3=>exact .tupl a vs ts q1 (hn _ _ q1 q2) (qAQ (fun _ _ e=>e) (fun a o x y=>⟨x,hn a o x y⟩) ts q3)
 | rng lo n=>exact .rng lo n
 | rngd lo n=>exact .rngd lo n
 | enum a ts d _ i1=>exact .enum a ts d (i1 hd)
 | rvd a ts d _ i1=>exact .rvd a ts d (i1 hd)
 | zip a b ts us d1 d2 _ _ i1 i2=>exact .zip a b ts us d1 d2 (i1 (qBg hd).1) (i2 (qBg hd).2)
theorem qDP {A' X':List Nat} {s:Src} {ts:List T} {d:qCc} (r:qB7 A X h s ts d) (hn:∀ a o,a∉X -> h[a]?=some o -> a∉X'/\h'[a]?=some o) (R:RelM gl A' X' h' M') (hd:qAd d M'=true) (hA:∀ (n:Nat) a,A[n]?=some a -> A'[n]?=some a:=by exact fun _ _ e=>e):qB7 A' X' h' s ts d:=by
 induction r with
 | list a f vs ts q1 q2 q3=>exact .list a f vs ts (hn _ _ q1 q2).1 (hn _ _ q1 q2).2 (qAQ hA hn ts q3)
 | cell n a vs ts q1 q2 q3=>
  obtain ⟨ts',vs',e1,e2,e3⟩:=R.at_ n a (hA _ _ q1)
  unfold qAd at hd
  simp only [List.all_cons,List.all_nil,Bool.and_true] at hd
  rw [e1] at hd
  have:=qCH _ _ hd
  subst this
  exact .cell n a vs' ts' (hA _ _ q1) e2 e3
 | tupl a vs ts q1 q2 q3=>exact .tupl a vs ts (hn _ _ q1 q2).1 (hn _ _ q1 q2).2 (qAQ hA hn ts q3)
 | rng lo n=>exact .rng lo n
 | rngd lo n=>exact .rngd lo n
 | enum a ts d _ i1=>exact .enum a ts d (i1 hd)
 | rvd a ts d _ i1=>exact .rvd a ts d (i1 hd)
 | zip a b ts us d1 d2 _ _ i1 i2=>exact .zip a b ts us d1 d2 (i1 (qBg hd).1) (i2 (qBg hd).2)
theorem qAf {a:Nat} {ts:List T} {d:qCc} (r:qB7 A X h (.list a) ts d):∃ vs,qAH h a=some vs/\qAN A X h ts vs:=by
 cases r with
 | list _ f vs _ q1 q2 q3=>exact ⟨vs,qAR q2,q3⟩
 | cell n _ vs _ q1 q2 q3=>exact ⟨vs,qAR q2,q3⟩
theorem qDr {s:Src} {ts:List T} {d:qCc} (r:qB7 A X h s ts d):qFU h s=some ts.length:=by
 cases r with
 | list a f vs ts q1 q2 q3=>show (qAH h a).map _=_;rw [qAR q2,Option.map_some,qAC (reps_iff.mp q3)]
 | cell n a vs ts q1 q2 q3=>show (qAH h a).map _=_;rw [qAR q2,Option.map_some,qAC (reps_iff.mp q3)]
 | tupl a vs ts q1 q2 q3=>show (qAT h a).map _=_;rw [show qAT h a=some vs by unfold qAT;rw [q2],Option.map_some,qAC (reps_iff.mp q3)]
 | rng lo n=>show some n=_;simp [qAZ]
 | rngd lo n=>show some n=_;simp [qC0]
 | enum a ts d r1=>
  obtain ⟨vs,e1,k1⟩:=qAf r1
  show (qAH h a).map _=_
  rw [e1,Option.map_some,qCq,qAC (reps_iff.mp k1)]
 | rvd a ts d r1=>show some _=_;simp
 | zip a b ts us d1 d2 r1 r2=>
  obtain ⟨vs,e1,k1⟩:=qAf r1
  obtain ⟨ws,e2,k2⟩:=qAf r2
  show (match qAH h a,qAH h b with | some xs,some ys=>_ | _,_=>_)=_
  rw [e1,e2,List.length_zipWith,qAC (reps_iff.mp k1),qAC (reps_iff.mp k2)]
theorem qC6 {s:Src} {ts:List T} {d:qCc} (r:qB7 A X h s ts d):qBZ h ts.length s=true:=by
 cases r with
 | list a f vs ts q1 q2 q3=>show (match qAH h a with | some xs=>_ | none=>_)=_;rw [qAR q2,qAC (reps_iff.mp q3)];simp
 | cell n a vs ts q1 q2 q3=>show (match qAH h a with | some xs=>_ | none=>_)=_;rw [qAR q2,qAC (reps_iff.mp q3)];simp
 | tupl a vs ts q1 q2 q3=>show (match qAT h a with | some xs=>_ | none=>_)=_;rw [show qAT h a=some vs by unfold qAT;rw [q2],qAC (reps_iff.mp q3)];simp
 | rng lo n=>show decide _=_;simp [qAZ]
 | rngd lo n=>show decide _=_;simp [qC0]
 | enum a ts d r1=>
  obtain ⟨vs,e1,k1⟩:=qAf r1
  show (match qAH h a with | some xs=>_ | none=>_)=_
  rw [e1,qCq,qAC (reps_iff.mp k1)];simp
 | rvd a ts d r1=>show decide _=_;simp
 | zip a b ts us d1 d2 r1 r2=>
  obtain ⟨vs,e1,k1⟩:=qAf r1
  obtain ⟨ws,e2,k2⟩:=qAf r2
  show (match qAH h a,qAH h b with | some xs,some ys=>_ | _,_=>_)=_
  rw [e1,e2,List.length_zipWith,qAC (reps_iff.mp k1),qAC (reps_iff.mp k2)]
  simp
  omega
theorem qCV (R:RelM gl A X h M) {s:Src} {ts:List T} {d:qCc} (r:qB7 A X h s ts d) {i:Nat} {t:T} (ei:ts[i]?=some t):
  ∃ w e,qAa h i s=some (w,h++e)/\Rep A X (h++e) t w:=by
 cases r with
 | list a f vs ts q1 q2 q3=>
  obtain ⟨w,ew,q⟩:=qAh (reps_iff.mp q3) ei
  refine ⟨w,[],?_,by rw [List.append_nil];exact q⟩
  show (match qAH h a with | some xs=>_ | none=>_)=_
  rw [qAR q2];dsimp only;rw [ew,List.append_nil];rfl
 | cell n a vs ts q1 q2 q3=>
  obtain ⟨w,ew,q⟩:=qAh (reps_iff.mp q3) ei
  refine ⟨w,[],?_,by rw [List.append_nil];exact q⟩
  show (match qAH h a with | some xs=>_ | none=>_)=_
  rw [qAR q2];dsimp only;rw [ew,List.append_nil];rfl
 | tupl a vs ts q1 q2 q3=>
  obtain ⟨w,ew,q⟩:=qAh (reps_iff.mp q3) ei
  refine ⟨w,[],?_,by rw [List.append_nil];exact q⟩
  show (match qAT h a with | some xs=>_ | none=>_)=_
  rw [show qAT h a=some vs by unfold qAT;rw [q2]];dsimp only;rw [ew,List.append_nil];rfl
 | rng lo n=>
  have hi:i < n:=by have:=(List.getElem?_eq_some_iff.mp ei).1;simpa [qAZ] using this
  refine ⟨.int (lo + (i:Int)),[],?_,?_⟩
  ·show (if i < n then _ else _)=_
   rw [if_pos hi,List.append_nil]
  ·have:t=.v (.int (lo + (i:Int))):=by
    simp only [qAZ,List.getElem?_map,List.getElem?_range hi,Option.map_some,Option.some.injEq] at ei
    exact ei.symm
   rw [this]
   unfold Rep
   exact ⟨rfl,rfl⟩
 | rngd lo n=>
  have hi:i < n:=by have:=(List.getElem?_eq_some_iff.mp ei).1;simpa [qC0] using this
  refine ⟨.int (lo - (i:Int)),[],?_,?_⟩
  ·show (if i < n then _ else _)=_
   rw [if_pos hi,List.append_nil]
  ·have:t=.v (.int (lo - (i:Int))):=by
    simp only [qC0,List.getElem?_map,List.getElem?_range hi,Option.map_some,Option.some.injEq] at ei
    exact ei.symm
   rw [this]
   unfold Rep
   exact ⟨rfl,rfl⟩
 | enum a ts d r1=>
  obtain ⟨vs,e1,k1⟩:=qAf r1
  rw [qD2] at ei
  obtain ⟨x,ex,rfl⟩:=Option.map_eq_some_iff.mp ei
  obtain ⟨v,ev,qv⟩:=qAh (reps_iff.mp k1) ex
  refine ⟨.ref h.length,[.tup [.int (i:Int),v]],?_,?_⟩
  ·show (match qAH h a with | some xs=>_ | none=>_)=_
   rw [e1];dsimp only;rw [ev];rfl
  ·have f:=Frm.app A h [O.tup [.int (i:Int),v]]
   unfold Rep
   refine ⟨_,[.int (i:Int),v],rfl,fun z=>Nat.lt_irrefl _ (R.lt _ z),by simp,?_⟩
   unfold qAN
   refine ⟨.int (i:Int),[v],rfl,by unfold Rep;rw [Nat.zero_add];exact ⟨rfl,rfl⟩,?_⟩
   unfold qAN
   exact ⟨v,[],rfl,R.keep f qv,by unfold qAN;rfl⟩
 | rvd a ts d r1=>
  obtain ⟨vs,e1,k1⟩:=qAf r1
  have hi:i < ts.length:=by have:=(List.getElem?_eq_some_iff.mp ei).1;simpa using this
  rw [List.getElem?_reverse hi] at ei
  obtain ⟨w,ew,q⟩:=qAh (reps_iff.mp k1) ei
  refine ⟨w,[],?_,by rw [List.append_nil];exact q⟩
  show (if i < ts.length then _ else _)=_
  rw [if_pos hi,e1];dsimp only;rw [ew,List.append_nil];rfl
 | zip a b ts us d1 d2 r1 r2=>
  obtain ⟨vs,e1,k1⟩:=qAf r1
  obtain ⟨ws,e2,k2⟩:=qAf r2
  rw [List.getElem?_zipWith] at ei
  cases et:ts[i]? with
  | none=>rw [et] at ei;cases ei
  | some x=>
   cases eu:us[i]? with
   | none=>rw [et,eu] at ei;cases ei
   | some y=>
    rw [et,eu] at ei
    cases ei
    obtain ⟨v,ev,qv⟩:=qAh (reps_iff.mp k1) et
    obtain ⟨w,ew,qw⟩:=qAh (reps_iff.mp k2) eu
    refine ⟨.ref h.length,[.tup [v,w]],?_,?_⟩
    ·show (match qAH h a,qAH h b with | some xs,some ys=>_ | _,_=>_)=_
     rw [e1,e2];dsimp only;rw [ev,ew]
    ·have f:=Frm.app A h [O.tup [v,w]]
     unfold Rep
     refine ⟨_,[v,w],rfl,fun z=>Nat.lt_irrefl _ (R.lt _ z),by simp,?_⟩
     unfold qAN
     refine ⟨v,[w],rfl,R.keep f qv,?_⟩
     unfold qAN
     exact ⟨w,[],rfl,R.keep f qw,by unfold qAN;rfl⟩
theorem RelM.setX (R:RelM gl A X h M) {D:Nat} (hD:D∈X) (hA:D∉A) (o:O):RelM gl A X (h.set D o) M:=by
 have hn:∀ a o',a∉X -> h[a]?=some o' -> a∉X/\(h.set D o)[a]?=some o':=fun a o' x y=>⟨x,by rw [List.getElem?_set_ne (by rintro rfl;exact x hD)];exact y⟩
 refine ⟨R.len,R.nd,R.sub,fun a ha=>by simpa using R.lt a ha,fun n a e=>?_,fun g t e=>qAj (fun _ _ e=>e) hn t (R.glo g t e)⟩
 obtain ⟨ts,vs,e1,e2,e3⟩:=R.at_ n a e
 exact ⟨ts,vs,e1,by rw [List.getElem?_set_ne (by rintro rfl;exact hA (List.mem_of_getElem? e))];exact e2,qAQ (fun _ _ e=>e) hn ts e3⟩
theorem Sim.bindW {α β α2 β2:Type} {X':List Nat} {h1:AH} {Q:α -> β -> AH -> Mem -> Prop} {Q2:α2 -> β2 -> AH -> Mem -> Prop} {r:PR (α×Mem)} {rh:Res (β×AH)} {f:α×Mem -> PR (α2×Mem)} {g:β×AH -> Res (β2×AH)}
  (hX:∀ a∈X,a∈X') (hA:∀ a∈A,a∈X) (f0:Frm A h1 h)
  (s:Sim gl A X' h Q r rh) (k:∀ x M' y h',Frm A h h' -> RelM gl A X' h' M' -> Q x y h' M' -> Sim gl A X h1 Q2 (f (x,M')) (g (y,h'))):Sim gl A X h1 Q2 (r.bind f) (rh.bind g):=by
 cases r with
 | ok p=>
  obtain ⟨x,M'⟩:=p
  obtain ⟨y,h',rfl,f1,R1,q⟩:=s
  exact k x M' y h' f1 R1 q
 | exc c M'=>
  obtain ⟨h',rfl,f1,R1⟩:=s
  exact ⟨h',rfl,f0.trans f1,R1.weak hX hA⟩
 | stuck=>trivial
mutual
theorem qK2 {X X':List Nat} {h:AH}:∀ (t:T) {w:V} {f g:List Nat},FP X h t w f -> FP X' h t w g -> f=g
 | .v x,w,f,g,p,q=>by unfold FP at p q;rw [p.2,q.2]
 | .cell n,w,f,g,p,q=>by unfold FP at p;exact p.elim
 | .fz ts,w,f,g,p,q=>by unfold FP at p;exact p.elim
 | .ob o,w,f,g,p,q=>by unfold FP at p q;rw [p.2,q.2]
 | .lst ts,w,f,g,p,q=>by
  unfold FP at p q
  obtain ⟨a,vs,f',rfl,_,e1,k1,rfl⟩:=p
  obtain ⟨b,us,g',e,_,e2,k2,rfl⟩:=q
  cases e;rw [e1] at e2;cases e2
  rw [qDn ts k1 k2]
 | .tup ts,w,f,g,p,q=>by
  unfold FP at p q
  obtain ⟨a,vs,rfl,_,e1,k1⟩:=p
  obtain ⟨b,us,e,_,e2,k2⟩:=q
  cases e;rw [e1] at e2;cases e2
  exact qDn ts k1 k2
theorem qDn {X X':List Nat} {h:AH}:∀ (ts:List T) {ws:List V} {f g:List Nat},FPs X h ts ws f -> FPs X' h ts ws g -> f=g
 | [],w,f,g,p,q=>by unfold FPs at p q;rw [p.2,q.2]
 | t::ts,w,f,g,p,q=>by
  unfold FPs at p q
  obtain ⟨v,vs,f1,f2,rfl,a,b,rfl⟩:=p
  obtain ⟨v',vs',g1,g2,e,a',b',rfl⟩:=q
  cases e
  rw [qK2 t a a',qDn ts b b']
end
theorem qFS:∀ {ts:List T} {ws:List V} {fp f:List Nat} {t:T} {w:V},FPs X h ts ws fp -> FP X h t w f -> FPs X h (ts++[t]) (ws++[w]) (fp++f)
 | [],ws,fp,f,t,w,p,q=>by
  unfold FPs at p;obtain ⟨rfl,rfl⟩:=p
  show FPs X h [t] [w] f
  unfold FPs
  exact ⟨w,[],f,[],rfl,q,by unfold FPs;exact ⟨rfl,rfl⟩,by simp⟩
 | s::ts,ws,fp,f,t,w,p,q=>by
  unfold FPs at p
  obtain ⟨v,vs,f1,f2,rfl,a,b,rfl⟩:=p
  show FPs X h (s::(ts++[t])) (v::(vs++[w])) _
  unfold FPs
  exact ⟨v,vs++[w],f1,f2++f,rfl,a,qFS b q,by rw [List.append_assoc]⟩
end
section
variable {gl:List T} {A X:List Nat}
theorem qDy {s:Src} {its:List T} {d:qCc} {g:Tg} {c:TS -> Mem -> PR (Bool×Mem)} {c':List (Option V) -> AH -> Res (Bool×AH)} {e:TS -> Mem -> PR (TB×Mem)} {e':List (Option V) -> AH -> RV} {D:Nat} {h1:AH}
  (hc:∀ X h M σ σh,RelM gl A X h M -> qBj A X h σ σh -> Sim gl A X h (fun b b' _ _=>b=b') (c σ M) (c' σh h))
  (he:∀ X h M σ σh,RelM gl A X h M -> qBj A X h σ σh -> Sim gl A X h (QE gl A X h.length) (e σ M) (e' σh h))
  (hD:h1.length<=D) (hDX:D∉X) (hA:∀ a∈A,a∈X):∀ (r:List T) (i:Nat) (ys:List T) (ws:List V) (f:Bool) (fp:List Nat) (Y:List Nat) (σ:TS) (σh:List (Option V)) (M:Mem) (h:AH),
   its.drop i=r -> i<=its.length -> Y=D::X++fp -> Frm A h1 h -> RelM gl A Y h M -> qB7 A Y h s its d -> h[D]?=some (.lst false ws) -> qAN A (D::X) h ys ws ->
   (f=true -> FPs (D::X) h ys ws fp/\fp.Nodup/\∀ a∈fp,h1.length<=a) -> qBj A Y h σ σh ->
   Sim gl A X h1 (QE gl A X h1.length) (qAg d g c e r ys f σ M) (qEQ s g c' e' D r.length i ws σh h)
 | [],i,ys,ws,f,fp,Y,σ,σh,M,h,hr,hi,hY,fm,R,sr,eD,ry,hf,rs=>by
  have hi':i=its.length:=by
   have:=List.drop_eq_nil_iff.mp hr;omega
  subst hi'
  have hX:∀ a∈X,a∈D::X:=fun a z=>List.mem_cons_of_mem _ z
  have hXY:∀ a∈X,a∈Y:=fun a z=>by rw [hY];simp [z]
  have hn:∀ a o,a∉D::X -> h[a]?=some o -> a∉X/\h[a]?=some o:=fun a o x y=>⟨fun z=>x (hX _ z),y⟩
  refine ⟨.ref D,h,?_,fm,R.weak hXY hA,?_,fun e=>?_⟩
  ·show (if qBZ h its.length s then _ else _)=_
   rw [if_pos (qC6 sr)]
  ·show Rep A X h (.lst ys) _
   unfold Rep
   exact ⟨D,ws,rfl,hDX,eD,qAQ (fun _ _ e=>e) hn ys ry⟩
  ·obtain ⟨p,nd,l⟩:=hf e
   refine ⟨fp++[D],?_,?_,?_,?_⟩
   ·show FP X h (.lst ys) _ _
    unfold FP
    exact ⟨D,ws,fp,rfl,hDX,eD,qBL hn ys p,rfl⟩
   ·rw [List.nodup_append]
    refine ⟨nd,by simp,?_⟩
    rintro a ha b hb rfl
    simp at hb
    exact (qCS ys p a ha).1 (by rw [hb];exact List.mem_cons_self ..)
   ·intro a ha
    rcases List.mem_append.mp ha with z | z
    ·exact l a z
    ·simp at z;omega
   ·refine R.weak (fun a z=>?_) fun a z=>List.mem_append_left _ (hA a z)
    rw [hY]
    simp only [List.mem_append,List.mem_cons,List.mem_singleton] at z ⊢
    grind
 | x::r,i,ys,ws,f,fp,Y,σ,σh,M,h,hr,hi,hY,fm,R,sr,eD,ry,hf,rs=>by
  have hXY:∀ a∈X,a∈Y:=fun a z=>by rw [hY];simp [z]
  have hDY:D∈Y:=by rw [hY];simp
  have hDXY:∀ a∈D::X,a∈Y:=fun a z=>by rw [hY];exact List.mem_append_left _ z
  have hDA:D∉A:=fun z=>hDX (hA D z)
  have ex:its[i]?=some x:=by
   have:(its.drop i)[0]?=some x:=by rw [hr];rfl
   rwa [List.getElem?_drop,Nat.add_zero] at this
  have hi2:i + 1<=its.length:=(List.getElem?_eq_some_iff.mp ex).1
  have hr2:its.drop (i + 1)=r:=by
   rw [<- List.drop_drop,hr];rfl
  obtain ⟨w,ext,ey,rx⟩:=qCV R sr ex
  have fy:Frm A h (h++ext):=Frm.app A h ext
  rw [List.length_cons]
  unfold qAg qEQ
  rw [ey]
  dsimp only
  cases es:qBE g x σ with
  | none=>exact Sim.stuck
  | some σ1=>
   obtain ⟨σh1,esh,rs1⟩:=qBK es rx (R.keepS fy rs)
   rw [esh]
   dsimp only
   refine Sim.bindW hXY hA (fm.trans fy) (hc _ _ _ _ _ (R.up ext) rs1) ?_
   rintro b M2 b' h2 f2 R2 rfl
   have k2:Frm A h h2:=fy.trans f2
   have eD2:h2[D]?=some (.lst false ws):=(k2.2 D (qAK eD) hDA).trans eD
   have kN:∀ {h':AH},Frm A h h' -> ∀ a o,a∉D::X -> h[a]?=some o -> a∉D::X/\h'[a]?=some o:=fun f' a o x y=>⟨x,(f'.2 a (qAK y) fun z=>x (List.mem_cons_of_mem _ (hA _ z))).trans y⟩
   cases b with
   | true=>
    simp only [if_true]
    refine Sim.bindW hXY hA (fm.trans k2) (he _ _ _ _ _ R2 ((R.up ext).keepS f2 rs1)) ?_
    intro y M3 w3 h3 f3 R3 q3
    have k3:Frm A h h3:=k2.trans f3
    have eD3:h3[D]?=some (.lst false ws):=(k3.2 D (qAK eD) hDA).trans eD
    have lw:ys.length=ws.length:=qAC (reps_iff.mp ry)
    dsimp only
    by_cases hl:ys.length < lim/\qAd d M3=true
    ·rw [if_pos hl,if_pos ⟨eD3,by rw [<- lw];exact hl.1⟩]
     have hs:∀ (Z:List Nat),D∈Z -> ∀ a o,a∉Z -> h3[a]?=some o -> a∉Z/\(h3.set D (.lst false (ws++[w3])))[a]?=some o:=fun Z hZ a o x y=>⟨x,by rw [List.getElem?_set_ne (by rintro rfl;exact x hZ)];exact y⟩
     have hnD:∀ a o,a∉D::X -> h[a]?=some o -> a∉D::X/\(h3.set D (.lst false (ws++[w3])))[a]?=some o:=fun a o x y=>hs _ (List.mem_cons_self ..) a o x (kN k3 a o x y).2
     have ry4:qAN A (D::X) (h3.set D (.lst false (ws++[w3]))) (ys++[y.1]) (ws++[w3]):=
      reps_iff.mpr (qAr (reps_iff.mp (qAQ (fun _ _ e=>e) hnD ys ry)) ⟨w3,[],rfl,qAj (fun _ _ e=>e) (fun a o x y=>hs _ (List.mem_cons_self ..) a o x y) _ (qAj (fun _ _ e=>e) (fun a o x y=>⟨fun z=>x (hDXY _ z),y⟩) _ q3.1),rfl⟩)
     obtain ⟨fp2,hp2,R3',hlt2⟩:∃ fp2:List Nat,(y.2=true -> FP Y h3 y.1 w3 fp2/\fp2.Nodup)/\RelM gl A (Y++fp2) h3 M3/\∀ a∈fp2,h2.length<=a:=by
      cases hy2:y.2 with
      | true=>
       obtain ⟨fp2,a,b,c,d⟩:=q3.2 hy2
       exact ⟨fp2,fun _=>⟨a,b⟩,d,c⟩
      | false=>exact ⟨[],(fun z=>by cases z),by rw [List.append_nil];exact R3,fun a ha=>by simp at ha⟩
     have old:∀ {Z:List Nat} (_:∀ a∈Y,a∈Z) (a:Nat) o,a∉Y -> h2[a]?=some o -> a∉Y++fp2:=fun _ a o x y=>by
      rw [List.mem_append];rintro (z | z)
      ·exact x z
      ·have:=hlt2 a z;have:=qAK y;omega
     have R4:=R3'.setX (List.mem_append_left _ hDY) hDA (.lst false (ws++[w3]))
     have hnY:∀ a o,a∉Y -> h[a]?=some o -> a∉Y++fp2/\(h3.set D (.lst false (ws++[w3])))[a]?=some o:=fun a o x y=>⟨old (fun _ z=>z) a o x (R.keepN k2 a o x y).2,(hs Y hDY a o x (R.keepN k3 a o x y).2).2⟩
     have hn2:∀ a o,a∉Y -> h2[a]?=some o -> a∉Y++fp2/\(h3.set D (.lst false (ws++[w3])))[a]?=some o:=fun a o x y=>⟨old (fun _ z=>z) a o x y,(hs Y hDY a o x (R2.keepN f3 a o x y).2).2⟩
     refine qDy hc he hD hDX hA r (i + 1) (ys++[y.1]) (ws++[w3]) (f&&y.2) (fp++fp2) (Y++fp2) σ1 σh1 M3 _ hr2 hi2 (by rw [hY,List.append_assoc]) ((fm.trans k3).set (.inr hD) _) R4 ?_ ?_ ry4 ?_ ?_
     ·exact qDP sr hnY R4 hl.2
     ·rw [List.getElem?_set_self (qAK eD3)]
     ·intro ef
      rw [Bool.and_eq_true] at ef
      obtain ⟨p1,nd1,l1⟩:=hf ef.1
      obtain ⟨p2,nd2⟩:=hp2 ef.2
      refine ⟨qFS (qBL hnD ys p1) (qCn (fun a o x y=>hs _ (List.mem_cons_self ..) a o x y) _ (qCn (fun a o x y=>⟨fun z=>x (hDXY _ z),y⟩) _ p2)),?_,?_⟩
      ·rw [List.nodup_append]
       refine ⟨nd1,nd2,?_⟩
       rintro a ha b hb rfl
       exact (qFh y.1 p2 a hb).1 (by rw [hY];exact List.mem_append_right _ ha)
      ·intro a ha
       rcases List.mem_append.mp ha with z | z
       ·exact l1 a z
       ·have:=hlt2 a z
        have:=(fm.trans k2).1
        omega
     ·exact qA2 (fun _ _ e=>e) hn2 ((R.up ext).keepS f2 rs1)
    ·rw [if_neg hl]
     exact Sim.stuck
   | false=>
    dsimp only
    simp only [Bool.false_eq_true,if_false]
    by_cases hl:qAd d M2=true
    ·rw [if_pos hl,if_pos eD2]
     exact qDy hc he hD hDX hA r (i + 1) ys ws f fp Y σ1 σh1 M2 h2 hr2 hi2 hY (fm.trans k2) R2 (qEB sr (fun a o x y=>(R.keepN k2 a o x y).2) R2 hl) eD2 (qAQ (fun _ _ e=>e) (kN k2) ys ry)
      (fun ef=>by obtain ⟨a,b,c⟩:=hf ef;exact ⟨qBL (kN k2) ys a,b,c⟩) ((R.up ext).keepS f2 rs1)
    ·rw [if_neg hl]
     exact Sim.stuck
end
end PI
namespace PI
open L2 (V)
section
variable {gl:List T} {A X:List Nat} {h h':AH} {M M':Mem}
theorem qHZ {X':List Nat} {s:Src} {ts:List T} {d:qCc} (r:qB7 A X h s ts d) (hn:∀ a o,a∉X -> h[a]?=some o -> a∉X'/\h'[a]?=some o) (hc:∀ (n:Nat) a o,A[n]?=some a -> h[a]?=some o -> h'[a]?=some o):qB7 A X' h' s ts d:=by
 induction r with
 | list a f vs ts q1 q2 q3=>exact .list a f vs ts (hn _ _ q1 q2).1 (hn _ _ q1 q2).2 (qAQ (fun _ _ e=>e) hn ts q3)
 | cell n a vs ts q1 q2 q3=>exact .cell n a vs ts q1 (hc n a _ q1 q2) (qAQ (fun _ _ e=>e) hn ts q3)
 | tupl a vs ts q1 q2 q3=>exact .tupl a vs ts (hn _ _ q1 q2).1 (hn _ _ q1 q2).2 (qAQ (fun _ _ e=>e) hn ts q3)
 | rng lo n=>exact .rng lo n
 | rngd lo n=>exact .rngd lo n
 | enum a ts d _ i1=>exact .enum a ts d i1
 | rvd a ts d _ i1=>exact .rvd a ts d i1
 | zip a b ts us d1 d2 _ _ i1 i2=>exact .zip a b ts us d1 d2 i1 i2
theorem qEe {n:Nat} {r:PR (TB×Mem)} {rh:RV} (s:Sim gl A X h (QE gl A X n) r rh):Sim gl A X h (fun b b' _ _=>b=b') (pB r) (asB rh):=by
 refine Sim.bind s ?_
 intro x M1 w h1 f1 R1 q1
 obtain ⟨t,fr⟩:=x
 dsimp only
 split
 ·rename_i b
  cases qAn q1.1
  exact ⟨_,h1,rfl,Frm.refl A h1,R1,rfl⟩
 ·exact Sim.stuck
theorem qEI:∀ (xs:List V),T.lfs (xs.map .v)=true
 | []=>rfl
 | x::xs=>by show (T.lf (.v x)&&T.lfs (xs.map .v))=true;rw [qEI xs];rfl
theorem qDI (lo:Int) (n:Nat):T.lfs (qAZ lo n)=true:=by
 have e:qAZ lo n=(qAo lo n).map .v:=by unfold qAZ qAo;rw [List.map_map];rfl
 rw [e];exact qEI _
theorem qBX {A X:List Nat} {h:AH}:∀ {xs:List V},xs.all qAq=true -> qAN A X h (xs.map .v) xs
 | [],_=>by show qAN A X h [] [];unfold qAN;rfl
 | x::xs,f=>by
  rw [List.all_cons,Bool.and_eq_true] at f
  show qAN A X h (.v x::xs.map .v) _
  unfold qAN
  exact ⟨x,xs,rfl,by unfold Rep;exact ⟨rfl,f.1⟩,qBX f.2⟩
theorem qDK {α β:Type} {R:α -> β -> Prop} {xs:List α} {ys:List β} (k:Nat) (h:qBq R xs ys):qBq R (xs.eraseIdx k) (ys.eraseIdx k):=by
 rw [List.eraseIdx_eq_take_drop_succ,List.eraseIdx_eq_take_drop_succ]
 exact qAr (qBB _ h) (qCz _ h)
theorem qDw {α β:Type} {R:α -> β -> Prop} {xs:List α} {ys:List β} (h:qBq R xs ys):qBq R xs.dropLast ys.dropLast:=by
 rw [List.dropLast_eq_take,List.dropLast_eq_take,<- qAC h]
 exact qBB _ h
theorem qCh {α β:Type} {R:α -> β -> Prop}:∀ {xs:List α} {ys:List β},qBq R xs ys -> qBq R xs.reverse ys.reverse
 | [],_,h=>by cases h;rfl
 | x::xs,_,⟨v,vs,rfl,r,h⟩=>by
  rw [List.reverse_cons,List.reverse_cons]
  exact qAr (qCh h) ⟨v,[],rfl,r,rfl⟩
theorem qIH (R:RelM gl A X h M) {m:Mt} {n p:Nat} {ts:List T} {ws:List V} (ep:A[n]?=some p) (rs:qAN A X h ts ws):Sim gl A X h (QE gl A X h.length) (PR.ofO (qEG m n ts M)) (qBM m p ws h):=by
 obtain ⟨ts2,vs2,g1,g2,g3⟩:=R.at_ n p ep
 have hm:qAV h p=some vs2:=by unfold qAV;rw [g2]
 have l:=qAC (reps_iff.mp g3)
 cases em:qEG m n ts M with
 | none=>exact Sim.stuck
 | some r=>
  unfold qEG at em
  split at em
  ·unfold qAN at rs;subst rs
   rw [g1] at em
   dsimp only [Option.bind_some] at em
   obtain ⟨y,ey,rfl⟩:=Option.map_eq_some_iff.mp em
   obtain ⟨w,ew,rw2⟩:=qAh (reps_iff.mp g3) ey
   show Sim _ _ _ _ _ _ (match qAV h p with | some xs=>_ | none=>_)
   rw [hm]
   dsimp only
   rw [<- l,ew]
   obtain ⟨R4,f4⟩:=R.put ep (reps_iff.mpr (qDw (reps_iff.mp g3)))
   have r:=R.keep f4 rw2
   exact ⟨w,_,rfl,f4,R4,r,fun e=>Frs.of_lf R4 r e⟩
  ·rename_i i
   obtain ⟨w,rfl,a⟩:=qBS rs
   cases qAn a
   rw [g1] at em
   dsimp only [Option.bind_some] at em
   split at em
   ·rename_i hl
    obtain ⟨k,ek,em⟩:=Option.bind_eq_some_iff.mp em
    obtain ⟨y,ey,rfl⟩:=Option.map_eq_some_iff.mp em
    obtain ⟨w,ew,rw2⟩:=qAh (reps_iff.mp g3) ey
    show Sim _ _ _ _ _ _ (match qAV h p with | some xs=>_ | none=>_)
    rw [hm]
    dsimp only
    rw [<- l,if_pos hl,ek]
    dsimp only
    rw [ew]
    obtain ⟨R4,f4⟩:=R.put ep (reps_iff.mpr (qDK k (reps_iff.mp g3)))
    have r:=R.keep f4 rw2
    exact ⟨w,_,rfl,f4,R4,r,fun e=>Frs.of_lf R4 r e⟩
   ·cases em
  ·unfold qAN at rs;subst rs
   rw [g1] at em
   cases em
   show Sim _ _ _ _ _ _ (match qAV h p with | some xs=>_ | none=>_)
   rw [hm]
   obtain ⟨R4,f4⟩:=R.put ep (reps_iff.mpr (qCh (reps_iff.mp g3)))
   have r:Rep A X (h.set p (.lst false vs2.reverse)) (.v .non) .non:=by unfold Rep;exact ⟨rfl,rfl⟩
   exact ⟨_,_,rfl,f4,R4,r,fun e=>Frs.of_lf R4 r e⟩
  ·unfold qAN at rs;subst rs
   rw [g1] at em
   cases em
   show Sim _ _ _ _ _ _ (match qAV h p with | some xs=>_ | none=>_)
   rw [hm]
   obtain ⟨R4,f4⟩:=R.put (ts:=[]) (vs:=[]) ep (by unfold qAN;rfl)
   have r:Rep A X (h.set p (.lst false [])) (.v .non) .non:=by unfold Rep;exact ⟨rfl,rfl⟩
   exact ⟨_,_,rfl,f4,R4,r,fun e=>Frs.of_lf R4 r e⟩
  ·rename_i i
   obtain ⟨w,rfl,a⟩:=qBS rs
   cases qAn a
   rw [g1] at em
   dsimp only [Option.bind_some] at em
   split at em
   ·rename_i hl
    obtain ⟨k,ek,rfl⟩:=Option.map_eq_some_iff.mp em
    obtain ⟨is,eis,ek⟩:=Option.bind_eq_some_iff.mp ek
    show Sim _ _ _ _ _ _ (match qAV h p with | some xs=>_ | none=>_)
    rw [hm]
    dsimp only
    rw [<- l,if_pos hl,qCQ g3 eis]
    dsimp only [Option.bind_some]
    rw [ek]
    obtain ⟨R4,f4⟩:=R.put ep (reps_iff.mpr (qDK k (reps_iff.mp g3)))
    have r:Rep A X (h.set p (.lst false (vs2.eraseIdx k))) (.v .non) .non:=by unfold Rep;exact ⟨rfl,rfl⟩
    exact ⟨_,_,rfl,f4,R4,r,fun e=>Frs.of_lf R4 r e⟩
   ·cases em
  ·rename_i y
   obtain ⟨w,rfl,a⟩:=qBS rs
   have fy:=qBV a
   cases qAn a
   rw [g1] at em
   dsimp only [Option.bind_some] at em
   obtain ⟨zs,ez,rfl⟩:=Option.map_eq_some_iff.mp em
   obtain ⟨rfl,kk⟩:=qCe g3 ez
   show Sim _ _ _ _ _ _ (match qAV h p with | some xs=>_ | none=>_)
   rw [hm]
   dsimp only
   rw [if_pos (by rw [fy,kk];rfl)]
   exact qAD R rfl
  ·rename_i t
   obtain ⟨w,rfl,a⟩:=qBS rs
   rw [g1] at em
   dsimp only [Option.bind_some] at em
   obtain ⟨ys,ey,em⟩:=Option.bind_eq_some_iff.mp em
   split at em
   ·rename_i hc
    cases em
    obtain ⟨q,us,rfl,m2,k2⟩:=qF8 R a ey
    have hne:p≠q:=by
     rintro rfl
     cases t with
     | cell k=>
      unfold Rep at a;obtain ⟨a',ea,e⟩:=a;cases e
      have:n=k:=(List.getElem?_inj (List.getElem?_eq_some_iff.mp ep).1 R.nd).mp (ep.trans ea.symm)
      have hc1:=hc.1
      unfold T.isC at hc1
      simp at hc1
      exact hc1 this.symm
     | lst xs=>unfold Rep at a;obtain ⟨a',vs',e,z,_⟩:=a;cases e;exact z (R.sub _ (List.mem_of_getElem? ep))
     | _=>cases ey
    show Sim _ _ _ _ _ _ (match qAV h p with | some xs=>_ | none=>_)
    rw [hm]
    dsimp only
    rw [m2]
    dsimp only
    rw [if_pos ⟨hne,by rw [<- l,<- qAC (reps_iff.mp k2)];exact hc.2⟩]
    obtain ⟨R4,f4⟩:=R.put ep (reps_iff.mpr (qAr (reps_iff.mp g3) (reps_iff.mp k2)))
    have r:Rep A X (h.set p (.lst false (vs2++us))) (.v .non) .non:=by unfold Rep;exact ⟨rfl,rfl⟩
    exact ⟨_,_,rfl,f4,R4,r,fun e=>Frs.of_lf R4 r e⟩
   ·cases em
  ·cases em
theorem qJO (R:RelM gl A X h M) {t:T} {w:V} {s:List T×qCc} (r:Rep A X h t w) (e:qEh M t=some s):∃ p sh,w=.ref p/\(match h[p]? with | some (.lst _ _)=>Res.ok (Src.list p,h) | some (.tup _)=>.ok (.tupl p,h) | _=>.stuck)=.ok (sh,h)/\qB7 A X h sh s.1 s.2:=by
 cases t with
 | v x=>cases e
 | cell n=>
  unfold Rep at r;obtain ⟨a,ea,rfl⟩:=r
  obtain ⟨ts,vs,e1,e2,e3⟩:=R.at_ n a ea
  unfold qEh at e;dsimp only at e;rw [e1] at e;cases e
  exact ⟨a,_,rfl,by rw [e2],.cell n a vs ts ea e2 e3⟩
 | fz xs=>unfold Rep at r;obtain ⟨a,vs,rfl,q,k,z⟩:=r;cases e;exact ⟨a,_,rfl,by rw [k],.list a true vs xs q k z⟩
 | lst xs=>unfold Rep at r;obtain ⟨a,vs,rfl,q,k,z⟩:=r;cases e;exact ⟨a,_,rfl,by rw [k],.list a false vs xs q k z⟩
 | tup xs=>unfold Rep at r;obtain ⟨a,vs,rfl,q,k,z⟩:=r;cases e;exact ⟨a,_,rfl,by rw [k],.tupl a vs xs q k z⟩
 | ob o=>cases e
theorem qDq (R:RelM gl A X h M) {t:T} {w:V} {s:List T×qCc} (r:Rep A X h t w) (e:qF5 M t=some s):∃ p vs,w=.ref p/\qAH h p=some vs/\qB7 A X h (.list p) s.1 s.2:=by
 cases t with
 | v x=>cases e
 | cell n=>
  unfold Rep at r;obtain ⟨a,ea,rfl⟩:=r
  obtain ⟨ts,vs,e1,e2,e3⟩:=R.at_ n a ea
  unfold qF5 at e;dsimp only at e;rw [e1] at e;cases e
  exact ⟨a,_,rfl,qAR e2,.cell n a vs ts ea e2 e3⟩
 | fz xs=>unfold Rep at r;obtain ⟨a,vs,rfl,q,k,z⟩:=r;cases e;exact ⟨a,_,rfl,qAR k,.list a true vs xs q k z⟩
 | lst xs=>unfold Rep at r;obtain ⟨a,vs,rfl,q,k,z⟩:=r;cases e;exact ⟨a,_,rfl,qAR k,.list a false vs xs q k z⟩
 | tup xs=>cases e
 | ob o=>cases e
theorem QEs.len {n:Nat} {xs:List TB} {ws:List V} (q:QEs gl A X n xs ws h M):xs.length=ws.length:=by
 have:=qAC (reps_iff.mp q.1)
 simpa using this
end
section
variable {gl:List T} {P:Nat -> List T -> Mem -> PR (TB×Mem)} {F:Nat -> List V -> AH -> RV}
variable (hF:∀ f ts ws A X h M,RelM gl A X h M -> qAN A X h ts ws -> Sim gl A X h (QE gl A X h.length) (P f ts M) (F f ws h))
include hF
mutual
theorem qAO:∀ (e:E) (A X:List Nat) (h:AH) (M:Mem) (σ:TS) (σh:List (Option V)),RelM gl A X h M -> qBj A X h σ σh -> Sim gl A X h (QE gl A X h.length) (pe gl P e σ M) (ev F e σh h)
 | .var i,A,X,h,M,σ,σh,R,rs=>by
  rw [pe,ev];dsimp only
  split
  ·rename_i t e
   obtain ⟨w,ew,r⟩:=qDY rs e
   rw [ew]
   exact qDm R r
  ·exact Sim.stuck
 | .dnew,A,X,h,M,σ,σh,R,rs=>by
  unfold pe ev
  have r:Rep A X (h++[O.ob (.dct [])]) (.ob (.dct [])) (.ref h.length):=by
   unfold Rep
   exact ⟨h.length,rfl,fun z=>by have:=R.lt _ z;omega,by simp⟩
  exact ⟨_,_,rfl,Frm.app A h _,R.up _,r,fun _=>Frs.of_lf (R.up _) r rfl⟩
 | .cst v,A,X,h,M,σ,σh,R,rs=>by
  rw [pe,ev];dsimp only
  split
  ·rename_i e;exact qAD R e
  ·exact Sim.stuck
 | .glob g,A,X,h,M,σ,σh,R,rs=>by
  rw [pe,ev];dsimp only
  split
  ·rename_i t e;exact qDm R (R.glo g t e)
  ·exact Sim.stuck
 | .bin op a b,A,X,h,M,σ,σh,R,rs=>by
  rw [pe,ev];dsimp only
  refine Sim.bind (qAO a A X h M σ σh R rs) ?_
  intro x M1 v h1 f1 R1 q1;dsimp only
  refine Sim.bind (qAO b A X h1 M1 σ σh R1 (R.keepS f1 rs)) ?_
  intro y M2 w h2 f2 R2 q2;dsimp only
  exact Sim.ofO fun r er=>(qJQ R2 er (R1.keep f2 q1.1) q2.1).le (Nat.le_trans f1.1 f2.1)
 | .neg a,A,X,h,M,σ,σh,R,rs=>by
  rw [pe,ev];dsimp only
  refine Sim.bind (qAO a A X h M σ σh R rs) ?_
  intro x M1 v h1 f1 R1 q1;dsimp only
  obtain ⟨t,fr⟩:=x
  dsimp only
  split
  ·cases qAn q1.1;exact qAD R1 rfl
  ·exact Sim.stuck
 | .cmp op a b,A,X,h,M,σ,σh,R,rs=>by
  rw [pe,ev];dsimp only
  refine Sim.bind (qAO a A X h M σ σh R rs) ?_
  intro x M1 v h1 f1 R1 q1;dsimp only
  refine Sim.bind (qAO b A X h1 M1 σ σh R1 (R.keepS f1 rs)) ?_
  intro y M2 w h2 f2 R2 q2;dsimp only
  refine Sim.ofO fun r er=>?_
  unfold qG3
  rw [qCK R2 (R1.keep f2 q1.1) q2.1 er]
  exact qAD R2 rfl
 | .cmp2 o1 o2 a b c,A,X,h,M,σ,σh,R,rs=>by
  rw [pe,ev];dsimp only
  refine Sim.bind (qAO a A X h M σ σh R rs) ?_
  intro x M1 v h1 f1 R1 q1;dsimp only
  refine Sim.bind (qAO b A X h1 M1 σ σh R1 (R.keepS f1 rs)) ?_
  intro y M2 w h2 f2 R2 q2;dsimp only
  refine Sim.ofO fun r er=>?_
  rw [qCK R2 (R1.keep f2 q1.1) q2.1 er]
  cases r with
  | true=>
   simp only [if_true]
   refine Sim.bind (qAO c A X h2 M2 σ σh R2 (R1.keepS f2 (R.keepS f1 rs))) ?_
   intro z M3 u h3 f3 R3 q3;dsimp only
   refine Sim.ofO fun r er=>?_
   unfold qG3
   rw [qCK R3 (R2.keep f3 q2.1) q3.1 er]
   exact qAD R3 rfl
  | false=>exact qAD R2 rfl
 | .cmp3 o1 o2 o3 a b c d,A,X,h,M,σ,σh,R,rs=>by
  rw [pe,ev];dsimp only
  refine Sim.bind (qAO a A X h M σ σh R rs) ?_
  intro x M1 v h1 f1 R1 q1;dsimp only
  refine Sim.bind (qAO b A X h1 M1 σ σh R1 (R.keepS f1 rs)) ?_
  intro y M2 w h2 f2 R2 q2;dsimp only
  refine Sim.ofO fun r er=>?_
  rw [qCK R2 (R1.keep f2 q1.1) q2.1 er]
  cases r with
  | true=>
   simp only [if_true]
   refine Sim.bind (qAO c A X h2 M2 σ σh R2 (R1.keepS f2 (R.keepS f1 rs))) ?_
   intro z M3 u h3 f3 R3 q3;dsimp only
   refine Sim.ofO fun r er=>?_
   rw [qCK R3 (R2.keep f3 q2.1) q3.1 er]
   cases r with
   | true=>
    simp only [if_true]
    refine Sim.bind (qAO d A X h3 M3 σ σh R3 (R2.keepS f3 (R1.keepS f2 (R.keepS f1 rs)))) ?_
    intro z4 M4 u4 h4 f4 R4 q4;dsimp only
    refine Sim.ofO fun r er=>?_
    unfold qG3
    rw [qCK R4 (R3.keep f4 q3.1) q4.1 er]
    exact qAD R4 rfl
   | false=>exact qAD R3 rfl
  | false=>exact qAD R2 rfl
 | .and a b,A,X,h,M,σ,σh,R,rs=>by
  rw [pe,ev];dsimp only
  refine Sim.bind (qEe (qAO a A X h M σ σh R rs)) ?_
  rintro x M1 v h1 f1 R1 rfl;dsimp only
  cases x with
  | true=>simp only [if_true];exact (qAO b A X h1 M1 σ σh R1 (R.keepS f1 rs)).le f1.1
  | false=>exact qAD R1 rfl
 | .or a b,A,X,h,M,σ,σh,R,rs=>by
  rw [pe,ev];dsimp only
  refine Sim.bind (qEe (qAO a A X h M σ σh R rs)) ?_
  rintro x M1 v h1 f1 R1 rfl;dsimp only
  cases x with
  | false=>simp only [Bool.false_eq_true,if_false];exact (qAO b A X h1 M1 σ σh R1 (R.keepS f1 rs)).le f1.1
  | true=>exact qAD R1 rfl
 | .not a,A,X,h,M,σ,σh,R,rs=>by
  rw [pe,ev];dsimp only
  refine Sim.bind (qEe (qAO a A X h M σ σh R rs)) ?_
  rintro x M1 v h1 f1 R1 rfl;dsimp only
  exact qAD R1 rfl
 | .ite c a b,A,X,h,M,σ,σh,R,rs=>by
  rw [pe,ev];dsimp only
  refine Sim.bind (qEe (qAO c A X h M σ σh R rs)) ?_
  rintro x M1 v h1 f1 R1 rfl;dsimp only
  cases x with
  | true=>simp only [if_true];exact (qAO a A X h1 M1 σ σh R1 (R.keepS f1 rs)).le f1.1
  | false=>simp only [Bool.false_eq_true,if_false];exact (qAO b A X h1 M1 σ σh R1 (R.keepS f1 rs)).le f1.1
 | .call f as,A,X,h,M,σ,σh,R,rs=>by
  rw [pe,ev];dsimp only
  refine Sim.bind (qBn as A X h M σ σh R rs) ?_
  intro x M1 v h1 f1 R1 q1;dsimp only
  exact (hF f _ _ A X h1 M1 R1 q1.1).nx.le f1.1
 | .blt f as,A,X,h,M,σ,σh,R,rs=>by
  rw [pe,ev];dsimp only
  refine Sim.bind (qBn as A X h M σ σh R rs) ?_
  intro x M1 v h1 f1 R1 q1;dsimp only
  exact Sim.ofO fun r er=>(qJq R1 q1.1 er).le f1.1
 | .isi a ts,A,X,h,M,σ,σh,R,rs=>by
  rw [pe,ev];dsimp only
  refine Sim.bind (qAO a A X h M σ σh R rs) ?_
  intro x M1 v h1 f1 R1 q1;dsimp only
  refine Sim.ofO fun r er=>?_
  rw [qHm R1 q1.1 er]
  exact qAD R1 rfl
 | .stp a e,A,X,h,M,σ,σh,R,rs=>by
  rw [pe,ev];dsimp only
  refine Sim.bind (qAO a A X h M σ σh R rs) ?_
  intro x M1 v h1 f1 R1 q1;dsimp only
  refine Sim.bind (qAO e A X h1 M1 σ σh R1 (R.keepS f1 rs)) ?_
  intro y M2 w h2 f2 R2 q2;dsimp only
  obtain ⟨ty,fy⟩:=y
  dsimp only
  split
  ·rename_i i
   cases qAn q2.1
   refine Sim.ofO fun xs ex=>?_
   obtain ⟨p,vs,f,rfl,k1,k2⟩:=qAz R2 (R1.keep f2 q1.1) ex
   dsimp only
   rw [qAR k1]
   dsimp only
   by_cases i1:i=1
   ·rw [if_pos i1,if_pos i1];exact (qDV R2 k2).le (Nat.le_trans f1.1 f2.1)
   ·rw [if_neg i1,if_neg i1]
    by_cases i2:i=-1
    ·rw [if_pos i2,if_pos i2];exact (qDV R2 (reps_iff.mpr (qCh (reps_iff.mp k2)))).le (Nat.le_trans f1.1 f2.1)
    ·rw [if_neg i2];exact Sim.stuck
  ·exact Sim.stuck
 | .idx a b,A,X,h,M,σ,σh,R,rs=>by
  rw [pe,ev];dsimp only
  refine Sim.bind (qAO a A X h M σ σh R rs) ?_
  intro x M1 v h1 f1 R1 q1;dsimp only
  refine Sim.bind (qAO b A X h1 M1 σ σh R1 (R.keepS f1 rs)) ?_
  intro y M2 w h2 f2 R2 q2;dsimp only
  refine Sim.ofO fun r er=>?_
  obtain ⟨ty,fy⟩:=y
  unfold qF2 at er
  dsimp only at er
  split at er
  ·rename_i i
   cases qAn q2.1
   obtain ⟨xs,e1,er⟩:=Option.bind_eq_some_iff.mp er
   obtain ⟨j,e2,er⟩:=Option.bind_eq_some_iff.mp er
   obtain ⟨t,e3,rfl⟩:=Option.map_eq_some_iff.mp er
   obtain ⟨p,vs,rfl,k1,k2⟩:=qFY R2 (R1.keep f2 q1.1) e1
   obtain ⟨u,e4,k3⟩:=qAh (reps_iff.mp k2) e3
   dsimp only
   rw [k1]
   dsimp only
   rw [<- qAC (reps_iff.mp k2),e2]
   dsimp only [Option.bind_some]
   rw [e4]
   exact qDm R2 k3
  ·cases er
 | .index a b,A,X,h,M,σ,σh,R,rs=>by
  rw [pe,ev];dsimp only
  refine Sim.bind (qAO a A X h M σ σh R rs) ?_
  intro x M1 v h1 f1 R1 q1;dsimp only
  refine Sim.ofO fun xs ex=>?_
  obtain ⟨p,vs,rfl,k1,k2⟩:=qIb R1 q1.1 ex
  dsimp only [qFq]
  rw [k1]
  dsimp only
  refine Sim.bind (qAO b A X h1 M1 σ σh R1 (R.keepS f1 rs)) ?_
  intro y M2 w h2 f2 R2 q2;dsimp only
  refine Sim.ofO fun r er=>?_
  unfold qGl at er
  obtain ⟨c,ec,er⟩:=Option.bind_eq_some_iff.mp er
  obtain ⟨ts,et,er⟩:=Option.bind_eq_some_iff.mp er
  obtain ⟨zs,ez,er⟩:=Option.bind_eq_some_iff.mp er
  obtain ⟨j,ej,rfl⟩:=Option.map_eq_some_iff.mp er
  obtain ⟨y1,y2⟩:=y
  dsimp only at ec q2
  cases qAY ec;cases qAn q2.1
  obtain ⟨p',vs',hp',k1',k2'⟩:=qIb R2 (R1.keep f2 q1.1) et
  cases hp'
  obtain ⟨rfl,kk⟩:=qCe k2' ez
  have fx:=qBV q2.1
  unfold qFM
  rw [k1']
  dsimp only
  rw [if_pos (by rw [fx,kk];rfl),ej]
  exact qAD R2 rfl
 | .rev a,A,X,h,M,σ,σh,R,rs=>by
  rw [pe,ev];dsimp only
  refine Sim.bind (qAO a A X h M σ σh R rs) ?_
  intro x M1 v h1 f1 R1 q1;dsimp only
  refine Sim.ofO fun xs ex=>?_
  obtain ⟨p,vs,f,rfl,k1,k2⟩:=qAz R1 q1.1 ex
  show Sim _ _ _ _ _ _ (match qAH h1 p with | some xs=>_ | none=>_)
  rw [qAR k1]
  exact (qDV R1 (reps_iff.mpr (qCh (reps_iff.mp k2)))).le f1.1
 | .sl a lo hi,A,X,h,M,σ,σh,R,rs=>by
  rw [pe,ev];dsimp only
  refine Sim.bind (qAO a A X h M σ σh R rs) ?_
  intro x M1 v h1 f1 R1 q1;dsimp only
  refine Sim.bind (qBn lo A X h1 M1 σ σh R1 (R.keepS f1 rs)) ?_
  intro y M2 w h2 f2 R2 q2;dsimp only
  refine Sim.bind (qBn hi A X h2 M2 σ σh R2 (R1.keepS f2 (R.keepS f1 rs))) ?_
  intro z M3 u h3 f3 R3 q3;dsimp only
  refine Sim.ofO fun xs ex=>Sim.ofO fun l el=>Sim.ofO fun m em=>?_
  rw [qCQ (R2.keeps f3 q2.1) el,qCQ q3.1 em]
  have rp:=R2.keep f3 (R1.keep f2 q1.1)
  refine Sim.ofO fun r er=>?_
  refine Sim.le ?_ (Nat.le_trans f1.1 (Nat.le_trans f2.1 f3.1))
  obtain ⟨x1,x2⟩:=x
  dsimp only at ex er rp ⊢
  cases x1 with
  | v x=>cases ex
  | ob o=>cases ex
  | cell n=>cases er;obtain ⟨p,vs,f,rfl,k1,k2⟩:=qAz R3 rp ex;dsimp only;rw [qAR k1];exact qDV R3 (qEC k2)
  | fz xs=>cases er;obtain ⟨p,vs,f,rfl,k1,k2⟩:=qAz R3 rp ex;dsimp only;rw [qAR k1];exact qDV R3 (qEC k2)
  | lst xs=>cases er;obtain ⟨p,vs,f,rfl,k1,k2⟩:=qAz R3 rp ex;dsimp only;rw [qAR k1];exact qDV R3 (qEC k2)
  | tup ts=>
   cases ex
   unfold Rep at rp
   obtain ⟨a,vs,rfl,_,q,kk⟩:=rp
   have ln:=qAC (reps_iff.mp kk)
   dsimp only
   rw [show qAH h3 a=none by unfold qAH;rw [q],show qAT h3 a=some vs by unfold qAT;rw [q]]
   dsimp only
   unfold qJR at er
   dsimp only at er
   rw [ln] at er
   split at er
   ·cases er
   ·rename_i hw
    cases er
    rw [if_neg hw]
    exact qDx R3 (qEC kk) fun e=>Frss.of_lf R3 (qEC kk) e
 | .lst as,A,X,h,M,σ,σh,R,rs=>by
  rw [pe,ev];dsimp only
  refine Sim.bind (qBn as A X h M σ σh R rs) ?_
  intro x M1 v h1 f1 R1 q1;dsimp only
  rw [<- q1.len]
  split
  ·exact qC1 R1 q1.1 f1.1 q1.2
  ·exact Sim.stuck
 | .tup as,A,X,h,M,σ,σh,R,rs=>by
  rw [pe,ev];dsimp only
  refine Sim.bind (qBn as A X h M σ σh R rs) ?_
  intro x M1 v h1 f1 R1 q1;dsimp only
  rw [<- q1.len]
  split
  ·exact qDx R1 q1.1 q1.2
  ·exact Sim.stuck
 | .comp it src g c e,A,X,h,M,σ,σh,R,rs=>by
  rw [pe,ev];dsimp only
  refine Sim.bind (qGX it A X h M σ σh R rs) ?_
  intro s M1 sh h1 f1 R1 q1;dsimp only
  have hn:∀ a o,a∉X -> h1[a]?=some o -> a∉h1.length::X/\(h1++[O.lst false []])[a]?=some o:=fun a o x y=>⟨by
   rw [List.mem_cons];rintro (z | z)
   ·have:=qAK y;omega
   ·exact x z,by rw [List.getElem?_append_left (qAK y)];exact y⟩
  have sr:qB7 A (h1.length::X) (h1++[O.lst false []]) sh s.1 s.2:=qHZ q1 hn fun n a o _ y=>by rw [List.getElem?_append_left (qAK y)];exact y
  rw [qDr sr]
  dsimp only
  refine (qDy (its:=s.1) (fun X h M σ σh R rs=>qLW c A X h M σ σh R rs) (fun X h M σ σh R rs=>qAO e A X h M σ σh R rs) (Nat.le_refl h1.length) (fun z=>Nat.lt_irrefl _ (R1.lt _ z)) R1.sub s.1 0 [] [] true [] (h1.length::X) _ _ M1 _ rfl (Nat.zero_le _) (by simp) (Frm.app A h1 _) (R1.addX fun a=>List.mem_cons) sr (by simp) (by unfold qAN;rfl) ?_ ?_).le f1.1
  ·exact fun _=>⟨by unfold FPs;exact ⟨rfl,rfl⟩,List.nodup_nil,fun a ha=>by simp at ha⟩
  ·exact qA2 (fun _ _ e=>e) hn (qCI (R.keepS f1 rs) src)
 | .app a b,A,X,h,M,σ,σh,R,rs=>by
  rw [pe,ev];dsimp only
  refine Sim.bind (qAO a A X h M σ σh R rs) ?_
  intro x M1 v h1 f1 R1 q1;dsimp only
  obtain ⟨t,fr⟩:=x
  dsimp only
  split
  ·rename_i n
   have q:=q1.1
   unfold Rep at q
   obtain ⟨p,ep,rfl⟩:=q
   obtain ⟨ts,vs,e1,e2,e3⟩:=R1.at_ n p ep
   dsimp only
   rw [qAR e2]
   dsimp only
   refine Sim.bind (qAO b A X h1 M1 σ σh R1 (R.keepS f1 rs)) ?_
   intro y M2 w h2 f2 R2 q2;dsimp only
   obtain ⟨ts2,vs2,g1,g2,g3⟩:=R2.at_ n p ep
   rw [g1,show qAV h2 p=some vs2 by unfold qAV;rw [g2]]
   dsimp only
   rw [<- qAC (reps_iff.mp g3)]
   split
   ·have r1:qBq (Rep A X h2) [y.1] [w]:=⟨w,[],rfl,q2.1,rfl⟩
    obtain ⟨R4,f4⟩:=R2.put ep (reps_iff.mpr (qAr (reps_iff.mp g3) r1))
    have r:Rep A X (h2.set p (.lst false (vs2++[w]))) (.v .non) .non:=by unfold Rep;exact ⟨rfl,rfl⟩
    exact ⟨.non,_,rfl,f4,R4,r,fun _=>Frs.of_lf R4 r rfl⟩
   ·exact Sim.stuck
  ·exact Sim.stuck
 | .nset a,A,X,h,M,σ,σh,R,rs=>by
  rw [pe,ev];dsimp only
  refine Sim.bind (qAO a A X h M σ σh R rs) ?_
  intro x M1 v h1 f1 R1 q1;dsimp only
  obtain ⟨t,fr⟩:=x
  dsimp only
  split
  ·rename_i is eis
   obtain ⟨xs,ex,ei⟩:=Option.bind_eq_some_iff.mp eis
   obtain ⟨b,vs,f,rfl,g1,g2⟩:=qAz R1 q1.1 ex
   dsimp only
   rw [qAR g1]
   dsimp only
   rw [qCQ g2 ei]
   dsimp only
   split
   ·exact (qAD R1 rfl).le f1.1
   ·exact Sim.stuck
  ·exact Sim.stuck
 | .lrng2 a b,A,X,h,M,σ,σh,R,rs=>by
  rw [pe,ev];dsimp only
  refine Sim.bind (qAO a A X h M σ σh R rs) ?_
  intro x M1 v h1 f1 R1 q1;dsimp only
  refine (Sim.bind (qAO b A X h1 M1 σ σh R1 (R.keepS f1 rs)) ?_).le f1.1
  intro y M2 w h2 f2 R2 q2;dsimp only
  obtain ⟨t,fr⟩:=x
  obtain ⟨u,fu⟩:=y
  dsimp only
  split
  ·rename_i i j
   cases qAn q1.1
   cases qAn q2.1
   show Sim _ _ _ _ _ _ (if -1000000<=i/\-1000000<=j/\i<=100000/\j<=100000/\j - i<=100000 then newL (qAo i (j - i).toNat) h2 else .stuck)
   split
   ·have r:qAN A X h2 (qAZ i (j - i).toNat) (qAo i (j - i).toNat):=by
     have e:qAZ i (j - i).toNat=(qAo i (j - i).toNat).map .v:=by unfold qAZ qAo;rw [List.map_map];rfl
     rw [e]
     exact qBX (by simp [qAo,qAq])
    exact (qC1 (f:=true) R2 r (Nat.le_refl _) fun _=>Frss.of_lf R2 r (qDI _ _)).le f2.1
   ·exact Sim.stuck
  ·exact Sim.stuck
 | .lrng a,A,X,h,M,σ,σh,R,rs=>by
  rw [pe,ev];dsimp only
  refine Sim.bind (qAO a A X h M σ σh R rs) ?_
  intro x M1 v h1 f1 R1 q1;dsimp only
  obtain ⟨t,fr⟩:=x
  dsimp only
  split
  ·rename_i j
   cases qAn q1.1
   dsimp only
   split
   ·have r:qAN A X h1 (qAZ 0 j.toNat) (qAo 0 j.toNat):=by
     have e:qAZ 0 j.toNat=(qAo 0 j.toNat).map .v:=by unfold qAZ qAo;rw [List.map_map];rfl
     rw [e]
     exact qBX (by simp [qAo,qAq])
    exact (qC1 (f:=true) R1 r (Nat.le_refl _) fun _=>Frss.of_lf R1 r (qDI 0 _)).le f1.1
   ·exact Sim.stuck
  ·exact Sim.stuck
 | .meth m a as,A,X,h,M,σ,σh,R,rs=>by
  rw [pe,ev];dsimp only
  refine Sim.bind (qAO a A X h M σ σh R rs) ?_
  intro x M1 v h1 f1 R1 q1;dsimp only
  obtain ⟨t,fr⟩:=x
  dsimp only
  split
  ·rename_i n
   have q:=q1.1
   unfold Rep at q
   obtain ⟨p,ep,rfl⟩:=q
   obtain ⟨ts,vs,e1,e2,e3⟩:=R1.at_ n p ep
   dsimp only
   rw [qAR e2]
   dsimp only
   refine Sim.bind (qBn as A X h1 M1 σ σh R1 (R.keepS f1 rs)) ?_
   intro y M2 w h2 f2 R2 q2;dsimp only
   exact (qIH R2 ep q2.1).le (Nat.le_trans f1.1 f2.1)
  ·exact Sim.stuck
theorem qBn:∀ (e:Es) (A X:List Nat) (h:AH) (M:Mem) (σ:TS) (σh:List (Option V)),RelM gl A X h M -> qBj A X h σ σh -> Sim gl A X h (QEs gl A X h.length) (pes gl P e σ M) (evs F e σh h)
 | .nil,A,X,h,M,σ,σh,R,rs=>by
  rw [pes,evs]
  have r:qAN A X h [] []:=by unfold qAN;rfl
  exact ⟨[],h,rfl,Frm.refl A h,R,r,fun _=>Frss.of_lf R r rfl⟩
 | .cons a as,A,X,h,M,σ,σh,R,rs=>by
  rw [pes,evs];dsimp only
  refine Sim.bind (qAO a A X h M σ σh R rs) ?_
  intro x M1 v h1 f1 R1 q1;dsimp only
  obtain ⟨fp1,hp1,R1',hlt1⟩:∃ fp1:List Nat,(x.2=true -> FP X h1 x.1 v fp1/\fp1.Nodup)/\RelM gl A (X++fp1) h1 M1/\∀ a∈fp1,h.length<=a:=by
   cases hx2:x.2 with
   | true=>
    obtain ⟨fp2,a,b,c,d⟩:=q1.2 hx2
    exact ⟨fp2,fun _=>⟨a,b⟩,d,c⟩
   | false=>exact ⟨[],(fun z=>by cases z),by rw [List.append_nil];exact R1,fun a ha=>by simp at ha⟩
  have hX:∀ a∈X,a∈X++fp1:=fun a z=>List.mem_append_left _ z
  have hn:∀ a o,a∉X -> h[a]?=some o -> a∉X++fp1/\h1[a]?=some o:=fun a o x y=>⟨by
   rw [List.mem_append];rintro (z | z)
   ·exact x z
   ·have:=hlt1 a z;have:=qAK y;omega,(R.keepN f1 a o x y).2⟩
  refine Sim.bindW hX R.sub (Frm.refl A h1) (qBn as A (X++fp1) h1 M1 σ σh R1' (qA2 (fun _ _ e=>e) hn rs)) ?_
  intro y M2 w h2 f2 R2 q2;dsimp only
  refine ⟨_,h2,rfl,f2,R2.weak hX R.sub,?_,fun e=>?_⟩
  ·show qAN A X h2 (x.1::y.map (·.1)) (v::w)
   unfold qAN
   exact ⟨v,w,rfl,R1.keep f2 q1.1,qAQ (fun _ _ e=>e) (fun a o x y=>⟨fun z=>x (hX _ z),y⟩) _ q2.1⟩
  ·rw [List.all_cons,Bool.and_eq_true] at e
   obtain ⟨a1,b1⟩:=hp1 e.1
   obtain ⟨fp2,a2,b2,c2,d2⟩:=q2.2 e.2
   refine ⟨fp1++fp2,?_,?_,?_,by rw [<- List.append_assoc];exact d2⟩
   ·show FPs X h2 (x.1::y.map (·.1)) (v::w) _
    unfold FPs
    exact ⟨v,w,fp1,fp2,rfl,qCn (R1.keepN f2) _ a1,qBL (fun a o x y=>⟨fun z=>x (hX _ z),y⟩) _ a2,rfl⟩
   ·rw [List.nodup_append]
    refine ⟨b1,b2,?_⟩
    rintro a ha b hb rfl
    exact (qCS _ a2 a hb).1 (List.mem_append_right _ ha)
   ·intro a ha
    rcases List.mem_append.mp ha with z | z
    ·exact hlt1 a z
    ·exact Nat.le_trans f1.1 (c2 a z)
theorem qLW:∀ (e:Es) (A X:List Nat) (h:AH) (M:Mem) (σ:TS) (σh:List (Option V)),RelM gl A X h M -> qBj A X h σ σh -> Sim gl A X h (fun b b' _ _=>b=b') (pec gl P e σ M) (evc F e σh h)
 | .nil,A,X,h,M,σ,σh,R,rs=>by
  rw [pec,evc]
  exact ⟨true,h,rfl,Frm.refl A h,R,rfl⟩
 | .cons a as,A,X,h,M,σ,σh,R,rs=>by
  rw [pec,evc]
  exact qEe (qAO a A X h M σ σh R rs)
theorem qGX:∀ (e:Itr) (A X:List Nat) (h:AH) (M:Mem) (σ:TS) (σh:List (Option V)),RelM gl A X h M -> qBj A X h σ σh -> Sim gl A X h (fun s sh h' _=>qB7 A X h' sh s.1 s.2) (pei gl P e σ M) (evi F e σh h)
 | .list a,A,X,h,M,σ,σh,R,rs=>by
  rw [pei,evi];dsimp only
  refine Sim.bind (qAO a A X h M σ σh R rs) ?_
  intro x M1 v h1 f1 R1 q1;dsimp only
  refine Sim.ofO fun s es=>?_
  obtain ⟨p,sh,rfl,e1,e2⟩:=qJO R1 q1.1 es
  exact ⟨sh,h1,e1,Frm.refl A h1,R1,e2⟩
 | .rng1 a,A,X,h,M,σ,σh,R,rs=>by
  rw [pei,evi];dsimp only
  refine Sim.bind (qAO a A X h M σ σh R rs) ?_
  intro x M1 v h1 f1 R1 q1;dsimp only
  obtain ⟨t,fr⟩:=x
  dsimp only
  split
  ·cases qAn q1.1
   dsimp only
   split
   ·exact ⟨_,h1,rfl,Frm.refl A h1,R1,.rng 0 _⟩
   ·exact Sim.stuck
  ·exact Sim.stuck
 | .rng2 a b,A,X,h,M,σ,σh,R,rs=>by
  rw [pei,evi];dsimp only
  refine Sim.bind (qAO a A X h M σ σh R rs) ?_
  intro x M1 v h1 f1 R1 q1;dsimp only
  refine Sim.bind (qAO b A X h1 M1 σ σh R1 (R.keepS f1 rs)) ?_
  intro y M2 w h2 f2 R2 q2;dsimp only
  obtain ⟨t,fr⟩:=x
  obtain ⟨u,fu⟩:=y
  dsimp only
  split
  ·cases qAn q1.1
   cases qAn q2.1
   dsimp only
   split
   ·exact ⟨_,h2,rfl,Frm.refl A h2,R2,.rng _ _⟩
   ·exact Sim.stuck
  ·exact Sim.stuck
 | .zip a b,A,X,h,M,σ,σh,R,rs=>by
  rw [pei,evi];dsimp only
  refine Sim.bind (qAO a A X h M σ σh R rs) ?_
  intro x M1 v h1 f1 R1 q1;dsimp only
  refine Sim.bind (qAO b A X h1 M1 σ σh R1 (R.keepS f1 rs)) ?_
  intro y M2 w h2 f2 R2 q2;dsimp only
  refine Sim.ofO fun s es=>Sim.ofO fun t et=>?_
  obtain ⟨p,vs,rfl,e1,e2⟩:=qDq R2 (R1.keep f2 q1.1) es
  obtain ⟨q,us,rfl,e3,e4⟩:=qDq R2 q2.1 et
  dsimp only
  rw [e1,e3]
  exact ⟨_,h2,rfl,Frm.refl A h2,R2,.zip p q _ _ _ _ e2 e4⟩
 | .enum a,A,X,h,M,σ,σh,R,rs=>by
  rw [pei,evi];dsimp only
  refine Sim.bind (qAO a A X h M σ σh R rs) ?_
  intro x M1 v h1 f1 R1 q1;dsimp only
  refine Sim.ofO fun s es=>?_
  obtain ⟨p,vs,rfl,e1,e2⟩:=qDq R1 q1.1 es
  dsimp only
  rw [e1]
  exact ⟨_,h1,rfl,Frm.refl A h1,R1,.enum p _ _ e2⟩
 | .revd a,A,X,h,M,σ,σh,R,rs=>by
  rw [pei,evi];dsimp only
  refine Sim.bind (qAO a A X h M σ σh R rs) ?_
  intro x M1 v h1 f1 R1 q1;dsimp only
  refine Sim.ofO fun s es=>?_
  obtain ⟨p,vs,rfl,e1,e2⟩:=qDq R1 q1.1 es
  dsimp only
  rw [e1]
  obtain ⟨vs',e1',k1'⟩:=qAf e2
  have hl:vs.length=s.1.length:=by rw [e1] at e1';cases e1';exact (qAC (reps_iff.mp k1')).symm
  dsimp only
  rw [hl]
  exact ⟨_,h1,rfl,Frm.refl A h1,R1,.rvd p _ _ e2⟩
 | .rvr a,A,X,h,M,σ,σh,R,rs=>by
  rw [pei,evi];dsimp only
  refine Sim.bind (qAO a A X h M σ σh R rs) ?_
  intro x M1 v h1 f1 R1 q1;dsimp only
  obtain ⟨t,fr⟩:=x
  dsimp only
  split
  ·cases qAn q1.1
   dsimp only
   split
   ·exact ⟨_,h1,rfl,Frm.refl A h1,R1,.rngd _ _⟩
   ·exact Sim.stuck
  ·exact Sim.stuck
 | .rng3 a b,A,X,h,M,σ,σh,R,rs=>by
  rw [pei,evi];dsimp only
  refine Sim.bind (qAO a A X h M σ σh R rs) ?_
  intro x M1 v h1 f1 R1 q1;dsimp only
  refine Sim.bind (qAO b A X h1 M1 σ σh R1 (R.keepS f1 rs)) ?_
  intro y M2 w h2 f2 R2 q2;dsimp only
  obtain ⟨t,fr⟩:=x
  obtain ⟨u,fu⟩:=y
  dsimp only
  split
  ·cases qAn q1.1
   cases qAn q2.1
   dsimp only
   split
   ·exact ⟨_,h2,rfl,Frm.refl A h2,R2,.rngd _ _⟩
   ·exact Sim.stuck
  ·exact Sim.stuck
end
end
end PI
namespace PI
open L2 (V)
mutual
theorem qGs {X Af Xf:List Nat} {h:AH} (hX:∀ a o,(∀ vs,o≠O.lst false vs) -> h[a]?=some o -> a∉X -> a∉Xf):∀ (t:T) (n:Nat) {w:V} {fp:List Nat},FP X h t w fp -> (∀ (k:Nat) a,fp[k]?=some a -> Af[n + k]?=some a) ->
  (thaw n t).2.length=fp.length/\Rep Af Xf h (thaw n t).1 w/\∀ (k:Nat) ts',(thaw n t).2[k]?=some ts' -> ∃ a vs,fp[k]?=some a/\h[a]?=some (.lst false vs)/\qAN Af Xf h ts' vs
 | .v x,n,w,fp,p,ha=>by unfold FP at p;obtain ⟨p1,rfl⟩:=p;rw [show thaw n (.v x)=(.v x,[]) by simp [thaw]];exact ⟨rfl,by unfold Rep;exact p1,fun k ts' e=>by simp at e⟩
 | .cell _,n,w,fp,p,ha=>by unfold FP at p;exact p.elim
 | .ob o,n,w,fp,p,ha=>by unfold FP at p;obtain ⟨⟨a,rfl,q1,q2⟩,rfl⟩:=p;rw [show thaw n (.ob o)=(.ob o,[]) by simp [thaw]];exact ⟨rfl,by unfold Rep;exact ⟨a,rfl,hX a _ (by intro _ z;cases z) q2 q1,q2⟩,fun k ts' e=>by simp at e⟩
 | .fz _,n,w,fp,p,ha=>by unfold FP at p;exact p.elim
 | .lst ts,n,w,fp,p,ha=>by
  unfold FP at p
  obtain ⟨a,vs,f,rfl,q1,q2,q3,rfl⟩:=p
  obtain ⟨l,r,c⟩:=qDX hX ts n q3 (fun k a e=>ha k a (by rw [List.getElem?_append_left (List.getElem?_eq_some_iff.mp e).1];exact e))
  rw [thaw]
  refine ⟨by simp [l],?_,fun k ts' e=>?_⟩
  ·show Rep Af Xf h (.cell _) _
   unfold Rep
   refine ⟨a,ha _ a ?_,rfl⟩
   rw [l,List.getElem?_append_right (Nat.le_refl _),Nat.sub_self]
   rfl
  ·dsimp only at e
   by_cases hk:k < f.length
   ·rw [List.getElem?_append_left (by rw [l];exact hk)] at e
    obtain ⟨b,us,e1,e2,e3⟩:=c k ts' e
    exact ⟨b,us,by rw [List.getElem?_append_left hk];exact e1,e2,e3⟩
   ·rw [List.getElem?_append_right (by rw [l];omega),l] at e
    have hk2:k - f.length=0:=by
     have:=(List.getElem?_eq_some_iff.mp e).1
     simp at this;omega
    rw [hk2] at e
    simp at e
    subst e
    exact ⟨a,vs,by rw [List.getElem?_append_right (by omega),hk2];rfl,q2,r⟩
 | .tup ts,n,w,fp,p,ha=>by
  unfold FP at p
  obtain ⟨a,vs,rfl,q1,q2,q3⟩:=p
  obtain ⟨l,r,c⟩:=qDX hX ts n q3 ha
  rw [thaw]
  refine ⟨l,?_,c⟩
  show Rep Af Xf h (.tup _) _
  unfold Rep
  exact ⟨a,vs,rfl,hX a _ (by intro _ z;cases z) q2 q1,q2,r⟩
theorem qDX {X Af Xf:List Nat} {h:AH} (hX:∀ a o,(∀ vs,o≠O.lst false vs) -> h[a]?=some o -> a∉X -> a∉Xf):∀ (ts:List T) (n:Nat) {ws:List V} {fp:List Nat},FPs X h ts ws fp -> (∀ (k:Nat) a,fp[k]?=some a -> Af[n + k]?=some a) ->
  (qB5 n ts).2.length=fp.length/\qAN Af Xf h (qB5 n ts).1 ws/\∀ (k:Nat) ts',(qB5 n ts).2[k]?=some ts' -> ∃ a vs,fp[k]?=some a/\h[a]?=some (.lst false vs)/\qAN Af Xf h ts' vs
 | [],n,ws,fp,p,ha=>by unfold FPs at p;obtain ⟨rfl,rfl⟩:=p;rw [qB5];exact ⟨rfl,by unfold qAN;rfl,fun k ts' e=>by simp at e⟩
 | t::ts,n,ws,fp,p,ha=>by
  unfold FPs at p
  obtain ⟨v,vs,f1,f2,rfl,q1,q2,rfl⟩:=p
  obtain ⟨l1,r1,c1⟩:=qGs hX t n q1 (fun k a e=>ha k a (by rw [List.getElem?_append_left (List.getElem?_eq_some_iff.mp e).1];exact e))
  obtain ⟨l2,r2,c2⟩:=qDX hX ts (n + (thaw n t).2.length) q2 (fun k a e=>by
   have:=ha (f1.length + k) a (by rw [List.getElem?_append_right (by omega),Nat.add_sub_cancel_left];exact e)
   rw [l1,Nat.add_assoc];exact this)
  rw [qB5]
  refine ⟨by dsimp only;rw [List.length_append,List.length_append,l2,l1],?_,fun k ts' e=>?_⟩
  ·show qAN Af Xf h (_::_) _
   unfold qAN
   exact ⟨v,vs,rfl,r1,r2⟩
  ·dsimp only at e
   by_cases hk:k < f1.length
   ·rw [List.getElem?_append_left (by rw [l1];exact hk)] at e
    obtain ⟨b,us,e1,e2,e3⟩:=c1 k ts' e
    exact ⟨b,us,by rw [List.getElem?_append_left hk];exact e1,e2,e3⟩
   ·rw [List.getElem?_append_right (by rw [l1];omega)] at e
    obtain ⟨b,us,e1,e2,e3⟩:=c2 _ ts' e
    rw [l1] at e1
    exact ⟨b,us,by rw [List.getElem?_append_right (by omega)];exact e1,e2,e3⟩
end
theorem RelM.thaw {gl:List T} {A X fp:List Nat} {h:AH} {M:Mem} {t:T} {w:V} (R:RelM gl A (X++fp) h M) (hA:∀ a∈A,a∈X) (p:FP X h t w fp) (nd:fp.Nodup):
  RelM gl (A++fp) (X++fp) h (M++(PI.thaw M.length t).2)/\Rep (A++fp) (X++fp) h (PI.thaw M.length t).1 w:=by
 have hX:∀ a o,(∀ vs,o≠O.lst false vs) -> h[a]?=some o -> a∉X -> a∉X++fp:=fun a o hno e x=>by
  rw [List.mem_append];rintro (z | z)
  ·exact x z
  ·obtain ⟨_,us,e2⟩:=qFh t p a z
   rw [e] at e2;cases e2;exact hno _ rfl
 obtain ⟨l,r,c⟩:=qGs (Af:=A++fp) hX t M.length p (fun k a e=>by rw [<- R.len,List.getElem?_append_right (by omega),Nat.add_sub_cancel_left];exact e)
 refine ⟨⟨by simp [R.len,l],?_,?_,R.lt,fun n a e=>?_,fun g t e=>?_⟩,r⟩
 ·rw [List.nodup_append]
  exact ⟨R.nd,nd,by rintro a ha b hb rfl;exact (qFh t p a hb).1 (hA a ha)⟩
 ·intro a ha
  rcases List.mem_append.mp ha with z | z
  ·exact List.mem_append_left _ (hA a z)
  ·exact List.mem_append_right _ z
 ·by_cases hn:n < A.length
  ·rw [List.getElem?_append_left hn] at e
   obtain ⟨ts,vs,e1,e2,e3⟩:=R.at_ n a e
   exact ⟨ts,vs,by rw [List.getElem?_append_left (by rw [<- R.len];exact hn)];exact e1,e2,qAQ (fun k b eb=>by rw [List.getElem?_append_left (List.getElem?_eq_some_iff.mp eb).1];exact eb) (fun a o x y=>⟨x,y⟩) ts e3⟩
  ·rw [List.getElem?_append_right (by omega)] at e
   have hk:n - A.length < (PI.thaw M.length t).2.length:=by rw [l];exact (List.getElem?_eq_some_iff.mp e).1
   obtain ⟨b,us,e1,e2,e3⟩:=c (n - A.length) _ (List.getElem?_eq_getElem hk)
   rw [e] at e1;cases e1
   have hnm:n - M.length=n - A.length:=by rw [R.len]
   exact ⟨_,us,by rw [List.getElem?_append_right (by rw [<- R.len];omega),hnm];exact List.getElem?_eq_getElem hk,e2,e3⟩
 ·exact qAj (fun k b eb=>by rw [List.getElem?_append_left (List.getElem?_eq_some_iff.mp eb).1];exact eb) (fun a o x y=>⟨x,y⟩) t (R.glo g t e)
noncomputable def RelO (gl:List T) (A X:List Nat) (n:Nat) (h:AH) (M:Mem):PO -> Out -> Prop
 | .nx σ,.nx σh=>qBj A X h σ σh
 | .bk σ,.bk σh=>qBj A X h σ σh
 | .ct σ,.ct σh=>qBj A X h σ σh
 | .rt t,.rt w=>QE gl A X n t w h M
 | _,_=>False
theorem RelO.le {gl:List T} {A X:List Nat} {n m:Nat} {h:AH} {M:Mem} {o:PO} {oh:Out} (r:RelO gl A X n h M o oh) (l:m<=n):RelO gl A X m h M o oh:=by
 cases o<;>cases oh<;>first | exact r | exact QE.le r l
noncomputable def SimS (gl:List T) (A X:List Nat) (h:AH):RSt -> RS -> Prop
 | .ok (o,M'),r=>∃ oh h' B,r=.ok (oh,h')/\Frm A h h'/\(∀ b∈B,h.length<=b)/\RelM gl (A++B) (X++B) h' M'/\RelO gl (A++B) (X++B) h.length h' M' o oh
 | .exc c M',r=>∃ h' B,r=.exc c h'/\Frm A h h'/\(∀ b∈B,h.length<=b)/\RelM gl (A++B) (X++B) h' M'
 | .stuck,_=>True
theorem SimS.stuck {gl:List T} {A X:List Nat} {h:AH} {r:RS}:SimS gl A X h .stuck r:=trivial
theorem SimS.mk {gl:List T} {A X:List Nat} {h:AH} {M:Mem} {o:PO} {oh:Out} (R:RelM gl A X h M) (ro:RelO gl A X h.length h M o oh):SimS gl A X h (.ok (o,M)) (.ok (oh,h)):=
 ⟨oh,h,[],rfl,Frm.refl A h,fun b hb=>by simp at hb,by simpa using R,by simpa using ro⟩
theorem SimS.pre {gl:List T} {A X:List Nat} {h h1:AH} {r:RSt} {rh:RS} (s:SimS gl A X h1 r rh) (f:Frm A h h1):SimS gl A X h r rh:=by
 cases r with
 | ok p=>
  obtain ⟨o,M'⟩:=p
  obtain ⟨oh,h',B,e,f1,hB,R,ro⟩:=s
  exact ⟨oh,h',B,e,f.trans f1,fun b hb=>Nat.le_trans f.1 (hB b hb),R,ro.le f.1⟩
 | exc c M'=>
  obtain ⟨h',B,e,f1,hB,R⟩:=s
  exact ⟨h',B,e,f.trans f1,fun b hb=>Nat.le_trans f.1 (hB b hb),R⟩
 | stuck=>trivial
theorem Sim.bindS {α β:Type} {gl:List T} {A X:List Nat} {h:AH} {Q:α -> β -> AH -> Mem -> Prop} {r:PR (α×Mem)} {rh:Res (β×AH)} {f:α×Mem -> RSt} {g:β×AH -> RS}
  (s:Sim gl A X h Q r rh) (k:∀ x M' y h',Frm A h h' -> RelM gl A X h' M' -> Q x y h' M' -> SimS gl A X h' (f (x,M')) (g (y,h'))):SimS gl A X h (r.bind f) (rh.bind g):=by
 cases r with
 | ok p=>
  obtain ⟨x,M'⟩:=p
  obtain ⟨y,h',rfl,f1,R1,q⟩:=s
  exact (k x M' y h' f1 R1 q).pre f1
 | exc c M'=>
  obtain ⟨h',rfl,f1,R1⟩:=s
  exact ⟨h',[],rfl,f1,fun b hb=>by simp at hb,by simpa using R1⟩
 | stuck=>trivial
theorem SimS.bind {gl:List T} {A X:List Nat} {h:AH} {r:RSt} {rh:RS} {f:PO×Mem -> RSt} {g:Out×AH -> RS}
  (s:SimS gl A X h r rh) (k:∀ o M' oh h' B,Frm A h h' -> (∀ b∈B,h.length<=b) -> RelM gl (A++B) (X++B) h' M' -> RelO gl (A++B) (X++B) h.length h' M' o oh -> SimS gl (A++B) (X++B) h' (f (o,M')) (g (oh,h'))\/(f (o,M')=.ok (o,M')/\g (oh,h')=.ok (oh,h'))):SimS gl A X h (r.bind f) (rh.bind g):=by
 cases r with
 | ok p=>
  obtain ⟨o,M'⟩:=p
  obtain ⟨oh,h',B,rfl,f1,hB,R,ro⟩:=s
  rw [PR.bind_ok,Res.bind_ok]
  rcases k o M' oh h' B f1 hB R ro with s2 | ⟨e1,e2⟩
  ·revert s2
   generalize f (o,M')=r2
   generalize g (oh,h')=rh2
   intro s2
   cases r2 with
   | ok p2=>
    obtain ⟨o2,M2⟩:=p2
    obtain ⟨oh2,h2,B2,rfl,f2,hB2,R2,ro2⟩:=s2
    rw [List.append_assoc,List.append_assoc] at R2 ro2
    exact ⟨oh2,h2,B++B2,rfl,f1.trans2 hB f2,fun b hb=>by
     rcases List.mem_append.mp hb with z | z
     ·exact hB b z
     ·exact Nat.le_trans f1.1 (hB2 b z),R2,ro2.le f1.1⟩
   | exc c M2=>
    obtain ⟨h2,B2,rfl,f2,hB2,R2⟩:=s2
    rw [List.append_assoc,List.append_assoc] at R2
    exact ⟨h2,B++B2,rfl,f1.trans2 hB f2,fun b hb=>by
     rcases List.mem_append.mp hb with z | z
     ·exact hB b z
     ·exact Nat.le_trans f1.1 (hB2 b z),R2⟩
   | stuck=>trivial
  ·rw [e1,e2]
   exact ⟨oh,h',B,rfl,f1,hB,R,ro⟩
 | exc c M'=>
  obtain ⟨h',B,rfl,f1,hB,R⟩:=s
  exact ⟨h',B,rfl,f1,hB,R⟩
 | stuck=>trivial
theorem qDG {A X B:List Nat} {h h':AH} (hs:∀ a∈A,a∈X) (f:Frm A h h') (hB:∀ b∈B,h.length<=b):∀ a o,a∉X -> h[a]?=some o -> a∉X++B/\h'[a]?=some o:=fun a o x y=>⟨by
 rw [List.mem_append];rintro (z | z)
 ·exact x z
 ·have:=hB a z;have:=qAK y;omega,(f.2 a (qAK y) fun z=>x (hs _ z)).trans y⟩
theorem qBY {A B:List Nat}:∀ (n:Nat) a,A[n]?=some a -> (A++B)[n]?=some a:=fun n a e=>by rw [List.getElem?_append_left (List.getElem?_eq_some_iff.mp e).1];exact e
theorem qHC {gl:List T} {s:Src} {its:List T} {d:qCc} {g:Tg} {b:TS -> Mem -> RSt} {b':List (Option V) -> AH -> RS}
  (hb:∀ A X h M σ σh,RelM gl A X h M -> qBj A X h σ σh -> SimS gl A X h (b σ M) (b' σh h)):∀ (r:List T) (i:Nat) (σ:TS) (σh:List (Option V)) (M:Mem) (h:AH) (A X:List Nat),
   its.drop i=r -> i<=its.length -> RelM gl A X h M -> qB7 A X h s its d -> qBj A X h σ σh -> SimS gl A X h (qBP d g b r σ M) (qFe s g b' r.length i σh h)
 | [],i,σ,σh,M,h,A,X,hr,hi,R,sr,rs=>by
  have hi':i=its.length:=by
   have:=List.drop_eq_nil_iff.mp hr;omega
  subst hi'
  show SimS gl A X h (.ok (.nx σ,M)) (if qBZ h its.length s then _ else _)
  rw [if_pos (qC6 sr)]
  exact SimS.mk R rs
 | x::r,i,σ,σh,M,h,A,X,hr,hi,R,sr,rs=>by
  have ex:its[i]?=some x:=by
   have:(its.drop i)[0]?=some x:=by rw [hr];rfl
   rwa [List.getElem?_drop,Nat.add_zero] at this
  have hi2:i + 1<=its.length:=(List.getElem?_eq_some_iff.mp ex).1
  have hr2:its.drop (i + 1)=r:=by
   rw [<- List.drop_drop,hr];rfl
  obtain ⟨w,ext,ey,rx⟩:=qCV R sr ex
  have fy:Frm A h (h++ext):=Frm.app A h ext
  rw [List.length_cons]
  unfold qBP qFe
  rw [ey]
  dsimp only
  cases es:qBE g x σ with
  | none=>exact SimS.stuck
  | some σ1=>
   obtain ⟨σh1,esh,rs1⟩:=qBK es rx (R.keepS fy rs)
   rw [esh]
   dsimp only
   refine SimS.bind ((hb A X _ M σ1 σh1 (R.up ext) rs1).pre fy) ?_
   intro o M2 oh h2 B f2 hB R2 ro
   have nxt:∀ σ2 σh2,qBj (A++B) (X++B) h2 σ2 σh2 -> SimS gl (A++B) (X++B) h2 (if qAd d M2=true then qBP d g b r σ2 M2 else .stuck) (qFe s g b' r.length (i + 1) σh2 h2):=fun σ2 σh2 rs2=>by
    split
    ·rename_i hd
     exact qHC hb r (i + 1) σ2 σh2 M2 h2 _ _ hr2 hi2 R2 (qDP sr (qDG R.sub f2 hB) R2 hd qBY) rs2
    ·exact SimS.stuck
   cases o with
   | nx σ2=>cases oh<;>first | exact .inl (nxt _ _ ro) | exact ro.elim
   | ct σ2=>cases oh<;>first | exact .inl (nxt _ _ ro) | exact ro.elim
   | bk σ2=>cases oh<;>first | exact .inl (SimS.mk R2 ro) | exact ro.elim
   | rt t=>cases oh<;>first | exact .inr ⟨rfl,rfl⟩ | exact ro.elim
theorem qCl {gl:List T} {c:TS -> Mem -> PR (Bool×Mem)} {c':List (Option V) -> AH -> Res (Bool×AH)} {b:TS -> Mem -> RSt} {b':List (Option V) -> AH -> RS}
  (hc:∀ A X h M σ σh,RelM gl A X h M -> qBj A X h σ σh -> Sim gl A X h (fun b b' _ _=>b=b') (c σ M) (c' σh h))
  (hb:∀ A X h M σ σh,RelM gl A X h M -> qBj A X h σ σh -> SimS gl A X h (b σ M) (b' σh h)):∀ (n:Nat) (σ:TS) (σh:List (Option V)) (M:Mem) (h:AH) (A X:List Nat),
   RelM gl A X h M -> qBj A X h σ σh -> SimS gl A X h (qCR c b n σ M) (qCA c' b' n σh h)
 | 0,σ,σh,M,h,A,X,R,rs=>SimS.stuck
 | n + 1,σ,σh,M,h,A,X,R,rs=>by
  unfold qCR qCA
  refine Sim.bindS (hc A X h M σ σh R rs) ?_
  rintro t M1 t' h1 f1 R1 rfl
  dsimp only
  cases t with
  | false=>exact SimS.mk R1 (R.keepS f1 rs)
  | true=>
   simp only [if_true]
   refine SimS.bind (hb A X h1 M1 σ σh R1 (R.keepS f1 rs)) ?_
   intro o M2 oh h2 B f2 hB R2 ro
   cases o with
   | nx σ2=>cases oh<;>first | exact .inl (qCl hc hb n _ _ M2 h2 _ _ R2 ro) | exact ro.elim
   | ct σ2=>cases oh<;>first | exact .inl (qCl hc hb n _ _ M2 h2 _ _ R2 ro) | exact ro.elim
   | bk σ2=>cases oh<;>first | exact .inl (SimS.mk R2 ro) | exact ro.elim
   | rt t=>cases oh<;>first | exact .inr ⟨rfl,rfl⟩ | exact ro.elim
section
variable {gl:List T} {P:Nat -> List T -> Mem -> PR (TB×Mem)} {F:Nat -> List V -> AH -> RV} (C:List Nat)
variable (hF:∀ f ts ws A X h M,RelM gl A X h M -> qAN A X h ts ws -> Sim gl A X h (QE gl A X h.length) (P f ts M) (F f ws h))
include hF
omit hF in
theorem Res.bind_assoc {α β γ:Type} (r:Res α) (f:α -> Res β) (g:β -> Res γ):(r.bind f).bind g=r.bind fun a=>(f a).bind g:=by cases r<;>rfl
omit hF in
theorem qFm (e:E) (σ:List (Option V)):∀ (as:Es) (h:AH),evs F (as.snoc e) σ h=(evs F as σ h).bind fun p=>(ev F e σ p.2).bind fun q=>.ok (p.1++[q.1],q.2)
 | .nil,h=>by
  show evs F (.cons e .nil) σ h=_
  rw [evs,evs,Res.bind_ok]
  rfl
 | .cons a as,h=>by
  show evs F (.cons a (as.snoc e)) σ h=_
  rw [evs,evs]
  dsimp only
  rw [Res.bind_assoc]
  congr 1
  funext p
  rw [qFm e σ as,Res.bind_assoc,Res.bind_assoc]
  congr 1
  funext q
  rw [Res.bind_assoc,Res.bind_ok]
  rfl
noncomputable def qOQ (gl:List T) (A X:List Nat) (h:AH):PR (TB×Mem) -> RV -> Prop
 | .ok ((.lst ts,_),M1),r=>∃ h1 vs,r=.ok (.ref h1.length,h1++[.lst false vs])/\Frm A h h1/\RelM gl A X h1 M1/\qAN A X h1 ts vs
 | _,_=>True
omit hF in
theorem RelM.cellN {gl:List T} {A X:List Nat} {h:AH} {M:Mem} {ts:List T} {vs:List V} (R:RelM gl A X h M) (r:qAN A X h ts vs):RelM gl (A++[h.length]) (X++[h.length]) (h++[.lst false vs]) (M++[ts]):=by
 have hn:∀ a o,a∉X -> h[a]?=some o -> a∉X++[h.length]/\(h++[O.lst false vs])[a]?=some o:=qDG R.sub (Frm.app A h _) (fun b hb=>by simp at hb;omega)
 refine ⟨by simp [R.len],?_,fun a ha=>?_,fun a ha=>?_,fun n a e=>?_,fun g t e=>qAj qBY hn t (R.glo g t e)⟩
 ·rw [List.nodup_append]
  refine ⟨R.nd,by simp,fun a ha b hb=>?_⟩
  have:=R.lt a (R.sub a ha)
  simp at hb
  omega
 ·rcases List.mem_append.mp ha with z | z
  ·exact List.mem_append_left _ (R.sub a z)
  ·exact List.mem_append_right _ z
 ·rcases List.mem_append.mp ha with z | z
  ·have:=R.lt a z;simp;omega
  ·simp at z;simp [z]
 ·by_cases hlt:n < A.length
  ·rw [List.getElem?_append_left hlt] at e
   obtain ⟨us,ws,e1,e2,e3⟩:=R.at_ n a e
   exact ⟨us,ws,by rw [List.getElem?_append_left (by rw [<- R.len];exact hlt)];exact e1,by rw [List.getElem?_append_left (qAK e2)];exact e2,qAQ qBY hn us e3⟩
  ·have hl:=(List.getElem?_eq_some_iff.mp e).1
   have hnn:n=A.length:=by simp at hl;omega
   subst hnn
   simp at e
   subst e
   exact ⟨ts,vs,by rw [R.len];simp,by simp,qAQ qBY hn ts r⟩
omit hF in
theorem qHE {e:E} (h:qLN e=true):(∃ as,e=.lst as)\/∃ a b,e=.bin .add a b:=by
 unfold qLN at h
 split at h
 ·exact .inr ⟨_,_,rfl⟩
 ·exact .inl ⟨_,rfl⟩
 ·cases h
theorem qJK (e:E) (he:qLN e=true) (A X:List Nat) (h:AH) (M:Mem) (σ:TS) (σh:List (Option V)) (R:RelM gl A X h M) (rs:qBj A X h σ σh):qOQ gl A X h (pe gl P e σ M) (ev F e σh h):=by
 rcases qHE he with ⟨as,rfl⟩ | ⟨a,b,rfl⟩
 ·rw [pe,ev];dsimp only
  have s1:=qBn hF as A X h M σ σh R rs
  revert s1
  generalize pes gl P as σ M=r
  generalize evs F as σh h=rh
  intro s1
  cases r with
  | stuck=>trivial
  | exc c M'=>trivial
  | ok p=>
   obtain ⟨x,M1⟩:=p
   obtain ⟨w,h1,rfl,f1,R1,q⟩:=s1
   rw [PR.bind_ok,Res.bind_ok]
   dsimp only
   rw [<- q.len]
   split
   ·exact ⟨h1,w,rfl,f1,R1,q.1⟩
   ·trivial
 ·rw [pe,ev];dsimp only
  have s1:=qAO hF a A X h M σ σh R rs
  revert s1
  generalize pe gl P a σ M=r
  generalize ev F a σh h=rh
  intro s1
  cases r with
  | stuck=>trivial
  | exc c M'=>trivial
  | ok p=>
   obtain ⟨x,M1⟩:=p
   obtain ⟨v,h1,rfl,f1,R1,q1⟩:=s1
   rw [PR.bind_ok,Res.bind_ok]
   dsimp only
   have s2:=qAO hF b A X h1 M1 σ σh R1 (R.keepS f1 rs)
   revert s2
   generalize pe gl P b σ M1=r
   generalize ev F b σh h1=rh
   intro s2
   cases r with
   | stuck=>trivial
   | exc c M'=>trivial
   | ok p=>
    obtain ⟨y,M2⟩:=p
    obtain ⟨w,h2,rfl,f2,R2,q2⟩:=s2
    rw [PR.bind_ok,Res.bind_ok]
    dsimp only
    have rx:=R1.keep f2 q1.1
    cases eb:qAm M2 .add x.1 y.1 with
    | none=>trivial
    | some r=>
     rw [PR.ofO_some,PR.bind_ok]
     unfold qAm at eb
     split at eb
     ·cases eb;trivial
     ·cases eb
     ·rename_i e1 e2
      dsimp only at eb
      split at eb
      ·split at eb
       ·cases eb;trivial
       ·cases eb
      rename_i u0 u1 u2
      clear u2
      obtain ⟨xs,m1,eb⟩:=Option.bind_eq_some_iff.mp eb
      obtain ⟨ys,m2,eb⟩:=Option.bind_eq_some_iff.mp eb
      split at eb
      ·rename_i hl
       cases eb
       obtain ⟨a1,vs,rfl,g1,k1⟩:=qF8 R2 rx m1
       obtain ⟨a2,us,rfl,g2,k2⟩:=qF8 R2 q2.1 m2
       refine ⟨h2,vs++us,?_,f1.trans f2,R2,reps_iff.mpr (qAr (reps_iff.mp k1) (reps_iff.mp k2))⟩
       show (match qAV h2 a1,qAV h2 a2 with | some xs,some ys=>if xs.length + ys.length<=lim then newL (xs++ys) h2 else .stuck | _,_=>_)=_
       rw [g1,g2]
       dsimp only
       rw [<- qAC (reps_iff.mp k1),<- qAC (reps_iff.mp k2),if_pos hl]
       rfl
      ·cases eb
     ·cases eb
omit hF in
theorem qId {σ:List (Option V)} {h:AH} {x a:Nat} {k:Int} {vs:List V} {v:V} (ex:σ[x]?=some (some (.ref a))) (ea:h[a]?=some (.tup vs)) (ev':(ixN vs.length k).bind (fun j=>vs[j]?)=some v):ev F (.idx (.var x) (.cst (.int k))) σ h=.ok (v,h):=by
 have e0:ev F (.var x) σ h=.ok (.ref a,h):=by
  show (match σ[x]? with | some (some v)=>Res.ok (v,h) | _=>.stuck)=_
  rw [ex]
 show (ev F (.var x) σ h).bind (fun p=>match p.1,V.int k with
  | .ref p',.int i=>match items p.2 p' with
   | some xs=>match (ixN xs.length i).bind fun j=>xs[j]? with | some v=>Res.ok (v,p.2) | none=>.stuck
   | none=>.stuck
  | _,_=>.stuck)=_
 rw [e0,Res.bind_ok]
 dsimp only
 rw [show items h a=some vs by unfold items;rw [ea]]
 dsimp only
 rw [ev']
omit hF in
theorem qFB {σ:List (Option V)} {h:AH} {u:Nat} {v:V} (eu:σ[u]?=some (some v)):ev F (.var u) σ h=.ok (v,h):=by
 show (match σ[u]? with | some (some v)=>Res.ok (v,h) | _=>.stuck)=_
 rw [eu]
omit hF in
theorem qK7 {σ:List (Option V)} {h:AH} {x u a D:Nat} {k i:Int} {vs:List V} {ks:List (Int×V)} (ex:σ[x]?=some (some (.ref a))) (ea:h[a]?=some (.tup vs)) (ev':(ixN vs.length k).bind (fun j=>vs[j]?)=some (.int i)) (eu:σ[u]?=some (some (.ref D))) (eD:h[D]?=some (.ob (.dct ks))):ev F (.cmp .inn (.idx (.var x) (.cst (.int k))) (.var u)) σ h=.ok (.bl (qG6 ks i),h):=by
 show (ev F (.idx (.var x) (.cst (.int k))) σ h).bind (fun p=>(ev F (.var u) σ p.2).bind fun q=>qG3 .inn p.1 q.1 q.2)=_
 rw [qId ex ea ev',Res.bind_ok]
 dsimp only
 rw [qFB eu,Res.bind_ok]
 unfold qG3 qHQ qJ6
 dsimp only
 rw [show items h D=none by unfold items;rw [eD]]
 dsimp only
 rw [show qDA h D=some ks by unfold qDA;rw [eD]]
omit hF in
theorem qK5 {σ:List (Option V)} {h:AH} {x u a D:Nat} {k i:Int} {vs:List V} {ks:List (Int×V)} (ex:σ[x]?=some (some (.ref a))) (ea:h[a]?=some (.tup vs)) (ev':(ixN vs.length k).bind (fun j=>vs[j]?)=some (.int i)) (eu:σ[u]?=some (some (.ref D))) (eD:h[D]?=some (.ob (.dct ks))) (hl:ks.length < lim):qJt F u x k σ h=.ok (.nx σ,h.set D (.ob (.dct (qC9 ks i (.bl true))))):=by
 unfold qJt
 rw [show ev F (.cst (.bl true)) σ h=.ok (.bl true,h) from rfl,Res.bind_ok]
 dsimp only
 rw [qFB eu,Res.bind_ok]
 dsimp only
 rw [qId ex ea ev',Res.bind_ok]
 dsimp only
 rw [show qAV h D=none by unfold qAV;rw [eD],show qDA h D=some ks by unfold qDA;rw [eD]]
 dsimp only
 rw [if_pos ⟨rfl,hl⟩]
omit hF in
theorem qHz (ks:List (Int×V)) (k:Int) (v:V):(qC9 ks k v).length<=ks.length + 1:=by
 unfold qC9
 split<;>simp
omit hF in
theorem qEN {σ:List (Option V)} {h h2:AH} {u x f i:Nat} {lv w:V} {b:Bool} (ei:σ[i]?=some (some lv)) (ex:σ[x]?=some (some w)) (ef:F f [lv,w] h=.ok (.bl b,h2)):asB (ev F (qNw u x f i) σ h)=if b then asB (ev F (.or (.cmp .inn (.idx (.var x) (.cst (.int 0))) (.var u)) (.cmp .inn (.idx (.var x) (.cst (.int 1))) (.var u))) σ h2) else .ok (true,h2):=by
 show asB ((asB ((asB (((ev F (.var i) σ h).bind fun p=>((ev F (.var x) σ p.2).bind fun q=>Res.ok ([q.1],q.2)).bind fun q=>Res.ok (p.1::q.1,q.2)).bind fun p=>(F f p.1 p.2).nx)).bind fun p=>Res.ok (V.bl (!p.1),p.2))).bind fun p=>if p.1 then Res.ok (V.bl true,p.2) else ev F (.or (.cmp .inn (.idx (.var x) (.cst (.int 0))) (.var u)) (.cmp .inn (.idx (.var x) (.cst (.int 1))) (.var u))) σ p.2)=_
 rw [qFB ei,Res.bind_ok]
 dsimp only
 rw [qFB ex,Res.bind_ok,Res.bind_ok,Res.bind_ok,ef]
 cases b<;>rfl
omit hF in
theorem qF9 {σ:List (Option V)} {h h2:AH} {u x f i:Nat} {lv w:V} (ei:σ[i]?=some (some lv)) (ex:σ[x]?=some (some w)) (ef:F f [lv,w] h=.ok (.bl false,h2)):qBx F u x f i σ h=.ok (.rt (.bl false),h2):=by
 unfold qBx
 rw [qEN ei ex ef]
 rfl
omit hF in
theorem qGg {σ:List (Option V)} {h h2:AH} {u x f i a D:Nat} {lv:V} {p q:Int} {ks:List (Int×V)} (ei:σ[i]?=some (some lv)) (ex:σ[x]?=some (some (.ref a))) (ef:F f [lv,.ref a] h=.ok (.bl true,h2)) (ea:h2[a]?=some (.tup [.int p,.int q])) (eu:σ[u]?=some (some (.ref D))) (eD:h2[D]?=some (.ob (.dct ks))) (hl:ks.length + 1 < lim):
  qBx F u x f i σ h=if qG6 ks p||qG6 ks q then .ok (.rt (.bl false),h2) else .ok (.nx σ,h2.set D (.ob (.dct (qC9 (qC9 ks p (.bl true)) q (.bl true))))):=by
 have i0:(ixN ([V.int p,V.int q]:List V).length 0).bind (fun j=>([V.int p,V.int q]:List V)[j]?)=some (.int p):=rfl
 have i1:(ixN ([V.int p,V.int q]:List V).length 1).bind (fun j=>([V.int p,V.int q]:List V)[j]?)=some (.int q):=rfl
 have c0:=qK7 (F:=F) ex ea i0 eu eD
 have c1:=qK7 (F:=F) ex ea i1 eu eD
 have ne:a≠D:=by rintro rfl;rw [ea] at eD;cases eD
 have lD:D < h2.length:=qAK eD
 have p0:=qK5 (F:=F) ex ea i0 eu eD (by omega)
 have ea':(h2.set D (.ob (.dct (qC9 ks p (.bl true)))))[a]?=some (.tup [.int p,.int q]):=by rw [List.getElem?_set_ne (Ne.symm ne)];exact ea
 have p1:=qK5 (F:=F) ex ea' i1 eu (ks:=qC9 ks p (.bl true)) (by rw [List.getElem?_set_self lD]) (by have:=qHz ks p (.bl true);omega)
 unfold qBx
 rw [qEN ei ex ef,if_pos rfl]
 rw [show ev F (.or (.cmp .inn (.idx (.var x) (.cst (.int 0))) (.var u)) (.cmp .inn (.idx (.var x) (.cst (.int 1))) (.var u))) σ h2=(asB (ev F (.cmp .inn (.idx (.var x) (.cst (.int 0))) (.var u)) σ h2)).bind fun p=>if p.1 then .ok (.bl true,p.2) else ev F (.cmp .inn (.idx (.var x) (.cst (.int 1))) (.var u)) σ p.2 from rfl,c0]
 cases qG6 ks p with
 | true=>rfl
 | false=>
  rw [show (asB (.ok (.bl false,h2))).bind (fun p:Bool×AH=>if p.1 then .ok (.bl true,p.2) else ev F (.cmp .inn (.idx (.var x) (.cst (.int 1))) (.var u)) σ p.2)=ev F (.cmp .inn (.idx (.var x) (.cst (.int 1))) (.var u)) σ h2 from rfl,c1]
  cases qG6 ks q with
  | true=>rfl
  | false=>
   show qEu (qJt F u x 0 σ h2) (fun σ h=>qEu (qJt F u x 1 σ h) fun σ h=>Res.ok (Out.nx σ,h))=_
   rw [p0]
   show qEu (qJt F u x 1 σ (h2.set D (.ob (.dct (qC9 ks p (.bl true)))))) (fun σ h=>Res.ok (Out.nx σ,h))=_
   rw [p1,List.set_set]
   rfl
noncomputable def SimN (gl:List T) (A X:List Nat) (D n0:Nat) (h:AH):RSt -> RS -> Prop
 | .ok (o,M'),r=>∃ oh h',r=.ok (oh,h')/\Frm (A++[D]) h h'/\RelM gl A X h' M'/\RelO gl A X n0 h' M' o oh
 | .exc _ _,_=>False
 | .stuck,_=>True
omit hF in
theorem SimN.pre {A X:List Nat} {D n0:Nat} {h h1:AH} {r:RSt} {rh:RS} (s:SimN gl A X D n0 h1 r rh) (f:Frm (A++[D]) h h1):SimN gl A X D n0 h r rh:=by
 match r,s with
 | .ok (o,M'),⟨oh,h',e,f1,R,ro⟩=>exact ⟨oh,h',e,f.trans f1,R,ro⟩
 | .exc _ _,z=>exact z.elim
 | .stuck,_=>trivial
omit hF in
theorem Frm.more {A:List Nat} {D:Nat} {h h':AH} (f:Frm A h h'):Frm (A++[D]) h h':=⟨f.1,fun j hj hA=>f.2 j hj fun z=>hA (List.mem_append_left _ z)⟩
theorem qGu {A X:List Nat} {s:Src} {its:List T} {d:qCc} {u x f i D n0:Nat} {l:T} (hi:u≠i/\x≠i/\u≠x) (hD:D∈X) (hA:D∉A):∀ (r:List T) (n:Nat) (ks:List (Int×V)) (σ:TS) (σh:List (Option V)) (M:Mem) (h:AH) (lv:V),
   its.drop n=r -> n<=its.length -> RelM gl A X h M -> qB7 A X h s its d -> qBj A X h σ σh -> σh[u]?=some (some (.ref D)) -> h[D]?=some (.ob (.dct ks)) -> σh[i]?=some (some lv) -> Rep A X h l lv -> x < σh.length -> n0<=h.length -> SimN gl A X D n0 h (qHH P d f x l r ks σ M) (qFe s (.name x) (qBx F u x f i) r.length n σh h)
 | [],n,ks,σ,σh,M,h,lv,hr,hn,R,sr,rs,eu,eD,ei,rl,hx,h0=>by
  have hi':n=its.length:=by
   have:=List.drop_eq_nil_iff.mp hr;omega
  subst hi'
  show SimN gl A X D n0 h (.ok (.nx σ,M)) (if qBZ h its.length s then _ else _)
  rw [if_pos (qC6 sr)]
  exact ⟨_,h,rfl,Frm.refl _ _,R,rs⟩
 | t::r,n,ks,σ,σh,M,h,lv,hr,hn,R,sr,rs,eu,eD,ei,rl,hx,h0=>by
  have ex:its[n]?=some t:=by
   have:(its.drop n)[0]?=some t:=by rw [hr];rfl
   rwa [List.getElem?_drop,Nat.add_zero] at this
  have hn2:n + 1<=its.length:=(List.getElem?_eq_some_iff.mp ex).1
  have hr2:its.drop (n + 1)=r:=by
   rw [<- List.drop_drop,hr];rfl
  obtain ⟨w,ext,ey,rx⟩:=qCV R sr ex
  have fy:Frm A h (h++ext):=Frm.app A h ext
  have R1:=R.up ext
  have rl1:=R.keep fy rl
  rw [List.length_cons]
  unfold qHH qFe
  rw [ey]
  have st:store (.name x) w σh (h++ext)=some (σh.set x (some w)):=rfl
  dsimp only
  rw [st]
  dsimp only
  have ei1:(σh.set x (some w))[i]?=some (some lv):=by rw [List.getElem?_set_ne hi.2.1];exact ei
  have eu1:(σh.set x (some w))[u]?=some (some (.ref D)):=by rw [List.getElem?_set_ne (Ne.symm hi.2.2)];exact eu
  have ex1:(σh.set x (some w))[x]?=some (some w):=List.getElem?_set_self hx
  have sm:=hF f [l,t] [lv,w] A X (h++ext) M R1 (by unfold qAN;exact ⟨lv,[w],rfl,rl1,by unfold qAN;exact ⟨w,[],rfl,rx,by unfold qAN;rfl⟩⟩)
  revert sm
  generalize P f [l,t] M=rp
  intro sm
  match rp,sm with
  | .stuck,_=>trivial
  | .exc _ _,_=>trivial
  | .ok ((y,fl),M2),⟨yv,h2,ef,f2,R2,q⟩=>
   rw [PR.nx_ok,PR.bind_ok]
   dsimp only
   have rt_ok:RelO gl A X n0 h2 M2 (.rt (bT false)) (.rt (.bl false)):=by
    have rr:Rep A X h2 (.v (.bl false)) (.bl false):=by unfold Rep;exact ⟨rfl,rfl⟩
    exact ⟨rr,fun _=>Frs.of_lf R2 rr rfl⟩
   have fr2:Frm (A++[D]) h h2:=(fy.trans f2).more
   split
   ·rename_i ee
    have ry:=q.1
    unfold Rep at ry
    rw [ry.1] at ef
    rw [qF9 ei1 ex1 ef]
    exact ⟨_,h2,rfl,fr2,R2,rt_ok⟩
   ·rename_i ee
    have ry:=q.1
    unfold Rep at ry
    rw [ry.1] at ef
    split
    ·rename_i p q'
     have rx2:=R1.keep f2 rx
     unfold Rep at rx2
     obtain ⟨a,vs,rfl,ax,ea,rvs⟩:=rx2
     have hvs:vs=[.int p,.int q']:=by
      unfold qAN at rvs
      obtain ⟨v1,vs1,rfl,r1,rvs⟩:=rvs
      unfold qAN at rvs
      obtain ⟨v2,vs2,rfl,r2,rvs⟩:=rvs
      unfold qAN at rvs
      unfold Rep at r1 r2
      rw [rvs,r1.1,r2.1]
     subst hvs
     have eD2:h2[D]?=some (.ob (.dct ks)):=by
      rw [(fy.trans f2).2 D (qAK eD) hA];exact eD
     have lD:D < h2.length:=qAK eD2
     split
     ·rename_i hd
      rw [qGg ei1 ex1 ef ea eu1 eD2 hd.2]
      split
      ·exact ⟨_,h2,rfl,fr2,R2,rt_ok⟩
      ·have kp:∀ a o,a∉X -> h[a]?=some o -> a∉X/\(h2.set D (.ob (.dct (qC9 (qC9 ks p (.bl true)) q' (.bl true)))))[a]?=some o:=fun a o z e=>⟨z,by
        rw [List.getElem?_set_ne (by rintro rfl;exact z hD)]
        exact ((R.keepN (fy.trans f2)) a o z e).2⟩
       have R3:=R2.setX hD hA (.ob (.dct (qC9 (qC9 ks p (.bl true)) q' (.bl true))))
       have kp2:∀ a o,a∉X -> h2[a]?=some o -> a∉X/\(h2.set D (.ob (.dct (qC9 (qC9 ks p (.bl true)) q' (.bl true)))))[a]?=some o:=fun a o z e=>⟨z,by
        rw [List.getElem?_set_ne (by rintro rfl;exact z hD)];exact e⟩
       have fr3:Frm (A++[D]) h (h2.set D (.ob (.dct (qC9 (qC9 ks p (.bl true)) q' (.bl true))))):=fr2.set (.inl (by simp)) _
       refine SimN.pre ?_ fr3
       exact qGu hi hD hA r (n + 1) _ _ _ M2 _ lv hr2 hn2 R3 (qEB sr (fun a o z e=>(kp a o z e).2) R3 hd.1) (qAx x (qA2 (fun _ _ e=>e) kp rs) (show qHT A X _ (some _) (some _) from qAj (fun _ _ e=>e) kp2 _ (R1.keep f2 rx))) eu1 (List.getElem?_set_self lD) ei1 (qAj (fun _ _ e=>e) kp _ rl) (by simpa using hx) (by have:=fr3.1;omega)
     ·trivial
    ·trivial
   ·trivial
mutual
theorem qNC:∀ (s:S) (A X:List Nat) (h:AH) (M:Mem) (σ:TS) (σh:List (Option V)),RelM gl A X h M -> qBj A X h σ σh -> SimS gl A X h (px gl P C s σ M) (ex F s σh h)
 | .asg g e,A,X,h,M,σ,σh,R,rs=>by
  rw [px,ex];dsimp only
  have se:=qAO hF e A X h M σ σh R rs
  have tp:=fun he=>qJK hF e he A X h M σ σh R rs
  revert se tp
  generalize pe gl P e σ M=r
  generalize ev F e σh h=rh
  intro se tp
  cases r with
  | stuck=>trivial
  | exc c M'=>
   obtain ⟨h',rfl,f1,R1⟩:=se
   exact ⟨h',[],rfl,f1,fun b hb=>by simp at hb,by simpa using R1⟩
  | ok p=>
   obtain ⟨x,M1⟩:=p
   obtain ⟨w,h1,rfl,f1,R1,q⟩:=se
   rw [PR.bind_ok,Res.bind_ok]
   dsimp only
   have gen:∀ {g:Tg} {σ1:TS},qBE g x.1 σ=some σ1 -> SimS gl A X h (.ok (.nx σ1,M1)) (match store g w σh h1 with | some σ1=>.ok (.nx σ1,h1) | none=>.stuck):=fun e=>by
    obtain ⟨σh1,e2,rs2⟩:=qBK e q.1 (R.keepS f1 rs)
    rw [e2]
    exact (SimS.mk (o:=.nx _) (oh:=.nx _) R1 rs2).pre f1
   cases g with
   | name i=>
    dsimp only
    split
    ·rename_i hc
     rw [Bool.and_eq_true] at hc
     obtain ⟨fp,p,nd,l,R'⟩:=q.2 hc.2
     obtain ⟨R2,r2⟩:=R'.thaw R.sub p nd
     refine ⟨.nx (σh.set i (some w)),h1,fp,rfl,f1,l,R2,?_⟩
     exact qAx i (qA2 qBY (qDG R.sub f1 l) rs) (show qHT _ _ h1 (some _) (some w) from r2)
    ·split
     ·rename_i hc
      rw [Bool.and_eq_true] at hc
      have tp:=tp hc.2
      obtain ⟨x1,x2⟩:=x
      dsimp only
      split
      ·rename_i ts
       obtain ⟨h0,vs,e0,f0,R0,r0⟩:=tp
       cases e0
       refine ⟨.nx (σh.set i (some (.ref h0.length))),_,[h0.length],rfl,f0.trans (Frm.app A h0 _),fun b hb=>by simp at hb;have:=f0.1;omega,R0.cellN r0,?_⟩
       refine qAx i (qA2 qBY (qDG R0.sub (Frm.app A h0 _) (fun b hb=>by simp at hb;omega)) (R.keepS f0 rs)) (show qHT _ _ _ (some _) (some _) from ?_)
       have rc:Rep (A++[h0.length]) (X++[h0.length]) (h0++[O.lst false vs]) (.cell M1.length) (.ref h0.length):=by
        unfold Rep
        exact ⟨h0.length,by rw [<- R0.len];simp,rfl⟩
       exact rc
      ·exact SimS.stuck
     ·exact gen (g:=.name i) rfl
   | tup is=>
    dsimp only
    split
    ·rename_i σ1 e;exact gen e
    ·exact SimS.stuck
 | .par i j a b,A,X,h,M,σ,σh,R,rs=>by
  rw [px,ex];dsimp only
  refine Sim.bindS (qAO hF a A X h M σ σh R rs) ?_
  intro x M1 v h1 f1 R1 q1;dsimp only
  refine Sim.bindS (qAO hF b A X h1 M1 σ σh R1 (R.keepS f1 rs)) ?_
  intro y M2 w h2 f2 R2 q2;dsimp only
  refine SimS.mk R2 ?_
  exact qAx j (qAx i (R1.keepS f2 (R.keepS f1 rs)) (show qHT _ _ h2 (some _) (some v) from R1.keep f2 q1.1)) (show qHT _ _ h2 (some _) (some w) from q2.1)
 | .put o i v,A,X,h,M,σ,σh,R,rs=>by
  rw [px,ex];dsimp only
  refine Sim.bindS (qAO hF v A X h M σ σh R rs) ?_
  intro x M1 vx h1 f1 R1 q1;dsimp only
  refine Sim.bindS (qAO hF o A X h1 M1 σ σh R1 (R.keepS f1 rs)) ?_
  intro y M2 w h2 f2 R2 q2;dsimp only
  refine Sim.bindS (qAO hF i A X h2 M2 σ σh R2 (R1.keepS f2 (R.keepS f1 rs))) ?_
  intro z M3 u h3 f3 R3 q3;dsimp only
  obtain ⟨ty,fy⟩:=y
  obtain ⟨tz,fz⟩:=z
  dsimp only
  split
  ·rename_i n k
   cases qAn q3.1
   have q:=R2.keep f3 q2.1
   unfold Rep at q
   obtain ⟨p,ep,rfl⟩:=q
   obtain ⟨ts2,vs2,g1,g2,g3⟩:=R3.at_ n p ep
   rw [g1]
   dsimp only
   rw [show qAV h3 p=some vs2 by unfold qAV;rw [g2]]
   dsimp only
   rw [<- qAC (reps_iff.mp g3)]
   split
   ·rename_i j ej
    try simp only [ej]
    obtain ⟨R4,f4⟩:=R3.put ep (reps_iff.mpr (qAx j (reps_iff.mp g3) (R2.keep f3 (R1.keep f2 q1.1))))
    exact (SimS.mk (o:=.nx σ) (oh:=.nx σh) R4 (R3.keepS f4 (R2.keepS f3 (R1.keepS f2 (R.keepS f1 rs))))).pre f4
   ·exact SimS.stuck
  ·exact SimS.stuck
 | .expr e,A,X,h,M,σ,σh,R,rs=>by
  rw [px,ex];dsimp only
  refine Sim.bindS (qAO hF e A X h M σ σh R rs) ?_
  intro x M1 v h1 f1 R1 q1;dsimp only
  exact SimS.mk (o:=.nx σ) (oh:=.nx σh) R1 (R.keepS f1 rs)
 | .ret e,A,X,h,M,σ,σh,R,rs=>by
  rw [px,ex];dsimp only
  have se:=qAO hF e A X h M σ σh R rs
  revert se
  generalize pe gl P e σ M=r
  generalize ev F e σh h=rh
  intro se
  cases r with
  | stuck=>trivial
  | exc c M'=>
   obtain ⟨h',rfl,f1,R1⟩:=se
   exact ⟨h',[],rfl,f1,fun b hb=>by simp at hb,by simpa using R1⟩
  | ok p=>
   obtain ⟨x,M1⟩:=p
   obtain ⟨w,h1,rfl,f1,R1,q⟩:=se
   exact ⟨.rt w,h1,[],rfl,f1,fun b hb=>by simp at hb,by simpa using R1,by simpa using (show RelO gl A X h.length h1 M1 (.rt x) (.rt w) from q)⟩
 | .retc as e,A,X,h,M,σ,σh,R,rs=>by
  rw [px,ex];dsimp only
  rw [show ev F (.tup (as.snoc e)) σh h=(evs F (as.snoc e) σh h).bind fun p=>if p.1.length<=lim then newT p.1 p.2 else .stuck from by rw [ev],qFm,Res.bind_assoc,Res.bind_assoc]
  refine Sim.bindS (qBn hF as A X h M σ σh R rs) ?_
  intro x M1 v h1 f1 R1 q1;dsimp only
  rw [Res.bind_assoc]
  have se:=qAO hF e A X h1 M1 σ σh R1 (R.keepS f1 rs)
  revert se
  generalize pe gl P e σ M1=r
  generalize ev F e σh h1=rh
  intro se
  cases r with
  | stuck=>trivial
  | exc c M'=>
   obtain ⟨h',rfl,f2,R2⟩:=se
   exact ⟨h',[],rfl,f2,fun b hb=>by simp at hb,by simpa using R2⟩
  | ok p=>
   obtain ⟨y,M2⟩:=p
   obtain ⟨w,h2,rfl,f2,R2,q⟩:=se
   rw [PR.bind_ok,Res.bind_ok,Res.bind_ok]
   dsimp only
   split
   ·rename_i hc
    obtain ⟨fp,p,nd,l,R'⟩:=q.2 hc.1
    obtain ⟨R3,r3⟩:=R'.thaw R.sub p nd
    have ll:(v++[w]).length<=lim:=by
     have:=qAC (reps_iff.mp q1.1)
     rw [List.length_map] at this
     rw [List.length_append,<- this]
     exact hc.2
    rw [if_pos ll]
    have rp:Rep (A++fp) (X++fp) (h2++[O.tup (v++[w])]) (.tup (x.map (·.1)++[(thaw M2.length y.1).1])) (.ref h2.length):=by
     unfold Rep
     refine ⟨h2.length,v++[w],rfl,fun z=>by have:=R3.lt _ z;omega,by simp,?_⟩
     have g1:=qAQ (qBY (B:=fp)) (qDG R1.sub (f2.trans (Frm.app A h2 [O.tup (v++[w])])) l) _ q1.1
     have g2:=R3.keep (Frm.app (A++fp) h2 [O.tup (v++[w])]) r3
     exact reps_iff.mpr (qAr (reps_iff.mp g1) ⟨w,[],rfl,g2,rfl⟩)
    exact ⟨.rt (.ref h2.length),h2++[O.tup (v++[w])],fp,rfl,f2.trans (Frm.app A h2 _),l,R3.up _,⟨rp,fun e=>by cases e⟩⟩
   ·exact SimS.stuck
 | .retN,A,X,h,M,σ,σh,R,rs=>by
  rw [px,ex];dsimp only
  have r:Rep A X h (.v .non) .non:=by unfold Rep;exact ⟨rfl,rfl⟩
  exact SimS.mk (o:=.rt (.v .non,true)) (oh:=.rt .non) R (show QE gl A X h.length (.v .non,true) .non h M from ⟨r,fun _=>Frs.of_lf R r rfl⟩)
 | .ifs c t u,A,X,h,M,σ,σh,R,rs=>by
  rw [px,ex];dsimp only
  refine Sim.bindS (qEe (qAO hF c A X h M σ σh R rs)) ?_
  rintro x M1 v h1 f1 R1 rfl;dsimp only
  cases x with
  | true=>simp only [if_true];exact qDJ t A X h1 M1 σ σh R1 (R.keepS f1 rs)
  | false=>simp only [Bool.false_eq_true,if_false];exact qDJ u A X h1 M1 σ σh R1 (R.keepS f1 rs)
 | .for_ g it b,A,X,h,M,σ,σh,R,rs=>by
  rw [px,ex];dsimp only
  refine Sim.bindS (qGX hF it A X h M σ σh R rs) ?_
  intro s M1 sh h1 f1 R1 q1;dsimp only
  rw [qDr q1]
  exact qHC (fun A X h M σ σh R rs=>qDJ b A X h M σ σh R rs) s.1 0 σ σh M1 h1 A X rfl (Nat.zero_le _) R1 q1 (R.keepS f1 rs)
 | .while_ c b,A,X,h,M,σ,σh,R,rs=>by
  rw [px,ex];dsimp only
  exact qCl (fun A X h M σ σh R rs=>qEe (qAO hF c A X h M σ σh R rs)) (fun A X h M σ σh R rs=>qDJ b A X h M σ σh R rs) qK6 σ σh M h A X R rs
 | .pass,A,X,h,M,σ,σh,R,rs=>by rw [px,ex];exact SimS.mk (o:=.nx σ) (oh:=.nx σh) R rs
 | .brk,A,X,h,M,σ,σh,R,rs=>by rw [px,ex];exact SimS.mk (o:=.bk σ) (oh:=.bk σh) R rs
 | .cont,A,X,h,M,σ,σh,R,rs=>by rw [px,ex];exact SimS.mk (o:=.ct σ) (oh:=.ct σh) R rs
 | .nloop u x f i a,A,X,h,M,σ,σh,R,rs=>by
  rw [px,ex];dsimp only
  split
  ·exact SimS.stuck
  ·rename_i hne
   have hX:∀ b,b∈X++[h.length]↔b=h.length\/b∈X:=fun b=>by rw [List.mem_append,List.mem_singleton];exact Or.comm
   have R0:=R.addX (o:=.ob (.dct [])) hX
   have hn:∀ b o,b∉X -> h[b]?=some o -> b∉X++[h.length]/\(h++[O.ob (.dct [])])[b]?=some o:=qDG R.sub (Frm.app A h _) (fun b hb=>by simp at hb;omega)
   have rs0:qBj A (X++[h.length]) (h++[O.ob (.dct [])]) (σ.set u none) (σh.set u (some (.ref h.length))):=qAx u (qA2 (fun _ _ e=>e) hn rs) (show qHT A _ _ none _ from trivial)
   have ll:=qAC rs
   have sp:=qGX hF (.list a) A (X++[h.length]) _ M _ _ R0 rs0
   revert sp
   generalize pei gl P (.list a) (σ.set u none) M=rp
   generalize evi F (.list a) (σh.set u (some (.ref h.length))) (h++[O.ob (.dct [])])=re
   intro sp
   match rp,sp with
   | .stuck,_=>exact SimS.stuck
   | .exc c M1,⟨h1,e,f1,R1⟩=>
    subst e
    exact ⟨h1,[],rfl,(Frm.app A h _).trans f1,fun b hb=>by simp at hb,by simpa using R1.weak (fun a ha=>(hX a).mpr (.inr ha)) R.sub⟩
   | .ok (s,M1),⟨sh,h1,e,f1,R1,q1⟩=>
    subst e
    rw [PR.bind_ok,Res.bind_ok]
    dsimp only
    rw [qDr q1]
    dsimp only
    split
    ·rename_i l el
     obtain ⟨lv,elv,rl⟩:=qDY rs el
     have hD:h.length∈X++[h.length]:=by simp
     have hA:h.length∉A:=fun z=>by have:=R.lt _ (R.sub _ z);omega
     have e1:h1[h.length]?=some (.ob (.dct [])):=by
      rw [f1.2 h.length (by simp) hA];simp
     have kp:∀ b o,b∉X -> h[b]?=some o -> b∉X++[h.length]/\h1[b]?=some o:=fun b o z e=>⟨(hn b o z e).1,((R0.keepN f1) b o (hn b o z e).1 (hn b o z e).2).2⟩
     have sn:=qGu (n0:=h.length) hF (u:=u) (x:=x) (f:=f) (i:=i) (D:=h.length) (l:=l) (s:=sh) (its:=s.1) (d:=s.2) (by omega) hD hA s.1 0 [] (σ.set u none) (σh.set u (some (.ref h.length))) M1 h1 lv rfl (Nat.zero_le _) R1 q1 (R0.keepS f1 rs0) (List.getElem?_set_self (by omega)) e1 (by rw [List.getElem?_set_ne (by omega)];exact elv) (qAj (fun _ _ e=>e) kp l rl) (by simp;omega) (by have:=f1.1;simp at this;omega)
     revert sn
     generalize qHH P s.2 f x l s.1 [] (σ.set u none) M1=r2
     generalize qFe sh (.name x) (qBx F u x f i) s.1.length 0 (σh.set u (some (.ref h.length))) h1=re2
     intro sn
     have wk:∀ (h':AH) (b:Nat) (o:O),b∉X++[h.length] -> h'[b]?=some o -> b∉X/\h'[b]?=some o:=fun h' b o z e=>⟨fun y=>z ((hX b).mpr (.inr y)),e⟩
     match r2,sn with
     | .stuck,_=>exact SimS.stuck
     | .exc _ _,z=>exact z.elim
     | .ok (o,M2),⟨oh,h2,e,f2,R2,ro⟩=>
      subst e
      have R3:RelM gl A X h2 M2:=R2.weak (fun a ha=>(hX a).mpr (.inr ha)) R.sub
      refine ⟨oh,h2,[],rfl,?_,fun b hb=>by simp at hb,by simpa using R3,?_⟩
      ·have g1:=(Frm.app A h [O.ob (.dct [])]).trans f1
       refine ⟨Nat.le_trans g1.1 f2.1,fun j hj hjA=>?_⟩
       rw [f2.2 j (Nat.lt_of_lt_of_le hj g1.1) (fun z=>by
        rcases List.mem_append.mp z with z | z
        ·exact hjA z
        ·simp at z;omega),g1.2 j hj hjA]
      ·rw [List.append_nil,List.append_nil]
       cases o<;>cases oh<;>first | exact ro.elim | exact qA2 (fun _ _ e=>e) (wk h2) ro | skip
       refine ⟨qAj (fun _ _ e=>e) (wk h2) _ ro.1,fun e=>?_⟩
       obtain ⟨fp,p1,p2,p3,p4⟩:=ro.2 e
       refine ⟨fp,qCn (wk h2) _ p1,p2,p3,p4.weak (fun a ha=>?_) (fun a ha=>List.mem_append_left _ (R.sub a ha))⟩
       rcases List.mem_append.mp ha with z | z
       ·exact List.mem_append_left _ ((hX a).mpr (.inr z))
       ·exact List.mem_append_right _ z
    ·exact SimS.stuck
 | .stop,A,X,h,M,σ,σh,R,rs=>by rw [px,ex];exact SimS.stuck
theorem qDJ:∀ (s:Ss) (A X:List Nat) (h:AH) (M:Mem) (σ:TS) (σh:List (Option V)),RelM gl A X h M -> qBj A X h σ σh -> SimS gl A X h (pxs gl P C s σ M) (exs F s σh h)
 | .nil,A,X,h,M,σ,σh,R,rs=>by rw [pxs,exs];exact SimS.mk (o:=.nx σ) (oh:=.nx σh) R rs
 | .cons s r,A,X,h,M,σ,σh,R,rs=>by
  rw [pxs,exs];dsimp only
  refine SimS.bind (qNC s A X h M σ σh R rs) ?_
  intro o M1 oh h1 B f1 hB R1 ro
  cases o with
  | nx σ2=>cases oh<;>first | exact .inl (qDJ r _ _ h1 M1 _ _ R1 ro) | exact ro.elim
  | ct σ2=>cases oh<;>first | exact .inr ⟨rfl,rfl⟩ | exact ro.elim
  | bk σ2=>cases oh<;>first | exact .inr ⟨rfl,rfl⟩ | exact ro.elim
  | rt t=>cases oh<;>first | exact .inr ⟨rfl,rfl⟩ | exact ro.elim
end
end
end PI
namespace PI
open L2 (V)
section
variable {gl:List T} {A X B:List Nat} {h h':AH} {M M1:Mem}
theorem mapM_cons {α β:Type} {f:α -> Option β} {x:α} {xs:List α} {ys:List β} (e:(x::xs).mapM f=some ys):∃ y ys',f x=some y/\xs.mapM f=some ys'/\ys=y::ys':=by
 rw [List.mapM_cons] at e
 cases hf:f x with
 | none=>rw [hf] at e;cases e
 | some y=>
  rw [hf] at e
  cases hg:xs.mapM f with
  | none=>rw [hg] at e;cases e
  | some ys'=>rw [hg] at e;cases e;exact ⟨y,ys',rfl,rfl,rfl⟩
theorem mapM_nil {α β:Type} {f:α -> Option β} {ys:List β} (e:([]:List α).mapM f=some ys):ys=[]:=by
 rw [List.mapM_nil] at e;cases e;rfl
theorem qB2 {A1 X1:List Nat} {f:T -> Option T} (hf:∀ t t' w,f t=some t' -> Rep A1 X1 h t w -> Rep A X h t' w):∀ {ts ts':List T} {vs:List V},ts.mapM f=some ts' -> qAN A1 X1 h ts vs -> qAN A X h ts' vs
 | [],ts',vs,e,r=>by cases mapM_nil e;unfold qAN at r ⊢;exact r
 | t::ts,ts',vs,e,r=>by
  obtain ⟨y,ys,e1,e2,rfl⟩:=mapM_cons e
  unfold qAN at r ⊢
  obtain ⟨v,vs',rfl,a,b⟩:=r
  exact ⟨v,vs',rfl,hf _ _ _ e1 a,qB2 hf e2 b⟩
theorem qF1 (R:RelM gl (A++B) (X++B) h M1) (hB:∀ b∈B,b∉X):∀ (d:Nat) (t t':T) (w:V),qAP M1 A.length d t=some t' -> Rep (A++B) (X++B) h t w -> Rep A X h t' w:=by
 have hu:∀ (t:T) (w:V),t.und A.length=true -> Rep (A++B) (X++B) h t w -> Rep A X h t w:=fun t w u r=>qGI (fun n hn=>List.getElem?_append_left hn) (fun a ha=>List.mem_append_left _ ha) t r u
 have hX:∀ a,a∉X++B -> a∉X:=fun a x z=>x (List.mem_append_left _ z)
 intro d
 induction d with
 | zero=>
  intro t t' w e r
  unfold qAP at e
  split at e
  ·rename_i u;cases e;exact hu _ w u r
  ·cases e
 | succ d ih=>
  intro t t' w e r
  unfold qAP at e
  split at e
  ·rename_i u;cases e;exact hu _ w u r
  ·rename_i u
   cases t with
   | v x=>cases e
   | ob o=>cases e
   | fz ts=>cases e
   | lst ts=>
    obtain ⟨ts',e1,rfl⟩:=Option.map_eq_some_iff.mp e
    unfold Rep at r ⊢
    obtain ⟨a,vs,rfl,q1,q2,q3⟩:=r
    exact ⟨a,vs,rfl,hX a q1,q2,qB2 ih e1 q3⟩
   | tup ts=>
    obtain ⟨ts',e1,rfl⟩:=Option.map_eq_some_iff.mp e
    unfold Rep at r ⊢
    obtain ⟨a,vs,rfl,q1,q2,q3⟩:=r
    exact ⟨a,vs,rfl,hX a q1,q2,qB2 ih e1 q3⟩
   | cell n=>
    obtain ⟨ts,e0,e⟩:=Option.bind_eq_some_iff.mp (show (M1[n]?).bind _=_ from e)
    obtain ⟨ts',e1,rfl⟩:=Option.map_eq_some_iff.mp e
    have hn:A.length<=n:=by
     unfold T.und at u;simpa using u
    unfold Rep at r ⊢
    obtain ⟨a,ea,rfl⟩:=r
    obtain ⟨ts2,vs,g1,g2,g3⟩:=R.at_ n a ea
    rw [e0] at g1;cases g1
    rw [List.getElem?_append_right hn] at ea
    exact ⟨a,vs,rfl,hB a (List.mem_of_getElem? ea),g2,qB2 ih e1 g3⟩
mutual
theorem qGJ (n:Nat):∀ (t:T),t.lf=true -> t.und n=true
 | .v x,_=>rfl
 | .cell _,l=>by unfold T.lf at l;cases l
 | .ob _,_=>rfl
 | .fz _,l=>by unfold T.lf at l;cases l
 | .lst _,l=>by unfold T.lf at l;cases l
 | .tup ts,l=>by unfold T.lf at l;unfold T.und;exact qEp n ts l
theorem qEp (n:Nat):∀ (ts:List T),T.lfs ts=true -> T.unds n ts=true
 | [],_=>rfl
 | t::ts,l=>by unfold T.lfs at l;rw [Bool.and_eq_true] at l;unfold T.unds;rw [qGJ n t l.1,qEp n ts l.2];rfl
end
theorem qG2 {n0:Nat} {f:T -> Option (List Nat)} (hf:∀ t l,f t=some l -> t.und n0=true -> t.lf=true):∀ {ts:List T} {ls:List (List Nat)},ts.mapM f=some ls -> T.unds n0 ts=true -> T.lfs ts=true
 | [],ls,e,u=>rfl
 | t::ts,ls,e,u=>by
  obtain ⟨y,ys,e1,e2,rfl⟩:=mapM_cons e
  unfold T.unds at u;rw [Bool.and_eq_true] at u
  unfold T.lfs
  rw [hf t _ e1 u.1,qG2 hf e2 u.2];rfl
theorem qGq {n0:Nat}:∀ (d:Nat) (t:T) (l:List Nat),qB1 M1 n0 d t=some l -> t.und n0=true -> t.lf=true:=by
 intro d
 induction d with
 | zero=>intro t l e u;unfold qB1 at e;split at e<;>first | assumption | cases e
 | succ d ih=>
  intro t l e u
  unfold qB1 at e
  split at e
  ·assumption
  ·cases t with
   | tup ts=>
    obtain ⟨ls,e1,rfl⟩:=Option.map_eq_some_iff.mp e
    unfold T.und at u
    unfold T.lf
    exact qG2 ih e1 u
   | cell n=>
    dsimp only at e
    split at e
    ·rename_i hn;unfold T.und at u;simp at u;omega
    ·cases e
   | v x=>cases e
   | ob o=>cases e
   | fz ts=>cases e
   | lst ts=>cases e
theorem qDa {A1 X1:List Nat} {n0:Nat} {f:T -> Option (List Nat)} {g:T -> Option T} (hf:∀ t l t' w,f t=some l -> g t=some t' -> Rep A1 X1 h t w -> ∃ fp,FP X h t' w fp/\fp.map some=l.map (A1[·]?)/\∀ n∈l,n0<=n):
  ∀ {ts ts':List T} {ls:List (List Nat)} {vs:List V},ts.mapM f=some ls -> ts.mapM g=some ts' -> qAN A1 X1 h ts vs -> ∃ fp,FPs X h ts' vs fp/\fp.map some=ls.flatten.map (A1[·]?)/\∀ n∈ls.flatten,n0<=n
 | [],ts',ls,vs,e,e',r=>by
  cases mapM_nil e;cases mapM_nil e'
  unfold qAN at r
  exact ⟨[],by unfold FPs;exact ⟨r,rfl⟩,rfl,fun n hn=>by simp at hn⟩
 | t::ts,ts',ls,vs,e,e',r=>by
  obtain ⟨y,ys,e1,e2,rfl⟩:=mapM_cons e
  obtain ⟨z,zs,e3,e4,rfl⟩:=mapM_cons e'
  unfold qAN at r
  obtain ⟨v,vs',rfl,a,b⟩:=r
  obtain ⟨f1,p1,q1,n1⟩:=hf _ _ _ _ e1 e3 a
  obtain ⟨f2,p2,q2,n2⟩:=qDa hf e2 e4 b
  refine ⟨f1++f2,by unfold FPs;exact ⟨v,vs',f1,f2,rfl,p1,p2,rfl⟩,by simp [q1,q2],fun n hn=>?_⟩
  rw [List.flatten_cons] at hn
  rcases List.mem_append.mp hn with z | z
  ·exact n1 n z
  ·exact n2 n z
theorem qC2 {n0:Nat} {d:Nat} {t t':T} (u:t.und n0=true) (e:qAP M1 n0 d t=some t'):t'=t:=by
 cases d<;>(unfold qAP at e;rw [if_pos u] at e;cases e;rfl)
theorem qIJ (R:RelM gl (A++B) (X++B) h M1) (hB:∀ b∈B,b∉X):∀ (d:Nat) (t:T) (l:List Nat) (t':T) (w:V),qB1 M1 A.length d t=some l -> qAP M1 A.length d t=some t' -> Rep (A++B) (X++B) h t w ->
  ∃ fp,FP X h t' w fp/\fp.map some=l.map ((A++B)[·]?)/\∀ n∈l,A.length<=n:=by
 have hX:∀ a,a∉X++B -> a∉X:=fun a x z=>x (List.mem_append_left _ z)
 have lfc:∀ {d:Nat} {t t':T} {w:V},t.lf=true -> qAP M1 A.length d t=some t' -> Rep (A++B) (X++B) h t w -> ∃ fp:List Nat,FP X h t' w fp/\fp.map some=([]:List Nat).map ((A++B)[·]?)/\∀ n∈([]:List Nat),A.length<=n:=by
  intro d t t' w l e r
  cases qC2 (qGJ _ t l) e
  exact ⟨[],qCn (fun a o x y=>⟨hX a x,y⟩) _ (qI5 _ r l),rfl,fun n hn=>by simp at hn⟩
 intro d
 induction d with
 | zero=>
  intro t l t' w e e' r
  unfold qB1 at e
  split at e
  ·rename_i hl;cases e;exact lfc hl e' r
  ·cases e
 | succ d ih=>
  intro t l t' w e e' r
  unfold qB1 at e
  split at e
  ·rename_i hl;cases e;exact lfc hl e' r
  ·rename_i hl
   have hu:t.und A.length≠true:=fun u=>hl (qGq (M1:=M1) (d + 1) t l (by unfold qB1;rw [if_neg hl];exact e) u)
   unfold qAP at e'
   rw [if_neg hu] at e'
   cases t with
   | tup ts=>
    obtain ⟨ls,e1,rfl⟩:=Option.map_eq_some_iff.mp e
    obtain ⟨ts',e2,rfl⟩:=Option.map_eq_some_iff.mp e'
    unfold Rep at r
    obtain ⟨a,vs,rfl,q1,q2,q3⟩:=r
    obtain ⟨fp,p1,p2,p3⟩:=qDa ih e1 e2 q3
    exact ⟨fp,by unfold FP;exact ⟨a,vs,rfl,hX a q1,q2,p1⟩,p2,p3⟩
   | cell n=>
    dsimp only at e e'
    split at e
    ·rename_i hn
     obtain ⟨ts,e0,e⟩:=Option.bind_eq_some_iff.mp e
     obtain ⟨ls,e1,rfl⟩:=Option.map_eq_some_iff.mp e
     rw [e0] at e'
     dsimp only [Option.bind_some] at e'
     obtain ⟨ts',e2,rfl⟩:=Option.map_eq_some_iff.mp e'
     unfold Rep at r
     obtain ⟨a,ea,rfl⟩:=r
     obtain ⟨ts2,vs,g1,g2,g3⟩:=R.at_ n a ea
     rw [e0] at g1;cases g1
     obtain ⟨fp,p1,p2,p3⟩:=qDa ih e1 e2 g3
     have ea2:=ea
     rw [List.getElem?_append_right hn] at ea2
     refine ⟨fp++[a],by unfold FP;exact ⟨a,vs,fp,rfl,hB a (List.mem_of_getElem? ea2),g2,p1,rfl⟩,?_,fun m hm=>?_⟩
     ·rw [List.map_append,List.map_append,p2]
      simp [ea]
     ·rcases List.mem_append.mp hm with z | z
      ·exact p3 m z
      ·simp at z;omega
    ·cases e
   | v x=>cases e
   | ob o=>cases e
   | fz ts=>cases e
   | lst ts=>cases e
theorem qDb {X' Y:List Nat} (R:RelM gl (A++B) Y h M1) (hX:∀ a∈X',a∈Y) (hA:∀ a∈A,a∈X') (hc:(M1.take A.length).all (T.unds A.length)=true) (hg:∀ (g:Nat) t,gl[g]?=some t -> Rep A X' h t (.ref g)):RelM gl A X' h (M1.take A.length):=by
 have l:=R.len
 rw [List.length_append] at l
 refine ⟨by rw [List.length_take];omega,(List.nodup_append.mp R.nd).1,hA,fun a ha=>R.lt a (hX a ha),fun n a e=>?_,hg⟩
 have hn:=(List.getElem?_eq_some_iff.mp e).1
 obtain ⟨ts,vs,e1,e2,e3⟩:=R.at_ n a (qBY n a e)
 refine ⟨ts,vs,by rw [List.getElem?_take_of_lt hn];exact e1,e2,qB6 (fun n hn=>List.getElem?_append_left hn) hX ts e3 ?_⟩
 rw [List.all_eq_true] at hc
 refine hc ts (List.mem_of_getElem? (i:=n) ?_)
 rw [List.getElem?_take_of_lt hn];exact e1
theorem qEJ (R0:RelM gl A X h M) (f:Frm A h h') (hB:∀ b∈B,h.length<=b) (R:RelM gl (A++B) (X++B) h' M1) {x:TB} {w:V} (q:QE gl (A++B) (X++B) h.length x w h' M1):Sim gl A X h (QE gl A X h.length) (finish M.length x M1) (.ok (w,h')):=by
 have hBX:∀ b∈B,b∉X:=fun b z y=>by have:=hB b z;have:=R0.lt b y;omega
 have hX:∀ a,a∉X++B -> a∉X:=fun a x z=>x (List.mem_append_left _ z)
 have hg:∀ {Z:List Nat},(∀ a∈Z,h.length<=a) -> ∀ (g:Nat) t,gl[g]?=some t -> Rep A (X++Z) h' t (.ref g):=fun hZ g t e=>qAj (fun _ _ e=>e) (fun a o x y=>⟨by
   rw [List.mem_append];rintro (z | z)
   ·exact x z
   ·have:=hZ a z;have:=qAK y;omega,(R0.keepN f a o x y).2⟩) t (R0.glo g t e)
 unfold finish
 rw [<- R0.len]
 split
 ·rename_i hl
  have hB0:B=[]:=by
   have:=R.len
   rw [List.length_append,hl] at this
   exact List.length_eq_zero_iff.mp (by omega)
  subst hB0
  rw [List.append_nil,List.append_nil] at R q
  exact ⟨w,h',rfl,f,R,q⟩
 split
 ·rename_i hc
  refine Sim.ofO fun t' et=>?_
  have R':RelM gl A X h' (M1.take A.length):=by
   have:=qDb (X':=X++[]) R (fun a ha=>by simp at ha;exact List.mem_append_left _ ha) (fun a ha=>by simp;exact R0.sub a ha) hc (hg fun a ha=>by simp at ha)
   simpa using this
  refine ⟨w,h',rfl,f,R',qF1 R hBX 6 _ _ _ et q.1,fun e=>?_⟩
  rw [Bool.or_eq_true] at e
  rcases e with e | e
  ·obtain ⟨fp,p,nd,l,Rf⟩:=q.2 e
   cases qC2 (qIf A.length _ p) et
   refine ⟨fp,qCn (fun a o x y=>⟨hX a x,y⟩) _ p,nd,l,qDb Rf (fun a ha=>?_) (fun a ha=>List.mem_append_left _ (R0.sub a ha)) hc (hg l)⟩
   rcases List.mem_append.mp ha with z | z
   ·exact List.mem_append_left _ (List.mem_append_left _ z)
   ·exact List.mem_append_right _ z
  ·unfold frR at e
   split at e
   ·rename_i l el
    have ndl:l.Nodup:=by simpa using e
    obtain ⟨fp,p,pm,pn⟩:=qIJ R hBX 6 _ _ _ _ el et q.1
    have fB:∀ a∈fp,a∈B:=fun a ha=>by
     have:some a∈fp.map some:=List.mem_map_of_mem ha
     rw [pm] at this
     obtain ⟨n,hn,en⟩:=List.mem_map.mp this
     rw [List.getElem?_append_right (pn n hn)] at en
     exact List.mem_of_getElem? en
    have nd:fp.Nodup:=by
     have:(fp.map some).Nodup:=by
      rw [pm]
      refine List.pairwise_map.mpr (List.Pairwise.imp_of_mem ?_ ndl)
      intro n m hn hm hnm e
      have:(A++B)[n]?∈fp.map some:=by rw [pm];exact List.mem_map_of_mem hn
      obtain ⟨a,_,ea⟩:=List.mem_map.mp this
      exact hnm ((List.getElem?_inj (List.getElem?_eq_some_iff.mp ea.symm).1 R.nd).mp e)
     exact (List.pairwise_map.mp this).imp fun {a b} z e=>z (by rw [e])
    refine ⟨fp,p,nd,fun a ha=>hB a (fB a ha),qDb R (fun a ha=>?_) (fun a ha=>List.mem_append_left _ (R0.sub a ha)) hc (hg fun a ha=>hB a (fB a ha))⟩
    rcases List.mem_append.mp ha with z | z
    ·exact List.mem_append_left _ z
    ·exact List.mem_append_right _ (fB a z)
   ·cases e
 ·exact Sim.stuck
end
theorem qEO {A X:List Nat} {h:AH} (n:Nat):∀ {ts:List T} {ws:List V},qAN A X h ts ws -> qBj A X h (ts.map some++List.replicate n none) (ws.map some++List.replicate n none)
 | [],ws,r=>by
  unfold qAN at r;subst r
  show qBj A X h (List.replicate n none) (List.replicate n none)
  induction n with
  | zero=>rfl
  | succ n ih=>exact ⟨none,_,rfl,trivial,ih⟩
 | t::ts,ws,r=>by
  unfold qAN at r
  obtain ⟨v,vs,rfl,a,b⟩:=r
  exact ⟨some v,_,rfl,a,qEO n b⟩
theorem qLb (gl:List T) (tb:List Fn) (Cs:List (List Nat)):∀ (k f:Nat) (ts:List T) (ws:List V) (A X:List Nat) (h:AH) (M:Mem),RelM gl A X h M -> qAN A X h ts ws -> Sim gl A X h (QE gl A X h.length) (Pk gl tb Cs k f ts M) (Fk tb k f ws h)
 | 0,f,ts,ws,A,X,h,M,R,rs=>Sim.stuck
 | k + 1,f,ts,ws,A,X,h,M,R,rs=>by
  unfold Pk Fk
  cases ed:tb[f]? with
  | none=>exact Sim.stuck
  | some d=>
   dsimp only
   rw [<- qAC (reps_iff.mp rs)]
   split
   ·have s:=qDJ (Cs.getD f []) (qLb gl tb Cs k) d.body A X h M _ _ R (qEO (d.nslot - d.npar) rs)
    revert s
    generalize pxs gl (Pk gl tb Cs k) (Cs.getD f []) d.body (ts.map some++List.replicate (d.nslot - d.npar) none) M=r
    generalize exs (Fk tb k) d.body (ws.map some++List.replicate (d.nslot - d.npar) none) h=rh
    intro s
    cases r with
    | stuck=>exact Sim.stuck
    | exc c M1=>
     obtain ⟨h',B,rfl,f1,hB,R1⟩:=s
     show Sim gl A X h _ (if _ then _ else if _ then _ else _) _
     split
     ·rename_i hl
      have hB0:B=[]:=by
       have:=R1.len
       rw [List.length_append,hl,R.len] at this
       exact List.length_eq_zero_iff.mp (by omega)
      subst hB0
      rw [List.append_nil,List.append_nil] at R1
      exact ⟨h',rfl,f1,R1⟩
     split
     ·rename_i hc
      refine ⟨h',rfl,f1,?_⟩
      rw [<- R.len] at hc ⊢
      exact qDb R1 (fun a ha=>List.mem_append_left _ ha) R.sub hc fun g t e=>R.keep f1 (R.glo g t e)
     ·exact Sim.stuck
    | ok p=>
     obtain ⟨o,M1⟩:=p
     obtain ⟨oh,h',B,rfl,f1,hB,R1,ro⟩:=s
     rw [Res.bind_ok]
     cases o with
     | nx σ=>
      cases oh<;>first | exact ro.elim | skip
      have r:Rep (A++B) (X++B) h' (.v .non) .non:=by unfold Rep;exact ⟨rfl,rfl⟩
      exact qEJ R f1 hB R1 (show QE gl (A++B) (X++B) h.length (.v .non,true) .non h' M1 from ⟨r,fun _=>Frs.of_lf R1 r rfl⟩)
     | rt t=>
      cases oh<;>first | exact ro.elim | skip
      exact qEJ R f1 hB R1 ro
     | bk σ=>exact Sim.stuck
     | ct σ=>exact Sim.stuck
   ·exact Sim.stuck
noncomputable def glT (gs:List O):List T:=gs.map fun o=>match o with | .tup xs=>.tup (xs.map .v) | .lst _ xs=>.fz (xs.map .v) | .ob _=>.v .non
noncomputable def qKf (gs:List O):Bool:=gs.all fun o=>match o with | .tup xs=>xs.all qAq | _=>false
theorem qK3 {gs:List O} {tb:List Fn} {Cs:List (List Nat)} {k i:Nat} {ns:List Int} {b:Bool} {M':Mem} (hg:qKf gs=true) (e:Pk (glT gs) tb Cs k i [.fz (ns.map fun n=>.v (.int n))] []=.ok ((.v (.bl true),b),M')):
  ∃ h',Fk tb k i [.ref gs.length] (gs++[.lst true (ns.map V.int)])=.ok (.bl true,h'):=by
 have R:RelM (glT gs) [] [] (gs++[.lst true (ns.map V.int)]) []:=by
  refine ⟨rfl,List.nodup_nil,fun a ha=>by simp at ha,fun a ha=>by simp at ha,fun n a e=>by simp at e,fun g t eg=>?_⟩
  unfold glT at eg
  rw [List.getElem?_map] at eg
  obtain ⟨o,eo,rfl⟩:=Option.map_eq_some_iff.mp eg
  unfold qKf at hg
  rw [List.all_eq_true] at hg
  have ho:=hg o (List.mem_of_getElem? eo)
  cases o with
  | lst _ _=>cases ho
  | ob _=>cases ho
  | tup xs=>
   dsimp only
   unfold Rep
   exact ⟨g,xs,rfl,by simp,by rw [List.getElem?_append_left (List.getElem?_eq_some_iff.mp eo).1];exact eo,qBX ho⟩
 have rs:qAN [] [] (gs++[O.lst true (ns.map V.int)]) [.fz (ns.map fun n=>.v (.int n))] [.ref gs.length]:=by
  unfold qAN
  refine ⟨_,[],rfl,?_,by unfold qAN;rfl⟩
  unfold Rep
  refine ⟨gs.length,ns.map V.int,rfl,by simp,by simp,?_⟩
  have:ns.map (fun n=>T.v (.int n))=(ns.map V.int).map .v:=by rw [List.map_map];rfl
  rw [this]
  exact qBX (by simp [qAq])
 have s:=qLb (glT gs) tb Cs k i _ _ [] [] _ [] R rs
 rw [e] at s
 obtain ⟨w,h',e1,_,_,q⟩:=s
 cases qAn q.1
 exact ⟨h',e1⟩
end PI
namespace PI
open L2 (V)
noncomputable def qNp (t:T):Option TB:=match t with | .v (.int i)=>some (iT (-i)) | _=>none
noncomputable def qLH (M:Mem) (p k x:T):Option Mem:=match p,k with
 | .cell n,.v (.int j)=>(M[n]?).bind fun xs=>(L2.ixN xs.length j).map fun j=>M.set n (xs.set j x)
 | _,_=>none
noncomputable def qLh (M:Mem) (n:Nat) (x:T):Option Mem:=(M[n]?).bind fun xs=>if xs.length < lim then some (M.set n (xs++[x])) else none
noncomputable def qMj (t:T):Option (List T):=match t with | .v (.int j)=>if -1000000<=j/\j<=1000000 then some (qAZ 0 j.toNat) else none | _=>none
section
variable {gl:List T} {P:Nat -> List T -> Mem -> PR (TB×Mem)} {C:List Nat} {σ:TS} {M:Mem} {a b c e:E} {as lo hi:Es}
@[simp] theorem pe_var (i:Nat):pe gl P (.var i) σ M=match σ[i]? with | some (some t)=>.ok ((t,t.lf),M) | _=>.stuck:=Eq.trans rfl rfl
@[simp] theorem pe_int (i:Int):pe gl P (.cst (.int i)) σ M=.ok (iT i,M):=Eq.trans rfl rfl
@[simp] theorem pe_bl (i:Bool):pe gl P (.cst (.bl i)) σ M=.ok (bT i,M):=Eq.trans rfl rfl
@[simp] theorem pe_non:pe gl P (.cst .non) σ M=.ok ((.v .non,true),M):=Eq.trans rfl rfl
@[simp] theorem pe_str (s:PySem.Str):pe gl P (.cst (.str s)) σ M=.ok ((.v (.str s),true),M):=Eq.trans rfl rfl
@[simp] theorem pe_glob (g:Nat):pe gl P (.glob g) σ M=match gl[g]? with | some t=>.ok ((t,t.lf),M) | none=>.stuck:=Eq.trans rfl rfl
@[simp] theorem qNY (op:BOp):pe gl P (.bin op a b) σ M=(pe gl P a σ M).bind fun p=>(pe gl P b σ p.2).bind fun q=>(PR.ofO (qAm q.2 op p.1.1 q.1.1)).bind fun r=>.ok (r,q.2):=Eq.trans rfl rfl
@[simp] theorem qLZ (op:COp):pe gl P (.cmp op a b) σ M=(pe gl P a σ M).bind fun p=>(pe gl P b σ p.2).bind fun q=>(PR.ofO (qBF q.2 op p.1.1 q.1.1)).bind fun r=>.ok (bT r,q.2):=Eq.trans rfl rfl
@[simp] theorem qNH (o1 o2:COp):pe gl P (.cmp2 o1 o2 a b c) σ M=(pe gl P a σ M).bind fun p=>(pe gl P b σ p.2).bind fun q=>(PR.ofO (qBF q.2 o1 p.1.1 q.1.1)).bind fun r=>
  if r=true then (pe gl P c σ q.2).bind fun z=>(PR.ofO (qBF z.2 o2 q.1.1 z.1.1)).bind fun r=>.ok (bT r,z.2) else .ok (bT false,q.2):=Eq.trans rfl rfl
@[simp] theorem qMe (o1 o2 o3:COp):pe gl P (.cmp3 o1 o2 o3 a b c d) σ M=(pe gl P a σ M).bind fun p=>(pe gl P b σ p.2).bind fun q=>(PR.ofO (qBF q.2 o1 p.1.1 q.1.1)).bind fun r=>
  if r=true then (pe gl P c σ q.2).bind fun z=>(PR.ofO (qBF z.2 o2 q.1.1 z.1.1)).bind fun r=>(if r=true then (pe gl P d σ z.2).bind fun w=>(PR.ofO (qBF w.2 o3 z.1.1 w.1.1)).bind fun r=>.ok (bT r,w.2) else .ok (bT false,z.2)) else .ok (bT false,q.2):=Eq.trans rfl rfl
@[simp] theorem pe_and:pe gl P (.and a b) σ M=(pB (pe gl P a σ M)).bind fun p=>if p.1=true then pe gl P b σ p.2 else .ok (bT false,p.2):=Eq.trans rfl rfl
@[simp] theorem pe_or:pe gl P (.or a b) σ M=(pB (pe gl P a σ M)).bind fun p=>if p.1=true then .ok (bT true,p.2) else pe gl P b σ p.2:=Eq.trans rfl rfl
@[simp] theorem pe_not:pe gl P (.not a) σ M=(pB (pe gl P a σ M)).bind fun p=>.ok (bT (!p.1),p.2):=Eq.trans rfl rfl
@[simp] theorem qNl:pe gl P (.ite c a b) σ M=(pB (pe gl P c σ M)).bind fun p=>if p.1=true then pe gl P a σ p.2 else pe gl P b σ p.2:=Eq.trans rfl rfl
@[simp] theorem pe_call (f:Nat):pe gl P (.call f as) σ M=(pes gl P as σ M).bind fun p=>(P f (p.1.map (·.1)) p.2).nx:=Eq.trans rfl rfl
@[simp] theorem qKs (f:BF):pe gl P (.blt f as) σ M=(pes gl P as σ M).bind fun p=>(PR.ofO (qCG p.2 f (p.1.map (·.1)))).bind fun r=>.ok (r,p.2):=Eq.trans rfl rfl
@[simp] theorem qLo (ts:List String):pe gl P (.isi a ts) σ M=(pe gl P a σ M).bind fun p=>(PR.ofO (qBm p.2 p.1.1)).bind fun t=>.ok (bT (ts.any (qBw t)),p.2):=Eq.trans rfl rfl
@[simp] theorem qNO:pe gl P (.idx a b) σ M=(pe gl P a σ M).bind fun p=>(pe gl P b σ p.2).bind fun q=>(PR.ofO (qF2 q.2 p.1.1 q.1.1)).bind fun r=>.ok (r,q.2):=Eq.trans rfl rfl
@[simp] theorem qOa:pe gl P (.sl a lo hi) σ M=(pe gl P a σ M).bind fun p=>(pes gl P lo σ p.2).bind fun l=>(pes gl P hi σ l.2).bind fun u=>
  (PR.ofO (p.1.1.its u.2)).bind fun xs=>(PR.ofO (qA1 (l.1.map (·.1)))).bind fun i=>(PR.ofO (qA1 (u.1.map (·.1)))).bind fun j=>(PR.ofO (qJR p.1.1 xs i.head? j.head?)).bind fun r=>.ok (r,u.2):=Eq.trans rfl rfl
@[simp] theorem qNb:pe gl P (.rev a) σ M=(pe gl P a σ M).bind fun p=>(PR.ofO (p.1.1.lis p.2)).bind fun xs=>.ok (lT xs.reverse,p.2):=Eq.trans rfl rfl
@[simp] theorem qMH:pe gl P (.index a b) σ M=(pe gl P a σ M).bind fun p=>(PR.ofO (p.1.1.sel a.isGlob p.2)).bind fun _=>(pe gl P b σ p.2).bind fun q=>(PR.ofO (qGl a.isGlob q.2 p.1.1 q.1.1)).bind fun r=>.ok (r,q.2):=Eq.trans rfl rfl
@[simp] theorem pe_lst:pe gl P (.lst as) σ M=(pes gl P as σ M).bind fun p=>if p.1.length<=lim then .ok ((.lst (p.1.map (·.1)),p.1.all (·.2)),p.2) else .stuck:=Eq.trans rfl rfl
@[simp] theorem pe_tup:pe gl P (.tup as) σ M=(pes gl P as σ M).bind fun p=>if p.1.length<=lim then .ok ((.tup (p.1.map (·.1)),p.1.all (·.2)),p.2) else .stuck:=Eq.trans rfl rfl
@[simp] theorem pe_comp (it:Itr) (src:List (Option Nat)) (g:Tg) (c:Es):pe gl P (.comp it src g c e) σ M=(pei gl P it σ M).bind fun p=>qAg p.1.2 g (pec gl P c) (pe gl P e) p.1.1 [] true (qCX src σ) p.2:=Eq.trans rfl rfl
@[simp] theorem qN4:pe gl P (.app a b) σ M=(pe gl P a σ M).bind fun p=>match p.1.1 with
  | .cell n=>(pe gl P b σ p.2).bind fun q=>(PR.ofO (qLh q.2 n q.1.1)).bind fun M'=>.ok ((.v .non,true),M')
  | _=>.stuck:=by
 show PR.bind _ _=_
 dsimp only
 congr 1;funext p
 obtain ⟨⟨p1,p3⟩,p2⟩:=p
 dsimp only
 cases p1<;>dsimp only
 congr 1;funext q
 obtain ⟨⟨q1,q3⟩,q2⟩:=q
 dsimp only
 unfold qLh
 rename_i n
 cases h:q2[n]? with
 | none=>rfl
 | some xs=>
  dsimp only [Option.bind_some]
  split<;>rfl
noncomputable def qDD (s t:T):Option (List T):=match s,t with | .v (.int i),.v (.int j)=>if -1000000<=i/\-1000000<=j/\i<=100000/\j<=100000/\j - i<=100000 then some (qAZ i (j - i).toNat) else none | _,_=>none
@[simp] theorem qMD:pe gl P (.lrng2 a b) σ M=(pe gl P a σ M).bind fun p=>(pe gl P b σ p.2).bind fun q=>(PR.ofO (qDD p.1.1 q.1.1)).bind fun xs=>.ok ((.lst xs,true),q.2):=by
 show PR.bind _ _=_
 dsimp only
 congr 1;funext p;congr 1;funext q
 obtain ⟨⟨p1,p3⟩,p2⟩:=p
 obtain ⟨⟨q1,q3⟩,q2⟩:=q
 have go:∀ (s t:T) (M:Mem),(match s,t with | .v (.int i),.v (.int j)=>if -1000000<=i/\-1000000<=j/\i<=100000/\j<=100000/\j - i<=100000 then PR.ok (((.lst (qAZ i (j - i).toNat),true):TB),M) else .stuck | _,_=>.stuck)=(PR.ofO (qDD s t)).bind fun xs=>.ok ((.lst xs,true),M):=fun s t M=>by
  unfold qDD
  split
  ·rename_i i j
   by_cases hc:-1000000<=i/\-1000000<=j/\i<=100000/\j<=100000/\j - i<=100000
   ·rw [if_pos hc,if_pos hc];rfl
   ·rw [if_neg hc,if_neg hc];rfl
  ·rfl
 exact go p1 q1 q2
@[simp] theorem qNB (m:Mt):pe gl P (.meth m a as) σ M=(pe gl P a σ M).bind fun p=>match p.1.1 with
  | .cell n=>(pes gl P as σ p.2).bind fun q=>PR.ofO (qEG m n (q.1.map (·.1)) q.2)
  | _=>.stuck:=Eq.trans rfl rfl
@[simp] theorem qM4:pe gl P .dnew σ M=.ok ((.ob (.dct []),true),M):=Eq.trans rfl rfl
@[simp] theorem qJM:pes gl P .nil σ M=.ok ([],M):=Eq.trans rfl rfl
@[simp] theorem qH2:pes gl P (.cons a as) σ M=(pe gl P a σ M).bind fun p=>(pes gl P as σ p.2).bind fun q=>.ok (p.1::q.1,q.2):=Eq.trans rfl rfl
@[simp] theorem qBu:pec gl P .nil σ M=.ok (true,M):=Eq.trans rfl rfl
@[simp] theorem qDu:pec gl P (.cons a as) σ M=pB (pe gl P a σ M):=Eq.trans rfl rfl
@[simp] theorem qHl:pei gl P (.list a) σ M=(pe gl P a σ M).bind fun p=>(PR.ofO (qEh p.2 p.1.1)).bind fun s=>.ok (s,p.2):=Eq.trans rfl rfl
@[simp] theorem qL6:pei gl P (.rng1 a) σ M=(pe gl P a σ M).bind fun p=>(PR.ofO (qMj p.1.1)).bind fun xs=>.ok ((xs,[]),p.2):=by
 show PR.bind _ _=_
 dsimp only
 congr 1;funext p
 obtain ⟨⟨p1,p3⟩,p2⟩:=p
 dsimp only
 unfold qMj
 cases p1<;>first | rfl | skip
 rename_i x
 cases x<;>first | rfl | skip
 dsimp only
 split<;>rfl
@[simp] theorem qMK:pei gl P (.zip a b) σ M=(pe gl P a σ M).bind fun p=>(pe gl P b σ p.2).bind fun q=>(PR.ofO (qF5 q.2 p.1.1)).bind fun s=>(PR.ofO (qF5 q.2 q.1.1)).bind fun t=>
  .ok ((List.zipWith (fun a b=>T.tup [a,b]) s.1 t.1,s.2++t.2),q.2):=Eq.trans rfl rfl
@[simp] theorem qMC:pei gl P (.enum a) σ M=(pe gl P a σ M).bind fun p=>(PR.ofO (qF5 p.2 p.1.1)).bind fun s=>.ok ((qCJ 0 s.1,s.2),p.2):=Eq.trans rfl rfl
@[simp] theorem qMB:pei gl P (.revd a) σ M=(pe gl P a σ M).bind fun p=>(PR.ofO (qF5 p.2 p.1.1)).bind fun s=>.ok ((s.1.reverse,s.2),p.2):=Eq.trans rfl rfl
variable {s:S} {r t u:Ss}
@[simp] theorem qMl (i:Nat):px gl P C (.asg (.name i) e) σ M=(pe gl P e σ M).bind fun p=>if (C.contains i&&p.1.2)=true then .ok (.nx (σ.set i (some (thaw p.2.length p.1.1).1)),p.2++(thaw p.2.length p.1.1).2) else if (C.contains (i + 1000)&&qLN e)=true then (match p.1.1 with | .lst ts=>.ok (.nx (σ.set i (some (.cell p.2.length))),p.2++[ts]) | _=>.stuck) else .ok (.nx (σ.set i (some p.1.1)),p.2):=Eq.trans rfl rfl
@[simp] theorem qNq (is:List Nat):px gl P C (.asg (.tup is) e) σ M=(pe gl P e σ M).bind fun p=>match qBE (.tup is) p.1.1 σ with | some σ1=>.ok (.nx σ1,p.2) | none=>.stuck:=Eq.trans rfl rfl
@[simp] theorem qNx (i j:Nat):px gl P C (.par i j a b) σ M=(pe gl P a σ M).bind fun p=>(pe gl P b σ p.2).bind fun q=>.ok (.nx ((σ.set i (some p.1.1)).set j (some q.1.1)),q.2):=Eq.trans rfl rfl
@[simp] theorem qNr {o i v:E}:px gl P C (.put o i v) σ M=(pe gl P v σ M).bind fun x=>(pe gl P o σ x.2).bind fun p=>(pe gl P i σ p.2).bind fun k=>(PR.ofO (qLH k.2 p.1.1 k.1.1 x.1.1)).bind fun M'=>.ok (.nx σ,M'):=by
 show PR.bind _ _=_
 dsimp only
 congr 1;funext x;congr 1;funext p;congr 1;funext k
 obtain ⟨⟨k1,k3⟩,k2⟩:=k
 obtain ⟨⟨p1,p3⟩,p2⟩:=p
 dsimp only
 unfold qLH
 cases p1<;>first | rfl | skip
 rename_i n
 cases k1<;>first | rfl | skip
 rename_i y
 cases y<;>first | rfl | skip
 rename_i j
 dsimp only
 cases h:k2[n]? with
 | none=>rfl
 | some xs=>
  dsimp only [Option.bind_some]
  have hj:PI.ixN xs.length j=L2.ixN xs.length j:=rfl
  rw [hj]
  cases L2.ixN xs.length j with
  | none=>rfl
  | some j=>rfl
@[simp] theorem qMV:px gl P C (.expr e) σ M=(pe gl P e σ M).bind fun p=>.ok (.nx σ,p.2):=Eq.trans rfl rfl
@[simp] theorem qKU:px gl P C (.ret e) σ M=(pe gl P e σ M).bind fun p=>.ok (.rt p.1,p.2):=Eq.trans rfl rfl
@[simp] theorem qMo:px gl P C .retN σ M=.ok (.rt (.v .non,true),M):=Eq.trans rfl rfl
@[simp] theorem qN5:px gl P C (.ifs c t u) σ M=(pB (pe gl P c σ M)).bind fun p=>if p.1=true then pxs gl P C t σ p.2 else pxs gl P C u σ p.2:=Eq.trans rfl rfl
@[simp] theorem qNm (g:Tg) (it:Itr):px gl P C (.for_ g it t) σ M=(pei gl P it σ M).bind fun p=>qBP p.1.2 g (pxs gl P C t) p.1.1 σ p.2:=Eq.trans rfl rfl
@[simp] theorem qL7:px gl P C (.while_ c t) σ M=qCR (fun σ M=>pB (pe gl P c σ M)) (pxs gl P C t) qK6 σ M:=Eq.trans rfl rfl
@[simp] theorem qMZ:px gl P C .pass σ M=.ok (.nx σ,M):=Eq.trans rfl rfl
@[simp] theorem qMq:px gl P C .stop σ M=.stuck:=Eq.trans rfl rfl
@[simp] theorem qM2:pxs gl P C .nil σ M=.ok (.nx σ,M):=Eq.trans rfl rfl
@[simp] theorem qHh:pxs gl P C (.cons s r) σ M=(px gl P C s σ M).bind fun p=>match p.1 with
  | .nx σ1=>pxs gl P C r σ1 p.2
  | o=>.ok (o,p.2):=Eq.trans rfl rfl
@[simp] theorem qOM (x:Bool):pB (.ok (bT x,M))=.ok (x,M):=Eq.trans rfl rfl
@[simp] theorem qPL (x f:Bool):pB (.ok ((T.v (.bl x),f),M))=.ok (x,M):=Eq.trans rfl rfl
@[simp] theorem qME:pB .stuck=.stuck:=Eq.trans rfl rfl
@[simp] theorem qMI {α β:Type} (c:Nat) (M:Mem) (f:α -> PR β):(PR.exc c M:PR α).bind f=.exc c M:=Eq.trans rfl rfl
end
@[simp] theorem qPJ (x:V):T.lf (.v x)=true:=by rw [T.lf]
@[simp] theorem qJ0 (n:Nat):T.lf (.cell n)=false:=by rw [T.lf]<;>simp
@[simp] theorem qNW (xs:List T):T.lf (.lst xs)=false:=by rw [T.lf]<;>simp
@[simp] theorem qNU (xs:List T):T.lf (.tup xs)=T.lfs xs:=by rw [T.lf]
@[simp] theorem qNG:T.lfs []=true:=by rw [T.lfs]
@[simp] theorem qDv (x:T) (xs:List T):T.lfs (x::xs)=(x.lf&&T.lfs xs):=by rw [T.lfs]
@[simp] theorem iT1 (i:Int):(iT i).1=.v (.int i):=rfl
@[simp] theorem iT2 (i:Int):(iT i).2=true:=rfl
@[simp] theorem bT1 (i:Bool):(bT i).1=.v (.bl i):=rfl
@[simp] theorem bT2 (i:Bool):(bT i).2=true:=rfl
@[simp] theorem lT1 (xs:List T):(lT xs).1=.lst xs:=rfl
@[simp] theorem lT2 (xs:List T):(lT xs).2=T.lfs xs:=rfl
@[simp] theorem qOG (x:V):T.isV (.v x)=some x:=rfl
@[simp] theorem qM8 (x:List T):T.isV (.lst x)=none:=rfl
@[simp] theorem qMd (x:List T):T.isV (.tup x)=none:=rfl
@[simp] theorem qMF (x:Nat):T.isV (.cell x)=none:=rfl
section
variable {M:Mem} (i j:Int) (xs ys:List T)
@[simp] theorem qNu:qAm M .add (.v (.int i)) (.v (.int j))=some (iT (i + j)):=rfl
@[simp] theorem qLy:qAm M .sub (.v (.int i)) (.v (.int j))=some (iT (i - j)):=rfl
@[simp] theorem qJP:qAm M .band (.v (.int i)) (.v (.int j))=some (iT (PySem.Builtin.bitAnd i j)):=rfl
theorem qKM {i j:Int} (h:(-18446744073709551616 < i/\i < 18446744073709551616)\/(-18446744073709551616 < j/\j < 18446744073709551616)):qAm M .mul (.v (.int i)) (.v (.int j))=some (iT (i * j)):=by
 show (if (small i||small j||(mid i&&mid j))=true then _ else _)=_
 rw [if_pos]
 rcases h with h | h
 ·have:small i=true:=by unfold small two64;exact decide_eq_true h
  rw [this];rfl
 ·have:small j=true:=by unfold small two64;exact decide_eq_true h
  rw [this,Bool.or_true];rfl
theorem qJu {i j:Int} (h:0 < j/\j < 1073741824):qAm M .fdiv (.v (.int i)) (.v (.int j))=some (iT (i / j)):=by
 show (if 0 < j/\(j < 1073741824\/mid j=true) then _ else _)=_
 rw [if_pos ⟨h.1,.inl h.2⟩]
theorem qIe {i j:Int} (h:0 < j):qAm M .mod (.v (.int i)) (.v (.int j))=some (iT (i % j)):=by
 show (if 0 < j then _ else _)=_
 rw [if_pos h]
theorem qIV {i j:Int} (h:0<=j/\j<=1000/\i.natAbs < 18446744073709551616):qAm M .pow (.v (.int i)) (.v (.int j))=some (iT (i ^ j.toNat)):=by
 show (if 0<=j/\j<=1000/\i.natAbs < 18446744073709551616 then _ else _)=_
 rw [if_pos h]
theorem qKu {i j:Int} (h:0<=j/\j<=1000/\i.natAbs < 18446744073709551616):qAm M .shl (.v (.int i)) (.v (.int j))=some (iT (i * 2 ^ j.toNat)):=by
 show (if 0<=j/\j<=1000/\i.natAbs < 18446744073709551616 then _ else _)=_
 rw [if_pos h]
theorem qLr {xs ys:List T} (h:xs.length + ys.length<=lim):qAm M .add (.lst xs) (.lst ys)=some (lT (xs++ys)):=by
 show (if xs.length + ys.length<=lim then _ else _)=_
 rw [if_pos h]
@[simp] theorem qM9:qBF M .lt (.v (.int i)) (.v (.int j))=some (decide (i < j)):=rfl
@[simp] theorem qMU:qBF M .le (.v (.int i)) (.v (.int j))=some (decide (i<=j)):=rfl
@[simp] theorem qNA:qBF M .gt (.v (.int i)) (.v (.int j))=some (decide (j < i)):=rfl
@[simp] theorem qMh:qBF M .ge (.v (.int i)) (.v (.int j))=some (decide (j<=i)):=rfl
@[simp] theorem qMm:qBF M .eq (.v (.int i)) (.v (.int j))=some (decide (i=j)):=by
 show some (i==j)=_
 congr 1
@[simp] theorem qNZ:qCG M .list [.lst xs]=some (lT xs):=rfl
@[simp] theorem qNi:qCG M .list [.tup xs]=some (lT xs):=rfl
@[simp] theorem qKe:qCG M .max [.v (.int i),.v (.int j)]=some (iT (if j > i then j else i)):=rfl
@[simp] theorem qL0:qCG M .min [.v (.int i),.v (.int j)]=some (iT (if j < i then j else i)):=rfl
@[simp] theorem qOP:qCG M .abs [.v (.int i)]=some (iT (if i < 0 then -i else i)):=rfl
@[simp] theorem qOs:qCG M .int [.v (.int i)]=some (iT i):=rfl
@[simp] theorem qPF:qBm M (.v (.int i))=some "int":=rfl
@[simp] theorem qPS (b:Bool):qBm M (.v (.bl b))=some "bool":=rfl
@[simp] theorem qPG:qBm M (.lst xs)=some "list":=rfl
@[simp] theorem qPV:qBm M (.tup xs)=some "tuple":=rfl
@[simp] theorem qPO (kvs:List (Int×V)):qBm M (.ob (.dct kvs))=some "dict":=rfl
@[simp] theorem qPU:qBm M (.v .non)=some "NoneType":=rfl
@[simp] theorem qOA:qEh M (.lst xs)=some (xs,[]):=rfl
@[simp] theorem qN0:qEh M (.tup xs)=some (xs,[]):=rfl
@[simp] theorem qNQ:qEh M (.fz xs)=some (xs,[]):=rfl
@[simp] theorem qNN:qF5 M (.lst xs)=some (xs,[]):=rfl
end
@[simp] theorem lk0 {α:Type} (x0:α) (l:List α):(x0::l)[0]?=some x0:=rfl
@[simp] theorem st0 {α:Type} (x0 y:α) (l:List α):(x0::l).set 0 y=y::l:=rfl
@[simp] theorem lk1 {α:Type} (x0 x1:α) (l:List α):(x0::x1::l)[1]?=some x1:=rfl
@[simp] theorem st1 {α:Type} (x0 x1 y:α) (l:List α):(x0::x1::l).set 1 y=x0::y::l:=rfl
@[simp] theorem lk2 {α:Type} (x0 x1 x2:α) (l:List α):(x0::x1::x2::l)[2]?=some x2:=rfl
@[simp] theorem st2 {α:Type} (x0 x1 x2 y:α) (l:List α):(x0::x1::x2::l).set 2 y=x0::x1::y::l:=rfl
@[simp] theorem lk3 {α:Type} (x0 x1 x2 x3:α) (l:List α):(x0::x1::x2::x3::l)[3]?=some x3:=rfl
@[simp] theorem st3 {α:Type} (x0 x1 x2 x3 y:α) (l:List α):(x0::x1::x2::x3::l).set 3 y=x0::x1::x2::y::l:=rfl
@[simp] theorem lk4 {α:Type} (x0 x1 x2 x3 x4:α) (l:List α):(x0::x1::x2::x3::x4::l)[4]?=some x4:=rfl
@[simp] theorem st4 {α:Type} (x0 x1 x2 x3 x4 y:α) (l:List α):(x0::x1::x2::x3::x4::l).set 4 y=x0::x1::x2::x3::y::l:=rfl
@[simp] theorem lk5 {α:Type} (x0 x1 x2 x3 x4 x5:α) (l:List α):(x0::x1::x2::x3::x4::x5::l)[5]?=some x5:=rfl
@[simp] theorem st5 {α:Type} (x0 x1 x2 x3 x4 x5 y:α) (l:List α):(x0::x1::x2::x3::x4::x5::l).set 5 y=x0::x1::x2::x3::x4::y::l:=rfl
@[simp] theorem lk6 {α:Type} (x0 x1 x2 x3 x4 x5 x6:α) (l:List α):(x0::x1::x2::x3::x4::x5::x6::l)[6]?=some x6:=rfl
@[simp] theorem st6 {α:Type} (x0 x1 x2 x3 x4 x5 x6 y:α) (l:List α):(x0::x1::x2::x3::x4::x5::x6::l).set 6 y=x0::x1::x2::x3::x4::x5::y::l:=rfl
@[simp] theorem lk7 {α:Type} (x0 x1 x2 x3 x4 x5 x6 x7:α) (l:List α):(x0::x1::x2::x3::x4::x5::x6::x7::l)[7]?=some x7:=rfl
@[simp] theorem st7 {α:Type} (x0 x1 x2 x3 x4 x5 x6 x7 y:α) (l:List α):(x0::x1::x2::x3::x4::x5::x6::x7::l).set 7 y=x0::x1::x2::x3::x4::x5::x6::y::l:=rfl
@[simp] theorem lk8 {α:Type} (x0 x1 x2 x3 x4 x5 x6 x7 x8:α) (l:List α):(x0::x1::x2::x3::x4::x5::x6::x7::x8::l)[8]?=some x8:=rfl
@[simp] theorem st8 {α:Type} (x0 x1 x2 x3 x4 x5 x6 x7 x8 y:α) (l:List α):(x0::x1::x2::x3::x4::x5::x6::x7::x8::l).set 8 y=x0::x1::x2::x3::x4::x5::x6::x7::y::l:=rfl
@[simp] theorem lk9 {α:Type} (x0 x1 x2 x3 x4 x5 x6 x7 x8 x9:α) (l:List α):(x0::x1::x2::x3::x4::x5::x6::x7::x8::x9::l)[9]?=some x9:=rfl
@[simp] theorem st9 {α:Type} (x0 x1 x2 x3 x4 x5 x6 x7 x8 x9 y:α) (l:List α):(x0::x1::x2::x3::x4::x5::x6::x7::x8::x9::l).set 9 y=x0::x1::x2::x3::x4::x5::x6::x7::x8::y::l:=rfl
@[simp] theorem qPN {α:Type} (x0 x1 x2 x3 x4 x5 x6 x7 x8 x9 x10:α) (l:List α):(x0::x1::x2::x3::x4::x5::x6::x7::x8::x9::x10::l)[10]?=some x10:=rfl
@[simp] theorem qPE {α:Type} (x0 x1 x2 x3 x4 x5 x6 x7 x8 x9 x10 y:α) (l:List α):(x0::x1::x2::x3::x4::x5::x6::x7::x8::x9::x10::l).set 10 y=x0::x1::x2::x3::x4::x5::x6::x7::x8::x9::y::l:=rfl
@[simp] theorem qPY {α:Type} (x0 x1 x2 x3 x4 x5 x6 x7 x8 x9 x10 x11:α) (l:List α):(x0::x1::x2::x3::x4::x5::x6::x7::x8::x9::x10::x11::l)[11]?=some x11:=rfl
@[simp] theorem qPW {α:Type} (x0 x1 x2 x3 x4 x5 x6 x7 x8 x9 x10 x11 y:α) (l:List α):(x0::x1::x2::x3::x4::x5::x6::x7::x8::x9::x10::x11::l).set 11 y=x0::x1::x2::x3::x4::x5::x6::x7::x8::x9::x10::y::l:=rfl
@[simp] theorem qPT {α:Type} (x0 x1 x2 x3 x4 x5 x6 x7 x8 x9 x10 x11 x12:α) (l:List α):(x0::x1::x2::x3::x4::x5::x6::x7::x8::x9::x10::x11::x12::l)[12]?=some x12:=rfl
@[simp] theorem qPI {α:Type} (x0 x1 x2 x3 x4 x5 x6 x7 x8 x9 x10 x11 x12 y:α) (l:List α):(x0::x1::x2::x3::x4::x5::x6::x7::x8::x9::x10::x11::x12::l).set 12 y=x0::x1::x2::x3::x4::x5::x6::x7::x8::x9::x10::x11::y::l:=rfl
@[simp] theorem qPR {α:Type} (x0 x1 x2 x3 x4 x5 x6 x7 x8 x9 x10 x11 x12 x13:α) (l:List α):(x0::x1::x2::x3::x4::x5::x6::x7::x8::x9::x10::x11::x12::x13::l)[13]?=some x13:=rfl
@[simp] theorem qPQ {α:Type} (x0 x1 x2 x3 x4 x5 x6 x7 x8 x9 x10 x11 x12 x13 y:α) (l:List α):(x0::x1::x2::x3::x4::x5::x6::x7::x8::x9::x10::x11::x12::x13::l).set 13 y=x0::x1::x2::x3::x4::x5::x6::x7::x8::x9::x10::x11::x12::y::l:=rfl
@[simp] theorem qPD {α:Type} (x0 x1 x2 x3 x4 x5 x6 x7 x8 x9 x10 x11 x12 x13 x14:α) (l:List α):(x0::x1::x2::x3::x4::x5::x6::x7::x8::x9::x10::x11::x12::x13::x14::l)[14]?=some x14:=rfl
@[simp] theorem qPX {α:Type} (x0 x1 x2 x3 x4 x5 x6 x7 x8 x9 x10 x11 x12 x13 x14 y:α) (l:List α):(x0::x1::x2::x3::x4::x5::x6::x7::x8::x9::x10::x11::x12::x13::x14::l).set 14 y=x0::x1::x2::x3::x4::x5::x6::x7::x8::x9::x10::x11::x12::x13::y::l:=rfl
@[simp] theorem qPZ {α:Type} (x0 x1 x2 x3 x4 x5 x6 x7 x8 x9 x10 x11 x12 x13 x14 x15:α) (l:List α):(x0::x1::x2::x3::x4::x5::x6::x7::x8::x9::x10::x11::x12::x13::x14::x15::l)[15]?=some x15:=rfl
@[simp] theorem qPH {α:Type} (x0 x1 x2 x3 x4 x5 x6 x7 x8 x9 x10 x11 x12 x13 x14 x15 y:α) (l:List α):(x0::x1::x2::x3::x4::x5::x6::x7::x8::x9::x10::x11::x12::x13::x14::x15::l).set 15 y=x0::x1::x2::x3::x4::x5::x6::x7::x8::x9::x10::x11::x12::x13::x14::y::l:=rfl
theorem qAe {gl:List T} {tb:List Fn} {Cs:List (List Nat)} {k f:Nat} {vs:List T} {M:Mem} {np ns:Nat} {b:Ss} (ht:tb[f]?=some ⟨np,ns,b⟩) (hl:vs.length=np/\np<=ns) (hk:1<=k):
  Pk gl tb Cs k f vs M=qEd M.length (pxs gl (Pk gl tb Cs (k - 1)) (Cs.getD f []) b (vs.map some++List.replicate (ns - np) none) M):=by
 obtain ⟨k,rfl⟩:∃ j,k=j + 1:=⟨k - 1,by omega⟩
 rw [Pk,ht]
 dsimp only
 rw [if_pos hl]
 rfl
theorem qAU {M M1:Mem} {t:TB} (h:M1.length=M.length):qEd M.length (.ok (.rt t,M1))=.ok (t,M1):=by
 show finish M.length t M1=_
 unfold finish
 rw [if_pos h]
theorem qFl {M M1:Mem} {σ:TS} (h:M1.length=M.length):qEd M.length (.ok (.nx σ,M1))=.ok ((.v .non,true),M1):=by
 show finish M.length _ M1=_
 unfold finish
 rw [if_pos h]
noncomputable def N (n:Nat):T:=.v (.int (n:Int))
noncomputable def NL (L:List Nat):T:=.lst (L.map N)
theorem qJ3 (n:Nat):qAZ 0 n=(List.range n).map N:=by
 unfold qAZ N
 simp
theorem qIQ (L:List Nat):T.lfs (L.map N)=true:=by
 induction L with
 | nil=>rfl
 | cons x L ih=>rw [List.map_cons,qDv,ih];rfl
theorem qOT (n:Nat):(N n).lf=true:=by unfold N;rfl
theorem qER:∀ L:List Nat,qBG (L.map N)=some (L.map fun (n:Nat)=>V.int (n:Int))
 | []=>rfl
 | x::L=>by
  show (qBG (L.map N)).map _=_
  rw [qER L];rfl
theorem qOW {M:Mem} (n:Nat) (L:List Nat):qBF M .inn (N n) (NL L)=some (decide (n∈L)):=by
 show ((qBG (L.map N)).map fun xs=>xs.any fun z=>L2.eqV z (.int (n:Int)))=_
 rw [qER,Option.map_some,List.any_map]
 congr 1
 rw [Bool.eq_iff_iff]
 simp only [List.any_eq_true,Function.comp,decide_eq_true_eq]
 constructor
 ·rintro ⟨x,hx,e⟩
  have:x=n:=by
   have e':((x:Int)==(n:Int))=true:=e
   rw [beq_iff_eq] at e'
   omega
  rwa [<- this]
 ·intro h
  refine ⟨n,h,?_⟩
  show ((n:Int)==(n:Int))=true
  rw [beq_self_eq_true]
theorem qE8 {M:Mem} {d:Nat}:∀ (L K:List Nat),L.length=K.length -> qA5 (eqT M d) (L.map N) (K.map N)=some (List.zipWith (fun (a b:Nat)=>decide (a=b)) L K)
 | [],[],_=>rfl
 | [],_::_,h=>by simp at h
 | _::_,[],h=>by simp at h
 | a::L,b::K,h=>by
  have e:eqT M d (N a) (N b)=some (decide (a=b)):=by
   have:eqF (.int (a:Int)) (.int (b:Int))=some (decide (a=b)):=by
    show some ((a:Int)==(b:Int))=_
    congr 1
    rw [Bool.eq_iff_iff,beq_iff_eq,decide_eq_true_eq]
    omega
   cases d<;>(unfold eqT;exact this)
  rw [List.map_cons,List.map_cons,qA5,e,qE8 L K (by simpa using h)]
  rfl
theorem qGG:∀ (L K:List Nat),L.length=K.length -> ((List.zipWith (fun (a b:Nat)=>decide (a=b)) L K).all id=decide (L=K))
 | [],[],_=>rfl
 | [],_::_,h=>by simp at h
 | _::_,[],h=>by simp at h
 | a::L,b::K,h=>by
  rw [List.zipWith_cons_cons,List.all_cons,qGG L K (by simpa using h)]
  by_cases h1:a=b<;>by_cases h2:L=K<;>simp [h1,h2]
theorem qIi {M:Mem} {d:Nat} (L K:List Nat):eqT M (d + 1) (NL L) (NL K)=some (decide (L=K)):=by
 unfold eqT
 show (if (L.map N).length=(K.map N).length then (qA5 (eqT M d) (L.map N) (K.map N)).map (fun bs=>bs.all id) else some false)=_
 rw [List.length_map,List.length_map]
 by_cases h:L.length=K.length
 ·rw [if_pos h,qE8 L K h,Option.map_some,qGG L K h]
 ·rw [if_neg h]
  congr 1
  symm
  exact decide_eq_false (fun e=>h (by rw [e]))
open L2 (V)
@[simp] theorem qLv {d:qCc} {g:Tg} {b:TS -> Mem -> RSt} {σ:TS} {M:Mem}:qBP d g b [] σ M=.ok (.nx σ,M):=rfl
@[simp] theorem qBk {i:Nat} {b:TS -> Mem -> RSt} {x:T} {r:List T} {σ:TS} {M:Mem}:qBP [] (.name i) b (x::r) σ M=(b (σ.set i (some x)) M).bind fun p=>match p.1 with
   | .nx σ2=>qBP [] (.name i) b r σ2 p.2
   | .ct σ2=>qBP [] (.name i) b r σ2 p.2
   | .bk σ2=>.ok (.nx σ2,p.2)
   | .rt t=>.ok (.rt t,p.2):=rfl
theorem qFj {c:TS -> Mem -> PR (Bool×Mem)} {e:TS -> Mem -> PR (TB×Mem)} {M:Mem} {σ:TS} (p:Nat -> Bool) (f:Nat -> T) (fr:Nat -> Bool):∀ (its:List Nat) (ys:List T) (b:Bool) (o:Option T),ys.length + its.length<=lim ->
  (∀ x∈its,c (some (N x)::σ) M=.ok (p x,M)) -> (∀ x∈its,p x=true -> e (some (N x)::σ) M=.ok ((f x,fr x),M)) ->
  qAg [] (.name 0) c e (its.map N) ys b (o::σ) M=.ok ((.lst (ys++(its.filter p).map f),b&&(its.filter p).all fr),M)
 | [],ys,b,o,hl,hc,he=>by simp [qAg]
 | x::r,ys,b,o,hl,hc,he=>by
  rw [List.map_cons]
  unfold qAg
  rw [show qBE (.name 0) (N x) (o::σ)=some (some (N x)::σ) from rfl]
  dsimp only
  rw [hc x (List.mem_cons_self ..)]
  rw [PR.bind_ok]
  dsimp only
  cases hp:p x with
  | true=>
   rw [if_pos rfl,he x (List.mem_cons_self ..) hp,PR.bind_ok]
   dsimp only
   rw [if_pos ⟨by simp at hl;omega,rfl⟩]
   rw [qFj p f fr r (ys++[f x]) (b&&fr x) (some (N x)) (by simp at hl ⊢;omega) (fun y hy=>hc y (List.mem_cons_of_mem _ hy)) (fun y hy=>he y (List.mem_cons_of_mem _ hy))]
   rw [List.filter_cons_of_pos hp]
   simp [Bool.and_assoc]
  | false=>
   rw [if_neg (by decide),if_pos (show qAd [] M=true from rfl)]
   rw [qFj p f fr r ys b (some (N x)) (by simp at hl ⊢;omega) (fun y hy=>hc y (List.mem_cons_of_mem _ hy)) (fun y hy=>he y (List.mem_cons_of_mem _ hy))]
   rw [List.filter_cons_of_neg (by rw [hp];decide)]
theorem qEy {c:TS -> Mem -> PR (Bool×Mem)} {e:TS -> Mem -> PR (TB×Mem)} {M:Mem} {σ:TS} {o:Option T} {its:List Nat} (p:Nat -> Bool) (g:Nat -> Nat) (hl:its.length<=lim)
  (hc:∀ x∈its,c (some (N x)::σ) M=.ok (p x,M)) (he:∀ x∈its,p x=true -> e (some (N x)::σ) M=.ok ((N (g x),true),M)):
  qAg [] (.name 0) c e (its.map N) [] true (o::σ) M=.ok ((NL ((its.filter p).map g),true),M):=by
 rw [qFj p (fun x=>N (g x)) (fun _=>true) its [] true o (by simpa using hl) hc he]
 unfold NL
 simp
@[simp] theorem qLg {M:Mem} (a b:Nat):qAm M .add (N a) (N b)=some (N (a + b),true):=by unfold N;simp [iT]
open L2 (V)
noncomputable def nE (n:Nat):E:=.cst (.int (n:Int))
@[simp] theorem qOS {gl:List T} {P:Nat -> List T -> Mem -> PR (TB×Mem)} {σ:TS} {M:Mem} (n:Nat):pe gl P (nE n) σ M=.ok ((N n,true),M):=by unfold nE;rw [pe_int];rfl
section
variable {M:Mem} (a b:Nat) (xs:List T)
@[simp] theorem lfN:(N a).lf=true:=qOT a
@[simp] theorem qOZ:(N a).isV=some (.int (a:Int)):=rfl
@[simp] theorem qPK:qBm M (N a)=some "int":=rfl
@[simp] theorem qOu (L:List Nat):qBm M (NL L)=some "list":=rfl
theorem qGt {a b:Nat} (h:b<=a):qAm M .sub (N a) (N b)=some (N (a - b),true):=by
 unfold N;rw [qLy];unfold iT;rw [Int.ofNat_sub h]
theorem qDF {a b:Nat} (h:a < 18446744073709551616\/b < 18446744073709551616):qAm M .mul (N a) (N b)=some (N (a * b),true):=by
 unfold N;rw [qKM (by omega)];unfold iT;simp
theorem qDf {a b:Nat} (h:0 < b/\b < 1073741824):qAm M .fdiv (N a) (N b)=some (N (a / b),true):=by
 unfold N;rw [qJu (by omega)];unfold iT;simp
theorem qCW {a b:Nat} (h:0 < b):qAm M .mod (N a) (N b)=some (N (a % b),true):=by
 unfold N;rw [qIe (by omega)];unfold iT;simp
theorem qLw {a b:Nat} (h:b<=1000/\a < 1000000):qAm M .pow (N a) (N b)=some (N (a ^ b),true):=by
 unfold N;rw [qIV (by omega)];unfold iT;simp
theorem qIc {a b:Nat} (h:b<=1000/\a < 1000000):qAm M .shl (N a) (N b)=some (N (a * 2 ^ b),true):=by
 unfold N;rw [qKu (by omega)];unfold iT;simp
@[simp] theorem qOI:qBF M .lt (N a) (N b)=some (decide (a < b)):=by unfold N;rw [qM9];simp
@[simp] theorem qO9:qBF M .le (N a) (N b)=some (decide (a<=b)):=by unfold N;rw [qMU];simp
@[simp] theorem qOR:qBF M .gt (N a) (N b)=some (decide (b < a)):=by unfold N;rw [qNA];simp
@[simp] theorem qMP:qBF M .ge (N a) (N b)=some (decide (b<=a)):=by unfold N;rw [qMh];simp
@[simp] theorem qNJ:qBF M .eq (N a) (N b)=some (decide (a=b)):=by unfold N;rw [qMm];congr 1;rw [Bool.eq_iff_iff,decide_eq_true_eq,decide_eq_true_eq];omega
@[simp] theorem qOc:qBF M .ne (N a) (N b)=some (!decide (a=b)):=by
 show ((eqT M 4 (N a) (N b)).map (!·))=_
 rw [show eqT M 4 (N a) (N b)=some (decide (a=b)) from qNJ (M:=M) a b];rfl
@[simp] theorem qGd:qF2 M (.lst xs) (N a)=(xs[a]?).map fun t=>(t,t.lf):=by
 show ((L2.ixN xs.length (a:Int)).bind fun j=>(xs[j]?).map fun t=>(t,t.lf))=_
 unfold L2.ixN
 rw [if_pos (by omega)]
 split
 ·simp
 ·rw [List.getElem?_eq_none (by omega)];rfl
@[simp] theorem qN2:qF2 M (.tup xs) (N a)=(xs[a]?).map fun t=>(t,t.lf):=by
 show ((L2.ixN xs.length (a:Int)).bind fun j=>(xs[j]?).map fun t=>(t,t.lf))=_
 unfold L2.ixN
 rw [if_pos (by omega)]
 split
 ·simp
 ·rw [List.getElem?_eq_none (by omega)];rfl
@[simp] theorem qNy:qCG M .len [.lst xs]=some (N xs.length,true):=rfl
@[simp] theorem qOE:qCG M .len [.tup xs]=some (N xs.length,true):=rfl
@[simp] theorem qNn:qCG M .len [.fz xs]=some (N xs.length,true):=rfl
@[simp] theorem qNa:qCG M .max [N a,N b]=some (N (max a b),true):=by
 unfold N;rw [qKe];unfold iT
 congr 4
 split<;>omega
@[simp] theorem qN7:qCG M .min [N a,N b]=some (N (min a b),true):=by
 unfold N;rw [qL0];unfold iT
 congr 4
 split<;>omega
@[simp] theorem qOt:qCG M .int [N a]=some (N a,true):=rfl
@[simp] theorem qN9:qCG M .bits [N a]=some (N (PySem.Builtin.Int.intBits (a:Int)),true):=rfl
theorem qJi:qAm M .band (N a) (N b)=some (N (a&&& b),true):=by
 unfold N;rw [qJP];unfold iT;rfl
end
theorem qC4 {n:Nat} (hn:n<=1000000):qMj (N n)=some ((List.range n).map N):=by
 show (if -1000000<=(n:Int)/\(n:Int)<=1000000 then some (qAZ 0 (n:Int).toNat) else none)=_
 rw [if_pos (by omega),Int.toNat_natCast,qJ3]
theorem qKj {M:Mem} {n j:Nat} {xs:List T} {x:T} (h:M[n]?=some xs) (hj:j < xs.length):qLH M (.cell n) (N j) x=some (M.set n (xs.set j x)):=by
 show ((M[n]?).bind fun xs=>(L2.ixN xs.length (j:Int)).map fun j=>M.set n (xs.set j x))=_
 rw [h]
 show (L2.ixN xs.length (j:Int)).map _=_
 unfold L2.ixN
 rw [if_pos (by omega),if_pos (by omega)]
 simp
theorem qMX {M:Mem} {n:Nat} {xs:List T} {x:T} (h:M[n]?=some xs) (hl:xs.length < lim):qLh M n x=some (M.set n (xs++[x])):=by
 unfold qLh
 rw [h]
 show (if xs.length < lim then _ else _)=_
 rw [if_pos hl]
@[simp] theorem qLB (n a:Nat):thaw n (N a)=(N a,[]):=by unfold N;simp [thaw]
@[simp] theorem qNS {M:Mem} (L:List Nat):qEh M (NL L)=some (L.map N,[]):=rfl
@[simp] theorem qNz {M:Mem} (x f:Bool):pB (PR.ok ((T.v (V.bl x),f),M))=.ok (x,M):=Eq.trans rfl rfl
open L2 (V)
theorem qA4 {α:Type}:∀ l:List α,l.filter (fun _=>true)=l
 | []=>rfl
 | x::l=>by rw [List.filter_cons_of_pos rfl,qA4 l]
theorem qEx {gl:List T} {P:Nat -> List T -> Mem -> PR (TB×Mem)} {e:TS -> Mem -> PR (TB×Mem)} {M:Mem} {σ:TS} {o:Option T} {its:List Nat} (g:Nat -> Nat) (hl:its.length<=lim)
  (he:∀ x∈its,e (some (N x)::σ) M=.ok ((N (g x),true),M)):qAg [] (.name 0) (pec gl P .nil) e (its.map N) [] true (o::σ) M=.ok ((NL (its.map g),true),M):=
 (qEy (fun _=>true) g hl (fun x _=>by simp) (fun x hx _=>he x hx)).trans (by rw [qA4])
open L2 (V)
@[simp] theorem qMb {M:Mem} {n j:Nat} {x:T}:qLH M (.cell n) (N j) x=(M[n]?).bind fun xs=>if j < xs.length then some (M.set n (xs.set j x)) else none:=by
 show ((M[n]?).bind fun xs=>(L2.ixN xs.length (j:Int)).map fun j=>M.set n (xs.set j x))=_
 congr 1
 funext xs
 unfold L2.ixN
 rw [if_pos (by omega)]
 by_cases h:j < xs.length
 ·rw [if_pos (by omega),if_pos h];simp
 ·rw [if_neg (by omega),if_neg h];rfl
@[simp] theorem qMW {M:Mem} {n a:Nat}:qF2 M (.cell n) (N a)=(M[n]?).bind fun xs=>(xs[a]?).map fun t=>(t,t.lf):=by
 show ((M[n]?).bind fun xs=>(L2.ixN xs.length (a:Int)).bind fun j=>(xs[j]?).map fun t=>(t,t.lf))=_
 congr 1
 funext xs
 exact qGd (M:=M) a xs
open L2 (V)
@[simp] theorem qNP (a:Nat):qNp (N a)=some (iT (-(a:Int))):=rfl
@[simp] theorem qNR (a:Int):qNp (.v (.int a))=some (iT (-a)):=rfl
@[simp] theorem qO6 (a:Nat):qA1 [N a]=some [(a:Int)]:=rfl
@[simp] theorem qOf:qA1 []=some []:=rfl
@[simp] theorem qON {M:Mem} (xs:List T):T.its M (.lst xs)=some xs:=rfl
@[simp] theorem qOh {M:Mem} (xs:List T):T.its M (.fz xs)=some xs:=rfl
@[simp] theorem qOr {M:Mem} (xs:List T):T.its M (.tup xs)=some xs:=rfl
@[simp] theorem qOo {M:Mem} (L:List Nat):T.its M (NL L)=some (L.map N):=rfl
@[simp] theorem qN6 (ys xs:List T) (lo hi:Option Int):qJR (.lst ys) xs lo hi=some (lT (qHv xs lo hi)):=rfl
@[simp] theorem qNe (ys xs:List T) (lo hi:Option Int):qJR (.fz ys) xs lo hi=some (lT (qHv xs lo hi)):=rfl
@[simp] theorem qNh (L:List Nat) (xs:List T) (lo hi:Option Int):qJR (NL L) xs lo hi=some (lT (qHv xs lo hi)):=rfl
@[simp] theorem qNX (n:Nat) (xs:List T) (lo hi:Option Int):qJR (.cell n) xs lo hi=some (lT (qHv xs lo hi)):=rfl
@[simp] theorem qPC {M:Mem} (xs:List T):T.lis M (.lst xs)=some xs:=rfl
@[simp] theorem qPB {M:Mem} (xs:List T):T.lis M (.fz xs)=some xs:=rfl
@[simp] theorem qO3 {M:Mem} (L:List Nat):T.lis M (NL L)=some (L.map N):=rfl
open L2 (V)
@[simp] theorem qL5 (i j:Nat) (a b:T) (σ:TS):qBE (.tup [i,j]) (.tup [a,b]) σ=some ((σ.set i (some a)).set j (some b)):=rfl
@[simp] theorem qF0 (σ:TS):qCX [] σ=[]:=rfl
@[simp] theorem qEi (r:List (Option Nat)) (σ:TS):qCX (none::r) σ=none::qCX r σ:=rfl
@[simp] theorem qJd (j:Nat) (r:List (Option Nat)) (σ:TS):qCX (some j::r) σ=(σ[j]?).join::qCX r σ:=rfl
open L2 (V)
theorem qGp (x:V) (f:Bool) (M1:Mem):∃ b M2,qEd ([]:Mem).length (.ok (.rt (.v x,f),M1))=.ok ((.v x,b),M2):=by
 show ∃ b M2,finish 0 (.v x,f) M1=_
 unfold finish
 by_cases h:M1.length=0
 ·rw [if_pos h];exact ⟨f,M1,rfl⟩
 ·rw [if_neg h,if_pos (by simp)]
  rw [show qAP M1 0 6 (T.v x)=some (.v x) by unfold qAP;rw [if_pos (by unfold T.und;rfl)]]
  exact ⟨_,_,rfl⟩
open L2 (V)
mutual
theorem qHt:∀ t:T,T.beq t t=true
 | .v x=>by unfold T.beq;simp
 | .cell x=>by unfold T.beq;simp
 | .ob x=>by unfold T.beq;simp
 | .fz xs=>by unfold T.beq;exact qBR xs
 | .lst xs=>by unfold T.beq;exact qBR xs
 | .tup xs=>by unfold T.beq;exact qBR xs
theorem qBR:∀ ts:List T,T.beqs ts ts=true
 | []=>rfl
 | t::ts=>by unfold T.beqs;rw [qHt t,qBR ts];rfl
end
mutual
theorem qH1 {a b:Nat} (h:a<=b):∀ t:T,t.und a=true -> t.und b=true
 | .v x,_=>rfl
 | .cell k,e=>by unfold T.und at e ⊢;simp at e ⊢;omega
 | .ob x,_=>rfl
 | .fz xs,e=>by unfold T.und at e ⊢;exact qA7 h xs e
 | .lst xs,e=>by unfold T.und at e ⊢;exact qA7 h xs e
 | .tup xs,e=>by unfold T.und at e ⊢;exact qA7 h xs e
theorem qA7 {a b:Nat} (h:a<=b):∀ ts:List T,T.unds a ts=true -> T.unds b ts=true
 | [],_=>rfl
 | t::ts,e=>by unfold T.unds at e ⊢;rw [Bool.and_eq_true] at e;rw [qH1 h t e.1,qA7 h ts e.2];rfl
end
noncomputable def FlatM (M:Mem):Prop:=∀ c∈M,T.unds 0 c=true
theorem FlatM.all {M:Mem} (h:FlatM M) (n:Nat):M.all (T.unds n)=true:=by
 rw [List.all_eq_true]
 exact fun c hc=>qA7 (Nat.zero_le _) c (h c hc)
theorem FlatM.app {A B:Mem} (h:FlatM A) (k:FlatM B):FlatM (A++B):=fun c hc=>by
 rcases List.mem_append.mp hc with z | z
 ·exact h c z
 ·exact k c z
theorem qJU (n a:Nat):(N a).und n=true:=by unfold N T.und;rfl
theorem qFH (n:Nat):∀ L:List Nat,T.unds n (L.map N)=true
 | []=>rfl
 | x::L=>by rw [List.map_cons];unfold T.unds;rw [qJU,qFH n L];rfl
theorem qDL {M:Mem} {n0 d:Nat}:∀ L:List Nat,(L.map N).mapM (qAP M n0 d)=some (L.map N)
 | []=>rfl
 | x::L=>by
  rw [List.map_cons,List.mapM_cons,qDL L]
  have:qAP M n0 d (N x)=some (N x):=by cases d<;>(unfold qAP;rw [if_pos (qJU _ _)])
  rw [this];rfl
open L2 (V)
theorem qCm {d:qCc} {c:TS -> Mem -> PR (Bool×Mem)} {e:TS -> Mem -> PR (TB×Mem)} {M:Mem} {σ:TS} (p:Nat -> Bool) (f:Nat -> T) (fr:Nat -> Bool):∀ (its:List Nat) (ys:List T) (b:Bool) (o:Option T),qAd d M=true -> ys.length + its.length<=lim ->
  (∀ x∈its,c (some (N x)::σ) M=.ok (p x,M)) -> (∀ x∈its,p x=true -> e (some (N x)::σ) M=.ok ((f x,fr x),M)) ->
  qAg d (.name 0) c e (its.map N) ys b (o::σ) M=.ok ((.lst (ys++(its.filter p).map f),b&&(its.filter p).all fr),M)
 | [],ys,b,o,hd,hl,hc,he=>by simp [qAg]
 | x::r,ys,b,o,hd,hl,hc,he=>by
  rw [List.map_cons]
  unfold qAg
  rw [show qBE (.name 0) (N x) (o::σ)=some (some (N x)::σ) from rfl]
  dsimp only
  rw [hc x (List.mem_cons_self ..)]
  rw [PR.bind_ok]
  dsimp only
  cases hp:p x with
  | true=>
   rw [if_pos rfl,he x (List.mem_cons_self ..) hp,PR.bind_ok]
   dsimp only
   rw [if_pos ⟨by simp at hl;omega,hd⟩]
   rw [qCm p f fr r (ys++[f x]) (b&&fr x) (some (N x)) hd (by simp at hl ⊢;omega) (fun y hy=>hc y (List.mem_cons_of_mem _ hy)) (fun y hy=>he y (List.mem_cons_of_mem _ hy))]
   rw [List.filter_cons_of_pos hp]
   simp [Bool.and_assoc]
  | false=>
   rw [if_neg (by decide),if_pos hd]
   rw [qCm p f fr r ys b (some (N x)) hd (by simp at hl ⊢;omega) (fun y hy=>hc y (List.mem_cons_of_mem _ hy)) (fun y hy=>he y (List.mem_cons_of_mem _ hy))]
   rw [List.filter_cons_of_neg (by rw [hp];decide)]
theorem qHF (n:Nat):∀ L:List Nat,qB5 n (L.map N)=(L.map N,[])
 | []=>by simp [qB5]
 | x::L=>by
  rw [List.map_cons,qB5,qLB]
  dsimp only
  rw [List.length_nil,Nat.add_zero,qHF n L]
  rfl
@[simp] theorem qEj (n:Nat) (L:List Nat):thaw n (NL L)=(.cell n,[L.map N]):=by
 unfold NL
 rw [thaw,qHF]
 rfl
theorem qIX {M:Mem} {n:Nat} {ts:List T} (h:M[n]?=some ts):qAd [(n,ts)] M=true:=by
 unfold qAd
 simp [h,qBR]
theorem qFL {M:Mem} {n:Nat} {ts:List T} (h:M[n]?=some ts):qEh M (.cell n)=some (ts,[(n,ts)]):=by
 unfold qEh;dsimp only;rw [h];rfl
theorem qOB {M:Mem} {n:Nat} {ts:List T} (h:M[n]?=some ts):qBm M (.cell n)=some "list":=by
 unfold qBm;dsimp only;rw [h];rfl
open L2 (V)
structure IsL (M:Mem) (t:T) (L:List Nat):Prop where
 its:t.its M=some (L.map N)
 lis:t.lis M=some (L.map N)
 ty:qBm M t=some "list"
 src:∃ d,qEh M t=some (L.map N,d)/\qF5 M t=some (L.map N,d)/\qAd d M=true
 nv:t.isV=none
theorem IsL.nl (M:Mem) (L:List Nat):IsL M (NL L) L:=⟨rfl,rfl,rfl,⟨[],rfl,rfl,rfl⟩,rfl⟩
theorem IsL.cell {M:Mem} {n:Nat} {L:List Nat} (h:M[n]?=some (L.map N)):IsL M (.cell n) L:=⟨h,h,qOB h,⟨_,qFL h,qFL h,qIX h⟩,rfl⟩
section
variable {M:Mem} {t u:T} {L K:List Nat}
theorem IsL.len (h:IsL M t L):qCG M .len [t]=some (N L.length,true):=by
 show (t.its M).map _=_
 rw [h.its,Option.map_some,List.length_map];rfl
theorem IsL.list (h:IsL M t L):qCG M .list [t]=some (NL L,true):=by
 show (t.its M).map lT=_
 rw [h.its,Option.map_some]
 show some (T.lst (L.map N),T.lfs (L.map N))=_
 rw [qIQ];rfl
theorem qIU:∀ L:List Nat,qBz (L.map N)=some (L.map fun (n:Nat)=>(n:Int))
 | []=>rfl
 | x::L=>by
  show (qBz (L.map N)).map _=_
  rw [qIU L];rfl
theorem qFb:∀ L:List Nat,(L.map fun (n:Nat)=>(n:Int)).sum=((L.sum:Nat):Int)
 | []=>rfl
 | x::L=>by rw [List.map_cons,List.sum_cons,qFb L,List.sum_cons];simp
theorem IsL.sum (h:IsL M t L):qCG M .sum [t]=some (N L.sum,true):=by
 show (t.lis M).bind _=_
 rw [h.lis,Option.bind_some,qIU,Option.map_some,qFb];rfl
theorem IsL.idx (h:IsL M t L) {i:Nat} {x:Nat} (e:L[i]?=some x):qF2 M t (N i)=some (N x,true):=by
 show ((t.its M).bind fun xs=>(L2.ixN xs.length (i:Int)).bind fun j=>(xs[j]?).map fun t=>(t,t.lf))=_
 rw [h.its,Option.bind_some]
 have:=qGd (M:=M) i (L.map N)
 rw [show qF2 M (.lst (L.map N)) (N i)=((L2.ixN (L.map N).length (i:Int)).bind fun j=>((L.map N)[j]?).map fun t=>(t,t.lf)) from rfl] at this
 rw [this,List.getElem?_map,e]
 simp
theorem IsL.eq (h:IsL M t L) (k:IsL M u K):eqT M 4 t u=some (decide (L=K)):=by
 have:=qIi (M:=M) (d:=3) L K
 unfold eqT at this ⊢
 rw [h.nv,k.nv,h.lis,k.lis]
 exact this
theorem IsL.cne (h:IsL M t L) (k:IsL M u K):qBF M .ne t u=some (!decide (L=K)):=by
 show (eqT M 4 t u).map (!·)=_
 rw [h.eq k];rfl
end
open L2 (V)
theorem qGh {α:Type} (p:α -> Bool):∀ L:List α,qA9 (L.map fun x=>T.v (.bl (p x)))=some (L.map p)
 | []=>rfl
 | x::L=>by
  show (qA9 (L.map fun x=>T.v (.bl (p x)))).map _=_
  rw [qGh p L];rfl
theorem qHa {M:Mem} {α:Type} (p:α -> Bool) (L:List α):qCG M .all [.lst (L.map fun x=>T.v (.bl (p x)))]=some (bT (L.all p)):=by
 show (qA9 _).map _=_
 rw [qGh,Option.map_some,List.all_map];rfl
open L2 (V)
theorem qMY (K:List Nat):lT (K.map N)=(NL K,true):=by unfold lT;rw [qIQ];rfl
theorem getD_some {L:List Nat} {i:Nat} (h:i < L.length):L[i]?=some (L.getD i 0):=by
 rw [List.getD_eq_getElem?_getD,List.getElem?_eq_getElem h];rfl
end PI
namespace PI
open L2 (V)
noncomputable def IsS (M:Mem) (t:T) (ts:List T):Prop:=t=.lst ts\/∃ m,t=.cell m/\M[m]?=some ts
section
variable {M C:Mem} {t:T} {ts:List T}
theorem IsS.app (h:IsS M t ts):IsS (M++C) t ts:=by
 rcases h with h | ⟨m,h,e⟩
 ·exact .inl h
 ·exact .inr ⟨m,h,by rw [List.getElem?_append_left (List.getElem?_eq_some_iff.mp e).1];exact e⟩
theorem IsS.its (h:IsS M t ts):t.its M=some ts:=by rcases h with rfl | ⟨m,rfl,e⟩;rfl;exact e
theorem IsS.lis (h:IsS M t ts):t.lis M=some ts:=by rcases h with rfl | ⟨m,rfl,e⟩;rfl;exact e
theorem IsS.ty (h:IsS M t ts):qBm M t=some "list":=by rcases h with rfl | ⟨m,rfl,e⟩;rfl;exact qOB e
theorem IsS.nv (h:IsS M t ts):t.isV=none:=by rcases h with rfl | ⟨m,rfl,e⟩<;>rfl
theorem IsS.lf (h:IsS M t ts):t.lf=false:=by rcases h with rfl | ⟨m,rfl,e⟩<;>simp
theorem IsS.src (h:IsS M t ts):∃ d,qEh M t=some (ts,d)/\qF5 M t=some (ts,d)/\∀ C,qAd d (M++C)=true:=by
 rcases h with rfl | ⟨m,rfl,e⟩
 ·exact ⟨[],rfl,rfl,fun _=>rfl⟩
 ·exact ⟨_,qFL e,qFL e,fun C=>qIX (by rw [List.getElem?_append_left (List.getElem?_eq_some_iff.mp e).1];exact e)⟩
theorem IsS.len (h:IsS M t ts):qCG M .len [t]=some (N ts.length,true):=by
 show (t.its M).map _=_
 rw [h.its,Option.map_some];rfl
theorem IsS.idx (h:IsS M t ts) (i:Nat):qF2 M t (N i)=(ts[i]?).map fun t=>(t,t.lf):=by
 have a:qF2 M t (N i)=qF2 M (.lst ts) (N i):=by
  show (t.its M).bind _=_
  rw [h.its];rfl
 rw [a,qGd]
theorem IsS.list (h:IsS M t ts):qCG M .list [t]=some (lT ts):=by
 show (t.its M).map lT=_
 rw [h.its];rfl
theorem IsS.isL {L:List Nat} (h:IsS M t (L.map N)):IsL M t L:=by
 rcases h with rfl | ⟨m,rfl,e⟩
 ·exact IsL.nl M L
 ·exact IsL.cell e
theorem IsS.eqT {u:T} {us:List T} {d:Nat} {bs:List Bool} (h:IsS M t ts) (k:IsS M u us) (hl:ts.length=us.length) (e:qA5 (eqT M d) ts us=some bs):PI.eqT M (d + 1) t u=some (bs.all id):=by
 unfold PI.eqT
 rw [h.nv,k.nv,h.lis,k.lis]
 dsimp only
 rw [if_pos hl,e];rfl
end
noncomputable def WfM (M:Mem):Prop:=M.all (T.unds M.length)=true
theorem WfM.app {M C:Mem} (h:WfM M) (hC:∀ c∈C,T.unds (M++C).length c=true):WfM (M++C):=by
 unfold WfM at *
 rw [List.all_eq_true] at h ⊢
 intro c hc
 rcases List.mem_append.mp hc with z | z
 ·exact qA7 (by simp) c (h c z)
 ·exact hC c z
theorem WfM.one {M:Mem} (h:WfM M) {ts:List T} (l:T.lfs ts=true):WfM (M++[ts]):=h.app fun c hc=>by rw [List.mem_singleton.mp hc];exact qEp _ _ l
theorem qCx {M:Mem} {n0 d:Nat}:∀ ts:List T,T.lfs ts=true -> ts.mapM (qAP M n0 d)=some ts
 | [],_=>rfl
 | t::ts,h=>by
  rw [qDv,Bool.and_eq_true] at h
  have e:qAP M n0 d t=some t:=by cases d<;>(unfold qAP;rw [if_pos (qGJ n0 t h.1)])
  rw [List.mapM_cons,e,qCx ts h.2];rfl
theorem qFJ {M:Mem} {n0 d:Nat}:∀ ts:List T,T.lfs ts=true -> ts.mapM (qB1 M n0 d)=some (ts.map fun _=>[])
 | [],_=>rfl
 | t::ts,h=>by
  rw [qDv,Bool.and_eq_true] at h
  have e:qB1 M n0 d t=some []:=by cases d<;>(unfold qB1;rw [if_pos h.1])
  rw [List.mapM_cons,e,qFJ ts h.2];rfl
theorem qGB (L:List T):(L.map fun _=>([]:List Nat)).flatten=[]:=by
 induction L with
 | nil=>rfl
 | cons x L ih=>rw [List.map_cons,List.flatten_cons,ih];rfl
theorem qFv {M A C:Mem} {c:Nat} {ts:List T} (hA:A.length=M.length) (hW:WfM A) (hc:(A++C)[c]?=some ts) (hn:A.length<=c) (hl:T.lfs ts=true) (f:Bool):qEd M.length (.ok (.rt (.cell c,f),A++C))=.ok ((.lst ts,true),A):=by
 show finish M.length _ _=_
 unfold finish
 have hlt:=(List.getElem?_eq_some_iff.mp hc).1
 rw [List.length_append] at hlt
 rw [<- hA,if_neg (by rw [List.length_append];omega),List.take_left' rfl,if_pos (show A.all (T.unds A.length)=true from hW)]
 have r:qAP (A++C) A.length 6 (.cell c)=some (.lst ts):=by
  unfold qAP
  rw [if_neg (by unfold T.und;simp;omega)]
  dsimp only
  rw [hc,Option.bind_some,qCx _ hl];rfl
 have i:frR (A++C) A.length (.cell c)=true:=by
  unfold frR
  rw [show qB1 (A++C) A.length 6 (.cell c)=some [c] by
   unfold qB1
   rw [if_neg (by rw [qJ0];decide)]
   dsimp only
   rw [if_pos hn,hc,Option.bind_some,qFJ _ hl,Option.map_some,qGB];rfl]
  simp
 dsimp only
 rw [r,PR.ofO_some,PR.bind_ok,i,Bool.or_true]
end PI
namespace My
open PySem PySem.Spec PyProof.Rows L2 PI
noncomputable def top (i:Nat):Stmt:=PySem.Challenge.pw_healhalves_k72_plans_for_lengths.main.body.getD i (.Pass ⟨0,0,0,0⟩)
noncomputable def Tb:Tbl:=⟨[⟨"is_whole",top 9,["thing"],["thing"]⟩,
 ⟨"is_number_below",top 10,["thing","end"],["thing","end"]⟩,
 ⟨"is_list_below",top 11,["thing","end"],["thing","end"]⟩,
 ⟨"is_rising",top 12,["thing","end"],["thing","end","least","number"]⟩,
 ⟨"length_of",top 13,["size"],["size"]⟩,
 ⟨"is_size",top 14,["thing"],["thing"]⟩,
 ⟨"check_size",top 15,["size"],["size"]⟩,
 ⟨"is_sign",top 17,["thing"],["thing"]⟩,
 ⟨"is_row",top 18,["thing","length"],["thing","length"]⟩,
 ⟨"is_reached",top 20,["place","spot"],["place","spot"]⟩,
 ⟨"is_plan",top 23,["thing"],["thing","length"]⟩,
 ⟨"is_known_rightly",top 24,["sendings","known","spot"],["sendings","known","spot","reaching"]⟩,
 ⟨"check_plan",top 25,["plan"],["plan"]⟩,
 ⟨"sent_spots",top 26,["plan"],["plan","spots","number"]⟩,
 ⟨"sent_by",top 27,["plan","word"],["plan","word"]⟩,
 ⟨"plan_for",top 28,["size","length"],["size","length","spots","often","more"]⟩,
 ⟨"_law_bag",top 30,["_law_script","_law_k"],["_law_script","_law_k","_law_cell","_law_great"]⟩,
 ⟨"_law_out",top 31,["_law_bag_here","_law_many"],["_law_bag_here","_law_many","_law_found"]⟩,
 ⟨"_law_whole",top 32,["_law_thing"],["_law_thing"]⟩,
 ⟨"_law_due",top 33,["_law_size","_law_length"],["_law_size","_law_length","_law_many","_law_often","_law_k"]⟩,
 ⟨"law",top 34,["_law_script"],["_law_script","_law_k","_law_bag_here","_law_size","_law_many","_law_length","_law_turn","_law_found"]⟩],
 [("LENGTHS",E.glob 0),("GREATEST_SIZE",E.cst (.int 5)),("MOST_SENDINGS",E.cst (.int 6))],
 ["len","all","max","min","list","int","tuple","range","isinstance","bool","enumerate","ValueError"],[],[]⟩
noncomputable def gs:List O:=[O.tup [V.int 1,V.int 2,V.int 4,V.int 8,V.int 16,V.int 32]]
end My
namespace My
open PySem PySem.Spec PI
open L2 (V)
noncomputable def b0:Ss:=(.cons (.ret (.and (.isi (.var 0) ["int"]) (.not (.isi (.var 0) ["bool"])))) .nil)
theorem t0:Tb.fns[0]?=some ⟨1,1,b0⟩:=by kernel_rfl
noncomputable def b1:Ss:=(.cons (.ret (.and (.call 0 (.cons (.var 0) .nil)) (.cmp2 .le .lt (nE 0) (.var 0) (.var 1)))) .nil)
theorem t1:Tb.fns[1]?=some ⟨2,2,b1⟩:=by kernel_rfl
noncomputable def b2:Ss:=(.cons (.ret (.and (.isi (.var 0) ["list"]) (.blt .all (.cons (.comp (.list (.var 0)) [none,some 1] (.name 0) .nil (.call 1 (.cons (.var 0) (.cons (.var 1) .nil)))) .nil)))) .nil)
theorem t2:Tb.fns[2]?=some ⟨2,2,b2⟩:=by kernel_rfl
noncomputable def qL8:Ss:=(.cons (.ifs (.or (.not (.call 1 (.cons (.var 3) (.cons (.var 1) .nil)))) (.cmp .lt (.var 3) (.var 2))) (.cons (.ret (.cst (V.bl false))) .nil) .nil) (.cons (.asg (.name 2) (.bin .add (.var 3) (nE 1))) .nil))
noncomputable def b3:Ss:=(.cons (.ifs (.not (.isi (.var 0) ["list"])) (.cons (.ret (.cst (V.bl false))) .nil) .nil) (.cons (.asg (.name 2) (nE 0)) (.cons (.for_ (.name 3) (.list (.var 0)) qL8) (.cons (.ret (.cst (V.bl true))) .nil))))
theorem t3:Tb.fns[3]?=some ⟨2,4,b3⟩:=by kernel_rfl
noncomputable def b4:Ss:=(.cons (.ret (.idx (.glob 0) (.var 0))) .nil)
theorem t4:Tb.fns[4]?=some ⟨1,1,b4⟩:=by kernel_rfl
noncomputable def b5:Ss:=(.cons (.ret (.and (.call 0 (.cons (.var 0) .nil)) (.cmp2 .le .le (nE 1) (.var 0) (nE 5)))) .nil)
theorem t5:Tb.fns[5]?=some ⟨1,1,b5⟩:=by kernel_rfl
noncomputable def b6:Ss:=(.cons (.ifs (.not (.call 5 (.cons (.var 0) .nil))) (.cons .stop .nil) .nil) .nil)
theorem t6:Tb.fns[6]?=some ⟨1,1,b6⟩:=by kernel_rfl
noncomputable def b7:Ss:=(.cons (.ret (.call 1 (.cons (.var 0) (.cons (nE 2) .nil)))) .nil)
theorem t7:Tb.fns[7]?=some ⟨1,1,b7⟩:=by kernel_rfl
noncomputable def b8:Ss:=(.cons (.ret (.and (.isi (.var 0) ["list"]) (.and (.cmp .eq (.blt .len (.cons (.var 0) .nil)) (.var 1)) (.blt .all (.cons (.comp (.list (.var 0)) [none] (.name 0) .nil (.call 7 (.cons (.var 0) .nil))) .nil))))) .nil)
theorem t8:Tb.fns[8]?=some ⟨2,2,b8⟩:=by kernel_rfl
noncomputable def b9:Ss:=(.cons (.ret (.cmp .eq (.bin .band (.var 0) (.var 1)) (.var 1))) .nil)
theorem t9:Tb.fns[9]?=some ⟨2,2,b9⟩:=by kernel_rfl
noncomputable def b10:Ss:=(.cons (.ifs (.or (.not (.isi (.var 0) ["tuple"])) (.or (.cmp .ne (.blt .len (.cons (.var 0) .nil)) (nE 3)) (.not (.call 5 (.cons (.idx (.var 0) (nE 0)) .nil))))) (.cons (.ret (.cst (V.bl false))) .nil) .nil) (.cons (.asg (.name 1) (.call 4 (.cons (.idx (.var 0) (nE 0)) .nil))) (.cons (.ifs (.or (.not (.call 2 (.cons (.idx (.var 0) (nE 1)) (.cons (.bin .add (nE 6) (nE 1)) .nil)))) (.cmp .ne (.blt .len (.cons (.idx (.var 0) (nE 1)) .nil)) (.var 1))) (.cons (.ret (.cst (V.bl false))) .nil) .nil) (.cons (.ret (.and (.call 3 (.cons (.idx (.var 0) (nE 2)) (.cons (.var 1) .nil))) (.blt .all (.cons (.comp (.list (.idx (.var 0) (nE 2))) [none,some 0] (.name 0) .nil (.call 11 (.cons (.idx (.var 1) (nE 1)) (.cons (.idx (.var 1) (nE 2)) (.cons (.var 0) .nil))))) .nil)))) .nil))))
theorem t10:Tb.fns[10]?=some ⟨1,2,b10⟩:=by kernel_rfl
noncomputable def b11:Ss:=(.cons (.asg (.name 3) (.comp (.rng1 (.blt .len (.cons (.var 0) .nil))) [none,some 2] (.name 0) (.cons (.call 9 (.cons (.var 0) (.cons (.var 1) .nil))) .nil) (.var 0))) (.cons (.ret (.and (.cmp .eq (.idx (.var 0) (.var 2)) (nE 0)) (.blt .all (.cons (.comp (.list (.var 3)) [none,some 1] (.name 0) .nil (.cmp .inn (.var 0) (.var 1))) .nil)))) .nil))
theorem t11:Tb.fns[11]?=some ⟨3,4,b11⟩:=by kernel_rfl
noncomputable def b12:Ss:=(.cons (.ifs (.not (.call 10 (.cons (.var 0) .nil))) (.cons .stop .nil) .nil) .nil)
theorem t12:Tb.fns[12]?=some ⟨1,1,b12⟩:=by kernel_rfl
noncomputable def qIL:Ss:=(.cons (.expr (.meth .ext (.var 1) (.cons (.comp (.enum (.idx (.var 0) (nE 1))) [none,none,some 2] (.tup [0,1]) (.cons (.cmp .gt (.var 1) (.var 2)) .nil) (.var 0)) .nil))) .nil)
noncomputable def b13:Ss:=(.cons (.asg (.name 1) (.lst .nil)) (.cons (.for_ (.name 2) (.rng1 (nE 6)) qIL) (.cons (.ret (.var 1)) .nil)))
theorem t13:Tb.fns[13]?=some ⟨1,3,b13⟩:=by kernel_rfl
noncomputable def b14:Ss:=(.cons (.expr (.call 12 (.cons (.var 0) .nil))) (.cons (.ifs (.not (.call 8 (.cons (.var 1) (.cons (.call 4 (.cons (.idx (.var 0) (nE 0)) .nil)) .nil)))) (.cons .stop .nil) .nil) (.cons (.ret (.comp (.list (.call 13 (.cons (.var 0) .nil))) [none,some 1] (.name 0) .nil (.idx (.var 1) (.var 0)))) .nil)))
theorem t14:Tb.fns[14]?=some ⟨2,2,b14⟩:=by kernel_rfl
noncomputable def b15:Ss:=(.cons (.expr (.call 6 (.cons (.var 0) .nil))) (.cons (.asg (.name 2) (.call 4 (.cons (.var 0) .nil))) (.cons (.ifs (.or (.not (.call 0 (.cons (.var 1) .nil))) (.not (.cmp2 .le .le (nE 1) (.var 1) (.bin .mul (nE 6) (.var 2))))) (.cons .stop .nil) .nil) (.cons (.asg (.name 3) (.bin .fdiv (.var 1) (.var 2))) (.cons (.asg (.name 4) (.bin .mod (.var 1) (.var 2))) (.cons (.ret (.tup (.cons (.var 0) (.cons (.bin .add (.bin .mul (.lst (.cons (.bin .add (.var 3) (nE 1)) .nil)) (.var 4)) (.bin .mul (.lst (.cons (.var 3) .nil)) (.bin .sub (.var 2) (.var 4)))) (.cons (.lrng2 (.var 1) (.var 2)) .nil))))) .nil))))))
theorem t15:Tb.fns[15]?=some ⟨2,5,b15⟩:=by kernel_rfl
noncomputable def b16:Ss:=(.cons (.asg (.name 2) (nE 0)) (.cons (.ifs (.cmp .lt (.var 1) (.blt .len (.cons (.var 0) .nil))) (.cons (.asg (.name 2) (.idx (.var 0) (.var 1))) .nil) .nil) (.cons (.asg (.name 3) (nE 0)) (.cons (.ifs (.cmp .ge (.var 2) (.bin .pow (nE 10) (nE 18))) (.cons (.asg (.name 3) (.var 2)) .nil) .nil) (.cons (.ret (.lst (.cons (.var 3) (.cons (.bin .mod (.bin .pow (.bin .add (.bin .add (.bin .mod (.var 2) (nE 998244353)) (.bin .mul (nE 7368787) (.var 1))) (nE 17)) (nE 3)) (nE 2147483629)) .nil)))) .nil)))))
theorem t16:Tb.fns[16]?=some ⟨2,4,b16⟩:=by kernel_rfl
noncomputable def b17:Ss:=(.cons (.ifs (.cmp .gt (.idx (.var 0) (nE 0)) (nE 0)) (.cons (.asg (.name 2) (.bin .mod (.idx (.var 0) (nE 0)) (.var 1))) (.cons (.put (.var 0) (nE 0) (.bin .fdiv (.idx (.var 0) (nE 0)) (.var 1))) (.cons (.ret (.var 2)) .nil))) .nil) (.cons (.put (.var 0) (nE 1) (.bin .mod (.bin .add (.bin .mul (.idx (.var 0) (nE 1)) (nE 40692)) (nE 12345)) (nE 2147483399))) (.cons (.ret (.bin .mod (.bin .fdiv (.bin .mod (.bin .mul (.idx (.var 0) (nE 1)) (.bin .add (.bin .fdiv (.idx (.var 0) (nE 1)) (nE 1024)) (nE 7))) (nE 2147483647)) (nE 32)) (.var 1))) .nil)))
theorem t17:Tb.fns[17]?=some ⟨2,3,b17⟩:=by kernel_rfl
noncomputable def b18:Ss:=(.cons (.ret (.and (.isi (.var 0) ["int"]) (.not (.isi (.var 0) ["bool"])))) .nil)
theorem t18:Tb.fns[18]?=some ⟨1,1,b18⟩:=by kernel_rfl
noncomputable def qH9:Ss:=(.cons (.put (.var 3) (.bin .mod (.var 4) (.var 2)) (.bin .add (.idx (.var 3) (.bin .mod (.var 4) (.var 2))) (.bin .sub (nE 1) (nE 0)))) .nil)
noncomputable def b19:Ss:=(.cons (.asg (.name 2) (.bin .shl (nE 1) (.var 0))) (.cons (.asg (.name 3) (.comp (.rng1 (.var 2)) [none] (.name 0) .nil (nE 0))) (.cons (.for_ (.name 4) (.rng1 (.var 1)) qH9) (.cons (.ret (.tup (.cons (.var 0) (.cons (.var 3) (.cons (.lrng2 (.var 1) (.var 2)) .nil))))) .nil))))
theorem t19:Tb.fns[19]?=some ⟨2,5,b19⟩:=by kernel_rfl
noncomputable def qHc:Ss:=(.cons (.asg (.name 7) (.call 15 (.cons (.var 3) (.cons (.var 5) .nil)))) (.cons (.ifs (.or (.not (.isi (.var 7) ["tuple"])) (.or (.cmp .ne (.var 7) (.call 19 (.cons (.var 3) (.cons (.var 5) .nil)))) (.cmp .isnot (.call 10 (.cons (.var 7) .nil)) (.cst (V.bl true))))) (.cons (.ret (.cst (V.bl false))) .nil) .nil) (.cons (.ifs (.cmp .ne (.comp (.list (.bin .add (.bin .add (.idx (.var 7) (nE 1)) (.idx (.var 7) (nE 2))) (.lst (.cons (.idx (.var 7) (nE 0)) .nil)))) [none] (.name 0) (.cons (.not (.call 18 (.cons (.var 0) .nil))) .nil) (.var 0)) (.lst .nil)) (.cons (.ret (.cst (V.bl false))) .nil) .nil) (.cons (.ifs (.cmp .ne (.blt .len (.cons (.call 14 (.cons (.var 7) (.cons (.comp (.rng1 (.var 4)) [none] (.name 0) .nil (.bin .mod (.var 0) (nE 2))) .nil))) .nil)) (.var 5)) (.cons (.ret (.cst (V.bl false))) .nil) .nil) (.cons (.expr (.meth .clr (.idx (.var 7) (nE 1)) .nil)) (.cons (.expr (.app (.idx (.var 7) (nE 2)) (nE 0))) .nil))))))
noncomputable def qHy:Ss:=(.cons (.asg (.name 2) (.call 16 (.cons (.var 0) (.cons (.var 1) .nil)))) (.cons (.asg (.name 3) (.bin .add (nE 1) (.call 17 (.cons (.var 2) (.cons (nE 5) .nil))))) (.cons (.asg (.name 4) (.bin .shl (nE 1) (.var 3))) (.cons (.asg (.name 5) (.bin .add (nE 1) (.call 17 (.cons (.var 2) (.cons (.bin .mul (nE 6) (.var 4)) .nil))))) (.cons (.asg (.name 5) (.idx (.lst (.cons (.var 5) (.cons (.bin .add (nE 1) (.call 17 (.cons (.var 2) (.cons (.var 4) .nil)))) (.cons (.var 4) (.cons (.bin .add (.var 4) (nE 1)) (.cons (.bin .mul (nE 6) (.var 4)) (.cons (.bin .sub (.bin .mul (nE 2) (.var 4)) (nE 1)) .nil))))))) (.call 17 (.cons (.var 2) (.cons (nE 6) .nil))))) (.cons (.for_ (.name 6) (.rng1 (nE 2)) qHc) .nil))))))
noncomputable def b20:Ss:=(.cons (.for_ (.name 1) (.rng1 (.blt .max (.cons (nE 1) (.cons (.blt .min (.cons (.blt .len (.cons (.var 0) .nil)) (.cons (nE 60) .nil))) .nil)))) qHy) (.cons (.ret (.cst (V.bl true))) .nil))
theorem t20:Tb.fns[20]?=some ⟨1,8,b20⟩:=by kernel_rfl
noncomputable def Cs:List (List Nat):=[[],[],[],[],[],[],[],[],[],[],[],[],[],[1],[],[],[],[],[],[3],[2,7]]
theorem gl0:(glT gs)[0]?=some (.tup [N 1,N 2,N 4,N 8,N 16,N 32]):=rfl
section
variable {k:Nat}
noncomputable abbrev I (x:Int):T:=.v (.int x)
noncomputable def stT (g s:Nat):List T:=[N g,N s]
noncomputable def qMt (M:Mem) (n:Nat):Prop:=∃ g s,M[n]?=some (stT g s)/\s < 2147483648
structure Kept (n:Nat) (M M':Mem):Prop where
 good:qMt M' n
 len:M'.length=M.length
 oth:∀ j,j≠n -> M'[j]?=M[j]?
theorem Kept.trans {n:Nat} {A B C:Mem} (x:Kept n A B) (y:Kept n B C):Kept n A C:=⟨y.good,y.len.trans x.len,fun j hj=>(y.oth j hj).trans (x.oth j hj)⟩
theorem qOx (hk:1<=k) {M:Mem} {n m g s:Nat} (hm:0 < m/\m<=1000000) (hg:0 < g) (e:M[n]?=some [N g,N s]) (e':∀ y,(M.set n y)[n]?=some y):
  Pk (glT gs) Tb.fns Cs k 17 [.cell n,N m] M=.ok ((N (g % m),true),M.set n [N (g / m),N s]):=by
 rw [qAe t17 ⟨rfl,by decide⟩ hk,b17,show Cs.getD 17 []=[] from rfl]
 simp (disch:=omega) [qCW,qDf,e,e',hg]
 rw [qAU (by simp)]
theorem qOk (hk:1<=k) {M:Mem} {n m s:Nat} (hm:0 < m/\m<=1000000) (e:M[n]?=some [N 0,N s]) (e':∀ y,(M.set n y)[n]?=some y) {s':Nat} (hs':(s * 40692 + 12345) % 2147483399=s') (hq:s' < 2147483399):
  Pk (glT gs) Tb.fns Cs k 17 [.cell n,N m] M=.ok ((N (s' * (s' / 1024 + 7) % 2147483647 / 32 % m),true),M.set n [N 0,N s']):=by
 rw [qAe t17 ⟨rfl,by decide⟩ hk,b17,show Cs.getD 17 []=[] from rfl]
 have ml1:∀ {M:Mem} (x:Nat),qAm M .mul (N x) (N 40692)=some (N (x * 40692),true):=fun {M} x=>qDF (.inr (by decide))
 have ml3:∀ {M:Mem} (y:Nat),qAm M .mul (N s') (N y)=some (N (s' * y),true):=fun {M} y=>qDF (.inl (Nat.lt_trans hq (by decide)))
 have md1:∀ {M:Mem} (x:Nat),qAm M .mod (N x) (N 2147483399)=some (N (x % 2147483399),true):=fun {M} x=>qCW (by decide)
 have md2:∀ {M:Mem} (x:Nat),qAm M .mod (N x) (N 2147483647)=some (N (x % 2147483647),true):=fun {M} x=>qCW (by decide)
 have md3:∀ {M:Mem} (x:Nat),qAm M .mod (N x) (N m)=some (N (x % m),true):=fun {M} x=>qCW hm.1
 have fd1:∀ {M:Mem} (x:Nat),qAm M .fdiv (N x) (N 1024)=some (N (x / 1024),true):=fun {M} x=>qDf (by decide)
 have fd2:∀ {M:Mem} (x:Nat),qAm M .fdiv (N x) (N 32)=some (N (x / 32),true):=fun {M} x=>qDf (by decide)
 simp [hs',ml1,ml3,md1,md2,md3,fd1,fd2,e,e']
 rw [qAU (by simp)]
theorem out (hk:1<=k) {M:Mem} {n m:Nat} (g:qMt M n) (hm:0 < m/\m<=1000000):∃ d M',Pk (glT gs) Tb.fns Cs k 17 [.cell n,N m] M=.ok ((N d,true),M')/\d < m/\Kept n M M':=by
 obtain ⟨a,s,e,hb⟩:=g
 have hn:n < M.length:=(List.getElem?_eq_some_iff.mp e).1
 have e':∀ y,(M.set n y)[n]?=some y:=fun y=>List.getElem?_set_self hn
 rcases Nat.eq_zero_or_pos a with rfl | hp
 ·have hq:(s * 40692 + 12345) % 2147483399 < 2147483399:=Nat.mod_lt _ (by decide)
  exact ⟨_,_,qOk hk hm e e' rfl hq,Nat.mod_lt _ hm.1,⟨⟨0,_,e' _,Nat.lt_trans hq (by decide)⟩,by simp,fun j hj=>by rw [List.getElem?_set_ne (Ne.symm hj)]⟩⟩
 ·exact ⟨_,_,qOx hk hm hp e e',Nat.mod_lt _ hm.1,⟨⟨a / m,s,e' _,hb⟩,by simp,fun j hj=>by rw [List.getElem?_set_ne (Ne.symm hj)]⟩⟩
theorem qMx {M:Mem}:qAm M .pow (N 10) (N 18)=some (N 1000000000000000000,true):=by rw [qLw (by decide)]
theorem qNt (hk:1<=k) {S:List T} {kk:Nat} (hkk:kk<=63) (M:Mem) {cl:Int} (hc:(kk < S.length/\S[kk]?=some (I cl))\/(S.length<=kk/\cl=0)):∃ g s,Pk (glT gs) Tb.fns Cs k 16 [.fz S,N kk] M=.ok ((.lst (stT g s),true),M)/\s < 2147483648:=by
 obtain ⟨c,hcc⟩:∃ c:Nat,cl % 998244353=(c:Int):=⟨(cl % 998244353).toNat,by omega⟩
 have cb:c < 998244353:=by omega
 have md:∀ {M:Mem},qAm M .mod (I cl) (N 998244353)=some (N c,true):=fun {M}=>by
  show qAm M .mod (.v (.int cl)) (.v (.int 998244353))=_
  rw [qIe (by decide)];unfold iT;rw [hcc];rfl
 have m1:∀ {M:Mem},qAm M .mul (N 7368787) (N kk)=some (N (7368787 * kk),true):=fun {M}=>qDF (.inl (by decide))
 have pw:∀ {M:Mem},qAm M .pow (N (c + 7368787 * kk + 17)) (N 3)=some (N ((c + 7368787 * kk + 17) ^ 3),true):=fun {M}=>by
  unfold N
  rw [qIV (by omega)];unfold iT;simp
 have md2:∀ {M:Mem} (x:Nat),qAm M .mod (N x) (N 2147483629)=some (N (x % 2147483629),true):=fun {M} x=>qCW (by decide)
 have hs:(c + 7368787 * kk + 17) ^ 3 % 2147483629 < 2147483648:=Nat.lt_trans (Nat.mod_lt _ (by decide)) (by decide)
 generalize (c + 7368787 * kk + 17) ^ 3=q at pw hs
 have ge:∀ {M:Mem},qBF M .ge (I cl) (N 1000000000000000000)=some (decide (1000000000000000000<=cl)):=fun {M}=>rfl
 by_cases hg:(1000000000000000000:Int)<=cl
 ·obtain ⟨gn,rfl⟩:∃ gn:Nat,cl=(gn:Int):=⟨cl.toNat,by omega⟩
  refine ⟨gn,q % 2147483629,?_,hs⟩
  rw [decide_eq_true hg] at ge
  rcases hc with ⟨h1,h2⟩ | ⟨h1,h2⟩
  ·have ix:∀ {M:Mem},qF2 M (.fz S) (N kk)=some (I gn,true):=fun {M}=>by
    show ((some S).bind fun xs=>(L2.ixN xs.length (kk:Int)).bind fun j=>(xs[j]?).map fun t=>(t,t.lf))=_
    rw [Option.bind_some];unfold L2.ixN
    rw [if_pos (by omega),if_pos (by omega),Option.bind_some,Int.toNat_natCast,h2];rfl
   rw [qAe t16 ⟨rfl,by decide⟩ hk,b16,show Cs.getD 16 []=[] from rfl]
   simp [h1,ix,qMx,ge,md,m1,pw,md2,lim,stT]
   rw [qAU rfl];rfl
  ·omega
 ·rw [decide_eq_false hg] at ge
  refine ⟨0,q % 2147483629,?_,hs⟩
  rcases hc with ⟨h1,h2⟩ | ⟨h1,h2⟩
  ·have ix:∀ {M:Mem},qF2 M (.fz S) (N kk)=some (I cl,true):=fun {M}=>by
    show ((some S).bind fun xs=>(L2.ixN xs.length (kk:Int)).bind fun j=>(xs[j]?).map fun t=>(t,t.lf))=_
    rw [Option.bind_some];unfold L2.ixN
    rw [if_pos (by omega),if_pos (by omega),Option.bind_some,Int.toNat_natCast,h2];rfl
   rw [qAe t16 ⟨rfl,by decide⟩ hk,b16,show Cs.getD 16 []=[] from rfl]
   simp [h1,ix,qMx,ge,md,m1,pw,md2,lim,stT]
   rw [qAU rfl]
  ·subst h2
   have h1':¬ kk < S.length:=by omega
   rw [show I 0=N 0 from rfl] at md ge
   have ge:∀ {M:Mem},qBF M .ge (N 0) (N 1000000000000000000)=some false:=fun {M}=>ge
   have md:∀ {M:Mem},qAm M .mod (N 0) (N 998244353)=some (N c,true):=fun {M}=>md
   rw [qAe t16 ⟨rfl,by decide⟩ hk,b16,show Cs.getD 16 []=[] from rfl]
   simp [h1',qMx,ge,md,m1,pw,md2,lim,stT,-qMP]
   rw [qAU rfl]
theorem bag (hk:1<=k) (ns:List Int) {kk:Nat} (hkk:kk<=63) (M:Mem):∃ g s,Pk (glT gs) Tb.fns Cs k 16 [.fz (ns.map fun n=>.v (.int n)),N kk] M=.ok ((.lst (stT g s),true),M)/\s < 2147483648:=by
 by_cases h:kk < ns.length
 ·exact qNt hk hkk M (cl:=ns[kk]) (.inl ⟨by simpa using h,by rw [List.getElem?_map,List.getElem?_eq_getElem h];rfl⟩)
 ·exact qNt hk hkk M (cl:=0) (.inr ⟨by simp;omega,rfl⟩)
theorem f0 (hk:1<=k) (x:Int) (M:Mem):Pk (glT gs) Tb.fns Cs k 0 [I x] M=.ok (bT true,M):=by
 rw [qAe t0 ⟨rfl,by decide⟩ hk]
 simp [b0,qBw,qAU]
theorem f0N (hk:1<=k) (i:Nat) (M:Mem):Pk (glT gs) Tb.fns Cs k 0 [N i] M=.ok (bT true,M):=f0 hk (i:Int) M
theorem f1 (hk:2<=k) (i e:Nat) (M:Mem):Pk (glT gs) Tb.fns Cs k 1 [N i,N e] M=.ok (bT (decide (i < e)),M):=by
 rw [qAe t1 ⟨rfl,by decide⟩ (by omega)]
 simp (disch:=omega) [b1,f0N,qAU]
theorem f4 (hk:1<=k) {s:Nat} (hs:s<=5) (M:Mem):Pk (glT gs) Tb.fns Cs k 4 [N s] M=.ok ((N (2 ^ s),true),M):=by
 rw [qAe t4 ⟨rfl,by decide⟩ hk]
 have:s=0\/s=1\/s=2\/s=3\/s=4\/s=5:=by omega
 rcases this with rfl | rfl | rfl | rfl | rfl | rfl<;>simp [b4,gl0,qAU]
theorem f5 (hk:2<=k) {s:Nat} (h1:1<=s) (hs:s<=5) (M:Mem):Pk (glT gs) Tb.fns Cs k 5 [N s] M=.ok (bT true,M):=by
 rw [qAe t5 ⟨rfl,by decide⟩ (by omega)]
 simp (disch:=omega) [b5,f0N,h1,hs,qAU]
theorem f6 (hk:3<=k) {s:Nat} (h1:1<=s) (hs:s<=5) (M:Mem):Pk (glT gs) Tb.fns Cs k 6 [N s] M=.ok ((.v .non,true),M):=by
 rw [qAe t6 ⟨rfl,by decide⟩ (by omega)]
 simp (disch:=omega) [b6,f5,qFl,h1,hs]
theorem p5 {s:Nat} (h:s<=5):2 ^ s<=32:=Nat.le_trans (Nat.pow_le_pow_right (by decide) h) (by decide)
theorem f7 (hk:3<=k) (i:Nat) (M:Mem):Pk (glT gs) Tb.fns Cs k 7 [N i] M=.ok (bT (decide (i < 2)),M):=by
 rw [qAe t7 ⟨rfl,by decide⟩ (by omega),b7,show Cs.getD 7 []=[] from rfl]
 simp [f1 (k:=k - 1) (by omega),qAU]
theorem qOi (hk:4<=k) {M:Mem} {t:T} {n:Nat} {x:List Nat} (i:IsS M t (x.map N)) (h:x.length=n/\∀ v∈x,v < 2) (hn:n<=1000):Pk (glT gs) Tb.fns Cs k 8 [t,N n] M=.ok (bT true,M):=by
 rw [qAe t8 ⟨rfl,by decide⟩ (by omega),b8,show Cs.getD 8 []=[] from rfl]
 obtain ⟨d,s1,_,s2⟩:=i.src
 have s2':=s2 []
 rw [List.append_nil] at s2'
 have c:qAg d (.name 0) (pec (glT gs) (Pk (glT gs) Tb.fns Cs (k - 1)) .nil) (pe (glT gs) (Pk (glT gs) Tb.fns Cs (k - 1)) (.call 7 (.cons (.var 0) .nil))) (x.map N) [] true [none] M=.ok ((.lst (x.map fun v=>T.v (.bl (decide (v < 2)))),true),M):=by
  have:=qCm (d:=d) (c:=pec (glT gs) (Pk (glT gs) Tb.fns Cs (k - 1)) .nil) (e:=pe (glT gs) (Pk (glT gs) Tb.fns Cs (k - 1)) (.call 7 (.cons (.var 0) .nil))) (M:=M) (σ:=[]) (fun _=>true) (fun v=>T.v (.bl (decide (v < 2)))) (fun _=>true) x [] true none s2' (by simp [h.1];exact Nat.le_trans hn (by decide)) (fun v _=>by simp) (fun v _ _=>by simp [f7 (k:=k - 1) (by omega),bT])
  rw [qA4,show (x.all fun _=>true)=true from List.all_eq_true.mpr fun _ _=>rfl] at this
  simpa using this
 have al:∀ {M:Mem},qCG M .all [.lst (x.map fun v=>T.v (.bl (decide (v < 2))))]=some (bT true):=fun {M}=>by
  rw [qHa (fun v=>decide (v < 2))]
  congr 2
  rw [List.all_eq_true]
  exact fun v hv=>decide_eq_true (h.2 v hv)
 have ln:qCG M .len [t]=some (N n,true):=by rw [i.len,List.length_map,h.1]
 simp only [qHh,qKU,pe_and,qLo,pe_var,qLZ,qKs,qH2,qJM,pe_comp,qHl,qEi,qF0]
 simp [qBw,i.ty,ln,s1,c,al,qAU,-qBu]
theorem qLK (hk:3<=k) {M:Mem} {t:T} {L:List Nat} {n:Nat} (hI:IsL M t L) (h:∀ x∈L,x < n) (hl:L.length<=100):Pk (glT gs) Tb.fns Cs k 2 [t,N n] M=.ok (bT true,M):=by
 rw [qAe t2 ⟨rfl,by decide⟩ (by omega),b2,show Cs.getD 2 []=[] from rfl]
 obtain ⟨d,s1,_,s2⟩:=hI.src
 have c:qAg d (.name 0) (pec (glT gs) (Pk (glT gs) Tb.fns Cs (k - 1)) .nil) (pe (glT gs) (Pk (glT gs) Tb.fns Cs (k - 1)) (.call 1 (.cons (.var 0) (.cons (.var 1) .nil)))) (L.map N) [] true [none,some (N n)] M=.ok ((.lst (L.map fun v=>T.v (.bl (decide (v < n)))),true),M):=by
  have:=qCm (d:=d) (c:=pec (glT gs) (Pk (glT gs) Tb.fns Cs (k - 1)) .nil) (e:=pe (glT gs) (Pk (glT gs) Tb.fns Cs (k - 1)) (.call 1 (.cons (.var 0) (.cons (.var 1) .nil)))) (M:=M) (σ:=[some (N n)]) (fun _=>true) (fun v=>T.v (.bl (decide (v < n)))) (fun _=>true) L [] true none s2 (by simp [lim];omega) (fun v _=>by simp) (fun v _ _=>by simp [f1 (k:=k - 1) (by omega),bT])
  rw [qA4,show (L.all fun _=>true)=true from List.all_eq_true.mpr fun _ _=>rfl] at this
  simpa using this
 have al:∀ {M:Mem},qCG M .all [.lst (L.map fun v=>T.v (.bl (decide (v < n))))]=some (bT true):=fun {M}=>by
  rw [qHa (fun v=>decide (v < n))]
  congr 2
  rw [List.all_eq_true]
  exact fun v hv=>decide_eq_true (h v hv)
 simp [qBw,hI.ty,s1,c,al,qAU,-qBu]
end
theorem qJY (a b:Nat):T.unds 0 (stT a b)=true:=qFH 0 [a,b]
theorem qJc {n:Nat} {M M':Mem} (h:WfM M) (k:Kept n M M'):WfM M':=by
 unfold WfM at *
 rw [List.all_eq_true] at h ⊢
 intro c hc
 rw [k.len]
 obtain ⟨j,hj⟩:=List.getElem?_of_mem hc
 by_cases e:j=n
 ·subst e
  obtain ⟨g,s,e1,_⟩:=k.good
  rw [e1] at hj;cases hj
  exact qA7 (Nat.zero_le _) _ (qJY g s)
 ·rw [k.oth j e] at hj
  exact h c (List.mem_of_getElem? hj)
end My
namespace My
open PySem PySem.Spec PI
open L2 (V)
noncomputable def aL (n L:Nat):List Nat:=List.replicate (L % n) (L / n + 1)++List.replicate (n - L % n) (L / n)
noncomputable def kn (n L:Nat):List Nat:=List.range' L (n - L)
noncomputable def spo (A:List Nat) (m:Nat):List Nat:=(List.range A.length).filter fun i=>decide (m < A.getD i 0)
noncomputable def qCP (A:List Nat):List Nat:=(List.range 6).flatMap (spo A)
noncomputable def chk (s L:Nat):Bool:=(aL (2 ^ s) L).all (fun x=>decide (x < 7))&&decide ((aL (2 ^ s) L).length=2 ^ s)&&decide ((qCP (aL (2 ^ s) L)).length=L)&&(L==6 * 2 ^ s||decide ((aL (2 ^ s) L).set (L % 2 ^ s) ((aL (2 ^ s) L).getD (L % 2 ^ s) 0 + 1)=aL (2 ^ s) (L + 1)))
noncomputable def qKH (s:Nat):Bool:=(List.range (6 * 2 ^ s + 1)).all (chk s)
theorem qOL:qKH 1=true:=by decide +kernel
theorem qOv:qKH 2=true:=by decide +kernel
theorem qOJ:qKH 3=true:=by decide +kernel
theorem qOl:qKH 4=true:=by decide +kernel
theorem qO0:qKH 5=true:=by decide +kernel
structure Pl (s L:Nat):Prop where
 s1:1<=s
 s5:s<=5
 hL:L<=6 * 2 ^ s
section
variable {s L:Nat}
theorem Pl.chk (h:Pl s L):chk s L=true:=by
 have:qKH s=true:=by
  have:=h.s1
  have:=h.s5
  rcases (by omega:s=1\/s=2\/s=3\/s=4\/s=5) with rfl | rfl | rfl | rfl | rfl
  ·exact qOL
  ·exact qOv
  ·exact qOJ
  ·exact qOl
  ·exact qO0
 exact List.all_eq_true.mp this L (List.mem_range.mpr (by have:=h.hL;omega))
theorem Pl.a7 (h:Pl s L):∀ x∈aL (2 ^ s) L,x < 7:=fun x hx=>by
 have c:=h.chk
 simp only [My.chk,Bool.and_eq_true] at c
 exact of_decide_eq_true (List.all_eq_true.mp c.1.1.1 x hx)
theorem Pl.len (h:Pl s L):(aL (2 ^ s) L).length=2 ^ s:=by
 have c:=h.chk
 simp only [My.chk,Bool.and_eq_true] at c
 exact of_decide_eq_true c.1.1.2
theorem Pl.sent (h:Pl s L):(qCP (aL (2 ^ s) L)).length=L:=by
 have c:=h.chk
 simp only [My.chk,Bool.and_eq_true] at c
 exact of_decide_eq_true c.1.2
theorem Pl.step (h:Pl s L) (hl:L < 6 * 2 ^ s):(aL (2 ^ s) L).set (L % 2 ^ s) ((aL (2 ^ s) L).getD (L % 2 ^ s) 0 + 1)=aL (2 ^ s) (L + 1):=by
 have c:=h.chk
 simp only [My.chk,Bool.and_eq_true,Bool.or_eq_true] at c
 rcases c.2 with z | z
 ·have:=beq_iff_eq.mp z;omega
 ·exact of_decide_eq_true z
theorem kn_mem {n x:Nat}:x∈kn n L↔L<=x/\x < n:=by
 unfold kn
 rw [List.mem_range'_1]
 omega
theorem qJG {n x:Nat} (h:x∈kn n L):(aL n L)[x]?=some 0:=by
 obtain ⟨h1,h2⟩:=kn_mem.mp h
 have e1:L / n=0:=Nat.div_eq_of_lt (by omega)
 have e2:L % n=L:=Nat.mod_eq_of_lt (by omega)
 unfold aL
 rw [e1,e2,List.getElem?_append_right (by simp;omega),List.getElem?_replicate,List.length_replicate,if_pos (by omega)]
theorem qKV {A:List Nat} {x:Nat} (h:x∈qCP A):x < A.length:=by
 obtain ⟨m,_,hx⟩:=List.mem_flatMap.mp h
 exact List.mem_range.mp (List.mem_filter.mp hx).1
noncomputable def Ris (lo hi:Nat):List Nat -> Prop
 | []=>True
 | x::L=>lo<=x/\x < hi/\Ris (x + 1) hi L
theorem qD1 {n:Nat}:∀ (m a lo:Nat),lo<=a -> a + m<=n -> Ris lo n (List.range' a m)
 | 0,a,lo,_,_=>trivial
 | m + 1,a,lo,h1,h2=>by
  rw [List.range'_succ]
  exact ⟨h1,by omega,qD1 m (a + 1) (a + 1) (Nat.le_refl _) (by omega)⟩
theorem qLc {n:Nat}:Ris 0 n (kn n L):=by
 unfold kn
 by_cases h:L<=n
 ·exact qD1 _ _ _ (Nat.zero_le _) (by omega)
 ·rw [show n - L=0 by omega];trivial
end
section
variable {k:Nat}
theorem f3L (hk:2<=k) {M:Mem} {d:qCc} (hd:qAd d M=true) {t:T}:∀ (L:List Nat) (lo n:Nat) (o:Option T),Ris lo n L -> ∃ σ',qBP d (.name 3) (pxs (glT gs) (Pk (glT gs) Tb.fns Cs k) [] qL8) (L.map N) [some t,some (N n),some (N lo),o] M=.ok (.nx σ',M)
 | [],lo,n,o,_=>⟨_,rfl⟩
 | x::L,lo,n,o,⟨h1,h2,h3⟩=>by
  obtain ⟨σ',e⟩:=f3L hk hd (t:=t) L (x + 1) n (some (N x)) h3
  refine ⟨σ',?_⟩
  have a2:¬ (x < lo):=by omega
  have body:pxs (glT gs) (Pk (glT gs) Tb.fns Cs k) [] qL8 [some t,some (N n),some (N lo),some (N x)] M=.ok (.nx [some t,some (N n),some (N (x + 1)),some (N x)],M):=by
   rw [qL8]
   simp (disch:=omega) [f1,h2,a2]
  rw [List.map_cons,qBP,show qBE (.name 3) (N x) [some t,some (N n),some (N lo),o]=some [some t,some (N n),some (N lo),some (N x)] from rfl]
  dsimp only
  rw [body,PR.bind_ok]
  dsimp only
  rw [if_pos hd]
  exact e
theorem qO5 (hk:3<=k) {M:Mem} {t:T} {L:List Nat} {n:Nat} (hI:IsL M t L) (h:Ris 0 n L) (hf:t.lf=false):Pk (glT gs) Tb.fns Cs k 3 [t,N n] M=.ok (bT true,M):=by
 rw [qAe t3 ⟨rfl,by decide⟩ (by omega),b3,show Cs.getD 3 []=[] from rfl]
 obtain ⟨d,s1,_,s2⟩:=hI.src
 obtain ⟨σ',e⟩:=f3L (k:=k - 1) (by omega) s2 (t:=t) L 0 n none h
 simp [qBw,hI.ty,s1,e,qAU]
theorem f9r (hk:1<=k) (a b:Nat) (M:Mem):Pk (glT gs) Tb.fns Cs k 9 [N a,N b] M=.ok (bT (decide (a&&& b=b)),M):=by
 rw [qAe t9 ⟨rfl,by decide⟩ (by omega),b9,show Cs.getD 9 []=[] from rfl]
 simp [qJi,qAU]
theorem qOd {M:Mem} {t:T} {L:List Nat} (h:IsL M t L) (n:Nat):qBF M .inn (N n) t=some (decide (n∈L)):=by
 have:=qOW (M:=M) n L
 have e:qBF M .inn (N n) t=qBF M .inn (N n) (NL L):=by
  show inT M (N n) t=inT M (N n) (NL L)
  unfold inT
  rw [h.its];rfl
 rw [e];exact this
theorem eqI {M:Mem} {t u:T} {L K:List Nat} {d:Nat} (h:IsL M t L) (k:IsL M u K):eqT M (d + 1) t u=some (decide (L=K)):=by
 have:=qIi (M:=M) (d:=d) L K
 unfold eqT at this ⊢
 rw [h.nv,k.nv,h.lis,k.lis]
 exact this
theorem kr (hk:2<=k) {M:Mem} {ta tk:T} {A K:List Nat} {n i:Nat} (ia:IsS M ta (A.map N)) (ik:IsS M tk (K.map N)) (hn:A.length=n) (hn5:n<=100) (h0:A[i]?=some 0) (hr:∀ p,p < n -> p&&& i=i -> p∈K):Pk (glT gs) Tb.fns Cs k 11 [ta,tk,N i] M=.ok (bT true,M):=by
 rw [qAe t11 ⟨rfl,by decide⟩ (by omega),b11,show Cs.getD 11 []=[] from rfl]
 have ln:=ia.isL.len
 rw [hn] at ln
 have rg:=qC4 (n:=n) (by omega)
 have c:=qEy (c:=pec (glT gs) (Pk (glT gs) Tb.fns Cs (k - 1)) (.cons (.call 9 (.cons (.var 0) (.cons (.var 1) .nil))) .nil)) (e:=pe (glT gs) (Pk (glT gs) Tb.fns Cs (k - 1)) (.var 0)) (M:=M) (σ:=[some (N i)]) (o:=none) (its:=List.range n) (fun p=>decide (p&&& i=i)) (fun x=>x) (by simp [lim];omega) (fun x _=>by simp [f9r (k:=k - 1) (by omega)]) (fun x _ _=>by simp)
 rw [List.map_id'] at c
 have hS:∀ p∈(List.range n).filter (fun p=>decide (p&&& i=i)),p∈K:=fun p hp=>hr p (List.mem_range.mp (List.mem_filter.mp hp).1) (of_decide_eq_true (List.mem_filter.mp hp).2)
 have lS:((List.range n).filter fun p=>decide (p&&& i=i)).length<=n:=Nat.le_trans (List.length_filter_le _ _) (by simp)
 generalize (List.range n).filter (fun p=>decide (p&&& i=i))=S at *
 have c2:=qFj (M:=M) (σ:=[some tk]) (c:=pec (glT gs) (Pk (glT gs) Tb.fns Cs (k - 1)) .nil) (e:=pe (glT gs) (Pk (glT gs) Tb.fns Cs (k - 1)) (.cmp .inn (.var 0) (.var 1))) (fun _=>true) (fun p=>T.v (.bl (decide (p∈K)))) (fun _=>true) S [] true none (by simp [lim];omega) (fun x _=>by simp) (fun x _ _=>by
  have:=qOd ik.isL x
  simp [this,bT])
 rw [qA4,List.nil_append,show (S.all fun _=>true)=true from List.all_eq_true.mpr fun _ _=>rfl] at c2
 have al:∀ {M:Mem},qCG M .all [.lst (S.map fun p=>T.v (.bl (decide (p∈K))))]=some (bT true):=fun {M}=>by
  rw [qHa (fun p=>decide (p∈K))]
  congr 2
  rw [List.all_eq_true]
  exact fun p hp=>decide_eq_true (hS p hp)
 have i0:=ia.isL.idx h0
 have n1:=ia.lf
 have n2:=ik.lf
 have sN:qEh M (NL S)=some (S.map N,[]):=rfl
 generalize NL S=tS at *
 generalize S.map N=SN at *
 generalize (S.map fun p=>T.v (.bl (decide (p∈K))))=SB at *
 simp [ln,rg,c,-qDu,-qBu,i0,sN,c2,al,qAU]
theorem qNo (hk:5<=k) {s L:Nat} (h:Pl s L) {M:Mem} {ta tk:T} (ia:IsS M ta ((aL (2 ^ s) L).map N)) (ik:IsS M tk ((kn (2 ^ s) L).map N)):Pk (glT gs) Tb.fns Cs k 10 [.tup [N s,ta,tk]] M=.ok (bT true,M):=by
 rw [qAe t10 ⟨rfl,by decide⟩ (by omega),b10,show Cs.getD 10 []=[] from rfl]
 have n5:=p5 h.s5
 have e5:=f5 (k:=k - 1) (by omega) h.s1 h.s5 M
 have e4:=f4 (k:=k - 1) (by omega) h.s5 M
 have e2:=qLK (k:=k - 1) (by omega) ia.isL h.a7 (by rw [h.len];omega)
 have ln:=ia.isL.len
 rw [h.len] at ln
 have e3:=qO5 (k:=k - 1) (by omega) ik.isL (qLc (n:=2 ^ s) (L:=L)) ik.lf
 obtain ⟨d,s1,_,s2⟩:=ik.isL.src
 have kl:(kn (2 ^ s) L).length<=100:=by simp [kn];omega
 have c:qAg d (.name 0) (pec (glT gs) (Pk (glT gs) Tb.fns Cs (k - 1)) .nil) (pe (glT gs) (Pk (glT gs) Tb.fns Cs (k - 1)) (.call 11 (.cons (.idx (.var 1) (nE 1)) (.cons (.idx (.var 1) (nE 2)) (.cons (.var 0) .nil))))) ((kn (2 ^ s) L).map N) [] true [none,some (.tup [N s,ta,tk])] M=.ok ((.lst ((kn (2 ^ s) L).map fun _=>T.v (.bl true)),true),M):=by
  have:=qCm (d:=d) (c:=pec (glT gs) (Pk (glT gs) Tb.fns Cs (k - 1)) .nil) (e:=pe (glT gs) (Pk (glT gs) Tb.fns Cs (k - 1)) (.call 11 (.cons (.idx (.var 1) (nE 1)) (.cons (.idx (.var 1) (nE 2)) (.cons (.var 0) .nil))))) (M:=M) (σ:=[some (.tup [N s,ta,tk])]) (fun _=>true) (fun _=>T.v (.bl true)) (fun _=>true) (kn (2 ^ s) L) [] true none s2 (by simp only [List.length_nil,Nat.zero_add,lim];omega) (fun v _=>by simp) (fun v hv _=>by
   have e:=kr (k:=k - 1) (by omega) ia ik h.len (by omega) (qJG hv) (fun p hp hpv=>kn_mem.mpr ⟨by have:=(kn_mem.mp hv).1;have:=Nat.and_le_left (n:=p) (m:=v);omega,hp⟩)
   simp [e,bT])
  rw [qA4,show ((kn (2 ^ s) L).all fun _=>true)=true from List.all_eq_true.mpr fun _ _=>rfl] at this
  simpa using this
 have al:∀ {M:Mem},qCG M .all [.lst ((kn (2 ^ s) L).map fun _=>T.v (.bl true))]=some (bT true):=fun {M}=>by
  rw [qHa (fun _=>true),show ((kn (2 ^ s) L).all fun _=>true)=true from List.all_eq_true.mpr fun _ _=>rfl]
 have n1:=ia.lf
 have n2:=ik.lf
 generalize ((kn (2 ^ s) L).map fun _=>T.v (.bl true))=KB at *
 generalize (kn (2 ^ s) L).map N=KN at *
 simp [qBw,e5,e4,e2,ln,e3,s1,c,al,qAU,-qBu]
theorem qOg (hk:6<=k) {s L:Nat} (h:Pl s L) {M:Mem} {ta tk:T} (ia:IsS M ta ((aL (2 ^ s) L).map N)) (ik:IsS M tk ((kn (2 ^ s) L).map N)):Pk (glT gs) Tb.fns Cs k 12 [.tup [N s,ta,tk]] M=.ok ((.v .non,true),M):=by
 rw [qAe t12 ⟨rfl,by decide⟩ (by omega),b12,show Cs.getD 12 []=[] from rfl]
 simp [qNo (k:=k - 1) (by omega) h ia ik,qFl]
theorem qLQ:∀ (i:Nat) (L:List Nat),qCJ i (L.map N)=(List.range L.length).map fun j=>T.tup [N (i + j),N (L.getD j 0)]
 | i,[]=>rfl
 | i,x::L=>by
  rw [List.map_cons,qCJ,qLQ (i + 1) L,List.length_cons,List.range_succ_eq_map,List.map_cons,List.map_map]
  congr 1
  refine List.map_congr_left fun j _=>?_
  show T.tup [N (i + 1 + j),N (L.getD j 0)]=T.tup [N (i + (j + 1)),N ((x::L).getD (j + 1) 0)]
  rw [show i + 1 + j=i + (j + 1) by omega]
  simp
theorem qJJ {M:Mem} {d:qCc} (hd:qAd d M=true) {P:Nat -> List T -> Mem -> PR (TB×Mem)} {m:Nat} (f:Nat -> Nat):∀ (js ys:List Nat) (o0 o1:Option T),ys.length + js.length<=1000 ->
  qAg d (.tup [0,1]) (pec (glT gs) P (.cons (.cmp .gt (.var 1) (.var 2)) .nil)) (pe (glT gs) P (.var 0)) (js.map fun j=>T.tup [N j,N (f j)]) (ys.map N) true [o0,o1,some (N m)] M=.ok ((NL (ys++js.filter fun j=>decide (m < f j)),true),M)
 | [],ys,o0,o1,_=>by simp [qAg,NL]
 | j::js,ys,o0,o1,hl=>by
  simp at hl
  rw [List.map_cons,qAg,show qBE (.tup [0,1]) (.tup [N j,N (f j)]) [o0,o1,some (N m)]=some [some (N j),some (N (f j)),some (N m)] from rfl]
  dsimp only
  have c1:pec (glT gs) P (.cons (.cmp .gt (.var 1) (.var 2)) .nil) [some (N j),some (N (f j)),some (N m)] M=.ok (decide (m < f j),M):=by simp
  have c2:pe (glT gs) P (.var 0) [some (N j),some (N (f j)),some (N m)] M=.ok ((N j,true),M):=by simp
  rw [c1,PR.bind_ok]
  dsimp only
  by_cases h:m < f j
  ·rw [decide_eq_true h,if_pos rfl,c2,PR.bind_ok]
   dsimp only
   rw [if_pos ⟨by simp [lim];omega,hd⟩,show ys.map N++[N j]=(ys++[j]).map N by simp,Bool.and_true,qJJ hd f js (ys++[j]) _ _ (by simp;omega),List.filter_cons_of_pos (by simpa using h)]
   simp
  ·rw [decide_eq_false h,if_neg (by decide),if_pos hd,qJJ hd f js ys _ _ (by omega),List.filter_cons_of_neg (by simpa using h)]
theorem qM5 {M:Mem} {n:Nat} {xs:List T} {L:List Nat} (h:M[n]?=some xs) (hl:xs.length + L.length<=1000):qEG .ext n [NL L] M=some ((.v .non,true),M.set n (xs++L.map N)):=by
 show (M[n]?).bind (fun xs=>((NL L).mu M).bind fun ys=>if (NL L).isC n=false/\xs.length + ys.length<=lim then _ else _)=_
 rw [h,Option.bind_some]
 show (some (L.map N)).bind _=_
 rw [Option.bind_some,if_pos ⟨rfl,by rw [List.length_map];exact Nat.le_trans hl (by decide)⟩]
theorem qN3 {M:Mem} {s:Nat} {ta tk:T} {A:List Nat} (ia:IsS M ta (A.map N)) (hA:A.length<=32):∀ (ms:List Nat) (W:List Nat) (o:Option T),W.length + ms.length * 32<=900 -> ∃ o',qBP [] (.name 2) (pxs (glT gs) (Pk (glT gs) Tb.fns Cs k) [1] qIL) (ms.map N) [some (.tup [N s,ta,tk]),some (.cell M.length),o] (M++[W.map N])=.ok (.nx [some (.tup [N s,ta,tk]),some (.cell M.length),o'],M++[(W++ms.flatMap (spo A)).map N])
 | [],W,o,_=>⟨o,by simp [qBP]⟩
 | m::ms,W,o,hl=>by
  have ls:(spo A m).length<=32:=Nat.le_trans (List.length_filter_le _ _) (by simp;exact hA)
  simp at hl
  obtain ⟨o',e⟩:=qN3 ia hA (s:=s) (tk:=tk) ms (W++spo A m) (some (N m)) (by simp;omega)
  refine ⟨o',?_⟩
  obtain ⟨d,_,s1,s2⟩:=(ia.app (C:=[W.map N])).isL.src
  have en:=qLQ 0 A
  simp only [Nat.zero_add] at en
  have c:=qJJ (M:=M++[W.map N]) s2 (P:=Pk (glT gs) Tb.fns Cs k) (m:=m) (fun j=>A.getD j 0) (List.range A.length) [] none none (by simp;omega)
  rw [List.map_nil,List.nil_append,<- en] at c
  have c:qAg d (.tup [0,1]) (pec (glT gs) (Pk (glT gs) Tb.fns Cs k) (.cons (.cmp .gt (.var 1) (.var 2)) .nil)) (pe (glT gs) (Pk (glT gs) Tb.fns Cs k) (.var 0)) (qCJ 0 (A.map N)) [] true [none,none,some (N m)] (M++[W.map N])=.ok ((NL (spo A m),true),M++[W.map N]):=c
  have mt:qEG .ext M.length [NL (spo A m)] (M++[W.map N])=some ((.v .non,true),M++[(W++spo A m).map N]):=by
   rw [qM5 (xs:=W.map N) (by simp) (by simp;omega),List.set_append_right _ _ (by omega)]
   simp
  have nf:=ia.lf
  have st:∀ a b c z:Option T,[a,b,c].set 2 z=[a,b,z]:=fun _ _ _ _=>rfl
  have body:pxs (glT gs) (Pk (glT gs) Tb.fns Cs k) [1] qIL [some (.tup [N s,ta,tk]),some (.cell M.length),some (N m)] (M++[W.map N])=.ok (.nx [some (.tup [N s,ta,tk]),some (.cell M.length),some (N m)],M++[(W++spo A m).map N]):=by
   clear e en
   generalize NL (spo A m)=tq at *
   generalize A.map N=AN at *
   generalize M++[(W++spo A m).map N]=M2 at *
   generalize M++[W.map N]=M1 at *
   rw [qIL]
   simp [s1,c,-qDu,mt]
  rw [List.map_cons,qBk,st,body,PR.bind_ok,List.flatMap_cons,<- List.append_assoc]
  exact e
theorem qML (hk:1<=k) {M:Mem} (hW:WfM M) {s:Nat} {ta tk:T} {A:List Nat} (ia:IsS M ta (A.map N)) (hA:A.length<=32):Pk (glT gs) Tb.fns Cs k 13 [.tup [N s,ta,tk]] M=.ok ((NL (qCP A),true),M):=by
 rw [qAe t13 ⟨rfl,by decide⟩ (by omega),show Cs.getD 13 []=[1] from rfl]
 obtain ⟨o',e⟩:=qN3 (k:=k - 1) (s:=s) (tk:=tk) ia hA (List.range 6) [] none (by simp)
 have rg:=qC4 (n:=6) (by decide)
 have th:thaw M.length (.lst [])=(.cell M.length,[[]]):=rfl
 rw [List.nil_append,List.map_nil] at e
 have ex:pxs (glT gs) (Pk (glT gs) Tb.fns Cs (k - 1)) [1] b13 ([T.tup [N s,ta,tk]].map some++List.replicate (3 - 1) none) M=.ok (.rt (.cell M.length,false),M++[(qCP A).map N]):=by
  unfold qCP
  generalize (List.range 6).map N=its at *
  generalize ((List.range 6).flatMap (spo A)).map N=fm at *
  rw [b13]
  simp [th,rg,e,lim]
 rw [ex]
 exact qFv rfl hW (by simp) (by simp) (qIQ _) false
theorem qMO (hk:7<=k) {M:Mem} (hW:WfM M) {s L:Nat} (h:Pl s L) {ta tk:T} (ia:IsS M ta ((aL (2 ^ s) L).map N)) (ik:IsS M tk ((kn (2 ^ s) L).map N)) {w:List Nat} (hw:w.length=2 ^ s/\∀ v∈w,v < 2):∃ W f,W.length=L/\Pk (glT gs) Tb.fns Cs k 14 [.tup [N s,ta,tk],NL w] M=.ok ((NL W,f),M):=by
 refine ⟨(qCP (aL (2 ^ s) L)).map fun i=>w.getD i 0,true,by rw [List.length_map,h.sent],?_⟩
 have n5:=p5 h.s5
 have hL:=h.hL
 rw [qAe t14 ⟨rfl,by decide⟩ (by omega),b14,show Cs.getD 14 []=[] from rfl]
 have e12:=qOg (k:=k - 1) (by omega) h ia ik
 have e4:=f4 (k:=k - 1) (by omega) h.s5 M
 have e8:=qOi (k:=k - 1) (t:=NL w) (by omega) (.inl rfl) hw (by omega) (M:=M)
 have e13:=qML (k:=k - 1) (by omega) hW (s:=s) (tk:=tk) ia (by rw [h.len];omega)
 have sl:=h.sent
 have z:=qEx (gl:=glT gs) (P:=Pk (glT gs) Tb.fns Cs (k - 1)) (e:=pe (glT gs) (Pk (glT gs) Tb.fns Cs (k - 1)) (.idx (.var 1) (.var 0))) (M:=M) (σ:=[some (NL w)]) (o:=none) (its:=qCP (aL (2 ^ s) L)) (fun i=>w.getD i 0) (by rw [sl];unfold lim;omega) fun x hx=>by
  have:=(IsL.nl M w).idx (getD_some (show x < w.length by rw [hw.1,<- h.len];exact qKV hx))
  simp [this]
 have n1:=ia.lf
 have n2:=ik.lf
 have sN:qEh M (NL (qCP (aL (2 ^ s) L)))=some ((qCP (aL (2 ^ s) L)).map N,[]):=rfl
 generalize NL ((qCP (aL (2 ^ s) L)).map fun i=>w.getD i 0)=tw at *
 generalize NL (qCP (aL (2 ^ s) L))=ts at *
 generalize (qCP (aL (2 ^ s) L)).map N=sn at *
 simp [e12,e4,e8,e13,sN,z,qAU,-qBu]
theorem qNg {M:Mem} {a k:Nat} (hk:k<=1000):qAm M .mul (.lst [N a]) (N k)=some (NL (List.replicate k a),true):=by
 show (if 0<=(k:Int)/\[N a].length * (k:Int).toNat<=lim/\(k:Int) < 1000000 then some (lT (List.replicate (k:Int).toNat [N a]).flatten) else none)=_
 rw [if_pos ⟨by omega,by simp [lim];omega,by omega⟩,Int.toNat_natCast]
 have:(List.replicate k [N a]).flatten=(List.replicate k a).map N:=by
  induction k with
  | zero=>rfl
  | succ k ih=>rw [List.replicate_succ,List.flatten_cons,ih (by omega),List.replicate_succ,List.map_cons];rfl
 rw [this,qMY]
theorem qIu {a b:Nat} (ha:a<=1000) (hb:b<=1000):qDD (N a) (N b)=some ((List.range' a (b - a)).map N):=by
 show (if -1000000<=(a:Int)/\-1000000<=(b:Int)/\(a:Int)<=100000/\(b:Int)<=100000/\(b:Int) - (a:Int)<=100000 then some (qAZ (a:Int) ((b:Int) - (a:Int)).toNat) else none)=_
 rw [if_pos (by omega),show ((b:Int) - (a:Int)).toNat=b - a by omega]
 unfold qAZ
 rw [List.range'_eq_map_range,List.map_map]
 congr 1
theorem qNd {M:Mem} (A B:List Nat) (h:A.length + B.length<=1000):qAm M .add (NL A) (NL B)=some (NL (A++B),true):=by
 unfold NL
 rw [qLr (by simp [lim];omega),<- List.map_append]
 exact congrArg some (qMY _)
theorem qND (hk:4<=k) {s L:Nat} (h:Pl s L) (h1:1<=L) (M:Mem):Pk (glT gs) Tb.fns Cs k 15 [N s,N L] M=.ok ((.tup [N s,NL (aL (2 ^ s) L),NL (kn (2 ^ s) L)],true),M):=by
 rw [qAe t15 ⟨rfl,by decide⟩ (by omega),b15,show Cs.getD 15 []=[] from rfl]
 have n5:=p5 h.s5
 have hL:=h.hL
 have np:0 < 2 ^ s:=Nat.pow_pos (by decide)
 have e6:=f6 (k:=k - 1) (by omega) h.s1 h.s5 M
 have e4:=f4 (k:=k - 1) (by omega) h.s5 M
 have e0:=f0N (k:=k - 1) (by omega) L M
 have m6:∀ {M:Mem},qAm M .mul (N 6) (N (2 ^ s))=some (N (6 * 2 ^ s),true):=fun {M}=>qDF (.inl (by decide))
 have fd:∀ {M:Mem},qAm M .fdiv (N L) (N (2 ^ s))=some (N (L / 2 ^ s),true):=fun {M}=>qDf (by omega)
 have md:∀ {M:Mem},qAm M .mod (N L) (N (2 ^ s))=some (N (L % 2 ^ s),true):=fun {M}=>qCW np
 have lm:=Nat.mod_lt L np
 have sb:∀ {M:Mem},qAm M .sub (N (2 ^ s)) (N (L % 2 ^ s))=some (N (2 ^ s - L % 2 ^ s),true):=fun {M}=>qGt (by omega)
 have a1:∀ {M:Mem},qAm M .mul (.lst [N (L / 2 ^ s + 1)]) (N (L % 2 ^ s))=some (NL (List.replicate (L % 2 ^ s) (L / 2 ^ s + 1)),true):=fun {M}=>qNg (by omega)
 have a2:∀ {M:Mem},qAm M .mul (.lst [N (L / 2 ^ s)]) (N (2 ^ s - L % 2 ^ s))=some (NL (List.replicate (2 ^ s - L % 2 ^ s) (L / 2 ^ s)),true):=fun {M}=>qNg (by omega)
 have a3:∀ {M:Mem},qAm M .add (NL (List.replicate (L % 2 ^ s) (L / 2 ^ s + 1))) (NL (List.replicate (2 ^ s - L % 2 ^ s) (L / 2 ^ s)))=some (NL (aL (2 ^ s) L),true):=fun {M}=>qNd _ _ (by simp;omega)
 have lr:qDD (N L) (N (2 ^ s))=some ((kn (2 ^ s) L).map N):=qIu (by omega) (by omega)
 have nk:T.lst ((kn (2 ^ s) L).map N)=NL (kn (2 ^ s) L):=rfl
 generalize NL (List.replicate (L % 2 ^ s) (L / 2 ^ s + 1))=t1 at *
 generalize NL (List.replicate (2 ^ s - L % 2 ^ s) (L / 2 ^ s))=t2 at *
 generalize NL (aL (2 ^ s) L)=t3 at *
 simp [e6,e4,e0,h1,m6,hL,fd,md,lim,a1,sb,a2,a3,lr,nk,qAU]
end
end My
namespace My
open PySem PySem.Spec PI
open L2 (V)
section
variable {k:Nat}
theorem qNT {s:Nat} (h1:1<=s) (h5:s<=5) {M:Mem} {a1:Option T}:∀ (m i:Nat) (o:Option T),i + m<=6 * 2 ^ s -> ∃ o',qBP [] (.name 4) (pxs (glT gs) (Pk (glT gs) Tb.fns Cs k) [3] qH9) ((List.range' i m).map N) [some (N s),a1,some (N (2 ^ s)),some (.cell M.length),o] (M++[(aL (2 ^ s) i).map N])=.ok (.nx [some (N s),a1,some (N (2 ^ s)),some (.cell M.length),o'],M++[(aL (2 ^ s) (i + m)).map N])
 | 0,i,o,_=>⟨o,rfl⟩
 | m + 1,i,o,h=>by
  obtain ⟨o',e⟩:=qNT h1 h5 (M:=M) (a1:=a1) m (i + 1) (some (N i)) (by omega)
  refine ⟨o',?_⟩
  have pl:Pl s i:=⟨h1,h5,by omega⟩
  have np:0 < 2 ^ s:=Nat.pow_pos (by decide)
  have lm:=Nat.mod_lt i np
  have g0:(M++[(aL (2 ^ s) i).map N])[M.length]?=some ((aL (2 ^ s) i).map N):=by simp
  have ix:=(IsL.cell g0).idx (getD_some (show i % 2 ^ s < (aL (2 ^ s) i).length by rw [pl.len];exact lm))
  have md:∀ {M:Mem},qAm M .mod (N i) (N (2 ^ s))=some (N (i % 2 ^ s),true):=fun {M}=>qCW np
  have sb:∀ {M:Mem},qAm M .sub (N 1) (N 0)=some (N 1,true):=fun {M}=>qGt (by omega)
  have pt:qLH (M++[(aL (2 ^ s) i).map N]) (.cell M.length) (N (i % 2 ^ s)) (N ((aL (2 ^ s) i).getD (i % 2 ^ s) 0 + 1))=some (M++[(aL (2 ^ s) (i + 1)).map N]):=by
   rw [qKj g0 (by rw [List.length_map,pl.len];exact lm),List.set_append_right _ _ (by omega),Nat.sub_self,List.set_cons_zero,<- List.map_set,pl.step (by omega)]
  have st:∀ a b c d e z:Option T,[a,b,c,d,e].set 4 z=[a,b,c,d,z]:=fun _ _ _ _ _ _=>rfl
  have body:pxs (glT gs) (Pk (glT gs) Tb.fns Cs k) [3] qH9 [some (N s),a1,some (N (2 ^ s)),some (.cell M.length),some (N i)] (M++[(aL (2 ^ s) i).map N])=.ok (.nx [some (N s),a1,some (N (2 ^ s)),some (.cell M.length),some (N i)],M++[(aL (2 ^ s) (i + 1)).map N]):=by
   clear e g0
   generalize M++[(aL (2 ^ s) (i + 1)).map N]=M2 at *
   generalize M++[(aL (2 ^ s) i).map N]=M1 at *
   generalize (aL (2 ^ s) i).getD (i % 2 ^ s) 0=v at *
   generalize i % 2 ^ s=j at *
   rw [qH9]
   simp [md,ix,-qMW,sb,pt,-qMb]
  rw [List.range'_succ,List.map_cons,qBk,st,body,PR.bind_ok,show i + (m + 1)=i + 1 + m by omega]
  exact e
theorem qJy {M:Mem} (hW:WfM M) {s:Nat} {P U:List Nat} (f:Bool):∃ f',qEd M.length (.ok (.rt (.tup [N s,.cell M.length,NL U],f),M++[P.map N]))=.ok ((.tup [N s,NL P,NL U],f'),M):=by
 show ∃ f',PI.finish M.length _ _=_
 unfold PI.finish
 rw [if_neg (by simp),List.take_left' rfl,if_pos (show M.all (T.unds M.length)=true from hW)]
 have r:qAP (M++[P.map N]) M.length 6 (.tup [N s,.cell M.length,NL U])=some (.tup [N s,NL P,NL U]):=by
  have r1:qAP (M++[P.map N]) M.length 5 (N s)=some (N s):=by unfold qAP;rw [if_pos (qJU _ _)]
  have r2:qAP (M++[P.map N]) M.length 5 (.cell M.length)=some (NL P):=by
   unfold qAP
   rw [if_neg (by unfold T.und;simp)]
   dsimp only
   rw [show (M++[P.map N])[M.length]?=some (P.map N) by simp,Option.bind_some,qDL];rfl
  have r3:qAP (M++[P.map N]) M.length 5 (NL U)=some (NL U):=by unfold qAP;rw [if_pos (by unfold NL T.und;exact qFH _ U)]
  unfold qAP
  rw [if_neg (by unfold T.und T.unds T.unds;simp [T.und])]
  dsimp only
  rw [List.mapM_cons,List.mapM_cons,List.mapM_cons,List.mapM_nil,r1,r2,r3];rfl
 dsimp only
 rw [r,PR.ofO_some,PR.bind_ok]
 exact ⟨_,rfl⟩
theorem due (hk:1<=k) {s L:Nat} (h:Pl s L) {M:Mem} (hW:WfM M):∃ f,Pk (glT gs) Tb.fns Cs k 19 [N s,N L] M=.ok ((.tup [N s,NL (aL (2 ^ s) L),NL (kn (2 ^ s) L)],f),M):=by
 rw [qAe t19 ⟨rfl,by decide⟩ (by omega),show Cs.getD 19 []=[3] from rfl]
 have s5:=h.s5
 have n5:=p5 h.s5
 have hL:=h.hL
 obtain ⟨o',e⟩:=qNT (k:=k - 1) h.s1 h.s5 (M:=M) (a1:=some (N L)) L 0 none (by omega)
 rw [Nat.zero_add,<- List.range_eq_range'] at e
 have sh:∀ {M:Mem},qAm M .shl (N 1) (N s)=some (N (2 ^ s),true):=fun {M}=>by rw [qIc (by omega),Nat.one_mul]
 have rg:=qC4 (n:=2 ^ s) (by omega)
 have rgL:=qC4 (n:=L) (by omega)
 have z:=qEx (gl:=glT gs) (P:=Pk (glT gs) Tb.fns Cs (k - 1)) (e:=pe (glT gs) (Pk (glT gs) Tb.fns Cs (k - 1)) (nE 0)) (M:=M) (σ:=[]) (o:=none) (its:=List.range (2 ^ s)) (fun _=>0) (by simp [lim];omega) fun x _=>by simp
 have a0:(List.range (2 ^ s)).map (fun _=>0)=aL (2 ^ s) 0:=by
  have:aL (2 ^ s) 0=List.replicate (2 ^ s) 0:=by simp [aL]
  rw [this,List.map_const',List.length_range]
 rw [a0] at z
 have th:=qEj M.length (aL (2 ^ s) 0)
 have lr:qDD (N L) (N (2 ^ s))=some ((kn (2 ^ s) L).map N):=qIu (by omega) (by omega)
 obtain ⟨f',lv⟩:=qJy hW (s:=s) (P:=aL (2 ^ s) L) (U:=kn (2 ^ s) L) false
 refine ⟨f',?_⟩
 have nk:T.lst ((kn (2 ^ s) L).map N)=NL (kn (2 ^ s) L):=rfl
 have ex:pxs (glT gs) (Pk (glT gs) Tb.fns Cs (k - 1)) [3] b19 ([N s,N L].map some++List.replicate (5 - 2) none) M=.ok (.rt (.tup [N s,.cell M.length,NL (kn (2 ^ s) L)],false),M++[(aL (2 ^ s) L).map N]):=by
  clear lv a0
  generalize (List.range L).map N=its at *
  generalize (List.range (2 ^ s)).map N=rn at *
  generalize (aL (2 ^ s) L).map N=fin at *
  generalize NL (aL (2 ^ s) 0)=z0 at *
  generalize (aL (2 ^ s) 0).map N=z1 at *
  rw [b19]
  simp [sh,rg,z,-qBu,th,rgL,e,lr,nk,lim]
 rw [ex]
 exact lv
theorem qOm (hk:1<=k) (x:Nat) (M:Mem):Pk (glT gs) Tb.fns Cs k 18 [N x] M=.ok (bT true,M):=by
 rw [qAe t18 ⟨rfl,by decide⟩ hk]
 simp [b18,qBw,qAU]
theorem qL1 (n s:Nat) (P U:List Nat):thaw n (.tup [N s,NL P,NL U])=(.tup [N s,.cell n,.cell (n + 1)],[P.map N,U.map N]):=by
 have a:thaw n (N s)=(N s,[]):=by unfold N;simp [thaw]
 have b:=qEj n P
 have c:=qEj (n + 1) U
 rw [thaw,qB5,a]
 dsimp only
 rw [List.length_nil,Nat.add_zero,qB5,b]
 dsimp only
 rw [qB5,List.length_singleton,c]
 rfl
theorem wf2 {M:Mem} (h:WfM M) (A B:List Nat):WfM (M++[A.map N,B.map N]):=h.app fun c hc=>by
 simp only [List.mem_cons,List.not_mem_nil,or_false] at hc
 rcases hc with rfl | rfl<;>exact qFH _ _
theorem qMv {M:Mem} {t u:T} {xs ys:List T} (h:IsS M t xs) (k:IsS M u ys) (hl:xs.length + ys.length<=1000):qAm M .add t u=some (lT (xs++ys)):=by
 have m1:t.mu M=some xs:=by rcases h with rfl | ⟨m,rfl,e⟩;rfl;exact e
 have m2:u.mu M=some ys:=by rcases k with rfl | ⟨m,rfl,e⟩;rfl;exact e
 have go:(t.mu M).bind (fun xs=>(u.mu M).bind fun ys=>if xs.length + ys.length<=lim then some (lT (xs++ys)) else none)=some (lT (xs++ys)):=by
  rw [m1,m2,Option.bind_some,Option.bind_some,if_pos (Nat.le_trans hl (by decide))]
 rcases h with rfl | ⟨m,rfl,e⟩<;>rcases k with rfl | ⟨m',rfl,e'⟩<;>exact go
theorem qMM (hk:8<=k) {s L:Nat} (h:Pl s L) (h1:1<=L) {M:Mem} (hW:WfM M) {o0 o1 o2 o6 o7:Option T}:∃ p7 M',pxs (glT gs) (Pk (glT gs) Tb.fns Cs k) [2,7] qHc [o0,o1,o2,some (N s),some (N (2 ^ s)),some (N L),o6,o7] M=.ok (.nx [o0,o1,o2,some (N s),some (N (2 ^ s)),some (N L),o6,p7],M')/\WfM M':=by
 have n5:=p5 h.s5
 have hL:=h.hL
 have lA:=h.len
 have e15:=qND (k:=k) (by omega) h h1 M
 have th:=qL1 M.length s (aL (2 ^ s) L) (kn (2 ^ s) L)
 have W1:=wf2 hW (aL (2 ^ s) L) (kn (2 ^ s) L)
 have g0:(M++[(aL (2 ^ s) L).map N,(kn (2 ^ s) L).map N])[M.length]?=some ((aL (2 ^ s) L).map N):=by simp
 have g1:(M++[(aL (2 ^ s) L).map N,(kn (2 ^ s) L).map N])[M.length + 1]?=some ((kn (2 ^ s) L).map N):=by rw [List.getElem?_append_right (by omega)];simp
 have ia:IsS (M++[(aL (2 ^ s) L).map N,(kn (2 ^ s) L).map N]) (.cell M.length) ((aL (2 ^ s) L).map N):=.inr ⟨_,rfl,g0⟩
 have ik:IsS (M++[(aL (2 ^ s) L).map N,(kn (2 ^ s) L).map N]) (.cell (M.length + 1)) ((kn (2 ^ s) L).map N):=.inr ⟨_,rfl,g1⟩
 have kl:(kn (2 ^ s) L).length<=100:=by simp [kn];omega
 obtain ⟨fd,e19⟩:=due (k:=k) (by omega) h W1
 have e10:=qNo (k:=k) (by omega) h ia ik
 have ne:qBF (M++[(aL (2 ^ s) L).map N,(kn (2 ^ s) L).map N]) .ne (.tup [N s,.cell M.length,.cell (M.length + 1)]) (.tup [N s,NL (aL (2 ^ s) L),NL (kn (2 ^ s) L)])=some false:=by
  have q1:=eqI (d:=2) ia.isL (IsL.nl (M++[(aL (2 ^ s) L).map N,(kn (2 ^ s) L).map N]) (aL (2 ^ s) L))
  have q2:=eqI (d:=2) ik.isL (IsL.nl (M++[(aL (2 ^ s) L).map N,(kn (2 ^ s) L).map N]) (kn (2 ^ s) L))
  rw [decide_eq_true rfl] at q1 q2
  have q0:eqT (M++[(aL (2 ^ s) L).map N,(kn (2 ^ s) L).map N]) 3 (N s) (N s)=some true:=by
   unfold eqT N
   show some ((s:Int)==(s:Int))=_
   simp
  have all:qA5 (eqT (M++[(aL (2 ^ s) L).map N,(kn (2 ^ s) L).map N]) 3) [N s,.cell M.length,.cell (M.length + 1)] [N s,NL (aL (2 ^ s) L),NL (kn (2 ^ s) L)]=some [true,true,true]:=by
   simp only [qA5]
   rw [q0,q1,q2]
  show (eqT _ 4 _ _).map (!·)=_
  rw [eqT]
  show ((if [N s,T.cell M.length,T.cell (M.length + 1)].length=[N s,NL (aL (2 ^ s) L),NL (kn (2 ^ s) L)].length then (qA5 (eqT (M++[(aL (2 ^ s) L).map N,(kn (2 ^ s) L).map N]) 3) [N s,.cell M.length,.cell (M.length + 1)] [N s,NL (aL (2 ^ s) L),NL (kn (2 ^ s) L)]).map fun bs=>bs.all id else _):Option Bool).map (!·)=_
  rw [if_pos (show [N s,T.cell M.length,T.cell (M.length + 1)].length=[N s,NL (aL (2 ^ s) L),NL (kn (2 ^ s) L)].length from rfl),all];rfl
 have ad1:=qMv ia ik (by simp;omega)
 rw [<- List.map_append,qMY] at ad1
 have ad2:∀ {M:Mem},qAm M .add (NL (aL (2 ^ s) L++kn (2 ^ s) L)) (.lst [N s])=some (NL (aL (2 ^ s) L++kn (2 ^ s) L++[s]),true):=fun {M}=>qNd (M:=M) _ [s] (by simp;omega)
 have c:=qEy (c:=pec (glT gs) (Pk (glT gs) Tb.fns Cs k) (.cons (.not (.call 18 (.cons (.var 0) .nil))) .nil)) (e:=pe (glT gs) (Pk (glT gs) Tb.fns Cs k) (.var 0)) (M:=M++[(aL (2 ^ s) L).map N,(kn (2 ^ s) L).map N]) (σ:=[]) (o:=none) (its:=aL (2 ^ s) L++kn (2 ^ s) L++[s]) (fun _=>false) (fun x=>x) (by simp [lim];omega) (fun x _=>by simp [qOm (k:=k) (by omega)]) (fun x _ h=>by cases h)
 rw [List.filter_eq_nil_iff.mpr (by simp),List.map_nil] at c
 have q0:∀ {M:Mem},qBF M .ne (NL []) (.lst [])=some false:=fun {M}=>by rw [show T.lst []=NL [] from rfl,(IsL.nl M []).cne (IsL.nl M [])];simp
 have rg:=qC4 (n:=2 ^ s) (by omega)
 have z:=qEx (gl:=glT gs) (P:=Pk (glT gs) Tb.fns Cs k) (e:=pe (glT gs) (Pk (glT gs) Tb.fns Cs k) (.bin .mod (.var 0) (nE 2))) (M:=M++[(aL (2 ^ s) L).map N,(kn (2 ^ s) L).map N]) (σ:=[]) (o:=none) (its:=List.range (2 ^ s)) (fun x=>x % 2) (by simp [lim];omega) fun x _=>by
  have md:∀ {M:Mem},qAm M .mod (N x) (N 2)=some (N (x % 2),true):=fun {M}=>qCW (by decide)
  simp [md]
 obtain ⟨W,fw,lW,e14⟩:=qMO (k:=k) (by omega) W1 h ia ik (w:=(List.range (2 ^ s)).map fun x=>x % 2) ⟨by simp,fun v hv=>by obtain ⟨x,_,rfl⟩:=List.mem_map.mp hv;omega⟩
 have lN:∀ {M:Mem},qCG M .len [NL W]=some (N L,true):=fun {M}=>by rw [(IsL.nl M W).len,lW]
 have cl:qEG .clr M.length [] (M++[(aL (2 ^ s) L).map N,(kn (2 ^ s) L).map N])=some ((.v .non,true),M++[[],(kn (2 ^ s) L).map N]):=by
  show ((M++[(aL (2 ^ s) L).map N,(kn (2 ^ s) L).map N])[M.length]?).map _=_
  rw [g0,Option.map_some,List.set_append_right _ _ (by omega)]
  simp
 have g2:(M++[[],(kn (2 ^ s) L).map N])[M.length + 1]?=some ((kn (2 ^ s) L).map N):=by rw [List.getElem?_append_right (by omega)];simp
 have ap:qLh (M++[[],(kn (2 ^ s) L).map N]) (M.length + 1) (N 0)=some (M++[[],(kn (2 ^ s) L++[0]).map N]):=by
  rw [qMX g2 (by simp [lim];omega),List.set_append_right _ _ (by omega)];simp
 refine ⟨some (.tup [N s,.cell M.length,.cell (M.length + 1)]),M++[[],(kn (2 ^ s) L++[0]).map N],?_,wf2 hW [] _⟩
 have isn:∀ {M:Mem},qBF M .isnot (.v (.bl true)) (.v (.bl true))=some false:=fun {M}=>rfl
 have sN:∀ {M:Mem},qEh M (NL (aL (2 ^ s) L++kn (2 ^ s) L++[s]))=some ((aL (2 ^ s) L++kn (2 ^ s) L++[s]).map N,[]):=fun {M}=>rfl
 clear g0 g1 g2 ia ik W1
 generalize hM3:M++[[],(kn (2 ^ s) L++[0]).map N]=M3 at *
 generalize (aL (2 ^ s) L++kn (2 ^ s) L++[s]).map N=i1 at *
 generalize NL (aL (2 ^ s) L++kn (2 ^ s) L++[s])=t1 at *
 generalize NL (aL (2 ^ s) L++kn (2 ^ s) L)=t2 at *
 generalize NL (aL (2 ^ s) L)=t3 at *
 generalize NL (kn (2 ^ s) L)=t4 at *
 generalize (aL (2 ^ s) L).map N=l3 at *
 generalize (kn (2 ^ s) L).map N=l4 at *
 generalize NL ((List.range (2 ^ s)).map fun x=>x % 2)=t5 at *
 generalize (List.range (2 ^ s)).map N=i2 at *
 generalize hM1:M++[l3,l4]=M1 at *
 generalize hM2:M++[[],l4]=M2 at *
 generalize NL W=tW at *
 rw [qHc]
 simp [e15,th,hM1,qBw,e19,ne,e10,isn,ad1,ad2,lim,sN,c,-qDu,-qBu,q0,rg,z,e14,lN,cl,ap,bT]
theorem qN8 (hk:8<=k) {s L:Nat} (h:Pl s L) (h1:1<=L) {o0 o1 o2:Option T}:∀ (its:List Nat) (M:Mem) (o6 o7:Option T),WfM M -> ∃ p6 p7 M',qBP [] (.name 6) (pxs (glT gs) (Pk (glT gs) Tb.fns Cs k) [2,7] qHc) (its.map N) [o0,o1,o2,some (N s),some (N (2 ^ s)),some (N L),o6,o7] M=.ok (.nx [o0,o1,o2,some (N s),some (N (2 ^ s)),some (N L),p6,p7],M')/\WfM M'
 | [],M,o6,o7,hW=>⟨o6,o7,M,rfl,hW⟩
 | i::its,M,o6,o7,hW=>by
  obtain ⟨p7,M1,e1,W1⟩:=qMM hk h h1 hW (o0:=o0) (o1:=o1) (o2:=o2) (o6:=some (N i)) (o7:=o7)
  obtain ⟨q6,q7,M2,e2,W2⟩:=qN8 hk h h1 (o0:=o0) (o1:=o1) (o2:=o2) its M1 (some (N i)) p7 W1
  refine ⟨q6,q7,M2,?_,W2⟩
  rw [List.map_cons,qBk,show ∀ a b c d e f g h z:Option T,[a,b,c,d,e,f,g,h].set 6 z=[a,b,c,d,e,f,z,h] from fun _ _ _ _ _ _ _ _ _=>rfl,e1,PR.bind_ok]
  exact e2
theorem qHS (hk:10<=k) (ns:List Int) {i:Nat} (hi:i<=62) {M:Mem} (hM:WfM M) {o2 o3 o4 o5 o6 o7:Option T}:∃ p2 p3 p4 p5 p6 p7 M',pxs (glT gs) (Pk (glT gs) Tb.fns Cs k) [2,7] qHy [some (.fz (ns.map fun n=>.v (.int n))),some (N i),o2,o3,o4,o5,o6,o7] M=.ok (.nx [some (.fz (ns.map fun n=>.v (.int n))),some (N i),p2,p3,p4,p5,p6,p7],M')/\WfM M':=by
 obtain ⟨g0,s0,e1,hb0⟩:=bag (k:=k) (by omega) ns (kk:=i) (by omega) M
 have gd:qMt (M++[stT g0 s0]) M.length:=⟨g0,s0,by simp,hb0⟩
 have hM0:WfM (M++[stT g0 s0]):=hM.one (qIQ [g0,s0])
 obtain ⟨d,M1,e2,hd,k1⟩:=out (k:=k) (by omega) gd (m:=5) (by decide)
 obtain ⟨s,hs⟩:∃ s,s=1 + d:=⟨_,rfl⟩
 have s1:1<=s:=by omega
 have s5:s<=5:=by omega
 have n5:=p5 s5
 have n2:2<=2 ^ s:=Nat.le_trans (by decide:2<=2 ^ 1) (Nat.pow_le_pow_right (by decide) s1)
 obtain ⟨a,M2,e3,ha,k2⟩:=out (k:=k) (by omega) k1.good (m:=6 * 2 ^ s) (by omega)
 obtain ⟨b,M3,e4,hb,k3⟩:=out (k:=k) (by omega) k2.good (m:=2 ^ s) (by omega)
 obtain ⟨c,M4,e5,hc,k4⟩:=out (k:=k) (by omega) k3.good (m:=6) (by decide)
 have W4:=qJc hM0 (((k1.trans k2).trans k3).trans k4)
 obtain ⟨L,hL,L1,L6⟩:∃ L,[N (1 + a),N (1 + b),N (2 ^ s),N (2 ^ s + 1),N (6 * 2 ^ s),N (2 * 2 ^ s - 1)][c]?=some (N L)/\1<=L/\L<=6 * 2 ^ s:=by
  rcases (by omega:c=0\/c=1\/c=2\/c=3\/c=4\/c=5) with rfl | rfl | rfl | rfl | rfl | rfl
  ·exact ⟨_,rfl,by omega,by omega⟩
  ·exact ⟨_,rfl,by omega,by omega⟩
  ·exact ⟨_,rfl,by omega,by omega⟩
  ·exact ⟨_,rfl,by omega,by omega⟩
  ·exact ⟨_,rfl,by omega,by omega⟩
  ·exact ⟨_,rfl,by omega,by omega⟩
 obtain ⟨p6,p7,M5,e6,W5⟩:=qN8 (k:=k) (by omega) ⟨s1,s5,L6⟩ L1 (o0:=some (.fz (ns.map fun n=>.v (.int n)))) (o1:=some (N i)) (o2:=some (.cell M.length)) (List.range 2) M4 o6 o7 W4
 refine ⟨some (.cell M.length),some (N s),some (N (2 ^ s)),some (N L),p6,p7,M5,?_,W5⟩
 have th0:thaw M.length (.lst (stT g0 s0))=(.cell M.length,[stT g0 s0]):=rfl
 have ad1:∀ {M:Mem},qAm M .add (N 1) (N d)=some (N s,true):=fun {M}=>by rw [hs];exact qLg _ _
 have sh:∀ {M:Mem},qAm M .shl (N 1) (N s)=some (N (2 ^ s),true):=fun {M}=>by rw [qIc (by omega),Nat.one_mul]
 have m6:∀ {M:Mem},qAm M .mul (N 6) (N (2 ^ s))=some (N (6 * 2 ^ s),true):=fun {M}=>qDF (.inl (by decide))
 have m2:∀ {M:Mem},qAm M .mul (N 2) (N (2 ^ s))=some (N (2 * 2 ^ s),true):=fun {M}=>qDF (.inl (by decide))
 have sb:∀ {M:Mem},qAm M .sub (N (2 * 2 ^ s)) (N 1)=some (N (2 * 2 ^ s - 1),true):=fun {M}=>qGt (by omega)
 have rg:=qC4 (n:=2) (by decide)
 generalize (List.range 2).map N=its at *
 rw [qHy]
 simp [e1,th0,e2,ad1,sh,m6,e3,e4,m2,sb,e5,hL,lim,rg,e6]
theorem qNk (hk:10<=k) (ns:List Int):∀ (m i:Nat) (M:Mem) (o1 o2 o3 o4 o5 o6 o7:Option T),i + m<=63 -> WfM M -> ∃ σ' M',qBP [] (.name 1) (pxs (glT gs) (Pk (glT gs) Tb.fns Cs k) [2,7] qHy) ((List.range' i m).map N) [some (.fz (ns.map fun n=>.v (.int n))),o1,o2,o3,o4,o5,o6,o7] M=.ok (.nx σ',M')
 | 0,i,M,o1,o2,o3,o4,o5,o6,o7,h,_=>⟨_,M,rfl⟩
 | m + 1,i,M,o1,o2,o3,o4,o5,o6,o7,h,hF=>by
  obtain ⟨p2,p3,p4,p5,p6,p7,M1,e,F1⟩:=qHS hk ns (i:=i) (by omega) hF (o2:=o2) (o3:=o3) (o4:=o4) (o5:=o5) (o6:=o6) (o7:=o7)
  obtain ⟨σ',M',e'⟩:=qNk hk ns m (i + 1) M1 (some (N i)) p2 p3 p4 p5 p6 p7 (by omega) F1
  refine ⟨σ',M',?_⟩
  rw [List.range'_succ,List.map_cons,qBk,show ∀ a b c d e f g h z:Option T,[a,b,c,d,e,f,g,h].set 1 z=[a,z,c,d,e,f,g,h] from fun _ _ _ _ _ _ _ _ _=>rfl,e,PR.bind_ok]
  exact e'
end
theorem main:∀ ns:List Int,ns.length<=63 -> ∃ h',Fk Tb.fns 30 20 [.ref gs.length] (qD5 gs ns)=.ok (.bl true,h'):=by
 intro ns hn
 obtain ⟨σ',M',e⟩:=qNk (k:=29) (by omega) ns (max 1 (min ns.length 60)) 0 [] none none none none none none none (by omega) rfl
 rw [<- List.range_eq_range'] at e
 have key:∃ b M2,Pk (glT gs) Tb.fns Cs 30 20 [.fz (ns.map fun n=>.v (.int n))] []=.ok ((.v (.bl true),b),M2):=by
  rw [qAe t20 ⟨rfl,by decide⟩ (by omega),show Cs.getD 20 []=[2,7] from rfl]
  clear hn
  have ex:pxs (glT gs) (Pk (glT gs) Tb.fns Cs (30 - 1)) [2,7] b20 ([T.fz (ns.map fun n=>.v (.int n))].map some++List.replicate (8 - 1) none) []=.ok (.rt (bT true),M'):=by
   rw [b20]
   simp (disch:=omega) [qC4,e]
  rw [ex]
  exact qGp _ _ _
 obtain ⟨b,M2,e2⟩:=key
 exact qK3 rfl e2
end My
namespace PySem.W.Fast
theorem tw14612490243925364124:True:=trivial
theorem tw14357133153964991790:True:=trivial
theorem tw10239202381233234561:True:=trivial
theorem tw7438789891120930107:True:=trivial
theorem tw5577525767234920235:True:=trivial
theorem tw9487280248214311430:True:=trivial
theorem tw821936778291670848:True:=trivial
theorem tw810099544209747187:True:=trivial
theorem tw11290899819314566867:True:=trivial
theorem tw10438130295572618356:True:=trivial
theorem tw7960929279964475408:True:=trivial
theorem tw372681327439079761:True:=trivial
theorem tw4553676010071157310:True:=trivial
theorem tw4085581847818648174:True:=trivial
theorem tw2879864133786858085:True:=trivial
theorem tw8397602705649982024:True:=trivial
theorem tw9993460891997600488:True:=trivial
theorem tw3975420560485321971:True:=trivial
theorem tw2004296868382890515:True:=trivial
theorem tw11079795445441963187:True:=trivial
theorem tw10555533824127370834:True:=trivial
theorem tw2756808412097646573:True:=trivial
theorem tw7515868254133991759:True:=trivial
theorem tw17949940791795337339:True:=trivial
theorem tw5790543625991108720:True:=trivial
theorem tw18104027141980720225:True:=trivial
theorem tw16225723175748682784:True:=trivial
theorem tw7147212820288162799:True:=trivial
theorem tw11243049125638621951:True:=trivial
theorem tw1401801964173619510:True:=trivial
theorem tw17178428441011283704:True:=trivial
theorem tw14375911431594941868:True:=trivial
theorem tw10466569145112040359:True:=trivial
theorem tw2339844975538880577:True:=trivial
theorem tw5781837548126646133:True:=trivial
theorem tw96222288406782672:True:=trivial
theorem tw9146909358436583137:True:=trivial
theorem tw9180686475899960381:True:=trivial
theorem tw1321517830824362376:True:=trivial
theorem tw4003681562320366821:True:=trivial
theorem tw14408274988725962510:True:=trivial
theorem tw10473319736421472861:True:=trivial
theorem tw10499562413756720759:True:=trivial
theorem tw15874048177866500483:True:=trivial
theorem tw17902666248176810069:True:=trivial
theorem tw1631326353052584203:True:=trivial
theorem tw12196628124986344671:True:=trivial
theorem tw7673256900974664057:True:=trivial
theorem tw16438339752813810251:True:=trivial
theorem tw16533330293726987222:True:=trivial
theorem tw883362814984830266:True:=trivial
theorem tw176686302150472896:True:=trivial
theorem tw563055934350397771:True:=trivial
theorem tw418518401365064504:True:=trivial
theorem tw13076243952219886170:True:=trivial
theorem tw18224167518662429258:True:=trivial
theorem tw1363763037054319670:True:=trivial
theorem tw1303735007481817923:True:=trivial
theorem tw15631696884692389232:True:=trivial
theorem tw12761054256515034017:True:=trivial
theorem tw5438995424032473628:True:=trivial
theorem tw5554310724456499639:True:=trivial
theorem tw12958580351231171878:True:=trivial
theorem tw6922361325124844734:True:=trivial
theorem tw14583106666322024812:True:=trivial
theorem tw9542103203315138795:True:=trivial
theorem tw10135029004755896507:True:=trivial
theorem tw1581663093300339821:True:=trivial
theorem tw5262264208112177795:True:=trivial
theorem tw16104966967156887519:True:=trivial
theorem tw1396454493993902419:True:=trivial
theorem tw16686919377051711222:True:=trivial
theorem tw6145822573111344224:True:=trivial
theorem tw16580568976411305109:True:=trivial
theorem tw16087386110137645836:True:=trivial
theorem tw15999083995130949916:True:=trivial
theorem tw11192382058553018465:True:=trivial
theorem tw2083473098180843845:True:=trivial
theorem tw5028099492730690176:True:=trivial
theorem tw16620738333082517157:True:=trivial
theorem tw17626774625367241299:True:=trivial
theorem tw17054893676038231708:True:=trivial
theorem tw630382294123929440:True:=trivial
theorem tw16654273592780499848:True:=trivial
theorem tw11892282998291403827:True:=trivial
theorem tw9638781146747822086:True:=trivial
theorem tw10448248138878915701:True:=trivial
theorem tw3583349563911548219:True:=trivial
theorem tw16027105121556624655:True:=trivial
theorem tw654664120723015980:True:=trivial
theorem tw13038700304662072732:True:=trivial
theorem tw7616909399478713914:True:=trivial
theorem tw9444220160298114233:True:=trivial
theorem tw2108830724705156917:True:=trivial
theorem tw349770538774792226:True:=trivial
theorem tw5347870889842599300:True:=trivial
theorem tw9427306235854395630:True:=trivial
theorem tw14145242426316162750:True:=trivial
theorem tw15328621780970869301:True:=trivial
theorem tw7984709475800575935:True:=trivial
theorem tw13854956304163192543:True:=trivial
theorem tw8624069380740071460:True:=trivial
theorem tw690083808881822399:True:=trivial
theorem tw14504777921474984:True:=trivial
theorem tw7284652800378383483:True:=trivial
theorem tw15360600667801473179:True:=trivial
theorem tw1776425319975692188:True:=trivial
theorem tw11053059984045828092:True:=trivial
theorem tw1392510304630525941:True:=trivial
theorem tw12592650483278894578:True:=trivial
theorem tw5786711392772978547:True:=trivial
theorem tw307682833238284145:True:=trivial
theorem tw2776285681544176523:True:=trivial
theorem tw6762072804449085007:True:=trivial
theorem tw7618299306759028438:True:=trivial
theorem tw1217192706606175949:True:=trivial
theorem tw14630906182264969134:True:=trivial
theorem tw9670496937202185761:True:=trivial
theorem tw13796781971422534635:True:=trivial
theorem tw2257580226048028593:True:=trivial
theorem tw4470967772268941614:True:=trivial
theorem tw3187336412220177969:True:=trivial
theorem tw1331199483038179456:True:=trivial
theorem tw6415129412517420540:True:=trivial
theorem tw3087144031239025368:True:=trivial
theorem tw10734732416577150664:True:=trivial
theorem tw6478111120127818554:True:=trivial
theorem tw4171787597834678824:True:=trivial
theorem tw14006313039045568127:True:=trivial
theorem tw14571681641401412903:True:=trivial
theorem tw6921165075474688947:True:=trivial
theorem tw12816024500853699047:True:=trivial
theorem tw13754979004018002021:True:=trivial
theorem tw8304338230522480845:True:=trivial
theorem tw15302818729801374466:True:=trivial
theorem tw13048178000763734795:True:=trivial
theorem tw12929810747974375843:True:=trivial
theorem tw6030072288842260268:True:=trivial
theorem tw1316349613855428810:True:=trivial
theorem tw1049034083988112384:True:=trivial
theorem tw13733666593141191566:True:=trivial
theorem tw178338752839357874:True:=trivial
theorem tw8668554443974467517:True:=trivial
theorem tw12156999990637638691:True:=trivial
theorem tw13326682799791798256:True:=trivial
theorem tw15321636224932033917:True:=trivial
theorem tw6493945642186743598:True:=trivial
theorem tw7795822778275370587:True:=trivial
theorem tw12938427978258441513:True:=trivial
theorem tw4921338721705601079:True:=trivial
theorem tw16538605734751333441:True:=trivial
theorem tw7374448728731612356:True:=trivial
theorem tw5065535399799672930:True:=trivial
theorem tw6021110376605645005:True:=trivial
theorem tw18402562482769160345:True:=trivial
theorem tw3688004173684194178:True:=trivial
theorem tw8460481325221381602:True:=trivial
theorem tw2364056396105333641:True:=trivial
theorem tw11719004478989523072:True:=trivial
theorem tw16592833998197899820:True:=trivial
theorem tw10384738172788006534:True:=trivial
theorem tw16933839005968287321:True:=trivial
theorem tw4508681147528334142:True:=trivial
theorem tw6638444067661289324:True:=trivial
theorem tw16341299522937334687:True:=trivial
theorem tw13081985711196776551:True:=trivial
theorem tw17276307734663982495:True:=trivial
theorem tw3550393383347973305:True:=trivial
theorem tw12354377382668528178:True:=trivial
theorem tw1736151470133440629:True:=trivial
theorem tw2947765622461291700:True:=trivial
theorem tw13740299904980807491:True:=trivial
theorem tw12376542125171240906:True:=trivial
theorem tw8888108520032083318:True:=trivial
theorem tw4665873867781199269:True:=trivial
theorem tw1396568653822523581:True:=trivial
theorem tw15242639423755104427:True:=trivial
theorem tw2077220952283235818:True:=trivial
theorem tw13099714071572598644:True:=trivial
theorem tw6361852078979441918:True:=trivial
theorem tw15052990619348440146:True:=trivial
theorem tw10405902789663313364:True:=trivial
theorem tw16066784290553249098:True:=trivial
theorem tw6384787271015759234:True:=trivial
theorem tw11789715204415002002:True:=trivial
theorem tw10424233931494646457:True:=trivial
theorem tw16492095028161033834:True:=trivial
theorem tw4095450577829822470:True:=trivial
theorem tw12262539971878333781:True:=trivial
theorem tw12069795011377545833:True:=trivial
theorem tw973933333890398948:True:=trivial
theorem tw4050394683892241371:True:=trivial
theorem tw6371462025736462440:True:=trivial
theorem tw5130186013954295219:True:=trivial
theorem tw13479624004218329344:True:=trivial
theorem tw389159691536294885:True:=trivial
theorem tw14534574701527948605:True:=trivial
theorem tw11036010620066689230:True:=trivial
theorem tw14478432819369447328:True:=trivial
theorem tw17679168263465786784:True:=trivial
theorem tw14180247175024888427:True:=trivial
theorem tw6388292265373074854:True:=trivial
theorem tw3268013409758089830:True:=trivial
end PySem.W.Fast
namespace My
open PySem PySem.Spec PyProof.Rows L2 PI
theorem dks:∀ d∈Tb.ds,qMa d:=by
 intro d hd
 simp only [Tb,List.mem_cons,List.not_mem_nil,or_false] at hd
 rcases hd with rfl | rfl | rfl | rfl | rfl | rfl | rfl | rfl | rfl | rfl | rfl | rfl | rfl | rfl | rfl | rfl | rfl | rfl | rfl | rfl | rfl
 all_goals exact ⟨⟨rfl,rfl,rfl,by decide +kernel,rfl,by decide +kernel,by decide +kernel⟩,fun _ _ _ _ _ _ us hl=>by first | (obtain rfl:=PI.len0 hl;rfl) | (obtain ⟨_,rfl⟩:=PI.len1 hl;rfl) | (obtain ⟨_,_,rfl⟩:=PI.len2 hl;rfl) | (obtain ⟨_,_,_,rfl⟩:=PI.len3 hl;rfl) | (obtain ⟨_,_,_,_,rfl⟩:=PI.len4 hl;rfl) | (obtain ⟨_,_,_,_,_,rfl⟩:=PI.len5 hl;rfl) | (obtain ⟨_,_,_,_,_,_,rfl⟩:=PI.len6 hl;rfl)⟩
theorem all_mk {l:PySem.W.OpenLaw} {w:World} {K:PySem.W.Frag} {h:Heap} {mg:Str -> Option Value} {fa:Addr} (X:K.In h) (G:h.Ns mainGlobals mg) (hfa:mg "law"=some (.ref fa))
  (hds:∀ d∈Tb.ds,qKY K d)
  {ga0:Addr} {gn0:Nat} {gsl0:Array (Option Value)} {u0_0 u0_1 u0_2 u0_3 u0_4 u0_5:Tok} (g_LENGTHS:PySem.W.nsIn K mainGlobals "LENGTHS"=some (some (.ref ga0))) (m0:K.lookup ga0=some ⟨.type "tuple",none,.seq #[.int 1 u0_0,.int 2 u0_1,.int 4 u0_2,.int 8 u0_3,.int 16 u0_4,.int 32 u0_5] gn0,gsl0⟩)
  {tg_GREATEST_SIZE:Tok} (g_GREATEST_SIZE:PySem.W.nsIn K mainGlobals "GREATEST_SIZE"=some (some (.int 5 tg_GREATEST_SIZE)))
  {tg_MOST_SENDINGS:Tok} (g_MOST_SENDINGS:PySem.W.nsIn K mainGlobals "MOST_SENDINGS"=some (some (.int 6 tg_MOST_SENDINGS)))
  (z_len:PySem.W.nsIn K mainGlobals "len"=some none)
  (z_all:PySem.W.nsIn K mainGlobals "all"=some none)
  (z_max:PySem.W.nsIn K mainGlobals "max"=some none)
  (z_min:PySem.W.nsIn K mainGlobals "min"=some none)
  (z_list:PySem.W.nsIn K mainGlobals "list"=some none)
  (z_int:PySem.W.nsIn K mainGlobals "int"=some none)
  (z_tuple:PySem.W.nsIn K mainGlobals "tuple"=some none)
  (z_range:PySem.W.nsIn K mainGlobals "range"=some none)
  (z_isinstance:PySem.W.nsIn K mainGlobals "isinstance"=some none)
  (z_bool:PySem.W.nsIn K mainGlobals "bool"=some none)
  (z_enumerate:PySem.W.nsIn K mainGlobals "enumerate"=some none)
  (z_ValueError:PySem.W.nsIn K mainGlobals "ValueError"=some none)
  (main:∀ ns:List Int,ns.length<=63 -> ∃ h',Fk Tb.fns 30 20 [.ref gs.length] (qD5 gs ns)=.ok (.bl true,h')):
  ∃ fd:FuncData,(∀ (s:Shared) (v:Value),BindsTo s fd ⟨[v],[]⟩ [("_law_script",v)])/\∀ base:Heap,K.In base -> base.Ns mainGlobals mg -> FnOk l.prog w K mg base CX0 30 fa fd ["_law_script"] (qHd K):=by
 obtain ⟨fas,fds,hT⟩:=qIt X G Tb.ds hds dks
 have O:qIS K mg [ga0] Tb fas fds:=by
  refine ⟨hT,fun x e hx=>?_,fun x hx=>?_,fun a ha=>(List.mem_cons.mp ha).elim (fun z=>by subst z;exact ⟨_,m0,rfl,rfl⟩) fun ha=>nomatch ha⟩
  ·have hx2:List.lookup x ([("LENGTHS",E.glob 0),("GREATEST_SIZE",E.cst (.int 5)),("MOST_SENDINGS",E.cst (.int 6))]:List (Str×E))=some e:=hx
   simp only [List.lookup_cons,List.lookup_nil] at hx2
   split at hx2
   ·rename_i hq
    have hq2:x="LENGTHS":=by simpa using hq
    subst hq2
    cases hx2
    exact .inr ⟨_,_,rfl,PySem.W.mg_of X G g_LENGTHS,rfl⟩
   split at hx2
   ·rename_i hq
    have hq2:x="GREATEST_SIZE":=by simpa using hq
    subst hq2
    cases hx2
    exact .inl ⟨_,_,rfl,PySem.W.mg_of X G g_GREATEST_SIZE,⟨_,rfl⟩,fun _=>rfl⟩
   split at hx2
   ·rename_i hq
    have hq2:x="MOST_SENDINGS":=by simpa using hq
    subst hq2
    cases hx2
    exact .inl ⟨_,_,rfl,PySem.W.mg_of X G g_MOST_SENDINGS,⟨_,rfl⟩,fun _=>rfl⟩
   cases hx2
  ·have hx2:x∈(["len","all","max","min","list","int","tuple","range","isinstance","bool","enumerate","ValueError"]:List Str):=List.contains_iff_mem.mp hx
   simp only [List.mem_cons,List.not_mem_nil,or_false] at hx2
   rcases hx2 with rfl | rfl | rfl | rfl | rfl | rfl | rfl | rfl | rfl | rfl | rfl | rfl
   ·exact PySem.W.mg_none_of X G z_len
   ·exact PySem.W.mg_none_of X G z_all
   ·exact PySem.W.mg_none_of X G z_max
   ·exact PySem.W.mg_none_of X G z_min
   ·exact PySem.W.mg_none_of X G z_list
   ·exact PySem.W.mg_none_of X G z_int
   ·exact PySem.W.mg_none_of X G z_tuple
   ·exact PySem.W.mg_none_of X G z_range
   ·exact PySem.W.mg_none_of X G z_isinstance
   ·exact PySem.W.mg_none_of X G z_bool
   ·exact PySem.W.mg_none_of X G z_enumerate
   ·exact PySem.W.mg_none_of X G z_ValueError
 have hG:qE9 K [ga0] gs:=⟨⟨.inr ⟨_,_,_,m0,rfl,rfl,by show 6<=sizeLine;decide,.cons ⟨_,rfl⟩ (.cons ⟨_,rfl⟩ (.cons ⟨_,rfl⟩ (.cons ⟨_,rfl⟩ (.cons ⟨_,rfl⟩ (.cons ⟨_,rfl⟩ (.nil))))))⟩,rfl⟩,True.intro⟩
 obtain ⟨a,f,e1,e2,F,_,em,_⟩:=hT 20 _ rfl
 have e:=hfa.symm.trans em
 cases e
 exact ⟨f,qMi F (dks _ (List.mem_of_getElem? (i:=20) rfl)) rfl,fun base _ _=>qHP O hG (i:=20) rfl e1 e2 rfl main⟩
theorem walk {l:PySem.W.OpenLaw} {q:Program} {loose:List Str} {XP:(Str -> Option Value) -> Heap -> Prop} {YP:World -> Heap -> Prop} {d:DefRec} {K:Params -> PySem.W.Frag} (hn:l.most=some 63) (hdf:d.params.defaults=[])
  (hY:∀ (w:World) (h:Heap),YP w h -> (K w.params).In h)
  (F:∀ (w:World) (mg:Str -> Option Value) (fa:Addr) (h:Heap),(K w.params).In h -> h.Ns mainGlobals mg -> mg d.name=some (.ref fa) ->
   ∃ fd:FuncData,(∀ (s:Shared) (u:Value),BindsTo s fd ⟨[u],[]⟩ [("_law_script",u)])/\∀ base:Heap,(K w.params).In base -> base.Ns mainGlobals mg -> FnOk l.prog w (K w.params) mg base CX0 30 fa fd ["_law_script"] (qHd (K w.params))):
  PySem.W.WalkO q loose XP YP l.row.toRowW d [] (fun f vs=>PySem.call f vs):=
 L2.walk_of (n:=63) (k:=30) (x:="_law_script") (CX:=fun _=>CX0) (sp:=fun w=>qHd (K w.params)) hn (by decide) hdf ⟨rfl,by decide,by decide,rfl⟩ hY F (fun _ _ a ns hl hO hS=>⟨a,ns,rfl,hO,hS,hl,fun _=>rfl⟩) fun _ _ _ _ _ z=>z
end My
open PySem PySem.W PyProof.Rows
set_option maxRecDepth 100000 in
set_option maxHeartbeats 0 in
theorem PySem.Challenge.cw_healhalves_k72_plans_for_lengths_holds : PySem.Challenge.rw_healhalves_k72_plans_for_lengths.Holds := by
 w_on;o_law;k_head;(case hw=>w_witness2)
 k_fill
 refine My.walk (l:=PySem.Challenge.rw_healhalves_k72_plans_for_lengths) rfl rfl (fun w h Y=>PySem.W.kIn_of Y) ?F
 case F=>
  intro w mg fa h KX G hmg
  refine' My.all_mk KX G hmg ?ds ?g_LENGTHS ?m0 ?g_GREATEST_SIZE ?g_MOST_SENDINGS ?z_len ?z_all ?z_max ?z_min ?z_list ?z_int ?z_tuple ?z_range ?z_isinstance ?z_bool ?z_enumerate ?z_ValueError My.main
  case ds=>
   intro d hd
   simp only [My.Tb,List.mem_cons,List.not_mem_nil,or_false] at hd
   rcases hd with rfl | rfl | rfl | rfl | rfl | rfl | rfl | rfl | rfl | rfl | rfl | rfl | rfl | rfl | rfl | rfl | rfl | rfl | rfl | rfl | rfl
   all_goals exact ⟨_,_,_,_,_,_,_,_,_,_,by k_is,by k_is,by k_is,by k_is⟩
  all_goals (try k_is)
