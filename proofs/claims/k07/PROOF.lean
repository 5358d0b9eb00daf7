import PyProof.Rows.All
import Wide.All
import OpenK.AllK
import Wide.FinOn
import Lean
import PyProof.EqAt
import PyProof.EqKinds
import PyProof.TupleCall
import PyProof.NeKinds
import PyProof.ZipIter
import PyProof.ReprRoads
import KE.KRevIter
import PyProof.EnumMake
import PyProof.EnumFor
import PyProof.WalksEnum
import PyProof.Rows.EnumRows
import PyProof.FactsAll.range_2
import PyProof.AutoRange
import KE.KTryMore
import PyProof.ExcArgsOwn
import OpenK.KOwn
import PyProof.NsDelKeeps
import PySem.Challenge.RW_healhalves_k07_nets_let_in
set_option bootstrap.genMatcherCode false
set_option compiler.extract_closed false
set_option genSizeOf false
set_option genSizeOfSpec false
set_option Elab.async false
set_option linter.all false
set_option maxRecDepth 100000
namespace L2
open PySem PySem.Spec PyProof.Rows
noncomputable abbrev Key:=Sum Int Str
noncomputable def qF5:Key -> Value -> Bool
 | .inl k,v=>Value.isInt k v
 | .inr x,v=>Value.isStrOf x v
noncomputable def qPh (w:World):Key -> Int
 | .inl k=>hashInt k
 | .inr x=>hashStr w x
theorem qAY:∀ {k:Key} {v:Value},qF5 k v=true -> (∃ i t,k=Sum.inl i/\v=Value.int i t)\/(∃ x t,k=Sum.inr x/\v=Value.str x t)
 | .inl i,v,h=>by
  obtain ⟨t,e⟩:=Value.isInt_shape (k:=i) (v:=v) h
  exact .inl ⟨i,t,rfl,e⟩
 | .inr x,v,h=>by
  obtain ⟨t,e⟩:=Value.isStrOf_shape (x:=x) (v:=v) h
  exact .inr ⟨x,t,rfl,e⟩
theorem qG4 (i:Int) (t:Tok):qF5 (.inl i) (.int i t)=true:=by simp [qF5,Value.isInt]
theorem qGs (x:Str) (t:Tok):qF5 (.inr x) (.str x t)=true:=by simp [qF5,Value.isStrOf]
theorem qLr (a b:Int):decide ((Sum.inl a:Key)=Sum.inl b)=(a==b):=by
 by_cases e:a=b
 ·subst e;simp
 ·have h:¬ (Sum.inl a:Key)=Sum.inl b:=fun q=>e (Sum.inl.inj q)
  rw [decide_eq_false h]
  exact (beq_eq_false_iff_ne.mpr e).symm
theorem qKt (a b:Str):decide ((Sum.inr a:Key)=Sum.inr b)=decide (a=b):=by
 by_cases e:a=b
 ·subst e;simp
 ·have h:¬ (Sum.inr a:Key)=Sum.inr b:=fun q=>e (Sum.inr.inj q)
  rw [decide_eq_false h,decide_eq_false e]
theorem qL7 (a:Int) (b:Str):decide ((Sum.inl a:Key)=Sum.inr b)=false:=decide_eq_false (fun q=>nomatch q)
theorem qMB (a:Str) (b:Int):decide ((Sum.inr a:Key)=Sum.inl b)=false:=decide_eq_false (fun q=>nomatch q)
noncomputable def qAv (prog:Program) (w:World):PySem.KeyKind prog w Key where
 is:=qF5
 hash:=qPh w
 inj:=fun v a b ha hb=>by
  rcases qAY ha with ⟨i,t,rfl,rfl⟩ | ⟨x,t,rfl,rfl⟩
  ·rcases qAY hb with ⟨j,u,rfl,e⟩ | ⟨y,u,rfl,e⟩
   ·injection e with e1 _;rw [e1]
   ·exact nomatch e
  ·rcases qAY hb with ⟨j,u,rfl,e⟩ | ⟨y,u,rfl,e⟩
   ·exact nomatch e
   ·injection e with e1 _;rw [e1]
 byValue:=fun k v h=>by
  rcases qAY h with ⟨i,t,rfl,rfl⟩ | ⟨x,t,rfl,rfl⟩<;>rfl
 pyHash:=fun hv h=>by
  rcases qAY hv with ⟨i,t,rfl,rfl⟩ | ⟨x,t,rfl,rfl⟩
  ·exact wpAny_pyHash_int h
  ·exact wpAny_pyHash_str h
 eqBool:=fun hu hv h=>by
  rcases qAY hu with ⟨i,t,rfl,rfl⟩ | ⟨x,t,rfl,rfl⟩
  ·rcases qAY hv with ⟨j,u,rfl,rfl⟩ | ⟨y,u,rfl,rfl⟩
   ·rw [qLr] at h;exact wpAny_eqBool_int h
   ·rw [qL7] at h;exact SeqAt.EqAt.int_str i t y u _ _ _ _ h
  ·rcases qAY hv with ⟨j,u,rfl,rfl⟩ | ⟨y,u,rfl,rfl⟩
   ·rw [qMB] at h;exact SeqAt.EqAt.str_int x t j u _ _ _ _ h
   ·rw [qKt] at h;exact wpAny_eqBool_str h
 «strs»:=fun k x t v h=>by
  rcases qAY h with ⟨i,u,rfl,e⟩ | ⟨y,u,rfl,e⟩
  ·exact nomatch e
  ·injection e with e1 _
   subst e1
   cases v<;>rfl
theorem qEn (prog:Program) (w:World) (i:Int) (t:Tok):(qAv prog w).is (.inl i) (.int i t)=true:=qG4 i t
theorem qEu (prog:Program) (w:World) (x:Str) (t:Tok):(qAv prog w).is (.inr x) (.str x t)=true:=qGs x t
open PySem PySem.Spec PyProof.Rows
inductive V where
 | non | bl (b:Bool) | int (i:Int) | str (x:Str) | byt (b:Array UInt8) | flt (b:UInt64) | ref (a:Addr) | ty (n:String)
 deriving DecidableEq
noncomputable def RelV:V -> Value -> Prop
 | .non,u=>u=Value.none
 | .bl b,u=>u=Value.bool b
 | .int i,u=>∃ t,u=Value.int i t
 | .str x,u=>∃ t,u=Value.str x t
 | .byt b,u=>∃ t,u=Value.bytes b t
 | .flt b,u=>∃ t,u=Value.float b t
 | .ref a,u=>u=Value.ref a
 | .ty n,u=>u=Value.type n
noncomputable abbrev Vals:List V -> List Value -> Prop:=Paired RelV
theorem Vals.length {xs:List V} {us:List Value} (r:Vals xs us):xs.length=us.length:=Paired.length r
theorem Vals.get:∀ {xs:List V} {us:List Value} {i:Nat} {x:V},Vals xs us -> xs[i]?=some x -> ∃ u,us[i]?=some u/\RelV x u
 | _,_,_,_,.nil,e=>by simp at e
 | _,_,0,_,.cons r _,e=>by simp at e;subst e;exact ⟨_,rfl,r⟩
 | _,_,i + 1,x,.cons _ t,e=>by
  obtain ⟨u,h1,h2⟩:=Vals.get (i:=i) (x:=x) t (by simpa using e)
  exact ⟨u,by simpa using h1,h2⟩
theorem Vals.set {x:V} {u:Value} (r:RelV x u):∀ {xs:List V} {us:List Value} (i:Nat),Vals xs us -> Vals (xs.set i x) (us.set i u)
 | _,_,_,.nil=>.nil
 | _,_,0,.cons _ t=>.cons r t
 | _,_,i + 1,.cons q t=>.cons q (Vals.set r i t)
theorem Vals.append:∀ {xs ys:List V} {us ws:List Value},Vals xs us -> Vals ys ws -> Vals (xs++ys) (us++ws)
 | _,_,_,_,.nil,s=>s
 | _,_,_,_,.cons r t,s=>.cons r (Vals.append t s)
theorem Vals.take:∀ {xs:List V} {us:List Value} (n:Nat),Vals xs us -> Vals (xs.take n) (us.take n)
 | _,_,0,_=>.nil
 | _,_,_ + 1,.nil=>.nil
 | _,_,n + 1,.cons r t=>.cons r (Vals.take n t)
theorem Vals.drop:∀ {xs:List V} {us:List Value} (n:Nat),Vals xs us -> Vals (xs.drop n) (us.drop n)
 | _,_,0,r=>r
 | _,_,_ + 1,.nil=>.nil
 | _,_,n + 1,.cons _ t=>Vals.drop n t
noncomputable def RelO:Option V -> Option Value -> Prop
 | some v,some u=>RelV v u
 | none,none=>True
 | _,_=>False
noncomputable def KV {κ:Type}:List (κ×V) -> List (κ×Value) -> Prop:=Paired fun (p:κ×V) (q:κ×Value)=>p.1=q.1/\RelV p.2 q.2
noncomputable def kV:Key -> V
 | .inl i=>.int i
 | .inr x=>.str x
inductive HO where
 | lst (xs:List V)
 | tup (xs:List V)
 | dK (kvs:List (Key×V)) | dT (kvs:List (List Key×V))
 | set (S:Int -> Bool) (n:Nat)
 | ins (C dx:Addr) (fs:List (Str×V))
 | own (x:Addr)
 | xd (fs:List (Str×V))
 | met (f x:Addr)
 | rng (lo hi:Int)
 | frz (o:Obj) (u:HO)
 | tbl (ps:Array Value)
 | ext (φ:Heap -> Prop)
noncomputable abbrev Hp:=Addr -> Option HO
noncomputable def upd (H:Hp) (a:Addr) (o:HO):Hp:=fun b=>if b=a then some o else H b
theorem qAI {H:Hp} {a:Addr} {o:HO}:upd H a o a=some o:=by unfold upd;rw [if_pos rfl]
theorem qAM {H:Hp} {a b:Addr} {o:HO} (h:b≠a):upd H a o b=H b:=by unfold upd;rw [if_neg h]
theorem qNR {H:Hp} {a b:Addr} {o u:HO} (h:H a=some o) (h':H b=some u) (d:o≠u):a≠b:=by
 intro e;subst e;rw [h] at h';exact d (Option.some.inj h')
theorem ne_of_none {H:Hp} {a b:Addr} {o:HO} (h:H a=some o) (h':H b=none):a≠b:=by
 intro e;subst e;rw [h] at h';cases h'
section
variable (P:Program) (w:World)
noncomputable def ObjOk (H:Hp) (h:Heap) (a:Addr):HO -> Prop
 | .lst xs=>xs.length<=sizeLine/\∃ (its:List Value) (n:Nat),Vals xs its/\h.get? a=some { cls:=.type "list",data:=.seq its.toArray n }
 | .tup xs=>xs.length<=sizeLine/\∃ its:List Value,Vals xs its/\IsTup h a its.toArray
 | .dK kvs=>kvs.length<=sizeLine/\(a==sysModules)=false/\∃ vs,KV kvs vs/\h.DictOf (qAv P w) a vs
 | .dT kvs=>kvs.length<=sizeLine/\(a==sysModules)=false/\∃ xs:List (List Key×Addr×Value),
   Paired (fun (p:List Key×V) (q:List Key×Addr×Value)=>p.1=q.1/\H q.2.1=some (.tup (p.1.map kV))/\RelV p.2 q.2.2) kvs xs/\
   ∃ o es ep,h.get? a=some o/\o.ExactDict/\o.data=.dict es ep/\es.toList=xs.map (entryOfKey (tupleKind (qAv P w)))/\(xs.map (·.1)).Nodup
 | .set S n=>h.SetOf (intKind P w) a S n
 | .ins C dx fs=>H dx=some (.own a)/\fs.length<=1000/\dx≠a/\h.get? a=some (PySem.W.instObj C dx)/\
   ∃ mA,h.Ns1 dx mA/\(∀ f,RelO (fs.lookup f) (mA f))/\PySem.Within mA (fs.map (·.1))
 | .own _=>∃ o,h.get? a=some o
 | .xd fs=>∃ mA,h.Ns1 a mA/\∀ f,RelO (fs.lookup f) (mA f)
 | .rng lo hi=>∃ t u v,h.get? a=some { cls:=.type "range",data:=.fields #[.int lo t,.int hi u,.int 1 v] }
 | .frz o u=>h.get? a=some o/\ObjOk H h a u
 | .tbl ps=>h.get? a=some { cls:=.none,data:=.fields ps }
 | .met f x=>h.get? a=some (PySem.W.methodObj (.ref f) (.ref x))
 | .ext φ=>φ h/\(∃ o,h.get? a=some o)/\∀ h1 h2:Heap,φ h1 -> (∀ o,h1.get? a=some o -> h2.get? a=some o) -> φ h2
noncomputable def HOk (H:Hp) (h:Heap):Prop:=∀ a o,H a=some o -> ObjOk P w H h a o
end
section
variable {P:Program} {w:World} {H H':Hp} {h h':Heap} {a:Addr} {o:HO}
theorem ObjOk.lt (x:ObjOk P w H h a o):a < h.objs.size:=by
 cases o with
 | lst xs=>obtain ⟨_,_,_,_,e⟩:=x;exact Heap.lt_size e
 | tup xs=>obtain ⟨_,_,_,p⟩:=x;exact p.lt
 | dK kvs=>obtain ⟨_,_,_,_,o,_,_,e,_⟩:=x;exact Heap.lt_size e
 | dT kvs=>obtain ⟨_,_,_,_,o,_,_,e,_⟩:=x;exact Heap.lt_size e
 | set S n=>obtain ⟨o,_,_,_,e,_⟩:=x;exact Heap.lt_size e
 | ins C dx fs=>obtain ⟨_,_,_,e,_⟩:=x;exact Heap.lt_size e
 | own y=>obtain ⟨_,e⟩:=x;exact Heap.lt_size e
 | xd fs=>obtain ⟨_,⟨_,_,_,e,_⟩,_⟩:=x;exact Heap.lt_size e
 | rng lo hi=>obtain ⟨_,_,_,e⟩:=x;exact Heap.lt_size e
 | frz ob u=>obtain ⟨e,_⟩:=x;exact Heap.lt_size e
 | tbl ps=>exact Heap.lt_size (show h.get? a=some _ from x)
 | met f y=>exact Heap.lt_size (show h.get? a=some _ from x)
 | ext φ=>obtain ⟨_,⟨_,e⟩,_⟩:=x;exact Heap.lt_size e
theorem Paired.mapP {α β:Type} {F G:α -> β -> Prop}:∀ {l₁:List α} {l₂:List β},Paired F l₁ l₂ -> (∀ a b,F a b -> G a b) -> Paired G l₁ l₂
 | _,_,.nil,_=>.nil
 | _,_,.cons r t,f=>.cons (f _ _ r) (Paired.mapP t f)
theorem ObjOk.stay (x:ObjOk P w H h a o) (k:∀ b u,(b=a\/H b=some (.own a)) -> h.get? b=some u -> h'.get? b=some u)
  (ho:∀ b,H b=some (.own a) -> H' b=some (.own a)) (ht:∀ b xs,H b=some (.tup xs) -> H' b=some (.tup xs)):ObjOk P w H' h' a o:=by
 induction o with
 | lst xs=>obtain ⟨z,its,n,r,e⟩:=x;exact ⟨z,its,n,r,k _ _ (.inl rfl) e⟩
 | tup xs=>obtain ⟨z,its,r,ob,e,c⟩:=x;exact ⟨z,its,r,ob,k _ _ (.inl rfl) e,c⟩
 | dK kvs=>obtain ⟨z,y,vs,r,ob,es,ep,e,c⟩:=x;exact ⟨z,y,vs,r,ob,es,ep,k _ _ (.inl rfl) e,c⟩
 | dT kvs=>
  obtain ⟨z,y,xs,r,ob,es,ep,e,c⟩:=x
  exact ⟨z,y,xs,Paired.mapP r fun p q z=>⟨z.1,ht _ _ z.2.1,z.2.2⟩,ob,es,ep,k _ _ (.inl rfl) e,c⟩
 | set S n=>obtain ⟨ob,es,ep,t,e,c⟩:=x;exact ⟨ob,es,ep,t,k _ _ (.inl rfl) e,c⟩
 | ins C dx fs=>
  obtain ⟨d,z,ne,e,mA,⟨od,es,ep,e2,c⟩,r⟩:=x
  exact ⟨ho _ d,z,ne,k _ _ (.inl rfl) e,mA,⟨od,es,ep,k _ _ (.inr d) e2,c⟩,r⟩
 | own y=>obtain ⟨ob,e⟩:=x;exact ⟨ob,k _ _ (.inl rfl) e⟩
 | xd fs=>obtain ⟨mA,⟨od,es,ep,e,c⟩,r⟩:=x;exact ⟨mA,⟨od,es,ep,k _ _ (.inl rfl) e,c⟩,r⟩
 | rng lo hi=>obtain ⟨t,u,v,e⟩:=x;exact ⟨t,u,v,k _ _ (.inl rfl) e⟩
 | frz ob u ih=>obtain ⟨e,q⟩:=x;exact ⟨k _ _ (.inl rfl) e,ih q⟩
 | tbl ps=>
  have e:h.get? a=some { cls:=.none,data:=.fields ps }:=x
  show h'.get? a=some { cls:=.none,data:=.fields ps }
  exact k a _ (.inl rfl) e
 | met f y=>
  have e:h.get? a=some (PySem.W.methodObj (.ref f) (.ref y)):=x
  show h'.get? a=some (PySem.W.methodObj (.ref f) (.ref y))
  exact k a _ (.inl rfl) e
 | ext φ=>obtain ⟨p,⟨o,e⟩,st⟩:=x;exact ⟨st _ _ p fun o q=>k _ _ (.inl rfl) q,⟨o,k _ _ (.inl rfl) e⟩,st⟩
theorem HOk.lt (x:HOk P w H h) (e:H a=some o):a < h.objs.size:=(x a o e).lt
theorem HOk.fresh (x:HOk P w H h) (e:h.objs.size<=a):H a=none:=by
 cases q:H a with
 | none=>rfl
 | some u=>exact absurd (Nat.lt_of_lt_of_le (x.lt q) e) (Nat.lt_irrefl _)
theorem HOk.kept (x:HOk P w H h) (k:∀ b u,h.get? b=some u -> h'.get? b=some u):HOk P w H h':=fun a o e=>
 (x a o e).stay (fun b u _ q=>k b u q) (fun _ q=>q) fun _ _ q=>q
theorem HOk.laid (x:HOk P w H h) (k:∀ b u,h.get? b=some u -> h'.get? b=some u) (hp:h.objs.size<=a) (new:ObjOk P w (upd H a o) h' a o):HOk P w (upd H a o) h':=fun b u e=>by
 have hn:=x.fresh hp
 by_cases hb:b=a
 ·subst hb;rw [qAI] at e;cases e;exact new
 ·rw [qAM hb] at e
  exact (x b u e).stay (fun c v _ q=>k c v q) (fun c q=>by rw [qAM (ne_of_none q hn)];exact q) fun c xs q=>by rw [qAM (ne_of_none q hn)];exact q
end
noncomputable def Rd (H:Hp) (a:Addr) (u:HO):Prop:=H a=some u\/∃ o,H a=some (.frz o u)
theorem Rd.ok {P:Program} {w:World} {H:Hp} {h:Heap} {a:Addr} {u:HO} (r:Rd H a u) (x:HOk P w H h):ObjOk P w H h a u:=by
 rcases r with r | ⟨o,r⟩
 ·exact x a u r
 ·obtain ⟨_,q⟩:=x a _ r
  exact q
noncomputable def Mut:Option HO -> Prop
 | some (.lst _)=>True
 | some (.dK _)=>True
 | some (.dT _)=>True
 | some (.set _ _)=>True
 | some (.ins _ _ _)=>True
 | some (.ext _)=>True
 | _=>False
section
variable {P:Program} {w:World} {H:Hp} {h h':Heap} {x e:Addr} {o':HO}
theorem HOk.write (ok:HOk P w H h) (mu:Mut (H x)) (he:e=x\/H e=some (.own x)) (k:∀ b u,b≠e -> h.get? b=some u -> h'.get? b=some u) (heo:∃ u,h'.get? e=some u)
  (new:ObjOk P w (upd H x o') h' x o'):HOk P w (upd H x o') h':=fun b u q=>by
 have nown:∀ c y,H c=some (.own y) -> c≠x:=fun c y r z=>by subst z;rw [r] at mu;exact mu
 have ntup:∀ c xs,H c=some (.tup xs) -> c≠x:=fun c xs r z=>by subst z;rw [r] at mu;exact mu
 by_cases hb:b=x
 ·subst hb;rw [qAI] at q;cases q;exact new
 ·rw [qAM hb] at q
  by_cases hbe:b=e
  ·have q':H b=some (.own x):=by
    rcases he with z | z
    ·exact absurd (hbe.trans z) hb
    ·rw [hbe];exact z
   rw [q] at q';cases q'
   obtain ⟨v,hv⟩:=heo
   exact ⟨v,by rw [hbe];exact hv⟩
  ·refine (ok b u q).stay (fun c v hc r=>k c v ?_ r) (fun c r=>by rw [qAM (nown c b r)];exact r) fun c xs r=>by rw [qAM (ntup c xs r)];exact r
   rcases hc with rfl | hc
   ·exact hbe
   ·rintro rfl
    rcases he with z | z
    ·exact nown c b hc z
    ·rw [hc] at z;cases z;exact hb rfl
end
structure Un (fs ex:List Addr) (H H':Hp) (h h':Heap):Prop where
 keep:∀ b o,h.get? b=some o -> H b=none -> b∉fs -> b∉ex -> h'.get? b=some o
 slot:∀ b o,h.get? b=some o -> H b=none -> b∈fs -> b∉ex -> ∃ sl,h'.get? b=some { o with slots:=sl }
 free:∀ b o,h.get? b=some o -> H b=none -> b∉ex -> H' b=none
 there:∀ b o,h.get? b=some o -> b∉ex -> ∃ o',h'.get? b=some o'
 tups:∀ b xs,H b=some (.tup xs) -> H' b=some (.tup xs)
 frzs:∀ b o u,H b=some (.frz o u) -> H' b=some (.frz o u)
 tbls:∀ b ps,H b=some (.tbl ps) -> ∃ more,H' b=some (.tbl (ps++more))
section
variable {fs fs' ex ex':List Addr} {H H1 H2:Hp} {h h1 h2 h':Heap} {a x e:Addr} {o:HO}
theorem Un.any (u:Un fs ex H H1 h h1) {b:Addr} {ob:Obj} (q:h.get? b=some ob) (n:H b=none) (hx:b∉ex):∃ sl,h1.get? b=some { ob with slots:=sl }:=by
 by_cases hb:b∈fs
 ·exact u.slot b ob q n hb hx
 ·exact ⟨ob.slots,u.keep b ob q n hb hx⟩
theorem Un.kept (k:∀ b u,h.get? b=some u -> h'.get? b=some u):Un fs ex H H h h':=
 ⟨fun b ob q _ _ _=>k b ob q,fun b ob q _ _ _=>⟨ob.slots,k b ob q⟩,fun _ _ _ n _=>n,fun b ob q _=>⟨ob,k b ob q⟩,fun _ _ q=>q,fun _ _ _ q=>q,fun _ ps q=>⟨#[],by rw [q];simp⟩⟩
theorem Un.refl:Un fs ex H H h h:=Un.kept fun _ _ q=>q
theorem Un.laid (k:∀ b u,h.get? b=some u -> h'.get? b=some u) (hp:h.objs.size<=a) (hn:H a=none):Un fs ex H (upd H a o) h h' where
 keep:=fun b u q _ _ _=>k b u q
 slot:=fun b u q _ _ _=>⟨u.slots,k b u q⟩
 free:=fun b u q n _=>by rw [qAM (Nat.ne_of_lt (Nat.lt_of_lt_of_le (Heap.lt_size q) hp))];exact n
 there:=fun b u q _=>⟨u,k b u q⟩
 tups:=fun b xs q=>by rw [qAM (ne_of_none q hn)];exact q
 frzs:=fun b u xs q=>by rw [qAM (ne_of_none q hn)];exact q
 tbls:=fun b ps q=>⟨#[],by rw [qAM (ne_of_none q hn),q];simp⟩
theorem Un.write (mu:Mut (H x)) (he:e=x\/H e=some (.own x)) (k:∀ b u,b≠e -> h.get? b=some u -> h'.get? b=some u) (heo:∃ u,h'.get? e=some u):Un fs ex H (upd H x o) h h':=by
 have hx:∀ b,H b=none -> b≠x:=fun b n z=>by subst z;rw [n] at mu;exact mu
 have hb:∀ b,H b=none -> b≠e:=fun b n z=>by
  subst z
  rcases he with r | r
  ·exact hx b n r
  ·rw [n] at r;cases r
 have hm:∀ b u,H b=some u -> ¬ Mut (some u) -> b≠x:=fun b u q nm z=>by subst z;rw [q] at mu;exact nm mu
 refine ⟨fun b u q n _ _=>k b u (hb b n) q,fun b u q n _ _=>⟨u.slots,k b u (hb b n) q⟩,fun b u q n _=>by rw [qAM (hx b n)];exact n,fun b u q _=>?_,
  fun b xs q=>by rw [qAM (hm b _ q fun z=>z)];exact q,fun b u xs q=>by rw [qAM (hm b _ q fun z=>z)];exact q,fun b ps q=>⟨#[],by rw [qAM (hm b _ q fun z=>z),q];simp⟩⟩
 by_cases hbe:b=e
 ·subst hbe;exact heo
 ·exact ⟨u,k b u hbe q⟩
end
noncomputable def trk (h:Heap) (H:Hp):List Addr:=(List.range h.objs.size).filter fun a=>(H a).isSome
noncomputable def qHq (h:Heap) (H:Hp):Heap:=PySem.W.hideAll h (trk h H)
theorem qGa (h:Heap) (H:Hp):(qHq h H).objs.size=h.objs.size:=PySem.W.hideAll_size _ _
theorem qHh {h:Heap} {H:Hp} {b:Addr} {o:Obj} (e:h.get? b=some o) (n:H b=none):(qHq h H).get? b=some o:=
 PySem.W.hideAll_get _ e fun hm=>by
  have q:(H b).isSome=true:=(List.mem_filter.mp hm).2
  rw [n] at q;simp at q
theorem qKd {h:Heap} {H:Hp} {b:Addr} {o:Obj} (e:(qHq h H).get? b=some o):h.get? b=some o/\H b=none:=by
 have e':h.get? b=some o:=PySem.W.of_hideAll (trk h H) e
 refine ⟨e',?_⟩
 cases q:H b with
 | none=>rfl
 | some x=>
  have hm:b∈trk h H:=List.mem_filter.mpr ⟨List.mem_range.mpr (Heap.lt_size e'),by simp [q]⟩
  have z:(qHq h H).get? b=none:=PySem.W.hideAll_none (trk h H) hm
  rw [z] at e;cases e
noncomputable def qKA (g h:Heap) (L:Addr):List (Addr×Obj):=(List.range h.objs.size).filterMap fun a=>if a=L\/(g.get? a).isSome=true then none else (h.get? a).map fun o=>(a,o)
noncomputable def qB6 (g h:Heap) (L d:Addr):List (Addr×Obj):=(qKA g h L).filter fun p=>decide (p.1≠d)
open PySem PySem.Spec PyProof.Rows
structure Mod (K:PySem.W.Frag) (mg:Str -> Option Value) (base:Heap):Prop where
 kin:K.In base
 glob:base.Ns mainGlobals mg
 blt:∃ mb,base.Ns builtinsNs mb/\∀ x:Str,x≠"__name__" -> mb x=bootBuiltins x
 nolimit:base.NoLimit
structure Cx where
 prog:Program
 w:World
 K:PySem.W.Frag
 mg:Str -> Option Value
 base:Heap
 A:Around
 N:List Str
 s₀:Shared
 H₀:Hp
 env:Env
 outer:List Env
 stack:List Env
 ex:List Addr
 fn:Str -> Bool
 calm:Bool
 pn:List (Addr×Obj)
 xe:Value -> Shared -> Prop
noncomputable def frs (l:List Env):List Addr:=l.filterMap (·.frame)
noncomputable abbrev Cx.fs (X:Cx):List Addr:=frs X.outer
noncomputable def Vis (sc:Scope) (x:Str):Prop:=sc.names.lookup x=some .local\/sc.names.lookup x=some .cell\/sc.names.lookup x=some .free
noncomputable def Loc (sc:Scope) (x:Str):Prop:=sc.names.lookup x=some .local\/sc.names.lookup x=some .cell
noncomputable def qPe (env:Env) (h:Heap) (m:Str -> Option Value) (x:Str) (u:Value):Prop:=
 (env.kindOf x=some .local/\m x=some u)\/((env.kindOf x=some .cell\/env.kindOf x=some .free)/\∃ c,env.cells.lookup x=some c/\h.IsCell c (some u))
structure Cx.Ok (X:Cx):Prop where
 mod:Mod X.K X.mg X.base
 kind:X.env.scope.kind=.function
 glob:X.env.globals=mainGlobals
 blt:X.env.builtins=builtinsNs
 above:X.s₀.heap.objs.size<=X.env.locals
 inj:∀ x y c,X.env.cells.lookup x=some c -> X.env.cells.lookup y=some c -> x=y
 has:∀ x,(X.env.kindOf x=some .cell\/X.env.kindOf x=some .free) -> ∃ c,X.env.cells.lookup x=some c
 cab:∀ x c,X.fn x=true -> X.env.cells.lookup x=some c -> X.s₀.heap.objs.size<=c
 hd:X.calm=true -> X.A.handled=none
 frames:X.A.frames=some X.stack
 stk:X.stack=X.outer\/(X.stack=X.env::X.outer/\X.env.frame=some X.env.locals)
 exf:∀ b∈X.ex,b≠X.env.locals/\∀ x c,X.env.cells.lookup x=some c -> c≠b
 bs:∀ b o,X.base.get? b=some o -> X.s₀.heap.get? b=some o/\X.H₀ b=none
 bsz:X.base.objs.size<=X.s₀.heap.objs.size
 noex:∀ b o,X.base.get? b=some o -> b∉X.ex
 exfs:∀ b∈X.ex,b∉X.fs
 funs:X.s₀.heap.FunFrames X.base X.outer
 frf:∀ b∈X.fs,X.H₀ b=none
structure Inv (X:Cx) (pins:List (Addr×Obj)) (σ:List (Option V)) (H:Hp) (s:Shared):Prop where
 ok:X.Ok
 os:s.os=X.s₀.os
 bare:AllBare s.gens
 base:Un X.fs X.ex X.H₀ H X.s₀.heap s.heap
 loc:∃ m,s.heap.Ns X.env.locals m/\∀ (i:Nat) (x:Str) (v:V),X.N[i]?=some x -> σ[i]?=some (some v) -> Vis X.env.scope x -> ∃ u,RelV v u/\qPe X.env s.heap m x u
 cell:∀ x c,X.env.cells.lookup x=some c -> ∃ v,s.heap.IsCell c v
 free:H X.env.locals=none
 freeC:∀ x c,X.env.cells.lookup x=some c -> H c=none
 pin:∀ p∈X.pn++pins,s.heap.get? p.1=some p.2/\H p.1=none/\p.1≠X.env.locals/\p.1∉X.fs/\∀ v,p.2.data≠.cell v
 hok:HOk X.prog X.w H s.heap
 len:σ.length=X.N.length
section
variable {X:Cx} {pins:List (Addr×Obj)} {σ:List (Option V)} {H H':Hp} {s:Shared} {h':Heap}
theorem Cx.Ok.nofr (ok:X.Ok) {b:Addr} {o:Obj} (e:X.base.get? b=some o):b∉X.fs:=fun hb=>by
 have:=(ok.funs.mem hb).1
 rw [e] at this;cases this
theorem Inv.bs (I:Inv X pins σ H s):∀ b o,X.base.get? b=some o -> s.heap.get? b=some o/\H b=none:=fun b o e=>
 ⟨I.base.keep b o (I.ok.bs b o e).1 (I.ok.bs b o e).2 (I.ok.nofr e) (I.ok.noex b o e),I.base.free b o (I.ok.bs b o e).1 (I.ok.bs b o e).2 (I.ok.noex b o e)⟩
theorem Inv.bk (I:Inv X pins σ H s):∀ b o,X.base.get? b=some o -> s.heap.get? b=some o:=fun b o e=>(I.bs b o e).1
theorem Inv.mod (I:Inv X pins σ H s):Mod X.K X.mg X.base:=I.ok.mod
theorem Inv.kIn (I:Inv X pins σ H s):X.K.In s.heap:=I.ok.mod.kin.keeps I.bk
theorem Inv.lt (I:Inv X pins σ H s):X.env.locals < s.heap.objs.size:=let ⟨_,hn,_⟩:=I.loc;hn.lt
theorem Inv.sz (I:Inv X pins σ H s):X.s₀.heap.objs.size<=s.heap.objs.size:=Nat.le_trans I.ok.above (Nat.le_of_lt I.lt)
theorem Inv.nofs (I:Inv X pins σ H s) {a:Addr} (h:s.heap.objs.size<=a):a∉X.fs:=fun hb=>by
 obtain ⟨_,o,ho,_⟩:=I.ok.funs.mem hb
 exact absurd (Nat.lt_of_lt_of_le (Heap.lt_size ho) (Nat.le_trans I.sz h)) (Nat.lt_irrefl _)
theorem Inv.cne (I:Inv X pins σ H s):∀ x c,X.env.cells.lookup x=some c -> c≠X.env.locals:=fun x c e z=>by
 obtain ⟨v,o,ho,hd⟩:=I.cell x c e
 obtain ⟨m,⟨o',es,ep,ho',hd',_⟩,_⟩:=I.loc
 rw [z,ho'] at ho;cases ho;rw [hd'] at hd;cases hd
theorem Inv.funs (I:Inv X pins σ H s):s.heap.FunFrames X.base X.outer:=by
 have all:∀ (l:List Env),(∀ b∈frs l,b∈X.fs) -> X.s₀.heap.FunFrames X.base l -> s.heap.FunFrames X.base l:=by
  intro l
  induction l with
  | nil=>intro _ _;trivial
  | cons env r ih=>
   intro hs hl
   obtain ⟨hk,⟨L,o,hf,hn,ho,hd⟩,hr⟩:=hl
   have hL:L∈X.fs:=hs L (by unfold frs;rw [List.filterMap_cons,hf];exact List.mem_cons_self)
   obtain ⟨sl,e⟩:=I.base.slot L o ho (I.ok.frf L hL) hL fun z=>I.ok.exfs L z hL
   exact ⟨hk,⟨L,_,hf,hn,e,hd⟩,ih (fun b hb=>hs b (by unfold frs;rw [List.filterMap_cons,hf];exact List.mem_cons_of_mem _ hb)) hr⟩
 exact all X.outer (fun _ hb=>hb) I.ok.funs
theorem Inv.stack (I:Inv X pins σ H s):s.heap.FunFrames X.base X.stack:=by
 rcases I.ok.stk with e | ⟨e,hf⟩
 ·rw [e];exact I.funs
 ·rw [e]
  obtain ⟨m,hn,_⟩:=I.loc
  refine .cons (by rw [I.ok.kind];decide) hf hn ?_ I.funs
  exact Heap.get?_none_of_le (Nat.le_trans I.ok.bsz I.ok.above)
theorem Inv.stkSub (I:Inv X pins σ H s):∀ b∈frs X.stack,b∈X.env.locals::X.fs:=fun b hb=>by
 rcases I.ok.stk with e | ⟨e,hf⟩
 ·rw [e] at hb;exact List.mem_cons_of_mem _ hb
 ·rw [e] at hb
  unfold frs at hb
  rw [List.filterMap_cons,hf] at hb
  exact hb
theorem Inv.stkFree (I:Inv X pins σ H s):∀ b∈frs X.stack,H b=none:=fun b hb=>by
 rcases List.mem_cons.mp (I.stkSub b hb) with e | hb
 ·rw [e];exact I.free
 ·obtain ⟨_,o,ho,_⟩:=I.ok.funs.mem hb
  exact I.base.free b o ho (I.ok.frf b hb) fun z=>I.ok.exfs b z hb
theorem Inv.step {g':Array GenState} {t':Nat} {d':Drawn} {ch:List Addr} (I:Inv X pins σ H s)
  (hch:∀ b∈ch,(b∈X.ex\/X.s₀.heap.objs.size<=b)/\b≠X.env.locals/\(∀ x c,X.env.cells.lookup x=some c -> c≠b)/\∀ p∈X.pn++pins,p.1≠b)
  (keep:∀ b o,b≠X.env.locals -> b∉X.fs -> b∉ch -> s.heap.get? b=some o -> H b=none -> h'.get? b=some o)
  (slot:∀ b o,b≠X.env.locals -> b∈X.fs -> b∉ch -> s.heap.get? b=some o -> H b=none -> ∃ sl,h'.get? b=some { o with slots:=sl }) (free:∀ b o,b∉ch -> s.heap.get? b=some o -> H b=none -> H' b=none)
  (there:∀ b o,b∉ch -> s.heap.get? b=some o -> ∃ o',h'.get? b=some o')
  (tups:∀ b xs,H b=some (.tup xs) -> H' b=some (.tup xs)) (frzs:∀ b o u,H b=some (.frz o u) -> H' b=some (.frz o u)) (tbls:∀ b ps,H b=some (.tbl ps) -> ∃ more,H' b=some (.tbl (ps++more)))
  (ns:∀ m,s.heap.Ns X.env.locals m -> h'.Ns X.env.locals m) (hok:HOk X.prog X.w H' h') (hg:AllBare g'):
  Inv X pins σ H' { s with heap:=h',gens:=g',drawn:=d',toks:=t' }:=by
 have neL:∀ b o,X.s₀.heap.get? b=some o -> b≠X.env.locals:=fun b o e=>Nat.ne_of_lt (Nat.lt_of_lt_of_le (Heap.lt_size e) I.ok.above)
 have neC:∀ b o,X.s₀.heap.get? b=some o -> b∉X.ex -> b∉ch:=fun b o e hx hb=>by
  rcases (hch b hb).1 with z | z
  ·exact hx z
  ·exact absurd (Nat.lt_of_lt_of_le (Heap.lt_size e) z) (Nat.lt_irrefl _)
 have cellK:∀ x c,X.env.cells.lookup x=some c -> ∀ v,s.heap.IsCell c v -> h'.IsCell c v:=fun x c e v ⟨o,ho,hd⟩=>by
  have nch:c∉ch:=fun z=>(hch c z).2.2.1 x c e rfl
  by_cases hc:c∈X.fs
  ·obtain ⟨sl,q⟩:=slot c o (I.cne x c e) hc nch ho (I.freeC x c e)
   exact ⟨_,q,hd⟩
  ·exact ⟨o,keep c o (I.cne x c e) hc nch ho (I.freeC x c e),hd⟩
 refine ⟨I.ok,I.os,hg,⟨fun b o e n hb hx=>?_,fun b o e n hb hx=>?_,fun b o e n hx=>?_,fun b o e hx=>?_,fun b xs e=>tups b xs (I.base.tups b xs e),fun b o xs e=>frzs b o xs (I.base.frzs b o xs e),fun b ps e=>?_⟩,?_,fun x c e=>?_,?_,fun x c e=>?_,fun p hp=>?_,hok,I.len⟩
 ·exact keep b o (neL b o e) hb (neC b o e hx) (I.base.keep b o e n hb hx) (I.base.free b o e n hx)
 ·obtain ⟨sl,e1⟩:=I.base.slot b o e n hb hx
  obtain ⟨sl',e2⟩:=slot b _ (neL b o e) hb (neC b o e hx) e1 (I.base.free b o e n hx)
  exact ⟨sl',e2⟩
 ·obtain ⟨o',e1⟩:=I.base.there b o e hx
  exact free b o' (neC b o e hx) e1 (I.base.free b o e n hx)
 ·obtain ⟨o',e1⟩:=I.base.there b o e hx
  exact there b o' (neC b o e hx) e1
 ·obtain ⟨m1,e1⟩:=I.base.tbls b ps e
  obtain ⟨m2,e2⟩:=tbls b _ e1
  exact ⟨m1++m2,by rw [e2,Array.append_assoc]⟩
 ·obtain ⟨m,hn,hl⟩:=I.loc
  refine ⟨m,ns m hn,fun i x v e1 e2 e3=>?_⟩
  obtain ⟨u,r,l⟩:=hl i x v e1 e2 e3
  refine ⟨u,r,?_⟩
  rcases l with l | ⟨k,c,e,z⟩
  ·exact .inl l
  ·exact .inr ⟨k,c,e,cellK x c e _ z⟩
 ·obtain ⟨v,z⟩:=I.cell x c e
  exact ⟨v,cellK x c e v z⟩
 ·obtain ⟨m,⟨o,_,_,ho,_⟩,_⟩:=I.loc
  exact free _ o (fun z=>(hch _ z).2.1 rfl) ho I.free
 ·obtain ⟨v,o,ho,hd⟩:=I.cell x c e
  exact free c o (fun z=>(hch c z).2.2.1 x c e rfl) ho (I.freeC x c e)
 ·obtain ⟨e,n,ne,nf,d⟩:=I.pin p hp
  have nch:p.1∉ch:=fun z=>(hch p.1 z).2.2.2 p hp rfl
  exact ⟨keep p.1 p.2 ne nf nch e n,free p.1 p.2 nch e n,ne,nf,d⟩
theorem Inv.un {t':Nat} (I:Inv X pins σ H s) (u:Un X.fs [] H H' s.heap h') (hok:HOk X.prog X.w H' h'):Inv X pins σ H' { s with heap:=h',toks:=t' }:=by
 obtain ⟨m,⟨o,es,ep,ho,r⟩,_⟩:=id I.loc
 obtain ⟨sl,hL⟩:=u.any ho I.free (by simp)
 exact I.step (g':=s.gens) (d':=s.drawn) (ch:=[]) (fun _ z=>nomatch z) (fun b o _ hb _ e n=>u.keep b o e n hb (by simp)) (fun b o _ hb _ e n=>u.slot b o e n hb (by simp)) (fun b o _ e n=>u.free b o e n (by simp)) (fun b o _ e=>u.there b o e (by simp)) u.tups u.frzs u.tbls (fun m' hm=>by
  obtain ⟨o',es',ep',ho',r'⟩:=hm
  rw [ho] at ho';cases ho'
  exact ⟨_,es',ep',hL,r'⟩) hok I.bare
theorem Inv.call {g':Array GenState} {t':Nat} {d':Drawn} {ch:List Addr} (I:Inv X pins σ H s) (u:Un (frs X.stack) ch H H' s.heap h') (hok:HOk X.prog X.w H' h') (hg:AllBare g')
  (hch:∀ b∈ch,(b∈X.ex\/X.s₀.heap.objs.size<=b)/\b≠X.env.locals/\(∀ x c,X.env.cells.lookup x=some c -> c≠b)/\∀ p∈X.pn++pins,p.1≠b):
  Inv X pins σ H' { s with heap:=h',gens:=g',drawn:=d',toks:=t' }:=by
 obtain ⟨m,⟨o,es,ep,ho,r⟩,_⟩:=id I.loc
 obtain ⟨sl,hL⟩:=u.any ho I.free fun z=>(hch _ z).2.1 rfl
 exact I.step (ch:=ch) hch (fun b o hL hb hc e n=>u.keep b o e n (fun z=>(List.mem_cons.mp (I.stkSub b z)).elim hL hb) hc) (fun b o _ _ hc e n=>u.any e n hc) (fun b o hc e n=>u.free b o e n hc) (fun b o hc e=>u.there b o e hc) u.tups u.frzs u.tbls (fun m' hm=>by
  obtain ⟨o',es',ep',ho',r'⟩:=hm
  rw [ho] at ho';cases ho'
  exact ⟨_,es',ep',hL,r'⟩) hok hg
theorem Inv.turned {t':Nat} {it:Addr} (I:Inv X pins σ H s) (k:∀ b o,b≠it -> s.heap.get? b=some o -> h'.get? b=some o) (hn:H it=none) (hL:it≠X.env.locals)
  (h1:it∈X.ex\/X.s₀.heap.objs.size<=it) (h2:∀ x c,X.env.cells.lookup x=some c -> c≠it) (h3:∀ p∈X.pn++pins,p.1≠it):Inv X pins σ H { s with heap:=h',toks:=t' }:=by
 have nit:∀ b u,H b=some u -> b≠it:=fun b u e z=>by rw [z,hn] at e;cases e
 refine I.step (g':=s.gens) (d':=s.drawn) (ch:=[it]) (fun b hb=>?_) (fun b o _ _ hc e _=>k b o (fun z=>hc (by simp [z])) e) (fun b o _ _ hc e _=>⟨o.slots,k b o (fun z=>hc (by simp [z])) e⟩) (fun _ _ _ _ n=>n)
  (fun b o hc e=>⟨o,k b o (fun z=>hc (by simp [z])) e⟩) (fun _ _ e=>e) (fun _ _ _ e=>e) (fun b ps e=>⟨#[],by rw [e];simp⟩) (fun m hm=>?_) (fun b u e=>?_) I.bare
 ·have e:b=it:=by simpa using hb
  subst e
  exact ⟨h1,hL,h2,h3⟩
 ·obtain ⟨o,es,ep,ho,r⟩:=hm
  exact ⟨o,es,ep,k _ o (Ne.symm hL) ho,r⟩
 ·refine (I.hok b u e).stay (fun c v hc q=>k c v ?_ q) (fun _ q=>q) fun _ _ q=>q
  rcases hc with z | z
  ·rw [z];exact nit b u e
  ·exact nit c _ z
theorem Inv.tok (I:Inv X pins σ H s) (t:Nat):Inv X pins σ H { s with toks:=t }:=I.un (h':=s.heap) (t':=t) Un.refl I.hok
theorem Inv.kept {t':Nat} (I:Inv X pins σ H s) (k:∀ b u,s.heap.get? b=some u -> h'.get? b=some u):Inv X pins σ H { s with heap:=h',toks:=t' }:=I.un (Un.kept k) (I.hok.kept k)
theorem Inv.laid {a:Addr} {o:HO} {t':Nat} (I:Inv X pins σ H s) (k:∀ b u,s.heap.get? b=some u -> h'.get? b=some u) (hp:s.heap.objs.size<=a) (new:ObjOk X.prog X.w (upd H a o) h' a o):
  Inv X pins σ (upd H a o) { s with heap:=h',toks:=t' }:=I.un (Un.laid k hp (I.hok.fresh hp)) (I.hok.laid k hp new)
theorem Inv.write {x e:Addr} {o:HO} {t':Nat} (I:Inv X pins σ H s) (mu:Mut (H x)) (he:e=x\/H e=some (.own x)) (k:∀ b u,b≠e -> s.heap.get? b=some u -> h'.get? b=some u) (heo:∃ u,h'.get? e=some u)
  (new:ObjOk X.prog X.w (upd H x o) h' x o):Inv X pins σ (upd H x o) { s with heap:=h',toks:=t' }:=I.un (Un.write mu he k heo) (I.hok.write mu he k heo new)
theorem Inv.pins_of {pins':List (Addr×Obj)} (I:Inv X pins σ H s) (h:∀ p∈pins',s.heap.get? p.1=some p.2/\H p.1=none/\p.1≠X.env.locals/\p.1∉X.fs/\∀ v,p.2.data≠.cell v):Inv X pins' σ H s:=
 ⟨I.ok,I.os,I.bare,I.base,I.loc,I.cell,I.free,I.freeC,fun p hp=>(List.mem_append.mp hp).elim (fun z=>I.pin p (List.mem_append_left _ z)) (h p),I.hok,I.len⟩
theorem nodup_ix {N:List Str} (hN:N.Nodup) {i j:Nat} {x:Str} (a:N[i]?=some x) (b:N[j]?=some x):i=j:=by
 obtain ⟨h1,e1⟩:=List.getElem?_eq_some_iff.mp a
 obtain ⟨h2,e2⟩:=List.getElem?_eq_some_iff.mp b
 exact (List.getElem_inj hN).mp (e1.trans e2.symm)
theorem qET {M:Model} {A:Around} {E:Value -> Shared -> Prop} {i:Nat} {x:Str} {v:V} {u:Value} {Q:Unit -> Shared -> Prop} (I:Inv X pins σ H s) (hN:X.N.Nodup) (hi:X.N[i]?=some x) (hx:Loc X.env.scope x) (r:RelV v u)
  (h:∀ s',Inv X pins (σ.set i (some v)) H s' -> (∃ a,Heap.SameBut a s.heap s'.heap/\(a=X.env.locals\/X.env.cells.lookup x=some a)) -> Q () s') (hf:X.fn x=true\/X.env.scope.names.lookup x=some .local:=by first | exact .inl rfl | exact .inr rfl | assumption):wpAny M A (storeName X.env x u) Q E s:=by
 obtain ⟨m,hn,hl⟩:=id I.loc
 have hcls:(X.env.scope.kind==.class||(X.env.scope.kind==.module&&X.env.locals != X.env.globals))=false:=by rw [I.ok.kind];rfl
 have hiσ:i < σ.length:=by rw [I.len];exact (List.getElem?_eq_some_iff.mp hi).1
 have cne:=I.cne
 have tracked:∀ {a:Addr} {h':Heap},(∃ o,s.heap.get? a=some o/\H a=none) -> Heap.SameBut a s.heap h' -> HOk X.prog X.w H h':=fun {a h'} ha hs b ob e=>by
  obtain ⟨_,_,hfree⟩:=ha
  refine (I.hok b ob e).stay (fun c w' hc q=>(hs.2 c ?_).trans q) (fun _ q=>q) fun _ _ q=>q
  rintro rfl
  rcases hc with rfl | hc
  ·rw [hfree] at e;cases e
  ·rw [hfree] at hc;cases hc
 rcases hx with hk | hk
 ·refine wpAny_storeName_local hk hn (fun h' hn' hs=>?_) hcls
  obtain ⟨oL,_,_,hoL,_⟩:=id hn
  refine h _ ⟨I.ok,I.os,I.bare,⟨fun b o e n hb hx=>?_,fun b o e n hb hx=>?_,I.base.free,fun b o e hx=>?_,I.base.tups,I.base.frzs,I.base.tbls⟩,⟨_,hn',fun j y v' e1 e2 e3=>?_⟩,fun y c e=>?_,I.free,I.freeC,fun p hp=>?_,tracked ⟨oL,hoL,I.free⟩ hs,by simpa using I.len⟩ ⟨_,hs,.inl rfl⟩
  ·exact (hs.2 b (Nat.ne_of_lt (Nat.lt_of_lt_of_le (Heap.lt_size e) I.ok.above))).trans (I.base.keep b o e n hb hx)
  ·obtain ⟨sl,e1⟩:=I.base.slot b o e n hb hx
   exact ⟨sl,(hs.2 b (Nat.ne_of_lt (Nat.lt_of_lt_of_le (Heap.lt_size e) I.ok.above))).trans e1⟩
  ·obtain ⟨o',e1⟩:=I.base.there b o e hx
   exact ⟨o',(hs.2 b (Nat.ne_of_lt (Nat.lt_of_lt_of_le (Heap.lt_size e) I.ok.above))).trans e1⟩
  ·by_cases hj:j=i
   ·subst hj
    rw [hi] at e1;cases e1
    rw [List.getElem?_set_self hiσ] at e2
    cases e2
    exact ⟨u,r,.inl ⟨hk,by simp⟩⟩
   ·rw [List.getElem?_set_ne (Ne.symm hj)] at e2
    obtain ⟨u',r',q⟩:=hl j y v' e1 e2 e3
    refine ⟨u',r',?_⟩
    rcases q with ⟨k,e⟩ | ⟨k,c,e,z⟩
    ·refine .inl ⟨k,?_⟩
     have:y≠x:=fun e=>hj (nodup_ix hN e1 (e ▸ hi))
     simp [this,e]
    ·exact .inr ⟨k,c,e,z.sameBut hs (cne y c e)⟩
  ·obtain ⟨w',z⟩:=I.cell y c e
   exact ⟨w',z.sameBut hs (cne y c e)⟩
  ·obtain ⟨e,n,ne,nf,d⟩:=I.pin p hp
   exact ⟨(hs.2 p.1 ne).trans e,n,ne,nf,d⟩
 ·have hfn:X.fn x=true:=by
   rcases hf with z | z
   ·exact z
   ·rw [z] at hk;cases hk
  obtain ⟨c,hc⟩:=I.ok.has x (.inl hk)
  obtain ⟨w',z⟩:=I.cell x c hc
  refine wpAny_storeName_cell I.ok.kind hk hc z (fun h' hc' hs=>?_)
  obtain ⟨oc,hoc,hocd⟩:=id z
  refine h { s with heap:=h' } ⟨I.ok,I.os,I.bare,⟨fun b o e n hb hx=>?_,fun b o e n hb hx=>?_,I.base.free,fun b o e hx=>?_,I.base.tups,I.base.frzs,I.base.tbls⟩,⟨m,hn.sameBut hs (Ne.symm (cne x c hc)),fun j y v' e1 e2 e3=>?_⟩,fun y c' e=>?_,I.free,I.freeC,fun p hp=>?_,tracked ⟨oc,hoc,I.freeC x c hc⟩ hs,by simpa using I.len⟩ ⟨c,hs,.inr hc⟩
  ·exact (hs.2 b (Nat.ne_of_lt (Nat.lt_of_lt_of_le (Heap.lt_size e) (I.ok.cab x c hfn hc)))).trans (I.base.keep b o e n hb hx)
  ·obtain ⟨sl,e1⟩:=I.base.slot b o e n hb hx
   exact ⟨sl,(hs.2 b (Nat.ne_of_lt (Nat.lt_of_lt_of_le (Heap.lt_size e) (I.ok.cab x c hfn hc)))).trans e1⟩
  ·obtain ⟨o',e1⟩:=I.base.there b o e hx
   exact ⟨o',(hs.2 b (Nat.ne_of_lt (Nat.lt_of_lt_of_le (Heap.lt_size e) (I.ok.cab x c hfn hc)))).trans e1⟩
  ·by_cases hj:j=i
   ·subst hj
    rw [hi] at e1;cases e1
    rw [List.getElem?_set_self hiσ] at e2
    cases e2
    exact ⟨u,r,.inr ⟨.inl hk,c,hc,hc'⟩⟩
   ·rw [List.getElem?_set_ne (Ne.symm hj)] at e2
    obtain ⟨u',r',q⟩:=hl j y v' e1 e2 e3
    refine ⟨u',r',?_⟩
    rcases q with q | ⟨k,c',e,z'⟩
    ·exact .inl q
    ·refine .inr ⟨k,c',e,z'.sameBut hs ?_⟩
     rintro rfl
     exact hj (nodup_ix hN e1 (I.ok.inj _ _ _ e hc ▸ hi))
  ·by_cases hcc:c'=c
   ·subst hcc;exact ⟨_,hc'⟩
   ·obtain ⟨w2,z2⟩:=I.cell y c' e
    exact ⟨w2,z2.sameBut hs hcc⟩
  ·obtain ⟨e,n,ne,nf,d⟩:=I.pin p hp
   refine ⟨(hs.2 p.1 ?_).trans e,n,ne,nf,d⟩
   intro q
   rw [q,hoc] at e
   have q':oc=p.2:=Option.some.inj e
   exact d w' (by rw [<- q'];exact hocd)
theorem store_ok {M:Model} {A:Around} {E:Value -> Shared -> Prop} {i:Nat} {x:Str} {v:V} {u:Value} {Q:Unit -> Shared -> Prop} (I:Inv X pins σ H s) (hN:X.N.Nodup) (hi:X.N[i]?=some x) (hx:Loc X.env.scope x) (r:RelV v u)
  (h:∀ s',Inv X pins (σ.set i (some v)) H s' -> Q () s') (hf:X.fn x=true\/X.env.scope.names.lookup x=some .local:=by first | exact .inl rfl | exact .inr rfl | assumption):wpAny M A (storeName X.env x u) Q E s:=
 qET I hN hi hx r (fun s' I' _=>h s' I') hf
theorem Inv.call' {s':Shared} {ch:List Addr} (I:Inv X pins σ H s) (ho:s'.os=s.os) (u:Un (frs X.stack) ch H H' s.heap s'.heap) (hok:HOk X.prog X.w H' s'.heap) (hg:AllBare s'.gens)
  (hch:∀ b∈ch,(b∈X.ex\/X.s₀.heap.objs.size<=b)/\b≠X.env.locals/\(∀ x c,X.env.cells.lookup x=some c -> c≠b)/\∀ p∈X.pn++pins,p.1≠b):Inv X pins σ H' s':=by
 obtain ⟨h',g',d',t',o'⟩:=s'
 have e:o'=s.os:=ho
 subst e
 exact I.call (g':=g') (t':=t') (d':=d') u hok hg hch
end
noncomputable abbrev XK:=Value -> Option Addr -> Hp -> Prop
noncomputable abbrev St:=List (Option V)
noncomputable abbrev VK:=V -> Hp -> Prop
noncomputable abbrev TE:=St -> Hp -> VK -> Prop
noncomputable abbrev TT:=St -> Hp -> (Bool -> Hp -> Prop) -> Prop
noncomputable abbrev TA:=St -> Hp -> (List V -> Hp -> Prop) -> Prop
structure qEt where
 nx:St -> Hp -> Prop
 rt:VK
 bk:St -> Hp -> Prop:=fun _ _=>False
 ct:St -> Hp -> Prop:=fun _ _=>False
noncomputable abbrev TS:=qEt -> St -> Hp -> Prop
noncomputable def EP (X:Cx) (pins:List (Addr×Obj)) (σ:St) (Q:VK) (u:Value) (s':Shared):Prop:=∃ v H',Inv X pins σ H' s'/\RelV v u/\Q v H'
noncomputable def TP (X:Cx) (pins:List (Addr×Obj)) (σ:St) (Q:Bool -> Hp -> Prop) (b:Bool) (s':Shared):Prop:=∃ H',Inv X pins σ H' s'/\Q b H'
noncomputable def AP (X:Cx) (pins:List (Addr×Obj)) (σ:St) (Q:List V -> Hp -> Prop) (us:List Value) (s':Shared):Prop:=∃ vs H',Inv X pins σ H' s'/\Vals vs us/\Q vs H'
noncomputable def SP (X:Cx) (pins:List (Addr×Obj)) (D:qEt) (f:Flow) (s':Shared):Prop:=
 match f with
 | .next=>∃ σ' H',Inv X pins σ' H' s'/\D.nx σ' H'
 | .brk=>∃ σ' H',Inv X pins σ' H' s'/\D.bk σ' H'
 | .cont=>∃ σ' H',Inv X pins σ' H' s'/\D.ct σ' H'
 | .ret u=>∃ v σ' H',Inv X pins σ' H' s'/\RelV v u/\D.rt v H'
noncomputable def PE (X:Cx) (e:Expr) (t:TE):Prop:=
 ∀ (pins:List (Addr×Obj)) (s:Shared) (σ:St) (H:Hp) (Q:VK),Inv X pins σ H s -> t σ H Q -> wpAny (model X.prog X.w) X.A (eval e X.env) (EP X pins σ Q) X.xe s
noncomputable def PT (X:Cx) (e:Expr) (t:TT):Prop:=
 ∀ (pins:List (Addr×Obj)) (s:Shared) (σ:St) (H:Hp) (Q:Bool -> Hp -> Prop),Inv X pins σ H s -> t σ H Q -> wpAny (model X.prog X.w) X.A (isTrue e X.env (eval e X.env)) (TP X pins σ Q) X.xe s
noncomputable def PW (X:Cx) (e:Expr) (t:TT):Prop:=
 ∀ (whole:Sem Value) (pins:List (Addr×Obj)) (s:Shared) (σ:St) (H:Hp) (Q:Bool -> Hp -> Prop),Inv X pins σ H s -> t σ H Q -> wpAny (model X.prog X.w) X.A (isTrue e X.env whole) (TP X pins σ Q) X.xe s
theorem PW.pt {X:Cx} {e:Expr} {t:TT} (h:PW X e t):PT X e t:=h _
noncomputable def PA (X:Cx) (es:List Expr) (t:TA):Prop:=
 ∀ (pos:Pos) (pins:List (Addr×Obj)) (s:Shared) (σ:St) (H:Hp) (Q:List V -> Hp -> Prop),Inv X pins σ H s -> t σ H Q -> wpAny (model X.prog X.w) X.A (spliced (backTo pos (starEach es X.env))) (AP X pins σ Q) X.xe s
noncomputable def PS (X:Cx) (st:Stmt) (t:TS):Prop:=
 ∀ (pins:List (Addr×Obj)) (s:Shared) (σ:St) (H:Hp) (D:qEt),Inv X pins σ H s -> t D σ H -> wpAny (model X.prog X.w) X.A (exec st X.env) (SP X pins D) X.xe s
noncomputable def PSs (X:Cx) (st:List Stmt) (t:TS):Prop:=
 ∀ (pins:List (Addr×Obj)) (s:Shared) (σ:St) (H:Hp) (D:qEt),Inv X pins σ H s -> t D σ H -> wpAny (model X.prog X.w) X.A (execs st X.env) (SP X pins D) X.xe s
theorem thn {α:Type} {t:Sem α} {Q Q':α -> Shared -> Prop} {M:Model} {A:Around} {E:Value -> Shared -> Prop} {s:Shared} (h:wpAny M A t Q E s) (hQ:∀ a s,Q a s -> Q' a s):wpAny M A t Q' E s:=wpAny_mono h hQ fun _ _ x=>x
open PySem PySem.Spec PyProof.Rows
section
variable {X:Cx}
theorem bin {a b:Expr} {ta tb:TE} (ha:PE X a ta) (hb:PE X b tb) {pins:List (Addr×Obj)} {s:Shared} {σ:St} {H:Hp} {R:V -> V -> Hp -> Prop} (I:Inv X pins σ H s) (h:ta σ H fun x H1=>tb σ H1 fun y H2=>R x y H2)
  {α:Type} {Q:α -> Shared -> Prop} {f:Value -> Value -> Sem α}
  (hf:∀ v u s2 x y H2,Inv X pins σ H2 s2 -> RelV x v -> RelV y u -> R x y H2 -> wpAny (model X.prog X.w) X.A (f v u) Q X.xe s2):
  wpAny (model X.prog X.w) X.A (eval a X.env) (fun v s₁=>wpAny (model X.prog X.w) X.A (eval b X.env) (fun u s₂=>wpAny (model X.prog X.w) X.A (f v u) Q X.xe s₂) X.xe s₁) X.xe s:=by
 refine thn (ha pins s σ H _ I h) fun v s1 ⟨x,H1,I1,r1,q1⟩=>?_
 refine thn (hb pins s1 σ H1 _ I1 q1) fun u s2 ⟨y,H2,I2,r2,q2⟩=>?_
 exact hf v u s2 x y H2 I2 r1 r2 q2
noncomputable def qPY (i:Nat):TE:=fun σ H Q=>∃ v,σ[i]?=some (some v)/\Q v H
noncomputable def tC (v:V):TE:=fun _ H Q=>Q v H
theorem pe_var {i:Nat} {x:Str} {pos:Pos} (hN:X.N[i]?=some x) (hv:Vis X.env.scope x) (hd:(x==("__debug__":Str))=false:=by decide) (hcd:(x==("__classdict__":Str))=false:=by decide):PE X (.Name x pos) (qPY i):=by
 intro pins s σ H Q I h
 obtain ⟨v,e,h⟩:=h
 obtain ⟨m,hn,hl⟩:=I.loc
 obtain ⟨u,r,l⟩:=hl i x v hN e hv
 have fin:EP X pins σ Q u s:=⟨v,H,I,r,h⟩
 rcases l with ⟨hk,hm⟩ | ⟨hk,c,hc,hcell⟩
 ·exact wpAny_Name (wpAny_loadName_local I.ok.kind hk hn hm fin) hd
 ·rcases hk with hk | hk
  ·exact wpAny_Name (wpAny_loadName_cell I.ok.kind hk hc hcell fin) hd
  ·exact wpAny_Name (wpAny_loadName_free I.ok.kind hk hc hcell fin hcd) hd
theorem pe_int {i j pos}:PE X (.Constant (.int i) j pos) (tC (.int i)):=fun _ _ _ H _ I h=>wpAny_Constant_int ⟨.int i,H,I.tok _,⟨_,rfl⟩,h⟩
theorem pe_bl {b j pos}:PE X (.Constant (.bool b) j pos) (tC (.bl b)):=fun _ _ _ H _ I h=>Constant_bool ⟨.bl b,H,I,rfl,h⟩
theorem pe_non {j pos}:PE X (.Constant .none j pos) (tC .non):=fun _ _ _ H _ I h=>Constant_none ⟨.non,H,I,rfl,h⟩
theorem pe_str {x j pos}:PE X (.Constant (.str x) j pos) (tC (.str x)):=fun _ _ _ H _ I h=>Calls.Constant_str ⟨.str x,H,I.tok _,⟨_,rfl⟩,h⟩
noncomputable def Gl (X:Cx) (x:Str):Prop:=X.env.kindOf x=some .globalImplicit
theorem ld_glob {E:Value -> Shared -> Prop} {pins:List (Addr×Obj)} {s:Shared} {σ:St} {H:Hp} {x:Str} {u:Value} {pos:Pos} {Q:Value -> Shared -> Prop} (I:Inv X pins σ H s) (hg:Gl X x) (hm:X.mg x=some u) (h:Q u s)
  (hd:(x==("__debug__":Str))=false:=by decide):wpAny (model X.prog X.w) X.A (eval (.Name x pos) X.env) Q E s:=
 Calls.Name_function_global I.ok.kind hg (Calls.loadGlobal_global (by rw [I.ok.glob];exact I.mod.glob.keeps I.bk) hm h) hd
theorem qFj {E:Value -> Shared -> Prop} {pins:List (Addr×Obj)} {s:Shared} {σ:St} {H:Hp} {x:Str} {u:Value} {pos:Pos} {Q:Value -> Shared -> Prop} (I:Inv X pins σ H s) (hg:Gl X x) (hm:X.mg x=none) (hv:bootBuiltins x=some u) (h:Q u s)
  (hn:x≠"__name__":=by decide) (hd:(x==("__debug__":Str))=false:=by decide):wpAny (model X.prog X.w) X.A (eval (.Name x pos) X.env) Q E s:=by
 obtain ⟨mb,h1,h2⟩:=I.mod.blt
 exact Calls.Name_function_global I.ok.kind hg (Calls.loadGlobal_builtin (by rw [I.ok.glob];exact I.mod.glob.keeps I.bk) hm (by rw [I.ok.blt];exact h1.keeps I.bk) ((h2 x hn).trans hv) h) hd
theorem pe_glob {x:Str} {v:V} {u:Value} {pos:Pos} (hg:Gl X x) (hm:X.mg x=some u) (r:RelV v u) (hd:(x==("__debug__":Str))=false:=by decide):PE X (.Name x pos) (tC v):=
 fun _ _ _ H _ I h=>ld_glob I hg hm ⟨v,H,I,r,h⟩ hd
theorem pe_bltn {x:Str} {v:V} {u:Value} {pos:Pos} (hg:Gl X x) (hm:X.mg x=none) (hv:bootBuiltins x=some u) (r:RelV v u) (hn:x≠"__name__":=by decide) (hd:(x==("__debug__":Str))=false:=by decide):PE X (.Name x pos) (tC v):=
 fun _ _ _ H _ I h=>qFj I hg hm hv ⟨v,H,I,r,h⟩ hn hd
variable {a b:Expr} {ta tb:TE} {pos:Pos}
noncomputable def tB (t:TE):TT:=fun σ H Q=>t σ H fun x H1=>∃ c,x=.bl c/\Q c H1
theorem pt_val {e:Expr} {t:TE} (h:PE X e t) (he:∀ whole,isTrue e X.env whole=(do let v <- whole;standAt e.pos;holding [v] (truthy v)):=by intro _;rfl):PT X e (tB t):=by
 intro pins s σ H Q I hw
 refine isTrue_plain (thn (h pins s σ H _ I hw) fun v s1 ⟨x,H1,I1,r1,q1⟩=>?_) (he _)
 obtain ⟨d,rfl,q⟩:=q1
 cases r1
 exact wpAny_truthy_bool ⟨H1,I1,q⟩
variable {tA tB':TT} {qB6:List Expr}
noncomputable def tAnd (t u:TT):TT:=fun σ H Q=>t σ H fun c H1=>if c=true then u σ H1 Q else Q false H1
noncomputable def tOr (t u:TT):TT:=fun σ H Q=>t σ H fun c H1=>if c=true then Q true H1 else u σ H1 Q
noncomputable def qPi (t:TT):TT:=fun σ H Q=>t σ H fun c H1=>Q (!c) H1
theorem pw_and1 (ha:PT X a tA):PW X (.BoolOp .And [a] pos) tA:=by
 intro wh pins s σ H Q I h
 refine isTrue_and (thn (ha pins s σ H Q I h) fun c s1 e=>?_)
 cases c with
 | true=>exact isTrue_and_nil e
 | false=>exact e
theorem pw_or1 (ha:PT X a tA):PW X (.BoolOp .Or [a] pos) tA:=by
 intro wh pins s σ H Q I h
 refine isTrue_or (thn (ha pins s σ H Q I h) fun c s1 e=>?_)
 cases c with
 | false=>exact isTrue_or_nil e
 | true=>exact e
theorem pw_and (ha:PT X a tA) (hb:PW X (.BoolOp .And (b::qB6) pos) tB'):PW X (.BoolOp .And (a::b::qB6) pos) (tAnd tA tB'):=by
 intro wh pins s σ H Q I h
 refine isTrue_and (thn (ha pins s σ H _ I h) fun c s1 ⟨H1,I1,q1⟩=>?_)
 cases c with
 | true=>exact hb wh pins s1 σ H1 Q I1 q1
 | false=>exact ⟨H1,I1,q1⟩
theorem pw_or (ha:PT X a tA) (hb:PW X (.BoolOp .Or (b::qB6) pos) tB'):PW X (.BoolOp .Or (a::b::qB6) pos) (tOr tA tB'):=by
 intro wh pins s σ H Q I h
 refine isTrue_or (thn (ha pins s σ H _ I h) fun c s1 ⟨H1,I1,q1⟩=>?_)
 cases c with
 | true=>exact ⟨H1,I1,q1⟩
 | false=>exact hb wh pins s1 σ H1 Q I1 q1
theorem pt_not (ha:PT X a tA):PT X (.UnaryOp .Not a pos) (qPi tA):=by
 intro pins s σ H Q I h
 exact isTrue_not (ha pins s σ H (fun c H1=>Q (!c) H1) I h)
noncomputable def tAndV (ta tb:TE):TE:=fun σ H Q=>ta σ H fun x H1=>∃ c,x=.bl c/\if c=true then tb σ H1 Q else Q (.bl false) H1
noncomputable def tOrV (ta tb:TE):TE:=fun σ H Q=>ta σ H fun x H1=>∃ c,x=.bl c/\if c=true then Q (.bl true) H1 else tb σ H1 Q
noncomputable def qMy (ta:TE):TE:=fun σ H Q=>ta σ H fun x H1=>∃ c,x=.bl c/\Q (.bl (!c)) H1
theorem pe_one {op} {t:TE} (h:PE X a t):PE X (.BoolOp op [a] pos) t:=fun pins s σ H Q I hw=>BoolOp_one (h pins s σ H Q I hw)
theorem pe_and (ha:PE X a ta) (hb:PE X (.BoolOp .And (b::qB6) pos) tb):PE X (.BoolOp .And (a::b::qB6) pos) (tAndV ta tb):=by
 intro pins s σ H Q I h
 refine BoolOp_and (thn (ha pins s σ H _ I h) fun v s1 ⟨x,H1,I1,r1,q1⟩=>?_)
 obtain ⟨c,rfl,q1⟩:=q1
 cases r1
 refine wpAny_truthy_bool ?_
 cases c with
 | true=>exact hb pins s1 σ H1 Q I1 q1
 | false=>exact ⟨.bl false,H1,I1,rfl,q1⟩
theorem pe_or (ha:PE X a ta) (hb:PE X (.BoolOp .Or (b::qB6) pos) tb):PE X (.BoolOp .Or (a::b::qB6) pos) (tOrV ta tb):=by
 intro pins s σ H Q I h
 refine BoolOp_or (thn (ha pins s σ H _ I h) fun v s1 ⟨x,H1,I1,r1,q1⟩=>?_)
 obtain ⟨c,rfl,q1⟩:=q1
 cases r1
 refine wpAny_truthy_bool ?_
 cases c with
 | false=>exact hb pins s1 σ H1 Q I1 q1
 | true=>exact ⟨.bl true,H1,I1,rfl,q1⟩
theorem pe_not (ha:PE X a ta):PE X (.UnaryOp .Not a pos) (qMy ta):=by
 intro pins s σ H Q I h
 refine UnaryOp_ (thn (ha pins s σ H _ I h) fun v s1 ⟨x,H1,I1,r1,q1⟩=>?_)
 obtain ⟨c,rfl,q1⟩:=q1
 cases r1
 exact not_of (wpAny_truthy_bool ⟨.bl (!c),H1,I1,rfl,q1⟩)
end
open PySem PySem.Spec PyProof.Rows
noncomputable def SqL (K:PySem.W.Frag) (H:Hp) (a:Addr) (xs:List V):Prop:=
 Rd H a (.lst xs)\/
  ∃ (o:Obj) (its:Array Value) (n:Nat),K.lookup a=some o/\o.cls=.type "list"/\o.dict=none/\o.data=.seq its n/\its.size<=sizeLine/\Vals xs its.toList
noncomputable def SqT (K:PySem.W.Frag) (H:Hp) (a:Addr) (xs:List V):Prop:=
 Rd H a (.tup xs)\/
  ∃ (o:Obj) (its:Array Value) (n:Nat),K.lookup a=some o/\o.cls=.type "tuple"/\o.data=.seq its n/\its.size<=sizeLine/\Vals xs its.toList
noncomputable def qPN:Value -> Option V
 | .none=>some .non
 | .bool b=>some (.bl b)
 | .int i _=>some (.int i)
 | .str x _=>some (.str x)
 | .bytes b _=>some (.byt b)
 | .float b _=>some (.flt b)
 | .ref a=>some (.ref a)
 | .type n=>some (.ty n)
 | _=>none
theorem RelV.abs {x:V} {u:Value} (r:RelV x u):qPN u=some x:=by
 cases x with
 | non=>cases r;rfl
 | bl _=>cases r;rfl
 | int _=>obtain ⟨t,rfl⟩:=r;rfl
 | str _=>obtain ⟨t,rfl⟩:=r;rfl
 | byt _=>obtain ⟨t,rfl⟩:=r;rfl
 | flt _=>obtain ⟨t,rfl⟩:=r;rfl
 | ref _=>cases r;rfl
 | ty _=>cases r;rfl
theorem RelV.inj {x y:V} {u:Value} (r:RelV x u) (q:RelV y u):x=y:=Option.some.inj (r.abs.symm.trans q.abs)
theorem Vals.inj:∀ {xs ys:List V} {us:List Value},Vals xs us -> Vals ys us -> xs=ys
 | _,_,_,.nil,.nil=>rfl
 | _,_,_,.cons r t,.cons r' t'=>by rw [r.inj r',Vals.inj t t']
section
variable {X:Cx} {pins:List (Addr×Obj)} {σ:St} {H:Hp} {s:Shared} {a:Addr} {xs ys:List V}
theorem Inv.list (I:Inv X pins σ H s) (h:SqL X.K H a xs):∃ its:List Value,Vals xs its/\PlainL s.heap a its.toArray/\xs.length<=sizeLine:=by
 rcases h with h | ⟨o,its,n,hk,hc,hd,hs,hz,r⟩
 ·obtain ⟨z,its,n,r,e⟩:=h.ok I.hok
  exact ⟨its,r,⟨_,n,e,rfl,rfl,rfl⟩,z⟩
 ·refine ⟨its.toList,r,⟨o,n,I.kIn a o hk,hc,hd,by simpa using hs⟩,?_⟩
  have e:=r.length
  simp only [Array.length_toList] at e
  omega
theorem Inv.tuple (I:Inv X pins σ H s) (h:SqT X.K H a xs):∃ its:List Value,Vals xs its/\IsTup s.heap a its.toArray/\xs.length<=sizeLine:=by
 rcases h with h | ⟨o,its,n,hk,hc,hs,hz,r⟩
 ·obtain ⟨z,its,r,p⟩:=h.ok I.hok
  exact ⟨its,r,p,z⟩
 ·refine ⟨its.toList,r,⟨o,I.kIn a o hk,hc,n,by simpa using hs⟩,?_⟩
  have e:=r.length
  simp only [Array.length_toList] at e
  omega
theorem Inv.list_inj (I:Inv X pins σ H s) (h:SqL X.K H a xs) (h':SqL X.K H a ys):xs=ys:=by
 obtain ⟨its,r,⟨o,n,e,_,_,d⟩,_⟩:=I.list h
 obtain ⟨its',r',⟨o',n',e',_,_,d'⟩,_⟩:=I.list h'
 rw [e] at e';cases e'
 rw [d] at d'
 injection d' with d1 _
 have:its=its':=by simpa using congrArg Array.toList d1
 subst this
 exact r.inj r'
theorem Inv.tuple_inj (I:Inv X pins σ H s) (h:SqT X.K H a xs) (h':SqT X.K H a ys):xs=ys:=by
 obtain ⟨its,r,⟨o,e,_,n,d⟩,_⟩:=I.tuple h
 obtain ⟨its',r',⟨o',e',_,n',d'⟩,_⟩:=I.tuple h'
 rw [e] at e';cases e'
 rw [d] at d'
 injection d' with d1 _
 have:its=its':=by simpa using congrArg Array.toList d1
 subst this
 exact r.inj r'
end
noncomputable abbrev Cx.wish (X:Cx) (E:Value -> Shared -> Prop):Cx:={ X with xe:=E }
noncomputable abbrev Cx.nox (X:Cx):Cx:=X.wish fun _ _=>False
theorem Cx.Ok.wish {X:Cx} (ok:X.Ok) (E:Value -> Shared -> Prop):(X.wish E).Ok:=
 ⟨ok.mod,ok.kind,ok.glob,ok.blt,ok.above,ok.inj,ok.has,ok.cab,ok.hd,ok.frames,ok.stk,ok.exf,ok.bs,ok.bsz,ok.noex,ok.exfs,ok.funs,ok.frf⟩
theorem Cx.Ok.unwish {X:Cx} {E:Value -> Shared -> Prop} (ok:(X.wish E).Ok):X.Ok:=
 ⟨ok.mod,ok.kind,ok.glob,ok.blt,ok.above,ok.inj,ok.has,ok.cab,ok.hd,ok.frames,ok.stk,ok.exf,ok.bs,ok.bsz,ok.noex,ok.exfs,ok.funs,ok.frf⟩
section
variable {X:Cx} {pins:List (Addr×Obj)} {σ:St} {H:Hp} {s:Shared} {E:Value -> Shared -> Prop}
theorem Inv.wish (I:Inv X pins σ H s) (E:Value -> Shared -> Prop):Inv (X.wish E) pins σ H s:=⟨I.ok.wish E,I.os,I.bare,I.base,I.loc,I.cell,I.free,I.freeC,I.pin,I.hok,I.len⟩
theorem Inv.unwish (I:Inv (X.wish E) pins σ H s):Inv X pins σ H s:=⟨I.ok.unwish,I.os,I.bare,I.base,I.loc,I.cell,I.free,I.freeC,I.pin,I.hok,I.len⟩
theorem SP.unwish {D:qEt} {f:Flow} {s':Shared} (h:SP (X.wish E) pins D f s'):SP X pins D f s':=by
 cases f with
 | next=>obtain ⟨σ',H',I,q⟩:=h;exact ⟨σ',H',I.unwish,q⟩
 | brk=>obtain ⟨σ',H',I,q⟩:=h;exact ⟨σ',H',I.unwish,q⟩
 | cont=>obtain ⟨σ',H',I,q⟩:=h;exact ⟨σ',H',I.unwish,q⟩
 | ret u=>obtain ⟨v,σ',H',I,r,q⟩:=h;exact ⟨v,σ',H',I.unwish,r,q⟩
theorem PSs.nox {st:List Stmt} {t:TS} (h:PSs X.nox st t):PSs X st t:=fun pins s σ H D I hw=>
 wpAny_mono (h pins s σ H D (I.wish _) hw) (fun _ _ q=>q.unwish) fun _ _ z=>False.elim z
end
section
variable {X:Cx} {st:Stmt} {qB6:List Stmt} {t u:TS} {e:Expr} {te:TE} {pos:Pos}
noncomputable def qNN:TS:=fun D σ H=>D.nx σ H
noncomputable def qPn (t u:TS):TS:=fun D σ H=>t { D with nx:=u D } σ H
theorem pss_nil:PSs X [] qNN:=fun _ _ σ H _ I h=>wpAny_execs_nil ⟨σ,H,I,h⟩
theorem pss_cons (h1:PS X st t) (h2:PSs X qB6 u):PSs X (st::qB6) (qPn t u):=by
 intro pins s σ H D I h
 refine wpAny_execs_cons (thn (h1 pins s σ H { D with nx:=u D } I h) fun f s1 q=>?_)
 cases f with
 | next=>
  obtain ⟨σ',H',I',q⟩:=q
  exact h2 pins s1 σ' H' D I' q
 | ret v=>exact q
 | brk=>exact q
 | cont=>exact q
theorem pss_one (h1:PS X st t):PSs X [st] t:=by
 intro pins s σ H D I h
 refine wpAny_execs_cons (thn (h1 pins s σ H D I h) fun f s1 q=>?_)
 cases f with
 | next=>exact wpAny_execs_nil q
 | ret v=>exact q
 | brk=>exact q
 | cont=>exact q
theorem Inv.quiet {pins:List (Addr×Obj)} {σ:St} {H:Hp} {s:Shared} (I:Inv X pins σ H s):interactive X.env=false:=by simp [interactive,I.ok.kind]
noncomputable def qNc (te:TE):TS:=fun D σ H=>te σ H fun _ H1=>D.nx σ H1
theorem ps_expr (he:PE X e te) (hs:swapsWith e none pos.line X.env=pure false:=by rfl):PS X (.Expr e pos) (qNc te):=by
 intro pins s σ H D I h
 exact wpAny_Expr_any (thn (he pins s σ H _ I h) fun v s1 ⟨x,H1,I1,r1,q1⟩=>⟨σ,H1,I1,q1⟩) I.quiet hs
noncomputable def qO0 (te:TE):TS:=fun D σ H=>te σ H D.rt
theorem ps_ret (he:PE X e te):PS X (.Return (some e) pos) (qO0 te):=by
 intro pins s σ H D I h
 exact wpAny_Return_some (thn (he pins s σ H _ I h) fun v s1 ⟨x,H1,I1,r1,q1⟩=>⟨x,σ,H1,I1,r1,q1⟩)
noncomputable def qO7 (c:TT) (t u:TS):TS:=fun D σ H=>c σ H fun b H1=>if b=true then t D σ H1 else u D σ H1
theorem ps_if {c:Expr} {a b:List Stmt} {tc:TT} (hc:PT X c tc) (ha:PSs X a t) (hb:PSs X b u):PS X (.If c a b pos) (qO7 tc t u):=by
 intro pins s σ H D I h
 refine wpAny_If (thn (hc pins s σ H _ I h) fun d s1 ⟨H1,I1,q1⟩=>?_)
 cases d with
 | true=>exact ha pins s1 σ H1 D I1 q1
 | false=>exact hb pins s1 σ H1 D I1 q1
end
noncomputable abbrev TG:=V -> St -> Hp -> (St -> Hp -> Prop) -> Prop
noncomputable abbrev TGs:=List V -> St -> Hp -> (St -> Hp -> Prop) -> Prop
noncomputable def PG (X:Cx) (target:Expr) (t:TG):Prop:=
 ∀ (pins:List (Addr×Obj)) (s:Shared) (σ:St) (H:Hp) (v:V) (u:Value) (Q:St -> Hp -> Prop),Inv X pins σ H s -> RelV v u -> t v σ H Q ->
  wpAny (model X.prog X.w) X.A (assign target X.env u) (fun _ s'=>∃ σ' H',Inv X pins σ' H' s'/\Q σ' H') X.xe s
noncomputable def PGs (X:Cx) (ts:List Expr) (t:TGs):Prop:=
 ∀ (pins:List (Addr×Obj)) (s:Shared) (σ:St) (H:Hp) (vs:List V) (us:List Value) (Q:St -> Hp -> Prop),Inv X pins σ H s -> Vals vs us -> t vs σ H Q ->
  wpAny (model X.prog X.w) X.A (assignInOrder ((assignEach ts X.env).map (·.2)) us) (fun _ s'=>∃ σ' H',Inv X pins σ' H' s'/\Q σ' H') X.xe s
noncomputable abbrev TSet:=V -> V -> V -> Hp -> (Hp -> Prop) -> Prop
noncomputable def PSet (X:Cx) (t:TSet):Prop:=
 ∀ (pins:List (Addr×Obj)) (s:Shared) (σ:St) (H:Hp) (o i v:V) (ov iv u:Value) (Q:Hp -> Prop),Inv X pins σ H s -> RelV o ov -> RelV i iv -> RelV v u -> t o i v H Q ->
  wpAny (model X.prog X.w) X.A (setItem ov iv u) (fun _ s'=>∃ H',Inv X pins σ H' s'/\Q H') X.xe s
section
variable {X:Cx} {pos:Pos}
noncomputable def qKc (i:Nat):TG:=fun v σ H Q=>Q (σ.set i (some v)) H
theorem pg_name {i:Nat} {x:Str} (hN:X.N.Nodup) (hi:X.N[i]?=some x) (hx:Loc X.env.scope x) (hf:X.fn x=true\/X.env.scope.names.lookup x=some .local:=by first | exact .inl rfl | exact .inr rfl | assumption):PG X (.Name x pos) (qKc i):=by
 intro pins s σ H v u Q I r h
 exact wpAny_assign_Name (store_ok I hN hi hx r (fun s' I'=>⟨_,H,I',h⟩) hf)
noncomputable def qPj:TGs:=fun vs σ H Q=>vs=[]/\Q σ H
noncomputable def qNC (t:TG) (u:TGs):TGs:=fun vs σ H Q=>∃ v r,vs=v::r/\t v σ H fun σ' H'=>u r σ' H' Q
theorem pgs_nil:PGs X [] qPj:=by
 intro pins s σ H vs us Q I r h
 obtain ⟨e,h⟩:=h
 subst e
 cases r
 exact assignInOrder_nil ⟨σ,H,I,h⟩
theorem pgs_cons {e:Expr} {es:List Expr} {t:TG} {u:TGs} (h1:PG X e t) (h2:PGs X es u)
  (hs:(assignEach (e::es) X.env).map (·.2)=assign e X.env::(assignEach es X.env).map (·.2):=by rfl):PGs X (e::es) (qNC t u):=by
 intro pins s σ H vs us Q I r h
 obtain ⟨v,vr,e1,h⟩:=h
 subst e1
 cases r with
 | cons r rr=>
  rw [hs]
  refine assignInOrder_cons (thn (h1 pins s σ H _ _ _ I r h) fun _ s1 ⟨σ1,H1,I1,q1⟩=>?_)
  exact h2 pins s1 σ1 H1 _ _ Q I1 rr q1
noncomputable def qPB (K:PySem.W.Frag) (n:Nat) (t:TGs):TG:=fun v σ H Q=>∃ a xs,v=.ref a/\SqT K H a xs/\xs.length=n/\t xs σ H Q
theorem pg_tup {es:List Expr} {k:Nat} {t:TGs} {n:Nat} (hc:X.calm=true) (h:PGs X es t)
  (hn:(assignEach es X.env).length=n:=by rfl) (hst:(assignEach es X.env).findIdx? (·.1)=none:=by rfl):PG X (.Tuple es k pos) (qPB X.K n t):=by
 intro pins s σ H v u Q I r hw
 obtain ⟨a,xs,e1,hq,hl,hw⟩:=hw
 subst e1
 cases r
 obtain ⟨its,rv,ht,hz⟩:=I.tuple hq
 refine assign_Tuple_tuple (I.ok.hd hc) ht (by simp [hn,<- hl,rv.length]) hst fun h' hx=>?_
 have I1:Inv X pins σ H { s with heap:=h' }:=I.kept (t':=s.toks) fun b o e=>hx b o (Nat.ne_of_lt (Heap.lt_size e)) e
 exact h pins _ σ H xs _ Q I1 (by simpa using rv) hw
noncomputable def qPD (to ti:TE) (t:TSet):TG:=fun v σ H Q=>to σ H fun o H1=>ti σ H1 fun i H2=>t o i v H2 fun H3=>Q σ H3
theorem pg_sub {o i:Expr} {to ti:TE} {t:TSet} (ho:PE X o to) (hi:PE X i ti) (hs:PSet X t)
  (ha:∀ v,assign (.Subscript o i pos) X.env v=(do
   let ov <- holding [v] (eval o X.env)
   let iv <- holding [v,ov] (eval i X.env)
   standAt pos
   holding [v,ov,iv] (setItem ov iv v)
   release [v,ov,iv] []):=by intro _;rfl):PG X (.Subscript o i pos) (qPD to ti t):=by
 intro pins s σ H v u Q I r h
 rw [ha]
 refine wpAny_bind (wpAny_holding (thn (ho pins s σ H _ I h) fun ov s1 ⟨x,H1,I1,r1,q1⟩=>?_))
 refine wpAny_bind (wpAny_holding (thn (hi pins s1 σ H1 _ I1 q1) fun iv s2 ⟨y,H2,I2,r2,q2⟩=>?_))
 refine wpAny_bind (wpAny_standAt (wpAny_bind (wpAny_holding (thn (hs pins s2 σ H2 x y v ov iv u _ I2 r1 r2 r q2) fun _ s3 ⟨H3,I3,q3⟩=>?_))))
 exact wpAny_release ⟨σ,H3,I3,q3⟩
noncomputable def tAsg (te:TE) (g:TG):TS:=fun D σ H=>te σ H fun x H1=>g x σ H1 D.nx
theorem ps_asg {tg e:Expr} {te:TE} {g:TG} (he:PE X e te) (hg:PG X tg g) (hs:swapsWithSole [tg] e pos.line X.env=pure false:=by rfl) (hw:swappedStores [tg] e X.env=pure none:=by rfl)
  (h1:(assignEach [tg] X.env).map (·.2)=[assign tg X.env]:=by rfl):PS X (.Assign [tg] e pos) (tAsg te g):=by
 intro pins s σ H D I h
 refine wpAny_Assign_stores (thn (he pins s σ H _ I h) fun v s1 ⟨x,H1,I1,r1,q1⟩=>?_) hs hw
 rw [h1]
 exact thn (hg pins s1 σ H1 x v _ I1 r1 q1) fun _ s2 q=>q
theorem ps_set {i:Nat} {x:Str} {e:Expr} {te:TE} {pos':Pos} (hN:X.N.Nodup) (hi:X.N[i]?=some x) (hx:Loc X.env.scope x) (he:PE X e te) (hs:swapsWith e (some (.Name x pos')) pos.line X.env=pure false:=by rfl) (hf:X.fn x=true\/X.env.scope.names.lookup x=some .local:=by first | exact .inl rfl | exact .inr rfl | assumption):
  PS X (.Assign [.Name x pos'] e pos) (tAsg te (qKc i)):=by
 intro pins s σ H D I h
 refine wpAny_Assign_Name (thn (he pins s σ H _ I h) fun v s1 ⟨y,H1,I1,r1,q1⟩=>?_) hs
 exact store_ok I1 hN hi hx r1 (fun s2 I2=>⟨_,H1,I2,q1⟩) hf
end
section
variable {X:Cx} {pos:Pos}
end
structure It where
 go:Nat -> Hp -> Prop
 yld:Nat -> Hp -> V -> Hp -> Prop
 stop:Nat -> Hp -> Prop
noncomputable def qEc (X:Cx) (pins:List (Addr×Obj)) (H:Hp) (b:Addr):Prop:=
 H b=none/\b≠X.env.locals/\b∉X.fs/\(b∈X.ex\/X.s₀.heap.objs.size<=b)/\(∀ x c,X.env.cells.lookup x=some c -> c≠b)/\∀ p∈X.pn++pins,p.1≠b
theorem Inv.fpOk {X:Cx} {pins:List (Addr×Obj)} {σ:St} {H H':Hp} {s:Shared} {b:Addr} (I:Inv X pins σ H s) (hb:s.heap.objs.size<=b) (hn:H' b=none):qEc X pins H' b:=by
 refine ⟨hn,Nat.ne_of_gt (Nat.lt_of_lt_of_le I.lt hb),I.nofs hb,.inr (Nat.le_trans I.sz hb),fun x c e z=>?_,fun p hp z=>?_⟩
 ·obtain ⟨v,q⟩:=I.cell x c e
  exact absurd (Nat.lt_of_lt_of_le q.lt (by rw [z];exact hb)) (Nat.lt_irrefl _)
 ·exact absurd (Nat.lt_of_lt_of_le (Heap.lt_size (I.pin p hp).1) (by rw [z];exact hb)) (Nat.lt_irrefl _)
structure qGy (P:Program) (w:World) (K:PySem.W.Frag) (tg:Expr) (J:It) (fp:List Addr) (it:Addr) (tn:Nat -> Heap -> Prop):Prop where
 mem:it∈fp
 obj:∀ i h,tn i h -> ∀ b∈fp,∃ o,h.get? b=some o/\∀ v,o.data≠.cell v
 keep:∀ i h h',tn i h -> (∀ b∈fp,∀ o,h.get? b=some o -> h'.get? b=some o) -> tn i h'
 item:∀ (X:Cx),X.prog=P -> X.w=w -> X.K=K -> X.calm=true -> ∀ (i:Nat) (pins:List (Addr×Obj)) (s:Shared) (σ:St) (H:Hp) (E:Value -> Shared -> Prop),Inv X pins σ H s -> (∀ b∈fp,qEc X pins H b) -> tn i s.heap -> J.go i H ->
  wpAny (model P w) X.A (pyNext (.ref it)) (fun r s1=>∃ u,r=some u/\
   wpAny (model P w) X.A (letOwnedTupleGo tg (.ref it) u) (fun _ s2=>∃ x H',Inv X pins σ H' s2/\RelV x u/\J.yld i H x H'/\tn (i + 1) s2.heap/\∀ b∈fp,H' b=none) E s1) E s
 done:∀ (X:Cx),X.prog=P -> X.w=w -> X.K=K -> X.calm=true -> ∀ (i:Nat) (pins:List (Addr×Obj)) (s:Shared) (σ:St) (H:Hp) (E:Value -> Shared -> Prop),Inv X pins σ H s -> (∀ b∈fp,qEc X pins H b) -> tn i s.heap -> J.stop i H ->
  wpAny (model P w) X.A (pyNext (.ref it)) (fun r s1=>r=none/\Inv X pins σ H s1) E s
 self:∀ (A:Around) (i:Nat) (s:Shared) (Q:Value -> Shared -> Prop) (E:Value -> Shared -> Prop),tn i s.heap -> Q (.ref it) s -> wpAny (model P w) A (pyIter (.ref it)) Q E s
noncomputable abbrev TI:=St -> Hp -> (It -> Hp -> Prop) -> Prop
noncomputable def PIE (X:Cx) (pins:List (Addr×Obj)) (σ:St) (tg:Expr) (R:It -> Hp -> Prop) (itv:Value) (s2:Shared):Prop:=
 ∃ (it:Addr) (fp:List Addr) (tn:Nat -> Heap -> Prop) (J:It) (H':Hp),itv=.ref it/\Inv X pins σ H' s2/\qGy X.prog X.w X.K tg J fp it tn/\tn 0 s2.heap/\(∀ b∈fp,qEc X pins H' b)/\R J H'
noncomputable def PI (X:Cx) (tg iter:Expr) (wi:TI):Prop:=
 ∀ (pins:List (Addr×Obj)) (s:Shared) (σ:St) (H:Hp) (R:It -> Hp -> Prop),Inv X pins σ H s -> wi σ H R ->
  wpAny (model X.prog X.w) X.A (eval iter X.env) (fun v s1=>wpAny (model X.prog X.w) X.A (pyIter v) (PIE X pins σ tg R) X.xe s1) X.xe s
theorem qJR {M:Model} {A:Around} {E:Value -> Shared -> Prop} {s:Shared} {tg:Expr} {it:Addr} {u:Value} {o:Obj} {n:String} {vs:Array Value} {Q:Unit -> Shared -> Prop} (ho:s.heap.get? it=some o) (hc:o.cls=.type n) (hd:o.data=.fields vs)
  (hn:["enumerate","zip","dict_itemiterator","dict_reverseitemiterator","odict_iterator","itertools.zip_longest","itertools.pairwise"].contains n=false) (hQ:Q () s):wpAny M A (letOwnedTupleGo tg (.ref it) u) Q E s:=by
 unfold letOwnedTupleGo
 cases tg<;>first
  | exact wpAny_pure hQ
  | (cases u<;>first
    | exact wpAny_pure hQ
    | (refine wpAny_bind (wpAny_load ho ?_)
       rw [hc,hd]
       show wpAny M A (if (["enumerate","zip","dict_itemiterator","dict_reverseitemiterator","odict_iterator","itertools.zip_longest","itertools.pairwise"].contains n&&vs[0]?==some (rawInt _))=true then _ else _) Q E s
       rw [if_neg (by intro h;rw [hn,Bool.false_and] at h;cases h)]
       exact wpAny_pure hQ))
noncomputable def Itl (K:PySem.W.Frag) (a:Addr):It:=
 ⟨fun i H=>∃ xs x,SqL K H a xs/\xs[i]?=some x,fun i H x H'=>H'=H/\∀ xs,SqL K H a xs -> xs[i]?=some x,fun i H=>∃ xs,SqL K H a xs/\xs.length<=i⟩
noncomputable def Itt (K:PySem.W.Frag) (a:Addr):It:=
 ⟨fun i H=>∃ xs x,SqT K H a xs/\xs[i]?=some x,fun i H x H'=>H'=H/\∀ xs,SqT K H a xs -> xs[i]?=some x,fun i H=>∃ xs,SqT K H a xs/\xs.length<=i⟩
noncomputable def Itr (lo:Int) (n:Nat):It:=⟨fun i _=>i < n,fun i H x H'=>H'=H/\x=.int (lo + i),fun i _=>n<=i⟩
theorem turn_list {P:Program} {w:World} {K:PySem.W.Frag} {tg:Expr} (a it:Addr):qGy P w K tg (Itl K a) [it] it (fun i h=>h.IsListIter it a i) where
 mem:=by simp
 obj:=fun i h st b hb=>by
  have e:b=it:=by simpa using hb
  subst e
  obtain ⟨o,e,c,d⟩:=st
  exact ⟨o,e,fun v z=>by rw [d] at z;cases z⟩
 keep:=fun i h h' st k=>st.at fun o e=>k it (by simp) o e
 item:=by
  intro X hP hw hK hc i pins s σ H E I hf st hg
  subst hP hw hK
  obtain ⟨xs,x,hq,hx⟩:=hg
  obtain ⟨its,rv,p,hz⟩:=I.list hq
  obtain ⟨u,hu,ru⟩:=rv.get hx
  obtain ⟨f0,f1,f2,f3,f4,f5⟩:=hf it (by simp)
  refine wpAny_pyNext_list_item st p.isList (x:=u) (by simpa using hu) fun h' st' sb=>?_
  have I1:Inv X pins σ H { s with heap:=h' }:=I.turned (t':=s.toks) (fun b o hb e=>(sb.2 b hb).trans e) f0 f1 f3 f4 f5
  obtain ⟨o,e,c,d⟩:=id st'
  exact ⟨u,rfl,qJR (s:={ s with heap:=h' }) e c d (by decide) ⟨x,H,I1,ru,⟨rfl,fun ys hy=>by rw [I.list_inj hy hq];exact hx⟩,st',fun b hb=>(hf b hb).1⟩⟩
 done:=by
  intro X hP hw hK hc i pins s σ H E I hf st hg
  subst hP hw hK
  obtain ⟨xs,hq,hx⟩:=hg
  obtain ⟨its,rv,p,hz⟩:=I.list hq
  obtain ⟨f0,f1,f2,f3,f4,f5⟩:=hf it (by simp)
  have hl:=rv.length
  exact wpAny_pyNext_list_end (I.ok.hd hc) st p.isList (by simp;omega) fun h' eb=>⟨rfl,I.turned (t':=s.toks) (fun b o hb e=>eb b o hb e) f0 f1 f3 f4 f5⟩
 self:=fun _ _ _ _ _ st h=>wpAny_pyIter_listiter st h
theorem turn_tuple {P:Program} {w:World} {K:PySem.W.Frag} {tg:Expr} (a it:Addr):qGy P w K tg (Itt K a) [it] it (fun i h=>h.IsTupleIter it a i) where
 mem:=by simp
 obj:=fun i h st b hb=>by
  have e:b=it:=by simpa using hb
  subst e
  obtain ⟨o,e,c,d⟩:=st
  exact ⟨o,e,fun v z=>by rw [d] at z;cases z⟩
 keep:=fun i h h' st k=>st.at fun o e=>k it (by simp) o e
 item:=by
  intro X hP hw hK hc i pins s σ H E I hf st hg
  subst hP hw hK
  obtain ⟨xs,x,hq,hx⟩:=hg
  obtain ⟨its,rv,p,hz⟩:=I.tuple hq
  obtain ⟨u,hu,ru⟩:=rv.get hx
  obtain ⟨f0,f1,f2,f3,f4,f5⟩:=hf it (by simp)
  refine wpAny_pyNext_tuple_item st (show s.heap.IsTuple a its.toArray from p) (x:=u) (by simpa using hu) fun h' st' sb=>?_
  have I1:Inv X pins σ H { s with heap:=h' }:=I.turned (t':=s.toks) (fun b o hb e=>(sb.2 b hb).trans e) f0 f1 f3 f4 f5
  obtain ⟨o,e,c,d⟩:=id st'
  exact ⟨u,rfl,qJR (s:={ s with heap:=h' }) e c d (by decide) ⟨x,H,I1,ru,⟨rfl,fun ys hy=>by rw [I.tuple_inj hy hq];exact hx⟩,st',fun b hb=>(hf b hb).1⟩⟩
 done:=by
  intro X hP hw hK hc i pins s σ H E I hf st hg
  subst hP hw hK
  obtain ⟨xs,hq,hx⟩:=hg
  obtain ⟨its,rv,p,hz⟩:=I.tuple hq
  obtain ⟨f0,f1,f2,f3,f4,f5⟩:=hf it (by simp)
  have hl:=rv.length
  exact wpAny_pyNext_tuple_end (I.ok.hd hc) st (show s.heap.IsTuple a its.toArray from p) (by simp;omega) fun h' eb=>⟨rfl,I.turned (t':=s.toks) (fun b o hb e=>eb b o hb e) f0 f1 f3 f4 f5⟩
 self:=fun _ _ _ _ _ st h=>wpAny_pyIter_tupleiter st h
theorem qF9 {P:Program} {w:World} {K:PySem.W.Frag} {tg:Expr} (it:Addr) (lo:Int) (n:Nat):qGy P w K tg (Itr lo n) [it] it (fun i h=>IsRangeIter h it (lo + (i:Nat) * 1) ((n:Int) - (i:Nat)) 1) where
 mem:=by simp
 obj:=fun i h st b hb=>by
  have e:b=it:=by simpa using hb
  subst e
  exact ⟨_,st,fun v z=>by
   have z':Data.fields _=Data.cell v:=z
   cases z'⟩
 keep:=fun i h h' st k=>k it (by simp) _ st
 item:=by
  intro X hP hw hK hc i pins s σ H E I hf st hg
  subst hP hw hK
  obtain ⟨f0,f1,f2,f3,f4,f5⟩:=hf it (by simp)
  have W:=Walks.range (prog:=X.prog) (w:=X.w) (I.ok.hd hc) it lo 1 n
  refine W.item i s _ _ hg st fun v h' tk hv st' kk=>?_
  obtain ⟨t,rfl⟩:=hv
  have I1:Inv X pins σ H { s with heap:=h',toks:=tk }:=I.turned (fun b o hb e=>kk b o (by simpa using hb) e) f0 f1 f3 f4 f5
  refine ⟨_,rfl,qJR (s:={ s with heap:=h',toks:=tk }) (n:="range_iterator") st' rfl rfl (by decide) ⟨.int (lo + i),H,I1,⟨t,?_⟩,⟨rfl,rfl⟩,st',fun b hb=>(hf b hb).1⟩⟩
  rw [Int.mul_one]
 done:=by
  intro X hP hw hK hc i pins s σ H E I hf st hg
  subst hP hw hK
  obtain ⟨f0,f1,f2,f3,f4,f5⟩:=hf it (by simp)
  exact wpAny_pyNext_range_end (I.ok.hd hc) st (by have:n<=i:=hg;omega) fun h' eb=>⟨rfl,I.turned (t':=s.toks) (fun b o hb e=>eb b o hb e) f0 f1 f3 f4 f5⟩
 self:=fun _ _ _ _ _ st h=>wpAny_pyIter_rangeiter st h
open PySem PySem.Spec PyProof.Rows
section
variable {X:Cx} {tg:Expr}
theorem qIU {pins:List (Addr×Obj)} {σ:St} {H:Hp} {s:Shared} {R:It -> Hp -> Prop} {E:Value -> Shared -> Prop} {lo hi:Int} {t u v:Tok} {tk:Nat} (I:Inv X pins σ H s) (h1:-(2 ^ 62)<=lo) (h2:lo < 2 ^ 62) (h3:-(2 ^ 62)<=hi) (h4:hi < 2 ^ 62)
  (q:R (Itr lo (hi - lo).toNat) H):wpAny (model X.prog X.w) X.A (pyIter (.ref s.heap.objs.size)) (PIE X pins σ tg R) E { s with heap:=s.heap.push { cls:=.type "range",data:=.fields #[.int lo t,.int hi u,.int 1 v] },toks:=tk }:=by
 refine wpAny_pyIter_range (IsRange.new ..) (small_one h1 h2 h3 h4) ?_
 have I1:Inv X pins σ H { s with heap:=s.heap.push { cls:=.type "range",data:=.fields #[.int lo t,.int hi u,.int 1 v] },toks:=tk }:=I.kept fun b o e=>Heap.get?_push_of_some _ e
 refine ⟨(s.heap.push { cls:=.type "range",data:=.fields #[.int lo t,.int hi u,.int 1 v] }).objs.size,[(s.heap.push { cls:=.type "range",data:=.fields #[.int lo t,.int hi u,.int 1 v] }).objs.size],_,_,H,rfl,
  I1.kept (t':=tk) fun b o e=>Heap.get?_push_of_some _ e,qF9 _ lo (hi - lo).toNat,?_,fun b hb=>?_,q⟩
 ·have e1:lo + ((0:Nat):Int) * 1=lo:=by simp
  have e2:(((hi - lo).toNat:Nat):Int) - ((0:Nat):Int)=Builtin.Range.rangeSize lo hi 1:=by rw [rangeSize_one];split<;>omega
  show IsRangeIter _ _ (lo + ((0:Nat):Int) * 1) ((((hi - lo).toNat:Nat):Int) - ((0:Nat):Int)) 1
  rw [e1,e2]
  exact Heap.get?_push_size _ rfl
 ·have e:b=(s.heap.push { cls:=.type "range",data:=.fields #[.int lo t,.int hi u,.int 1 v] }).objs.size:=by simpa using hb
  subst e
  exact I1.fpOk (Nat.le_refl _) (I1.hok.fresh (Nat.le_refl _))
noncomputable def qNW (ta:TA):TI:=fun σ H R=>ta σ H fun vs H1=>∃ j:Int,vs=[.int j]/\-(2 ^ 62)<=j/\j < 2 ^ 62/\R (Itr 0 j.toNat) H1
theorem pi_range1 {a:Expr} {ta:TA} {p pos:Pos} (hg:Gl X "range") (hm:X.mg "range"=none) (ha:PA X [a] ta) (hs:starEach [a] X.env=[(false,eval a X.env)]:=by rfl):PI X tg (.Call (.Name "range" p) [a] [] pos) (qNW ta):=by
 intro pins s σ H R I h
 refine Call_ (qFj I hg hm boot_range (PyProof.Rows.callWith_type1 (thn (ha pos pins s σ H _ I h) fun us s1 ⟨vs,H1,I1,r1,q1⟩=>?_) hs rfl))
 obtain ⟨j,e,q1,q2,q⟩:=q1
 subst e
 cases r1 with
 | cons r rr=>
  cases rr
  obtain ⟨t,rfl⟩:=r
  exact call_range_1 (qIU I1 (by omega) (by omega) q1 q2 (by simpa using q))
noncomputable def qOt (wi:TI) (g:TG) (tb:TS):TS:=fun D σ H=>wi σ H fun J H1=>∃ W:Nat -> Nat -> St -> Hp -> Prop,(∃ m,W 0 m σ H1)/\∀ i m σ H,W i m σ H ->
 (J.stop i H/\D.nx σ H)\/(J.go i H/\∃ N:St -> Hp -> Prop,(∀ σ' H',N σ' H' -> ∃ m',m' < m/\W (i + 1) m' σ' H')/\∀ x H',J.yld i H x H' -> g x σ H' fun σ2 H2=>tb { D with nx:=N,ct:=N,bk:=D.nx } σ2 H2)
noncomputable def qD7 (fp:List Addr) (h:Heap):List (Addr×Obj):=fp.filterMap fun b=>(h.get? b).map fun o=>(b,o)
theorem qBd {fp:List Addr} {h:Heap} {b:Addr} {o:Obj} (hb:b∈fp) (e:h.get? b=some o):(b,o)∈qD7 fp h:=List.mem_filterMap.mpr ⟨b,hb,by rw [e];rfl⟩
theorem qG9 {fp:List Addr} {h:Heap} {p:Addr×Obj} (hp:p∈qD7 fp h):p.1∈fp/\h.get? p.1=some p.2:=by
 obtain ⟨b,hb,e⟩:=List.mem_filterMap.mp hp
 cases q:h.get? b with
 | none=>rw [q] at e;cases e
 | some o=>
  rw [q] at e
  have e':(b,o)=p:=Option.some.inj e
  subst e'
  exact ⟨hb,q⟩
theorem Inv.pinned {pins:List (Addr×Obj)} {σ:St} {H:Hp} {s:Shared} {fp:List Addr} (I:Inv X pins σ H s) (hf:∀ b∈fp,qEc X pins H b) (ho:∀ b∈fp,∃ o,s.heap.get? b=some o/\∀ v,o.data≠.cell v):Inv X (pins++qD7 fp s.heap) σ H s:=
 I.pins_of fun p hp=>(List.mem_append.mp hp).elim (fun z=>I.pin p (List.mem_append_right _ z)) fun z=>by
  obtain ⟨hb,e⟩:=qG9 z
  obtain ⟨f0,f1,f2,_⟩:=hf p.1 hb
  obtain ⟨o,e',d⟩:=ho p.1 hb
  rw [e] at e';cases e'
  exact ⟨e,f0,f1,f2,d⟩
theorem Inv.unpinned {pins pl:List (Addr×Obj)} {σ:St} {H:Hp} {s:Shared} (I:Inv X (pins++pl) σ H s):Inv X pins σ H s:=I.pins_of fun p hp=>I.pin p (List.mem_append_right _ (List.mem_append_left _ hp))
theorem ps_for {iter:Expr} {body:List Stmt} {wi:TI} {g:TG} {tb:TS} {pos:Pos} (hp:PassesOwn (model X.prog X.w) X.A X.env X.xe) (hc:X.calm=true) (hi:PI X tg iter wi) (hg:PG X tg g) (hb:PSs X body tb)
  (hs:∀ x,foldedSetIterable iter X.env x=pure x:=by intro _;rfl):PS X (.For tg iter body [] pos) (qOt wi g tb):=by
 intro pins s σ H D I h
 refine wpAny_For (thn (hi pins s σ H _ I h) fun v s1 h1=>thn h1 fun itv s2 h2=>?_) hs
 obtain ⟨it,fp,tn,J,H2,e,I2,T,st2,f2,W,⟨m0,w0⟩,qMa⟩:=h2
 subst e
 have stat:∀ {H':Hp},(∀ b∈fp,H' b=none) -> ∀ b∈fp,qEc X pins H' b:=fun hn b hb=>⟨hn b hb,(f2 b hb).2⟩
 refine codeAny_forLoop_any (fun n s'=>∃ i σ' H',Inv X pins σ' H' s'/\tn i s'.heap/\(∀ b∈fp,H' b=none)/\W i n σ' H') ?_ m0 ⟨0,σ,H2,I2,st2,fun b hb=>(f2 b hb).1,w0⟩
 rintro n s3 ⟨i,σ3,H3,I3,st3,fr3,w3⟩
 rcases qMa i n σ3 H3 w3 with ⟨stop,qn⟩ | ⟨go,N,hN,step⟩
 ·refine wpAny_passesOwn hp (thn (T.done X rfl rfl rfl hc i pins s3 σ3 H3 X.xe I3 (stat fr3) st3 stop) fun r s4 ⟨hr,I4⟩=>?_)
  subst hr
  exact wpAny_execs_nil ⟨σ3,H3,I4,qn⟩
 ·refine wpAny_passesOwn hp (thn (T.item X rfl rfl rfl hc i pins s3 σ3 H3 X.xe I3 (stat fr3) st3 go) fun r s4 ⟨u,hr,h4⟩=>?_)
  subst hr
  refine wpAny_passesOwn hp (thn h4 fun _ s5 ⟨x,H5,I5,r5,y5,st5,fr5⟩=>?_)
  have I5':=I5.pinned (stat fr5) (T.obj _ _ st5)
  refine wpAny_passesOwn hp (thn (hg _ s5 σ3 H5 x u _ I5' r5 (step x H5 y5)) fun _ s6 ⟨σ6,H6,I6,q6⟩=>?_)
  refine wpAny_passesOwn hp (thn (hb _ s6 σ6 H6 _ I6 q6) fun f s7 q7=>?_)
  have again:∀ {σ7:St} {H7:Hp},Inv X (pins++qD7 fp s5.heap) σ7 H7 s7 -> N σ7 H7 -> ∃ m,m < n/\∃ i σ' H',Inv X pins σ' H' s7/\tn i s7.heap/\(∀ b∈fp,H' b=none)/\W i m σ' H':=fun {σ7 H7} I7 n7=>by
   obtain ⟨m',hm,w7⟩:=hN σ7 H7 n7
   refine ⟨m',hm,i + 1,σ7,H7,I7.unpinned,T.keep _ _ _ st5 fun b hb o e=>(I7.pin (b,o) (List.mem_append_right _ (List.mem_append_right _ (qBd hb e)))).1,fun b hb=>?_,w7⟩
   obtain ⟨o,e,d⟩:=T.obj _ _ st5 b hb
   exact (I7.pin (b,o) (List.mem_append_right _ (List.mem_append_right _ (qBd hb e)))).2.1
  cases f with
  | next=>obtain ⟨σ7,H7,I7,n7⟩:=q7;exact again I7 n7
  | cont=>obtain ⟨σ7,H7,I7,n7⟩:=q7;exact again I7 n7
  | brk=>obtain ⟨σ7,H7,I7,q7⟩:=q7;exact ⟨σ7,H7,I7.unpinned,q7⟩
  | ret v=>obtain ⟨x7,σ7,H7,I7,r7,q7⟩:=q7;exact ⟨x7,σ7,H7,I7.unpinned,r7,q7⟩
end
open PySem PySem.Spec PyProof.Rows
noncomputable abbrev R2:=V -> V -> Hp -> VK -> Prop
noncomputable def OpR (X:Cx) (f:Value -> Value -> Sem Value) (r:R2):Prop:=
 ∀ (pins:List (Addr×Obj)) (s:Shared) (σ:St) (H:Hp) (x y:V) (v u:Value) (Q:VK),Inv X pins σ H s -> RelV x v -> RelV y u -> r x y H Q ->
  wpAny (model X.prog X.w) X.A (f v u) (EP X pins σ Q) X.xe s
noncomputable def UnR (X:Cx) (f:Value -> Sem Value) (r:V -> Hp -> VK -> Prop):Prop:=
 ∀ (pins:List (Addr×Obj)) (s:Shared) (σ:St) (H:Hp) (x:V) (v:Value) (Q:VK),Inv X pins σ H s -> RelV x v -> r x H Q ->
  wpAny (model X.prog X.w) X.A (f v) (EP X pins σ Q) X.xe s
noncomputable def qAp (X:Cx) (f:Value) (r:List V -> Hp -> VK -> Prop):Prop:=
 ∀ (pins:List (Addr×Obj)) (s:Shared) (σ:St) (H:Hp) (xs:List V) (us:List Value) (Q:VK),Inv X pins σ H s -> Vals xs us -> r xs H Q ->
  wpAny (model X.prog X.w) X.A (call f us) (EP X pins σ Q) X.xe s
noncomputable def tOp (r:R2) (ta tb:TE):TE:=fun σ H Q=>ta σ H fun x H1=>tb σ H1 fun y H2=>r x y H2 Q
noncomputable def tUn (r:V -> Hp -> VK -> Prop) (ta:TE):TE:=fun σ H Q=>ta σ H fun x H1=>r x H1 Q
noncomputable def rI (C:Int -> Int -> Prop) (g:Int -> Int -> V):R2:=fun x y H Q=>∃ i j,x=.int i/\y=.int j/\C i j/\Q (g i j) H
noncomputable def rI0 (g:Int -> Int -> V):R2:=fun x y H Q=>∃ i j,x=.int i/\y=.int j/\Q (g i j) H
noncomputable def rU (g:Int -> V):V -> Hp -> VK -> Prop:=fun x H Q=>∃ i,x=.int i/\Q (g i) H
section
variable {X:Cx} {a b c:Expr} {ta tb tc:TE} {pos:Pos}
theorem qAq (ha:PE X a ta) (hb:PE X b tb) {pins:List (Addr×Obj)} {s:Shared} {σ:St} {H:Hp} {R:V -> V -> Hp -> Prop} (I:Inv X pins σ H s)
  (h:ta σ H fun x H1=>tb σ H1 fun y H2=>R x y H2) {Q:Value -> Shared -> Prop} {f:Value -> Value -> Sem Value}
  (hf:∀ v u s2 x y H2,Inv X pins σ H2 s2 -> RelV x v -> RelV y u -> R x y H2 -> wpAny (model X.prog X.w) X.A (f v u) Q X.xe s2):
  wpAny (model X.prog X.w) X.A (eval a X.env) (fun v s₁=>wpAny (model X.prog X.w) X.A (eval b X.env) (fun u s₂=>wpAny (model X.prog X.w) X.A (f v u) Q X.xe s₂) X.xe s₁) X.xe s:=by
 refine thn (ha pins s σ H _ I h) fun v s1 ⟨x,H1,I1,r1,q1⟩=>?_
 refine thn (hb pins s1 σ H1 _ I1 q1) fun u s2 ⟨y,H2,I2,r2,q2⟩=>?_
 exact hf v u s2 x y H2 I2 r1 r2 q2
theorem pe_op {op:Operator} {r:R2} (ho:OpR X (binaryOp op) r) (ha:PE X a ta) (hb:PE X b tb):PE X (.BinOp a op b pos) (tOp r ta tb):=by
 intro pins s σ H Q I h
 exact wpAny_BinOp (qAq ha hb I h fun v u s2 x y H2 I2 rx ry q=>ho pins s2 σ H2 x y v u Q I2 rx ry q)
theorem pe_un {op:UnaryOp} {r:V -> Hp -> VK -> Prop} (ho:UnR X (unaryOp op) r) (ha:PE X a ta):PE X (.UnaryOp op a pos) (tUn r ta):=by
 intro pins s σ H Q I h
 exact UnaryOp_ (thn (ha pins s σ H _ I h) fun v s1 ⟨x,H1,I1,r1,q1⟩=>ho pins s1 σ H1 x v Q I1 r1 q1)
theorem opI {f:Value -> Value -> Sem Value} {C:Int -> Int -> Prop} {g:Int -> Int -> Int}
  (rule:∀ (i j:Int) (t u:Tok) (s:Shared) (Q:Value -> Shared -> Prop) (E:Value -> Shared -> Prop),C i j -> Q (.int (g i j) s.toks) { s with toks:=s.toks + 1 } -> wpAny (model X.prog X.w) X.A (f (.int i t) (.int j u)) Q E s):
  OpR X f (rI C fun i j=>.int (g i j)):=by
 intro pins s σ H x y v u Q I rx ry h
 obtain ⟨i,j,rfl,rfl,hc,q⟩:=h
 obtain ⟨t,rfl⟩:=rx
 obtain ⟨t',rfl⟩:=ry
 exact rule i j t t' s _ _ hc ⟨.int (g i j),H,I.tok _,⟨_,rfl⟩,q⟩
theorem qOU {f:Value -> Value -> Sem Value} {g:Int -> Int -> Int}
  (rule:∀ (i j:Int) (t u:Tok) (s:Shared) (Q:Value -> Shared -> Prop) (E:Value -> Shared -> Prop),Q (.int (g i j) s.toks) { s with toks:=s.toks + 1 } -> wpAny (model X.prog X.w) X.A (f (.int i t) (.int j u)) Q E s):
  OpR X f (rI0 fun i j=>.int (g i j)):=by
 intro pins s σ H x y v u Q I rx ry h
 obtain ⟨i,j,rfl,rfl,q⟩:=h
 obtain ⟨t,rfl⟩:=rx
 obtain ⟨t',rfl⟩:=ry
 exact rule i j t t' s _ _ ⟨.int (g i j),H,I.tok _,⟨_,rfl⟩,q⟩
theorem qMn {f:Value -> Value -> Sem Value} {g:Int -> Int -> Bool}
  (rule:∀ (i j:Int) (t u:Tok) (s:Shared) (Q:Value -> Shared -> Prop) (E:Value -> Shared -> Prop),Q (.bool (g i j)) s -> wpAny (model X.prog X.w) X.A (f (.int i t) (.int j u)) Q E s):
  OpR X f (rI0 fun i j=>.bl (g i j)):=by
 intro pins s σ H x y v u Q I rx ry h
 obtain ⟨i,j,rfl,rfl,q⟩:=h
 obtain ⟨t,rfl⟩:=rx
 obtain ⟨t',rfl⟩:=ry
 exact rule i j t t' s _ _ ⟨.bl (g i j),H,I,rfl,q⟩
noncomputable def CDiv (i j:Int):Prop:=0 < j/\j < 1073741824
noncomputable def CPow (i j:Int):Prop:=0<=j/\j<=1000000/\i.natAbs < 2 ^ 64
noncomputable def CMul (i j:Int):Prop:=(-(2 ^ 64) < i/\i < 2 ^ 64)\/(-(2 ^ 64) < j/\j < 2 ^ 64)
theorem CMul.ok {i j:Int} (h:CMul i j):IntMulOk i j:=by
 rcases h with ⟨h1,h2⟩ | ⟨h1,h2⟩
 ·exact .of_left (intBits_le_64 h1 h2)
 ·exact .of_right (intBits_le_64 h1 h2)
theorem op_add:OpR X (binaryOp .Add) (rI0 fun i j=>.int (i + j)):=qOU fun _ _ _ _ _ _ _ q=>add_int q
theorem op_sub:OpR X (binaryOp .Sub) (rI0 fun i j=>.int (i - j)):=qOU fun _ _ _ _ _ _ _ q=>sub_int q
theorem op_mul:OpR X (binaryOp .Mult) (rI CMul fun i j=>.int (i * j)):=opI fun _ _ _ _ _ _ _ hc q=>mul_int q hc.ok
theorem op_fdiv:OpR X (binaryOp .FloorDiv) (rI CDiv fun i j=>.int (i / j)):=opI fun i j _ _ _ _ _ hc q=>by
 have h1:(0:Int) < j:=hc.1
 have h2:j < 1073741824:=hc.2
 exact floordiv_int (by omega) (by rw [Int.fdiv_eq_ediv_of_nonneg i (by omega)];exact q) (.inl (PyProof.noPylong_small (by omega)))
theorem op_mod:OpR X (binaryOp .Mod) (rI (fun _ j=>0 < j) fun i j=>.int (i % j)):=opI fun i j _ _ _ _ _ hc q=>by
 have h1:(0:Int) < j:=hc
 exact mod_int' (by omega) (by rw [Int.fmod_eq_emod_of_nonneg i (by omega)];exact q)
theorem op_modN:OpR X (binaryOp .Mod) (rI (fun _ j=>j≠0) fun i j=>.int (i.fmod j)):=opI fun _ _ _ _ _ _ _ hc q=>mod_int' hc q
theorem op_pow:OpR X (binaryOp .Pow) (rI CPow fun i j=>.int (i ^ j.toNat)):=opI fun _ _ _ _ _ _ _ hc q=>pow_int_small hc.1 hc.2.1 hc.2.2 q
theorem op_shl:OpR X (binaryOp .LShift) (rI CPow fun i j=>.int (i * 2 ^ j.toNat)):=opI fun _ _ _ _ _ _ _ hc q=>lshift_int_small hc.1 hc.2.1 hc.2.2 q
theorem unI {f:Value -> Sem Value} {g:Int -> Int}
  (rule:∀ (i:Int) (t:Tok) (s:Shared) (Q:Value -> Shared -> Prop) (E:Value -> Shared -> Prop),Q (.int (g i) s.toks) { s with toks:=s.toks + 1 } -> wpAny (model X.prog X.w) X.A (f (.int i t)) Q E s):
  UnR X f (rU fun i=>.int (g i)):=by
 intro pins s σ H x v Q I rx h
 obtain ⟨i,rfl,q⟩:=h
 obtain ⟨t,rfl⟩:=rx
 exact rule i t s _ _ ⟨.int (g i),H,I.tok _,⟨_,rfl⟩,q⟩
theorem un_neg:UnR X (unaryOp .USub) (rU fun i=>.int (-i)):=unI fun _ _ _ _ _ q=>neg_int q
end
section
variable {X:Cx} {a b c:Expr} {ta tb tc:TE} {pos:Pos}
theorem qIg {pins:List (Addr×Obj)} {σ:St} {H:Hp} {s:Shared} {Q:VK} {k k':Bool} (I:Inv X pins σ H s) (q:Q (.bl k) H) (e:k=k'):EP X pins σ Q (.bool k') s:=by
 subst e
 exact ⟨.bl k,H,I,rfl,q⟩
theorem op_lt:OpR X (compareOp .Lt) (rI0 fun i j=>.bl (decide (i < j))):=qMn fun _ _ _ _ _ _ _ q=>lt_int q
theorem op_le:OpR X (compareOp .LtE) (rI0 fun i j=>.bl (decide (i<=j))):=qMn fun _ _ _ _ _ _ _ q=>le_int q
theorem op_gt:OpR X (compareOp .Gt) (rI0 fun i j=>.bl (decide (j < i))):=qMn fun _ _ _ _ _ _ _ q=>gt_int q
theorem op_ge:OpR X (compareOp .GtE) (rI0 fun i j=>.bl (decide (j<=i))):=qMn fun _ _ _ _ _ _ _ q=>ge_int q
theorem op_isN:OpR X (compareOp .Is) (fun x y H Q=>y=.non/\Q (.bl (decide (x=.non))) H):=by
 intro pins s σ H x y v u Q I rx ry h
 obtain ⟨rfl,q⟩:=h
 cases ry
 refine is_none_gen (qIg I q ?_)
 cases x<;>first
  | (cases rx;rfl)
  | (obtain ⟨t,rfl⟩:=rx;rfl)
theorem op_notN:OpR X (compareOp .IsNot) (fun x y H Q=>y=.non/\Q (.bl (!decide (x=.non))) H):=by
 intro pins s σ H x y v u Q I rx ry h
 obtain ⟨rfl,q⟩:=h
 cases ry
 refine isnot_none_gen (qIg I q ?_)
 cases x<;>first
  | (cases rx;rfl)
  | (obtain ⟨t,rfl⟩:=rx;rfl)
theorem OpR.or {f:Value -> Value -> Sem Value} {r r':R2} (h:OpR X f r) (h':OpR X f r'):OpR X f (fun x y H Q=>r x y H Q\/r' x y H Q):=by
 intro pins s σ H x y v u Q I rx ry q
 rcases q with q | q
 ·exact h pins s σ H x y v u Q I rx ry q
 ·exact h' pins s σ H x y v u Q I rx ry q
theorem pe_cmpR {op:CmpOp} {r:R2} (ho:OpR X (compareOp op) r) (ha:PE X a ta) (hb:PE X b tb) (hm:behindInMarks op b=false):PE X (.Compare a [op] [b] pos) (tOp r ta tb):=by
 intro pins s σ H Q I h
 exact wpAny_Compare1 (qAq ha hb I h fun v u s2 x y H2 I2 rx ry q=>ho pins s2 σ H2 x y v u Q I2 rx ry q) hm
noncomputable def qLZ (t:TE):TT:=fun σ H Q=>t σ H fun x H'=>∃ k,x=.bl k/\Q k H'
theorem pt_cmpR {op:CmpOp} {r:R2} (ho:OpR X (compareOp op) r) (ha:PE X a ta) (hb:PE X b tb) (hm:behindInMarks op b=false):PT X (.Compare a [op] [b] pos) (qLZ (tOp r ta tb)):=by
 intro pins s σ H Q I h
 refine wpAny_isTrue_Compare1 (thn (ha pins s σ H _ I h) fun v s1 ⟨x,H1,I1,r1,q1⟩=>thn (hb pins s1 σ H1 _ I1 q1) fun u s2 ⟨y,H2,I2,r2,q2⟩=>
  thn (ho pins s2 σ H2 x y v u _ I2 r1 r2 q2) fun c s3 ⟨z,H3,I3,r3,k,e,q3⟩=>?_) hm
 subst e
 cases r3
 exact wpAny_truthy_bool ⟨H3,I3,q3⟩
noncomputable def tChain (r r':R2) (ta tb tc:TE):TE:=fun σ H Q=>ta σ H fun x H1=>tb σ H1 fun y H2=>r x y H2 fun z H3=>∃ k,z=.bl k/\
 (if k=true then tc σ H3 fun w' H4=>r' y w' H4 Q else Q (.bl false) H3)
theorem pe_chain {op op':CmpOp} {r r':R2} (ho:OpR X (compareOp op) r) (ho':OpR X (compareOp op') r') (ha:PE X a ta) (hb:PE X b tb) (hc:PE X c tc)
  (hm:lastMarks [op,op'] [b,c]=false:=by with_unfolding_all rfl):PE X (.Compare a [op,op'] [b,c] pos) (tChain r r' ta tb tc):=by
 intro pins s σ H Q I h
 refine Compare_chain (thn (ha pins s σ H _ I h) fun v s1 ⟨x,H1,I1,r1,q1⟩=>chain_link (thn (hb pins s1 σ H1 _ I1 q1) fun u s2 ⟨y,H2,I2,r2,q2⟩=>
  thn (ho pins s2 σ H2 x y v u _ I2 r1 r2 q2) fun d s3 ⟨z,H3,I3,r3,k,e,q3⟩=>?_)) hm
 subst e
 cases r3
 refine wpAny_truthy_bool ?_
 cases k with
 | false=>exact ite_ff ⟨.bl false,H3,I3,rfl,q3⟩
 | true=>exact ite_tt (chain_last (thn (hc pins s3 σ H3 _ I3 q3) fun w' s4 ⟨z',H4,I4,r4,q4⟩=>ho' pins s4 σ H4 y z' u w' Q I4 r2 r4 q4))
theorem pt_chain {op op':CmpOp} {r r':R2} (ho:OpR X (compareOp op) r) (ho':OpR X (compareOp op') r') (ha:PE X a ta) (hb:PE X b tb) (hc:PE X c tc)
  (hm:lastMarks [op,op'] [b,c]=false:=by with_unfolding_all rfl):PT X (.Compare a [op,op'] [b,c] pos) (qLZ (tChain r r' ta tb tc)):=by
 intro pins s σ H Q I h
 refine isTrue_chain (thn (ha pins s σ H _ I h) fun v s1 ⟨x,H1,I1,r1,q1⟩=>test_link (thn (hb pins s1 σ H1 _ I1 q1) fun u s2 ⟨y,H2,I2,r2,q2⟩=>
  thn (ho pins s2 σ H2 x y v u _ I2 r1 r2 q2) fun d s3 ⟨z,H3,I3,r3,k,e,q3⟩=>?_)) hm
 subst e
 cases r3
 refine wpAny_truthy_bool ?_
 cases k with
 | false=>
  obtain ⟨k',e',q'⟩:=q3
  cases e'
  exact ite_ff ⟨H3,I3,q'⟩
 | true=>
  refine ite_tt (test_last (thn (hc pins s3 σ H3 _ I3 q3) fun w' s4 ⟨z',H4,I4,r4,q4⟩=>thn (ho' pins s4 σ H4 y z' u w' _ I4 r2 r4 q4) fun d' s5 ⟨z2,H5,I5,r5,k2,e2,q5⟩=>?_))
  subst e2
  cases r5
  exact wpAny_truthy_bool ⟨H5,I5,q5⟩
theorem qFQ:(sizeLine:Nat) < 2 ^ 63:=by rw [sizeLine_eq];decide
theorem vals1 {x:V} {us:List Value} (r:Vals [x] us):∃ u,us=[u]/\RelV x u:=by
 cases r with
 | cons r1 r2=>cases r2;exact ⟨_,rfl,r1⟩
theorem vals2 {x y:V} {us:List Value} (r:Vals [x,y] us):∃ u w',us=[u,w']/\RelV x u/\RelV y w':=by
 cases r with
 | cons r1 r2=>
  cases r2 with
  | cons r3 r4=>cases r4;exact ⟨_,_,rfl,r1,r3⟩
theorem call_max2 (hc:X.calm=true):qAp X (.builtin "max") (fun xs H Q=>∃ i j,xs=[.int i,.int j]/\Q (.int (if j > i then j else i)) H):=by
 intro pins s σ H xs us Q I r h
 obtain ⟨i,j,rfl,q⟩:=h
 obtain ⟨u,w',rfl,⟨t,rfl⟩,⟨t',rfl⟩⟩:=vals2 r
 refine max_two_ints (I.ok.hd hc) fun h' tk k=>⟨_,H,I.kept k,?_,q⟩
 by_cases hj:j > i
 ·rw [if_pos hj,if_pos hj];exact ⟨_,rfl⟩
 ·rw [if_neg hj,if_neg hj];exact ⟨_,rfl⟩
theorem call_min2 (hc:X.calm=true):qAp X (.builtin "min") (fun xs H Q=>∃ i j,xs=[.int i,.int j]/\Q (.int (if j < i then j else i)) H):=by
 intro pins s σ H xs us Q I r h
 obtain ⟨i,j,rfl,q⟩:=h
 obtain ⟨u,w',rfl,⟨t,rfl⟩,⟨t',rfl⟩⟩:=vals2 r
 refine min_two_ints (I.ok.hd hc) fun h' tk k=>⟨_,H,I.kept k,?_,q⟩
 by_cases hj:j < i
 ·rw [if_pos hj,if_pos hj];exact ⟨_,rfl⟩
 ·rw [if_neg hj,if_neg hj];exact ⟨_,rfl⟩
end
open PySem PySem.Spec PyProof.Rows
section
variable {prog:Program} {w:World} {A:Around} {E:Value -> Shared -> Prop} {s:Shared} {K:PySem.W.Frag} {x dx C f:Addr} {mA:Str -> Option Value} {name:Str} {v:Value}
end
section
variable {P:Program} {w:World} {H H':Hp} {h h':Heap} {a C dx:Addr} {fs fs':List (Str×V)}
end
section
variable {X:Cx} {pins:List (Addr×Obj)} {σ:St} {H:Hp} {s:Shared} {a C dx:Addr} {fs:List (Str×V)} {f:Str} {v:V} {A:Around} {E:Value -> Shared -> Prop}
end
section
variable {X:Cx} {o e value:Expr} {f:Str} {pos pos' tpos:Pos} {ta tv:TE}
end
section
variable {X:Cx} {pins:List (Addr×Obj)} {σ:St} {H:Hp} {s:Shared} {A:Around} {E:Value -> Shared -> Prop} {Q:Value -> Shared -> Prop} {c:Value} {b:Bool}
end
open PySem PySem.Spec PyProof.Rows
structure Room (k:Nat) (A:Around):Prop where
 hd:A.handled=none
 dp:A.depth + 3 * k + 5 < recursionLimit
 un:A.units + 16 * k + 200 < cLine
 gd:A.guards=some []
theorem Room.deeper {k:Nat} {A:Around} (r:Room (k + 1) A) (env:Env):Room k (A.deeper env):=
 ⟨r.hd,by have:=r.dp;show A.depth + 1 + 3 * k + 5 < _;omega,by have:=r.un;show A.units + 3 + 16 * k + 200 < _;omega,r.gd⟩
theorem Room.depth {k:Nat} {A:Around} (r:Room k A):A.depth < recursionLimit:=by have:=r.dp;omega
theorem Room.units {k:Nat} {A:Around} (r:Room k A):A.units + 64 < cLine:=by have:=r.un;omega
noncomputable def qOF:TA:=fun _ H Q=>Q [] H
noncomputable def qNB (ta:TE) (tr:TA):TA:=fun σ H Q=>ta σ H fun x H1=>tr σ H1 fun xs H2=>Q (x::xs) H2
section
variable {X:Cx} {e:Expr} {es:List Expr} {te:TE} {t:TA} {pos:Pos}
theorem pa_nil:PA X [] qOF:=fun _ _ _ _ H Q I h=>Calls.spliced_nil ⟨[],H,I,.nil,h⟩
theorem pa_cons (ha:PE X e te) (hr:PA X es t) (hs:starEach (e::es) X.env=(false,eval e X.env)::starEach es X.env:=by rfl):PA X (e::es) (qNB te t):=by
 intro pos pins s σ H Q I h
 rw [hs]
 show wpAny _ _ (spliced ((false,eval e X.env)::backTo pos (starEach es X.env))) _ _ s
 refine Calls.spliced_cons (thn (ha pins s σ H _ I h) fun u s1 ⟨x,H1,I1,r1,q1⟩=>?_)
 exact thn (hr pos pins s1 σ H1 _ I1 q1) fun us s2 ⟨xs,H2,I2,r2,q2⟩=>⟨x::xs,H2,I2,.cons r1 r2,q2⟩
noncomputable def qOo (t:TA):TE:=fun σ H Q=>t σ H fun xs H1=>xs.length<=sizeLine/\∀ p,H1 p=none -> Q (.ref p) (upd H1 p (.tup xs))
noncomputable def qO1 (t:TA):TE:=fun σ H Q=>t σ H fun xs H1=>xs.length<=sizeLine/\∀ p,H1 p=none -> Q (.ref p) (upd H1 p (.lst xs))
theorem pe_tup {x1} (h:PA X es t):PE X (.Tuple es x1 pos) (qOo t):=by
 intro pins s σ H Q I hq
 refine wpAny_Tuple_spliced (thn (h pos pins s σ H _ I hq) fun us s1 ⟨xs,H1,I1,r,z,q⟩=>⟨by rw [<- r.length];exact z,?_⟩)
 have hf:H1 s1.heap.objs.size=none:=I1.hok.fresh (Nat.le_refl _)
 refine ⟨.ref s1.heap.objs.size,upd H1 s1.heap.objs.size (.tup xs),I1.laid (t':=s1.toks) (fun b u e=>Heap.get?_push_of_some _ e) (Nat.le_refl _) ?_,rfl,q _ hf⟩
 exact ⟨z,us,r,⟨_,Heap.get?_push_size _ rfl,rfl,_,rfl⟩⟩
theorem pe_lst (h:PA X es t):PE X (.List es pos) (qO1 t):=by
 intro pins s σ H Q I hq
 refine wpAny_List_spliced (thn (h pos pins s σ H _ I hq) fun us s1 ⟨xs,H1,I1,r,z,q⟩=>⟨by rw [<- r.length];exact z,?_⟩)
 have hf:H1 s1.heap.objs.size=none:=I1.hok.fresh (Nat.le_refl _)
 refine ⟨.ref s1.heap.objs.size,upd H1 s1.heap.objs.size (.lst xs),I1.laid (t':=s1.toks) (fun b u e=>Heap.get?_push_of_some _ e) (Nat.le_refl _) ?_,rfl,q _ hf⟩
 exact ⟨z,us,0,r,Heap.get?_push_size _ rfl⟩
end
noncomputable abbrev Sp:=List V -> Hp -> VK -> XK -> Prop
noncomputable abbrev CXT:=List Env -> Hp -> Shared -> XK -> Value -> Shared -> Prop
structure qMu (P:Program) (w:World) (K:PySem.W.Frag) (mg:Str -> Option Value) (base:Heap) (A:Around) (outer:List Env) (s:Shared) (H:Hp):Prop where
 frames:A.frames=some outer
 mod:Mod K mg base
 bs:∀ b o,base.get? b=some o -> s.heap.get? b=some o/\H b=none
 bsz:base.objs.size<=s.heap.objs.size
 funs:s.heap.FunFrames base outer
 frf:∀ b∈frs outer,H b=none
 hok:HOk P w H s.heap
 bare:AllBare s.gens
noncomputable def CE (outer:List Env) (P:Program) (w:World) (H:Hp) (s:Shared) (Q:VK) (u:Value) (s':Shared):Prop:=
 ∃ v H',s'.os=s.os/\AllBare s'.gens/\Un (frs outer) [] H H' s.heap s'.heap/\HOk P w H' s'.heap/\RelV v u/\Q v H'
noncomputable def CR (CX:CXT) (outer:List Env) (P:Program) (w:World) (H:Hp) (s:Shared) (Q:VK) (E:XK) (r:Result) (s':Shared):Prop:=
 match r with
 | .ok (.ret u)=>CE outer P w H s Q u s'
 | .ok _=>False
 | .error e=>CX outer H s E e s'
structure FnOk (P:Program) (w:World) (K:PySem.W.Frag) (mg:Str -> Option Value) (base:Heap) (CX:CXT) (k:Nat) (f:Addr) (fd:FuncData) (ps:List Str) (sp:Sp):Prop where
 len:∀ vs H Q E,sp vs H Q E -> vs.length=ps.length
 run:∀ (A:Around) (outer:List Env) (s:Shared) (H:Hp) (args:Args) (us:List Value) (vs:List V) (Q:VK) (E:XK),Room k A -> qMu P w K mg base A outer s H -> BindsTo s fd args (ps.zip us) -> Vals vs us -> sp vs H Q E ->
  codeAny (model P w) A (.call (.ref f) args) (CR CX outer P w H s Q E) s
section
variable {X:Cx} {pins:List (Addr×Obj)} {σ:St} {H:Hp} {s s':Shared}
theorem Inv.env0 (I:Inv X pins σ H s):qMu X.prog X.w X.K X.mg X.base X.A X.stack s H:=
 ⟨I.ok.frames,I.ok.mod,I.bs,Nat.le_trans I.ok.bsz I.sz,I.stack,I.stkFree,I.hok,I.bare⟩
theorem Inv.after {Q:VK} {u:Value} (I:Inv X pins σ H s) (h:CE X.stack X.prog X.w H s Q u s'):EP X pins σ Q u s':=by
 obtain ⟨v,H',os,bare,un,hok,r,q⟩:=h
 obtain ⟨hh,g,d,t,os'⟩:=s'
 obtain rfl:os'=s.os:=os
 exact ⟨v,H',I.call (h':=hh) (g':=g) (d':=d) (t':=t) (ch:=[]) un hok bare (fun b z=>absurd z (by simp)),r,q⟩
end
noncomputable def tCall (sp:Sp) (dvs:List V) (E:XK) (t:TA):TE:=fun σ H Q=>t σ H fun vs H1=>sp (vs++dvs) H1 Q E
noncomputable def Binds (K:PySem.W.Frag) (fd:FuncData) (ps:List Str) (ds:List Value):Prop:=
 ∀ (s:Shared) (us:List Value),K.In s.heap -> (us++ds).length=ps.length -> BindsTo s fd ⟨us,[]⟩ (ps.zip (us++ds))
theorem Binds.all {K:PySem.W.Frag} {fd:FuncData} {ps:List Str} (h:∀ us:List Value,us.length=ps.length -> bindArgs fd ⟨us,[]⟩=pure (ps.zip us)):Binds K fd ps []:=fun s us _ hl=>by
 rw [List.append_nil] at hl ⊢
 exact .of_eq (h us hl)
noncomputable def qFl (CX:CXT) (X:Cx) (E:XK):Prop:=∀ (pins:List (Addr×Obj)) (σ:St) (H:Hp) (s:Shared) (e:Value) (s':Shared),Inv X pins σ H s -> CX X.stack H s E e s' -> X.xe e s'
section
variable {X:Cx} {CX:CXT} {k:Nat} {f C:Addr} {fd:FuncData} {ps:List Str} {sp:Sp} {dvs:List V} {ds:List Value} {E:XK} {x m:Str} {p pos apos:Pos} {e o:Expr} {es:List Expr} {ta:TE} {t:TA}
theorem qId {pins:List (Addr×Obj)} {σ:St} {H:Hp} {s:Shared} {Q:VK} {us:List Value} {vs:List V} (F:FnOk X.prog X.w X.K X.mg X.base CX k f fd ps sp) (hr:Room k X.A) (hb:Binds X.K fd ps ds) (hd:Vals dvs ds) (hx:qFl CX X E)
  (I:Inv X pins σ H s) (r:Vals vs us) (h:sp (vs++dvs) H Q E):wpAny (model X.prog X.w) X.A (call (.ref f) us) (EP X pins σ Q) X.xe s:=by
 have r2:Vals (vs++dvs) (us++ds):=r.append hd
 have hl:(us++ds).length=ps.length:=by rw [<- r2.length];exact F.len _ _ _ _ h
 refine wpAny_call (codeAny_mono (F.run X.A X.stack s H ⟨us,[]⟩ (us++ds) (vs++dvs) Q E hr I.env0 (hb s us I.kIn hl) r2 h) fun r s' hq=>?_)
 cases r with
 | error e=>exact hx pins σ H s e s' I hq
 | ok fl=>
  cases fl with
  | ret u=>exact I.after hq
  | next=>exact False.elim hq
  | brk=>exact False.elim hq
  | cont=>exact False.elim hq
theorem pe_call (F:FnOk X.prog X.w X.K X.mg X.base CX k f fd ps sp) (hr:Room k X.A) (hg:Gl X x) (hm:X.mg x=some (.ref f)) (hk:PySem.W.keepIn X.K (.ref f)=true) (hb:Binds X.K fd ps ds) (hd:Vals dvs ds) (hx:qFl CX X E)
  (ha:PA X (e::es) t) (hdb:(x==("__debug__":Str))=false:=by decide) (he:starEach (e::es) X.env=(false,eval e X.env)::starEach es X.env:=by rfl) (hpl:(backTo pos (starEach es X.env)).any (·.1)=false:=by rfl):
  PE X (.Call (.Name x p) (e::es) [] pos) (tCall sp dvs E t):=by
 intro pins s σ H Q I h
 refine wpAny_Call_Name_kw (ld_glob I hg hm ?_ hdb)
 refine PySem.W.callWith_K (h₀:=X.base) I.ok.mod.kin hk (thn (ha pos pins s σ H _ I h) fun us s1 ⟨vs,H1,I1,r,q⟩=>⟨I1.kIn,?_⟩) he hpl
 exact qId F hr hb hd hx I1 r q
theorem pe_call0 (F:FnOk X.prog X.w X.K X.mg X.base CX k f fd ps sp) (hr:Room k X.A) (hg:Gl X x) (hm:X.mg x=some (.ref f)) (hk:PySem.W.keepIn X.K (.ref f)=true) (hb:Binds X.K fd ps ds) (hd:Vals dvs ds) (hx:qFl CX X E)
  (hdb:(x==("__debug__":Str))=false:=by decide):PE X (.Call (.Name x p) [] [] pos) (tCall sp dvs E qOF):=by
 intro pins s σ H Q I h
 refine wpAny_Call_Name_kw (ld_glob I hg hm ?_ hdb)
 exact PySem.W.callWith_K0 I.kIn hk (qId (us:=[]) F hr hb hd hx I .nil h)
end
section
variable {X:Cx} {CX:CXT} {k:Nat} {f C:Addr} {fd:FuncData} {ps ks:List Str} {sp:Sp} {E:XK} {x m:Str} {p pos apos kpos:Pos} {e o:Expr} {es:List Expr} {kws:List Keyword} {te ta:TE} {t tk:TA} {nm:Option Str}
variable {g:List Value -> List Value -> List Value} {gV:List V -> List V -> List V}
end
structure qBB (N P:List Str) (sc:Scope):Prop where
 kind:sc.kind=.function
 co:sc.isCoroutine=false
 gen:sc.isGenerator=false
 nd:N.Nodup
 pre:N.take P.length=P
 par:∀ x∈P,sc.names.lookup x=some .local\/sc.names.lookup x=some .cell
 nofree:∀ y∈sc.names,y.2≠.free
theorem qEF {kindOf:Str -> Option NameKind} {x:Str}:∀ {binds:List (Str×Value)} {m:Str -> Option Value},(∀ v,(x,v)∉binds) -> bindL kindOf binds m x=m x
 | [],_,_=>rfl
 | (n,v)::r,m,h=>by
  unfold bindL
  rw [qEF fun w hw=>h w (List.mem_cons_of_mem _ hw)]
  split
  ·have:x≠n:=by rintro rfl;exact h v List.mem_cons_self
   simp [this]
  ·rfl
theorem qEY {kindOf:Str -> Option NameKind} {x:Str}:∀ {binds:List (Str×Value)} {m:Str -> Option Value},(∀ v,(x,v)∉binds) -> bindC kindOf binds m x=m x
 | [],_,_=>rfl
 | (n,v)::r,m,h=>by
  unfold bindC
  rw [qEY fun w hw=>h w (List.mem_cons_of_mem _ hw)]
  split
  ·rfl
  ·have:x≠n:=by rintro rfl;exact h v List.mem_cons_self
   simp [this]
theorem qD2 {kindOf:Str -> Option NameKind} {x:Str} {v:Value}:∀ {P:List Str} {vs:List Value} {i:Nat} {m:Str -> Option Value},P.Nodup -> P[i]?=some x -> vs[i]?=some v -> kindOf x=some .local ->
  bindL kindOf (P.zip vs) m x=some v
 | [],_,_,_,_,h,_,_=>by simp at h
 | _::_,[],_,_,_,_,h,_=>by simp at h
 | p::P,w::vs,0,m,nd,h1,h2,hk=>by
  simp at h1 h2;subst h1;subst h2
  show bindL kindOf ((p,w)::P.zip vs) m p=_
  unfold bindL
  rw [qEF fun v hv=>(List.nodup_cons.mp nd).1 (List.of_mem_zip hv).1,if_pos hk]
  simp
 | p::P,w::vs,i + 1,m,nd,h1,h2,hk=>by
  show bindL kindOf ((p,w)::P.zip vs) m x=_
  unfold bindL
  exact qD2 (i:=i) (List.nodup_cons.mp nd).2 (by simpa using h1) (by simpa using h2) hk
theorem qEA {kindOf:Str -> Option NameKind} {x:Str} {v:Value}:∀ {P:List Str} {vs:List Value} {i:Nat} {m:Str -> Option Value},P.Nodup -> P[i]?=some x -> vs[i]?=some v -> kindOf x≠some .local ->
  bindC kindOf (P.zip vs) m x=some v
 | [],_,_,_,_,h,_,_=>by simp at h
 | _::_,[],_,_,_,_,h,_=>by simp at h
 | p::P,w::vs,0,m,nd,h1,h2,hk=>by
  simp at h1 h2;subst h1;subst h2
  show bindC kindOf ((p,w)::P.zip vs) m p=_
  unfold bindC
  rw [qEY fun v hv=>(List.nodup_cons.mp nd).1 (List.of_mem_zip hv).1,if_neg hk]
  simp
 | p::P,w::vs,i + 1,m,nd,h1,h2,hk=>by
  show bindC kindOf ((p,w)::P.zip vs) m x=_
  unfold bindC
  exact qEA (i:=i) (List.nodup_cons.mp nd).2 (by simpa using h1) (by simpa using h2) hk
noncomputable def start (N:List Str) (vs:List V):St:=vs.map some++List.replicate (N.length - vs.length) none
noncomputable def cxOf (CX:CXT) (P:Program) (w:World) (K:PySem.W.Frag) (mg:Str -> Option Value) (base:Heap) (N:List Str) (qual:Str) (scope:Scope) (f:Addr) (cd:Value) (A:Around) (outer:List Env) (s:Shared) (H:Hp) (E:XK):Cx where
 prog:=P
 w:=w
 K:=K
 mg:=mg
 base:=base
 A:=A.deeper (envOfC qual scope s.heap.objs.size f cd)
 N:=N
 s₀:=s
 H₀:=H
 env:=envOfC qual scope s.heap.objs.size f cd
 outer:=outer
 stack:=envOfC qual scope s.heap.objs.size f cd::outer
 ex:=[]
 calm:=true
 fn:=fun _=>true
 pn:=[]
 xe:=fun e s'=>wpAny (model P w) (A.deeper (envOfC qual scope s.heap.objs.size f cd)) (leaving (envOfC qual scope s.heap.objs.size f cd) e) (fun _ s''=>CX outer H s E e s'') (fun e' s''=>CX outer H s E e' s'') s'
theorem qFh {sc:Scope} {n:Nat} {x:Str} (h:sc.names.lookup x=some .cell):∃ c,(cellsFrom n sc.names []).lookup x=some c:=by
 have q:=PySem.W.cellsFrom_some sc.names n [] (.inl h)
 exact Option.isSome_iff_exists.mp q
theorem qGT {CX:CXT} {P:Program} {w:World} {K:PySem.W.Frag} {mg:Str -> Option Value} {base:Heap} {N ps:List Str} {qual:Str} {scope:Scope} {f:Addr} {cd:Value} {A:Around} {outer:List Env} {s s1:Shared} {H:Hp} {E:XK} {us:List Value} {vs:List V}
  (S:qBB N ps scope) (hd:A.handled=none) (e0:qMu P w K mg base A outer s H) (hl:vs.length=ps.length) (r:Vals vs us)
  (x:InCallC s s.heap.objs.size (bindL (envOfC qual scope s.heap.objs.size f cd).kindOf (ps.zip us) fun _=>none) (cellsFrom (s.heap.objs.size + 1) scope.names []) (bindC (envOfC qual scope s.heap.objs.size f cd).kindOf (ps.zip us) fun _=>none) s1):
  Inv (cxOf CX P w K mg base N qual scope f cd A outer s H E) [] (start N vs) H s1:=by
 have hpl:ps.length<=N.length:=by have:=congrArg List.length S.pre;rw [List.length_take] at this;omega
 obtain ⟨h1,tk,rfl,hk⟩:=x.done
 have noA:∀ b:Addr,b∉(cxOf CX P w K mg base N qual scope f cd A outer s H E).ex:=fun b z=>absurd (show b∈([]:List Addr) from z) (by simp)
 refine ⟨⟨e0.mod,S.kind,rfl,rfl,Nat.le_refl _,fun y z c h1 h2=>?_,fun y hy=>?_,fun y c _ h=>?_,fun _=>hd,Around.frames_deeper e0.frames,.inr ⟨rfl,rfl⟩,fun b z=>absurd z (noA b),e0.bs,e0.bsz,fun b _ _=>noA b,fun b z=>absurd z (noA b),e0.funs,e0.frf⟩,
  rfl,e0.bare,Un.kept hk,⟨_,x.toInCall.ns,fun i y v h1 h2 h3=>?_⟩,fun y c h=>⟨_,x.cell y c h⟩,e0.hok.fresh (Nat.le_refl _),fun y c h=>?_,fun p hp=>absurd (show p∈([]:List (Addr×Obj)) from hp) (by simp),e0.hok.kept hk,?_⟩
 ·exact name_of_addr x.apart (PySem.mem_of_lookup h1) (PySem.mem_of_lookup h2)
 ·have hy:scope.names.lookup y=some .cell\/scope.names.lookup y=some .free:=hy
  rcases hy with hy | hy
  ·exact qFh hy
  ·exact absurd rfl (S.nofree _ (PySem.mem_of_lookup hy))
 ·exact Nat.le_of_lt (x.above y c (PySem.mem_of_lookup h))
 ·have hi:i < vs.length:=by
   unfold start at h2
   by_cases hi:i < vs.length
   ·exact hi
   ·rw [List.getElem?_append_right (by simpa using hi)] at h2
    rw [List.getElem?_replicate] at h2
    split at h2<;>cases h2
  have ha:vs[i]?=some v:=by
   unfold start at h2
   rw [List.getElem?_append_left (by simpa using hi),List.getElem?_map] at h2
   cases e:vs[i]? with
   | none=>rw [e] at h2;cases h2
   | some a=>rw [e] at h2;cases h2;rfl
  obtain ⟨u,hu,rv⟩:=r.get ha
  have hp:ps[i]?=some y:=by
   rw [<- S.pre,List.getElem?_take_of_lt (by omega)];exact h1
  have ndP:ps.Nodup:=by rw [<- S.pre];exact S.nd.sublist (List.take_sublist _ _)
  refine ⟨u,rv,?_⟩
  rcases S.par y (List.mem_of_getElem? hp) with k | k
  ·exact .inl ⟨k,qD2 ndP hp hu k⟩
  ·obtain ⟨c,e⟩:=qFh (n:=s.heap.objs.size + 1) k
   refine .inr ⟨.inl k,c,e,?_⟩
   have q:=x.cell y c e
   rw [qEA ndP hp hu (by show scope.names.lookup y≠_;rw [k];decide)] at q
   exact q
 ·exact e0.hok.fresh (Nat.le_of_lt (x.above y c (PySem.mem_of_lookup h)))
 ·unfold start
  show _=N.length
  rw [List.length_append,List.length_map,List.length_replicate]
  omega
theorem fn_of {CX:CXT} {P:Program} {w:World} {K:PySem.W.Frag} {mg:Str -> Option Value} {base:Heap} {k:Nat} {f:Addr} {name qual:Str} {params:Arguments} {body:List Stmt} {scope:Scope} {dV kV doc pm cdv ct oc:Value} {an od:Option Addr}
  {osl:Array (Option Value)} {N ps:List Str} {sp:Sp} (lk:K.lookup f=some ⟨oc,od,.func (PySem.W.fnOf name qual params body scope dV kV doc pm an cdv ct),osl⟩) (hcd:PySem.W.codeIn K cdv qual=true) (S:qBB N ps scope)
  (len:∀ vs H Q E,sp vs H Q E -> vs.length=ps.length)
  (hbody:∀ (A:Around) (outer:List Env) (s:Shared) (H:Hp) (vs:List V) (Q:VK) (E:XK),Room k (A.deeper (envOfC qual scope s.heap.objs.size f cdv)) -> sp vs H Q E ->
   ∃ t,PSs (cxOf CX P w K mg base N qual scope f cdv A outer s H E) body t/\t { nx:=fun _ H'=>Q .non H',rt:=Q } (start N vs) H):
  FnOk P w K mg base CX (k + 1) f (PySem.W.fnOf name qual params body scope dV kV doc pm an cdv ct) ps sp:=by
 refine ⟨len,fun A outer s H args us vs Q E hr e0 hb r hsp=>?_⟩
 have hl:=len _ _ _ _ hsp
 have KX:K.In s.heap:=e0.mod.kin.keeps fun b o e=>(e0.bs b o e).1
 have lim:s.heap.NoLimit:=e0.mod.nolimit.keeps fun b o e=>(e0.bs b o e).1
 have hkind:∀ y∈ps.zip us,scope.names.lookup y.1=some .local\/(scope.names.lookup y.1=some .cell/\((cellsFrom (s.heap.objs.size + 1) scope.names []).lookup y.1).isSome=true):=fun ⟨n,v⟩ hy=>by
  rcases S.par n (List.of_mem_zip hy).1 with q | q
  ·exact .inl q
  ·exact .inr ⟨q,PySem.W.cellsFrom_some _ _ _ (.inl q)⟩
 refine codeAny_call_function hr.depth (KX _ _ lk) rfl S.co S.gen rfl (PySem.W.codeRec_of KX hcd) (hb _ _ _ _ ?_)
 refine wpAny_newFunctionEnv_cells S.kind hkind fun env he s1 x=>?_
 subst he
 refine ⟨lim.keeps x.toInCall.keep,codeAny_func ?_⟩
 obtain ⟨t,ht,hq⟩:=hbody A outer s H vs Q E (hr.deeper _) hsp
 have I:Inv (cxOf CX P w K mg base N qual scope f cdv A outer s H E) [] (start N vs) H s1:=qGT S hr.hd e0 hl r x
 refine wpAny_mono (ht [] s1 (start N vs) H _ I hq) (fun fl s' hs=>?_) fun e s' hs=>hs
 have fin:∀ {σ':St} {H':Hp} {v:V} {u:Value},Inv (cxOf CX P w K mg base N qual scope f cdv A outer s H E) [] σ' H' s' -> RelV v u -> Q v H' -> CE outer P w H s Q u s':=
  fun {σ' H' v u} J rv q=>⟨v,H',J.os,J.bare,J.base,J.hok,rv,q⟩
 cases fl with
 | ret u=>
  obtain ⟨v,σ',H',J,rv,q⟩:=hs
  exact fin J rv q
 | next=>
  obtain ⟨σ',H',J,q⟩:=hs
  exact fin (v:=V.non) (u:=Value.none) J rfl q
 | brk=>
  obtain ⟨_,_,_,q⟩:=hs
  exact False.elim q
 | cont=>
  obtain ⟨_,_,_,q⟩:=hs
  exact False.elim q
open PySem PySem.Spec PyProof.Rows
section
variable {X:Cx} {x:Str} {p pos:Pos} {e:Expr} {es:List Expr} {t:TA} {id T:String} {r:List V -> Hp -> VK -> Prop}
noncomputable def tCB (r:List V -> Hp -> VK -> Prop) (t:TA):TE:=fun σ H Q=>t σ H fun vs H1=>r vs H1 Q
theorem pe_callB (hc:qAp X (.builtin id) r) (hg:Gl X x) (hm:X.mg x=none) (hv:bootBuiltins x=some (.builtin id)) (ha:PA X (e::es) t) (hn:x≠"__name__":=by decide) (hdb:(x==("__debug__":Str))=false:=by decide)
  (he:starEach (e::es) X.env=(false,eval e X.env)::starEach es X.env:=by rfl) (hpl:(backTo pos (starEach es X.env)).any (·.1)=false:=by rfl):PE X (.Call (.Name x p) (e::es) [] pos) (tCB r t):=by
 intro pins s σ H Q I h
 refine wpAny_Call_Name_kw (qFj I hg hm hv ?_ hn hdb)
 exact PyProof.Rows.callWith_builtin1 (thn (ha pos pins s σ H _ I h) fun us s1 ⟨vs,H1,I1,r1,q1⟩=>hc pins s1 σ H1 vs us Q I1 r1 q1) he hpl
theorem pe_callTy (hc:qAp X (.type T) r) (hg:Gl X x) (hm:X.mg x=none) (hv:bootBuiltins x=some (.type T)) (ha:PA X (e::es) t) (hn:x≠"__name__":=by decide) (hdb:(x==("__debug__":Str))=false:=by decide)
  (he:starEach (e::es) X.env=(false,eval e X.env)::starEach es X.env:=by rfl) (hpl:(backTo pos (starEach es X.env)).any (·.1)=false:=by rfl):PE X (.Call (.Name x p) (e::es) [] pos) (tCB r t):=by
 intro pins s σ H Q I h
 refine wpAny_Call_Name_kw (qFj I hg hm hv ?_ hn hdb)
 exact PyProof.Rows.callWith_type1 (thn (ha pos pins s σ H _ I h) fun us s1 ⟨vs,H1,I1,r1,q1⟩=>hc pins s1 σ H1 vs us Q I1 r1 q1) he hpl
end
end L2
namespace HT
open PySem PyProof.Rows
section
open PySem.SeqAt
open PySem.AutoSeq1 (wpAny_loadPart')
open PySem.MeetsSeq PySem.MeetsSeq2 PySem.MeetsSeq3
end
section
variable {prog:Program} {w:World} {A:Around} {E:Value -> Shared -> Prop} {s:Shared}
theorem cat_tup {t b:Addr} {vs ws:List Value} {Q:Value -> Shared -> Prop} (ht:IsTup s.heap t vs.toArray) (hb:IsTup s.heap b ws.toArray) (hv:vs≠[])
  (h1:ws=[] -> Q (.ref t) s) (h2:ws≠[] -> Q (.ref s.heap.objs.size) { s with heap:=s.heap.push { cls:=.type "tuple",data:=.seq (vs++ws).toArray } })
  (hsz:vs.length + ws.length<=sizeLine):wpAny (model prog w) A (binaryOp .Add (.ref t) (.ref b)) Q E s:=by
 obtain ⟨⟨cls,dd,data,sl⟩,ho,hc,n,hd⟩:=id ht
 obtain ⟨⟨cls2,dd2,data2,sl2⟩,ho2,hc2,n2,hd2⟩:=id hb
 simp only at hc hd hc2 hd2
 subst hc hd hc2 hd2
 have e:vs.toArray++ws.toArray=(vs++ws).toArray:=by simp
 by_cases hw:ws=[]
 ·exact concat_meets ⟨_,ho,rfl⟩ ⟨_,ho2,rfl⟩ noFill_tuple_add seq_tuple_add PySem.F.slot_tuple_add PySem.F.entry_tuple_add (PySem.F.args_tuple_add_2 _ _)
   (tuple_addW1 t b vs.toArray ws.toArray n n2 dd dd2 sl sl2 (by simpa using hv) (by simp [hw])) ⟨ho,ho2,h1 hw⟩
 ·refine concat_meets ⟨_,ho,rfl⟩ ⟨_,ho2,rfl⟩ noFill_tuple_add seq_tuple_add PySem.F.slot_tuple_add PySem.F.entry_tuple_add (PySem.F.args_tuple_add_2 _ _)
   (tuple_addW2 t b vs.toArray ws.toArray n n2 dd dd2 sl sl2 (by simpa using hv) (by simpa using hw) (by rw [List.size_toArray,List.size_toArray];exact hsz)) ⟨ho,ho2,?_⟩
  rw [e]
  exact h2 hw
noncomputable def sIx (n d:Nat):Option Int -> Nat
 | none=>d
 | some v=>if v < 0 then (v + (n:Int)).toNat else min v.toNat n
theorem sIx_none (n d:Nat):sIx n d none=d:=rfl
theorem sIx_nat (n d k:Nat):sIx n d (some (k:Int))=min k n:=by
 show (if (k:Int) < 0 then ((k:Int) + (n:Int)).toNat else min (k:Int).toNat n)=min k n
 rw [if_neg (by omega),Int.toNat_natCast]
theorem qLj (n d:Nat) (hd:d<=n) (o:Option Int):sIx n d o<=n:=by
 cases o with
 | none=>exact hd
 | some v=>
  show (if v < 0 then (v + (n:Int)).toNat else min v.toNat n)<=n
  by_cases hv:v < 0
  ·rw [if_pos hv];omega
  ·rw [if_neg hv];exact Nat.min_le_right _ _
theorem qHD (v:Int) (n d:Nat):(if v < 0 then max (v + (n:Int)) 0 else min v (n:Int))=((sIx n d (some v):Nat):Int):=by
 show (if v < 0 then max (v + (n:Int)) 0 else min v (n:Int))=(((if v < 0 then (v + (n:Int)).toNat else min v.toNat n):Nat):Int)
 by_cases hv:v < 0
 ·simp only [if_pos hv];omega
 ·simp only [if_neg hv];omega
theorem qF1 (lo hi:Option Int) (n:Nat):Builtin.Slice.sliceAdjust lo hi 1 (n:Int)=(((sIx n 0 lo:Nat):Int),((sIx n n hi:Nat):Int)):=by
 have h1:¬ ((1:Int) < 0):=by omega
 unfold Builtin.Slice.sliceAdjust
 simp only [h1,if_false]
 refine Prod.ext ?_ ?_
 ·cases lo with
  | none=>rfl
  | some v=>exact qHD v n 0
 ·cases hi with
  | none=>rfl
  | some v=>exact qHD v n n
theorem qGB (i j:Nat):Builtin.Slice.slicePlaces (i:Int) (j:Int) 1=j - i:=by
 unfold Builtin.Slice.slicePlaces
 have h1:(1:Int) > 0:=by omega
 simp only [h1,if_true,Int.ediv_one]
 split<;>omega
theorem qC7 {v:Value} {o:Option Int} {Q:Option Int -> Shared -> Prop} (p:IsPart v o) (h:Q o s):wpAny (model prog w) A (Builtin.Slice.slicePartIndex v) Q E s:=by
 cases p with
 | none=>exact slicePart_none h
 | int i t=>exact slicePart_int h
theorem qCJ {sl:Addr} {vl vu:Value} {lo hi:Option Int} {n:Nat} {Q:Int×Int×Nat -> Shared -> Prop} (hs:s.heap.IsSliceOf sl vl vu .none) (pl:IsPart vl lo) (pu:IsPart vu hi)
  (h:Q (((sIx n 0 lo:Nat):Int),1,sIx n n hi - sIx n 0 lo) s):wpAny (model prog w) A (Builtin.Slice.sliceApplied (.ref sl) (pure (n:Int))) Q E s:=by
 obtain ⟨os,hos,hcs,hds⟩:=id hs
 unfold Builtin.Slice.sliceApplied Builtin.Slice.sliceFields
 refine wpAny_bind (wpAny_bind (wpAny_field hos hds (x:=vl) rfl (wpAny_bind (wpAny_field hos hds (x:=vu) rfl (wpAny_bind (wpAny_field hos hds (x:=.none) rfl (wpAny_pure ?_)))))))
 refine wpAny_bind (slicePart_none ?_)
 show wpAny _ _ (if ((1:Int)==0)=true then _ else _) _ _ s
 rw [if_neg (by decide)]
 refine wpAny_bind (qC7 pl (wpAny_bind (qC7 pu (wpAny_bind (wpAny_pure ?_)))))
 show wpAny _ _ (match Builtin.Slice.sliceAdjust lo hi 1 (n:Int) with | (lo,hi)=>pure (lo,(1:Int),Builtin.Slice.slicePlaces lo hi 1)) _ _ s
 rw [qF1 lo hi n]
 show wpAny _ _ (pure (((sIx n 0 lo:Nat):Int),(1:Int),Builtin.Slice.slicePlaces ((sIx n 0 lo:Nat):Int) ((sIx n n hi:Nat):Int) 1)) _ _ s
 rw [qGB]
 exact wpAny_pure h
theorem qIL (xs:Array Value) (i k:Nat):((List.range k).filterMap fun (m:Nat)=>xs[((i:Int) + (m:Int) * 1).toNat]?).toArray=((xs.toList.drop i).take k).toArray:=by
 have e:(fun (m:Nat)=>xs[((i:Int) + (m:Int) * 1).toNat]?)=fun m=>xs[i + m]?:=by
  funext m
  have:((i:Int) + (m:Int) * 1).toNat=i + m:=by omega
  rw [this]
 rw [e]
 have:=pick_run xs i k
 rw [List.filterMap_map] at this
 have e2:((fun x=>xs[x]?)∘fun x=>i + x)=fun m=>xs[i + m]?:=rfl
 rw [e2] at this
 rw [this]
theorem getItem_tuple_cut {t sl:Addr} {items:Array Value} {vl vu:Value} {lo hi:Option Int} {Q:Value -> Shared -> Prop} (ht:IsTup s.heap t items) (hs:s.heap.IsSliceOf sl vl vu .none) (pl:IsPart vl lo) (pu:IsPart vu hi)
  (hw:¬ (sIx items.size 0 lo=0/\sIx items.size items.size hi=items.size))
  (h:Q (.ref s.heap.objs.size) { s with heap:=s.heap.push { cls:=.type "tuple",data:=.seq ((items.toList.drop (sIx items.size 0 lo)).take (sIx items.size items.size hi - sIx items.size 0 lo)).toArray } })
  (hsz:items.size<=sizeLine):wpAny (model prog w) A (getItem (.ref t) (.ref sl)) Q E s:=by
 have htake:sizeOk (.seq ((items.toList.drop (sIx items.size 0 lo)).take (sIx items.size items.size hi - sIx items.size 0 lo)).toArray):=by
  show ((items.toList.drop (sIx items.size 0 lo)).take (sIx items.size items.size hi - sIx items.size 0 lo)).toArray.size<=sizeLine
  rw [List.size_toArray,List.length_take,List.length_drop,Array.length_toList]
  omega
 have hj:sIx items.size items.size hi<=items.size:=qLj _ _ (Nat.le_refl _) hi
 obtain ⟨os,hos,hcs,hds⟩:=id hs
 have hTs:s.TypeIs (.ref sl) "slice":=⟨os,hos,hcs⟩
 unfold getItem
 try with_reducible refine wpAny_holding ?_
 first | refine wpAny_bind (wpAny_pure ?_) | skip
 refine wpAny_bind (wpAny_sequenceKey ht.typeIs (by decide) ?_)
 refine wpAny_bind (wpAny_callSpecial?_slot (name:=Str.ofString "__getitem__") ht.typeIs PyProof.Rows.slot_tuple_getitem
  (wpAny_call_entry PyProof.Rows.slot_tuple_getitem ht.typeIs entry_tuple_getitem ?_ (args_tuple_getitem _ _)))
 show wpAny _ _ (Builtin.Tuple.tupleItemsOf (.ref t) >>=_) _ _ s
 refine wpAny_bind (tupleItemsOf_ ht ?_)
 refine wpAny_bind (wpAny_typeOf hTs ?_)
 rw [if_pos (by decide)]
 refine wpAny_bind (qCJ hs pl pu ?_)
 have hno:¬ ((((sIx items.size 0 lo:Nat):Int)==0&&(1:Int)==1&&(sIx items.size items.size hi - sIx items.size 0 lo)==items.size)=true):=by
  intro q
  rw [Bool.and_eq_true,Bool.and_eq_true] at q
  have q1:((sIx items.size 0 lo:Nat):Int)=0:=eq_of_beq q.1.1
  have q2:sIx items.size items.size hi - sIx items.size 0 lo=items.size:=eq_of_beq q.2
  exact hw ⟨by omega,by omega⟩
 show wpAny _ _ (if (((sIx items.size 0 lo:Nat):Int)==0&&(1:Int)==1&&(sIx items.size items.size hi - sIx items.size 0 lo)==items.size)=true then _ else _) _ _ s
 rw [if_neg hno,qIL]
 first
  | exact wpAny_bind (m:=Builtin.Tuple.tupleExact _) (wpAny_newObj_type (wpAny_pure ⟨_,rfl,wpAny_pure h⟩) htake)
  | exact wpAny_bind (m:=Builtin.Tuple.tupleExact _) (wpAny_newObj_type (wpAny_bind (wpAny_pure (wpAny_pure ⟨_,rfl,wpAny_pure h⟩))) htake)
  | exact wpAny_bind (wpAny_bind (m:=Builtin.Tuple.tupleExact _) (wpAny_newObj_type (wpAny_pure (wpAny_pure ⟨_,rfl,wpAny_pure h⟩)) htake))
  | exact wpAny_bind (wpAny_bind (m:=Builtin.Tuple.tupleExact _) (wpAny_newObj_type (wpAny_pure ⟨_,rfl,wpAny_pure h⟩) htake))
end
end HT
namespace L2
open PySem PySem.Spec PyProof.Rows
noncomputable abbrev TO:=St -> Hp -> (Option Int -> Hp -> Prop) -> Prop
noncomputable def PO (X:Cx) (e:Option Expr) (t:TO):Prop:=
 ∀ (pins:List (Addr×Obj)) (s:Shared) (σ:St) (H:Hp) (Q:Option Int -> Hp -> Prop),Inv X pins σ H s -> t σ H Q ->
  wpAny (model X.prog X.w) X.A (evalPart e X.env) (fun u s'=>∃ o H',Inv X pins σ H' s'/\IsPart u o/\Q o H') X.xe s
noncomputable def qJ8:TO:=fun _ H Q=>Q none H
noncomputable def qNX (t:TE):TO:=fun σ H Q=>t σ H fun x H1=>∃ i,x=.int i/\Q (some i) H1
theorem intsAre_of {ns:List Int}:∀ {us:List Value},Vals (ns.map V.int) us -> IntsAre us ns:=by
 induction ns with
 | nil=>intro us r;rw [List.map_nil] at r;cases r;exact .nil
 | cons n ns ih=>
  intro us r
  rw [List.map_cons] at r
  cases r with
  | cons r1 r2=>
   obtain ⟨t,e⟩:=r1
   subst e
   exact .cons n t (ih r2)
section
variable {X:Cx} {e:Expr} {te:TE} {lo hi:Option Expr} {tl th:TO} {pos p2:Pos}
theorem po_none:PO X none qJ8:=by
 intro pins s σ H Q I h
 rw [evalPart_none]
 exact wpAny_pure ⟨none,H,I,.none,h⟩
theorem po_some (h:PE X e te):PO X (some e) (qNX te):=by
 intro pins s σ H Q I hw
 rw [evalPart_some]
 refine thn (h pins s σ H _ I hw) fun u s1 ⟨x,H1,I1,r1,q1⟩=>?_
 obtain ⟨i,rfl,q⟩:=q1
 obtain ⟨t,rfl⟩:=r1
 exact ⟨some i,H1,I1,.int i t,q⟩
noncomputable def SlR (X:Cx) (r:V -> Option Int -> Option Int -> Hp -> VK -> Prop):Prop:=
 ∀ (pins:List (Addr×Obj)) (s:Shared) (σ:St) (H:Hp) (x:V) (v vl vu:Value) (lo hi:Option Int) (sl:Addr) (Q:VK),Inv X pins σ H s -> RelV x v -> s.heap.IsSliceOf sl vl vu .none -> IsPart vl lo -> IsPart vu hi -> r x lo hi H Q ->
  ∃ T id,typeLookup (.type T) "__getitem__"=pure (some (.builtin id))/\s.TypeIs v T/\wpAny (model X.prog X.w) X.A (getItem v (.ref sl)) (EP X pins σ Q) X.xe s
theorem SlR.or {r r':V -> Option Int -> Option Int -> Hp -> VK -> Prop} (h:SlR X r) (h':SlR X r'):SlR X (fun x lo hi H Q=>r x lo hi H Q\/r' x lo hi H Q):=by
 intro pins s σ H x v vl vu lo hi sl Q I rx hs pl pu q
 rcases q with q | q
 ·exact h pins s σ H x v vl vu lo hi sl Q I rx hs pl pu q
 ·exact h' pins s σ H x v vl vu lo hi sl Q I rx hs pl pu q
noncomputable def tSl (r:V -> Option Int -> Option Int -> Hp -> VK -> Prop) (te:TE) (tl th:TO):TE:=fun σ H Q=>te σ H fun x H1=>tl σ H1 fun l H2=>th σ H2 fun u H3=>r x l u H3 Q
theorem pe_slice {r:V -> Option Int -> Option Int -> Hp -> VK -> Prop} (hr:SlR X r) (he:PE X e te) (hl:PO X lo tl) (hu:PO X hi th):PE X (.Subscript e (.Slice lo hi none p2) pos) (tSl r te tl th):=by
 intro pins s σ H Q I h
 refine Subscript_ (thn (he pins s σ H _ I h) fun v s1 ⟨x,H1,I1,r1,q1⟩=>?_)
 refine wpAny_Slice (thn (hl pins s1 σ H1 _ I1 q1) fun vl s2 ⟨l,H2,I2,pl,q2⟩=>thn (hu pins s2 σ H2 _ I2 q2) fun vu s3 ⟨u,H3,I3,pu,q3⟩=>?_)
 rw [evalPart_none]
 refine wpAny_pure ?_
 have I4:Inv X pins σ H3 { s3 with heap:=s3.heap.push { cls:=.type "slice",data:=.fields #[vl,vu,.none] } }:=I3.kept (t':=s3.toks) fun b ob q=>Heap.get?_push_of_some _ q
 obtain ⟨T,id,hT,ht,hg⟩:=hr pins { s3 with heap:=s3.heap.push { cls:=.type "slice",data:=.fields #[vl,vu,.none] } } σ H3 x v vl vu l u s3.heap.objs.size Q I4 r1 (Heap.IsSliceOf.new ..) pl pu q3
 show wpAny (model X.prog X.w) X.A (subscriptTail e (.Slice lo hi none p2) v (.ref s3.heap.objs.size)) (EP X pins σ Q) X.xe { s3 with heap:=s3.heap.push { cls:=.type "slice",data:=.fields #[vl,vu,.none] } }
 exact tail_any (ops:=[.ref s3.heap.objs.size,v]) ht hT hg (by with_unfolding_all rfl)
noncomputable def cutV (xs:List V) (lo hi:Option Int):List V:=(xs.drop (HT.sIx xs.length 0 lo)).take (HT.sIx xs.length xs.length hi - HT.sIx xs.length 0 lo)
theorem qCy (xs:List V) (lo hi:Option Int):(cutV xs lo hi).length<=xs.length:=by
 unfold cutV
 rw [List.length_take,List.length_drop]
 omega
noncomputable def qPM (K:PySem.W.Frag):V -> Option Int -> Option Int -> Hp -> VK -> Prop:=fun x lo hi H Q=>∃ a xs,x=.ref a/\SqT K H a xs/\
 ¬ (HT.sIx xs.length 0 lo=0/\HT.sIx xs.length xs.length hi=xs.length)/\∀ p,H p=none -> Q (.ref p) (upd H p (.tup (cutV xs lo hi)))
theorem sl_tup:SlR X (qPM X.K):=by
 intro pins s σ H x v vl vu lo hi sl Q I rx hs pl pu h
 obtain ⟨a,xs,rfl,hx,hw,q⟩:=h
 cases rx
 obtain ⟨its,r,ht,hz⟩:=I.tuple hx
 have hlen:its.toArray.size=xs.length:=by rw [List.size_toArray];exact r.length.symm
 refine ⟨"tuple",_,PyProof.Rows.slot_tuple_getitem.lookup,ht.typeIs,?_⟩
 refine HT.getItem_tuple_cut ht hs pl pu (by rw [hlen];exact hw) ?_ (by rw [hlen];exact hz)
 rw [hlen]
 refine ⟨.ref s.heap.objs.size,_,I.laid (t':=s.toks) (o:=.tup (cutV xs lo hi)) (fun b ob q=>Heap.get?_push_of_some _ q) (Nat.le_refl _) ?_,rfl,q _ (I.hok.fresh (Nat.le_refl _))⟩
 exact ⟨Nat.le_trans (qCy xs lo hi) hz,_,(r.drop (HT.sIx xs.length 0 lo)).take (HT.sIx xs.length xs.length hi - HT.sIx xs.length 0 lo),IsTup.new _ _⟩
noncomputable def rCatT (K:PySem.W.Frag):R2:=fun x y H Q=>∃ a b xs ys,x=.ref a/\y=.ref b/\SqT K H a xs/\SqT K H b ys/\xs≠[]/\xs.length + ys.length<=sizeLine/\
 (ys=[] -> Q (.ref a) H)/\(ys≠[] -> ∀ p,H p=none -> Q (.ref p) (upd H p (.tup (xs++ys))))
theorem Vals.nil_iff {xs:List V} {us:List Value} (r:Vals xs us):us=[]↔xs=[]:=by
 cases r with
 | nil=>simp
 | cons _ _=>simp
theorem op_catT:OpR X (binaryOp .Add) (rCatT X.K):=by
 intro pins s σ H x y v u Q I rx ry h
 obtain ⟨a,b,xs,ys,rfl,rfl,ha,hb,hx,hz,q1,q2⟩:=h
 cases rx
 cases ry
 obtain ⟨its,r1,p1,_⟩:=I.tuple ha
 obtain ⟨its2,r2,p2,_⟩:=I.tuple hb
 refine HT.cat_tup p1 p2 (fun z=>hx (r1.nil_iff.mp z)) (fun z=>⟨.ref a,H,I,rfl,q1 (r2.nil_iff.mp z)⟩) (fun z=>?_) (by rw [<- r1.length,<- r2.length];exact hz)
 refine ⟨.ref s.heap.objs.size,_,I.laid (t':=s.toks) (o:=.tup (xs++ys)) (fun b ob q=>Heap.get?_push_of_some _ q) (Nat.le_refl _) ?_,rfl,q2 (fun w=>z (r2.nil_iff.mpr w)) _ (I.hok.fresh (Nat.le_refl _))⟩
 exact ⟨by rw [List.length_append];exact hz,_,r1.append r2,IsTup.new _ _⟩
end
open PySem PySem.Spec PyProof.Rows
noncomputable def ixN (n:Nat) (i:Int):Option Nat:=if 0<=i then (if i < n then some i.toNat else none) else if -(n:Int)<=i then some (i + n).toNat else none
noncomputable def atI {α:Type} (xs:List α) (i:Int):Option α:=(ixN xs.length i).bind fun j=>xs[j]?
theorem ixN_seq {n:Nat} {i:Int} {j:Nat} (h:ixN n i=some j):seqIndex? i n=some j/\j < n/\-(n:Int)<=i/\i < n:=by
 unfold ixN at h
 by_cases h0:0<=i
 ·rw [if_pos h0] at h
  by_cases h1:i < n
  ·rw [if_pos h1] at h
   have e:i.toNat=j:=Option.some.inj h
   exact ⟨by rw [seqIndex_of h0 h1,e],by omega,by omega,h1⟩
  ·rw [if_neg h1] at h;cases h
 ·rw [if_neg h0] at h
  by_cases h1:-(n:Int)<=i
  ·rw [if_pos h1] at h
   have e:(i + n).toNat=j:=Option.some.inj h
   exact ⟨by rw [seqIndex_neg (by omega) h1,e],by omega,h1,by omega⟩
  ·rw [if_neg h1] at h;cases h
theorem qGP {α:Type} {xs:List α} {i:Int} {v:α} (h:atI xs i=some v):∃ j,seqIndex? i xs.length=some j/\xs[j]?=some v/\j < xs.length/\-(xs.length:Int)<=i/\i < xs.length:=by
 unfold atI at h
 cases e:ixN xs.length i with
 | none=>rw [e] at h;cases h
 | some j=>
  rw [e] at h
  obtain ⟨h1,h2,h3,h4⟩:=ixN_seq e
  exact ⟨j,h1,h,h2,h3,h4⟩
noncomputable def PlainIx (b:Expr):Prop:=∀ o i,subscripted b false o i=operate [o,i] (getItem o i)
noncomputable def IxR (X:Cx) (r:R2):Prop:=
 ∀ (value slice:Expr) (pins:List (Addr×Obj)) (s:Shared) (σ:St) (H:Hp) (x y:V) (v u:Value) (Q:VK),Inv X pins σ H s -> RelV x v -> RelV y u -> r x y H Q ->
  subscripted slice false v u=operate [v,u] (getItem v u) -> wpAny (model X.prog X.w) X.A (subscriptTail value slice v u) (EP X pins σ Q) X.xe s
noncomputable def MtR (X:Cx) (id:String) (r:V -> List V -> Hp -> VK -> Prop):Prop:=
 ∀ (pins:List (Addr×Obj)) (s:Shared) (σ:St) (H:Hp) (x:V) (xs:List V) (v:Value) (us:List Value) (Q:VK),Inv X pins σ H s -> RelV x v -> Vals xs us -> r x xs H Q ->
  wpAny (model X.prog X.w) X.A (call (.builtin id) (v::us)) (EP X pins σ Q) X.xe s
section
variable {X:Cx} {a b:Expr} {ta tb:TE} {pos:Pos}
theorem IxR.or {r r':R2} (h:IxR X r) (h':IxR X r'):IxR X (fun x y H Q=>r x y H Q\/r' x y H Q):=by
 intro value slice pins s σ H x y v u Q I rx ry q hs
 rcases q with q | q
 ·exact h value slice pins s σ H x y v u Q I rx ry q hs
 ·exact h' value slice pins s σ H x y v u Q I rx ry q hs
theorem pe_ix {r:R2} (hr:IxR X r) (ha:PE X a ta) (hb:PE X b tb) (hs:PlainIx b):PE X (.Subscript a b pos) (tOp r ta tb):=by
 intro pins s σ H Q I h
 exact Subscript_ (qAq ha hb I h fun v u s2 x y H2 I2 rx ry q=>hr a b pins s2 σ H2 x y v u Q I2 rx ry q (hs _ _))
noncomputable def qPI (K:PySem.W.Frag):R2:=fun x y H Q=>∃ p xs i v,x=.ref p/\y=.int i/\SqL K H p xs/\atI xs i=some v/\Q v H
noncomputable def qO6 (K:PySem.W.Frag):R2:=fun x y H Q=>∃ p xs i v,x=.ref p/\y=.int i/\SqT K H p xs/\atI xs i=some v/\Q v H
theorem ix_list:IxR X (qPI X.K):=by
 intro value slice pins s σ H x y v u Q I rx ry h hs
 obtain ⟨p,xs,i,z,rfl,rfl,hq,he,q⟩:=h
 cases rx
 obtain ⟨t,rfl⟩:=ry
 obtain ⟨its,r,pl,hz⟩:=I.list hq
 obtain ⟨j,h1,h2,h3,h4,h5⟩:=qGP he
 obtain ⟨w,ew,rw'⟩:=r.get h2
 have hl:=r.length
 have hn:=qFQ
 have fin:EP X pins σ Q w s:=⟨z,H,I,rw',q⟩
 by_cases h0:0<=i
 ·have hj:i.toNat=j:=by
   rw [seqIndex_of h0 h5] at h1
   exact Option.some.inj h1
  exact item_listR pl.isList h0 (by omega) (by rw [hj];simpa using ew) fin hs
 ·have hj:(i + (its.toArray.size:Int)).toNat=j:=by
   rw [seqIndex_neg (by omega) h4] at h1
   rw [List.size_toArray,<- hl]
   exact Option.some.inj h1
  exact subscriptTail_builtinR (x:=w) pl.isList.typeIs slot_list_getitem.lookup
   (wpAny_getItem_list_neg (Q:=fun r s'=>r=w/\EP X pins σ Q r s') pl.isList (by omega) (by rw [List.size_toArray]<;>omega) (by omega) (by rw [hj];simpa using ew) ⟨rfl,fin⟩) hs
theorem ix_tup:IxR X (qO6 X.K):=by
 intro value slice pins s σ H x y v u Q I rx ry h hs
 obtain ⟨p,xs,i,z,rfl,rfl,hq,he,q⟩:=h
 cases rx
 obtain ⟨t,rfl⟩:=ry
 obtain ⟨its,r,pl,hz⟩:=I.tuple hq
 obtain ⟨j,h1,h2,h3,h4,h5⟩:=qGP he
 obtain ⟨w,ew,rw'⟩:=r.get h2
 have hl:=r.length
 have hn:=qFQ
 have fin:EP X pins σ Q w s:=⟨z,H,I,rw',q⟩
 exact subscriptTail_builtinR (x:=w) pl.typeIs slot_tuple_getitem.lookup
  (getItem_tuple (j:=j) (Q:=fun r s'=>r=w/\EP X pins σ Q r s') pl (by omega) (by omega) (by rw [List.size_toArray,<- hl];exact h1) (by simpa using ew) ⟨rfl,fin⟩) hs
theorem qGE (its:List Value) (n j:Nat) (u:Value):Obj.mapSeq (·.setIfInBounds j u) { cls:=.type "list",data:=.seq its.toArray n }={ cls:=.type "list",data:=.seq (its.set j u).toArray n }:=by
 simp [Obj.mapSeq]
theorem Inv.lst {pins:List (Addr×Obj)} {σ:St} {H:Hp} {s:Shared} {p:Addr} {xs:List V} (I:Inv X pins σ H s) (h:H p=some (.lst xs)):
  ∃ (its:List Value) (n:Nat),Vals xs its/\s.heap.get? p=some { cls:=.type "list",data:=.seq its.toArray n }/\xs.length<=sizeLine:=by
 obtain ⟨z,its,n,r,e⟩:=I.hok p _ h
 exact ⟨its,n,r,e,z⟩
theorem Inv.lstUpd {pins:List (Addr×Obj)} {σ:St} {H:Hp} {s:Shared} {p:Addr} {xs ys:List V} {its its':List Value} {n n':Nat} {f:Obj -> Obj} (I:Inv X pins σ H s) (h:H p=some (.lst xs))
  (ho:s.heap.get? p=some { cls:=.type "list",data:=.seq its.toArray n }) (hf:f { cls:=.type "list",data:=.seq its.toArray n }={ cls:=.type "list",data:=.seq its'.toArray n' }) (r:Vals ys its') (hz:ys.length<=sizeLine) (t:Nat):
  Inv X pins σ (upd H p (.lst ys)) { s with heap:=s.heap.update p f,toks:=t }:=by
 have e:(s.heap.update p f).get? p=some { cls:=.type "list",data:=.seq its'.toArray n' }:=by
  rw [Heap.get?_update_self f ho (by rw [hf]<;>rfl),hf]
 refine I.write (x:=p) (e:=p) (by rw [h];trivial) (.inl rfl) (fun b u hb q=>(Heap.get?_update_other _ _ (Ne.symm hb)).trans q) ⟨_,e⟩ ?_
 exact ⟨hz,its',n',r,e⟩
noncomputable def rSetL:V -> V -> V -> Hp -> (Hp -> Prop) -> Prop:=fun o i v H Q=>∃ p xs k j,o=.ref p/\i=.int k/\H p=some (.lst xs)/\ixN xs.length k=some j/\Q (upd H p (.lst (xs.set j v)))
theorem set_list:PSet X rSetL:=by
 intro pins s σ H o i v ov iv u Q I ro ri rv h
 obtain ⟨p,xs,k,j,rfl,rfl,hp,hj,q⟩:=h
 cases ro
 obtain ⟨t,rfl⟩:=ri
 obtain ⟨its,n,r,ho,hz⟩:=I.lst hp
 obtain ⟨h1,h2,h3,h4⟩:=ixN_seq hj
 have hl:=r.length
 have hn:=qFQ
 have I':Inv X pins σ (upd H p (.lst (xs.set j v))) { s with heap:=s.heap.update p (Obj.mapSeq (·.setIfInBounds j u)) }:=
  I.lstUpd hp ho (qGE its n j u) (r.set rv j) (by rw [List.length_set];exact hz) s.toks
 by_cases h0:0<=k
 ·have hk:k.toNat=j:=by
   rw [seqIndex_of h0 h4] at h1
   exact Option.some.inj h1
  exact PySem.W.ki_setAt ho h0 (by omega) (by rw [List.size_toArray,<- hl];exact h4) (by rw [hk];exact ⟨_,I',q⟩)
 ·have hk:(k + (its.toArray.size:Int)).toNat=j:=by
   rw [seqIndex_neg (by omega) h3] at h1
   rw [List.size_toArray,<- hl]
   exact Option.some.inj h1
  exact PySem.W.ki_setBack ho (by omega) (by rw [List.size_toArray,<- hl];exact h3) (by omega) (by rw [hk];exact ⟨_,I',q⟩)
theorem qEM (lo hi:Option Int) (n:Nat):(sliceBounds lo hi none n).1=((HT.sIx n 0 lo:Nat):Int)/\(sliceBounds lo hi none n).2.1=((HT.sIx n n hi:Nat):Int)/\(sliceBounds lo hi none n).2.2=1:=by
 refine ⟨?_,?_,rfl⟩
 ·cases lo with
  | none=>simp [sliceBounds,HT.sIx]
  | some i=>
   simp only [sliceBounds,HT.sIx,Option.getD_none,show (1:Int) > 0 by decide,if_true]
   by_cases h:i < 0
   ·simp only [h,if_true]<;>omega
   ·simp only [h,if_false]<;>omega
 ·cases hi with
  | none=>simp [sliceBounds,HT.sIx]
  | some i=>
   simp only [sliceBounds,HT.sIx,Option.getD_none,show (1:Int) > 0 by decide,if_true]
   by_cases h:i < 0
   ·simp only [h,if_true]<;>omega
   ·simp only [h,if_false]<;>omega
theorem qDq (its:List Value) (lo hi:Option Int):slicePick its.toArray lo hi none=((its.drop (HT.sIx its.length 0 lo)).take (HT.sIx its.length its.length hi - HT.sIx its.length 0 lo)).toArray:=by
 obtain ⟨h1,h2,h3⟩:=qEM lo hi its.toArray.size
 unfold slicePick
 rw [h1,h2,h3]
 simp only [sliceRange_one,pick_run,List.size_toArray]<;>rfl
noncomputable def qOs (K:PySem.W.Frag):V -> Option Int -> Option Int -> Hp -> VK -> Prop:=fun x lo hi H Q=>∃ a xs,x=.ref a/\SqL K H a xs/\∀ p,H p=none -> Q (.ref p) (upd H p (.lst (cutV xs lo hi)))
theorem sl_list:SlR X (qOs X.K):=by
 intro pins s σ H x v vl vu lo hi sl Q I rx hs pl pu h
 obtain ⟨a,xs,rfl,hx,q⟩:=h
 cases rx
 obtain ⟨its,r,ht,hz⟩:=I.list hx
 have hlen:=r.length
 refine ⟨"list",_,slot_list_getitem.lookup,ht.isList.typeIs,?_⟩
 refine wpAny_getItem_list_slice ht.isList hs pl pu .none (by simp) ?_ (by rw [List.size_toArray]<;>omega)
 rw [qDq,<- hlen]
 refine ⟨.ref s.heap.objs.size,_,I.laid (t':=s.toks) (o:=.lst (cutV xs lo hi)) (fun b ob q=>Heap.get?_push_of_some _ q) (Nat.le_refl _) ?_,rfl,q _ (I.hok.fresh (Nat.le_refl _))⟩
 exact ⟨Nat.le_trans (qCy xs lo hi) hz,_,0,(r.drop (HT.sIx xs.length 0 lo)).take (HT.sIx xs.length xs.length hi - HT.sIx xs.length 0 lo),Heap.get?_push_size _ rfl⟩
noncomputable def flatV:V -> Bool
 | .non=>true
 | .bl _=>true
 | .int _=>true
 | .str _=>true
 | _=>false
noncomputable def eqV:V -> V -> Bool
 | .non,.non=>true
 | .bl a,.bl b=>a==b
 | .bl a,.int b=>(if a then 1 else 0)==b
 | .int a,.bl b=>a==(if b then 1 else 0)
 | .int a,.int b=>a==b
 | .str a,.str b=>a==b
 | _,_=>false
theorem qLl {A:Around} {s:Shared} {y x:V} {u v:Value} (ry:RelV y u) (rx:RelV x v) (fy:flatV y=true) (fx:flatV x=true):SeqAt.EqAt A s u v (eqV y x):=by
 cases y with
 | non=>
  cases ry
  cases x with
  | non=>cases rx;exact SeqAt.EqAt.same _
  | bl b=>cases rx;exact SeqAt.EqAt.none_bool b
  | int b=>obtain ⟨t,rfl⟩:=rx;exact SeqAt.EqAt.none_int b t
  | str b=>obtain ⟨t,rfl⟩:=rx;exact SeqAt.EqAt.none_str b t
  | _=>exact absurd (show false=true from fx) Bool.false_ne_true
 | bl a=>
  cases ry
  cases x with
  | non=>cases rx;exact SeqAt.EqAt.bool_none a
  | bl b=>cases rx;exact SeqAt.EqAt.bool_bool a b
  | int b=>obtain ⟨t,rfl⟩:=rx;exact SeqAt.EqAt.bool_int a b t
  | str b=>obtain ⟨t,rfl⟩:=rx;exact SeqAt.EqAt.bool_str a b t
  | _=>exact absurd (show false=true from fx) Bool.false_ne_true
 | int a=>
  obtain ⟨t',rfl⟩:=ry
  cases x with
  | non=>cases rx;exact SeqAt.EqAt.int_none a t'
  | bl b=>cases rx;exact SeqAt.EqAt.int_bool a t' b
  | int b=>obtain ⟨t,rfl⟩:=rx;exact SeqAt.EqAt.int_int a t' b t
  | str b=>obtain ⟨t,rfl⟩:=rx;exact SeqAt.EqAt.int_str a t' b t
  | _=>exact absurd (show false=true from fx) Bool.false_ne_true
 | str a=>
  obtain ⟨t',rfl⟩:=ry
  cases x with
  | non=>cases rx;exact SeqAt.EqAt.str_none a t'
  | bl b=>cases rx;exact SeqAt.EqAt.str_bool a t' b
  | int b=>obtain ⟨t,rfl⟩:=rx;exact SeqAt.EqAt.str_int a t' b t
  | str b=>obtain ⟨t,rfl⟩:=rx;exact SeqAt.EqAt.str_str a t' b t
  | _=>exact absurd (show false=true from fx) Bool.false_ne_true
 | _=>exact absurd (show false=true from fy) Bool.false_ne_true
noncomputable def eqU (x:V) (u:Value):Bool:=match u with
 | .none=>eqV .non x
 | .bool b=>eqV (.bl b) x
 | .int i _=>eqV (.int i) x
 | .str z _=>eqV (.str z) x
 | _=>false
theorem qIx {x y:V} {u:Value} (r:RelV y u) (f:flatV y=true):eqU x u=eqV y x:=by
 cases y with
 | non=>cases r;rfl
 | bl b=>cases r;rfl
 | int i=>obtain ⟨t,rfl⟩:=r;rfl
 | str z=>obtain ⟨t,rfl⟩:=r;rfl
 | _=>exact absurd (show false=true from f) Bool.false_ne_true
theorem qCX {x:V}:∀ {xs:List V} {us:List Value},Vals xs us -> xs.all flatV=true -> us.any (eqU x)=xs.any fun y=>eqV y x
 | _,_,.nil,_=>rfl
 | y::xs,u::us,.cons r t,f=>by
  rw [List.all_cons,Bool.and_eq_true] at f
  rw [List.any_cons,List.any_cons,qIx r f.1,qCX t f.2]
theorem qBs {A:Around} {s:Shared} {x:V} {v:Value} (rx:RelV x v) (fx:flatV x=true):∀ {xs:List V} {us:List Value},Vals xs us -> xs.all flatV=true -> ∀ u∈us,SeqAt.EqAt A s u v (eqU x u)
 | _,_,.nil,_=>fun u hu=>by cases hu
 | y::xs,u::us,.cons r t,f=>fun u' hu=>by
  rw [List.all_cons,Bool.and_eq_true] at f
  rcases List.mem_cons.mp hu with rfl | hu
  ·rw [qIx r f.1];exact qLl r rx f.1 fx
  ·exact qBs rx fx t f.2 u' hu
noncomputable def inV (x:V) (xs:List V):Bool:=xs.any fun y=>eqV y x
noncomputable def rIn (K:PySem.W.Frag) (neg:Bool):R2:=fun x y H Q=>∃ p xs,y=.ref p/\(SqL K H p xs\/SqT K H p xs)/\flatV x=true/\xs.all flatV=true/\Q (.bl (if neg then !inV x xs else inV x xs)) H
theorem op_in_seq:OpR X (compareOp .In) (rIn X.K false):=by
 intro pins s σ H x y v u Q I rx ry h
 obtain ⟨p,xs,rfl,hq,fx,fs,q⟩:=h
 cases ry
 rcases hq with hq | hq
 ·obtain ⟨its,r,pl,hz⟩:=I.list hq
  refine SeqAt.in_listAt (eqU x) pl.isList (fun w hw=>qBs rx fx r fs w (by simpa using hw)) ⟨.bl _,H,I,rfl,?_⟩
  rw [show its.toArray.any (eqU x)=its.any (eqU x) by simp,qCX r fs]
  exact q
 ·obtain ⟨its,r,pl,hz⟩:=I.tuple hq
  refine SeqAt.in_tupleAt (eqU x) pl (fun w hw=>qBs rx fx r fs w (by simpa using hw)) ⟨.bl _,H,I,rfl,?_⟩
  rw [show its.toArray.any (eqU x)=its.any (eqU x) by simp,qCX r fs]
  exact q
theorem op_notIn_seq:OpR X (compareOp .NotIn) (rIn X.K true):=by
 intro pins s σ H x y v u Q I rx ry h
 obtain ⟨p,xs,rfl,hq,fx,fs,q⟩:=h
 cases ry
 rcases hq with hq | hq
 ·obtain ⟨its,r,pl,hz⟩:=I.list hq
  refine SeqAt.notIn_listAt (eqU x) pl.isList (fun w hw=>qBs rx fx r fs w (by simpa using hw)) ⟨.bl _,H,I,rfl,?_⟩
  rw [show its.toArray.any (eqU x)=its.any (eqU x) by simp,qCX r fs]
  exact q
 ·obtain ⟨its,r,pl,hz⟩:=I.tuple hq
  refine SeqAt.notIn_tupleAt (eqU x) pl (fun w hw=>qBs rx fx r fs w (by simpa using hw)) ⟨.bl _,H,I,rfl,?_⟩
  rw [show its.toArray.any (eqU x)=its.any (eqU x) by simp,qCX r fs]
  exact q
theorem call_len_seq:qAp X (.builtin "len") (fun xs H Q=>∃ p ys,xs=[.ref p]/\(SqL X.K H p ys\/SqT X.K H p ys)/\Q (.int ys.length) H):=by
 intro pins s σ H xs us Q I r h
 obtain ⟨p,ys,rfl,hq,q⟩:=h
 obtain ⟨u,rfl,rx⟩:=vals1 r
 cases rx
 have hn:=qFQ
 rcases hq with hq | hq
 ·obtain ⟨its,r',pl,hz⟩:=I.list hq
  have hlen:=r'.length
  exact Calls.call_len_list pl.isList (by simp only [List.size_toArray]<;>omega) ⟨.int ys.length,H,I.tok _,⟨s.toks + 1,by rw [List.size_toArray,hlen]⟩,q⟩
 ·obtain ⟨its,r',pl,hz⟩:=I.tuple hq
  have hlen:=r'.length
  exact len_tuple pl (by simp only [List.size_toArray]<;>omega) ⟨.int ys.length,H,I.tok _,⟨s.toks + 1,by rw [List.size_toArray,hlen]⟩,q⟩
theorem call_list_of:qAp X (.type "list") (fun xs H Q=>∃ p ys,xs=[.ref p]/\(SqL X.K H p ys\/SqT X.K H p ys)/\∀ l,H l=none -> Q (.ref l) (upd H l (.lst ys))):=by
 intro pins s σ H xs us Q I r h
 obtain ⟨p,ys,rfl,hq,q⟩:=h
 obtain ⟨u,rfl,rx⟩:=vals1 r
 cases rx
 have fin:∀ (its:List Value),Vals ys its -> ys.length<=sizeLine -> ∀ (h':Heap) (c':Nat),(∀ b o',s.heap.get? b=some o' -> h'.get? b=some o') ->
   h'.get? s.heap.objs.size=some { cls:=.type "list",dict:=none,data:=.seq its.toArray c',slots:=#[] } -> EP X pins σ Q (.ref s.heap.objs.size) { s with heap:=h' }:=fun its r' hz h' c' kp e=>
  ⟨.ref s.heap.objs.size,_,I.laid (t':=s.toks) kp (Nat.le_refl _) (show ObjOk X.prog X.w _ h' _ (.lst ys) from ⟨hz,its,c',r',e⟩),rfl,q _ (I.hok.fresh (Nat.le_refl _))⟩
 rcases hq with hq | hq
 ·obtain ⟨its,r',pl,hz⟩:=I.list hq
  have hlen:=r'.length
  obtain ⟨o,ho,hc,n,hd⟩:=pl.isList
  exact call_list_seq p (.inl rfl) ho hc hd (fun h' c' kp e=>fin its r' hz h' c' kp e) (by simp only [List.size_toArray]<;>omega)
 ·obtain ⟨its,r',pl,hz⟩:=I.tuple hq
  have hlen:=r'.length
  obtain ⟨o,ho,hc,n,hd⟩:=pl
  exact call_list_seq p (.inr rfl) ho hc hd (fun h' c' kp e=>fin its r' hz h' c' kp e) (by simp only [List.size_toArray]<;>omega)
theorem call_tuple_of:qAp X (.type "tuple") (fun xs H Q=>∃ p ys,xs=[.ref p]/\((SqL X.K H p ys/\∀ l,H l=none -> Q (.ref l) (upd H l (.tup ys)))\/(SqT X.K H p ys/\Q (.ref p) H))):=by
 intro pins s σ H xs us Q I r h
 obtain ⟨p,ys,rfl,h⟩:=h
 obtain ⟨u,rfl,rx⟩:=vals1 r
 cases rx
 rcases h with ⟨hq,q⟩ | ⟨hq,q⟩
 ·obtain ⟨its,r',pl,hz⟩:=I.list hq
  have hlen:=r'.length
  refine call_tuple_list pl.isList (fun h' kp=>?_) (by simp only [List.size_toArray]<;>omega)
  have I1:Inv X pins σ H { s with heap:=h' }:=I.kept (t':=s.toks) kp
  have I2:Inv X pins σ (upd H h'.objs.size (.tup ys)) { s with heap:=h'.push { cls:=.type "tuple",data:=.seq its.toArray } }:=
   I1.laid (t':=s.toks) (fun b o e=>Heap.get?_push_of_some _ e) (Nat.le_refl _) (show ObjOk X.prog X.w _ _ _ (.tup ys) from ⟨hz,its,r',IsTup.new _ _⟩)
  exact ⟨.ref h'.objs.size,_,I2,rfl,q _ (I1.hok.fresh (Nat.le_refl _))⟩
 ·obtain ⟨its,r',pl,hz⟩:=I.tuple hq
  exact call_tuple_same pl ⟨.ref p,H,I,rfl,q⟩
noncomputable def tyV (K:PySem.W.Frag) (T:String) (x:V) (H:Hp):Prop:=match x with
 | .str _=>T="str"
 | .int _=>T="int"
 | .ref p=>(T="list"/\∃ xs,SqL K H p xs)\/(T="tuple"/\∃ o,K.lookup p=some o/\o.cls=.type "tuple"/\o.dict=none)\/
   (T="dict"/\((∃ kvs,H p=some (.dK kvs))\/∃ kvs,H p=some (.dT kvs)))\/(T="set"/\∃ S n,H p=some (.set S n))
 | _=>False
theorem qIn {pins:List (Addr×Obj)} {σ:St} {H:Hp} {s:Shared} {T:String} {x:V} {v:Value} (I:Inv X pins σ H s) (r:RelV x v) (ty:tyV X.K T x H):
  s.TypeIs v T/\∀ a,v=.ref a -> ∃ ob,s.heap.get? a=some ob/\ob.dict=none:=by
 cases x with
 | str z=>
  obtain ⟨t,rfl⟩:=r
  cases (show T="str" from ty)
  exact ⟨typeIs_str s z t,fun _ e=>nomatch e⟩
 | int i=>
  obtain ⟨t,rfl⟩:=r
  cases (show T="int" from ty)
  exact ⟨typeIs_int s i t,fun _ e=>nomatch e⟩
 | ref p=>
  cases r
  rcases ty with ⟨rfl,xs,hq⟩ | ⟨rfl,o,hk,hc,hd⟩ | ⟨rfl,hk⟩ | ⟨rfl,S,n,hk⟩
  ·obtain ⟨its,_,pl,_⟩:=I.list hq
   refine ⟨pl.isList.typeIs,fun a e=>?_⟩
   cases e
   obtain ⟨o,n,e,c,hd,_⟩:=pl
   exact ⟨o,e,hd⟩
  ·refine ⟨⟨o,I.kIn p o hk,hc⟩,fun a e=>?_⟩
   cases e
   exact ⟨o,I.kIn _ o hk,hd⟩
  ·have z:∃ o,s.heap.get? p=some o/\o.ExactDict:=by
    rcases hk with ⟨kvs,hk⟩ | ⟨kvs,hk⟩
    ·obtain ⟨_,_,_,_,o,_,_,e,ex,_⟩:=I.hok p _ hk
     exact ⟨o,e,ex⟩
    ·obtain ⟨_,_,_,_,o,_,_,e,ex,_⟩:=I.hok p _ hk
     exact ⟨o,e,ex⟩
   obtain ⟨o,e,ex⟩:=z
   refine ⟨⟨o,e,ex.1⟩,fun a e2=>?_⟩
   cases e2
   exact ⟨o,e,ex.2.1⟩
  ·obtain ⟨o,_,_,_,e,ex,_⟩:=I.hok p _ hk
   refine ⟨⟨o,e,ex.1⟩,fun a e2=>?_⟩
   cases e2
   exact ⟨o,e,ex.2.1⟩
 | _=>exact False.elim ty
noncomputable def qOz (K:PySem.W.Frag) (T:String) (r:V -> List V -> Hp -> VK -> Prop) (to:TE):TE:=fun σ H Q=>to σ H fun x H1=>tyV K T x H1/\r x [] H1 Q
noncomputable def tBM (K:PySem.W.Frag) (T:String) (r:V -> List V -> Hp -> VK -> Prop) (to:TE) (t:TA):TE:=fun σ H Q=>to σ H fun x H1=>tyV K T x H1/\t σ H1 fun xs H2=>r x xs H2 Q
variable {o e:Expr} {es:List Expr} {to:TE} {t:TA} {name:Str} {apos cpos:Pos} {T id:String} {r:V -> List V -> Hp -> VK -> Prop}
theorem pe_bm0 (pa:PlainAttrs T) (slot:Slot T name id) (hty:typeOf (.builtin id)=pure (.type "method_descriptor")) (hm:MtR X id r) (ho:PE X o to)
  (hbase:attributeBase o name X.env (eval o X.env)=eval o X.env:=by rfl) (hline:(apos.endLine==cpos.line)=true:=by rfl):PE X (.Call (.Attribute o name apos) [] [] cpos) (qOz X.K T r to):=by
 intro pins s σ H Q I h
 refine wpAny_Call_method0_late hbase hline (thn (ho pins s σ H _ I h) fun v s1 ⟨x,H1,I1,r1,ty,q1⟩=>?_)
 obtain ⟨h1,h2⟩:=qIn I1 r1 ty
 exact ⟨T,id,pa,slot,hty,h1,h2,Calls.callWith_builtin rfl (PySem.evalArgs_none (hm pins s1 σ H1 x [] v [] Q I1 r1 .nil q1))⟩
theorem pe_bm (pa:PlainAttrs T) (slot:Slot T name id) (hty:typeOf (.builtin id)=pure (.type "method_descriptor")) (hm:MtR X id r) (ho:PE X o to) (ha:PA X (e::es) t)
  (hbase:attributeBase o name X.env (eval o X.env)=eval o X.env:=by rfl)
  (hfew:((backTo cpos (starEach (e::es) X.env)).all (fun x=>!x.1)&&(backToKw cpos (keywordEach [] X.env)).all (fun x=>x.1.isSome)
   && decide ((e::es).length + ([]:List Keyword).length + (if ([]:List Keyword).isEmpty then 0 else 1) < 30))=true:=by rfl)
  (hline:(apos.endLine==cpos.line)=true:=by rfl) (hs:starEach (e::es) X.env=(false,eval e X.env)::starEach es X.env:=by rfl) (hplain:(backTo cpos (starEach es X.env)).any (·.1)=false:=by rfl):
  PE X (.Call (.Attribute o name apos) (e::es) [] cpos) (tBM X.K T r to t):=by
 intro pins s σ H Q I h
 refine wpAny_Call_method_late hbase hfew hline rfl (thn (ho pins s σ H _ I h) fun v s1 ⟨x,H1,I1,r1,ty,q1⟩=>?_)
 obtain ⟨h1,h2⟩:=qIn I1 r1 ty
 refine ⟨T,id,pa,slot,hty,h1,h2,?_⟩
 have hA:=ha cpos pins s1 σ H1 _ I1 q1
 rw [hs] at hA ⊢
 refine Calls.callWith_builtin (by show (false||(backTo cpos (starEach es X.env)).any (·.1))=false;rw [hplain]<;>rfl) (Calls.evalArgs_plain ?_)
 exact thn hA fun us s2 ⟨vs,H2,I2,r2,q2⟩=>hm pins s2 σ H2 x vs v us Q I2 r1 r2 q2
end
open PySem PySem.Spec PyProof.Rows
noncomputable def MtM (X:Cx) (id:String) (r:V -> List V -> Hp -> VK -> Prop):Prop:=
 ∀ (pins:List (Addr×Obj)) (s:Shared) (σ:St) (H:Hp) (x:V) (xs:List V) (v:Value) (us:List Value) (Q:VK),Inv X pins σ H s -> RelV x v -> Vals xs us -> r x xs H Q ->
  wpAny (model X.prog X.w) X.A (call (.builtin id) (v::us)) (EP X pins σ Q) X.xe s
theorem Vals.one:∀ {x:V} {us:List Value},Vals [x] us -> ∃ u,us=[u]/\RelV x u
 | _,_,.cons r .nil=>⟨_,rfl,r⟩
theorem Vals.zero:∀ {us:List Value},Vals [] us -> us=[]
 | _,.nil=>rfl
theorem Vals.dropLast {xs:List V} {us:List Value} (h:Vals xs us):Vals xs.dropLast us.dropLast:=by
 induction h with
 | nil=>exact .nil
 | cons r t ih=>
  cases t with
  | nil=>exact .nil
  | cons q t'=>exact .cons r ih
theorem Vals.eraseIdx:∀ {xs:List V} {us:List Value} (i:Nat),Vals xs us -> Vals (xs.eraseIdx i) (us.eraseIdx i)
 | _,_,_,.nil=>.nil
 | _,_,0,.cons _ t=>t
 | _,_,i + 1,.cons r t=>.cons r (Vals.eraseIdx i t)
theorem Vals.reverse {xs:List V} {us:List Value} (h:Vals xs us):Vals xs.reverse us.reverse:=by
 induction h with
 | nil=>exact .nil
 | cons r t ih=>rw [List.reverse_cons,List.reverse_cons];exact Vals.append ih (.cons r .nil)
theorem Vals.rep {xs:List V} {us:List Value} (h:Vals xs us):∀ k:Nat,Vals (List.replicate k xs).flatten (List.replicate k us).flatten
 | 0=>.nil
 | k + 1=>by
  rw [List.replicate_succ,List.replicate_succ,List.flatten_cons,List.flatten_cons]
  exact Vals.append h (Vals.rep h k)
theorem qEH {α:Type}:∀ (l:List α) (i:Nat),(l.eraseIdx i).length<=l.length
 | [],_=>Nat.le_refl _
 | _::_,0=>Nat.le_succ _
 | _::r,i + 1=>Nat.succ_le_succ (qEH r i)
theorem qD5 (its:List Value):∀ (k:Nat) (acc:List Value),
  List.foldl (fun x1 x2=>x1++x2) acc.toArray (List.replicate k its.toArray)=(acc++(List.replicate k its).flatten).toArray
 | 0,acc=>by simp
 | k + 1,acc=>by
  have e:acc.toArray++its.toArray=(acc++its).toArray:=by simp
  have e2:(acc++its)++(List.replicate k its).flatten=acc++(List.replicate (k + 1) its).flatten:=by
   rw [List.replicate_succ,List.flatten_cons,List.append_assoc]
  rw [<- e2,<- qD5 its k (acc++its),<- e,List.replicate_succ,List.foldl_cons]
section
variable {X:Cx} {pins:List (Addr×Obj)} {σ:St} {H:Hp} {s:Shared} {l b:Addr} {xs ys zs:List V}
theorem Inv.lset {its its':List Value} {n:Nat} {f:Array Value -> Array Value} {t':Nat} (I:Inv X pins σ H s) (hH:H l=some (.lst xs))
  (e:s.heap.get? l=some { cls:=.type "list",data:=.seq its.toArray n }) (hf:f its.toArray=its'.toArray) (hv:Vals ys its') (hz:ys.length<=sizeLine):
  Inv X pins σ (upd H l (.lst ys)) { s with heap:=s.heap.update l (Obj.mapSeq f),toks:=t' }:=by
 have q:=PySem.IsL.update e f
 rw [hf] at q
 refine I.write (x:=l) (e:=l) (by rw [hH];exact trivial) (.inl rfl) (fun b' u hb hu=>(Heap.get?_update_other s.heap (Obj.mapSeq f) (Ne.symm hb)).trans hu) ⟨_,q⟩ ?_
 exact ⟨hz,its',_,hv,q⟩
theorem Inv.lnew {its:List Value} {t':Nat} (I:Inv X pins σ H s) (hv:Vals ys its) (hz:ys.length<=sizeLine):
  Inv X pins σ (upd H s.heap.objs.size (.lst ys)) { s with heap:=s.heap.push { cls:=.type "list",data:=.seq its.toArray },toks:=t' }:=
 I.laid (fun _ _ q=>Heap.get?_push_of_some _ q) (Nat.le_refl _) ⟨hz,its,0,hv,Heap.get?_push_size _ rfl⟩
theorem Inv.fresh (I:Inv X pins σ H s):H s.heap.objs.size=none:=I.hok.fresh (Nat.le_refl _)
theorem Inv.lstM (I:Inv X pins σ H s) (hH:H l=some (.lst xs)):xs.length<=sizeLine/\∃ (its:List Value) (n:Nat),Vals xs its/\xs.length=its.length/\s.heap.get? l=some { cls:=.type "list",data:=.seq its.toArray n }:=by
 obtain ⟨z,its,n,r,e⟩:=I.hok l _ hH
 exact ⟨z,its,n,r,r.length,e⟩
theorem qH3 {n:Nat} (h:n<=sizeLine):Builtin.List.listTooLong n=false:=by
 unfold Builtin.List.listTooLong
 exact decide_eq_false (by omega)
end
section
variable {X:Cx}
noncomputable def qKP:V -> List V -> Hp -> VK -> Prop:=fun x vs H Q=>∃ l xs y,x=.ref l/\vs=[y]/\H l=some (.lst xs)/\xs.length < sizeLine/\Q .non (upd H l (.lst (xs++[y])))
theorem mt_append:MtM X "list.append" qKP:=by
 intro pins s σ H x vs v us Q I rx rv h
 obtain ⟨l,xs,y,rfl,rfl,hH,hz,q⟩:=h
 cases rx
 obtain ⟨u,rfl,ru⟩:=rv.one
 obtain ⟨z,its,n,r,hl,e⟩:=I.lstM hH
 refine call_meets F.slot_list_append ⟨_,e,rfl⟩ F.entry_list_append (F.args_list_append_2 _ _) (PySem.list_append l its.toArray n u (by rw [List.size_toArray];omega)) ⟨e,?_⟩
 refine ⟨.non,_,I.lset (its':=its++[u]) hH e (by simp) (r.append (.cons ru .nil)) ?_,rfl,q⟩
 rw [List.length_append,List.length_singleton]
 omega
noncomputable def rPopAt:V -> List V -> Hp -> VK -> Prop:=fun x vs H Q=>∃ l xs i k y,x=.ref l/\vs=[.int i]/\H l=some (.lst xs)/\-(2 ^ 63)<=i/\i < 2 ^ 63/\seqIndex? i xs.length=some k/\xs[k]?=some y/\Q y (upd H l (.lst (xs.eraseIdx k)))
theorem mt_popAt:MtM X "list.pop" rPopAt:=by
 intro pins s σ H x vs v us Q I rx rv h
 obtain ⟨l,xs,i,k,y,rfl,rfl,hH,h1,h2,hk,hy,q⟩:=h
 cases rx
 obtain ⟨u,rfl,ru⟩:=rv.one
 obtain ⟨t,rfl⟩:=ru
 obtain ⟨z,its,n,r,hl,e⟩:=I.lstM hH
 obtain ⟨w,hw,rw'⟩:=r.get hy
 refine call_meets F.slot_list_pop ⟨_,e,rfl⟩ F.entry_list_pop (F.args_list_pop_2 _ _)
  (MeetsSeq.list_pop_at l its.toArray n i t k w (fitsIndex_both h1 h2) (by rw [List.size_toArray,<- hl];exact hk) (by rw [<- Array.getElem?_toList];exact hw) (by rw [List.size_toArray];omega)) ⟨e,?_⟩
 refine ⟨y,_,I.lset (its':=its.eraseIdx k) hH e ?_ (r.eraseIdx k) ?_,rw',q⟩
 ·show its.toArray.eraseIdxIfInBounds k=(its.eraseIdx k).toArray
  rw [List.eraseIdxIfInBounds_toArray]
 ·have:=qEH xs k
  omega
noncomputable def rCat:R2:=fun x y H Q=>∃ l b xs zs,x=.ref l/\y=.ref b/\H l=some (.lst xs)/\H b=some (.lst zs)/\xs.length + zs.length<=sizeLine/\∀ p,H p=none -> Q (.ref p) (upd H p (.lst (xs++zs)))
theorem op_cat:OpR X (binaryOp .Add) rCat:=by
 intro pins s σ H x y v u Q I rx ry h
 obtain ⟨l,b,xs,zs,rfl,rfl,hH,hB,hz,q⟩:=h
 cases rx
 cases ry
 obtain ⟨z,its,n,r,hl,e⟩:=I.lstM hH
 obtain ⟨z2,its2,n2,r2,hl2,e2⟩:=I.lstM hB
 refine PySem.P.add_list e e2 ?_ (by rw [List.size_toArray,List.size_toArray];omega)
 have ea:its.toArray++its2.toArray=(its++its2).toArray:=by simp
 rw [ea]
 exact ⟨.ref _,_,I.lnew (t':=s.toks) (r.append r2) (by rw [List.length_append];omega),rfl,q _ I.fresh⟩
noncomputable def rRep:R2:=fun x y H Q=>∃ l k xs,x=.ref l/\y=.int k/\H l=some (.lst xs)/\-(2 ^ 63)<=k/\k < 2 ^ 63/\xs.length * k.toNat<=sizeLine/\
 ∀ p,H p=none -> Q (.ref p) (upd H p (.lst (List.replicate k.toNat xs).flatten))
theorem qJ2 {α:Type} (xs:List α) (k:Nat):(List.replicate k xs).flatten.length=k * xs.length:=by
 induction k with
 | zero=>simp
 | succ k ih=>rw [List.replicate_succ,List.flatten_cons,List.length_append,ih,Nat.succ_mul,Nat.add_comm]
theorem op_rep:OpR X (binaryOp .Mult) rRep:=by
 intro pins s σ H x y v u Q I rx ry h
 obtain ⟨l,k,xs,rfl,rfl,hH,h1,h2,hz,q⟩:=h
 cases rx
 obtain ⟨t,rfl⟩:=ry
 obtain ⟨z,its,n,r,hl,e⟩:=I.lstM hH
 have hlen:its.toArray.size * k.toNat<=sizeLine:=by rw [List.size_toArray,<- hl];exact hz
 have hcap:¬ its.toArray.size * k.toNat > (2 ^ 63 - 1) / 8:=by
  have:(sizeLine:Nat)<=(2 ^ 63 - 1) / 8:=by decide
  omega
 have hfit:¬ (!Builtin.List.listFitsIndex k)=true:=by
  rw [fitsIndex_both h1 h2]
  exact Bool.false_ne_true
 have hlong:¬ Builtin.List.listTooLong (its.toArray.size * k.toNat)=true:=by
  rw [qH3 hlen]
  exact Bool.false_ne_true
 have hnew:List.foldl (fun x1 x2=>x1++x2) #[] (List.replicate (if its.toArray.isEmpty=true then 0 else k.toNat) its.toArray)=(List.replicate k.toNat its).flatten.toArray:=by
  have f0:∀ m:Nat,List.foldl (fun x1 x2=>x1++x2) #[] (List.replicate m its.toArray)=(List.replicate m its).flatten.toArray:=fun m=>by
   have:=qD5 its m []
   rw [List.nil_append] at this
   exact this
  rw [f0]
  cases its with
  | nil=>simp
  | cons a r'=>rw [if_neg (by simp)]
 refine wpAny_binaryOp_repeat_ref (T:="list") (U:="int") (by decide) ⟨_,e,rfl⟩ (fun s'=>typeIs_int s' k t) noFill_list_mul F.fills_int_mul F.slot_int_rmul repeat_list F.slot_int_index.lookup
  (call_meets F.slot_int_rmul (typeIs_int s k t) F.entry_int_rmul (F.args_int_rmul_2 _ _) (int___rmul___int_list k t l its.toArray n)
   ⟨e,rfl,⟨_,e,rfl⟩,call_meets F.slot_list_mul ⟨_,e,rfl⟩ F.entry_list_mul (F.args_list_mul_2 _ _) (AutoListH.list___mul___list_int_3 l its.toArray n k t hfit hcap hlong) ⟨e,?_⟩⟩)
 rw [hnew]
 exact ⟨.ref _,_,I.lnew (t':=s.toks) (r.rep k.toNat) (by rw [qJ2,Nat.mul_comm];exact hz),rfl,q _ I.fresh⟩
end
section
variable {prog:Program} {w:World} {A:Around} {E:Value -> Shared -> Prop} {s:Shared}
end
section
variable {X:Cx}
end
end L2
namespace Att
open PySem PySem.W PySem.Calls PyProof.Rows
theorem qCl {P:Params} {h:Heap}:∀ (ns:List Int) (vs:List Value),WellAll P h vs (ns.map WData.int) -> IntsAre vs ns:=by
 intro ns
 induction ns with
 | nil=>
  intro vs w
  rw [List.map_nil] at w
  cases w
  exact .nil
 | cons n ns ih=>
  intro vs w
  rw [List.map_cons] at w
  cases w with
  | cons a b=>
   cases a
   exact .cons _ _ (ih _ b)
theorem qGq {l:OpenLaw} {n:Nat} (hn:l.most=some n) {P:Params} {h:Heap} {args:List WData} {vals:List Value}
  (hpre:l.row.toRowW.claim.pre args=true) (hwl:WellAll P h vals args):
  ∃ a vs ns,vals=[Value.ref a]/\args=[WData.list (ns.map WData.int)]/\h.get? a=some { cls:=.type "list",data:=.seq vs.toArray }/\IntsAre vs ns/\ns.length<=n:=by
 have hsh:WShape.hasAll [] args [.list .int]=true:=(pre_splitW hpre).1
 have hc:l.pre.holds [] { args:=args }=true:=(pre_splitW hpre).2
 obtain ⟨d,r,rfl,h1,h2⟩:=hasAllW_cons hsh
 obtain rfl:=hasAllW_nil h2
 obtain ⟨xs,rfl,h3⟩:=hasW_list h1
 obtain ⟨ns,rfl⟩:=items_int h3
 have hlen:ns.length<=n:=by
  unfold OpenLaw.pre at hc
  have h4:(WTm.not (.lt (.lit (.int (n:Int))) (.len (.arg 0)))).holds [] { args:=[.list (ns.map .int)] }=true:=by
   have h4:=(holds_andW hc).1
   rw [hn] at h4
   exact h4
  have h5:=condW_of h4 (w_not (w_lt w_lit (w_len_list (w_arg rfl))))
  rw [List.length_map] at h5
  refine Nat.le_of_not_lt fun q=>?_
  have q':(n:Int) < ((ns.length:Nat):Int):=by omega
  first
   | (rw [decide_eq_true q'] at h5;exact absurd h5 (by decide))
   | (simp at h5;omega)
 cases hwl with
 | cons w1 w2=>
  cases w2
  cases w1 with
  | list ho hall=>exact ⟨_,_,ns,rfl,rfl,ho,qCl ns _ hall,hlen⟩
theorem qGh (l:OpenLaw) (args:List WData):l.row.toRowW.claim.post args (.bool true) args=true:=
 postW_of (r:=l.row.toRowW) (X:=(true==true))
  (show WShape.has [] (.bool true) .bool=true by first | rfl | decide | simp [WShape.has,WShape.arms,WShape.armsAll])
  (show (WTm.eq .res (.lit (.bool true))).value [] { args:=args,res:=some (.bool true),after:=args }=some (.bool (true==true)) from w_eq_bool (w_res rfl) w_lit) rfl
theorem attach_call {l:OpenLaw} {n:Nat} {q:Program} {loose:List Str} {XP:(Str -> Option Value) -> Heap -> Prop} {YP:World -> Heap -> Prop} {d:DefRec}
  (hn:l.most=some n) (hdf:d.params.defaults=[])
  (call:∀ (w:World) (s₀ s₁:Shared) (mg mb:Str -> Option Value) (fa:Addr) (o:Obj) (pm cd doc:Value) (a:Addr) (vs:List Value) (ns:List Int),
   Ground q loose [] XP w s₀ mg mb s₁.heap -> YP w s₁.heap ->
   s₁.heap.get? fa=some o -> o.data=.func (docDef d.name d.params d.body d.scope pm cd doc) -> s₁.heap.CodeRec cd d.name -> mg d.name=some (.ref fa) ->
   s₁.heap.get? a=some { cls:=.type "list",data:=.seq vs.toArray } -> IntsAre vs ns -> ns.length<=n -> s₁.gens=#[] ->
   codeAny (model l.prog w) callerA (.call (.ref fa) ⟨[.ref a],[]⟩) (fun r s'=>r=.ok (.ret (.bool true))/\OldK s₁.heap s'.heap/\s'.os=s₁.os/\AllBare s'.gens) s₁):
  WalkO q loose XP YP l.row.toRowW d [] (fun f vs=>PySem.call f vs):=by
 intro w s₀ s₁ mg mb G Y fa o pm cd doc dV kV ho hd hcd hD hmg hg args vals as hpre hlay hrd hwl hlo
 obtain rfl:dV=.none:=Dflts.none hD hdf
 obtain rfl:kV=.none:=Dflts.noKw hD
 obtain ⟨a,vs,ns,rfl,rfl,hobj,hints,hlen⟩:=qGq hn hpre hwl
 refine enter_call (codeAny_mono (call w s₀ s₁ mg mb fa o pm cd doc a vs ns G Y ho (fd_plain hd) hcd hmg hobj hints hlen hg) fun r s' hq=>?_)
 obtain ⟨rfl,h2,h3,h4⟩:=hq
 exact ⟨.inl ⟨.bool true,.bool true,[],rfl,fun _=>rfl,.bool true,qGh l _,fun _=>⟨List.Pairwise.nil,fun _ hm=>(nomatch hm)⟩⟩,h2,h3,h4⟩
section
variable {prog:Program} {w:World} {A:Around} {E:Value -> Shared -> Prop} {s:Shared} {K:Frag}
end
end Att
namespace L2
open PySem PySem.Spec PyProof.Rows
theorem qBv:∀ {vs:List Value} {ns:List Int},IntsAre vs ns -> Vals (ns.map V.int) vs
 | _,_,.nil=>.nil
 | _,_,.cons n t h=>.cons ⟨t,rfl⟩ (qBv h)
noncomputable def Only (H:Hp):Prop:=∀ b,H b=none\/∃ o xs,H b=some (.frz o (.lst xs))
theorem qHr {P:Program} {w:World} {K:PySem.W.Frag} {mg mb:Str -> Option Value} {CX:CXT} {k:Nat} {fa a:Addr} {fd:FuncData} {x:Str} {sp:Sp} {s₁:Shared} {vs:List Value} {ns:List Int}
  (KX:K.In s₁.heap) (hns:s₁.heap.Ns mainGlobals mg) (hb:s₁.heap.Ns builtinsNs mb) (hbb:∀ x:Str,x≠"__name__" -> mb x=bootBuiltins x) (hlim:s₁.heap.NoLimit) (hg:s₁.gens=#[])
  (ha:s₁.heap.get? a=some { cls:=.type "list",data:=.seq vs.toArray }) (hi:IntsAre vs ns) (hl:ns.length<=sizeLine) (hr:Room k callerA)
  (F:∀ base:Heap,K.In base -> base.Ns mainGlobals mg -> FnOk P w K mg base CX k fa fd [x] sp) (hbind:∀ (s:Shared) (u:Value),BindsTo s fd ⟨[u],[]⟩ [(x,u)])
  (hsp:∀ H:Hp,Only H -> SqL K H a (ns.map V.int) -> sp [.ref a] H (fun v _=>v=.bl true) fun _ _ _=>False)
  (hCX:∀ H e s',CX [] H s₁ (fun _ _ _=>False) e s' -> False):
  codeAny (model P w) callerA (.call (.ref fa) ⟨[.ref a],[]⟩) (fun r s'=>r=.ok (.ret (.bool true))/\OldK s₁.heap s'.heap/\s'.os=s₁.os/\AllBare s'.gens) s₁:=by
 have rv:=qBv hi
 have lenV:=hi.length
 have core:∀ H:Hp,Only H -> SqL K H a (ns.map V.int) -> HOk P w H s₁.heap -> (∀ b,H b≠none -> b=a) -> (H a≠none -> K.lookup a=none) ->
   codeAny (model P w) callerA (.call (.ref fa) ⟨[.ref a],[]⟩) (fun r s'=>r=.ok (.ret (.bool true))/\OldK s₁.heap s'.heap/\s'.os=s₁.os/\AllBare s'.gens) s₁:=by
  intro H hO hS hok hA hK
  have base_of:∀ {b:Addr} {o:Obj},s₁.heap.get? b=some o -> H b=none -> (qHq s₁.heap H).get? b=some o:=fun e n=>qHh e n
  have noA:∀ {b:Addr} {o:Obj} {es:Array DictEntry} {ep:Nat},s₁.heap.get? b=some o -> o.data=.dict es ep -> H b=none:=fun {b o es ep} e d=>by
   cases q:H b with
   | none=>rfl
   | some u=>
    have e':b=a:=hA b (by rw [q];simp)
    subst e'
    rw [ha] at e;cases e
    have d':Data.seq vs.toArray _=Data.dict es ep:=d
    cases d'
  have nsK:∀ {b:Addr} {m:Str -> Option Value},s₁.heap.Ns b m -> (qHq s₁.heap H).Ns b m:=fun {b m} ⟨o,es,ep,e,d,r⟩=>⟨o,es,ep,base_of e (noA e d),d,r⟩
  have hKb:K.In (qHq s₁.heap H):=fun b o e=>base_of (KX b o e) (by
   cases q:H b with
   | none=>rfl
   | some u=>
    have e':b=a:=hA b (by rw [q];simp)
    subst e'
    rw [hK (by rw [q];simp)] at e;cases e)
  have hM:Mod K mg (qHq s₁.heap H):=⟨hKb,nsK hns,⟨mb,nsK hb,hbb⟩,let ⟨mc,h1,h2⟩:=hlim;⟨mc,nsK h1,h2⟩⟩
  have e0:qMu P w K mg (qHq s₁.heap H) callerA [] s₁ H:=⟨rfl,hM,fun b o e=>qKd e,Nat.le_of_eq (qGa _ _),trivial,fun b hb=>absurd (show b∈([]:List Addr) from hb) (by simp),hok,.of_eq hg⟩
  refine codeAny_mono ((F _ hKb (nsK hns)).run callerA [] s₁ H ⟨[.ref a],[]⟩ [.ref a] [.ref a] _ _ hr e0 (hbind s₁ (.ref a)) (.cons rfl .nil) (hsp H hO hS)) fun r s' h=>?_
  cases r with
  | error e=>exact (hCX H e s' h).elim
  | ok fl=>
   cases fl with
   | next=>exact False.elim h
   | brk=>exact False.elim h
   | cont=>exact False.elim h
   | ret u=>
    obtain ⟨v,H',os,bare,un,hok',r',q⟩:=h
    have q':v=.bl true:=q
    subst q'
    obtain rfl:u=Value.bool true:=r'
    refine ⟨rfl,OldK.of_keep fun b o e=>?_,os,bare⟩
    cases q:H b with
    | none=>exact un.keep b o e q (by intro z;exact absurd (show b∈([]:List Addr) from z) (by simp)) (by simp)
    | some u=>
     rcases hO b with z | ⟨ob,xs,z⟩
     ·rw [q] at z;cases z
     ·have z2:=un.frzs b ob _ z
      obtain ⟨e1,_⟩:=hok b _ z
      obtain ⟨e2,_⟩:=hok' b _ z2
      rw [e] at e1;cases e1
      exact e2
 cases hk:K.lookup a with
 | some o=>
  have e:=KX a o hk
  rw [ha] at e
  cases e
  refine core (fun _=>none) (fun _=>.inl rfl) (.inr ⟨_,vs.toArray,_,hk,rfl,rfl,rfl,by rw [List.size_toArray,lenV];exact hl,by simpa using rv⟩) (fun b u z=>by have z':(none:Option HO)=some u:=z;cases z') (fun b z=>absurd rfl z) fun z=>absurd rfl z
 | none=>
  refine core (fun b=>if b=a then some (.frz { cls:=.type "list",data:=.seq vs.toArray } (.lst (ns.map V.int))) else none) (fun b=>?_) (.inl (.inr ⟨{ cls:=.type "list",data:=.seq vs.toArray },if_pos rfl⟩)) (fun b u z=>?_) (fun b z=>?_) fun _=>hk
  ·by_cases hb:b=a
   ·exact .inr ⟨_,_,if_pos hb⟩
   ·exact .inl (if_neg hb)
  ·by_cases hb:b=a
   ·have z':=(if_pos hb).symm.trans z
    cases z'
    subst hb
    exact ⟨ha,by rw [List.length_map];exact hl,vs,_,rv,ha⟩
   ·have z':=(if_neg hb).symm.trans z
    cases z'
  ·by_cases hb:b=a
   ·exact hb
   ·exact absurd (if_neg hb) z
open PySem PySem.Spec PyProof.Rows
theorem walk_of {l:PySem.W.OpenLaw} {n k:Nat} {q:Program} {loose:List Str} {XP:(Str -> Option Value) -> Heap -> Prop} {YP:World -> Heap -> Prop} {d:DefRec} {K:Params -> PySem.W.Frag} {CX:World -> CXT} {sp:World -> Sp} {x:Str}
  (hn:l.most=some n) (hn2:n<=sizeLine) (hdf:d.params.defaults=[]) (hr:Room k callerA)
  (hY:∀ (w:World) (h:Heap),YP w h -> (K w.params).In h)
  (F:∀ (w:World) (mg:Str -> Option Value) (fa:Addr) (h:Heap),(K w.params).In h -> h.Ns mainGlobals mg -> mg d.name=some (.ref fa) ->
   ∃ fd:FuncData,(∀ (s:Shared) (u:Value),BindsTo s fd ⟨[u],[]⟩ [(x,u)])/\
    ∀ base:Heap,(K w.params).In base -> base.Ns mainGlobals mg -> FnOk l.prog w (K w.params) mg base (CX w) k fa fd [x] (sp w))
  (hsp:∀ (w:World) (H:Hp) (a:Addr) (ns:List Int),ns.length<=n -> Only H -> SqL (K w.params) H a (ns.map V.int) -> sp w [.ref a] H (fun v _=>v=.bl true) fun _ _ _=>False)
  (hCX:∀ (w:World) (H:Hp) (s:Shared) (e:Value) (s':Shared),CX w [] H s (fun _ _ _=>False) e s' -> False):
  PySem.W.WalkO q loose XP YP l.row.toRowW d [] (fun f vs=>PySem.call f vs):=by
 refine Att.attach_call hn hdf fun w s₀ s₁ mg mb fa o pm cd doc a vs ns G Y ho hd hcd hmg hobj hints hlen hg=>?_
 have KX:=hY w _ Y
 obtain ⟨fd,hb,hF⟩:=F w mg fa _ KX G.T.g hmg
 exact qHr KX G.T.g G.T.b G.T.builtins G.T.nolimit hg hobj hints (Nat.le_trans hlen hn2) hr hF hb (fun H hO hS=>hsp w H a ns hlen hO hS) fun H e s'=>hCX w H s₁ e s'
open PySem PySem.Spec PyProof.Rows
noncomputable def qBg (s:Stmt):Arguments:=match s with
 | .FunctionDef _ a _ _ _ _ _ _ _ _=>a
 | _=>{ posonlyargs:=[],args:=[],vararg:=none,kwonlyargs:=[],kw_defaults:=[],kwarg:=none,defaults:=[] }
noncomputable def defBody (s:Stmt):List Stmt:=match s with
 | .FunctionDef _ _ b _ _ _ _ _ _ _=>b
 | _=>[]
noncomputable def defScope (s:Stmt):Scope:=match s with
 | .FunctionDef _ _ _ _ _ _ sc _ _ _=>sc
 | _=>{ kind:=.function,names:=[],isGenerator:=false,isCoroutine:=false }
noncomputable abbrev CX0:CXT:=fun _ _ _ _ _ _=>False
noncomputable abbrev E0:XK:=fun _ _ _=>False
theorem pass0 {X:Cx}:qFl CX0 X E0:=fun _ _ _ _ _ _ _ h=>h.elim
structure Fun (K:PySem.W.Frag) (x qual:Str) (st:Stmt) (f:Addr) (fd:FuncData):Prop where
 ex:∃ (oc:Value) (od:Option Addr) (kV doc pm:Value) (an:Option Addr) (cdv ct:Value) (osl:Array (Option Value)),
  fd=PySem.W.fnOf x qual (qBg st) (defBody st) (defScope st) .none kV doc pm an cdv ct/\K.lookup f=some ⟨oc,od,.func fd,osl⟩/\PySem.W.codeIn K cdv qual=true
 kp:PySem.W.keepIn K (.ref f)=true
section
variable {P:Program} {w:World} {K:PySem.W.Frag} {mg:Str -> Option Value} {base:Heap}
theorem Fun.ok {x qual:Str} {st:Stmt} {f:Addr} {fd:FuncData} {N ps:List Str} {k:Nat} {sp:Sp} (F:Fun K x qual st f fd) (S:qBB N ps (defScope st)) (len:∀ vs H Q E,sp vs H Q E -> vs.length=ps.length)
  (hbody:∀ (cdv:Value) (A:Around) (outer:List Env) (s:Shared) (H:Hp) (vs:List V) (Q:VK) (E:XK),Room k (A.deeper (envOfC qual (defScope st) s.heap.objs.size f cdv)) -> sp vs H Q E ->
   ∃ t,PSs (cxOf CX0 P w K mg base N qual (defScope st) f cdv A outer s H E).nox (defBody st) t/\t { nx:=fun _ H'=>Q .non H',rt:=Q } (start N vs) H):FnOk P w K mg base CX0 (k + 1) f fd ps sp:=by
 obtain ⟨oc,od,kV,doc,pm,an,cdv,ct,osl,rfl,lk,hcd⟩:=F.ex
 refine fn_of lk hcd S len fun A outer s H vs Q E hr hsp=>?_
 obtain ⟨t,h,q⟩:=hbody cdv A outer s H vs Q E hr hsp
 exact ⟨t,h.nox,q⟩
theorem Fun.binds {x qual:Str} {st:Stmt} {f:Addr} {fd:FuncData} {ps:List Str} (F:Fun K x qual st f fd)
  (h:∀ (kV doc pm:Value) (an:Option Addr) (cdv ct:Value) (us:List Value),us.length=ps.length -> bindArgs (PySem.W.fnOf x qual (qBg st) (defBody st) (defScope st) .none kV doc pm an cdv ct) ⟨us,[]⟩=pure (ps.zip us)):Binds K fd ps []:=by
 obtain ⟨oc,od,kV,doc,pm,an,cdv,ct,osl,rfl,lk,hcd⟩:=F.ex
 exact .all (h kV doc pm an cdv ct)
theorem qI3 {x qual:Str} {st:Stmt} {f:Addr} {oc:Value} {od an:Option Addr} {osl:Array (Option Value)} {kV doc pm cdv ct:Value} (l:K.lookup f=some ⟨oc,od,.func (PySem.W.fnOf x qual (qBg st) (defBody st) (defScope st) .none kV doc pm an cdv ct),osl⟩)
  (c:PySem.W.codeIn K cdv qual=true) (k:PySem.W.keepIn K (.ref f)=true):Fun K x qual st f (PySem.W.fnOf x qual (qBg st) (defBody st) (defScope st) .none kV doc pm an cdv ct):=⟨⟨oc,od,kV,doc,pm,an,cdv,ct,osl,rfl,l,c⟩,k⟩
end
section
variable {X:Cx}
end
noncomputable def qEx (H H':Hp):Prop:=∀ b o,H b=some o -> H' b=some o
end L2
namespace L2
open PySem PySem.Spec PyProof.Rows
open PySem PySem.Spec PyProof.Rows
section
variable (P:Program) (w:World)
end
section
variable {P:Program} {w:World} {H H':Hp} {h h':Heap} {a:Addr} {o:HO}
end
section
variable {P:Program} {w:World} {H:Hp} {h h':Heap} {x e:Addr} {o':HO}
end
section
variable {fs fs' ex ex':List Addr} {H H1 H2:Hp} {h h1 h2 h':Heap} {a x e:Addr} {o:HO}
end
open PySem PySem.Spec PyProof.Rows
section
variable {X:Cx} {pins:List (Addr×Obj)} {σ:List (Option V)} {H H':Hp} {s:Shared} {h':Heap}
end
open PySem PySem.Spec PyProof.Rows
section
variable {X:Cx}
variable {a b:Expr} {ta tb:TE} {pos:Pos}
variable {tA tB':TT} {qB6:List Expr}
end
open PySem PySem.Spec PyProof.Rows
section
variable {X:Cx} {pins:List (Addr×Obj)} {σ:St} {H:Hp} {s:Shared} {a:Addr} {xs ys:List V}
end
section
variable {X:Cx} {pins:List (Addr×Obj)} {σ:St} {H:Hp} {s:Shared} {E:Value -> Shared -> Prop}
end
section
variable {X:Cx} {st:Stmt} {qB6:List Stmt} {t u:TS} {e:Expr} {te:TE} {pos:Pos}
end
section
variable {X:Cx} {pos:Pos}
end
section
variable {X:Cx} {pos:Pos}
end
open PySem PySem.Spec PyProof.Rows
section
variable {X:Cx} {tg:Expr}
end
open PySem PySem.Spec PyProof.Rows
section
variable {X:Cx} {a b c:Expr} {ta tb tc:TE} {pos:Pos}
end
section
variable {X:Cx} {a b c:Expr} {ta tb tc:TE} {pos:Pos}
end
open PySem PySem.Spec PyProof.Rows
section
variable {prog:Program} {w:World} {A:Around} {E:Value -> Shared -> Prop} {s:Shared} {K:PySem.W.Frag} {x dx C f:Addr} {mA:Str -> Option Value} {name:Str} {v:Value}
end
section
variable {P:Program} {w:World} {H H':Hp} {h h':Heap} {a C dx:Addr} {fs fs':List (Str×V)}
end
section
variable {X:Cx} {pins:List (Addr×Obj)} {σ:St} {H:Hp} {s:Shared} {a C dx:Addr} {fs:List (Str×V)} {f:Str} {v:V} {A:Around} {E:Value -> Shared -> Prop}
end
section
variable {X:Cx} {o e value:Expr} {f:Str} {pos pos' tpos:Pos} {ta tv:TE}
end
section
variable {X:Cx} {pins:List (Addr×Obj)} {σ:St} {H:Hp} {s:Shared} {A:Around} {E:Value -> Shared -> Prop} {Q:Value -> Shared -> Prop} {c:Value} {b:Bool}
end
open PySem PySem.Spec PyProof.Rows
section
variable {X:Cx} {e:Expr} {es:List Expr} {te:TE} {t:TA} {pos:Pos}
end
section
variable {X:Cx} {pins:List (Addr×Obj)} {σ:St} {H:Hp} {s s':Shared}
end
section
variable {X:Cx} {CX:CXT} {k:Nat} {f C:Addr} {fd:FuncData} {ps:List Str} {sp:Sp} {dvs:List V} {ds:List Value} {E:XK} {x m:Str} {p pos apos:Pos} {e o:Expr} {es:List Expr} {ta:TE} {t:TA}
end
section
variable {X:Cx} {CX:CXT} {k:Nat} {f C:Addr} {fd:FuncData} {ps ks:List Str} {sp:Sp} {E:XK} {x m:Str} {p pos apos kpos:Pos} {e o:Expr} {es:List Expr} {kws:List Keyword} {te ta:TE} {t tk:TA} {nm:Option Str}
variable {g:List Value -> List Value -> List Value} {gV:List V -> List V -> List V}
end
open PySem PySem.Spec PyProof.Rows
section
variable {X:Cx} {x:Str} {p pos:Pos} {e:Expr} {es:List Expr} {t:TA} {id T:String} {r:List V -> Hp -> VK -> Prop}
end
open PySem PySem.Spec PyProof.Rows
section
variable {κ:Type} [DecidableEq κ]
noncomputable def valV (kvs:List (κ×V)) (k:κ):Option V:=(kvs.find? fun kv=>decide (kv.1=k)).map (·.2)
noncomputable def putK (kvs:List (κ×V)) (k:κ) (v:V):List (κ×V):=
 if (kvs.any fun kv=>decide (kv.1=k))=true then kvs.map (fun kv=>if kv.1=k then (kv.1,v) else kv) else kvs++[(k,v)]
noncomputable def qLb (kvs:List (κ×V)) (k:κ):List (κ×V):=kvs.filter fun kv=>decide (kv.1≠k)
theorem qDU {p:κ×V} {r:List (κ×V)} {k:κ} (e:p.1=k):valV (p::r) k=some p.2:=by simp [valV,List.find?_cons,e]
theorem qDz {p:κ×V} {r:List (κ×V)} {k:κ} (e:¬ p.1=k):valV (p::r) k=valV r k:=by simp [valV,List.find?_cons,e]
theorem valV_any (k:κ):∀ kvs:List (κ×V),(kvs.any fun kv=>decide (kv.1=k))=(valV kvs k).isSome
 | []=>rfl
 | p::r=>by
  rw [List.any_cons]
  by_cases e:p.1=k
  ·simp only [qDU e,decide_eq_true e,Bool.true_or,Option.isSome_some]
  ·rw [qDz e,decide_eq_false e,Bool.false_or];exact valV_any k r
theorem qCw (kvs:List (κ×V)) (k:κ) (v:V):(putK kvs k v).length<=kvs.length + 1:=by
 unfold putK
 split
 ·rw [List.length_map];omega
 ·rw [List.length_append,List.length_cons,List.length_nil];omega
theorem RelO.isSome_eq {o:Option V} {u:Option Value} (r:RelO o u):o.isSome=u.isSome:=by
 cases o with
 | none=>cases u with
  | none=>rfl
  | some _=>exact (show False from r).elim
 | some _=>cases u with
  | none=>exact (show False from r).elim
  | some _=>rfl
theorem RelO.getD {o:Option V} {u:Option Value} {d:V} {d':Value} (r:RelO o u) (rd:RelV d d'):RelV (o.getD d) (u.getD d'):=by
 cases o with
 | none=>cases u with
  | none=>exact rd
  | some _=>exact (show False from r).elim
 | some _=>cases u with
  | none=>exact (show False from r).elim
  | some _=>exact r
theorem KV.val {kvs:List (κ×V)} {vs:List (κ×Value)} (r:KV kvs vs) (k:κ):RelO (valV kvs k) (valueAt vs k):=by
 unfold KV at r
 induction r with
 | nil=>exact True.intro
 | @cons p q ps qs h t ih=>
  obtain ⟨h1,h2⟩:=h
  by_cases e:p.1=k
  ·have e':q.1=k:=h1.symm.trans e
   have b:valueAt (q::qs) k=some q.2:=by simp [valueAt,List.find?_cons,e']
   rw [qDU e,b];exact h2
  ·have e':¬ q.1=k:=fun z=>e (h1.trans z)
   have b:valueAt (q::qs) k=valueAt qs k:=by simp [valueAt,List.find?_cons,e']
   rw [qDz e,b];exact ih
theorem KV.any {kvs:List (κ×V)} {vs:List (κ×Value)} (r:KV kvs vs) (k:κ):(kvs.any fun kv=>decide (kv.1=k))=vs.any fun kv=>decide (kv.1=k):=by
 unfold KV at r
 induction r with
 | nil=>rfl
 | cons h t ih=>rw [List.any_cons,List.any_cons,ih,h.1]
theorem KV.repl {kvs:List (κ×V)} {vs:List (κ×Value)} (r:KV kvs vs) (k:κ) {y:V} {u:Value} (ry:RelV y u):
  KV (kvs.map fun kv=>if kv.1=k then (kv.1,y) else kv) (vs.map fun kv=>if kv.1=k then (kv.1,u) else kv):=by
 unfold KV at r ⊢
 induction r with
 | nil=>exact .nil
 | @cons p q ps qs h t ih=>
  rw [List.map_cons,List.map_cons]
  refine .cons ?_ ih
  obtain ⟨h1,h2⟩:=h
  by_cases e:p.1=k
  ·rw [if_pos e,if_pos (h1.symm.trans e)];exact ⟨h1,ry⟩
  ·rw [if_neg e,if_neg (fun z=>e (h1.trans z))];exact ⟨h1,h2⟩
theorem KV.put {kvs:List (κ×V)} {vs:List (κ×Value)} (r:KV kvs vs) (k:κ) {y:V} {u:Value} (ry:RelV y u):KV (putK kvs k y) (stored vs k u):=by
 unfold putK stored
 rw [r.any k]
 by_cases e:(vs.any fun kv=>decide (kv.1=k))=true
 ·rw [if_pos e,if_pos e];exact r.repl k ry
 ·rw [if_neg e,if_neg e];exact Paired.snoc r ⟨rfl,ry⟩
theorem KV.drop {kvs:List (κ×V)} {vs:List (κ×Value)} (r:KV kvs vs) (k:κ):KV (qLb kvs k) (without vs k):=by
 unfold KV at r ⊢
 unfold qLb without
 induction r with
 | nil=>exact .nil
 | @cons p q ps qs h t ih=>
  obtain ⟨h1,h2⟩:=h
  rw [List.filter_cons,List.filter_cons]
  by_cases e:p.1=k
  ·have a:¬ decide (p.1≠k)=true:=by simp [e]
   have b:¬ decide (q.1≠k)=true:=by simp [h1.symm.trans e]
   rw [if_neg a,if_neg b];exact ih
  ·have e':¬ q.1=k:=fun z=>e (h1.trans z)
   have a:decide (p.1≠k)=true:=by simp [e]
   have b:decide (q.1≠k)=true:=by simp [e']
   rw [if_pos a,if_pos b];exact .cons ⟨h1,h2⟩ ih
theorem KV.length {kvs:List (κ×V)} {vs:List (κ×Value)} (r:KV kvs vs):kvs.length=vs.length:=Paired.length r
end
theorem qJc {P:Program} {w:World} {k:Key} {u:Value} (r:RelV (kV k) u):(qAv P w).is k u=true:=by
 cases k with
 | inl i=>obtain ⟨t,e⟩:=(show ∃ t,u=Value.int i t from r);subst e;exact qEn P w i t
 | inr x=>obtain ⟨t,e⟩:=(show ∃ t,u=Value.str x t from r);subst e;exact qEu P w x t
theorem qEB {P:Program} {w:World}:∀ {ks:List Key} {us:List Value},Vals (ks.map kV) us -> ItemsAre (qAv P w) ks us
 | [],_,r=>by rw [List.map_nil] at r;cases r;exact .nil
 | k::ks,_,r=>by
  rw [List.map_cons] at r
  cases r with
  | cons h t=>exact .cons (qJc h) (qEB t)
noncomputable abbrev KT (H:Hp):List (List Key×V) -> List (List Key×Addr×Value) -> Prop:=Paired fun p q=>p.1=q.1/\H q.2.1=some (.tup (p.1.map kV))/\RelV p.2 q.2.2
theorem KT.val {H:Hp} {kvs:List (List Key×V)} {xs:List (List Key×Addr×Value)} (r:KT H kvs xs) (k:List Key):RelO (valV kvs k) ((atKey xs k).map (·.2)):=by
 induction r with
 | nil=>exact True.intro
 | @cons p q ps qs h t ih=>
  obtain ⟨h1,_,h2⟩:=h
  by_cases e:p.1=k
  ·have e':q.1=k:=h1.symm.trans e
   have b:atKey (q::qs) k=some q.2:=by simp [atKey,List.find?_cons,e']
   rw [qDU e,b];exact h2
  ·have e':¬ q.1=k:=fun z=>e (h1.trans z)
   have b:atKey (q::qs) k=atKey qs k:=by simp [atKey,List.find?_cons,e']
   rw [qDz e,b];exact ih
theorem KT.repl {H:Hp} {kvs:List (List Key×V)} {xs:List (List Key×Addr×Value)} (r:KT H kvs xs) (k:List Key) {y:V} {u:Value} (ry:RelV y u):
  KT H (kvs.map fun kv=>if kv.1=k then (kv.1,y) else kv) (xs.map (putAt k u)):=by
 induction r with
 | nil=>exact .nil
 | @cons p q ps qs h t ih=>
  rw [List.map_cons,List.map_cons]
  refine .cons ?_ ih
  obtain ⟨h1,h2,h3⟩:=h
  unfold putAt
  by_cases e:p.1=k
  ·rw [if_pos e,if_pos (h1.symm.trans e)];exact ⟨h1,h2,ry⟩
  ·rw [if_neg e,if_neg (fun z=>e (h1.trans z))];exact ⟨h1,h2,h3⟩
theorem KT.put {H:Hp} {kvs:List (List Key×V)} {xs:List (List Key×Addr×Value)} (r:KT H kvs xs) (k:List Key) {b:Addr} {y:V} {u:Value} (hb:H b=some (.tup (k.map kV))) (ry:RelV y u):
  KT H (putK kvs k y) (storedH xs k b u):=by
 have e:(kvs.any fun kv=>decide (kv.1=k))=(atKey xs k).isSome:=by
  rw [valV_any,(r.val k).isSome_eq,Option.isSome_map]
 unfold putK storedH
 rw [e]
 by_cases q:(atKey xs k).isSome=true
 ·rw [if_pos q,if_pos q];exact r.repl k ry
 ·rw [if_neg q,if_neg q];exact Paired.snoc r ⟨rfl,hb,ry⟩
theorem KT.keeps {H H':Hp} {kvs:List (List Key×V)} {xs:List (List Key×Addr×Value)} (r:KT H kvs xs) (ht:∀ b ys,H b=some (.tup ys) -> H' b=some (.tup ys)):KT H' kvs xs:=
 Paired.mapP r fun _ _ z=>⟨z.1,ht _ _ z.2.1,z.2.2⟩
section
variable {P:Program} {w:World} {H:Hp} {h:Heap} {a:Addr}
theorem qMf {u:HO} (ok:HOk P w H h) (e:Rd H a u):ObjOk P w H h a u:=e.ok ok
theorem qK1 {kvs:List (Key×V)} (ok:HOk P w H h) (e:Rd H a (.dK kvs)):kvs.length<=sizeLine/\(a==sysModules)=false/\∃ vs,KV kvs vs/\h.DictOf (qAv P w) a vs:=
 show ObjOk P w H h a (.dK kvs) from qMf ok e
theorem qNO {kvs:List (Key×V)} (ok:HOk P w H h) (e:H a=some (.dK kvs)):kvs.length<=sizeLine/\(a==sysModules)=false/\∃ vs,KV kvs vs/\h.DictOf (qAv P w) a vs:=qK1 ok (.inl e)
theorem qHa {ks:List Key} (ok:HOk P w H h) (e:H a=some (.tup (ks.map kV))):(tupleKind (qAv P w)).is h ks a:=by
 obtain ⟨_,its,r,o,h1,h2,n,h3⟩:=(show ObjOk P w H h a (.tup (ks.map kV)) from ok a _ e)
 exact ⟨o,its.toArray,n,h1,h2,h3,by simpa using qEB r⟩
theorem qK9 {kvs:List (List Key×V)} (ok:HOk P w H h) (e:Rd H a (.dT kvs)):kvs.length<=sizeLine/\(a==sysModules)=false/\
  ∃ xs,KT H kvs xs/\h.DictOfH (tupleKind (qAv P w)) a xs:=by
 obtain ⟨z,y,xs,r,o,es,ep,h1,h2,h3,h4,h5⟩:=(show ObjOk P w H h a (.dT kvs) from qMf ok e)
 refine ⟨z,y,xs,r,o,es,ep,h1,h2,h3,h4,fun x hx=>?_,h5⟩
 have all:∀ {l:List (List Key×V)} {m:List (List Key×Addr×Value)},KT H l m -> ∀ x∈m,(tupleKind (qAv P w)).is h x.1 x.2.1:=by
  intro l m q
  induction q with
  | nil=>intro x hx;exact nomatch hx
  | @cons p q ps qs hq t ih=>
   intro x hx
   rcases List.mem_cons.mp hx with e | hx
   ·subst e
    exact qHa ok (by rw [<- hq.1];exact hq.2.1)
   ·exact ih x hx
 exact all r x hx
theorem qNU {kvs:List (List Key×V)} (ok:HOk P w H h) (e:H a=some (.dT kvs)):kvs.length<=sizeLine/\(a==sysModules)=false/\
  ∃ xs,KT H kvs xs/\h.DictOfH (tupleKind (qAv P w)) a xs:=qK9 ok (.inl e)
end
noncomputable def DGet (H:Hp) (a:Addr) (y:V) (r:Option V):Prop:=
 (∃ kvs k,Rd H a (.dK kvs)/\y=kV k/\r=valV kvs k)\/∃ kvs k b,Rd H a (.dT kvs)/\y=.ref b/\H b=some (.tup (k.map kV))/\r=valV kvs k
noncomputable def DPut (H:Hp) (a:Addr) (y v:V) (H':Hp):Prop:=
 (∃ kvs k,H a=some (.dK kvs)/\y=kV k/\kvs.length < sizeLine/\H'=upd H a (.dK (putK kvs k v)))\/
 ∃ kvs k b,H a=some (.dT kvs)/\y=.ref b/\H b=some (.tup (k.map kV))/\kvs.length < sizeLine/\H'=upd H a (.dT (putK kvs k v))
theorem DGet.k {H:Hp} {a:Addr} {kvs:List (Key×V)} {k:Key} (e:H a=some (.dK kvs)):DGet H a (kV k) (valV kvs k):=.inl ⟨kvs,k,.inl e,rfl,rfl⟩
theorem DGet.t {H:Hp} {a b:Addr} {kvs:List (List Key×V)} {k:List Key} (e:H a=some (.dT kvs)) (eb:H b=some (.tup (k.map kV))):DGet H a (.ref b) (valV kvs k):=.inr ⟨kvs,k,b,.inl e,rfl,eb,rfl⟩
theorem DPut.k {H:Hp} {a:Addr} {kvs:List (Key×V)} {k:Key} {v:V} (e:H a=some (.dK kvs)) (hl:kvs.length < sizeLine):DPut H a (kV k) v (upd H a (.dK (putK kvs k v))):=.inl ⟨kvs,k,e,rfl,hl,rfl⟩
theorem DPut.t {H:Hp} {a b:Addr} {kvs:List (List Key×V)} {k:List Key} {v:V} (e:H a=some (.dT kvs)) (eb:H b=some (.tup (k.map kV))) (hl:kvs.length < sizeLine):
  DPut H a (.ref b) v (upd H a (.dT (putK kvs k v))):=.inr ⟨kvs,k,b,e,rfl,eb,hl,rfl⟩
section
variable {X:Cx} {pins:List (Addr×Obj)} {σ:St} {H:Hp} {s:Shared} {a:Addr} {y v:V} {u r:Value} {o:Option V} {A:Around} {E:Value -> Shared -> Prop}
theorem d_in {Q:Value -> Shared -> Prop} (hu:A.units + 1 < cLine) (I:Inv X pins σ H s) (g:DGet H a y o) (ry:RelV y u) (h:∀ s',Inv X pins σ H s' -> Q (.bool o.isSome) s'):
  wpAny (model X.prog X.w) A (compareOp .In u (.ref a)) Q E s:=by
 rcases g with ⟨kvs,k,e,ey,l⟩ | ⟨kvs,k,b,e,ey,eb,l⟩
 ·subst ey
  obtain ⟨z,hd,vs,rel,dd⟩:=qK1 I.hok e
  refine wpAny_in_of (qJc ry) hd dd.mapOf ?_
  rw [<- (rel.val k).isSome_eq,<- l]
  exact h _ (I.tok _)
 ·subst ey
  cases (show u=Value.ref b from ry)
  obtain ⟨z,hd,xs,rel,dd⟩:=qK9 I.hok e
  refine wpAny_in_heap (tupleKind_room_in1 hu) (qHa I.hok eb) hd dd ?_
  have q:=(rel.val k).isSome_eq
  rw [Option.isSome_map] at q
  rw [<- q,<- l]
  exact h _ (I.tok _)
theorem qHP {h':Heap} {t':Nat} {ob:HO} (I:Inv X pins σ H s) (mu:Mut (H a)) (hs:Heap.SameBut a s.heap h') (he:∃ q,h'.get? a=some q) (new:ObjOk X.prog X.w (upd H a ob) h' a ob):
  Inv X pins σ (upd H a ob) { s with heap:=h',toks:=t' }:=
 I.write (x:=a) (e:=a) mu (.inl rfl) (fun b q hb z=>(hs.2 b hb).trans z) he new
theorem qLJ {P:Program} {w:World} {H':Hp} {h':Heap} {kvs:List (Key×V)} {vs:List (Key×Value)} (z:kvs.length<=sizeLine) (hd:(a==sysModules)=false) (rel:KV kvs vs) (dd:h'.DictOf (qAv P w) a vs):
  ObjOk P w H' h' a (.dK kvs):=⟨z,hd,vs,rel,dd⟩
theorem d_setItem {H':Hp} {Q:Unit -> Shared -> Prop} (hu:A.units + 1 < cLine) (I:Inv X pins σ H s) (g:DPut H a y v H') (ry:RelV y u) (rv:RelV v r) (h:∀ s',Inv X pins σ H' s' -> Q () s'):
  wpAny (model X.prog X.w) A (setItem (.ref a) u r) Q E s:=by
 rcases g with ⟨kvs,k,e,ey,l,eH⟩ | ⟨kvs,k,b,e,ey,eb,l,eH⟩
 ·subst ey eH
  obtain ⟨z,hd,vs,rel,dd⟩:=qNO I.hok e
  have hz:vs.length<=sizeLine:=by rw [<- rel.length];exact z
  have hl:(putK kvs k v).length<=sizeLine:=by have:=qCw kvs k v;omega
  refine wpAny_setItem_pairs (hsz:=hz) (qJc ry) dd fun h' dd' hs=>h _ ?_
  have he:∃ q,h'.get? a=some q:=let ⟨q,_,_,hq,_⟩:=dd';⟨q,hq⟩
  exact qHP I (by rw [e];exact True.intro) hs he (qLJ hl hd (rel.put k rv) dd')
 ·subst ey eH
  cases (show u=Value.ref b from ry)
  obtain ⟨z,hd,xs,rel,dd⟩:=qNU I.hok e
  have hz:xs.length<=sizeLine:=by rw [<- Paired.length rel];exact z
  have hl:(putK kvs k v).length<=sizeLine:=by have:=qCw kvs k v;omega
  refine wpAny_setItem_heap (hsz:=hz) (tupleKind_room_in1 hu) (qHa I.hok eb) dd fun h' dd' hs=>h _ ?_
  obtain ⟨q,es,ep,hq,h2,h3,h4,_,h5⟩:=dd'
  refine qHP I (by rw [e];exact True.intro) hs ⟨q,hq⟩ ⟨hl,hd,_,(rel.put k eb rv).keeps fun c ys ec=>?_,q,es,ep,hq,h2,h3,h4,h5⟩
  rw [qAM (qNR ec e (fun z=>nomatch z))]
  exact ec
end
section
variable {X:Cx} {pins:List (Addr×Obj)} {σ:St} {H:Hp} {s:Shared} {a:Addr} {kvs:List (Key×V)} {k:Key} {u:Value} {A:Around} {E:Value -> Shared -> Prop}
end
section
variable {X:Cx} {o i e value:Expr} {pos pos' tpos:Pos} {td ty tv:TE}
end
section
variable {X:Cx} {pos:Pos}
end
structure M1 (X:Cx) (o:Expr) (m:Str) (apos:Pos) (e:Expr) (cpos:Pos):Prop where
 base:attributeBase o m X.env (eval o X.env)=eval o X.env
 few:((backTo cpos (starEach [e] X.env)).all (fun x=>!x.1)&&(backToKw cpos (keywordEach [] X.env)).all (fun x=>x.1.isSome)
  && decide (([e]:List Expr).length + ([]:List Keyword).length + (if ([]:List Keyword).isEmpty then 0 else 1) < 30))=true
 line:(apos.endLine==cpos.line)=true
 trees:backTo cpos (starEach [e] X.env)=[(false,eval e X.env)]
structure M2 (X:Cx) (o:Expr) (m:Str) (apos:Pos) (e f:Expr) (cpos:Pos):Prop where
 base:attributeBase o m X.env (eval o X.env)=eval o X.env
 few:((backTo cpos (starEach [e,f] X.env)).all (fun x=>!x.1)&&(backToKw cpos (keywordEach [] X.env)).all (fun x=>x.1.isSome)
  && decide (([e,f]:List Expr).length + ([]:List Keyword).length + (if ([]:List Keyword).isEmpty then 0 else 1) < 30))=true
 line:(apos.endLine==cpos.line)=true
 trees:backTo cpos (starEach [e,f] X.env)=[(false,eval e X.env),(false,eval f X.env)]
section
variable {X:Cx} {pins:List (Addr×Obj)} {σ:St} {H:Hp} {s:Shared} {a:Addr} {y d:V} {u r:Value} {o:Option V} {A:Around} {E:Value -> Shared -> Prop}
end
section
variable {X:Cx} {o e f:Expr} {apos cpos:Pos} {td ty tx:TE}
end
section
variable {X:Cx} {pins:List (Addr×Obj)} {σ:St} {H:Hp} {s:Shared} {a:Addr} {kvs:List (Key×V)} {A:Around} {E:Value -> Shared -> Prop}
end
section
variable {X:Cx} {pins:List (Addr×Obj)} {σ:St} {H:Hp} {s:Shared} {a:Addr} {y:V} {u:Value} {A:Around} {E:Value -> Shared -> Prop}
end
end L2
namespace Att
open PySem PySem.W PySem.Calls PyProof.Rows
section
variable {prog:Program} {w:World} {A:Around} {E:Value -> Shared -> Prop} {s:Shared} {K:Frag}
end
end Att
namespace L2
open PySem PySem.Spec PyProof.Rows
open PySem PySem.Spec PyProof.Rows
end L2
set_option maxHeartbeats 4000000
namespace L2
open PySem PySem.Spec PyProof.Rows
noncomputable def qGO (cells:List (Str×Addr)):List (Str×NameKind) -> List (Str×Addr) -> List (Str×Addr)
 | [],cs=>cs
 | (n,k)::r,cs=>qGO cells r (if k=.free then (match cells.lookup n with | some c=>(n,c)::cs | none=>cs) else cs)
theorem qBN {scope:Scope} {env:Env} (h:∀ y∈scope.names,y.2=.free -> ∃ c,env.cells.lookup y.1=some c):closureFor scope env=pure (qGO env.cells scope.names []):=by
 simp only [closureFor]
 generalize scope.names=names at h
 have key:∀ (names:List (Str×NameKind)) (cs:List (Str×Addr)),(∀ y∈names,y.2=.free -> ∃ c,env.cells.lookup y.1=some c) ->
   (forIn names cs fun x r=>if (x.2==NameKind.free)=true then do let c <- cellOf env x.1;pure (ForInStep.yield ((x.1,c)::r)) else pure (ForInStep.yield r))=(pure (qGO env.cells names cs):Sem _):=by
  intro names
  induction names with
  | nil=>intro cs _;rfl
  | cons y r ih=>
   intro cs hy
   obtain ⟨n,k⟩:=y
   rw [List.forIn_cons]
   by_cases hk:k=.free
   ·subst hk
    obtain ⟨c,hc⟩:=hy (n,.free) List.mem_cons_self rfl
    have hc':List.lookup n env.cells=some c:=hc
    have e:cellOf env n=pure c:=by unfold cellOf;rw [hc']
    simp only [beq_self_eq_true,if_true,e,pure_bind,qGO,hc']
    exact ih _ fun y hm=>hy y (List.mem_cons_of_mem _ hm)
   ·have hb:(k==NameKind.free)=false:=by simpa using hk
    simp only [hb,Bool.false_eq_true,if_false,pure_bind,qGO,if_neg hk]
    exact ih _ fun y hm=>hy y (List.mem_cons_of_mem _ hm)
 rw [key names [] h]
 rfl
theorem qIv {cells:List (Str×Addr)} {x:Str} {c:Addr}:∀ {names:List (Str×NameKind)} {cs:List (Str×Addr)},(qGO cells names cs).lookup x=some c -> cs.lookup x=some c\/cells.lookup x=some c
 | [],cs,h=>.inl h
 | (n,k)::r,cs,h=>by
  unfold qGO at h
  rcases qIv h with h2 | h2
  ·clear h
   by_cases hk:k=.free
   ·rw [if_pos hk] at h2
    cases e:cells.lookup n with
    | none=>rw [e] at h2;exact .inl h2
    | some c'=>
     rw [e] at h2
     simp only [List.lookup_cons] at h2
     cases hx:x==n with
     | true=>
      have hx':x=n:=by simpa using hx
      rw [hx] at h2
      subst hx'
      cases h2
      exact .inr e
     | false=>
      rw [hx] at h2
      exact .inl h2
   ·rw [if_neg hk] at h2
    exact .inl h2
  ·exact .inr h2
theorem qIk {cells:List (Str×Addr)} {x:Str} {c:Addr} (hc:cells.lookup x=some c):∀ {names:List (Str×NameKind)} {cs:List (Str×Addr)},((x,NameKind.free)∈names\/cs.lookup x=some c) -> (∀ c',cs.lookup x=some c' -> c'=c) -> (qGO cells names cs).lookup x=some c
 | [],cs,h,_=>by
  rcases h with h | h
  ·exact nomatch h
  ·exact h
 | (n,k)::r,cs,h,hu=>by
  unfold qGO
  refine qIk hc ?_ ?_
  ·rcases h with h | h
   ·rcases List.mem_cons.mp h with h | h
    ·cases h
     right
     rw [if_pos rfl,hc]
     simp
    ·exact .inl h
   ·right
    by_cases hk:k=.free
    ·rw [if_pos hk]
     cases e:cells.lookup n with
     | none=>exact h
     | some c'=>
      simp only [List.lookup_cons]
      cases hx:x==n with
      | true=>
       have hx':x=n:=by simpa using hx
       subst hx'
       rw [hc] at e
       cases e
       rfl
      | false=>exact h
    ·rw [if_neg hk];exact h
  ·intro c' h'
   by_cases hk:k=.free
   ·rw [if_pos hk] at h'
    cases e:cells.lookup n with
    | none=>rw [e] at h';exact hu c' h'
    | some c2=>
     rw [e] at h'
     simp only [List.lookup_cons] at h'
     cases hx:x==n with
     | true=>
      have hx':x=n:=by simpa using hx
      subst hx'
      rw [hx] at h'
      rw [hc] at e
      cases e
      cases h'
      rfl
     | false=>
      rw [hx] at h'
      exact hu c' h'
   ·rw [if_neg hk] at h'
    exact hu c' h'
theorem qCI {env:Env}:∀ {names:List (Str×NameKind)} {x:Str},names.lookup x=some .free ->
  (names.map fun (n,k)=>if (k==NameKind.free&&env.scope.kind==.function&&env.kindOf n==some .cell) then (n,NameKind.cell) else (n,k)).lookup x=some .cell\/
  (names.map fun (n,k)=>if (k==NameKind.free&&env.scope.kind==.function&&env.kindOf n==some .cell) then (n,NameKind.cell) else (n,k)).lookup x=some .free
 | [],_,h=>by simp at h
 | (n,k)::r,x,h=>by
  have ih:=@qCI env r x
  simp only [List.map_cons]
  cases hx:x==n with
  | true=>
   simp only [List.lookup_cons,hx] at h
   cases h
   by_cases hc:(NameKind.free==NameKind.free&&env.scope.kind==.function&&env.kindOf n==some .cell)=true
   ·rw [if_pos hc];left;simp [List.lookup_cons,hx]
   ·rw [if_neg hc];right;simp [List.lookup_cons,hx]
  | false=>
   simp only [List.lookup_cons,hx] at h
   by_cases hc:(k==NameKind.free&&env.scope.kind==.function&&env.kindOf n==some .cell)=true
   ·rw [if_pos hc];simp only [List.lookup_cons,hx];exact ih h
   ·rw [if_neg hc];simp only [List.lookup_cons,hx];exact ih h
theorem qBQ {env:Env}:∀ {names:List (Str×NameKind)} {x:Str},
  ((names.map fun (n,k)=>if (k==NameKind.free&&env.scope.kind==.function&&env.kindOf n==some .cell) then (n,NameKind.cell) else (n,k)).lookup x=some .cell\/
  (names.map fun (n,k)=>if (k==NameKind.free&&env.scope.kind==.function&&env.kindOf n==some .cell) then (n,NameKind.cell) else (n,k)).lookup x=some .free) -> names.lookup x=some .free\/names.lookup x=some .cell
 | [],_,h=>by simp at h
 | (n,k)::r,x,h=>by
  have ih:=@qBQ env r x
  simp only [List.map_cons] at h
  cases hx:x==n with
  | true=>
   simp only [List.lookup_cons,hx]
   by_cases hc:(k==NameKind.free&&env.scope.kind==.function&&env.kindOf n==some .cell)=true
   ·rw [if_pos hc] at h
    have hk:k=.free:=by
     cases k<;>first | rfl | (simp at hc)
    rw [hk];exact .inl rfl
   ·rw [if_neg hc] at h
    simp only [List.lookup_cons,hx] at h
    exact h.symm
  | false=>
   simp only [List.lookup_cons,hx]
   by_cases hc:(k==NameKind.free&&env.scope.kind==.function&&env.kindOf n==some .cell)=true
   ·rw [if_pos hc] at h;simp only [List.lookup_cons,hx] at h;exact ih h
   ·rw [if_neg hc] at h;simp only [List.lookup_cons,hx] at h;exact ih h
theorem qBe:∀ (names:List (Str×NameKind)) (a:Nat) (acc:List (Str×Addr)),cellsFrom a names acc=cellsFrom a names []++acc
 | [],a,acc=>rfl
 | (n,k)::r,a,acc=>by
  unfold cellsFrom
  split
  ·rw [qBe r (a + 1) ((n,a)::acc),qBe r (a + 1) [(n,a)],List.append_assoc];rfl
  ·exact qBe r a acc
theorem qDc {x:Str} {c:Addr}:∀ {names:List (Str×NameKind)} {a:Nat},(x,c)∈cellsFrom a names [] -> (x,NameKind.cell)∈names
 | [],a,h=>nomatch h
 | (n,k)::r,a,h=>by
  unfold cellsFrom at h
  split at h
  ·rename_i hk
   rw [qBe,List.mem_append] at h
   rcases h with h | h
   ·exact List.mem_cons_of_mem _ (qDc h)
   ·have:(x,c)=(n,a):=List.mem_singleton.mp h
    cases this
    rw [beq_iff_eq.mp hk];exact List.mem_cons_self
  ·exact List.mem_cons_of_mem _ (qDc h)
theorem qFT {x:Str}:∀ {names:List (Str×NameKind)} {a:Nat},(x,NameKind.cell)∈names -> ∃ c,(cellsFrom a names []).lookup x=some c
 | [],a,h=>nomatch h
 | (n,k)::r,a,h=>by
  unfold cellsFrom
  rcases List.mem_cons.mp h with h | h
  ·cases h
   rw [if_pos (by decide),qBe,List.lookup_append]
   cases (cellsFrom (a + 1) r []).lookup x with
   | none=>exact ⟨a,by simp⟩
   | some c=>exact ⟨c,rfl⟩
  ·split
   ·obtain ⟨c,hc⟩:=qFT (a:=a + 1) h
    exact ⟨c,by rw [qBe,List.lookup_append,hc];rfl⟩
   ·exact qFT h
noncomputable def qBS (X:Cx) (scope:Scope) (C:Addr):List (Str×Addr):=cellsFrom (C + 1) scope.names (qGO X.env.cells scope.names [])
noncomputable def cxComp (X:Cx) (scope:Scope) (C:Addr) (fp:List Addr) (s₂:Shared) (H₂:Hp) (N:List Str):Cx:=
 { X with N:=N,s₀:=s₂,H₀:=H₂,env:=compEnvC scope (qBS X scope C) C X.env,outer:=X.stack,ex:=fp,fn:=fun x=>decide (scope.names.lookup x=some .cell),pn:=[],xe:=fun _ _=>False }
noncomputable def inner (src:List (Option Nat)) (σ:St):St:=src.map fun o=>match o with | none=>none | some j=>(σ[j]?).join
structure CompScope (X:Cx) (scope:Scope) (N:List Str) (src:List (Option Nat)):Prop where
 kind:scope.kind=.function
 uniq:∀ y∈scope.names,scope.names.lookup y.1=some y.2
 frees:∀ y∈scope.names,y.2=NameKind.free -> X.env.kindOf y.1=some .cell\/X.env.kindOf y.1=some .free
 nd:N.Nodup
 len:src.length=N.length
 from_:∀ (i:Nat) x j,N[i]?=some x -> src[i]?=some (some j) -> X.N[j]?=some x/\scope.names.lookup x=some .free
theorem qAd {x:Str} {k:NameKind}:∀ {names:List (Str×NameKind)},names.lookup x=some k -> (x,k)∈names
 | [],h=>by simp at h
 | (n,k')::r,h=>by
  cases hx:x==n with
  | true=>
   simp only [List.lookup_cons,hx] at h
   have hx':x=n:=by simpa using hx
   cases h
   subst hx'
   exact List.mem_cons_self
  | false=>
   simp only [List.lookup_cons,hx] at h
   exact List.mem_cons_of_mem _ (qAd h)
section
variable {X:Cx} {pins:List (Addr×Obj)} {σ:St} {H₂:Hp} {s₂:Shared} {scope:Scope} {N:List Str} {src:List (Option Nat)} {fp:List Addr}
theorem CompScope.cells (S:CompScope X scope N src) (ok:X.Ok):∀ y∈scope.names,y.2=.free -> ∃ c,X.env.cells.lookup y.1=some c:=fun y hy hk=>ok.has y.1 (S.frees y hy hk)
theorem CompScope.names (S:CompScope X scope N src):∀ y∈scope.names,y.2=NameKind.local -> scope.names.lookup y.1=some .local:=fun y hy hk=>by rw [<- hk];exact S.uniq y hy
theorem qAu {C:Addr} {h₁:Heap} (ow:CellsOk h₁ (C + 1) (cellsFrom (C + 1) scope.names [])) {x:Str} {c:Addr} (h:(qBS X scope C).lookup x=some c):
  ((x,c)∈cellsFrom (C + 1) scope.names []/\(x,NameKind.cell)∈scope.names/\h₁.IsCell c none/\C < c)\/X.env.cells.lookup x=some c:=by
 unfold qBS at h
 rw [qBe,List.lookup_append] at h
 cases e:(cellsFrom (C + 1) scope.names []).lookup x with
 | some c'=>
  rw [e] at h
  cases h
  have m:=PySem.mem_of_lookup e
  exact .inl ⟨m,qDc m,(ow.empty x c m).1,(ow.empty x c m).2⟩
 | none=>
  rw [e] at h
  rcases qIv (show (qGO X.env.cells scope.names []).lookup x=some c by simpa using h) with h | h
  ·simp at h
  ·exact .inr h
theorem qDF (S:CompScope X scope N src) {C:Addr} {x:Str} {c:Addr} (hf:scope.names.lookup x=some .free) (h:X.env.cells.lookup x=some c):(qBS X scope C).lookup x=some c:=by
 unfold qBS
 rw [qBe,List.lookup_append]
 have:(cellsFrom (C + 1) scope.names []).lookup x=none:=by
  cases e:(cellsFrom (C + 1) scope.names []).lookup x with
  | none=>rfl
  | some c'=>
   have:=S.uniq _ (qDc (PySem.mem_of_lookup e))
   rw [hf] at this;cases this
 rw [this,qIk h (.inl (qAd hf)) (by intro c' h';simp at h')];rfl
theorem qKZ (S:CompScope X scope N src) (I:Inv X pins σ H₂ s₂) (f2:∀ b∈fp,qEc X pins H₂ b) (ob:∀ b∈fp,∃ o,s₂.heap.get? b=some o/\∀ v,o.data≠.cell v) {C:Addr} (hC:s₂.heap.objs.size<=C) {h₁:Heap} (ow:CellsOk h₁ (C + 1) (cellsFrom (C + 1) scope.names [])):
  (cxComp X scope C fp s₂ H₂ N).Ok:=by
 have lt:∀ x c,X.env.cells.lookup x=some c -> c < s₂.heap.objs.size:=fun x c h=>let ⟨v,q⟩:=I.cell x c h;q.lt
 refine ⟨I.ok.mod,S.kind,I.ok.glob,I.ok.blt,hC,fun x y c h1 h2=>?_,fun x hx=>?_,fun x c hf h=>?_,I.ok.hd,I.ok.frames,.inl rfl,fun b hb=>⟨?_,fun x c h=>?_⟩,fun b o e=>I.bs b o e,?_,fun b o e hb=>?_,fun b hb=>?_,I.stack,I.stkFree⟩
 ·rcases qAu ow h1 with ⟨m1,_,_,g1⟩ | g1<;>rcases qAu ow h2 with ⟨m2,_,_,g2⟩ | g2
  ·exact PySem.name_of_addr ow.apart m1 m2
  ·exact absurd (Nat.lt_trans (Nat.lt_of_lt_of_le (lt y c g2) hC) g1) (Nat.lt_irrefl _)
  ·exact absurd (Nat.lt_trans (Nat.lt_of_lt_of_le (lt x c g1) hC) g2) (Nat.lt_irrefl _)
  ·exact I.ok.inj x y c g1 g2
 ·rcases qBQ hx with hf | hf
  ·obtain ⟨c,hc⟩:=S.cells I.ok (x,.free) (qAd hf) rfl
   exact ⟨c,qDF S hf hc⟩
  ·obtain ⟨c,hc⟩:=qFT (a:=C + 1) (qAd hf)
   exact ⟨c,by show (qBS X scope C).lookup x=_;unfold qBS;rw [qBe,List.lookup_append,hc];rfl⟩
 ·have hf':scope.names.lookup x=some .cell:=of_decide_eq_true hf
  rcases qAu ow h with ⟨_,_,_,g⟩ | g
  ·exact Nat.le_of_lt (Nat.lt_of_le_of_lt hC g)
  ·unfold cxComp at h
   have h:(qBS X scope C).lookup x=some c:=h
   obtain ⟨c',hc'⟩:=qFT (a:=C + 1) (qAd hf')
   have e:(qBS X scope C).lookup x=some c':=by unfold qBS;rw [qBe,List.lookup_append,hc'];rfl
   rw [e] at h;cases h
   have:=(ow.empty x c (PySem.mem_of_lookup hc')).2
   exact Nat.le_trans hC (Nat.le_of_succ_le this)
 ·obtain ⟨o,e,_⟩:=ob b hb
  exact Nat.ne_of_lt (Nat.lt_of_lt_of_le (Heap.lt_size e) hC)
 ·rcases qAu ow h with ⟨_,_,_,g⟩ | g
  ·obtain ⟨o,e,_⟩:=ob b hb
   exact Nat.ne_of_gt (Nat.lt_trans (Nat.lt_of_lt_of_le (Heap.lt_size e) hC) g)
  ·exact (f2 b hb).2.2.2.2.1 x c g
 ·exact Nat.le_trans I.ok.bsz I.sz
 ·rcases (f2 b hb).2.2.2.1 with z | z
  ·exact I.ok.noex b o e z
  ·exact absurd (Nat.lt_of_lt_of_le (Heap.lt_size e) (Nat.le_trans I.ok.bsz z)) (Nat.lt_irrefl _)
 ·intro hz
  rcases List.mem_cons.mp (I.stkSub b hz) with e | e
  ·exact (f2 b hb).2.1 e
  ·exact (f2 b hb).2.2.1 e
theorem qDp (S:CompScope X scope N src) (I:Inv X pins σ H₂ s₂) (f2:∀ b∈fp,qEc X pins H₂ b) (ob:∀ b∈fp,∃ o,s₂.heap.get? b=some o/\∀ v,o.data≠.cell v) {C:Addr} {h₁:Heap} {m:Str -> Option Value} {tk n:Nat}
  (hC:s₂.heap.objs.size < C) (keep:∀ b o,s₂.heap.get? b=some o -> h₁.get? b=some o) (hD:h₁.get? s₂.heap.objs.size=some { cls:=.type "list",data:=.seq #[] n }) (hn:h₁.Ns C m) (ow:CellsOk h₁ (C + 1) (cellsFrom (C + 1) scope.names [])):
  Inv (cxComp X scope C fp s₂ H₂ N) [] (inner src σ) (upd H₂ s₂.heap.objs.size (.lst [])) { s₂ with heap:=h₁,toks:=tk }:=by
 have lt:∀ x c,X.env.cells.lookup x=some c -> c < s₂.heap.objs.size:=fun x c h=>let ⟨v,q⟩:=I.cell x c h;q.lt
 have hfr:H₂ s₂.heap.objs.size=none:=I.hok.fresh (Nat.le_refl _)
 refine ⟨qKZ S I f2 ob (Nat.le_of_lt hC) ow,rfl,I.bare,Un.laid keep (Nat.le_refl _) hfr,⟨m,hn,fun i x v e1 e2 e3=>?_⟩,fun x c h=>?_,?_,fun x c h=>?_,fun p hp=>absurd (show p∈([]:List (Addr×Obj)) from hp) (by simp),I.hok.laid keep (Nat.le_refl _) ⟨by simp,[],n,.nil,hD⟩,?_⟩
 ·have e2':(inner src σ)[i]?=some (some v):=e2
  unfold inner at e2'
  rw [List.getElem?_map] at e2'
  cases q:src[i]? with
  | none=>rw [q] at e2';cases e2'
  | some o=>
   rw [q] at e2'
   cases o with
   | none=>cases e2'
   | some j=>
    have ej:(σ[j]?).join=some v:=Option.some.inj e2'
    have ej':σ[j]?=some (some v):=by
     cases z:σ[j]? with
     | none=>rw [z] at ej;cases ej
     | some w=>rw [z] at ej;exact congrArg some ej
    obtain ⟨n1,n2⟩:=S.from_ i x j e1 q
    obtain ⟨m0,hn0,hl⟩:=I.loc
    have hfr':=S.frees (x,.free) (qAd n2) rfl
    obtain ⟨u,r,l⟩:=hl j x v n1 ej' (by rcases hfr' with z | z;exact .inr (.inl z);exact .inr (.inr z))
    refine ⟨u,r,.inr ⟨qCI n2,?_⟩⟩
    rcases l with ⟨k,_⟩ | ⟨_,c,hc,o,ho,hd⟩
    ·have k':X.env.kindOf x=some .local:=k
     rcases hfr' with z | z
     ·have z':X.env.kindOf x=some .cell:=z
      rw [k'] at z';cases z'
     ·have z':X.env.kindOf x=some .free:=z
      rw [k'] at z';cases z'
    ·exact ⟨c,qDF S n2 hc,o,keep c o ho,hd⟩
 ·rcases qAu ow h with ⟨_,_,g,_⟩ | g
  ·exact ⟨none,g⟩
  ·obtain ⟨v,o,ho,hd⟩:=I.cell x c g
   exact ⟨v,o,keep c o ho,hd⟩
 ·show upd H₂ s₂.heap.objs.size (.lst []) C=none
  rw [qAM (Nat.ne_of_gt hC)]
  exact I.hok.fresh (Nat.le_of_lt hC)
 ·rcases qAu ow h with ⟨_,_,_,g⟩ | g
  ·rw [qAM (Nat.ne_of_gt (Nat.lt_trans hC g))]
   exact I.hok.fresh (Nat.le_of_lt (Nat.lt_trans hC g))
  ·rw [qAM (Nat.ne_of_lt (lt x c g))]
   exact I.freeC x c g
 ·show (inner src σ).length=N.length
  unfold inner
  rw [List.length_map,S.len]
theorem qEI (I:Inv X pins σ H₂ s₂) (f2:∀ b∈fp,qEc X pins H₂ b) {C:Addr} {pins':List (Addr×Obj)} {σ':St} {H':Hp} {s':Shared} {h':Heap} (hC:s₂.heap.objs.size<=C) (J:Inv (cxComp X scope C fp s₂ H₂ N) pins' σ' H' s')
  (kp:∀ b o,b≠C -> s'.heap.get? b=some o -> h'.get? b=some o):Inv X pins σ H' { s' with heap:=h' }:=by
 have neC:∀ b o,s₂.heap.get? b=some o -> b≠C:=fun b o e=>Nat.ne_of_lt (Nat.lt_of_lt_of_le (Heap.lt_size e) hC)
 have B:=J.base
 refine I.call' (s':={ s' with heap:=h' }) (ch:=fp) J.os ⟨fun b o e n hb hx=>kp b o (neC b o e) (B.keep b o e n hb hx),fun b o e n hb hx=>?_,B.free,fun b o e hx=>?_,B.tups,B.frzs,B.tbls⟩ (fun a o e=>?_) J.bare fun b hb=>⟨(f2 b hb).2.2.2.1,(f2 b hb).2.1,(f2 b hb).2.2.2.2⟩
 ·obtain ⟨sl,q⟩:=B.slot b o e n hb hx
  exact ⟨sl,kp b _ (neC b o e) q⟩
 ·obtain ⟨o',q⟩:=B.there b o e hx
  exact ⟨o',kp b o' (neC b o e) q⟩
 ·have nC:H' C=none:=J.free
  have ne:∀ b u,H' b=some u -> b≠C:=fun b u q z=>by rw [z,nC] at q;cases q
  refine (J.hok a o e).stay (fun c v hc q=>kp c v ?_ q) (fun _ q=>q) fun _ _ q=>q
  rcases hc with z | z
  ·rw [z];exact ne a o e
  ·exact ne c _ z
end
noncomputable def PTs (X:Cx) (ifs:List Expr) (t:TT):Prop:=
 ∀ (pins:List (Addr×Obj)) (s:Shared) (σ:St) (H:Hp) (Q:Bool -> Hp -> Prop),Inv X pins σ H s -> t σ H Q ->
  wpAny (model X.prog X.w) X.A (forIn ifs true fun c r=>if r=true then do let ok <- isTrue c X.env (eval c X.env);pure (ForInStep.yield ok) else pure (ForInStep.yield r)) (TP X pins σ Q) X.xe s
theorem pts_nil {X:Cx}:PTs X [] (fun _ H Q=>Q true H):=fun pins s σ H Q I h=>wpAny_pure ⟨H,I,h⟩
theorem pts_one {X:Cx} {c:Expr} {t:TT} (hc:PT X c t):PTs X [c] t:=by
 intro pins s σ H Q I h
 rw [List.forIn_cons]
 simp only [if_true]
 refine wpAny_bind (wpAny_bind (thn (hc pins s σ H Q I h) fun b s1 q=>?_))
 exact wpAny_pure (wpAny_pure q)
noncomputable def tComp (wi:TI) (src:List (Option Nat)) (g:TG) (tc:TT) (te:TE):TE:=fun σ H Q=>wi σ H fun J H1=>∀ D,H1 D=none ->
 ∃ W:Nat -> Nat -> List V -> St -> Hp -> Prop,(∃ m,W 0 m [] (inner src σ) (upd H1 D (.lst [])))/\∀ i m ys σ' H',W i m ys σ' H' -> H' D=some (.lst ys) ->
  (J.stop i H'/\Q (.ref D) H')\/
  (J.go i H'/\∀ x H2,J.yld i H' x H2 -> g x σ' H2 fun σ3 H3=>tc σ3 H3 fun b H4=>
   if b=true then te σ3 H4 fun y H5=>H5 D=some (.lst ys)/\ys.length < sizeLine/\∃ m',m' < m/\W (i + 1) m' (ys++[y]) σ3 (upd H5 D (.lst (ys++[y])))
   else H4 D=some (.lst ys)/\∃ m',m' < m/\W (i + 1) m' ys σ3 H4)
section
variable {X:Cx} {pins:List (Addr×Obj)} {σ:St} {H₂:Hp} {s₂:Shared} {scope:Scope} {N:List Str} {src:List (Option Nat)}
theorem qEq {M:Model} {A:Around} {E:Value -> Shared -> Prop} {s:Shared} {scope:Scope} {globals:Addr} {cl:List (Str×Addr)} {qual:Str} {env:Env} {Q:Env -> Shared -> Prop}
  (h:Q (newEnv scope s.heap.objs.size globals (cellsFrom (s.heap.objs.size + 1) scope.names cl) qual none .none (some env) builtinsNs) { s with heap:=pushCells (s.heap.push { cls:=.type "dict",data:=.dict #[] }) scope.names }):
  wpAny M A (newFunctionEnv scope globals cl [] qual none .none (some env)) Q E s:=by
 simp only [newFunctionEnv,Option.isSome_some,if_true]
 refine wpAny_bind (wpAny_alloc ?_)
 refine wpAny_bind (wpAny_layCells _ (fun name kind cells=>by cases hkc:kind==NameKind.cell<;>simp [hkc]) _ _ _ _ ?_)
 rw [show ({ s with heap:=s.heap.push { cls:=.type "dict",data:=.dict #[] } }:Shared).heap.objs.size=s.heap.objs.size + 1 from Heap.size_push ..]
 refine wpAny_bind ?_
 rw [List.forIn_nil]
 exact wpAny_pure (wpAny_pure h)
theorem qFZ {elt tg iter:Expr} {ifs:List Expr} {pos:Pos} {g:TG} {tc:TT} {te:TE} {it:Addr} {fp:List Addr} {tn:Nat -> Heap -> Prop} {J:It} {Q:VK} {E:Value -> Shared -> Prop} {RR:Value -> Addr -> Result -> Shared -> Prop}
  (hc:X.calm=true) (S:CompScope X scope N src) (I2:Inv X pins σ H₂ s₂) (T:qGy X.prog X.w X.K tg J fp it tn) (st2:tn 0 s₂.heap) (f2:∀ b∈fp,qEc X pins H₂ b)
  (hg:∀ C fp s H,PG (cxComp X scope C fp s H N) tg g) (ht:∀ C fp s H,PTs (cxComp X scope C fp s H N) ifs tc) (he:∀ C fp s H,PE (cxComp X scope C fp s H N) elt te)
  (h:∀ D,H₂ D=none -> ∃ W:Nat -> Nat -> List V -> St -> Hp -> Prop,(∃ m,W 0 m [] (inner src σ) (upd H₂ D (.lst [])))/\∀ i m ys σ' H',W i m ys σ' H' -> H' D=some (.lst ys) ->
   (J.stop i H'/\Q (.ref D) H')\/
   (J.go i H'/\∀ x H2,J.yld i H' x H2 -> g x σ' H2 fun σ3 H3=>tc σ3 H3 fun b H4=>
    if b=true then te σ3 H4 fun y H5=>H5 D=some (.lst ys)/\ys.length < sizeLine/\∃ m',m' < m/\W (i + 1) m' (ys++[y]) σ3 (upd H5 D (.lst (ys++[y])))
    else H4 D=some (.lst ys)/\∃ m',m' < m/\W (i + 1) m' ys σ3 H4))
  (hRR:∀ (D C:Addr) (σ':St) (H':Hp) (s':Shared),s₂.heap.objs.size<=C -> Inv (cxComp X scope C fp s₂ H₂ N) [] σ' H' s' -> Q (.ref D) H' -> RR (.ref D) C (.ok .next) s'):
  wpAny (model X.prog X.w) X.A (newList []) (fun acc s₃=>wpAny (model X.prog X.w) X.A (newFunctionEnv scope X.env.globals (qGO X.env.cells scope.names []) [] X.env.qual none .none (some X.env)) (fun cenv s₄=>
   codeAny (model X.prog X.w) X.A (.compStart (.ListComp elt [⟨tg,iter,ifs,0⟩] scope pos) 0 (.ref it) acc { cenv with scope:=relabel scope X.env }) (RR acc cenv.locals) s₄) E s₃) E s₂:=by
 refine wpAny_newObj_type (qEq ?_)
 dsimp only
 generalize hH2:s₂.heap.push { cls:=.type "list",dict:=none,data:=.seq ([]:List Value).toArray }=P2
 have hC:P2.objs.size=s₂.heap.objs.size + 1:=by rw [<- hH2,Heap.size_push]
 have ow:=cellsFrom_ok scope.names (P2.push { cls:=.type "dict",data:=.dict #[] }) (P2.objs.size + 1) [] ⟨fun _ _ hm=>(nomatch hm),List.Pairwise.nil⟩ (by rw [Heap.size_push];exact Nat.le_refl _)
 rw [Heap.size_push] at ow
 generalize hh1:pushCells (P2.push { cls:=.type "dict",data:=.dict #[] }) scope.names=h₁ at ow ⊢
 have kp:∀ b o,P2.get? b=some o -> h₁.get? b=some o:=fun b o e=>hh1 ▸ pushCells_keeps _ _ b o (Heap.get?_push_of_some _ e)
 have hns₁:h₁.Ns P2.objs.size (fun _=>none):=hh1 ▸ (Heap.Ns.new P2 (.type "dict")).keeps (pushCells_keeps _ _)
 have old:∀ b o,s₂.heap.get? b=some o -> h₁.get? b=some o:=fun b o e=>kp b o (hH2 ▸ Heap.get?_push_of_some _ e)
 have hacc:h₁.get? s₂.heap.objs.size=some { cls:=.type "list",data:=.seq #[] }:=kp _ _ (hH2 ▸ Heap.get?_push_size _ rfl)
 have st1:tn 0 h₁:=T.keep _ _ _ st2 fun b _ o e=>old b o e
 have ob:=T.obj _ _ st2
 have lt:s₂.heap.objs.size < P2.objs.size:=by rw [hC];exact Nat.lt_succ_self _
 have I3:=qDp (tk:=s₂.toks) S I2 f2 ob lt old hacc hns₁ ow
 obtain ⟨W,⟨m0,w0⟩,step⟩:=h s₂.heap.objs.size I2.fresh
 have fpn:∀ b∈fp,b≠s₂.heap.objs.size:=fun b hb=>by
  obtain ⟨o,e,_⟩:=ob b hb
  exact Nat.ne_of_lt (Heap.lt_size e)
 have fok:∀ {pins':List (Addr×Obj)} {H':Hp},(∀ b∈fp,H' b=none) -> (∀ p∈pins',p.1∉fp) -> ∀ b∈fp,qEc (cxComp X scope P2.objs.size fp s₂ H₂ N) pins' H' b:=fun {pins' H'} hn hp b hb=>by
  have okc:=I3.ok
  exact ⟨hn b hb,(okc.exf b hb).1,okc.exfs b hb,.inl hb,(okc.exf b hb).2,fun p hp' z=>hp p (by simpa [cxComp] using hp') (z ▸ hb)⟩
 have loop:∀ s₃:Shared,s₃={ s₂ with heap:=h₁,toks:=s₂.toks } ->
   codeAny (model X.prog X.w) X.A (.compLoop (.ListComp elt [⟨tg,iter,ifs,0⟩] scope pos) 0 (.ref it) (.ref s₂.heap.objs.size) (compEnvC scope (qBS X scope P2.objs.size) P2.objs.size X.env))
    (RR (.ref s₂.heap.objs.size) P2.objs.size) s₃:=by
  rintro s₃ rfl
  refine codeAny_loop rfl (fun n s'=>∃ i ys σ' H',Inv (cxComp X scope P2.objs.size fp s₂ H₂ N) [] σ' H' s'/\tn i s'.heap/\(∀ b∈fp,H' b=none)/\H' s₂.heap.objs.size=some (.lst ys)/\W i n ys σ' H') (fun n s' hI=>?_) m0
   ⟨0,[],inner src σ,_,I3,st1,fun b hb=>by rw [qAM (fpn b hb)];exact (f2 b hb).1,qAI,w0⟩
  obtain ⟨i,ys,σ3,H3,J3,st3,fr3,hD3,w3⟩:=hI
  show wpAny _ X.A ((compTurn (.ListComp elt [⟨tg,iter,ifs,0⟩] scope pos) 0 (.ref it) (.ref s₂.heap.objs.size) _).onRaise (fun x=>do noteFrame x _;theTreesLotGoes x)) _ _ s'
  refine wpAny_noted ?_
  rw [compTurn_list]
  have never:∀ {α:Type} {t:Sem α} {Q1:α -> Shared -> Prop} {E1:Value -> Shared -> Prop} {s1:Shared},wpAny (model X.prog X.w) X.A t Q1 (fun _ _=>False) s1 -> wpAny (model X.prog X.w) X.A t Q1 E1 s1:=fun h=>wpAny_mono h (fun _ _ q=>q) fun _ _ f=>f.elim
  refine wpAny_bind (wpAny_standAt (wpAny_bind ?_))
  rcases step i n ys σ3 H3 w3 hD3 with ⟨stop,qn⟩ | ⟨go,qMa⟩
  ·refine never (thn (T.done (cxComp X scope P2.objs.size fp s₂ H₂ N) rfl rfl rfl hc i [] s' σ3 H3 _ J3 (fok fr3 (by simp)) st3 stop) fun r s4 ⟨hr,I4⟩=>?_)
   subst hr
   exact wpAny_pure (hRR _ _ σ3 H3 s4 (Nat.le_of_lt lt) I4 qn)
  ·refine never (thn (T.item (cxComp X scope P2.objs.size fp s₂ H₂ N) rfl rfl rfl hc i [] s' σ3 H3 _ J3 (fok fr3 (by simp)) st3 go) fun r s4 ⟨u,hr,h4⟩=>?_)
   subst hr
   refine wpAny_bind (never (thn h4 fun _ s5 ⟨x,H5,I5,r5,y5,st5,fr5⟩=>?_))
   have I5':=I5.pinned (fok fr5 (by simp)) (T.obj _ _ st5)
   have kept:∀ {σ7:St} {H7:Hp} {s7:Shared},Inv (cxComp X scope P2.objs.size fp s₂ H₂ N) ([]++qD7 fp s5.heap) σ7 H7 s7 -> Inv (cxComp X scope P2.objs.size fp s₂ H₂ N) [] σ7 H7 s7/\tn (i + 1) s7.heap/\∀ b∈fp,H7 b=none:=fun {σ7 H7 s7} I7=>by
    refine ⟨I7.unpinned,T.keep _ _ _ st5 fun b hb o e=>(I7.pin (b,o) (List.mem_append_right _ (List.mem_append_right _ (qBd hb e)))).1,fun b hb=>?_⟩
    obtain ⟨o,e,d⟩:=T.obj _ _ st5 b hb
    exact (I7.pin (b,o) (List.mem_append_right _ (List.mem_append_right _ (qBd hb e)))).2.1
   refine wpAny_bind (never (thn (hg _ _ _ _ _ s5 σ3 H5 x u _ I5' r5 (qMa x H5 y5)) fun _ s6 ⟨σ6,H6,I6,q6⟩=>?_))
   refine wpAny_bind (never (thn (ht _ _ _ _ _ s6 σ6 H6 _ I6 q6) fun b s7 ⟨H7,I7,q7⟩=>?_))
   cases b with
   | false=>
    rw [if_neg (by decide)] at q7
    obtain ⟨hD7,m',hm,w7⟩:=q7
    obtain ⟨I7',st7,fr7⟩:=kept I7
    exact wpAny_pure ⟨rfl,m',hm,i + 1,ys,σ6,H7,I7',st7,fr7,hD7,w7⟩
   | true=>
    rw [if_pos rfl] at q7
    refine wpAny_bind (wpAny_bind (never (thn (he _ _ _ _ _ s7 σ6 H7 _ I7 q7) fun yv s8 ⟨y,H8,I8,r8,hD8,hz,m',hm,w8⟩=>?_)))
    refine wpAny_bind (never (thn (mt_append (X:=cxComp X scope P2.objs.size fp s₂ H₂ N) _ s8 σ6 H8 (.ref s₂.heap.objs.size) [y] _ [yv] (fun v H'=>v=.non/\H'=upd H8 s₂.heap.objs.size (.lst (ys++[y]))) I8 rfl (.cons r8 .nil) ⟨_,ys,y,rfl,rfl,hD8,hz,rfl,rfl⟩) fun _ s9 ⟨v9,H9,I9,_,_,e9⟩=>?_))
    subst e9
    obtain ⟨I9',st9,fr9⟩:=kept I9
    exact wpAny_pure (wpAny_pure ⟨rfl,m',hm,i + 1,_,σ6,_,I9',st9,fr9,qAI,w8⟩)
 exact codeAny_compStart_list (loop _ rfl) (T.self _ 0 _ _ _ st1 (loop _ rfl))
end
end L2
namespace L2
open PySem PySem.Spec PyProof.Rows
section
variable {X:Cx} {scope:Scope} {N:List Str} {src:List (Option Nat)} {elt tg iter:Expr} {ifs:List Expr} {pos:Pos} {wi:TI} {g:TG} {tc:TT} {te:TE}
theorem pe_comp (hc:X.calm=true) (hi:PI X tg iter wi) (S:CompScope X scope N src)
  (hg:∀ C fp s H,PG (cxComp X scope C fp s H N) tg g) (ht:∀ C fp s H,PTs (cxComp X scope C fp s H N) ifs tc) (he:∀ C fp s H,PE (cxComp X scope C fp s H N) elt te)
  (hs:∀ x,foldedSetIterable iter X.env x=pure x:=by intro _;rfl):PE X (.ListComp elt [⟨tg,iter,ifs,0⟩] scope pos) (tComp wi src g tc te):=by
 intro pins s σ H Q I h
 rw [eval_ListComp]
 refine wpAny_comprehension_free (use:=none) rfl hs (qBN (S.cells I.ok)) S.kind S.names (thn (hi pins s σ H _ I h) fun v s1 h1=>thn h1 fun itv s2 h2=>?_)
 obtain ⟨it,fp,tn,J,H2,rfl,I2,T,st2,f2,hW⟩:=h2
 refine qFZ (Q:=Q) (RR:=fun acc C=>compPost (model X.prog X.w) X.A X.xe none (EP X pins σ Q) acc C) hc S I2 T st2 f2 hg ht he hW ?_
 intro D C σ' H' s' hC J q
 obtain ⟨m,hn,_⟩:=id J.loc
 exact ⟨m,hn,fun h' hs'=>⟨.ref D,H',qEI I2 f2 hC J (fun b o hb e=>hs'.extBut b o hb e),rfl,q⟩⟩
theorem ps_setcomp {i:Nat} {x:Str} {pos' spos:Pos} (hc:X.calm=true) (hi:PI X tg iter wi) (S:CompScope X scope N src)
  (hg:∀ C fp s H,PG (cxComp X scope C fp s H N) tg g) (ht:∀ C fp s H,PTs (cxComp X scope C fp s H N) ifs tc) (he:∀ C fp s H,PE (cxComp X scope C fp s H N) elt te)
  (hsw:swapsWith (.ListComp elt [⟨tg,iter,ifs,0⟩] scope pos) (some (.Name x pos')) spos.line X.env=pure true)
  (hN:X.N.Nodup) (hx:X.N[i]?=some x) (hl:X.env.scope.names.lookup x=some .local)
  (hs:∀ x,foldedSetIterable iter X.env x=pure x:=by intro _;rfl):PS X (.Assign [.Name x pos'] (.ListComp elt [⟨tg,iter,ifs,0⟩] scope pos) spos) (tAsg (tComp wi src g tc te) (qKc i)):=by
 intro pins s σ H D I h
 rw [exec_Assign_Name_used _ _ _ _ hsw]
 refine wpAny_bind (wpAny_standAt (wpAny_bind ?_))
 show wpAny _ X.A (do let _ <- comprehension (.ListComp elt [⟨tg,iter,ifs,0⟩] scope pos) scope X.env _ (newList []) false (eval iter X.env) (some (assign (.Name x pos') X.env))) _ _ s
 refine wpAny_bind (wpAny_mono (wpAny_comprehension_free (use:=some (assign (.Name x pos') X.env)) (Q:=fun _ s'=>SP X pins D .next s') rfl hs (qBN (S.cells I.ok)) S.kind S.names
  (thn (hi pins s σ H _ I h) fun v s1 h1=>thn h1 fun itv s2 h2=>?_)) (fun _ s' hq=>wpAny_pure (wpAny_pure hq)) fun _ _ e=>e)
 obtain ⟨it,fp,tn,J,H2,rfl,I2,T,st2,f2,hW⟩:=h2
 refine qFZ (Q:=fun v H'=>D.nx (σ.set i (some v)) H') (RR:=fun acc C=>compPost (model X.prog X.w) X.A X.xe (some (assign (.Name x pos') X.env)) (fun _ s'=>SP X pins D .next s') acc C) hc S I2 T st2 f2 hg ht he hW ?_
 intro L C σ' H' s' hC J q
 obtain ⟨m,hn,_⟩:=id J.loc
 have I3:Inv X pins σ H' s':=qEI (h':=s'.heap) I2 f2 hC J (fun b o hb e=>e)
 show wpAny _ X.A (assign (.Name x pos') X.env (.ref L)) _ _ _
 have nL:X.env.locals≠C:=Nat.ne_of_lt (Nat.lt_of_lt_of_le I2.lt hC)
 refine wpAny_assign_Name (qET I3 hN hx (.inl hl) (show RelV (.ref L) (.ref L) from rfl) (fun s4 I4 hsb=>?_) (.inr hl))
 obtain ⟨a,sb,ha⟩:=hsb
 have ha':a≠C:=by
  rcases ha with z | z
  ·rw [z];exact nL
  ·obtain ⟨v,hv⟩:=I2.cell x a z
   exact Nat.ne_of_lt (Nat.lt_of_lt_of_le hv.lt hC)
 refine ⟨m,hn.sameBut sb (Ne.symm ha'),fun h5 sb5=>?_⟩
 have I5:Inv X pins (σ.set i (some (V.ref L))) H' { s4 with heap:=h5,toks:=s4.toks }:=I4.turned (it:=C) (fun b o hb e=>sb5.extBut b o hb e) J.free (Ne.symm nL) (.inr (Nat.le_trans I2.sz hC)) (fun y c e z=>by
   obtain ⟨v,hv⟩:=I2.cell y c e
   exact absurd (Nat.lt_of_lt_of_le hv.lt (by rw [z];exact hC)) (Nat.lt_irrefl _)) fun p hp z=>absurd (Nat.lt_of_lt_of_le (Heap.lt_size (I2.pin p hp).1) (by rw [z];exact hC)) (Nat.lt_irrefl _)
 exact ⟨_,H',I5,q⟩
end
end L2
namespace PI
open L2 (V Key)
open PySem (Str)
inductive BOp | add | sub | mul | fdiv | mod | pow | shl
 deriving DecidableEq
inductive COp | lt | le | gt | ge | eq | ne | inn | notin | is | isnot
 deriving DecidableEq
inductive BF | len | all | max | min | list | tuple | repr | bits
 deriving DecidableEq
inductive Mt | pop | popAt | rev | clr | rem | cnt | ext
 deriving DecidableEq
inductive Tg | name (i:Nat) | tup (is:List Nat)
 deriving DecidableEq
mutual
inductive E
 | var (i:Nat) | cst (v:V) | glob (g:Nat)
 | bin (op:BOp) (a b:E) | neg (a:E)
 | cmp (op:COp) (a b:E) | cmp2 (o1 o2:COp) (a b c:E)
 | and (a b:E) | or (a b:E) | not (a:E)
 | call (f:Nat) (as:Es) | blt (f:BF) (as:Es) | isi (a:E) (ts:List String)
 | idx (a b:E) | sl (a:E) (lo hi:Es)   | lst (as:Es) | tup (as:Es)
 | comp (it:Itr) (src:List (Option Nat)) (g:Tg) (c:Es) (e:E)
 | app (a b:E) | lrng (a:E) | dnew | meth (m:Mt) (a:E) (as:Es)     | nset (a:E) | lrng2 (a b:E)
inductive Es | nil | cons (a:E) (as:Es)
inductive Itr | list (a:E) | rng1 (a:E)      | rvr (a:E)
end
mutual
inductive S
 | asg (g:Tg) (e:E)  | put (o i v:E)
 | expr (e:E) | ret (e:E)  | ifs (c:E) (t u:Ss)
 | for_ (g:Tg) (it:Itr) (b:Ss)     | stop
 | xexpr (f:Nat) (as:Es) | nloop (u x f i:Nat) (a:E) | raise (c:Nat) | tryK (b:S) (e i m:Nat) (ks:List Nat)     | retc (as:Es) (e:E)
inductive Ss | nil | cons (s:S) (r:Ss)
end
noncomputable def Es.snoc:Es -> E -> Es
 | .nil,e=>.cons e .nil
 | .cons a as,e=>.cons a (Es.snoc as e)
inductive Ob | dct (kvs:List (Int×V)) | exn (c:Str)
 deriving DecidableEq
inductive O | lst (fz:Bool) (xs:List V) | tup (xs:List V) | ob (o:Ob)
 deriving DecidableEq
noncomputable abbrev AH:=List O
noncomputable abbrev St:=List (Option V)
inductive Res (α:Type) | ok (a:α) | exc (c:Nat) (h:AH) | stuck
noncomputable def Res.bind {α β:Type}:Res α -> (α -> Res β) -> Res β
 | .ok a,f=>f a
 | .exc c h,_=>.exc c h
 | .stuck,_=>.stuck
noncomputable def Res.nx {α:Type}:Res α -> Res α
 | .ok a=>.ok a
 | .exc _ _=>.stuck
 | .stuck=>.stuck
noncomputable def qDP (c k:Nat):Bool:=k==c||k==0||k==999
@[simp] theorem Res.bind_ok {α β:Type} (a:α) (f:α -> Res β):(Res.ok a).bind f=f a:=rfl
noncomputable abbrev RV:=Res (V×AH)
noncomputable def items (h:AH) (a:Nat):Option (List V):=match h[a]? with
 | some (.lst _ xs)=>some xs
 | some (.tup xs)=>some xs
 | _=>none
noncomputable def qAL (h:AH) (a:Nat):Option (List V):=match h[a]? with
 | some (.lst _ xs)=>some xs
 | _=>none
noncomputable def qAS (h:AH) (a:Nat):Option (List V):=match h[a]? with
 | some (.tup xs)=>some xs
 | _=>none
noncomputable def qDt (h:AH) (a:Nat):Option (List (Int×V)):=match h[a]? with
 | some (.ob (.dct kvs))=>some kvs
 | _=>none
noncomputable def qC9 (kvs:List (Int×V)) (k:Int):Bool:=kvs.any fun p=>decide (p.1=k)
noncomputable def qBz (kvs:List (Int×V)) (k:Int) (v:V):List (Int×V):=if qC9 kvs k=true then kvs.map (fun p=>if p.1=k then (p.1,v) else p) else kvs++[(k,v)]
noncomputable def qMO (h:AH) (a:Nat):Option Str:=match h[a]? with
 | some (.ob (.exn c))=>some c
 | _=>none
noncomputable def qN4 (c k:Str):Bool:=decide (k=c)||decide (k="HealError")||decide (k="ValueError")
noncomputable def qAU (h:AH) (a:Nat):Option (List V):=match h[a]? with
 | some (.lst false xs)=>some xs
 | _=>none
noncomputable def lim:Nat:=100000
noncomputable def newL (xs:List V) (h:AH):RV:=.ok (.ref h.length,h++[.lst false xs])
noncomputable def newT (xs:List V) (h:AH):RV:=.ok (.ref h.length,h++[.tup xs])
noncomputable def flat:V -> Bool
 | .non=>true | .bl _=>true | .int _=>true | .str _=>true | _=>false
noncomputable def eqF:V -> V -> Option Bool
 | .int i,.int j=>some (i==j)
 | .bl i,.bl j=>some (i==j)
 | .str i,.str j=>some (i==j)
 | .non,.non=>some true
 | .int i,.bl b=>some (i==(if b then 1 else 0))
 | .bl b,.int i=>some ((if b then 1 else 0)==i)
 | .non,.int _=>some false | .int _,.non=>some false
 | .non,.bl _=>some false | .bl _,.non=>some false
 | .non,.str _=>some false | .str _,.non=>some false
 | .int _,.str _=>some false | .str _,.int _=>some false
 | .bl _,.str _=>some false | .str _,.bl _=>some false
 | _,_=>none
noncomputable def qC1 (f:V -> V -> Option Bool):List V -> List V -> Option (List Bool)
 | [],[]=>some []
 | x::xs,y::ys=>match f x y,qC1 f xs ys with
  | some b,some bs=>some (b::bs)
  | _,_=>none
 | _,_=>none
noncomputable def eqD (h:AH):Nat -> V -> V -> Option Bool
 | 0,x,y=>eqF x y
 | n + 1,.ref a,.ref b=>match h[a]?,h[b]? with
  | some (.lst _ xs),some (.lst _ ys)=>if a=b then some true else if xs.length=ys.length then (qC1 (eqD h n) xs ys).map fun bs=>bs.all id else some false
  | some (.tup xs),some (.tup ys)=>if a=b then some true else if xs.length=ys.length then (qC1 (eqD h n) xs ys).map fun bs=>bs.all id else (qC1 (eqD h n) (xs.take ys.length) (ys.take xs.length)).map fun _=>false
  | some (.lst _ _),some (.tup _)=>some false
  | some (.tup _),some (.lst _ _)=>some false
  | _,_=>none
 | _ + 1,.ref a,y=>if (items h a).isSome&&flat y then some false else none
 | _ + 1,x,.ref b=>if flat x&&(items h b).isSome then some false else none
 | _ + 1,x,y=>eqF x y
noncomputable abbrev ixN (n:Nat) (i:Int):Option Nat:=L2.ixN n i
noncomputable abbrev cut (xs:List V) (lo hi:Option Int):List V:=L2.cutV xs lo hi
noncomputable def two64:Int:=18446744073709551616
noncomputable def qCK (i:Int):Bool:=decide (-two64 < i/\i < two64)
noncomputable def mid (i:Int):Bool:=decide (i.natAbs.log2 < 9000)
noncomputable def qFB (x y:V) (f:Int -> Int -> RV):RV:=match x with
 | .int i=>(match y with | .int j=>f i j | _=>.stuck)
 | _=>.stuck
theorem qAy {x y:V} {f:Int -> Int -> RV} {r:V×AH} (e:qFB x y f=.ok r):∃ i j,x=.int i/\y=.int j/\f i j=.ok r:=by
 unfold qFB at e
 split at e
 ·split at e
  ·exact ⟨_,_,rfl,rfl,e⟩
  ·cases e
 ·cases e
noncomputable def qHg (x:V) (f:Nat -> RV):RV:=match x with
 | .ref a=>f a
 | _=>.stuck
theorem qBy {x:V} {f:Nat -> RV} {r:V×AH} (e:qHg x f=.ok r):∃ a,x=.ref a/\f a=.ok r:=by
 unfold qHg at e
 split at e
 ·exact ⟨_,rfl,e⟩
 ·cases e
noncomputable def qJo:BOp -> V -> V -> AH -> RV
 | .add,x,y,h=>(match x with
  | .ref a=>qHg y fun b=>(match qAU h a,qAU h b with
   | some xs,some ys=>if xs.length + ys.length<=lim then newL (xs++ys) h else .stuck
   | _,_=>(match qAS h a,qAS h b with
    | some xs,some ys=>if xs≠[]/\xs.length + ys.length<=lim then (if ys=[] then .ok (.ref a,h) else newT (xs++ys) h) else .stuck
    | _,_=>.stuck))
  | x=>qFB x y fun i j=>.ok (.int (i + j),h))
 | .sub,x,y,h=>qFB x y fun i j=>.ok (.int (i - j),h)
 | .mul,x,y,h=>(match x with
  | .ref a=>(match y with
   | .int k=>(match qAU h a with
    | some xs=>if 0<=k/\xs.length * k.toNat<=lim/\k < 1000000 then newL (List.replicate k.toNat xs).flatten h else .stuck
    | none=>.stuck)
   | _=>.stuck)
  | x=>qFB x y fun i j=>if qCK i||qCK j||(mid i&&mid j) then .ok (.int (i * j),h) else .stuck)
 | .fdiv,x,y,h=>qFB x y fun i j=>if 0 < j/\(j < 1073741824\/mid j=true) then .ok (.int (i / j),h) else if j < 0/\mid j=true then .ok (.int (i.fdiv j),h) else .stuck
 | .mod,x,y,h=>qFB x y fun i j=>if 0 < j then .ok (.int (i % j),h) else if j < 0 then .ok (.int (i.fmod j),h) else .stuck
 | .pow,x,y,h=>qFB x y fun i j=>if 0<=j/\j<=1000/\i.natAbs < 18446744073709551616 then .ok (.int (i ^ j.toNat),h) else .stuck
 | .shl,x,y,h=>qFB x y fun i j=>if 0<=j/\j<=1000/\i.natAbs < 18446744073709551616 then .ok (.int (i * 2 ^ j.toNat),h) else .stuck
noncomputable def qKo (x y:V) (f:Int -> Int -> Bool):Option Bool:=match x with
 | .int i=>(match y with | .int j=>some (f i j) | _=>none)
 | _=>none
theorem qCQ {x y:V} {f:Int -> Int -> Bool} {r:Bool} (e:qKo x y f=some r):∃ i j,x=.int i/\y=.int j/\f i j=r:=by
 unfold qKo at e
 split at e
 ·split at e
  ·exact ⟨_,_,rfl,rfl,Option.some.inj e⟩
  ·cases e
 ·cases e
noncomputable def qJz (y:V) (f:Nat -> Option Bool):Option Bool:=match y with
 | .ref a=>f a
 | _=>none
theorem qFN {y:V} {f:Nat -> Option Bool} {r:Bool} (e:qJz y f=some r):∃ a,y=.ref a/\f a=some r:=by
 unfold qJz at e
 split at e
 ·exact ⟨_,rfl,e⟩
 ·cases e
noncomputable def isC (x y:V) (f:Bool -> Bool):Option Bool:=match y with
 | .non=>some (f (decide (x=.non)))
 | .bl d=>(match x with | .bl c=>some (f (c==d)) | _=>none)
 | _=>none
theorem qHX {x y:V} {f:Bool -> Bool} {r:Bool} (e:isC x y f=some r):(y=.non/\f (decide (x=.non))=r)\/∃ c d,x=.bl c/\y=.bl d/\f (c==d)=r:=by
 unfold isC at e
 split at e
 ·exact .inl ⟨rfl,Option.some.inj e⟩
 ·split at e
  ·exact .inr ⟨_,_,rfl,rfl,Option.some.inj e⟩
  ·cases e
 ·cases e
noncomputable def qHn:COp -> V -> V -> AH -> Option Bool
 | .lt,x,y,_=>qKo x y fun i j=>decide (i < j)
 | .le,x,y,_=>qKo x y fun i j=>decide (i<=j)
 | .gt,x,y,_=>qKo x y fun i j=>decide (j < i)
 | .ge,x,y,_=>qKo x y fun i j=>decide (j<=i)
 | .eq,x,y,h=>eqD h 4 x y
 | .ne,x,y,h=>(eqD h 4 x y).map (!·)
 | .inn,x,y,h=>qJz y fun a=>(match items h a with
  | some xs=>if flat x&&xs.all flat then some (xs.any fun y=>L2.eqV y x) else none
  | none=>match qDt h a with
   | some kvs=>(match x with | .int i=>some (qC9 kvs i) | _=>none)
   | none=>none)
 | .notin,x,y,h=>qJz y fun a=>(match items h a with
  | some xs=>if flat x&&xs.all flat then some (!(xs.any fun y=>L2.eqV y x)) else none
  | none=>none)
 | .is,x,y,_=>isC x y id
 | .isnot,x,y,_=>isC x y (!·)
noncomputable def qHf (op:COp) (x y:V) (h:AH):RV:=match qHn op x y h with
 | some b=>.ok (.bl b,h)
 | none=>.stuck
noncomputable def qBL:List V -> Option (List Int)
 | []=>some []
 | .int i::r=>(qBL r).map (i::·)
 | _::_=>none
noncomputable def qB7:List V -> Option (List Bool)
 | []=>some []
 | .bl b::r=>(qB7 r).map (b::·)
 | _::_=>none
noncomputable def qAr (lo:Int) (n:Nat):List V:=(List.range n).map fun (i:Nat)=>V.int (lo + (i:Int))
noncomputable def qFm (is:List Int):Nat:=(is.foldl PyProof.Rows.step_dedup []).length
noncomputable def ins (x:Int):List Int -> List Int
 | []=>[x]
 | y::r=>if x<=y then x::y::r else y::ins x r
noncomputable def one (as:List V) (f:V -> RV):RV:=match as with
 | [a]=>f a
 | _=>.stuck
theorem qCA {as:List V} {f:V -> RV} {r:V×AH} (e:one as f=.ok r):∃ a,as=[a]/\f a=.ok r:=by
 unfold one at e
 split at e
 ·exact ⟨_,rfl,e⟩
 ·cases e
noncomputable def two (as:List V) (f:V -> V -> RV):RV:=match as with
 | [a,b]=>f a b
 | _=>.stuck
theorem two_inv {as:List V} {f:V -> V -> RV} {r:V×AH} (e:two as f=.ok r):∃ a b,as=[a,b]/\f a b=.ok r:=by
 unfold two at e
 split at e
 ·exact ⟨_,_,rfl,e⟩
 ·cases e
noncomputable def qKE:V -> Option PySem.PyData
 | .non=>some .none
 | .bl b=>some (.bool b)
 | .int i=>some (.int i)
 | .str x=>some (.str x)
 | _=>none
noncomputable def qGD (f:V -> Option PySem.PyData):List V -> Option (List PySem.PyData)
 | []=>some []
 | x::r=>(f x).bind fun d=>(qGD f r).map fun ds=>d::ds
noncomputable def dat (h:AH):Nat -> V -> Option PySem.PyData
 | 0,x=>qKE x
 | n + 1,x=>match x with
  | .ref a=>(match h[a]? with
   | some (.lst _ xs)=>(qGD (dat h n) xs).map .list
   | some (.tup xs)=>(qGD (dat h n) xs).map .tuple
   | some (.ob (.dct []))=>some (.dict [])
   | _=>none)
  | y=>qKE y
noncomputable def qGH (d:PySem.PyData):Option V:=if d.showable=true/\d.shown.length<=PySem.sizeLine then some (.str d.shown) else none
noncomputable def qNH (h:AH) (x:V):Option PySem.PyData:=dat h 4 x
noncomputable def qLM (h:AH) (x:V):RV:=match (qNH h x).bind qGH with
 | some v=>.ok (v,h)
 | none=>.stuck
noncomputable def qKn:BF -> List V -> AH -> RV
 | .len,as,h=>one as fun x=>qHg x fun a=>(match items h a with | some xs=>.ok (.int xs.length,h) | none=>.stuck)
 | .all,as,h=>one as fun x=>qHg x fun a=>(match qAL h a with
  | some xs=>match qB7 xs with | some bs=>.ok (.bl (bs.all id),h) | none=>.stuck
  | none=>.stuck)
 | .max,as,h=>two as fun x y=>qFB x y fun i j=>.ok (.int (if j > i then j else i),h)
 | .min,as,h=>two as fun x y=>qFB x y fun i j=>.ok (.int (if j < i then j else i),h)
 | .list,as,h=>one as fun x=>qHg x fun a=>(match items h a with | some xs=>newL xs h | none=>.stuck)
 | .tuple,as,h=>one as fun x=>qHg x fun a=>(match h[a]? with | some (.lst _ xs)=>newT xs h | some (.tup _)=>.ok (.ref a,h) | _=>.stuck)
 | .bits,as,h=>one as fun x=>(match x with | .int i=>.ok (.int ((PySem.Builtin.Int.intBits i:Nat):Int),h) | _=>.stuck)
 | .repr,as,h=>one as fun x=>qLM h x
noncomputable def qEf:Mt -> Nat -> List V -> AH -> RV
 | .pop,p,[],h=>match qAU h p with
  | some xs=>match xs[xs.length - 1]? with | some y=>.ok (y,h.set p (.lst false xs.dropLast)) | none=>.stuck
  | none=>.stuck
 | .popAt,p,[.int i],h=>match qAU h p with
  | some xs=>if xs.length<=lim then (match ixN xs.length i with | some k=>(match xs[k]? with | some y=>.ok (y,h.set p (.lst false (xs.eraseIdx k))) | none=>.stuck) | none=>.stuck) else .stuck
  | none=>.stuck
 | .rev,p,[],h=>match qAU h p with | some xs=>.ok (.non,h.set p (.lst false xs.reverse)) | none=>.stuck
 | .clr,p,[],h=>match qAU h p with | some _=>.ok (.non,h.set p (.lst false [])) | none=>.stuck
 | .rem,p,[.int i],h=>match qAU h p with
  | some xs=>if xs.length<=lim then (match (qBL xs).bind fun is=>is.findIdx? (·==i) with | some k=>.ok (.non,h.set p (.lst false (xs.eraseIdx k))) | none=>.stuck) else .stuck
  | none=>.stuck
 | .cnt,p,[y],h=>match qAU h p with
  | some xs=>if (flat y&&xs.all flat)=true then .ok (.int (xs.countP fun z=>L2.eqV z y),h) else .stuck
  | none=>.stuck
 | .ext,p,[.ref q],h=>match qAU h p with
  | some xs=>(match qAU h q with | some ys=>if p≠q/\xs.length + ys.length<=lim then .ok (.non,h.set p (.lst false (xs++ys))) else .stuck | none=>.stuck)
  | none=>.stuck
 | _,_,_,_=>.stuck
noncomputable def qBO (h:AH):V -> Option String
 | .non=>some "NoneType"
 | .bl _=>some "bool"
 | .int _=>some "int"
 | .str _=>some "str"
 | .ref a=>match h[a]? with | some (.lst _ _)=>some "list" | some (.tup _)=>some "tuple" | some (.ob (.dct _))=>some "dict" | _=>none
 | _=>none
noncomputable def qAV (t c:String):Bool:=t==c||(t=="bool"&&c=="int")
inductive Src | list (a:Nat) | tupl (a:Nat) | rng (lo:Int) (n:Nat) | zip (a b:Nat) | enum (a:Nat) | rvd (a n:Nat) | rngd (lo:Int) (n:Nat)
noncomputable def qFr (h:AH):Src -> Option Nat
 | .list a=>(qAL h a).map List.length
 | .tupl a=>(qAS h a).map List.length
 | .rng _ n=>some n
 | .zip a b=>match qAL h a,qAL h b with | some xs,some ys=>some (min xs.length ys.length) | _,_=>none
 | .enum a=>(qAL h a).map List.length
 | .rvd _ n=>some n
 | .rngd _ n=>some n
noncomputable def qAZ (h:AH) (i:Nat):Src -> Option (V×AH)
 | .list a=>match qAL h a with | some xs=>xs[i]?.map fun x=>(x,h) | none=>none
 | .tupl a=>match qAS h a with | some xs=>xs[i]?.map fun x=>(x,h) | none=>none
 | .rng lo n=>if i < n then some (.int (lo + (i:Int)),h) else none
 | .zip a b=>match qAL h a,qAL h b with
  | some xs,some ys=>match xs[i]?,ys[i]? with | some x,some y=>some (.ref h.length,h++[.tup [x,y]]) | _,_=>none
  | _,_=>none
 | .enum a=>match qAL h a with | some xs=>xs[i]?.map fun x=>(.ref h.length,h++[.tup [.int (i:Int),x]]) | none=>none
 | .rvd a n=>if i < n then (match qAL h a with | some xs=>xs[n - 1 - i]?.map fun x=>(x,h) | none=>none) else none
 | .rngd lo n=>if i < n then some (.int (lo - (i:Int)),h) else none
noncomputable def qBV (h:AH) (i:Nat):Src -> Bool
 | .list a=>match qAL h a with | some xs=>decide (xs.length<=i) | none=>false
 | .tupl a=>match qAS h a with | some xs=>decide (xs.length<=i) | none=>false
 | .rng _ n=>decide (n<=i)
 | .zip a b=>match qAL h a,qAL h b with | some xs,some ys=>decide (xs.length<=i\/ys.length<=i) | _,_=>false
 | .enum a=>match qAL h a with | some xs=>decide (xs.length<=i) | none=>false
 | .rvd _ n=>decide (i=n)
 | .rngd _ n=>decide (n<=i)
noncomputable def qDK:List Nat -> List V -> St -> Option St
 | [],[],σ=>some σ
 | i::is,x::xs,σ=>qDK is xs (σ.set i (some x))
 | _,_,_=>none
noncomputable def store:Tg -> V -> St -> AH -> Option St
 | .name i,v,σ,_=>some (σ.set i (some v))
 | .tup is,.ref a,σ,h=>match qAS h a with | some xs=>qDK is xs σ | none=>none
 | .tup _,_,_,_=>none
noncomputable def qCt (s:Src) (g:Tg) (c:St -> AH -> Res (Bool×AH)) (e:St -> AH -> RV) (D:Nat):Nat -> Nat -> List V -> St -> AH -> RV
 | 0,i,_,_,h=>if qBV h i s then .ok (.ref D,h) else .stuck
 | n + 1,i,ys,σ,h=>match qAZ h i s with
  | some (x,h1)=>match store g x σ h1 with
   | some σ1=>(c σ1 h1).bind fun (b,h2)=>
    if b then (e σ1 h2).bind fun (y,h3)=>if h3[D]?=some (.lst false ys)/\ys.length < lim then qCt s g c e D n (i + 1) (ys++[y]) σ1 (h3.set D (.lst false (ys++[y]))) else .stuck
    else if h2[D]?=some (.lst false ys) then qCt s g c e D n (i + 1) ys σ1 h2 else .stuck
   | none=>.stuck
  | none=>.stuck
noncomputable def asB (r:RV):Res (Bool×AH):=r.bind fun (v,h)=>match v with | .bl b=>.ok (b,h) | _=>.stuck
section
variable (F:Nat -> List V -> AH -> RV)
mutual
noncomputable def ev:E -> St -> AH -> RV
 | .var i=>fun σ h=>match σ[i]? with | some (some v)=>.ok (v,h) | _=>.stuck
 | .cst v=>fun _ h=>.ok (v,h)
 | .glob g=>fun _ h=>.ok (.ref g,h)
 | .bin op a b=>fun σ h=>(ev a σ h).bind fun (x,h1)=>(ev b σ h1).bind fun (y,h2)=>qJo op x y h2
 | .neg a=>fun σ h=>(ev a σ h).bind fun (x,h1)=>match x with | .int i=>.ok (.int (-i),h1) | _=>.stuck
 | .cmp op a b=>fun σ h=>(ev a σ h).bind fun (x,h1)=>(ev b σ h1).bind fun (y,h2)=>qHf op x y h2
 | .cmp2 o1 o2 a b c=>fun σ h=>(ev a σ h).bind fun (x,h1)=>(ev b σ h1).bind fun (y,h2)=>match qHn o1 x y h2 with
  | some true=>(ev c σ h2).bind fun (z,h3)=>qHf o2 y z h3
  | some false=>.ok (.bl false,h2)
  | none=>.stuck
 | .and a b=>fun σ h=>(asB (ev a σ h)).bind fun (x,h1)=>if x then ev b σ h1 else .ok (.bl false,h1)
 | .or a b=>fun σ h=>(asB (ev a σ h)).bind fun (x,h1)=>if x then .ok (.bl true,h1) else ev b σ h1
 | .not a=>fun σ h=>(asB (ev a σ h)).bind fun (x,h1)=>.ok (.bl (!x),h1)
 | .call f as=>fun σ h=>(evs as σ h).bind fun (xs,h1)=>(F f xs h1).nx
 | .blt f as=>fun σ h=>(evs as σ h).bind fun (xs,h1)=>qKn f xs h1
 | .isi a ts=>fun σ h=>(ev a σ h).bind fun (x,h1)=>match qBO h1 x with | some t=>.ok (.bl (ts.any (qAV t)),h1) | none=>.stuck
 | .idx a b=>fun σ h=>(ev a σ h).bind fun (x,h1)=>(ev b σ h1).bind fun (y,h2)=>match x,y with
  | .ref p,.int i=>match items h2 p with
   | some xs=>match (ixN xs.length i).bind fun j=>xs[j]? with | some v=>.ok (v,h2) | none=>.stuck
   | none=>.stuck
  | _,_=>.stuck
 | .sl a lo hi=>fun σ h=>(ev a σ h).bind fun (x,h1)=>(evs lo σ h1).bind fun (l,h2)=>(evs hi σ h2).bind fun (u,h3)=>
  match x,qBL l,qBL u with
  | .ref p,some l,some u=>match qAL h3 p with
   | some xs=>newL (cut xs l.head? u.head?) h3
   | none=>match qAS h3 p with
    | some xs=>if HT.sIx xs.length 0 l.head?=0/\HT.sIx xs.length xs.length u.head?=xs.length then .stuck else newT (cut xs l.head? u.head?) h3
    | none=>.stuck
  | _,_,_=>.stuck
 | .lst as=>fun σ h=>(evs as σ h).bind fun (xs,h1)=>if xs.length<=lim then newL xs h1 else .stuck
 | .tup as=>fun σ h=>(evs as σ h).bind fun (xs,h1)=>if xs.length<=lim then newT xs h1 else .stuck
 | .comp it src g c e=>fun σ h=>(evi it σ h).bind fun (s,h1)=>match qFr (h1++[.lst false []]) s with
  | some n=>qCt s g (evc c) (ev e) h1.length n 0 [] (L2.inner src σ) (h1++[.lst false []])
  | none=>.stuck
 | .app a b=>fun σ h=>(ev a σ h).bind fun (x,h1)=>match x with
  | .ref p=>(match qAL h1 p with
   | some _=>(ev b σ h1).bind fun (y,h2)=>match qAU h2 p with
    | some xs=>if xs.length < lim then .ok (.non,h2.set p (.lst false (xs++[y]))) else .stuck
    | none=>.stuck
   | none=>.stuck)
  | _=>.stuck
 | .nset a=>fun σ h=>(ev a σ h).bind fun (x,h1)=>match x with | .ref p=>(match qAL h1 p with | some ys=>(match qBL ys with | some is=>if is.length < 1000 then .ok (.int ((qFm is:Nat):Int),h1) else .stuck | none=>.stuck) | none=>.stuck) | _=>.stuck
 | .lrng2 a b=>fun σ h=>(ev a σ h).bind fun (x,h1)=>(ev b σ h1).bind fun (y,h2)=>qFB x y fun i j=>if -1000000<=i/\-1000000<=j/\i<=100000/\j<=100000/\j - i<=100000 then newL (qAr i (j - i).toNat) h2 else .stuck
 | .lrng a=>fun σ h=>(ev a σ h).bind fun (x,h1)=>match x with | .int j=>if -1000000<=j/\j<=100000 then newL (qAr 0 j.toNat) h1 else .stuck | _=>.stuck
 | .dnew=>fun _ h=>.ok (.ref h.length,h++[.ob (.dct [])])
 | .meth m a as=>fun σ h=>(ev a σ h).bind fun (x,h1)=>match x with
  | .ref p=>(match qAL h1 p with
   | some _=>(evs as σ h1).bind fun (ys,h2)=>qEf m p ys h2
   | none=>.stuck)
  | _=>.stuck
noncomputable def evs:Es -> St -> AH -> Res (List V×AH)
 | .nil=>fun _ h=>.ok ([],h)
 | .cons a as=>fun σ h=>(ev a σ h).bind fun (x,h1)=>(evs as σ h1).bind fun (xs,h2)=>.ok (x::xs,h2)
noncomputable def evc:Es -> St -> AH -> Res (Bool×AH)
 | .nil=>fun _ h=>.ok (true,h)
 | .cons a _=>fun σ h=>asB (ev a σ h)
noncomputable def evi:Itr -> St -> AH -> Res (Src×AH)
 | .list a=>fun σ h=>(ev a σ h).bind fun (x,h1)=>match x with | .ref p=>(match h1[p]? with | some (.lst _ _)=>.ok (.list p,h1) | some (.tup _)=>.ok (.tupl p,h1) | _=>.stuck) | _=>.stuck
 | .rng1 a=>fun σ h=>(ev a σ h).bind fun (x,h1)=>match x with | .int j=>if -1000000<=j/\j<=1000000 then .ok (.rng 0 j.toNat,h1) else .stuck | _=>.stuck
 | .rvr a=>fun σ h=>(ev a σ h).bind fun (x,h1)=>match x with
  | .int j=>if 0<=j/\j<=1000000 then .ok (.rngd (j - 1) j.toNat,h1) else .stuck
  | _=>.stuck
end
inductive Out | nx (σ:St) | rt (v:V) | bk (σ:St) | ct (σ:St)
noncomputable abbrev RS:=Res (Out×AH)
noncomputable def qEO (s:Src) (g:Tg) (b:St -> AH -> RS):Nat -> Nat -> St -> AH -> RS
 | 0,i,σ,h=>if qBV h i s then .ok (.nx σ,h) else .stuck
 | n + 1,i,σ,h=>match qAZ h i s with
  | some (x,h1)=>match store g x σ h1 with
   | some σ1=>(b σ1 h1).bind fun (o,h2)=>match o with
    | .nx σ2=>qEO s g b n (i + 1) σ2 h2
    | .ct σ2=>qEO s g b n (i + 1) σ2 h2
    | .bk σ2=>.ok (.nx σ2,h2)
    | .rt v=>.ok (.rt v,h2)
   | none=>.stuck
  | none=>.stuck
noncomputable def qOY (u x f i:Nat):E:=.or (.not (.call f (.cons (.var i) (.cons (.var x) .nil)))) (.or (.cmp .inn (.idx (.var x) (.cst (.int 0))) (.var u)) (.cmp .inn (.idx (.var x) (.cst (.int 1))) (.var u)))
noncomputable def qJ4 (F:Nat -> List V -> AH -> RV) (u x:Nat) (k:Int) (σ:St) (h:AH):RS:=(ev F (.cst (.bl true)) σ h).bind fun (x1,h1)=>(ev F (.var u) σ h1).bind fun (p,h2)=>(ev F (.idx (.var x) (.cst (.int k))) σ h2).bind fun (k,h3)=>match p,k with
  | .ref a,.int k=>match qAU h3 a with
   | some xs=>match ixN xs.length k with | some j=>.ok (.nx σ,h3.set a (.lst false (xs.set j x1))) | none=>.stuck
   | none=>match qDt h3 a with
    | some kvs=>if flat x1=true/\kvs.length < lim then .ok (.nx σ,h3.set a (.ob (.dct (qBz kvs k x1)))) else .stuck
    | none=>.stuck
  | _,_=>.stuck
noncomputable def qEk (r:RS) (k:St -> AH -> RS):RS:=r.bind fun (o,h1)=>match o with
  | .nx σ1=>k σ1 h1
  | o=>.ok (o,h1)
noncomputable def qBm (F:Nat -> List V -> AH -> RV) (u x f i:Nat) (σ:St) (h:AH):RS:=qEk ((asB (ev F (qOY u x f i) σ h)).bind fun (b,h1)=>if b then qEk ((ev F (.cst (.bl false)) σ h1).bind fun (y,h2)=>.ok (.rt y,h2)) (fun σ h=>.ok (.nx σ,h)) else .ok (.nx σ,h1)) fun σ h=>qEk (qJ4 F u x 0 σ h) fun σ h=>qEk (qJ4 F u x 1 σ h) fun σ h=>.ok (.nx σ,h)
mutual
noncomputable def ex:S -> St -> AH -> RS
 | .asg g e=>fun σ h=>(ev F e σ h).bind fun (x,h1)=>match store g x σ h1 with | some σ1=>.ok (.nx σ1,h1) | none=>.stuck
 | .put o i v=>fun σ h=>(ev F v σ h).bind fun (x,h1)=>(ev F o σ h1).bind fun (p,h2)=>(ev F i σ h2).bind fun (k,h3)=>match p,k with
  | .ref a,.int k=>match qAU h3 a with
   | some xs=>match ixN xs.length k with | some j=>.ok (.nx σ,h3.set a (.lst false (xs.set j x))) | none=>.stuck
   | none=>match qDt h3 a with
    | some kvs=>if flat x=true/\kvs.length < lim then .ok (.nx σ,h3.set a (.ob (.dct (qBz kvs k x)))) else .stuck
    | none=>.stuck
  | _,_=>.stuck
 | .expr e=>fun σ h=>(ev F e σ h).bind fun (_,h1)=>.ok (.nx σ,h1)
 | .ret e=>fun σ h=>(ev F e σ h).bind fun (x,h1)=>.ok (.rt x,h1)
 | .retc as e=>fun σ h=>(ev F (.tup (as.snoc e)) σ h).bind fun (x,h1)=>.ok (.rt x,h1)
 | .ifs c t u=>fun σ h=>(asB (ev F c σ h)).bind fun (x,h1)=>if x then exs t σ h1 else exs u σ h1
 | .for_ g it b=>fun σ h=>(evi F it σ h).bind fun (s,h1)=>match qFr h1 s with
  | some n=>qEO s g (exs b) n 0 σ h1
  | none=>.stuck
 | .stop=>fun _ _=>.stuck
 | .xexpr f as=>fun σ h=>(evs F as σ h).bind fun (xs,h1)=>(F f xs h1).bind fun (_,h2)=>.ok (.nx σ,h2)
 | .nloop u x f i a=>fun σ h=>(evi F (.list a) (σ.set u (some (.ref h.length))) (h++[.ob (.dct [])])).bind fun (s,h1)=>match qFr h1 s with
  | some n=>qEO s (.name x) (qBm F u x f i) n 0 (σ.set u (some (.ref h.length))) h1
  | none=>.stuck
 | .raise c=>fun _ h=>.exc c h
 | .tryK b e i m ks=>fun σ h=>match ex b σ h with
  | .exc c h1=>if c < m then .ok (.nx ((σ.set i (some (.ref h1.length))).set e none),h1++[.lst false (ks.map fun k=>.bl (qDP c k))]) else .stuck
  | r=>r
noncomputable def exs:Ss -> St -> AH -> RS
 | .nil=>fun σ h=>.ok (.nx σ,h)
 | .cons s r=>fun σ h=>(ex s σ h).bind fun (o,h1)=>match o with
  | .nx σ1=>exs r σ1 h1
  | o=>.ok (o,h1)
end
end
structure Fn where
 npar:Nat
 nslot:Nat
 body:Ss
noncomputable def Fk (tb:List Fn):Nat -> Nat -> List V -> AH -> RV
 | 0,_,_,_=>.stuck
 | k + 1,f,vs,h=>match tb[f]? with
  | some d=>if vs.length=d.npar/\d.npar<=d.nslot then (exs (Fk tb k) d.body (vs.map some++List.replicate (d.nslot - d.npar) none) h).bind fun (o,h1)=>match o with
    | .nx _=>.ok (.non,h1)
    | .rt v=>.ok (v,h1)
    | _=>.stuck
   else .stuck
  | none=>.stuck
end PI
namespace PI
open PySem PySem.Spec PyProof.Rows
open L2 (V Hp HO Cx PE PT PA PS PSs TE TT TA TS VK upd qAI qAM SqL SqT qEx)
noncomputable def rv (φ:List Addr):V -> V -> Prop
 | .ref i,.ref a=>φ[i]?=some a
 | .non,.non=>True
 | .bl b,.bl c=>b=c
 | .int i,.int j=>i=j
 | .str x,.str y=>x=y
 | _,_=>False
noncomputable abbrev rvs (φ:List Addr):List V -> List V -> Prop:=Paired (rv φ)
noncomputable def ropt (φ:List Addr):Option V -> Option V -> Prop
 | some v,oc=>∃ w,oc=some w/\rv φ v w
 | none,_=>True
noncomputable abbrev rst (φ:List Addr):St -> St -> Prop:=Paired (ropt φ)
noncomputable def Ext (φ φ':List Addr):Prop:=∃ r,φ'=φ++r
theorem Ext.refl (φ:List Addr):Ext φ φ:=⟨[],by simp⟩
theorem Ext.trans {a b c:List Addr} (h:Ext a b) (g:Ext b c):Ext a c:=by
 obtain ⟨r,rfl⟩:=h
 obtain ⟨q,rfl⟩:=g
 exact ⟨r++q,by simp⟩
theorem Ext.get {φ φ':List Addr} (x:Ext φ φ') {i:Nat} {a:Addr} (h:φ[i]?=some a):φ'[i]?=some a:=by
 obtain ⟨r,rfl⟩:=x
 rw [List.getElem?_append_left (List.getElem?_eq_some_iff.mp h).1]
 exact h
theorem rv.mono {φ φ':List Addr} (x:Ext φ φ'):∀ {v w:V},rv φ v w -> rv φ' v w
 | .ref i,.ref a,h=>x.get h
 | .non,.non,h=>h
 | .bl _,.bl _,h=>h
 | .int _,.int _,h=>h
 | .str _,.str _,h=>h
 | .byt _,_,h=>by cases h
 | .flt _,_,h=>by cases h
 | .ty _,_,h=>by cases h
theorem rvs.mono {φ φ':List Addr} (x:Ext φ φ') {vs ws:List V} (h:rvs φ vs ws):rvs φ' vs ws:=L2.Paired.mapP h fun _ _ r=>rv.mono x r
theorem ropt.mono {φ φ':List Addr} (x:Ext φ φ'):∀ {v w:Option V},ropt φ v w -> ropt φ' v w
 | some v,oc,h=>by obtain ⟨w,e,r⟩:=h;exact ⟨w,e,rv.mono x r⟩
 | none,_,_=>trivial
theorem rst.mono {φ φ':List Addr} (x:Ext φ φ') {σ τ:St} (h:rst φ σ τ):rst φ' σ τ:=L2.Paired.mapP h fun _ _ r=>ropt.mono x r
theorem qAD {α β:Type} {R:α -> β -> Prop}:∀ {xs:List α} {ys:List β} {i:Nat} {x:α},Paired R xs ys -> xs[i]?=some x -> ∃ y,ys[i]?=some y/\R x y
 | _,_,_,_,.nil,e=>by simp at e
 | _,_,0,_,.cons r _,e=>by simp at e;subst e;exact ⟨_,rfl,r⟩
 | _,_,i + 1,x,.cons _ t,e=>by
  obtain ⟨u,h1,h2⟩:=qAD (i:=i) (x:=x) t (by simpa using e)
  exact ⟨u,by simpa using h1,h2⟩
theorem qAs {α β:Type} {R:α -> β -> Prop} {x:α} {u:β} (r:R x u):∀ {xs:List α} {us:List β} (i:Nat),Paired R xs us -> Paired R (xs.set i x) (us.set i u)
 | _,_,_,.nil=>.nil
 | _,_,0,.cons _ t=>.cons r t
 | _,_,i + 1,.cons q t=>.cons q (qAs r i t)
theorem qAO {α β:Type} {R:α -> β -> Prop}:∀ {xs ys:List α} {us ws:List β},Paired R xs us -> Paired R ys ws -> Paired R (xs++ys) (us++ws)
 | _,_,_,_,.nil,s=>s
 | _,_,_,_,.cons r t,s=>.cons r (qAO t s)
theorem qA7 {α β:Type} {R:α -> β -> Prop}:∀ {xs:List α} {us:List β} (n:Nat),Paired R xs us -> Paired R (xs.take n) (us.take n)
 | _,_,0,_=>.nil
 | _,_,_ + 1,.nil=>.nil
 | _,_,n + 1,.cons r t=>.cons r (qA7 n t)
theorem qBo {α β:Type} {R:α -> β -> Prop}:∀ {xs:List α} {us:List β} (n:Nat),Paired R xs us -> Paired R (xs.drop n) (us.drop n)
 | _,_,0,r=>r
 | _,_,_ + 1,.nil=>.nil
 | _,_,n + 1,.cons _ t=>qBo n t
theorem qDI {α β:Type} {R:α -> β -> Prop} {xs:List α} {us:List β} (h:Paired R xs us):∀ k:Nat,Paired R (List.replicate k xs).flatten (List.replicate k us).flatten
 | 0=>.nil
 | k + 1=>by
  rw [List.replicate_succ,List.replicate_succ,List.flatten_cons,List.flatten_cons]
  exact qAO h (qDI h k)
noncomputable def kk (p:Int×V):L2.Key×V:=(.inl p.1,p.2)
noncomputable def O.mu:O -> Bool
 | .lst false _=>true | .ob (.dct _)=>true | _=>false
noncomputable def exP (a C:Addr):Heap -> Prop:=fun h=>∃ o,h.get? a=some o/\o.cls=.ref C
noncomputable def ro (K:PySem.W.Frag) (φ:List Addr) (H:Hp) (a:Addr):O -> Prop
 | .lst false xs=>∃ ys,H a=some (.lst ys)/\rvs φ xs ys
 | .lst true xs=>∃ ys,((∃ o,H a=some (.frz o (.lst ys)))\/SqL K (fun _=>none) a ys)/\rvs φ xs ys
 | .tup xs=>∃ ys,SqT K H a ys/\rvs φ xs ys
 | .ob (.dct kvs)=>H a=some (.dK (kvs.map kk))
 | .ob (.exn x)=>∃ C,PySem.W.nsIn K mainGlobals x=some (some (.ref C))/\H a=some (.ext (exP a C))
structure Rl (K:PySem.W.Frag) (G:List Addr) (φ:List Addr) (h:AH) (H:Hp):Prop where
 len:φ.length=h.length
 glob:Ext G φ
 obj:∀ (i:Nat) o a,h[i]?=some o -> φ[i]?=some a -> ro K φ H a o
 inj:∀ (i j:Nat) x y a,x.mu=true -> y.mu=true -> h[i]?=some x -> h[j]?=some y -> φ[i]?=some a -> φ[j]?=some a -> i=j
section
variable {K:PySem.W.Frag} {G φ φ':List Addr} {h:AH} {H H':Hp} {a b p:Addr}
theorem qIP {xs:List V} (s:qEx H H') (q:SqT K H a xs):SqT K H' a xs:=by
 rcases q with (h | ⟨o,h⟩) | h
 ·exact .inl (.inl (s _ _ h))
 ·exact .inl (.inr ⟨o,s _ _ h⟩)
 ·exact .inr h
theorem qH5 {xs:List V} (q:SqL K (fun _=>none) a xs):SqL K H a xs:=by
 rcases q with (h | ⟨o,h⟩) | h
 ·cases h
 ·cases h
 ·exact .inr h
theorem qBq {o:HO} (hp:H p=none):qEx H (upd H p o):=fun b u e=>by rw [qAM (L2.ne_of_none e hp)];exact e
theorem ro.keep {o:O} (x:Ext φ φ') (s:qEx H H') (r:ro K φ H a o):ro K φ' H' a o:=by
 match o,r with
 | .lst false xs,⟨ys,e,r⟩=>exact ⟨ys,s _ _ e,rvs.mono x r⟩
 | .lst true xs,⟨ys,.inl ⟨o,e⟩,r⟩=>exact ⟨ys,.inl ⟨o,s _ _ e⟩,rvs.mono x r⟩
 | .lst true xs,⟨ys,.inr e,r⟩=>exact ⟨ys,.inr e,rvs.mono x r⟩
 | .tup xs,⟨ys,e,r⟩=>exact ⟨ys,qIP s e,rvs.mono x r⟩
 | .ob (.dct _),e=>exact s _ _ e
 | .ob (.exn _),⟨C,e1,e2⟩=>exact ⟨C,e1,s _ _ e2⟩
noncomputable def Wr (w:HO):Prop:=(∃ zs,w=.lst zs)\/∃ ks,w=.dK ks
theorem ro.wr {o:O} (m:o.mu=true) (r:ro K φ H a o):∃ w,H a=some w/\Wr w:=by
 match o,m,r with
 | .lst false xs,_,⟨ys,e,r⟩=>exact ⟨_,e,.inl ⟨_,rfl⟩⟩
 | .ob (.dct _),_,e=>exact ⟨_,e,.inr ⟨_,rfl⟩⟩
theorem Wr.ne {w v:HO} (h:Wr w) (e:H a=some v) (hb:H b=some w) (h1:∀ zs,v≠.lst zs) (h2:∀ ks,v≠.dK ks):a≠b:=fun z=>by
 subst z
 rw [e] at hb;cases hb
 rcases h with ⟨zs,rfl⟩ | ⟨ks,rfl⟩
 ·exact h1 _ rfl
 ·exact h2 _ rfl
theorem ro.other {o:O} {w w':HO} (hw:Wr w) (hb:H b=some w) (hne:o.mu=true -> a≠b) (r:ro K φ H a o):ro K φ (upd H b w') a o:=by
 match o,r with
 | .lst false xs,⟨ys,e,r⟩=>exact ⟨ys,by rw [qAM (hne rfl)];exact e,r⟩
 | .lst true xs,⟨ys,.inl ⟨o,e⟩,r⟩=>exact ⟨ys,.inl ⟨o,by rw [qAM (hw.ne e hb (fun _ z=>by cases z) (fun _ z=>by cases z))];exact e⟩,r⟩
 | .lst true xs,⟨ys,.inr e,r⟩=>exact ⟨ys,.inr e,r⟩
 | .tup xs,⟨ys,e,r⟩=>
  refine ⟨ys,?_,r⟩
  rcases e with (h | ⟨o,h⟩) | h
  ·exact .inl (.inl (by rw [qAM (hw.ne h hb (fun _ z=>by cases z) (fun _ z=>by cases z))];exact h))
  ·exact .inl (.inr ⟨o,by rw [qAM (hw.ne h hb (fun _ z=>by cases z) (fun _ z=>by cases z))];exact h⟩)
  ·exact .inr h
 | .ob (.dct _),e=>exact (by show upd H b _ a=_;rw [qAM (hne rfl)];exact e)
 | .ob (.exn _),⟨C,e1,e2⟩=>exact ⟨C,e1,by rw [qAM (hw.ne e2 hb (fun _ z=>by cases z) (fun _ z=>by cases z))];exact e2⟩
theorem Rl.at (R:Rl K G φ h H) {i:Nat} {o:O} (e:h[i]?=some o):∃ a,φ[i]?=some a/\ro K φ H a o:=by
 have hi:i < φ.length:=by rw [R.len];exact (List.getElem?_eq_some_iff.mp e).1
 exact ⟨φ[i],List.getElem?_eq_getElem hi,R.obj i o _ e (List.getElem?_eq_getElem hi)⟩
theorem Rl.new (R:Rl K G φ h H) (hp:H p=none) {o:O} {ob:HO} (n:ro K (φ++[p]) (upd H p ob) p o):Rl K G (φ++[p]) (h++[o]) (upd H p ob):=by
 have x:Ext φ (φ++[p]):=⟨[p],rfl⟩
 refine ⟨by simp [R.len],R.glob.trans x,fun i u a e1 e2=>?_,fun i j xs ys a m1 m2 e1 e2 e3 e4=>?_⟩
 ·by_cases hi:i < h.length
  ·rw [List.getElem?_append_left hi] at e1
   rw [List.getElem?_append_left (by rw [R.len];exact hi)] at e2
   exact (R.obj i u a e1 e2).keep x (qBq hp)
  ·have hi':i=h.length:=by
    have:=(List.getElem?_eq_some_iff.mp e1).1
    simp at this
    omega
   subst hi'
   simp at e1
   rw [<- R.len] at e2
   simp at e2
   subst e1 e2
   exact n
 ·have lt:∀ {k:Nat} {z:O},(h++[o])[k]?=some z -> (h[k]?=some z/\k < h.length)\/k=h.length:=fun {k zs} e=>by
   by_cases hk:k < h.length
   ·rw [List.getElem?_append_left hk] at e
    exact .inl ⟨e,hk⟩
   ·have:=(List.getElem?_eq_some_iff.mp e).1
    simp at this
    exact .inr (by omega)
  have old:∀ {k:Nat} {b:Addr},k < h.length -> (φ++[p])[k]?=some b -> φ[k]?=some b:=fun {k b} hk e=>by
   rwa [List.getElem?_append_left (by rw [R.len];exact hk)] at e
  have newA:∀ {b:Addr},(φ++[p])[h.length]?=some b -> b=p:=fun {b} e=>by
   rw [<- R.len] at e
   simp at e
   exact e.symm
  rcases lt e1 with ⟨e1,h1⟩ | rfl<;>rcases lt e2 with ⟨e2,h2⟩ | rfl
  ·exact R.inj i j xs ys a m1 m2 e1 e2 (old h1 e3) (old h2 e4)
  ·have ea:=newA e4
   subst ea
   obtain ⟨w,hz,_⟩:=(R.obj i _ a e1 (old h1 e3)).wr m1
   rw [hp] at hz;cases hz
  ·have ea:=newA e3
   subst ea
   obtain ⟨w,hz,_⟩:=(R.obj j _ a e2 (old h2 e4)).wr m2
   rw [hp] at hz;cases hz
  ·rfl
theorem Rl.more (R:Rl K G φ h H) (hp:H p=none) {ob:HO}:Rl K G φ h (upd H p ob):=
 ⟨R.len,R.glob,fun i u a e1 e2=>(R.obj i u a e1 e2).keep (Ext.refl _) (qBq hp),R.inj⟩
theorem Rl.exn (R:Rl K G φ h H) {i:Nat} {x:Str} (e:qMO h i=some x):∃ a C,φ[i]?=some a/\PySem.W.nsIn K mainGlobals x=some (some (.ref C))/\H a=some (.ext (exP a C)):=by
 unfold qMO at e
 split at e
 ·rename_i c q
  cases e
  obtain ⟨a,ea,C,r1,r2⟩:=R.at q
  exact ⟨a,C,ea,r1,r2⟩
 ·cases e
theorem Rl.newL (R:Rl K G φ h H) (hp:H p=none) {xs ys:List V} (r:rvs φ xs ys):Rl K G (φ++[p]) (h++[.lst false xs]) (upd H p (.lst ys)):=
 R.new hp ⟨ys,qAI,rvs.mono ⟨[p],rfl⟩ r⟩
theorem Rl.newT (R:Rl K G φ h H) (hp:H p=none) {xs ys:List V} (r:rvs φ xs ys):Rl K G (φ++[p]) (h++[.tup xs]) (upd H p (.tup ys)):=
 R.new hp ⟨ys,.inl (.inl qAI),rvs.mono ⟨[p],rfl⟩ r⟩
theorem Rl.lastRef (R:Rl K G φ h H):(φ++[p])[h.length]?=some p:=by rw [<- R.len];simp
theorem Rl.write (R:Rl K G φ h H) {i:Nat} {x y:O} {w':HO} (mx:x.mu=true) (my:y.mu=true) (e:h[i]?=some x) (ea:φ[i]?=some a) (n:ro K φ (upd H a w') a y):Rl K G φ (h.set i y) (upd H a w'):=by
 have hi:=(List.getElem?_eq_some_iff.mp e).1
 obtain ⟨w,hw,ww⟩:=(R.obj i _ a e ea).wr mx
 have lk:∀ {k:Nat} {z:O},z.mu=true -> (h.set i y)[k]?=some z -> ∃ z',z'.mu=true/\h[k]?=some z':=fun {k zs} m q=>by
  by_cases hk:k=i
  ·subst hk;exact ⟨x,mx,e⟩
  ·rw [List.getElem?_set_ne (Ne.symm hk)] at q;exact ⟨zs,m,q⟩
 refine ⟨by simp [R.len],R.glob,fun k u b e1 e2=>?_,fun k l us vs b m1 m2 e1 e2 e3 e4=>?_⟩
 ·by_cases hk:k=i
  ·subst hk
   rw [List.getElem?_set_self hi] at e1
   rw [ea] at e2
   cases e1
   cases e2
   exact n
  ·rw [List.getElem?_set_ne (Ne.symm hk)] at e1
   refine (R.obj k u b e1 e2).other ww hw fun mu hb=>?_
   subst hb
   exact hk (R.inj k i u x b mu mx e1 e e2 ea)
 ·obtain ⟨z1,n1,q1⟩:=lk m1 e1
  obtain ⟨z2,n2,q2⟩:=lk m2 e2
  exact R.inj k l z1 z2 b n1 n2 q1 q2 e3 e4
theorem Rl.set (R:Rl K G φ h H) {i:Nat} {xs ys zs:List V} (e:h[i]?=some (.lst false xs)) (ea:φ[i]?=some a) (r:rvs φ ys zs):Rl K G φ (h.set i (.lst false ys)) (upd H a (.lst zs)):=
 R.write rfl rfl e ea ⟨zs,qAI,r⟩
theorem Rl.dct (R:Rl K G φ h H) {i:Nat} {kvs:List (Int×V)} (e:qDt h i=some kvs):∃ a,φ[i]?=some a/\h[i]?=some (.ob (.dct kvs))/\H a=some (.dK (kvs.map kk)):=by
 unfold qDt at e
 split at e
 ·rename_i zs q
  cases e
  obtain ⟨a,ea,r⟩:=R.at q
  exact ⟨a,ea,q,r⟩
 ·cases e
theorem Rl.lst (R:Rl K G φ h H) {i:Nat} {xs:List V} (e:qAL h i=some xs):∃ a ys,φ[i]?=some a/\SqL K H a ys/\rvs φ xs ys:=by
 unfold qAL at e
 split at e
 ·rename_i fz zs q
  cases e
  obtain ⟨a,ea,r⟩:=R.at q
  cases fz with
  | false=>obtain ⟨ys,e,r⟩:=r;exact ⟨a,ys,ea,.inl (.inl e),r⟩
  | true=>
   obtain ⟨ys,e,r⟩:=r
   rcases e with ⟨o,e⟩ | e
   ·exact ⟨a,ys,ea,.inl (.inr ⟨o,e⟩),r⟩
   ·exact ⟨a,ys,ea,qH5 e,r⟩
 ·cases e
theorem Rl.tup (R:Rl K G φ h H) {i:Nat} {xs:List V} (e:qAS h i=some xs):∃ a ys,φ[i]?=some a/\SqT K H a ys/\rvs φ xs ys:=by
 unfold qAS at e
 split at e
 ·rename_i zs q
  cases e
  obtain ⟨a,ea,ys,e,r⟩:=R.at q
  exact ⟨a,ys,ea,e,r⟩
 ·cases e
theorem Rl.mut (R:Rl K G φ h H) {i:Nat} {xs:List V} (e:qAU h i=some xs):h[i]?=some (.lst false xs)/\∃ a ys,φ[i]?=some a/\H a=some (.lst ys)/\rvs φ xs ys:=by
 unfold qAU at e
 split at e
 ·rename_i zs q
  cases e
  obtain ⟨a,ea,ys,e,r⟩:=R.at q
  exact ⟨q,a,ys,ea,e,r⟩
 ·cases e
theorem Rl.its (R:Rl K G φ h H) {i:Nat} {xs:List V} (e:items h i=some xs):∃ a ys,φ[i]?=some a/\(SqL K H a ys\/SqT K H a ys)/\rvs φ xs ys:=by
 unfold items at e
 split at e
 ·rename_i fz zs q
  cases e
  obtain ⟨a,ys,h1,h2,h3⟩:=R.lst (i:=i) (xs:=xs) (by unfold qAL;rw [q])
  exact ⟨a,ys,h1,.inl h2,h3⟩
 ·rename_i zs q
  cases e
  obtain ⟨a,ys,h1,h2,h3⟩:=R.tup (i:=i) (xs:=xs) (by unfold qAS;rw [q])
  exact ⟨a,ys,h1,.inr h2,h3⟩
 ·cases e
end
end PI
namespace PI
open PySem PySem.Spec PyProof.Rows
open L2 (V Hp HO Cx PE PT PA PS PSs PG TE TT TA TS VK upd qAI qAM SqL SqT qEx Inv RelV Vals EP TP AP SP OpR qAp R2)
theorem Res.bind_inv {α β:Type} {r:Res α} {f:α -> Res β} {x:β} (h:r.bind f=.ok x):∃ a,r=.ok a/\f a=.ok x:=by
 cases r with
 | ok a=>exact ⟨a,rfl,h⟩
 | exc c h'=>cases h
 | stuck=>cases h
theorem qAC {φ:List Addr} {i:Int} {w:V} (h:rv φ (.int i) w):w=.int i:=by
 cases w with
 | int j=>exact congrArg V.int (show i=j from h).symm
 | _=>exact False.elim h
theorem qA8 {φ:List Addr} {i:Bool} {w:V} (h:rv φ (.bl i) w):w=.bl i:=by
 cases w with
 | bl j=>exact congrArg V.bl (show i=j from h).symm
 | _=>exact False.elim h
theorem qBA {φ:List Addr} {i:Str} {w:V} (h:rv φ (.str i) w):w=.str i:=by
 cases w with
 | str j=>exact congrArg V.str (show i=j from h).symm
 | _=>exact False.elim h
theorem qAz {φ:List Addr} {w:V} (h:rv φ .non w):w=.non:=by
 cases w with
 | non=>rfl
 | _=>exact False.elim h
theorem qAN {φ:List Addr} {i:Nat} {w:V} (h:rv φ (.ref i) w):∃ a,w=.ref a/\φ[i]?=some a:=by
 cases w with
 | ref j=>exact ⟨j,rfl,h⟩
 | _=>exact False.elim h
section
variable (K:PySem.W.Frag) (G:List Addr) (F:Nat -> List V -> AH -> RV)
noncomputable def tE (e:E):TE:=fun σc H Q=>∃ φ h σ v h',Rl K G φ h H/\rst φ σ σc/\ev F e σ h=.ok (v,h')/\∀ φ' H' w,Ext φ φ' -> Rl K G φ' h' H' -> rv φ' v w -> Q w H'
noncomputable def tB (r:St -> AH -> Res (Bool×AH)):TT:=fun σc H Q=>∃ φ h σ b h',Rl K G φ h H/\rst φ σ σc/\r σ h=.ok (b,h')/\∀ φ' H',Ext φ φ' -> Rl K G φ' h' H' -> Q b H'
noncomputable abbrev tT (e:E):TT:=tB K G (fun σ h=>asB (ev F e σ h))
noncomputable def tL (as:Es):TA:=fun σc H Q=>∃ φ h σ vs h',Rl K G φ h H/\rst φ σ σc/\evs F as σ h=.ok (vs,h')/\∀ φ' H' ws,Ext φ φ' -> Rl K G φ' h' H' -> rvs φ' vs ws -> Q ws H'
end
section
variable {X:Cx} {G:List Addr} {F:Nat -> List V -> AH -> RV}
theorem qAj {e:Expr} {t t':TE} (h:PE X e t) (w:∀ σ H Q,t' σ H Q -> t σ H Q):PE X e t':=fun pins s σ H Q I q=>h pins s σ H Q I (w σ H Q q)
theorem qIC {e:Expr} {t t':TT} (h:PT X e t) (w:∀ σ H Q,t' σ H Q -> t σ H Q):PT X e t':=fun pins s σ H Q I q=>h pins s σ H Q I (w σ H Q q)
theorem qHt {e:List Expr} {t t':TA} (h:PA X e t) (w:∀ σ H Q,t' σ H Q -> t σ H Q):PA X e t':=fun pos pins s σ H Q I q=>h pos pins s σ H Q I (w σ H Q q)
variable (X G F) in
noncomputable abbrev SE (e:Expr) (a:E):Prop:=PE X e (tE X.K G F a)
variable (X G F) in
noncomputable abbrev ST (e:Expr) (a:E):Prop:=PT X e (tT X.K G F a)
variable (X G F) in
noncomputable abbrev SA (es:List Expr) (as:Es):Prop:=PA X es (tL X.K G F as)
variable {K:PySem.W.Frag} {φ φ':List Addr} {h h1 h2:AH} {H:Hp} {σ σc:St} {a b:E} {x y:V}
theorem qDa (R:Rl K G φ h H) (rs:rst φ σ σc) (ea:ev F a σ h=.ok (x,h1)) (eb:ev F b σ h1=.ok (y,h2)) {Rr:V -> V -> Hp -> Prop}
  (k:∀ φ2 H2 xc yc,Ext φ φ2 -> Rl K G φ2 h2 H2 -> rv φ2 x xc -> rv φ2 y yc -> Rr xc yc H2):tE K G F a σc H (fun xc H1=>tE K G F b σc H1 (fun yc H2=>Rr xc yc H2)):=
 ⟨φ,h,σ,x,h1,R,rs,ea,fun φ1 H1 xc e1 R1 r1=>⟨φ1,h1,σ,y,h2,R1,rst.mono e1 rs,eb,fun φ2 H2 yc e2 R2 r2=>k φ2 H2 xc yc (e1.trans e2) R2 (rv.mono e2 r1) r2⟩⟩
theorem qLA {i:Nat} {n:Str} {pos:Pos} (hN:X.N[i]?=some n) (hv:L2.Vis X.env.scope n) (hd:(n==("__debug__":Str))=false) (hcd:(n==("__classdict__":Str))=false):SE X G F (.Name n pos) (.var i):=by
 refine qAj (L2.pe_var hN hv hd hcd) fun σc H Q q=>?_
 obtain ⟨φ,h,σ,v,h',R,rs,e,k⟩:=q
 unfold ev at e
 split at e
 ·rename_i w q
  cases e
  obtain ⟨oc,ec,r⟩:=qAD rs q
  obtain ⟨u,rfl,r⟩:=r
  exact ⟨u,ec,k φ H u (.refl _) R r⟩
 ·cases e
theorem qGx {v:V} {w:V} {σc:St} {H:Hp} {Q:VK} (hr:∀ φ,rv φ v w) (q:tE K G F (.cst v) σc H Q):L2.tC w σc H Q:=by
 obtain ⟨φ,h,σ,v',h',R,rs,e,k⟩:=q
 unfold ev at e
 cases e
 exact k φ H w (.refl _) R (hr φ)
theorem qI4 {i j pos}:SE X G F (.Constant (.int i) j pos) (.cst (.int i)):=qAj L2.pe_int fun _ _ _=>qGx fun _=>rfl
theorem qMJ {i j pos}:SE X G F (.Constant (.bool i) j pos) (.cst (.bl i)):=qAj L2.pe_bl fun _ _ _=>qGx fun _=>rfl
theorem qIi {j pos}:SE X G F (.Constant .none j pos) (.cst .non):=qAj L2.pe_non fun _ _ _=>qGx fun _=>trivial
theorem qJC {i j pos}:SE X G F (.Constant (.str i) j pos) (.cst (.str i)):=qAj L2.pe_str fun _ _ _=>qGx fun _=>rfl
theorem qJT {n:Str} {v:V} {u:Value} {pos:Pos} (hg:L2.Gl X n) (hm:X.mg n=some u) (r:RelV v u) (hv:∀ φ,rv φ v v) (hd:(n==("__debug__":Str))=false):SE X G F (.Name n pos) (.cst v):=
 qAj (L2.pe_glob hg hm r hd) fun _ _ _=>qGx hv
theorem qJf {n:Str} {g:Nat} {a:Addr} {pos:Pos} (hg:L2.Gl X n) (hm:X.mg n=some (.ref a)) (hG:G[g]?=some a) (hd:(n==("__debug__":Str))=false):SE X G F (.Name n pos) (.glob g):=by
 refine qAj (L2.pe_glob (v:=.ref a) hg hm rfl hd) fun σc H Q q=>?_
 obtain ⟨φ,h,σ,v',h',R,rs,e,k⟩:=q
 unfold ev at e
 cases e
 exact k φ H (.ref a) (.refl _) R (R.glob.get hG)
noncomputable def opB:BOp -> Operator
 | .add=>.Add | .sub=>.Sub | .mul=>.Mult | .fdiv=>.FloorDiv | .mod=>.Mod | .pow=>.Pow | .shl=>.LShift
noncomputable def qOV (i j:Int):Prop:=j≠0/\j.natAbs.log2 < 9000
theorem qIB:OpR X (binaryOp .FloorDiv) (L2.rI qOV fun i j=>.int (i.fdiv j)):=L2.opI fun _ _ _ _ _ _ _ hc q=>floordiv_int hc.1 q (.inl (PyProof.noPylong_of_log2 hc.2))
noncomputable def qOj (i j:Int):Prop:=i.natAbs.log2 < 9000/\j.natAbs.log2 < 9000
theorem qE7 {i:Int} (h:i.natAbs.log2 < 9000):Builtin.Int.intBits i<=2 ^ 20:=by
 unfold Builtin.Int.intBits
 have e:(2:Nat) ^ 20=1048576:=by decide
 rw [e]
 split<;>omega
theorem qJv:OpR X (binaryOp .Mult) (L2.rI qOj fun i j=>.int (i * j)):=L2.opI fun _ _ _ _ _ _ _ hc q=>mul_int q (IntMulOk.of_bits (qE7 hc.1) (qE7 hc.2))
theorem qE9 {i:Int} (h:mid i=true):i.natAbs.log2 < 9000:=of_decide_eq_true h
noncomputable def qOL (K:PySem.W.Frag):BOp -> R2
 | .add=>fun x y H Q=>(L2.rI0 (fun i j=>.int (i + j)) x y H Q\/L2.rCat x y H Q)\/L2.rCatT K x y H Q
 | .sub=>L2.rI0 fun i j=>.int (i - j)
 | .mul=>fun x y H Q=>(L2.rI L2.CMul (fun i j=>.int (i * j)) x y H Q\/L2.rRep x y H Q)\/L2.rI qOj (fun i j=>.int (i * j)) x y H Q
 | .fdiv=>fun x y H Q=>L2.rI L2.CDiv (fun i j=>.int (i / j)) x y H Q\/L2.rI qOV (fun i j=>.int (i.fdiv j)) x y H Q
 | .mod=>fun x y H Q=>L2.rI (fun _ j=>0 < j) (fun i j=>.int (i % j)) x y H Q\/L2.rI (fun _ j=>j≠0) (fun i j=>.int (i.fmod j)) x y H Q
 | .pow=>L2.rI L2.CPow fun i j=>.int (i ^ j.toNat)
 | .shl=>L2.rI L2.CPow fun i j=>.int (i * 2 ^ j.toNat)
theorem qJP:∀ op,OpR X (binaryOp (opB op)) (qOL X.K op)
 | .add=>(L2.op_add.or L2.op_cat).or L2.op_catT
 | .sub=>L2.op_sub
 | .mul=>(L2.op_mul.or L2.op_rep).or qJv
 | .fdiv=>L2.op_fdiv.or qIB
 | .mod=>L2.op_mod.or L2.op_modN
 | .pow=>L2.op_pow
 | .shl=>L2.op_shl
theorem qB3:lim<=sizeLine:=by decide
theorem qJJ:lim < sizeLine:=by decide
theorem qFU {i:Int} (h:qCK i=true):-(2 ^ 64) < i/\i < 2 ^ 64:=by
 unfold qCK two64 at h
 have:=of_decide_eq_true h
 omega
theorem qJ0 {op:BOp} {v xc yc:V} {h':AH} {Q:VK} (e:qJo op x y h=.ok (v,h')) (R:Rl K G φ h H) (rx:rv φ x xc) (ry:rv φ y yc)
  (k:∀ φ' H' w,Ext φ φ' -> Rl K G φ' h' H' -> rv φ' v w -> Q w H'):qOL K op xc yc H Q:=by
 cases op with
 | add=>
  dsimp only [qJo] at e
  split at e
  ·replace e:=qBy e
   obtain ⟨b,rfl,e⟩:=e
   split at e
   ·rename_i xs ys e1 e2
    split at e
    ·rename_i hl
     cases e
     obtain ⟨q1,a1,ys1,ha1,hH1,r1⟩:=R.mut e1
     obtain ⟨q2,a2,ys2,ha2,hH2,r2⟩:=R.mut e2
     obtain ⟨b1,rfl,hb1⟩:=qAN rx
     obtain ⟨b2,rfl,hb2⟩:=qAN ry
     rw [ha1] at hb1;cases hb1
     rw [ha2] at hb2;cases hb2
     refine .inl (.inr ⟨a1,a2,ys1,ys2,rfl,rfl,hH1,hH2,?_,fun p hp=>k (φ++[p]) _ _ ⟨[p],rfl⟩ (R.newL hp (qAO r1 r2)) R.lastRef⟩)
     have l1:=Paired.length r1
     have l2:=Paired.length r2
     have:=qB3
     omega
    ·cases e
   ·split at e
    ·rename_i xs ys e1 e2
     split at e
     ·rename_i hl
      obtain ⟨a1,ys1,ha1,hH1,r1⟩:=R.tup e1
      obtain ⟨a2,ys2,ha2,hH2,r2⟩:=R.tup e2
      obtain ⟨b1,rfl,hb1⟩:=qAN rx
      obtain ⟨b2,rfl,hb2⟩:=qAN ry
      rw [ha1] at hb1;cases hb1
      rw [ha2] at hb2;cases hb2
      have l1:=Paired.length r1
      have l2:=Paired.length r2
      refine .inr ⟨a1,a2,ys1,ys2,rfl,rfl,hH1,hH2,?_,?_,fun z=>?_,fun z p hp=>?_⟩
      ·rintro rfl
       exact hl.1 (List.length_eq_zero_iff.mp l1)
      ·have:=qB3
       omega
      ·subst z
       rw [if_pos (List.length_eq_zero_iff.mp l2)] at e
       cases e
       exact k φ H _ (.refl _) R ha1
      ·rw [if_neg (fun q=>z (by subst q;exact List.length_eq_zero_iff.mp l2.symm))] at e
       cases e
       exact k (φ++[p]) _ _ ⟨[p],rfl⟩ (R.newT hp (qAO r1 r2)) R.lastRef
     ·cases e
    ·cases e
  ·replace e:=qAy e
   obtain ⟨i,j,rfl,rfl,e⟩:=e
   cases e;cases qAC rx;cases qAC ry
   exact .inl (.inl ⟨_,_,rfl,rfl,k φ H _ (.refl _) R rfl⟩)
 | sub=>
  replace e:=qAy e
  obtain ⟨i,j,rfl,rfl,e⟩:=e
  cases e;cases qAC rx;cases qAC ry
  exact ⟨_,_,rfl,rfl,k φ H _ (.refl _) R rfl⟩
 | mul=>
  dsimp only [qJo] at e
  split at e
  ·split at e
   ·split at e
    ·rename_i xs e1
     split at e
     ·rename_i hl
      obtain ⟨h0,hl,h3⟩:=hl
      cases e
      obtain ⟨q1,a1,ys1,ha1,hH1,r1⟩:=R.mut e1
      obtain ⟨b1,rfl,hb1⟩:=qAN rx
      rw [ha1] at hb1;cases hb1
      cases qAC ry
      refine .inl (.inr ⟨a1,_,ys1,rfl,rfl,hH1,by omega,by omega,?_,fun p hp=>k (φ++[p]) _ _ ⟨[p],rfl⟩ (R.newL hp (qDI r1 _)) R.lastRef⟩)
      have l1:=Paired.length r1
      have:=qB3
      rw [<- l1]
      omega
     ·cases e
    ·cases e
   ·cases e
  ·replace e:=qAy e
   obtain ⟨i,j,rfl,rfl,e⟩:=e
   split at e
   ·rename_i hs
    cases e;cases qAC rx;cases qAC ry
    rw [Bool.or_eq_true,Bool.or_eq_true,Bool.and_eq_true] at hs
    rcases hs with (z | z) | z
    ·exact .inl (.inl ⟨_,_,rfl,rfl,.inl (qFU z),k φ H _ (.refl _) R rfl⟩)
    ·exact .inl (.inl ⟨_,_,rfl,rfl,.inr (qFU z),k φ H _ (.refl _) R rfl⟩)
    ·exact .inr ⟨_,_,rfl,rfl,⟨qE9 z.1,qE9 z.2⟩,k φ H _ (.refl _) R rfl⟩
   ·cases e
 | fdiv=>
  replace e:=qAy e
  obtain ⟨i,j,rfl,rfl,e⟩:=e
  split at e
  ·rename_i hc
   cases e;cases qAC rx;cases qAC ry
   rcases hc.2 with z | z
   ·exact .inl ⟨_,_,rfl,rfl,⟨hc.1,z⟩,k φ H _ (.refl _) R rfl⟩
   ·refine .inr ⟨_,_,rfl,rfl,⟨by omega,qE9 z⟩,?_⟩
    dsimp only
    rw [Int.fdiv_eq_ediv_of_nonneg _ (by omega)]
    exact k φ H _ (.refl _) R rfl
  ·split at e
   ·rename_i hc
    cases e;cases qAC rx;cases qAC ry
    exact .inr ⟨_,_,rfl,rfl,⟨by omega,qE9 hc.2⟩,k φ H _ (.refl _) R rfl⟩
   ·cases e
 | mod=>
  replace e:=qAy e
  obtain ⟨i,j,rfl,rfl,e⟩:=e
  split at e
  ·rename_i hc
   cases e;cases qAC rx;cases qAC ry
   exact .inl ⟨_,_,rfl,rfl,hc,k φ H _ (.refl _) R rfl⟩
  ·split at e
   ·rename_i hc
    cases e;cases qAC rx;cases qAC ry
    exact .inr ⟨_,_,rfl,rfl,(by omega),k φ H _ (.refl _) R rfl⟩
   ·cases e
 | pow=>
  replace e:=qAy e
  obtain ⟨i,j,rfl,rfl,e⟩:=e
  split at e
  ·rename_i hc
   cases e;cases qAC rx;cases qAC ry
   refine ⟨_,_,rfl,rfl,⟨hc.1,by omega,by omega⟩,k φ H _ (.refl _) R rfl⟩
  ·cases e
 | shl=>
  replace e:=qAy e
  obtain ⟨i,j,rfl,rfl,e⟩:=e
  split at e
  ·rename_i hc
   cases e;cases qAC rx;cases qAC ry
   refine ⟨_,_,rfl,rfl,⟨hc.1,by omega,by omega⟩,k φ H _ (.refl _) R rfl⟩
  ·cases e
theorem qKy {op:BOp} {ea eb:Expr} {pos:Pos} (ha:SE X G F ea a) (hb:SE X G F eb b):SE X G F (.BinOp ea (opB op) eb pos) (.bin op a b):=by
 refine qAj (L2.pe_op (qJP op) ha hb) fun σc H Q q=>?_
 obtain ⟨φ,h,σ,v,h',R,rs,e,k⟩:=q
 unfold ev at e
 obtain ⟨⟨x,h1⟩,e1,e⟩:=Res.bind_inv e
 obtain ⟨⟨y,h2⟩,e2,e⟩:=Res.bind_inv e
 exact qDa R rs e1 e2 fun φ2 H2 xc yc x2 R2 r1 r2=>qJ0 e R2 r1 r2 fun φ' H' w x' R' r'=>k φ' H' w (x2.trans x') R' r'
theorem qK5 {ea:Expr} {pos:Pos} (ha:SE X G F ea a):SE X G F (.UnaryOp .USub ea pos) (.neg a):=by
 refine qAj (L2.pe_un L2.un_neg ha) fun σc H Q q=>?_
 obtain ⟨φ,h,σ,v,h',R,rs,e,k⟩:=q
 unfold ev at e
 obtain ⟨⟨x,h1⟩,e1,e⟩:=Res.bind_inv e
 refine ⟨φ,h,σ,x,h1,R,rs,e1,fun φ1 H1 xc x1 R1 r1=>?_⟩
 dsimp only at e
 split at e
 ·cases e
  cases qAC r1
  exact ⟨_,rfl,k φ1 H1 _ x1 R1 rfl⟩
 ·cases e
end
end PI
namespace PI
open PySem PySem.Spec PyProof.Rows PySem.SeqAt
open L2 (V Hp HO Cx PE PT PA PS PSs PG TE TT TA TS VK upd qAI qAM SqL SqT qEx Inv RelV Vals EP TP AP SP OpR qAp R2)
structure Eq3 (A:Around) (s:Shared) (u w:Value) (b:Bool):Prop where
 eq:EqAt A s u w b
 rc:RcAt A s u w b
 ne:RcNeAt A s u w (!b)
theorem qD6 {A:Around} {s:Shared} {φ:List Addr}:∀ {x y xc yc:V} {u w:Value} {b:Bool},eqF x y=some b -> rv φ x xc -> rv φ y yc -> RelV xc u -> RelV yc w -> Eq3 A s u w b:=by
 intro x y xc yc u w b e rx ry ru rw'
 cases x with
 | non=>
  cases qAz rx;cases ru
  cases y with
  | non=>cases qAz ry;cases rw';cases e;exact ⟨.same _,.none_none,.none_none⟩
  | bl j=>cases qA8 ry;cases rw';cases e;exact ⟨.none_bool _,.none_bool _,.none_bool _⟩
  | int j=>cases qAC ry;obtain ⟨t,rfl⟩:=rw';cases e;exact ⟨.none_int _ _,.none_int _ _,.none_int _ _⟩
  | str j=>cases qBA ry;obtain ⟨t,rfl⟩:=rw';cases e;exact ⟨.none_str _ _,.none_str _ _,.none_str _ _⟩
  | _=>cases e
 | bl i=>
  cases qA8 rx;cases ru
  cases y with
  | non=>cases qAz ry;cases rw';cases e;exact ⟨.bool_none _,.bool_none _,.bool_none _⟩
  | bl j=>cases qA8 ry;cases rw';cases e;exact ⟨.bool_bool _ _,.bool_bool _ _,.bool_bool _ _⟩
  | int j=>cases qAC ry;obtain ⟨t,rfl⟩:=rw';cases e;exact ⟨.bool_int _ _ _,.bool_int _ _ _,.bool_int _ _ _⟩
  | str j=>cases qBA ry;obtain ⟨t,rfl⟩:=rw';cases e;exact ⟨.bool_str _ _ _,.bool_str _ _ _,.bool_str _ _ _⟩
  | _=>cases e
 | int i=>
  cases qAC rx;obtain ⟨t,rfl⟩:=ru
  cases y with
  | non=>cases qAz ry;cases rw';cases e;exact ⟨.int_none _ _,.int_none _ _,.int_none _ _⟩
  | bl j=>cases qA8 ry;cases rw';cases e;exact ⟨.int_bool _ _ _,.int_bool _ _ _,.int_bool _ _ _⟩
  | int j=>cases qAC ry;obtain ⟨t,rfl⟩:=rw';cases e;exact ⟨.int_int _ _ _ _,.int_int _ _ _ _,.int_int _ _ _ _⟩
  | str j=>cases qBA ry;obtain ⟨t,rfl⟩:=rw';cases e;exact ⟨.int_str _ _ _ _,.int_str _ _ _ _,.int_str _ _ _ _⟩
  | _=>cases e
 | str i=>
  cases qBA rx;obtain ⟨t,rfl⟩:=ru
  cases y with
  | non=>cases qAz ry;cases rw';cases e;exact ⟨.str_none _ _,.str_none _ _,.str_none _ _⟩
  | bl j=>cases qA8 ry;cases rw';cases e;exact ⟨.str_bool _ _ _,.str_bool _ _ _,.str_bool _ _ _⟩
  | int j=>cases qAC ry;obtain ⟨t,rfl⟩:=rw';cases e;exact ⟨.str_int _ _ _ _,.str_int _ _ _ _,.str_int _ _ _ _⟩
  | str j=>cases qBA ry;obtain ⟨t,rfl⟩:=rw';cases e;exact ⟨.str_str _ _ _ _,.str_str _ _ _ _,.str_str _ _ _ _⟩
  | _=>cases e
 | _=>cases y<;>cases e
theorem qFJ {φ:List Addr} {x y w:V} {b:Bool} (e:eqF x y=some b) (rx:rv φ x w) (ry:rv φ y w):b=true:=by
 cases x with
 | non=>cases qAz rx;cases y<;>first | exact False.elim ry | (cases e;rfl) | cases e
 | bl i=>cases qA8 rx;cases y<;>first | exact False.elim ry | (rename_i j;cases (show j=i from ry);cases e;simp) | cases e
 | int i=>cases qAC rx;cases y<;>first | exact False.elim ry | (rename_i j;cases (show j=i from ry);cases e;simp) | cases e
 | str i=>cases qBA rx;cases y<;>first | exact False.elim ry | (rename_i j;cases (show j=i from ry);cases e;simp) | cases e
 | _=>cases y<;>cases e
theorem qCb {f:V -> V -> Option Bool}:∀ {xs ys:List V} {bs:List Bool},qC1 f xs ys=some bs -> bs.length=xs.length/\ys.length=xs.length/\∀ (j:Nat) x y,xs[j]?=some x -> ys[j]?=some y -> ∃ b,bs[j]?=some b/\f x y=some b
 | [],[],bs,e=>by
  cases e
  exact ⟨rfl,rfl,fun j x y h=>by simp at h⟩
 | [],_::_,_,e=>by cases e
 | _::_,[],_,e=>by cases e
 | x::xs,y::ys,bs,e=>by
  unfold qC1 at e
  split at e
  ·rename_i b bs' e1 e2
   cases e
   obtain ⟨l1,l2,k⟩:=qCb e2
   refine ⟨by simp [l1],by simp [l2],fun j u v h1 h2=>?_⟩
   cases j with
   | zero=>simp at h1 h2;subst h1 h2;exact ⟨b,rfl,e1⟩
   | succ j=>obtain ⟨b',h3,h4⟩:=k j u v (by simpa using h1) (by simpa using h2);exact ⟨b',by simpa using h3,h4⟩
  ·cases e
theorem qD1 (bs:List Bool):(List.range bs.length).all (fun j=>bs.getD j true)=bs.all id:=by
 rw [Bool.eq_iff_iff]
 simp only [List.all_eq_true,List.mem_range,id]
 constructor
 ·intro h b hb
  obtain ⟨j,hj,rfl⟩:=List.mem_iff_getElem.mp hb
  have:=h j hj
  rw [List.getD_eq_getElem?_getD,List.getElem?_eq_getElem hj] at this
  exact this
 ·intro h j hj
  rw [List.getD_eq_getElem?_getD,List.getElem?_eq_getElem hj]
  exact h _ (List.getElem_mem hj)
section
variable {X:Cx} {G φ:List Addr} {h:AH} {H:Hp} {pins:List (Addr×Obj)} {σ:L2.St} {s:Shared}
theorem qFe (I:Inv X pins σ H s) (R:Rl X.K G φ h H):∀ (n:Nat) {x y w:V} {b:Bool},eqD h n x y=some b -> rv φ x w -> rv φ y w -> b=true
 | 0,x,y,w,b,e,rx,ry=>qFJ e rx ry
 | n + 1,x,y,w,b,e,rx,ry=>by
  have all:∀ {xs ys zs:List V} {bs:List Bool},rvs φ xs zs -> rvs φ ys zs -> qC1 (eqD h n) xs ys=some bs -> bs.all id=true:=fun {xs ys zs bs} r1 r2 e=>by
   obtain ⟨l1,l2,k⟩:=qCb e
   rw [List.all_eq_true]
   intro b hb
   obtain ⟨j,hj,rfl⟩:=List.mem_iff_getElem.mp hb
   have hx:j < xs.length:=by omega
   have hy:j < ys.length:=by omega
   obtain ⟨b',hb',e'⟩:=k j _ _ (List.getElem?_eq_getElem hx) (List.getElem?_eq_getElem hy)
   rw [List.getElem?_eq_getElem hj] at hb'
   cases hb'
   obtain ⟨z,hz,q1⟩:=qAD r1 (List.getElem?_eq_getElem hx)
   obtain ⟨z',hz',q2⟩:=qAD r2 (List.getElem?_eq_getElem hy)
   rw [hz] at hz';cases hz'
   exact qFe I R n e' q1 q2
  cases x with
  | ref a=>
   obtain ⟨p,rfl,hp⟩:=qAN rx
   cases y with
   | ref c=>
    have hc:φ[c]?=some p:=ry
    simp only [eqD] at e
    split at e
    ·rename_i f1 xs f2 ys e1 e2
     split at e
     ·cases e;rfl
     ·obtain ⟨p1,z1,q1,s1,r1⟩:=R.lst (i:=a) (xs:=xs) (by unfold qAL;rw [e1])
      obtain ⟨p2,z2,q2,s2,r2⟩:=R.lst (i:=c) (xs:=ys) (by unfold qAL;rw [e2])
      rw [hp] at q1;cases q1
      rw [hc] at q2;cases q2
      have:=I.list_inj s1 s2
      subst this
      split at e
      ·obtain ⟨bs,e3,rfl⟩:=Option.map_eq_some_iff.mp e
       exact all r1 r2 e3
      ·rename_i hne
       exact absurd ((Paired.length r1).trans (Paired.length r2).symm) hne
    ·rename_i xs ys e1 e2
     split at e
     ·cases e;rfl
     ·obtain ⟨p1,z1,q1,s1,r1⟩:=R.tup (i:=a) (xs:=xs) (by unfold qAS;rw [e1])
      obtain ⟨p2,z2,q2,s2,r2⟩:=R.tup (i:=c) (xs:=ys) (by unfold qAS;rw [e2])
      rw [hp] at q1;cases q1
      rw [hc] at q2;cases q2
      have:=I.tuple_inj s1 s2
      subst this
      split at e
      ·obtain ⟨bs,e3,rfl⟩:=Option.map_eq_some_iff.mp e
       exact all r1 r2 e3
      ·rename_i hne
       exact absurd ((Paired.length r1).trans (Paired.length r2).symm) hne
    ·rename_i f1 xs ys e1 e2
     obtain ⟨p1,z1,q1,s1,r1⟩:=R.lst (i:=a) (xs:=xs) (by unfold qAL;rw [e1])
     obtain ⟨p2,z2,q2,s2,r2⟩:=R.tup (i:=c) (xs:=ys) (by unfold qAS;rw [e2])
     rw [hp] at q1;cases q1
     rw [hc] at q2;cases q2
     obtain ⟨i1,_,t1,_⟩:=I.list s1
     obtain ⟨i2,_,t2,_⟩:=I.tuple s2
     exact absurd rfl (ne_of_list_tuple t1.isList t2)
    ·rename_i xs f1 ys e1 e2
     obtain ⟨p1,z1,q1,s1,r1⟩:=R.tup (i:=a) (xs:=xs) (by unfold qAS;rw [e1])
     obtain ⟨p2,z2,q2,s2,r2⟩:=R.lst (i:=c) (xs:=ys) (by unfold qAL;rw [e2])
     rw [hp] at q1;cases q1
     rw [hc] at q2;cases q2
     obtain ⟨i1,_,t1,_⟩:=I.tuple s1
     obtain ⟨i2,_,t2,_⟩:=I.list s2
     exact absurd rfl (ne_of_list_tuple t2.isList t1)
    ·cases e
   | _=>exact False.elim ry
  | _=>
   cases y with
   | ref c=>
    obtain ⟨p,rfl,hp⟩:=qAN ry
    exact False.elim rx
   | _=>exact qFJ e rx ry
theorem qGg (I:Inv X pins σ H s) (R:Rl X.K G φ h H):∀ (n:Nat) {A:Around} {x y xc yc:V} {u w:Value} {b:Bool},A.units + n < cLine -> eqD h n x y=some b -> rv φ x xc -> rv φ y yc -> RelV xc u -> RelV yc w -> Eq3 A s u w b
 | 0,A,x,y,xc,yc,u,w,b,hu,e,rx,ry,ru,rw'=>qD6 e rx ry ru rw'
 | n + 1,A,x,y,xc,yc,u,w,b,hu,e,rx,ry,ru,rw'=>by
  have hu0:A.units < cLine:=by omega
  have hu1:A.in1.units + n < cLine:=by show A.units + 1 + n < cLine;omega
  have item:∀ {xs ys zs ts:List V} {us ws:List Value} {bs:List Bool},rvs φ xs zs -> rvs φ ys ts -> Vals zs us -> Vals ts ws -> qC1 (eqD h n) xs ys=some bs -> us.length=bs.length/\ws.length=bs.length/\
    ∀ (j:Nat) (h1:j < us.toArray.size) (h2:j < ws.toArray.size),EqAt A.in1 s us.toArray[j] ws.toArray[j] (bs.getD j true):=fun {xs ys zs ts us ws bs} r1 r2 v1 v2 e=>by
   obtain ⟨l1,l2,k⟩:=qCb e
   have n1:=Paired.length r1
   have n2:=Paired.length r2
   have n3:=v1.length
   have n4:=v2.length
   refine ⟨by omega,by omega,fun j h1 h2=>?_⟩
   have g1:j < us.length:=by simpa using h1
   have g2:j < ws.length:=by simpa using h2
   have hx:j < xs.length:=by omega
   have hy:j < ys.length:=by omega
   obtain ⟨b',hb',e'⟩:=k j _ _ (List.getElem?_eq_getElem hx) (List.getElem?_eq_getElem hy)
   obtain ⟨z,hz,q1⟩:=qAD r1 (List.getElem?_eq_getElem hx)
   obtain ⟨t,ht,q2⟩:=qAD r2 (List.getElem?_eq_getElem hy)
   obtain ⟨u',hu',q3⟩:=v1.get hz
   obtain ⟨w',hw',q4⟩:=v2.get ht
   rw [List.getElem?_eq_getElem g1] at hu'
   rw [List.getElem?_eq_getElem g2] at hw'
   cases hu'
   cases hw'
   rw [List.getD_eq_getElem?_getD,hb']
   have:=(qGg I R n (A:=A.in1) hu1 e' q1 q2 q3 q4).eq
   simpa using this
  have refs:∀ {a:Nat} {p:Addr} {v:V} {b:Bool},φ[a]?=some p -> (if (items h a).isSome&&flat v then some false else none)=some b -> b=false/\∃ its,s.heap.IsList p its\/s.heap.IsTuple p its:=fun {a p v b} hp e=>by
   cases ea:h[a]? with
   | none=>rw [show items h a=none from (by unfold items;rw [ea])] at e;cases e
   | some o=>
    have hb:b=false:=by
     split at e
     ·cases e;rfl
     ·cases e
    refine ⟨hb,?_⟩
    cases o with
    | lst f xs=>
     obtain ⟨p1,z1,q1,s1,r1⟩:=R.lst (i:=a) (xs:=xs) (by unfold qAL;rw [ea])
     rw [hp] at q1;cases q1
     obtain ⟨i1,_,t1,_⟩:=I.list s1
     exact ⟨_,.inl t1.isList⟩
    | tup xs=>
     obtain ⟨p1,z1,q1,s1,r1⟩:=R.tup (i:=a) (xs:=xs) (by unfold qAS;rw [ea])
     rw [hp] at q1;cases q1
     obtain ⟨i1,_,t1,_⟩:=I.tuple s1
     exact ⟨_,.inr t1⟩
    | ob ks=>rw [show items h a=none from (by unfold items;rw [ea])] at e;cases e
  cases x with
  | ref a=>
   obtain ⟨p,rfl,hp⟩:=qAN rx
   cases ru
   cases y with
   | ref c=>
    obtain ⟨q,rfl,hq⟩:=qAN ry
    cases rw'
    have same:p=q -> b=true:=fun z=>by
     subst z
     exact qFe I R (n + 1) e rx (show rv φ (.ref c) (.ref p) from hq)
    simp only [eqD] at e
    split at e
    ·rename_i f1 xs f2 ys e1 e2
     obtain ⟨p1,z1,q1,s1,r1⟩:=R.lst (i:=a) (xs:=xs) (by unfold qAL;rw [e1])
     obtain ⟨p2,z2,q2,s2,r2⟩:=R.lst (i:=c) (xs:=ys) (by unfold qAL;rw [e2])
     rw [hp] at q1;cases q1
     rw [hq] at q2;cases q2
     obtain ⟨i1,v1,t1,_⟩:=I.list s1
     obtain ⟨i2,v2,t2,_⟩:=I.list s2
     split at e
     ·rename_i hac
      subst hac
      rw [hp] at hq;cases hq
      cases e
      have rc:=RcAt.lists (A:=A) (e:=fun _=>true) t1.isList t1.isList rfl hu0 fun j _ _=>EqAt.same _
      have ne:=RcNeAt.lists (A:=A) (e:=fun _=>true) t1.isList t1.isList rfl hu0 fun j _ _=>EqAt.same _
      have al:∀ l:List Nat,(l.all fun _=>true)=true:=fun l=>by simp
      rw [al] at rc ne
      exact ⟨.same _,rc,ne⟩
     ·split at e
      ·obtain ⟨bs,e3,rfl⟩:=Option.map_eq_some_iff.mp e
       obtain ⟨m1,m2,he⟩:=item r1 r2 v1 v2 e3
       have hsz:i1.toArray.size=i2.toArray.size:=by simp;omega
       have rc:=RcAt.lists (A:=A) (e:=fun j=>bs.getD j true) t1.isList t2.isList hsz hu0 he
       have ne:=RcNeAt.lists (A:=A) (e:=fun j=>bs.getD j true) t1.isList t2.isList hsz hu0 he
       have sz:i1.toArray.size=bs.length:=by simpa using m1
       rw [sz,qD1] at rc ne
       refine ⟨?_,rc,ne⟩
       by_cases hpq:p=q
       ·rw [same hpq];subst hpq;exact .same _
       ·exact .of_refs hpq rc
      ·rename_i hl
       cases e
       have n1:=Paired.length r1
       have n2:=Paired.length r2
       have n3:=v1.length
       have n4:=v2.length
       have hsz:(i1.toArray.size != i2.toArray.size)=true:=by simp;omega
       have rc:=RcAt.lists_lengths (A:=A) t1.isList t2.isList hsz hu0
       have ne:=RcNeAt.lists_lengths (A:=A) t1.isList t2.isList hsz hu0
       refine ⟨?_,rc,ne⟩
       by_cases hpq:p=q
       ·exact absurd (same hpq) (by decide)
       ·exact .of_refs hpq rc
    ·rename_i xs ys e1 e2
     obtain ⟨p1,z1,q1,s1,r1⟩:=R.tup (i:=a) (xs:=xs) (by unfold qAS;rw [e1])
     obtain ⟨p2,z2,q2,s2,r2⟩:=R.tup (i:=c) (xs:=ys) (by unfold qAS;rw [e2])
     rw [hp] at q1;cases q1
     rw [hq] at q2;cases q2
     obtain ⟨i1,v1,t1,_⟩:=I.tuple s1
     obtain ⟨i2,v2,t2,_⟩:=I.tuple s2
     have t1':s.heap.IsTuple p i1.toArray:=t1
     have t2':s.heap.IsTuple q i2.toArray:=t2
     split at e
     ·rename_i hac
      subst hac
      rw [hp] at hq;cases hq
      cases e
      have rc:=RcAt.tuples (A:=A) (e:=fun _=>true) t1' t1' hu0 fun j _ _=>EqAt.same _
      have ne:=RcNeAt.tuples (A:=A) (e:=fun _=>true) t1' t1' hu0 fun j _ _=>EqAt.same _
      have al:∀ l:List Nat,(l.all fun _=>true)=true:=fun l=>by simp
      rw [al] at rc ne
      simp only [beq_self_eq_true,Bool.and_self] at rc ne
      exact ⟨.same _,rc,ne⟩
     ·split at e
      ·obtain ⟨bs,e3,rfl⟩:=Option.map_eq_some_iff.mp e
       obtain ⟨m1,m2,he⟩:=item r1 r2 v1 v2 e3
       have hsz:i1.toArray.size=i2.toArray.size:=by simp;omega
       have rc:=RcAt.tuples (A:=A) (e:=fun j=>bs.getD j true) t1' t2' hu0 he
       have ne:=RcNeAt.tuples (A:=A) (e:=fun j=>bs.getD j true) t1' t2' hu0 he
       have sz:i1.toArray.size=bs.length:=by simpa using m1
       have sz2:i2.toArray.size=bs.length:=by simpa using m2
       rw [sz,sz2,Nat.min_self,qD1,beq_self_eq_true,Bool.and_true] at rc ne
       refine ⟨?_,rc,ne⟩
       by_cases hpq:p=q
       ·rw [same hpq];subst hpq;exact .same _
       ·exact .of_refs hpq rc
      ·rename_i hl
       have n1:=Paired.length r1
       have n2:=Paired.length r2
       have n3:=v1.length
       have n4:=v2.length
       obtain ⟨bs,e3,hb⟩:=Option.map_eq_some_iff.mp e
       subst hb
       have hsz:(i1.toArray.size==i2.toArray.size)=false:=by simp;omega
       obtain ⟨m1,m2,he⟩:=item (qA7 ys.length r1) (qA7 xs.length r2) (v1.take ys.length) (v2.take xs.length) e3
       have he':∀ (j:Nat) (h1:j < i1.toArray.size) (h2:j < i2.toArray.size),EqAt A.in1 s i1.toArray[j] i2.toArray[j] (bs.getD j true):=fun j h1 h2=>by
        have g1:j < i1.length:=by simpa using h1
        have g2:j < i2.length:=by simpa using h2
        have:=he j (by simp;omega) (by simp;omega)
        simpa using this
       have rc:=RcAt.tuples (A:=A) (e:=fun j=>bs.getD j true) t1' t2' hu0 he'
       have ne:=RcNeAt.tuples (A:=A) (e:=fun j=>bs.getD j true) t1' t2' hu0 he'
       rw [hsz,Bool.and_false] at rc ne
       refine ⟨?_,rc,ne⟩
       by_cases hpq:p=q
       ·exact absurd (same hpq) (by decide)
       ·exact .of_refs hpq rc
    ·rename_i f1 xs ys e1 e2
     cases e
     obtain ⟨p1,z1,q1,s1,r1⟩:=R.lst (i:=a) (xs:=xs) (by unfold qAL;rw [e1])
     obtain ⟨p2,z2,q2,s2,r2⟩:=R.tup (i:=c) (xs:=ys) (by unfold qAS;rw [e2])
     rw [hp] at q1;cases q1
     rw [hq] at q2;cases q2
     obtain ⟨i1,_,t1,_⟩:=I.list s1
     obtain ⟨i2,_,t2,_⟩:=I.tuple s2
     exact ⟨.list_tuple t1.isList t2 hu0,.list_tuple t1.isList t2 hu0,.list_tuple t1.isList t2 hu0⟩
    ·rename_i xs f1 ys e1 e2
     cases e
     obtain ⟨p1,z1,q1,s1,r1⟩:=R.tup (i:=a) (xs:=xs) (by unfold qAS;rw [e1])
     obtain ⟨p2,z2,q2,s2,r2⟩:=R.lst (i:=c) (xs:=ys) (by unfold qAL;rw [e2])
     rw [hp] at q1;cases q1
     rw [hq] at q2;cases q2
     obtain ⟨i1,_,t1,_⟩:=I.tuple s1
     obtain ⟨i2,_,t2,_⟩:=I.list s2
     exact ⟨.tuple_list t1 t2.isList hu0,.tuple_list t1 t2.isList hu0,.tuple_list t1 t2.isList hu0⟩
    ·cases e
   | non=>
    cases qAz ry;cases rw'
    rcases refs hp (show (if (items h a).isSome&&flat V.non then some false else none)=some b from e) with ⟨rfl,its,t | t⟩
    ·exact ⟨.list_none t hu0,.list_none t hu0,.list_none t hu0⟩
    ·exact ⟨.tuple_none t hu0,.tuple_none t hu0,.tuple_none t hu0⟩
   | bl j=>
    cases qA8 ry;cases rw'
    rcases refs hp (show (if (items h a).isSome&&flat (V.bl j) then some false else none)=some b from e) with ⟨rfl,its,t | t⟩
    ·exact ⟨.list_bool _ t hu0,.list_bool _ t hu0,.list_bool _ t hu0⟩
    ·exact ⟨.tuple_bool _ t hu0,.tuple_bool _ t hu0,.tuple_bool _ t hu0⟩
   | int j=>
    cases qAC ry;obtain ⟨t',rfl⟩:=rw'
    rcases refs hp (show (if (items h a).isSome&&flat (V.int j) then some false else none)=some b from e) with ⟨rfl,its,t | t⟩
    ·exact ⟨.list_int _ _ t hu0,.list_int _ _ t hu0,.list_int _ _ t hu0⟩
    ·exact ⟨.tuple_int _ _ t hu0,.tuple_int _ _ t hu0,.tuple_int _ _ t hu0⟩
   | str j=>
    cases qBA ry;obtain ⟨t',rfl⟩:=rw'
    rcases refs hp (show (if (items h a).isSome&&flat (V.str j) then some false else none)=some b from e) with ⟨rfl,its,t | t⟩
    ·exact ⟨.list_str _ _ t hu0,.list_str _ _ t hu0,.list_str _ _ t hu0⟩
    ·exact ⟨.tuple_str _ _ t hu0,.tuple_str _ _ t hu0,.tuple_str _ _ t hu0⟩
   | _=>exact False.elim ry
  | non=>
   cases y with
   | ref c=>
    obtain ⟨p,rfl,hp⟩:=qAN ry
    cases rw'
    cases qAz rx;cases ru
    rcases refs hp (show (if (items h c).isSome&&flat V.non then some false else none)=some b from (Bool.and_comm _ _) ▸ e) with ⟨rfl,its,t | t⟩
    ·exact ⟨.none_list t hu0,.none_list t hu0,.none_list t hu0⟩
    ·exact ⟨.none_tuple t hu0,.none_tuple t hu0,.none_tuple t hu0⟩
   | _=>exact qD6 e rx ry ru rw'
  | bl i=>
   cases y with
   | ref c=>
    obtain ⟨p,rfl,hp⟩:=qAN ry
    cases rw'
    cases qA8 rx;cases ru
    rcases refs hp (show (if (items h c).isSome&&flat (V.bl i) then some false else none)=some b from (Bool.and_comm _ _) ▸ e) with ⟨rfl,its,t | t⟩
    ·exact ⟨.bool_list _ t hu0,.bool_list _ t hu0,.bool_list _ t hu0⟩
    ·exact ⟨.bool_tuple _ t hu0,.bool_tuple _ t hu0,.bool_tuple _ t hu0⟩
   | _=>exact qD6 e rx ry ru rw'
  | int i=>
   cases y with
   | ref c=>
    obtain ⟨p,rfl,hp⟩:=qAN ry
    cases rw'
    cases qAC rx;obtain ⟨t',rfl⟩:=ru
    rcases refs hp (show (if (items h c).isSome&&flat (V.int i) then some false else none)=some b from (Bool.and_comm _ _) ▸ e) with ⟨rfl,its,t | t⟩
    ·exact ⟨.int_list _ _ t hu0,.int_list _ _ t hu0,.int_list _ _ t hu0⟩
    ·exact ⟨.int_tuple _ _ t hu0,.int_tuple _ _ t hu0,.int_tuple _ _ t hu0⟩
   | _=>exact qD6 e rx ry ru rw'
  | str i=>
   cases y with
   | ref c=>
    obtain ⟨p,rfl,hp⟩:=qAN ry
    cases rw'
    cases qBA rx;obtain ⟨t',rfl⟩:=ru
    rcases refs hp (show (if (items h c).isSome&&flat (V.str i) then some false else none)=some b from (Bool.and_comm _ _) ▸ e) with ⟨rfl,its,t | t⟩
    ·exact ⟨.str_list _ _ t hu0,.str_list _ _ t hu0,.str_list _ _ t hu0⟩
    ·exact ⟨.str_tuple _ _ t hu0,.str_tuple _ _ t hu0,.str_tuple _ _ t hu0⟩
   | _=>exact qD6 e rx ry ru rw'
  | _=>cases xc<;>exact False.elim rx
end
end PI
namespace PI
open PySem PySem.Spec PyProof.Rows PySem.SeqAt
open L2 (V Hp HO Cx PE PT PA PS PSs PG TE TT TA TS VK upd qAI qAM SqL SqT qEx Inv RelV Vals EP TP AP SP OpR qAp R2)
theorem qEj {φ:List Addr}:∀ {x w:V},flat x=true -> rv φ x w -> w=x
 | .non,_,_,h=>qAz h
 | .bl _,_,_,h=>qA8 h
 | .int _,_,_,h=>qAC h
 | .str _,_,_,h=>qBA h
 | .ref _,_,f,_=>by cases f
 | .byt _,_,f,_=>by cases f
 | .flt _,_,f,_=>by cases f
 | .ty _,_,f,_=>by cases f
theorem qCO {φ:List Addr}:∀ {xs ws:List V},xs.all flat=true -> rvs φ xs ws -> ws=xs
 | _,_,_,.nil=>rfl
 | x::xs,w::ws,f,.cons r t=>by
  simp only [List.all_cons,Bool.and_eq_true] at f
  rw [qEj f.1 r,qCO f.2 t]
theorem qFW:∀ x:V,L2.flatV x=flat x:=by intro x;cases x<;>rfl
theorem qHA (xs:List V):xs.all L2.flatV=xs.all flat:=by
 induction xs with
 | nil=>rfl
 | cons x xs ih=>rw [List.all_cons,List.all_cons,ih,qFW]
section
variable {X:Cx} {G:List Addr} {F:Nat -> List V -> AH -> RV}
noncomputable def opC:COp -> CmpOp
 | .lt=>.Lt | .le=>.LtE | .gt=>.Gt | .ge=>.GtE | .eq=>.Eq | .ne=>.NotEq | .inn=>.In | .notin=>.NotIn | .is=>.Is | .isnot=>.IsNot
variable (X G) in
noncomputable def qMq (op:COp):R2:=fun x y H Q=>∃ φ h xa ya b,Rl X.K G φ h H/\rv φ xa x/\rv φ ya y/\qHn op xa ya h=some b/\Q (.bl b) H
theorem qE5 {φ:List Addr} {x y:V} (r:rv φ x y):decide (x=V.non)=decide (y=V.non):=by
 by_cases hx:x=V.non
 ·subst hx;cases qAz r;rfl
 ·have hy:y≠V.non:=fun hy=>by subst hy;cases x<;>first | exact hx rfl | exact False.elim r
  rw [decide_eq_false hx,decide_eq_false hy]
theorem qHY (kvs:List (Int×V)) (i:Int):((kvs.map kk).any fun kv=>decide (kv.1=Sum.inl i))=qC9 kvs i:=by
 unfold qC9
 rw [List.any_map]
 congr 1
 funext p
 show decide ((Sum.inl p.1:L2.Key)=Sum.inl i)=_
 rw [Bool.eq_iff_iff]
 simp
theorem qKB (kvs:List (Int×V)) (i:Int) (v:V):L2.putK (kvs.map kk) (Sum.inl i:L2.Key) v=(qBz kvs i v).map kk:=by
 unfold L2.putK qBz
 rw [qHY]
 split
 ·rw [List.map_map,List.map_map]
  congr 1
  funext p
  show (if (Sum.inl p.1:L2.Key)=Sum.inl i then ((Sum.inl p.1:L2.Key),v) else kk p)=kk (if p.1=i then (p.1,v) else p)
  by_cases h:p.1=i
  ·rw [if_pos (by rw [h]),if_pos h];rfl
  ·rw [if_neg (fun z=>h (Sum.inl.inj z)),if_neg h]
 ·rw [List.map_append];rfl
theorem qCB (hu:X.A.units + 8 < cLine):∀ op,OpR X (compareOp (opC op)) (qMq X G op):=by
 intro op pins s σ H x y v u Q I rx ry ⟨φ,h,xa,ya,b,R,r1,r2,e,q⟩
 have hin:∀ (neg:Bool) {p:Nat} {ya':V} (e:(match items h p with | some xs=>if flat xa&&xs.all flat then some (if neg then !(xs.any fun y=>L2.eqV y xa) else xs.any fun y=>L2.eqV y xa) else none | none=>none)=some b),rv φ (.ref p) y -> L2.rIn X.K neg x y H Q:=by
  intro neg p ya' e r2
  split at e
  ·rename_i xs ex
   split at e
   ·rename_i hf
    simp only [Bool.and_eq_true] at hf
    obtain ⟨a,ys,ha,hs,rs⟩:=R.its ex
    obtain ⟨a',rfl,ha'⟩:=qAN r2
    rw [ha] at ha';cases ha'
    have e1:=qEj hf.1 r1
    have e2:=qCO hf.2 rs
    subst e1 e2
    refine ⟨a,ys,rfl,hs,by rw [qFW];exact hf.1,by rw [qHA];exact hf.2,?_⟩
    cases e
    exact q
   ·cases e
  ·cases e
 cases op with
 | lt=>
  replace e:=qCQ e
  obtain ⟨i,j,rfl,rfl,rfl⟩:=e
  cases qAC r1;cases qAC r2
  exact L2.op_lt pins s σ H _ _ v u Q I rx ry ⟨_,_,rfl,rfl,q⟩
 | le=>
  replace e:=qCQ e
  obtain ⟨i,j,rfl,rfl,rfl⟩:=e
  cases qAC r1;cases qAC r2
  exact L2.op_le pins s σ H _ _ v u Q I rx ry ⟨_,_,rfl,rfl,q⟩
 | gt=>
  replace e:=qCQ e
  obtain ⟨i,j,rfl,rfl,rfl⟩:=e
  cases qAC r1;cases qAC r2
  exact L2.op_gt pins s σ H _ _ v u Q I rx ry ⟨_,_,rfl,rfl,q⟩
 | ge=>
  replace e:=qCQ e
  obtain ⟨i,j,rfl,rfl,rfl⟩:=e
  cases qAC r1;cases qAC r2
  exact L2.op_ge pins s σ H _ _ v u Q I rx ry ⟨_,_,rfl,rfl,q⟩
 | eq=>exact (qGg I R 4 (by omega) (show eqD h 4 xa ya=some b from e) r1 r2 rx ry).rc _ _ _ _ ⟨.bl b,H,I,rfl,q⟩
 | ne=>
  have e':(eqD h 4 xa ya).map (!·)=some b:=e
  obtain ⟨c,e1,rfl⟩:=Option.map_eq_some_iff.mp e'
  exact (qGg I R 4 (by omega) e1 r1 r2 rx ry).ne _ _ _ _ ⟨.bl (!c),H,I,rfl,q⟩
 | inn=>
  replace e:=qFN e
  obtain ⟨p,rfl,e⟩:=e
  cases ei:items h p with
  | some xs=>exact L2.op_in_seq pins s σ H x y v u Q I rx ry (hin false (ya':=.non) (by rw [ei] at e ⊢;exact e) r2)
  | none=>
   rw [ei] at e
   dsimp only at e
   split at e
   ·rename_i kvs ed
    split at e
    ·rename_i i
     cases e
     obtain ⟨a,ea,_,hH⟩:=R.dct ed
     obtain ⟨a',rfl,ha'⟩:=qAN r2
     rw [ea] at ha';cases ha'
     cases qAC r1
     cases ry
     refine L2.d_in (by omega) I (L2.DGet.k (k:=.inl i) hH) rx fun s' I'=>⟨.bl (L2.valV (kvs.map kk) (Sum.inl i)).isSome,H,I',rfl,?_⟩
     rw [<- L2.valV_any,qHY]
     exact q
    ·cases e
   ·cases e
 | notin=>
  replace e:=qFN e
  obtain ⟨p,rfl,e⟩:=e
  exact L2.op_notIn_seq pins s σ H x y v u Q I rx ry (hin true (ya':=.non) (by exact e) r2)
 | is=>
  rcases qHX (show isC xa ya id=some b from e) with ⟨rfl,rfl⟩ | ⟨c,d,rfl,rfl,rfl⟩
  ·cases qAz r2
   rw [qE5 r1] at q
   exact L2.op_isN pins s σ H x _ v u Q I rx ry ⟨rfl,q⟩
  ·cases qA8 r1;cases qA8 r2
   cases (show v=Value.bool c from rx);cases (show u=Value.bool d from ry)
   exact PySem.wpAny_is_plain rfl ⟨.bl (c==d),H,I,(by cases c<;>cases d<;>rfl),q⟩
 | isnot=>
  rcases qHX (show isC xa ya (!·)=some b from e) with ⟨rfl,rfl⟩ | ⟨c,d,rfl,rfl,rfl⟩
  ·cases qAz r2
   rw [qE5 r1] at q
   exact L2.op_notN pins s σ H x _ v u Q I rx ry ⟨rfl,q⟩
  ·cases qA8 r1;cases qA8 r2
   cases (show v=Value.bool c from rx);cases (show u=Value.bool d from ry)
   exact PySem.wpAny_isNot_plain rfl ⟨.bl (!(c==d)),H,I,(by cases c<;>cases d<;>rfl),q⟩
theorem qFk:∀ {bs:List Bool} {us:List Value},Vals (bs.map V.bl) us -> LSm.BoolsAre us bs
 | [],_,.nil=>.nil
 | b::bs,u::us,.cons r t=>by
  cases (show u=Value.bool b from r)
  exact .cons b (qFk t)
theorem qF3 {A:Around} {E:Value -> Shared -> Prop} {prog:Program} {w:World} {s:Shared} {l:Addr} {vs:List Value} {bs:List Bool} {Q:Value -> Shared -> Prop} (hh:A.handled=none) (hl:s.heap.IsList l vs.toArray) (hb:LSm.BoolsAre vs bs)
  (h:∀ h' tk,(∀ b x,s.heap.get? b=some x -> h'.get? b=some x) -> Q (.bool (bs.all id)) { s with heap:=h',toks:=tk }):wpAny (model prog w) A (call (.builtin "all") [.ref l]) Q E s:=by
 have hlt:l < s.heap.objs.size:=by obtain ⟨_,e,_⟩:=hl;exact Heap.lt_size e
 refine call_all_walk (wpAny_pyIter_list hl ?_)
 refine ⟨s.heap.objs.size,[s.heap.objs.size,l],[s.heap.objs.size],vs.toArray.size,_,_,fun i=>(bs[i]?).getD true,rfl,Walks.list (A:=A.in1) hh _ l (Nat.ne_of_lt hlt) vs.toArray,
  ⟨⟨_,Heap.get?_push_size _ rfl,rfl,rfl⟩,hl.push _⟩,fun i v s' Q' E' hP hQ=>?_,fun h' tk hk=>?_⟩
 ·obtain ⟨b,e,rfl⟩:=hb.get i v (by simpa using hP)
  simp only [e,Option.getD_some] at hQ
  exact wpAny_truthy_bool hQ
 ·have e:((List.range vs.toArray.size).all fun i=>(bs[i]?).getD true)=bs.all id:=by
   rw [List.size_toArray,hb.length];exact LSm.range_all bs
  rw [e]
  exact h h' tk (LSm.kept_iter hk)
theorem qB9:∀ {xs:List V} {is:List Int},qBL xs=some is -> xs=is.map V.int
 | [],is,e=>by cases e;rfl
 | .int i::r,is,e=>by
  simp only [qBL] at e
  obtain ⟨js,e1,rfl⟩:=Option.map_eq_some_iff.mp e
  rw [qB9 e1]
  rfl
 | .non::_,_,e=>by cases e
 | .bl _::_,_,e=>by cases e
 | .str _::_,_,e=>by cases e
 | .ref _::_,_,e=>by cases e
 | .byt _::_,_,e=>by cases e
 | .flt _::_,_,e=>by cases e
 | .ty _::_,_,e=>by cases e
theorem qCm:∀ {xs:List V} {is:List Bool},qB7 xs=some is -> xs=is.map V.bl
 | [],is,e=>by cases e;rfl
 | .bl i::r,is,e=>by
  simp only [qB7] at e
  obtain ⟨js,e1,rfl⟩:=Option.map_eq_some_iff.mp e
  rw [qCm e1]
  rfl
 | .non::_,_,e=>by cases e
 | .int _::_,_,e=>by cases e
 | .str _::_,_,e=>by cases e
 | .ref _::_,_,e=>by cases e
 | .byt _::_,_,e=>by cases e
 | .flt _::_,_,e=>by cases e
 | .ty _::_,_,e=>by cases e
theorem qBv:∀ {us:List Value} {ns:List Int},IntsAre us ns -> Vals (ns.map V.int) us
 | _,_,.nil=>.nil
 | _,_,.cons n t r=>.cons ⟨_,rfl⟩ (qBv r)
theorem qEK (is:List Int):(is.map V.int).all flat=true:=by simp [flat]
theorem qFz (is:List Bool):(is.map V.bl).all flat=true:=by simp [flat]
noncomputable def fnB:BF -> Value
 | .len=>.builtin "len" | .all=>.builtin "all" | .max=>.builtin "max" | .min=>.builtin "min"
 | .list=>.type "list" | .tuple=>.type "tuple" | .repr=>.builtin "repr" | .bits=>.builtin "int.bit_length"
variable (X G) in
noncomputable def qNl (f:BF):List V -> Hp -> VK -> Prop:=fun xs H Q=>∃ φ h ws v h',Rl X.K G φ h H/\rvs φ ws xs/\qKn f ws h=.ok (v,h')/\∀ φ' H' w,Ext φ φ' -> Rl X.K G φ' h' H' -> rv φ' v w -> Q w H'
theorem qGr {φ:List Addr} {hp:Heap} {x v:V} {u:Value} {d:PyData} (e:qKE x=some d) (r:rv φ x v) (ru:RelV v u):(∃ as,Reads hp u d as)/\d.hasDict=false/\d.depth<=0:=by
 unfold qKE at e
 split at e
 ·cases e;cases qAz r;cases (show u=Value.none from ru);exact ⟨⟨_,.none⟩,rfl,Nat.le_refl _⟩
 ·cases e;cases qA8 r;cases (show u=Value.bool _ from ru);exact ⟨⟨_,.bool _⟩,rfl,Nat.le_refl _⟩
 ·cases e;cases qAC r;obtain ⟨t,rfl⟩:=ru;exact ⟨⟨_,.int _ _⟩,rfl,Nat.le_refl _⟩
 ·cases e;cases qBA r;obtain ⟨t,rfl⟩:=ru;exact ⟨⟨_,.str _ _⟩,rfl,Nat.le_refl _⟩
 ·cases e
noncomputable def DR (P:Program) (W:World) (h:Heap) (n:Nat) (u:Value) (d:PyData):Prop:=(∃ as,Reads h u d as)/\d.depth<=n/\(d.showable=true -> d.shown.length<=sizeLine -> ∃ bs,ReadAtMost h d.depth bs/\ReprK P W bs h d.depth u d.shown)
noncomputable def DRs (P:Program) (W:World) (h:Heap) (n:Nat) (us:List Value) (ds:List PyData):Prop:=(∃ as,ReadsAll h us ds as)/\PyData.depthAll ds<=n/\(PyData.showableAll ds=true -> (∀ t∈PyData.shownAll ds,t.length<=sizeLine) -> ∃ bs,ReadAtMost h (PyData.depthAll ds) bs/\ReprAllK P W bs h (PyData.depthAll ds) us (PyData.shownAll ds))
theorem DR.flat {P:Program} {W:World} {hp:Heap} {n:Nat} {u:Value} {d:PyData} (q:(∃ as,Reads hp u d as)/\d.hasDict=false/\d.depth<=0):DR P W hp n u d:=by
 obtain ⟨⟨as,q1⟩,q2,q3⟩:=q
 exact ⟨⟨as,q1⟩,by omega,fun hs hz=>ReprK.of_reads q1 hs (fun z=>by rw [q2] at z;cases z) hz⟩
theorem qCe {P:Program} {W:World} {φ:List Addr} {hp:Heap} {n:Nat} {f:V -> Option PyData} (hf:∀ x v u d,f x=some d -> rv φ x v -> RelV v u -> DR P W hp n u d):∀ (xs ys:List V) (us:List Value) (ds:List PyData),qGD f xs=some ds -> rvs φ xs ys -> Vals ys us -> DRs P W hp n us ds
 | [],ys,us,ds,e,r,ru=>by
  cases e;cases r;cases ru
  exact ⟨⟨_,.nil⟩,Nat.zero_le _,fun _ _=>⟨[],(fun _ h=>nomatch h),by simp only [PyData.shownAll];exact .nil⟩⟩
 | x::xs,ys,us,ds,e,r,ru=>by
  unfold qGD at e
  obtain ⟨d,e1,e⟩:=Option.bind_eq_some_iff.mp e
  obtain ⟨ds',e2,rfl⟩:=Option.map_eq_some_iff.mp e
  cases r with
  | cons r1 r2=>
   cases ru with
   | cons u1 u2=>
    obtain ⟨⟨as,q1⟩,q3,q2⟩:=hf _ _ _ _ e1 r1 u1
    obtain ⟨⟨bs,p1⟩,p2,p3⟩:=qCe hf xs _ _ ds' e2 r2 u2
    refine ⟨⟨_,.cons q1 p1⟩,Nat.max_le.mpr ⟨q3,p2⟩,fun hs hz=>?_⟩
    have hs':d.showable=true/\PyData.showableAll ds'=true:=by simpa [PyData.showableAll] using hs
    obtain ⟨b1,hb1,k1⟩:=q2 hs'.1 (hz _ (by simp only [PyData.shownAll];exact List.mem_cons_self ..))
    obtain ⟨b2,hb2,k2⟩:=p3 hs'.2 (fun t ht=>hz t (by simp only [PyData.shownAll];exact List.mem_cons_of_mem _ ht))
    refine ⟨b1++b2,?_,?_⟩
    ·intro b hm
     simp only [PyData.depthAll]
     rcases List.mem_append.mp hm with hm | hm
     ·obtain ⟨d',as',r',hd'⟩:=hb1 b hm
      exact ⟨d',as',r',Nat.le_trans hd' (Nat.le_max_left _ _)⟩
     ·obtain ⟨d',as',r',hd'⟩:=hb2 b hm
      exact ⟨d',as',r',Nat.le_trans hd' (Nat.le_max_right _ _)⟩
    ·simp only [PyData.depthAll,PyData.shownAll]
     exact .cons ((k1.more fun b hb=>List.mem_append_left _ hb).level_le (Nat.le_max_left _ _)) (k2.more_le (fun b hb=>List.mem_append_right _ hb) (Nat.le_max_right _ _))
theorem DRs.list {P:Program} {W:World} {hp:Heap} {n m:Nat} {p:Addr} {o:Obj} {its:List Value} {ds:List PyData} (q:DRs P W hp n its ds) (ho:hp.get? p=some o) (hc:o.cls=.type "list") (hd:o.data=.seq its.toArray m) (hs:PyData.showableAll ds=true) (hz:(listText (PyData.shownAll ds)).length<=sizeLine):
  ∃ bs,ReadAtMost hp (PyData.depthAll ds) bs/\ReprAllK P W bs hp (PyData.depthAll ds) its (PyData.shownAll ds)/\p∉bs:=by
 obtain ⟨⟨as,q1⟩,q2,q3⟩:=q
 obtain ⟨bs,hb,hk⟩:=q3 hs (fun t ht=>Nat.le_trans (listText_mem_le ht) hz)
 exact ⟨bs,hb,hk,not_mem_of_deeper (Reads.list ho hc hd (by simpa using q1)) (by simp only [PyData.depth];omega) hb⟩
theorem DRs.tuple {P:Program} {W:World} {hp:Heap} {n m:Nat} {p:Addr} {o:Obj} {its:List Value} {ds:List PyData} (q:DRs P W hp n its ds) (ho:hp.get? p=some o) (hc:o.cls=.type "tuple") (hd:o.data=.seq its.toArray m) (hs:PyData.showableAll ds=true) (hz:(tupleText (PyData.shownAll ds)).length<=sizeLine):
  ∃ bs,ReadAtMost hp (PyData.depthAll ds) bs/\ReprAllK P W bs hp (PyData.depthAll ds) its (PyData.shownAll ds)/\p∉bs:=by
 obtain ⟨⟨as,q1⟩,q2,q3⟩:=q
 obtain ⟨bs,hb,hk⟩:=q3 hs (fun t ht=>Nat.le_trans (tupleText_mem_le ht) hz)
 exact ⟨bs,hb,hk,not_mem_of_deeper (Reads.tuple ho hc hd (by simpa using q1)) (by simp only [PyData.depth];omega) hb⟩
theorem qI6 {pins:List (Addr×Obj)} {s:Shared} {σ:L2.St} {H:Hp} {φ:List Addr} {h:AH} (I:Inv X pins σ H s) (R:Rl X.K G φ h H) {a:Nat} {p:Addr} (ey:h[a]?=some (.ob (.dct []))) (hp:φ[a]?=some p):∃ as,Reads s.heap (.ref p) (.dict []) as/\sysModules∉as:=by
 obtain ⟨p',hp',hs⟩:=R.at ey
 rw [hp] at hp';cases hp'
 obtain ⟨_,hne,vs,hkv,o,es,ep,h1,h2,h3,h4,h5,h6⟩:=(show L2.ObjOk X.prog X.w H s.heap p (.dK []) from I.hok p _ hs)
 cases hkv
 have he:es.toList=[]:=by cases hh:es.toList with | nil=>rfl | cons a b=>rw [hh] at h5;cases h5
 refine ⟨_,.dict (as:=[]) (bs:=[]) h1 h2.1 h3 (by rw [he];exact .nil) (by rw [he];exact .nil),fun z=>?_⟩
 simp at z
 rw [<- z] at hne
 simp at hne
theorem qFX {pins:List (Addr×Obj)} {s:Shared} {σ:L2.St} {H:Hp} {φ:List Addr} {h:AH} (I:Inv X pins σ H s) (R:Rl X.K G φ h H):∀ (n:Nat) (x v:V) (u:Value) (d:PyData),dat h n x=some d -> rv φ x v -> RelV v u -> DR X.prog X.w s.heap n u d
 | 0,x,v,u,d,e,r,ru=>.flat (qGr e r ru)
 | n + 1,x,v,u,d,e,r,ru=>by
  unfold dat at e
  split at e
  ·rename_i a
   obtain ⟨p,rfl,hp⟩:=qAN r
   cases (show u=Value.ref p from ru)
   split at e
   ·rename_i f xs ey
    obtain ⟨ds,e1,rfl⟩:=Option.map_eq_some_iff.mp e
    obtain ⟨p',zs,hp',hs,rs⟩:=R.lst (show qAL h a=some xs by unfold qAL;rw [ey])
    rw [hp] at hp';cases hp'
    obtain ⟨its,rv',pl,_⟩:=I.list hs
    obtain ⟨o,ho,hc,m,hd⟩:=pl.isList
    have q:=qCe (qFX I R n) xs zs its ds e1 rs rv'
    obtain ⟨⟨as,q1⟩,q2,_⟩:=id q
    refine ⟨⟨_,.list ho hc hd (by simpa using q1)⟩,Nat.succ_le_succ q2,fun hs' hz=>?_⟩
    have hz':(listText (PyData.shownAll ds)).length<=sizeLine:=by simpa only [PyData.shown] using hz
    obtain ⟨bs,hb,hk,hna⟩:=q.list ho hc hd (by simpa [PyData.showable] using hs') hz'
    refine ⟨p::bs,ReadAtMost.cons (Reads.list ho hc hd (by simpa using q1)) (by simp only [PyData.depth];omega) hb,?_⟩
    simp only [PyData.depth,PyData.shown]
    cases its with
    | nil=>
     cases q1
     simp only [PyData.shownAll,listText_nil]
     exact ReprK.listEmpty ho hc hd
    | cons y l=>exact ReprK.list ho hc hd hna (by simpa using hk.length_eq) (fun i y e=>hk.item i y (by simpa using e))
   ·rename_i xs ey
    obtain ⟨ds,e1,rfl⟩:=Option.map_eq_some_iff.mp e
    obtain ⟨p',zs,hp',hs,rs⟩:=R.tup (show qAS h a=some xs by unfold qAS;rw [ey])
    rw [hp] at hp';cases hp'
    obtain ⟨its,rv',pl,_⟩:=I.tuple hs
    obtain ⟨o,ho,hc,m,hd⟩:=pl
    have q:=qCe (qFX I R n) xs zs its ds e1 rs rv'
    obtain ⟨⟨as,q1⟩,q2,_⟩:=id q
    refine ⟨⟨_,.tuple ho hc hd (by simpa using q1)⟩,Nat.succ_le_succ q2,fun hs' hz=>?_⟩
    have hz':(tupleText (PyData.shownAll ds)).length<=sizeLine:=by simpa only [PyData.shown] using hz
    obtain ⟨bs,hb,hk,hna⟩:=q.tuple ho hc hd (by simpa [PyData.showable] using hs') hz'
    refine ⟨p::bs,ReadAtMost.cons (Reads.tuple ho hc hd (by simpa using q1)) (by simp only [PyData.depth];omega) hb,?_⟩
    simp only [PyData.depth,PyData.shown]
    exact ReprK.tuple ho hc hd hna (by simpa using hk)
   ·rename_i ey
    cases e
    obtain ⟨as,q1,q2⟩:=qI6 I R ey hp
    exact ⟨⟨as,q1⟩,Nat.succ_le_succ (Nat.zero_le _),fun hs hz=>ReprK.of_reads q1 hs (fun _=>q2) hz⟩
   ·cases e
  ·exact .flat (qGr e r ru)
theorem qEX (hc:X.calm=true) (hu:X.A.units + 8 < cLine) (hgd:X.A.guards=some []):∀ f,qAp X (fnB f) (qNl X G f):=by
 intro f pins s σ H xs us Q I r ⟨φ,h,ws,v,h',R,rw',e,k⟩
 cases f with
 | len=>
  replace e:=qCA e
  obtain ⟨x0,rfl,e⟩:=e
  replace e:=qBy e
  obtain ⟨a,rfl,e⟩:=e
  split at e
  ·rename_i ys ey
   cases e
   cases rw' with
   | cons r1 t=>
    cases t
    obtain ⟨p,rfl,hp⟩:=qAN r1
    obtain ⟨p',zs,hp',hs,rs⟩:=R.its ey
    rw [hp] at hp';cases hp'
    refine L2.call_len_seq pins s σ H _ us Q I r ⟨p,zs,rfl,hs,?_⟩
    rw [<- Paired.length rs]
    exact k φ H _ (.refl _) R rfl
  ·cases e
 | all=>
  replace e:=qCA e
  obtain ⟨x0,rfl,e⟩:=e
  replace e:=qBy e
  obtain ⟨a,rfl,e⟩:=e
  split at e
  ·rename_i ys ey
   split at e
   ·rename_i is ei
    cases e
    cases rw' with
    | cons r1 t=>
     cases t
     obtain ⟨p,rfl,hp⟩:=qAN r1
     obtain ⟨p',zs,hp',hs,rs⟩:=R.lst ey
     rw [hp] at hp';cases hp'
     have hm:=qCm ei
     subst hm
     have hz:=qCO (qFz is) rs
     subst hz
     obtain ⟨its,rv',pl,_⟩:=I.list hs
     obtain ⟨u,rfl,ru⟩:=L2.vals1 r
     cases ru
     exact qF3 (I.ok.hd hc) pl.isList (qFk rv') fun h1 tk hk=>⟨.bl (is.all id),H,I.kept hk,rfl,k φ H _ (.refl _) R rfl⟩
   ·cases e
  ·cases e
 | max=>
  replace e:=two_inv e
  obtain ⟨x0,y0,rfl,e⟩:=e
  replace e:=qAy e
  obtain ⟨i,j,rfl,rfl,e⟩:=e
  cases e
  cases rw' with
  | cons r1 t=>
   cases t with
   | cons r2 t=>
    cases t
    cases qAC r1;cases qAC r2
    exact L2.call_max2 hc pins s σ H _ us Q I r ⟨_,_,rfl,k φ H _ (.refl _) R rfl⟩
 | min=>
  replace e:=two_inv e
  obtain ⟨x0,y0,rfl,e⟩:=e
  replace e:=qAy e
  obtain ⟨i,j,rfl,rfl,e⟩:=e
  cases e
  cases rw' with
  | cons r1 t=>
   cases t with
   | cons r2 t=>
    cases t
    cases qAC r1;cases qAC r2
    exact L2.call_min2 hc pins s σ H _ us Q I r ⟨_,_,rfl,k φ H _ (.refl _) R rfl⟩
 | bits=>
  replace e:=qCA e
  obtain ⟨x0,rfl,e⟩:=e
  split at e
  ·cases e
   cases rw' with
   | cons r1 t=>
    cases t
    cases qAC r1
    obtain ⟨u,rfl,ru⟩:=L2.vals1 r
    obtain ⟨t,rfl⟩:=ru
    rename_i j
    exact call_int_bit_length ⟨.int ((Builtin.Int.intBits j:Nat):Int),H,I.tok _,⟨_,rfl⟩,k φ H _ (.refl _) R rfl⟩
  ·cases e
 | list=>
  replace e:=qCA e
  obtain ⟨x0,rfl,e⟩:=e
  replace e:=qBy e
  obtain ⟨a,rfl,e⟩:=e
  split at e
  ·rename_i ys ey
   cases e
   cases rw' with
   | cons r1 t=>
    cases t
    obtain ⟨p,rfl,hp⟩:=qAN r1
    obtain ⟨p',zs,hp',hs,rs⟩:=R.its ey
    rw [hp] at hp';cases hp'
    exact L2.call_list_of pins s σ H _ us Q I r ⟨p,zs,rfl,hs,fun l hl=>k (φ++[l]) _ _ ⟨[l],rfl⟩ (R.newL hl rs) R.lastRef⟩
  ·cases e
 | tuple=>
  replace e:=qCA e
  obtain ⟨x0,rfl,e⟩:=e
  replace e:=qBy e
  obtain ⟨a,rfl,e⟩:=e
  split at e
  ·rename_i fz ys ey
   cases e
   cases rw' with
   | cons r1 t=>
    cases t
    obtain ⟨p,rfl,hp⟩:=qAN r1
    obtain ⟨p',zs,hp',hs,rs⟩:=R.lst (i:=_) (xs:=ys) (by unfold qAL;rw [ey])
    rw [hp] at hp';cases hp'
    exact L2.call_tuple_of pins s σ H _ us Q I r ⟨p,zs,rfl,.inl ⟨hs,fun l hl=>k (φ++[l]) _ _ ⟨[l],rfl⟩ (R.newT hl rs) R.lastRef⟩⟩
  ·rename_i ys ey
   cases e
   cases rw' with
   | cons r1 t=>
    cases t
    obtain ⟨p,rfl,hp⟩:=qAN r1
    obtain ⟨p',zs,hp',hs,rs⟩:=R.tup (i:=_) (xs:=ys) (by unfold qAS;rw [ey])
    rw [hp] at hp';cases hp'
    exact L2.call_tuple_of pins s σ H _ us Q I r ⟨p,zs,rfl,.inr ⟨hs,k φ H _ (.refl _) R hp⟩⟩
  ·cases e
 | repr=>
  replace e:=qCA e
  obtain ⟨x0,rfl,e⟩:=e
  unfold qLM at e
  split at e
  ·rename_i v0 ev0
   cases e
   obtain ⟨d,e1,e2⟩:=Option.bind_eq_some_iff.mp ev0
   unfold qGH at e2
   split at e2
   ·rename_i hsh
    cases e2
    cases rw' with
    | cons r1 t=>
     cases t
     obtain ⟨u,rfl,ru⟩:=L2.vals1 r
     cases x0 with
     | ref a=>
      obtain ⟨p,rfl,hp⟩:=qAN r1
      cases (show u=Value.ref p from ru)
      unfold qNH dat at e1
      dsimp only at e1
      split at e1
      ·rename_i f xs ey
       obtain ⟨ds,e2,rfl⟩:=Option.map_eq_some_iff.mp e1
       obtain ⟨p',zs,hp',hs,rs⟩:=R.lst (show qAL h a=some xs by unfold qAL;rw [ey])
       rw [hp] at hp';cases hp'
       obtain ⟨its,rv',pl,_⟩:=I.list hs
       obtain ⟨o,ho,hc',m,hd⟩:=pl.isList
       have q:=qCe (qFX I R 3) xs zs its ds e2 rs rv'
       have q2:=q.2.1
       have hz':(listText (PyData.shownAll ds)).length<=sizeLine:=by simpa only [PyData.shown] using hsh.2
       obtain ⟨bs,hb,hk,hna⟩:=q.list ho hc' hd (by simpa [PyData.showable] using hsh.1) hz'
       cases its with
       | nil=>
        obtain ⟨⟨as,q1⟩,_,_⟩:=q
        cases q1
        refine call_repr_slot (by omega) ⟨o,ho,hc'⟩ F.slot_list_repr.toG (call_list_repr_empty ⟨o,ho,hc'⟩ ho hd ⟨_,_,rfl,?_⟩)
        exact ⟨.str (PyData.shown (.list [])),H,I.tok _,⟨s.toks,by simp only [PyData.shown,PyData.shownAll,listText_nil]⟩,k φ H _ (.refl _) R rfl⟩
       | cons y l=>
        refine call_repr_slot (by omega) ⟨o,ho,hc'⟩ F.slot_list_repr.toG (call_list_reprK ho hc' hd hna (by simpa using hk.length_eq) (fun i y e=>hk.item i y (by simpa using e)) hgd (fun b _=>Clear.nil b) (by show X.A.units + 1 + _ < cLine;omega) (fun _ _ e=>e) (fun h1 u tk hk=>⟨_,_,rfl,?_⟩) hz')
        exact ⟨.str (PyData.shown (.list ds)),H,I.kept hk,⟨u,by simp only [PyData.shown]⟩,k φ H _ (.refl _) R rfl⟩
      ·rename_i ws ey
       obtain ⟨ds,e2,rfl⟩:=Option.map_eq_some_iff.mp e1
       obtain ⟨p',zs,hp',hs,rs⟩:=R.tup (show qAS h a=some ws by unfold qAS;rw [ey])
       rw [hp] at hp';cases hp'
       obtain ⟨its,rv',pl,_⟩:=I.tuple hs
       obtain ⟨o,ho,hc',m,hd⟩:=pl
       have q:=qCe (qFX I R 3) ws zs its ds e2 rs rv'
       have q2:=q.2.1
       have hz':(tupleText (PyData.shownAll ds)).length<=sizeLine:=by simpa only [PyData.shown] using hsh.2
       obtain ⟨bs,hb,hk,hna⟩:=q.tuple ho hc' hd (by simpa [PyData.showable] using hsh.1) hz'
       refine call_repr_slot (by omega) ⟨o,ho,hc'⟩ F.slot_tuple_repr (call_tuple_reprK ho hc' hd hna (by simpa using hk) hgd (fun b _=>Clear.nil b) (by show X.A.units + 1 + _ < cLine;omega) (fun _ _ e=>e) (fun h1 u tk hk=>⟨_,_,rfl,?_⟩) hz')
       exact ⟨.str (PyData.shown (.tuple ds)),H,I.kept hk,⟨u,by simp only [PyData.shown]⟩,k φ H _ (.refl _) R rfl⟩
      ·rename_i ey
       cases e1
       obtain ⟨as,q1,q2⟩:=qI6 I R ey hp
       refine repr_of_reads' q1 hsh.1 (fun _=>q2) hgd (by show X.A.units + (1 + 1) < cLine;omega) (fun b o e=>e) (fun h1 u tk hk=>?_) hsh.2
       exact ⟨.str (PyData.shown (.dict [])),H,I.kept hk,⟨_,rfl⟩,k φ H _ (.refl _) R rfl⟩
      ·cases e1
     | non=>
      cases e1;cases qAz r1;cases (show u=Value.none from ru)
      exact PySem.P.repr_of_none ⟨.str (PyData.shown .none),H,I.tok _,⟨_,rfl⟩,k φ H _ (.refl _) R rfl⟩
     | bl b=>
      cases e1;cases qA8 r1;cases (show u=Value.bool b from ru)
      exact PySem.P.repr_of_bool ⟨.str (PyData.shown (.bool b)),H,I.tok _,⟨_,by cases b<;>rfl⟩,k φ H _ (.refl _) R rfl⟩
     | int i=>
      cases e1;cases qAC r1;obtain ⟨tt,rfl⟩:=ru
      exact PySem.P.repr_of_int (of_decide_eq_true hsh.1) ⟨.str (PyData.shown (.int i)),H,I.tok _,⟨_,rfl⟩,k φ H _ (.refl _) R rfl⟩
     | str x=>
      cases e1;cases qBA r1;obtain ⟨tt,rfl⟩:=ru
      exact PySem.P.repr_of_str ⟨.str (PyData.shown (.str x)),H,I.tok _,⟨_,rfl⟩,k φ H _ (.refl _) R rfl⟩ hsh.2
     | _=>cases e1
   ·cases e2
  ·cases e
end
end PI
namespace PI
open PySem PySem.SeqAt
open AutoSeq1 (wpAny_loadPart')
open MeetsSeq MeetsSeq2 MeetsSeq3 SeqRoads2
end PI
namespace PI
open PySem PySem.Spec PyProof.Rows PySem.SeqAt
open L2 (V Hp HO Cx PE PT PA PS PSs PG PW TE TT TA TS VK upd qAI qAM SqL SqT qEx Inv RelV Vals EP TP AP SP OpR qAp R2)
theorem qBl {r:RV} {b:Bool} {h:AH} (e:asB r=.ok (b,h)):r=.ok (.bl b,h):=by
 unfold asB at e
 obtain ⟨⟨v,h1⟩,e1,e2⟩:=Res.bind_inv e
 dsimp only at e2
 split at e2
 ·cases e2;exact e1
 ·cases e2
theorem qIm {r:RV} {b:Bool} {h:AH} (e:r=.ok (.bl b,h)):asB r=.ok (b,h):=by
 subst e
 rfl
section
variable {X:Cx} {G:List Addr} {F:Nat -> List V -> AH -> RV} {a b c:E} {as:Es} {ea eb ec:Expr} {es:List Expr} {pos:Pos}
theorem qDw {K:PySem.W.Frag} {σ:St} {H:Hp} {Q:Bool -> Hp -> Prop} (q:tT K G F a σ H Q):tE K G F a σ H (fun x H'=>∃ k,x=.bl k/\Q k H'):=by
 obtain ⟨φ,h,σa,b,h',R,rs,e,k⟩:=q
 exact ⟨φ,h,σa,.bl b,h',R,rs,qBl e,fun φ' H' w x' R' r'=>⟨b,qA8 r',k φ' H' x' R'⟩⟩
theorem qAQ (h:SE X G F ea a) (he:∀ whole,isTrue ea X.env whole=(do let v <- whole;standAt ea.pos;holding [v] (truthy v))):ST X G F ea a:=
 qIC (L2.pt_val h he) fun _ _ _ q=>qDw q
theorem qIt {op:COp} {σc:St} {H:Hp} {Q:VK} (q:tE X.K G F (.cmp op a b) σc H Q):L2.tOp (qMq X G op) (tE X.K G F a) (tE X.K G F b) σc H Q:=by
 obtain ⟨φ,h,σ,v,h',R,rs,e,k⟩:=q
 unfold ev at e
 obtain ⟨⟨x,h1⟩,e1,e⟩:=Res.bind_inv e
 obtain ⟨⟨y,h2⟩,e2,e⟩:=Res.bind_inv e
 refine qDa R rs e1 e2 fun φ2 H2 xc yc x2 R2 r1 r2=>?_
 unfold qHf at e
 dsimp only at e
 split at e
 ·rename_i t et
  cases e
  exact ⟨φ2,_,x,y,t,R2,r1,r2,et,k φ2 H2 _ x2 R2 rfl⟩
 ·cases e
theorem qLQ {op:COp} (hu:X.A.units + 8 < cLine) (ha:SE X G F ea a) (hb:SE X G F eb b) (hm:behindInMarks (opC op) eb=false):SE X G F (.Compare ea [opC op] [eb] pos) (.cmp op a b):=
 qAj (L2.pe_cmpR (qCB hu op) ha hb hm) fun _ _ _=>qIt
theorem qLB {op:COp} (hu:X.A.units + 8 < cLine) (ha:SE X G F ea a) (hb:SE X G F eb b) (hm:behindInMarks (opC op) eb=false):ST X G F (.Compare ea [opC op] [eb] pos) (.cmp op a b):=
 qIC (L2.pt_cmpR (qCB hu op) ha hb hm) fun _ _ _ q=>qIt (qDw q)
theorem qFR {o1 o2:COp} {σc:St} {H:Hp} {Q:VK} (q:tE X.K G F (.cmp2 o1 o2 a b c) σc H Q):L2.tChain (qMq X G o1) (qMq X G o2) (tE X.K G F a) (tE X.K G F b) (tE X.K G F c) σc H Q:=by
 obtain ⟨φ,h,σ,v,h',R,rs,e,k⟩:=q
 unfold ev at e
 obtain ⟨⟨x,h1⟩,e1,e⟩:=Res.bind_inv e
 obtain ⟨⟨y,h2⟩,e2,e⟩:=Res.bind_inv e
 refine qDa R rs e1 e2 fun φ2 H2 xc yc x2 R2 r1 r2=>?_
 dsimp only at e
 split at e
 ·rename_i et
  refine ⟨φ2,_,x,y,true,R2,r1,r2,et,true,rfl,?_⟩
  rw [if_pos rfl]
  obtain ⟨⟨z,h3⟩,e3,e⟩:=Res.bind_inv e
  refine ⟨φ2,_,σ,z,h3,R2,rst.mono x2 rs,e3,fun φ3 H3 zc x3 R3 r3=>?_⟩
  unfold qHf at e
  dsimp only at e
  split at e
  ·rename_i t et
   cases e
   exact ⟨φ3,_,y,z,t,R3,rv.mono x3 r2,r3,et,k φ3 H3 _ (x2.trans x3) R3 rfl⟩
  ·cases e
 ·rename_i et
  cases e
  refine ⟨φ2,_,x,y,false,R2,r1,r2,et,false,rfl,?_⟩
  rw [if_neg (by decide)]
  exact k φ2 H2 _ x2 R2 rfl
 ·cases e
theorem qHj {o1 o2:COp} (hu:X.A.units + 8 < cLine) (ha:SE X G F ea a) (hb:SE X G F eb b) (hc:SE X G F ec c) (hm:lastMarks [opC o1,opC o2] [eb,ec]=false):SE X G F (.Compare ea [opC o1,opC o2] [eb,ec] pos) (.cmp2 o1 o2 a b c):=
 qAj (L2.pe_chain (qCB hu o1) (qCB hu o2) ha hb hc hm) fun _ _ _=>qFR
theorem qHk {o1 o2:COp} (hu:X.A.units + 8 < cLine) (ha:SE X G F ea a) (hb:SE X G F eb b) (hc:SE X G F ec c) (hm:lastMarks [opC o1,opC o2] [eb,ec]=false):ST X G F (.Compare ea [opC o1,opC o2] [eb,ec] pos) (.cmp2 o1 o2 a b c):=
 qIC (L2.pt_chain (qCB hu o1) (qCB hu o2) ha hb hc hm) fun _ _ _ q=>qFR (qDw q)
section
open L2
end
theorem qKJ {σc:St} {H:Hp} {Q:VK} (q:tE X.K G F (.and a b) σc H Q):L2.tAndV (tE X.K G F a) (tE X.K G F b) σc H Q:=by
 obtain ⟨φ,h,σ,v,h',R,rs,e,k⟩:=q
 unfold ev at e
 obtain ⟨⟨x,h1⟩,e1,e⟩:=Res.bind_inv e
 refine ⟨φ,h,σ,.bl x,h1,R,rs,qBl e1,fun φ1 H1 w x1 R1 r1=>⟨x,qA8 r1,?_⟩⟩
 dsimp only at e
 cases x with
 | true=>
  rw [if_pos rfl] at e ⊢
  exact ⟨φ1,h1,σ,v,h',R1,rst.mono x1 rs,e,fun φ2 H2 w2 x2 R2 r2=>k φ2 H2 w2 (x1.trans x2) R2 r2⟩
 | false=>
  rw [if_neg (by decide)] at e ⊢
  cases e
  exact k φ1 H1 _ x1 R1 rfl
theorem qMc {σc:St} {H:Hp} {Q:VK} (q:tE X.K G F (.or a b) σc H Q):L2.tOrV (tE X.K G F a) (tE X.K G F b) σc H Q:=by
 obtain ⟨φ,h,σ,v,h',R,rs,e,k⟩:=q
 unfold ev at e
 obtain ⟨⟨x,h1⟩,e1,e⟩:=Res.bind_inv e
 refine ⟨φ,h,σ,.bl x,h1,R,rs,qBl e1,fun φ1 H1 w x1 R1 r1=>⟨x,qA8 r1,?_⟩⟩
 dsimp only at e
 cases x with
 | false=>
  rw [if_neg (by decide)] at e ⊢
  exact ⟨φ1,h1,σ,v,h',R1,rst.mono x1 rs,e,fun φ2 H2 w2 x2 R2 r2=>k φ2 H2 w2 (x1.trans x2) R2 r2⟩
 | true=>
  rw [if_pos rfl] at e ⊢
  cases e
  exact k φ1 H1 _ x1 R1 rfl
theorem qLw {σc:St} {H:Hp} {Q:Bool -> Hp -> Prop} (q:tT X.K G F (.and a b) σc H Q):L2.tAnd (tT X.K G F a) (tT X.K G F b) σc H Q:=by
 obtain ⟨φ,h,σ,t,h',R,rs,e,k⟩:=q
 have e:=qBl e
 unfold ev at e
 obtain ⟨⟨x,h1⟩,e1,e⟩:=Res.bind_inv e
 refine ⟨φ,h,σ,x,h1,R,rs,e1,fun φ1 H1 x1 R1=>?_⟩
 dsimp only at e
 cases x with
 | true=>
  rw [if_pos rfl] at e ⊢
  exact ⟨φ1,h1,σ,t,h',R1,rst.mono x1 rs,qIm e,fun φ2 H2 x2 R2=>k φ2 H2 (x1.trans x2) R2⟩
 | false=>
  rw [if_neg (by decide)] at e ⊢
  cases e
  exact k φ1 H1 x1 R1
theorem qM2 {σc:St} {H:Hp} {Q:Bool -> Hp -> Prop} (q:tT X.K G F (.or a b) σc H Q):L2.tOr (tT X.K G F a) (tT X.K G F b) σc H Q:=by
 obtain ⟨φ,h,σ,t,h',R,rs,e,k⟩:=q
 have e:=qBl e
 unfold ev at e
 obtain ⟨⟨x,h1⟩,e1,e⟩:=Res.bind_inv e
 refine ⟨φ,h,σ,x,h1,R,rs,e1,fun φ1 H1 x1 R1=>?_⟩
 dsimp only at e
 cases x with
 | false=>
  rw [if_neg (by decide)] at e ⊢
  exact ⟨φ1,h1,σ,t,h',R1,rst.mono x1 rs,qIm e,fun φ2 H2 x2 R2=>k φ2 H2 (x1.trans x2) R2⟩
 | true=>
  rw [if_pos rfl] at e ⊢
  cases e
  exact k φ1 H1 x1 R1
variable (X G F) in
noncomputable abbrev SW (e:Expr) (a:E):Prop:=PW X e (tT X.K G F a)
theorem qLy {e:Expr} {t t':TT} (h:PW X e t) (w:∀ σ H Q,t' σ H Q -> t σ H Q):PW X e t':=fun wh pins s σ H Q I q=>h wh pins s σ H Q I (w σ H Q q)
theorem qMG {qB6:List Expr} (ha:SE X G F ea a) (hb:SE X G F (.BoolOp .And (eb::qB6) pos) b):SE X G F (.BoolOp .And (ea::eb::qB6) pos) (.and a b):=qAj (L2.pe_and ha hb) fun _ _ _=>qKJ
theorem qNQ {qB6:List Expr} (ha:SE X G F ea a) (hb:SE X G F (.BoolOp .Or (eb::qB6) pos) b):SE X G F (.BoolOp .Or (ea::eb::qB6) pos) (.or a b):=qAj (L2.pe_or ha hb) fun _ _ _=>qMc
theorem qLt {qB6:List Expr} (ha:ST X G F ea a) (hb:SW X G F (.BoolOp .And (eb::qB6) pos) b):SW X G F (.BoolOp .And (ea::eb::qB6) pos) (.and a b):=qLy (L2.pw_and ha hb) fun _ _ _=>qLw
theorem qMx {qB6:List Expr} (ha:ST X G F ea a) (hb:SW X G F (.BoolOp .Or (eb::qB6) pos) b):SW X G F (.BoolOp .Or (ea::eb::qB6) pos) (.or a b):=qLy (L2.pw_or ha hb) fun _ _ _=>qM2
theorem qLc (ha:SE X G F ea a):SE X G F (.UnaryOp .Not ea pos) (.not a):=by
 refine qAj (L2.pe_not ha) fun σc H Q q=>?_
 obtain ⟨φ,h,σ,v,h',R,rs,e,k⟩:=q
 unfold ev at e
 obtain ⟨⟨x,h1⟩,e1,e⟩:=Res.bind_inv e
 cases e
 exact ⟨φ,h,σ,.bl x,_,R,rs,qBl e1,fun φ1 H1 w x1 R1 r1=>⟨x,qA8 r1,k φ1 H1 _ x1 R1 rfl⟩⟩
theorem qMD (ha:ST X G F ea a):ST X G F (.UnaryOp .Not ea pos) (.not a):=by
 refine qIC (L2.pt_not ha) fun σc H Q q=>?_
 obtain ⟨φ,h,σ,t,h',R,rs,e,k⟩:=q
 have e:=qBl e
 unfold ev at e
 obtain ⟨⟨x,h1⟩,e1,e⟩:=Res.bind_inv e
 cases e
 exact ⟨φ,h,σ,x,_,R,rs,e1,fun φ1 H1 x1 R1=>k φ1 H1 x1 R1⟩
noncomputable def qAT:Expr -> Bool
 | .Starred ..=>false
 | _=>true
theorem qAE {e:Expr} {env:Env} (h:qAT e=true):starEach (e::es) env=(false,eval e env)::starEach es env:=by
 cases e<;>first | rfl | cases h
theorem qBY {env:Env}:∀ {es:List Expr},es.all qAT=true -> (backTo pos (starEach es env)).any (·.1)=false
 | [],_=>rfl
 | e::es,h=>by
  simp only [List.all_cons,Bool.and_eq_true] at h
  rw [qAE h.1]
  show (false||(backTo pos (starEach es env)).any (·.1))=false
  rw [qBY h.2]
  rfl
theorem qIZ:SA X G F [] .nil:=by
 refine qHt L2.pa_nil fun σc H Q q=>?_
 obtain ⟨φ,h,σ,v,h',R,rs,e,k⟩:=q
 unfold evs at e
 cases e
 exact k φ H [] (.refl _) R .nil
theorem qHQ (hn:qAT ea=true) (ha:SE X G F ea a) (hr:SA X G F es as):SA X G F (ea::es) (.cons a as):=by
 refine qHt (L2.pa_cons ha hr (qAE hn)) fun σc H Q q=>?_
 obtain ⟨φ,h,σ,v,h',R,rs,e,k⟩:=q
 unfold evs at e
 obtain ⟨⟨x,h1⟩,e1,e⟩:=Res.bind_inv e
 obtain ⟨⟨xs,h2⟩,e2,e⟩:=Res.bind_inv e
 cases e
 exact ⟨φ,h,σ,x,h1,R,rs,e1,fun φ1 H1 w x1 R1 r1=>⟨φ1,h1,σ,xs,_,R1,rst.mono x1 rs,e2,fun φ2 H2 ws x2 R2 r2=>k φ2 H2 _ (x1.trans x2) R2 (.cons (rv.mono x2 r1) r2)⟩⟩
theorem qMS (h:SA X G F es as):SE X G F (.List es pos) (.lst as):=by
 refine qAj (L2.pe_lst h) fun σc H Q q=>?_
 obtain ⟨φ,h,σ,v,h',R,rs,e,k⟩:=q
 unfold ev at e
 obtain ⟨⟨xs,h1⟩,e1,e⟩:=Res.bind_inv e
 refine ⟨φ,h,σ,xs,h1,R,rs,e1,fun φ1 H1 ws x1 R1 r1=>?_⟩
 dsimp only at e
 split at e
 ·rename_i hl
  cases e
  refine ⟨by rw [<- Paired.length r1];exact Nat.le_trans hl qB3,fun p hp=>k (φ1++[p]) _ _ (x1.trans ⟨[p],rfl⟩) (R1.newL hp r1) R1.lastRef⟩
 ·cases e
theorem qHH:SE X G F (.Dict [] [] pos) .dnew:=by
 intro pins s σc H Q I q
 obtain ⟨φ,h,σ,v,h',R,rs,e,k⟩:=q
 unfold ev at e
 cases e
 have hbig:sysModules < s.heap.objs.size:=Nat.lt_trans (by decide) (I.mod.glob.keeps I.bk).lt
 have hn:=I.hok.fresh (Nat.le_refl s.heap.objs.size)
 exact wpAny_Dict_empty ⟨.ref s.heap.objs.size,_,I.laid (a:=s.heap.objs.size) (o:=.dK []) (t':=s.toks) (fun _ _ q=>Heap.get?_push_of_some _ q) (Nat.le_refl _)
  ⟨Nat.zero_le _,beq_eq_false_iff_ne.mpr (Ne.symm (Nat.ne_of_lt hbig)),[],.nil,Heap.DictOf.new s.heap⟩,rfl,
  k (φ++[s.heap.objs.size]) _ _ ⟨[s.heap.objs.size],rfl⟩ (R.new hn (o:=.ob (.dct [])) qAI) R.lastRef⟩
theorem qIp {x1} (h:SA X G F es as):SE X G F (.Tuple es x1 pos) (.tup as):=by
 refine qAj (L2.pe_tup h) fun σc H Q q=>?_
 obtain ⟨φ,h,σ,v,h',R,rs,e,k⟩:=q
 unfold ev at e
 obtain ⟨⟨xs,h1⟩,e1,e⟩:=Res.bind_inv e
 refine ⟨φ,h,σ,xs,h1,R,rs,e1,fun φ1 H1 ws x1 R1 r1=>?_⟩
 dsimp only at e
 split at e
 ·rename_i hl
  cases e
  refine ⟨by rw [<- Paired.length r1];exact Nat.le_trans hl qB3,fun p hp=>k (φ1++[p]) _ _ (x1.trans ⟨[p],rfl⟩) (R1.newT hp r1) R1.lastRef⟩
 ·cases e
variable (G F) in
noncomputable def spF (K:PySem.W.Frag) (f:Nat):L2.Sp:=fun vs H Q _=>∃ φ h ws v h',Rl K G φ h H/\rvs φ ws vs/\F f ws h=.ok (v,h')/\∀ φ' H' w,Ext φ φ' -> Rl K G φ' h' H' -> rv φ' v w -> Q w H'
variable (X G F) in
structure FnS (f:Nat) (x:Str):Prop where
 ex:∃ k fa fd ps,L2.FnOk X.prog X.w X.K X.mg X.base L2.CX0 k fa fd ps (spF G F X.K f)/\L2.Room k X.A/\X.mg x=some (.ref fa)/\PySem.W.keepIn X.K (.ref fa)=true/\L2.Binds X.K fd ps []
theorem qHR {f:Nat} {σc:St} {H:Hp} {Q:VK} (q:tE X.K G F (.call f as) σc H Q):L2.tCall (spF G F X.K f) [] L2.E0 (tL X.K G F as) σc H Q:=by
 obtain ⟨φ,h,σ,v,h',R,rs,e,k⟩:=q
 unfold ev at e
 obtain ⟨⟨xs,h1⟩,e1,e⟩:=Res.bind_inv e
 refine ⟨φ,h,σ,xs,h1,R,rs,e1,fun φ1 H1 ws x1 R1 r1=>?_⟩
 have e:F f xs h1=.ok (v,h'):=by
  have e:(F f xs h1).nx=.ok (v,h'):=e
  revert e
  generalize F f xs h1=r
  cases r<;>intro e<;>first | exact e | cases e
 refine ⟨φ1,h1,xs,v,h',R1,by rw [List.append_nil];exact r1,e,fun φ2 H2 w x2 R2 r2=>k φ2 H2 w (x1.trans x2) R2 r2⟩
theorem qHE {f:Nat} {x:Str} {p:Pos} (hf:FnS X G F f x) (hg:L2.Gl X x) (hd:(x==("__debug__":Str))=false) (hn:qAT ea=true) (hs:es.all qAT=true) (ha:SA X G F (ea::es) as):SE X G F (.Call (.Name x p) (ea::es) [] pos) (.call f as):=by
 obtain ⟨k,fa,fd,ps,h1,h2,h3,h4,h5⟩:=hf.ex
 exact qAj (L2.pe_call h1 h2 hg h3 h4 h5 .nil L2.pass0 ha hd (qAE hn) (qBY hs)) fun _ _ _=>qHR
theorem qHu {f:Nat} {x:Str} {p:Pos} (hf:FnS X G F f x) (hg:L2.Gl X x) (hd:(x==("__debug__":Str))=false):SE X G F (.Call (.Name x p) [] [] pos) (.call f .nil):=by
 obtain ⟨k,fa,fd,ps,h1,h2,h3,h4,h5⟩:=hf.ex
 refine qAj (L2.pe_call0 h1 h2 hg h3 h4 h5 .nil L2.pass0 hd) fun σc H Q q=>?_
 obtain ⟨φ,h,σ,vs,h',R,rs,e,k⟩:=qHR q
 unfold evs at e
 cases e
 exact k φ H [] (.refl _) R .nil
theorem qI8 {f:BF} {σc:St} {H:Hp} {Q:VK} (q:tE X.K G F (.blt f as) σc H Q):L2.tCB (qNl X G f) (tL X.K G F as) σc H Q:=by
 obtain ⟨φ,h,σ,v,h',R,rs,e,k⟩:=q
 unfold ev at e
 obtain ⟨⟨xs,h1⟩,e1,e⟩:=Res.bind_inv e
 exact ⟨φ,h,σ,xs,h1,R,rs,e1,fun φ1 H1 ws x1 R1 r1=>⟨φ1,h1,xs,v,h',R1,r1,e,fun φ2 H2 w x2 R2 r2=>k φ2 H2 w (x1.trans x2) R2 r2⟩⟩
theorem qMU {f:BF} {x:Str} {p:Pos} (hc:X.calm=true) (hu:X.A.units + 8 < cLine) (hgd:X.A.guards=some []) (hg:L2.Gl X x) (hm:X.mg x=none) (hv:bootBuiltins x=some (fnB f)) (hn:qAT ea=true) (hs:es.all qAT=true) (ha:SA X G F (ea::es) as)
  (h1:x≠"__name__") (h2:(x==("__debug__":Str))=false):SE X G F (.Call (.Name x p) (ea::es) [] pos) (.blt f as):=by
 have rule:=qEX (G:=G) hc hu hgd f
 cases f
 all_goals first
  | exact qAj (L2.pe_callB rule hg hm hv ha h1 h2 (qAE hn) (qBY hs)) fun _ _ _=>qI8
  | exact qAj (L2.pe_callTy rule hg hm hv ha h1 h2 (qAE hn) (qBY hs)) fun _ _ _=>qI8
theorem qJa {apos cpos:Pos} (hc:X.calm=true) (hu:X.A.units + 8 < cLine) (hgd:X.A.guards=some []) (hbase:attributeBase ea "bit_length" X.env (eval ea X.env)=eval ea X.env) (hline:(apos.endLine==cpos.line)=true) (ha:SE X G F ea a):
  SE X G F (.Call (.Attribute ea "bit_length" apos) [] [] cpos) (.blt .bits (.cons a .nil)):=by
 have rule:L2.MtR X "int.bit_length" (fun x xs H Q=>∃ i,x=.int i/\xs=[]/\qNl X G .bits [.int i] H Q):=fun pins s σ H x xs v us Q I rx rs q=>by
  obtain ⟨i,rfl,rfl,q⟩:=q
  cases rs
  exact qEX (G:=G) hc hu hgd .bits pins s σ H [.int i] [v] Q I (.cons rx .nil) q
 refine qAj (L2.pe_bm0 PySem.F.plainAttrs_int PyProof.Rows.slot_int_bit_length PyProof.Rows.type_int_bit_length rule ha hbase hline) fun σc H Q q=>?_
 obtain ⟨φ,h,σ,v,h',R,rs,e,k⟩:=q
 unfold ev at e
 obtain ⟨⟨xs,h1⟩,e1,e2⟩:=Res.bind_inv e
 unfold evs evs at e1
 obtain ⟨⟨x,h2⟩,e3,e4⟩:=Res.bind_inv e1
 cases e4
 replace e2:qKn .bits [x] h1=.ok (v,h'):=e2
 cases x with
 | int i=>exact ⟨φ,h,σ,_,_,R,rs,e3,fun φ1 H1 w x1 R1 r1=>by
   cases qAC r1
   exact ⟨rfl,i,rfl,rfl,φ1,_,[.int i],v,h',R1,.cons rfl .nil,e2,fun φ2 H2 w x2 R2 r2=>k φ2 H2 w (x1.trans x2) R2 r2⟩⟩
 | _=>cases e2
noncomputable def qEN (t:String):Bool:=t=="int"||t=="bool"||t=="list"||t=="tuple"||t=="str"||t=="dict"
theorem qCv (K:PySem.W.Frag):∀ {t c:String},(t="NoneType"\/t="bool"\/t="int"\/t="str"\/t="list"\/t="tuple"\/t="dict") -> qEN c=true -> PySem.W.kitOne K (.type t) (.type c)=some (qAV t c):=by
 intro t c ht hc
 have hc':c="int"\/c="bool"\/c="list"\/c="tuple"\/c="str"\/c="dict":=by
  simp only [qEN,Bool.or_eq_true,beq_iff_eq] at hc
  rcases hc with ((((h | h) | h) | h) | h) | h<;>simp [h]
 rcases ht with rfl | rfl | rfl | rfl | rfl | rfl | rfl<;>rcases hc' with rfl | rfl | rfl | rfl | rfl | rfl<;>kernel_rfl
variable (X G) in
noncomputable def qPL (c:String):List V -> Hp -> VK -> Prop:=fun xs H Q=>∃ φ h xa x t,xs=[x,.ty c]/\Rl X.K G φ h H/\rv φ xa x/\qBO h xa=some t/\Q (.bl (qAV t c)) H
theorem qHT {c:String} (hc:qEN c=true):qAp X (.builtin "isinstance") (qPL X G c):=by
 intro pins s σ H xs us Q I r ⟨φ,h,xa,x,t,e,R,rx,ht,q⟩
 subst e
 obtain ⟨u,u2,rfl,r1,r2⟩:=L2.vals2 r
 cases (show u2=Value.type c from r2)
 have fin:∀ tk,EP X pins σ Q (.bool (qAV t c)) { s with toks:=tk }:=fun tk=>⟨.bl (qAV t c),H,I.tok tk,rfl,q⟩
 cases xa with
 | non=>cases qAz rx;cases r1;cases ht;exact PySem.W.kia_one PySem.W.kitx_none I.kIn True.intro (qCv _ (by simp) hc) (fun z=>nomatch z) fin
 | bl i=>cases qA8 rx;cases r1;cases ht;exact PySem.W.kia_one PySem.W.kitx_bool I.kIn True.intro (qCv _ (by simp) hc) (fun z=>nomatch z) fin
 | int i=>cases qAC rx;obtain ⟨t',rfl⟩:=r1;cases ht;exact PySem.W.kia_one PySem.W.kitx_int I.kIn True.intro (qCv _ (by simp) hc) (fun z=>nomatch z) fin
 | str i=>cases qBA rx;obtain ⟨t',rfl⟩:=r1;cases ht;exact PySem.W.kia_one PySem.W.kitx_str I.kIn True.intro (qCv _ (by simp) hc) (fun z=>nomatch z) fin
 | ref i=>
  obtain ⟨p,rfl,hp⟩:=qAN rx
  cases r1
  cases ey:h[i]? with
  | none=>rw [show qBO h (.ref i)=none by simp only [qBO,ey]] at ht;cases ht
  | some o=>
   cases o with
   | lst fz ys=>
    rw [show qBO h (.ref i)=some "list" by simp only [qBO,ey]] at ht;cases ht
    obtain ⟨p',zs,hp',hs,rs⟩:=R.lst (i:=i) (xs:=ys) (by unfold qAL;rw [ey])
    rw [hp] at hp';cases hp'
    obtain ⟨its,_,pl,_⟩:=I.list hs
    obtain ⟨o,ho,hcl,_⟩:=pl.isList
    exact PySem.W.kia_one PySem.W.kitx_list I.kIn ⟨o,ho,hcl⟩ (qCv _ (by simp) hc) (fun z=>nomatch z) fin
   | tup ys=>
    rw [show qBO h (.ref i)=some "tuple" by simp only [qBO,ey]] at ht;cases ht
    obtain ⟨p',zs,hp',hs,rs⟩:=R.tup (i:=i) (xs:=ys) (by unfold qAS;rw [ey])
    rw [hp] at hp';cases hp'
    obtain ⟨its,_,pl,_⟩:=I.tuple hs
    obtain ⟨o,ho,hcl,_⟩:=pl
    exact PySem.W.kia_one PySem.W.kitx_tuple I.kIn ⟨o,ho,hcl⟩ (qCv _ (by simp) hc) (fun z=>nomatch z) fin
   | ob ks=>
    cases ks with
    | exn c=>rw [show qBO h (.ref i)=none by simp only [qBO,ey]] at ht;cases ht
    | dct kvs=>
     rw [show qBO h (.ref i)=some "dict" by simp only [qBO,ey]] at ht
     cases ht
     obtain ⟨p',hp',hs⟩:=R.at ey
     rw [hp] at hp';cases hp'
     obtain ⟨_,_,vs,_,o,es,ep,h1,h2,_⟩:=(show L2.ObjOk X.prog X.w H s.heap p (.dK (kvs.map kk)) from I.hok p _ hs)
     exact PySem.W.kia_one PySem.W.kitx_dict I.kIn ⟨o,h1,h2.1⟩ (qCv _ (by simp) hc) (fun z=>nomatch z) fin
 | _=>cases ht
theorem qLR {c:String} {xc:Str} {p pc:Pos} (hc:qEN c=true) (hg:L2.Gl X "isinstance") (hm:X.mg "isinstance"=none) (hgc:L2.Gl X xc) (hmc:X.mg xc=none) (hvc:bootBuiltins xc=some (.type c)) (hn1:xc≠"__name__") (hn2:(xc==("__debug__":Str))=false)
  (hn:qAT ea=true) (ha:SE X G F ea a):SE X G F (.Call (.Name "isinstance" p) [ea,.Name xc pc] [] pos) (.isi a [c]):=by
 refine qAj (L2.pe_callB (qHT (G:=G) hc) hg hm PyProof.Rows.boot_isinstance (L2.pa_cons ha (L2.pa_cons (L2.pe_bltn (v:=.ty c) hgc hmc hvc rfl hn1 hn2) L2.pa_nil rfl) (qAE hn)) (by decide) (by decide) (qAE hn) rfl) fun σc H Q q=>?_
 obtain ⟨φ,h,σ,v,h',R,rs,e,k⟩:=q
 unfold ev at e
 obtain ⟨⟨x,h1⟩,e1,e⟩:=Res.bind_inv e
 refine ⟨φ,h,σ,x,h1,R,rs,e1,fun φ1 H1 w x1 R1 r1=>?_⟩
 dsimp only at e
 split at e
 ·rename_i t et
  cases e
  refine ⟨φ1,_,x,w,t,rfl,R1,r1,et,?_⟩
  have:=k φ1 H1 (.bl ([c].any (qAV t))) x1 R1 rfl
  simpa using this
 ·cases e
noncomputable def qCq:Expr -> Bool
 | .Slice ..=>false
 | _=>true
theorem qF4 {e:Expr} (h:qCq e=true):L2.PlainIx e:=by
 intro o i
 cases e<;>first | rfl | cases h
theorem qL6 (hb':qCq eb=true) (ha:SE X G F ea a) (hb:SE X G F eb b):SE X G F (.Subscript ea eb pos) (.idx a b):=by
 refine qAj (L2.pe_ix (L2.ix_list.or L2.ix_tup) ha hb (qF4 hb')) fun σc H Q q=>?_
 obtain ⟨φ,h,σ,v,h',R,rs,e,k⟩:=q
 unfold ev at e
 obtain ⟨⟨x,h1⟩,e1,e⟩:=Res.bind_inv e
 obtain ⟨⟨y,h2⟩,e2,e⟩:=Res.bind_inv e
 refine qDa R rs e1 e2 fun φ2 H2 xc yc x2 R2 r1 r2=>?_
 cases x with
 | ref p=>
  cases y with
  | int i=>
   dsimp only at e
   split at e
   ·rename_i xs ex
    split at e
    ·rename_i w ew
     cases e
     obtain ⟨p',zs,hp',hs,rs'⟩:=R2.its ex
     obtain ⟨q,rfl,hq⟩:=qAN r1
     rw [hp'] at hq;cases hq
     cases qAC r2
     obtain ⟨j,ej,ew⟩:=Option.bind_eq_some_iff.mp ew
     obtain ⟨w',hw',rw'⟩:=qAD rs' ew
     have hat:L2.atI zs i=some w':=by
      unfold L2.atI
      rw [<- Paired.length rs']
      exact Option.bind_eq_some_iff.mpr ⟨j,ej,hw'⟩
     rcases hs with hs | hs
     ·exact .inl ⟨_,zs,i,w',rfl,rfl,hs,hat,k φ2 H2 w' x2 R2 rw'⟩
     ·exact .inr ⟨_,zs,i,w',rfl,rfl,hs,hat,k φ2 H2 w' x2 R2 rw'⟩
    ·cases e
   ·cases e
  | _=>cases e
 | _=>cases e
theorem qDG {φ:List Addr} {xs ys:List V} (r:rvs φ xs ys) (lo hi:Option Int):rvs φ (L2.cutV xs lo hi) (L2.cutV ys lo hi):=by
 unfold L2.cutV
 rw [Paired.length r]
 exact qA7 _ (qBo _ r)
variable (X G F) in
noncomputable def SO (o:Option Expr) (as:Es):Prop:=L2.PO X o fun σc H Q=>∃ φ h σ is h',Rl X.K G φ h H/\rst φ σ σc/\(∃ vs,evs F as σ h=.ok (vs,h')/\qBL vs=some is)/\∀ φ' H',Ext φ φ' -> Rl X.K G φ' h' H' -> Q is.head? H'
theorem qJ9:SO X G F none .nil:=by
 intro pins s σc H Q I q
 obtain ⟨φ,h,σ,is,h',R,rs,⟨vs,e,ei⟩,k⟩:=q
 unfold evs at e
 cases e
 cases ei
 exact L2.po_none pins s σc H Q I (k φ H (.refl _) R)
theorem qJS (ha:SE X G F ea a):SO X G F (some ea) (.cons a .nil):=by
 intro pins s σc H Q I q
 obtain ⟨φ,h,σ,is,h',R,rs,⟨vs,e,ei⟩,k⟩:=q
 unfold evs at e
 obtain ⟨⟨x,h1⟩,e1,e⟩:=Res.bind_inv e
 unfold evs at e
 cases e
 refine L2.po_some ha pins s σc H Q I ⟨φ,h,σ,x,_,R,rs,e1,fun φ1 H1 w x1 R1 r1=>?_⟩
 have hm:=qB9 ei
 cases is with
 | nil=>cases hm
 | cons i r=>
  simp only [List.map_cons,List.cons.injEq] at hm
  obtain ⟨rfl,_⟩:=hm
  cases qAC r1
  exact ⟨i,rfl,k φ1 H1 x1 R1⟩
theorem qLC {lo hi:Option Expr} {al ah:Es} {p2:Pos} (ha:SE X G F ea a) (hl:SO X G F lo al) (hh:SO X G F hi ah):SE X G F (.Subscript ea (.Slice lo hi none p2) pos) (.sl a al ah):=by
 refine qAj (L2.pe_slice (L2.SlR.or L2.sl_list L2.sl_tup) ha hl hh) fun σc H Q q=>?_
 obtain ⟨φ,h,σ,v,h',R,rs,e,k⟩:=q
 unfold ev at e
 obtain ⟨⟨x,h1⟩,e1,e⟩:=Res.bind_inv e
 obtain ⟨⟨l,h2⟩,e2,e⟩:=Res.bind_inv e
 obtain ⟨⟨u,h3⟩,e3,e⟩:=Res.bind_inv e
 cases x with
 | ref p=>
  cases eil:qBL l with
  | none=>dsimp only at e;rw [eil] at e;cases e
  | some il=>
   cases eiu:qBL u with
   | none=>dsimp only at e;rw [eil,eiu] at e;cases e
   | some iu=>
    dsimp only at e
    rw [eil,eiu] at e
    dsimp only at e
    split at e
    ·rename_i xs ex
     cases e
     refine ⟨φ,h,σ,_,h1,R,rs,e1,fun φ1 H1 w x1 R1 r1=>?_⟩
     refine ⟨φ1,h1,σ,il,h2,R1,rst.mono x1 rs,⟨l,e2,eil⟩,fun φ2 H2 x2 R2=>?_⟩
     refine ⟨φ2,h2,σ,iu,h3,R2,rst.mono (x1.trans x2) rs,⟨u,e3,eiu⟩,fun φ3 H3 x3 R3=>?_⟩
     obtain ⟨p',zs,hp',hs,rs'⟩:=R3.lst ex
     obtain ⟨q,rfl,hq⟩:=qAN (rv.mono (x2.trans x3) r1)
     rw [hp'] at hq;cases hq
     exact .inl ⟨_,zs,rfl,hs,fun m hm=>k (φ3++[m]) _ _ ((x1.trans (x2.trans x3)).trans ⟨[m],rfl⟩) (R3.newL hm (qDG rs' _ _)) R3.lastRef⟩
    ·split at e
     ·rename_i xs ex
      split at e
      ·cases e
      ·rename_i hw
       cases e
       refine ⟨φ,h,σ,_,h1,R,rs,e1,fun φ1 H1 w x1 R1 r1=>?_⟩
       refine ⟨φ1,h1,σ,il,h2,R1,rst.mono x1 rs,⟨l,e2,eil⟩,fun φ2 H2 x2 R2=>?_⟩
       refine ⟨φ2,h2,σ,iu,h3,R2,rst.mono (x1.trans x2) rs,⟨u,e3,eiu⟩,fun φ3 H3 x3 R3=>?_⟩
       obtain ⟨p',zs,hp',hs,rs'⟩:=R3.tup ex
       obtain ⟨q,rfl,hq⟩:=qAN (rv.mono (x2.trans x3) r1)
       rw [hp'] at hq;cases hq
       exact .inr ⟨_,zs,rfl,hs,by rw [<- Paired.length rs'];exact hw,fun m hm=>k (φ3++[m]) _ _ ((x1.trans (x2.trans x3)).trans ⟨[m],rfl⟩) (R3.newT hm (qDG rs' _ _)) R3.lastRef⟩
     ·cases e
 | _=>cases e
section
open L2 PyProof.Rows
end
section
open L2 PyProof.Rows
end
theorem qKr {apos cpos:Pos} (hbase:attributeBase ea "append" X.env (eval ea X.env)=eval ea X.env) (hline:(apos.endLine==cpos.line)=true) (hn:qAT eb=true) (ha:SE X G F ea a) (hb:SE X G F eb b):
  SE X G F (.Call (.Attribute ea "append" apos) [eb] [] cpos) (.app a b):=by
 refine qAj (L2.pe_bm PySem.F.plainAttrs_list PySem.F.slot_list_append PySem.F.type_list_append L2.mt_append ha (L2.pa_cons hb L2.pa_nil (qAE hn)) hbase (by rw [qAE hn];rfl) hline (qAE hn) rfl) fun σc H Q q=>?_
 obtain ⟨φ,h,σ,v,h',R,rs,e,k⟩:=q
 unfold ev at e
 obtain ⟨⟨x,h1⟩,e1,e⟩:=Res.bind_inv e
 dsimp only at e
 split at e
 ·rename_i p
  split at e
  ·rename_i ys ey
   obtain ⟨⟨y,h2⟩,e2,e⟩:=Res.bind_inv e
   dsimp only at e
   split at e
   ·rename_i xs ex
    split at e
    ·rename_i hl
     cases e
     refine ⟨φ,h,σ,_,h1,R,rs,e1,fun φ1 H1 w x1 R1 r1=>?_⟩
     obtain ⟨p1,zs1,hp1,hs1,_⟩:=R1.lst ey
     obtain ⟨q,rfl,hq⟩:=qAN r1
     rw [hp1] at hq;cases hq
     refine ⟨.inl ⟨rfl,_,hs1⟩,φ1,h1,σ,y,h2,R1,rst.mono x1 rs,e2,fun φ2 H2 yc x2 R2 r2=>?_⟩
     obtain ⟨q1,p2,zs2,hp2,hH2,rs2⟩:=R2.mut ex
     have:=x2.get hp1
     rw [hp2] at this;cases this
     refine ⟨_,zs2,yc,rfl,rfl,hH2,?_,k φ2 _ _ (x1.trans x2) (R2.set q1 hp2 (qAO rs2 (.cons r2 .nil))) trivial⟩
     rw [<- Paired.length rs2]
     exact Nat.lt_trans hl qJJ
    ·cases e
   ·cases e
  ·cases e
 ·cases e
theorem Rl.same {K:PySem.W.Frag} {G φ:List Addr} {h:AH} {H H':Hp} (R:Rl K G φ h H) (s:qEx H H'):Rl K G φ h H':=⟨R.len,R.glob,fun i o a e1 e2=>(R.obj i o a e1 e2).keep (.refl _) s,R.inj⟩
theorem qCh {φ:List Addr}:∀ {xs:List V},xs.all flat=true -> rvs φ xs xs
 | [],_=>.nil
 | x::xs,h=>by
  simp only [List.all_cons,Bool.and_eq_true] at h
  refine .cons ?_ (qCh h.2)
  cases x<;>first | rfl | exact trivial | (cases h.1)
theorem qCu {α β:Type} {R:α -> β -> Prop} {xs:List α} {us:List β} (h:Paired R xs us) (k:Nat):Paired R (xs.eraseIdx k) (us.eraseIdx k):=by
 rw [List.eraseIdx_eq_take_drop_succ,List.eraseIdx_eq_take_drop_succ]
 exact qAO (qA7 _ h) (qBo _ h)
theorem qHe:qAp X (.type "range") (fun xs H Q=>∃ j:Int,xs=[.int j]/\∀ p,H p=none -> Q (.ref p) (upd H p (.rng 0 j))):=by
 intro pins s σ H xs us Q I r ⟨j,e,q⟩
 subst e
 obtain ⟨u,rfl,ru⟩:=L2.vals1 r
 obtain ⟨t,rfl⟩:=ru
 refine call_range_1 ⟨.ref s.heap.objs.size,_,I.laid (fun _ _ q=>Heap.get?_push_of_some _ q) (Nat.le_refl _) ?_,rfl,q _ (I.hok.fresh (Nat.le_refl _))⟩
 exact ⟨_,_,_,Heap.get?_push_size _ rfl⟩
theorem qB4 {P:Nat -> V}:∀ {n:Nat} {acc:List Value},acc.length=n -> (∀ (j:Nat) v,acc[j]?=some v -> RelV (P j) v) -> Vals ((List.range n).map P) acc:=by
 intro n
 induction n with
 | zero=>intro acc hl _;cases acc with | nil=>exact .nil | cons _ _=>simp at hl
 | succ n ih=>
  intro acc hl ha
  have hne:acc≠[]:=by intro z;subst z;simp at hl
  rw [List.range_succ,List.map_append,<- List.dropLast_concat_getLast hne]
  have hd:acc.dropLast.length=n:=by rw [List.length_dropLast,hl];rfl
  refine qAO (ih hd fun j v e=>ha j v ?_) (.cons (ha n _ ?_) .nil)
  ·rw [<- List.dropLast_concat_getLast hne,List.getElem?_append_left (List.getElem?_eq_some_iff.mp e).1];exact e
  ·rw [List.getElem?_eq_getElem (by omega),List.getLast_eq_getElem]
   congr 1
   simp [hl]
theorem qFy:qAp X (.type "range") (fun xs H Q=>∃ i j:Int,xs=[.int i,.int j]/\∀ p,H p=none -> Q (.ref p) (upd H p (.rng i j))):=by
 intro pins s σ H xs us Q I r ⟨i,j,e,q⟩
 subst e
 cases r with
 | cons r1 rr=>
  cases rr with
  | cons r2 rr=>
   cases rr
   obtain ⟨t,rfl⟩:=r1
   obtain ⟨u,rfl⟩:=r2
   refine call_range_2 ⟨.ref s.heap.objs.size,_,I.laid (fun _ _ q=>Heap.get?_push_of_some _ q) (Nat.le_refl _) ?_,rfl,q _ (I.hok.fresh (Nat.le_refl _))⟩
   exact ⟨_,_,_,Heap.get?_push_size _ rfl⟩
theorem qC0 (hc:X.calm=true):qAp X (.type "list") (fun xs H Q=>∃ p,∃ i j:Int,xs=[.ref p]/\H p=some (.rng i j)/\(-1000000<=i/\-1000000<=j/\i<=100000/\j<=100000/\j - i<=100000)/\∀ l,H l=none -> Q (.ref l) (upd H l (.lst (qAr i (j - i).toNat)))):=by
 intro pins s σ H xs us Q I r ⟨p,i,j,e,hp,hj,q⟩
 subst e
 obtain ⟨u,rfl,ru⟩:=L2.vals1 r
 cases ru
 obtain ⟨t,u,v,hr⟩:=I.hok p _ hp
 have hn:Builtin.Range.rangeSize i j 1=(((j - i).toNat:Nat):Int):=by rw [rangeSize_one];split<;>omega
 refine call_list_range (I.ok.hd hc) hr (small_one (by omega) (by omega) (by omega) (by omega)) hn (by omega) fun h' tk acc' c' hk hS hI=>?_
 refine ⟨.ref s.heap.objs.size,_,I.laid (t':=tk) hk (Nat.le_refl _) ?_,rfl,q _ (I.hok.fresh (Nat.le_refl _))⟩
 obtain ⟨i1,i2⟩:=hI
 refine ⟨?_,acc'.toList,c',qB4 (by simpa using i1) fun k v e=>?_,by simpa using hS⟩
 ·have:=qB3
  unfold lim at this
  rw [qAr,List.length_map,List.length_range]
  omega
 ·obtain ⟨t',rfl⟩:=i2 k v (by simpa using e)
  exact ⟨t',by rw [Int.mul_one]⟩
theorem qDS (hc:X.calm=true):qAp X (.type "list") (fun xs H Q=>∃ p,∃ j:Int,xs=[.ref p]/\H p=some (.rng 0 j)/\(-1000000<=j/\j<=100000)/\∀ l,H l=none -> Q (.ref l) (upd H l (.lst (qAr 0 j.toNat)))):=by
 intro pins s σ H xs us Q I r ⟨p,j,e,hp,hj,q⟩
 subst e
 obtain ⟨u,rfl,ru⟩:=L2.vals1 r
 cases ru
 obtain ⟨t,u,v,hr⟩:=I.hok p _ hp
 have hn:Builtin.Range.rangeSize 0 j 1=((j.toNat:Nat):Int):=by rw [rangeSize_one];split<;>omega
 refine call_list_range (I.ok.hd hc) hr (small_one (by omega) (by omega) (by omega) (by omega)) hn (by omega) fun h' tk acc' c' hk hS hI=>?_
 refine ⟨.ref s.heap.objs.size,_,I.laid (t':=tk) hk (Nat.le_refl _) ?_,rfl,q _ (I.hok.fresh (Nat.le_refl _))⟩
 obtain ⟨i1,i2⟩:=hI
 refine ⟨?_,acc'.toList,c',qB4 (by simpa using i1) fun k v e=>?_,by simpa using hS⟩
 ·have:=qB3
  unfold lim at this
  rw [qAr,List.length_map,List.length_range]
  omega
 ·obtain ⟨t',rfl⟩:=i2 k v (by simpa using e)
  exact ⟨t',by rw [Int.mul_one]⟩
theorem qJi {p p2 pos2:Pos} (hc:X.calm=true) (hg:L2.Gl X "list") (hm:X.mg "list"=none) (hg2:L2.Gl X "range") (hm2:X.mg "range"=none) (hn:qAT ea=true) (ha:SE X G F ea a):
  SE X G F (.Call (.Name "list" p) [.Call (.Name "range" p2) [ea] [] pos2] [] pos) (.lrng a):=by
 refine qAj (L2.pe_callTy (qDS hc) hg hm PyProof.Rows.boot_list (L2.pa_cons (L2.pe_callTy qHe hg2 hm2 PyProof.Rows.boot_range (L2.pa_cons ha L2.pa_nil (qAE hn)) (by decide) (by decide) (qAE hn) rfl) L2.pa_nil rfl) (by decide) (by decide) rfl rfl) fun σc H Q q=>?_
 obtain ⟨φ,h,σ,v,h',R,rs,e,k⟩:=q
 unfold ev at e
 obtain ⟨⟨x,h1⟩,e1,e⟩:=Res.bind_inv e
 refine ⟨φ,h,σ,x,h1,R,rs,e1,fun φ1 H1 w x1 R1 r1=>?_⟩
 cases x with
 | int j=>
  dsimp only at e
  split at e
  ·rename_i hj
   cases e
   cases qAC r1
   refine ⟨j,rfl,fun p hp=>⟨p,j,rfl,qAI,hj,fun l hl=>?_⟩⟩
   have hlp:l≠p:=by rintro rfl;rw [qAI] at hl;cases hl
   have R2:Rl X.K G φ1 h1 (upd H1 p (.rng 0 j)):=R1.same (qBq hp)
   exact k (φ1++[l]) _ _ (x1.trans ⟨[l],rfl⟩) (R2.newL hl (qCh (by simp [qAr,flat]))) R2.lastRef
  ·cases e
 | _=>cases e
theorem qIH {p p2 pos2:Pos} (hc:X.calm=true) (hg:L2.Gl X "list") (hm:X.mg "list"=none) (hg2:L2.Gl X "range") (hm2:X.mg "range"=none) (hn:qAT ea=true) (hn2:qAT eb=true) (ha:SE X G F ea a) (hb:SE X G F eb b):
  SE X G F (.Call (.Name "list" p) [.Call (.Name "range" p2) [ea,eb] [] pos2] [] pos) (.lrng2 a b):=by
 refine qAj (L2.pe_callTy (qC0 hc) hg hm PyProof.Rows.boot_list (L2.pa_cons (L2.pe_callTy qFy hg2 hm2 PyProof.Rows.boot_range (L2.pa_cons ha (L2.pa_cons hb L2.pa_nil (qAE hn2)) (qAE hn)) (by decide) (by decide) (qAE hn) (qBY (by simp [hn2]))) L2.pa_nil rfl) (by decide) (by decide) rfl rfl) fun σc H Q q=>?_
 obtain ⟨φ,h,σ,v,h',R,rs,e,k⟩:=q
 unfold ev at e
 obtain ⟨⟨x,h1⟩,e1,e⟩:=Res.bind_inv e
 obtain ⟨⟨y,h2⟩,e2,e⟩:=Res.bind_inv e
 obtain ⟨i,j,rfl,rfl,e3⟩:=qAy e
 clear e
 refine ⟨φ,h,σ,_,h1,R,rs,e1,fun φ1 H1 w x1 R1 r1=>⟨φ1,h1,σ,_,h2,R1,rst.mono x1 rs,e2,fun φ2 H2 w2 x2 R2 r2=>?_⟩⟩
 split at e3
 ·rename_i hj
  cases e3
  cases qAC r1
  cases qAC r2
  refine ⟨i,j,rfl,fun p hp=>⟨p,i,j,rfl,qAI,hj,fun l hl=>?_⟩⟩
  have R3:Rl X.K G φ2 h2 (upd H2 p (.rng i j)):=R2.same (qBq hp)
  exact k (φ2++[l]) _ _ (x1.trans (x2.trans ⟨[l],rfl⟩)) (R3.newL hl (qCh (by simp [qAr,flat]))) R3.lastRef
 ·cases e3
theorem qKS {m:Mt} {r:V -> List V -> Hp -> VK -> Prop} {σc:St} {H:Hp} {Q:VK} {as:Es}
  (hr:∀ φ h H p ys ws v h' Q,Rl X.K G φ h H -> rvs φ ys ws -> qEf m p ys h=.ok (v,h') -> (∀ φ' H' w,Ext φ φ' -> Rl X.K G φ' h' H' -> rv φ' v w -> Q w H') -> ∀ a,φ[p]?=some a -> r (.ref a) ws H Q)
  (q:tE X.K G F (.meth m a as) σc H Q):L2.tBM X.K "list" r (tE X.K G F a) (tL X.K G F as) σc H Q:=by
 obtain ⟨φ,h,σ,v,h',R,rs,e,k⟩:=q
 unfold ev at e
 obtain ⟨⟨x,h1⟩,e1,e⟩:=Res.bind_inv e
 dsimp only at e
 split at e
 ·rename_i p
  split at e
  ·rename_i ys ey
   obtain ⟨⟨zs,h2⟩,e2,e⟩:=Res.bind_inv e
   refine ⟨φ,h,σ,_,h1,R,rs,e1,fun φ1 H1 w x1 R1 r1=>?_⟩
   obtain ⟨p1,zs1,hp1,hs1,_⟩:=R1.lst ey
   obtain ⟨q,rfl,hq⟩:=qAN r1
   rw [hp1] at hq;cases hq
   exact ⟨.inl ⟨rfl,_,hs1⟩,φ1,h1,σ,zs,h2,R1,rst.mono x1 rs,e2,fun φ2 H2 yc x2 R2 r2=>hr φ2 h2 H2 p zs yc v h' Q R2 r2 e (fun φ3 H3 w x3 R3 r3=>k φ3 H3 w (x1.trans (x2.trans x3)) R3 r3) _ (x2.get hp1)⟩
  ·cases e
 ·cases e
theorem qGI:∀ φ h H p ys ws v h' Q,Rl X.K G φ h H -> rvs φ ys ws -> qEf .popAt p ys h=.ok (v,h') -> (∀ φ' H' w,Ext φ φ' -> Rl X.K G φ' h' H' -> rv φ' v w -> Q w H') -> ∀ a,φ[p]?=some a -> L2.rPopAt (.ref a) ws H Q:=by
 intro φ h H p ys ws v h' Q R rw' e k a ha
 unfold qEf at e
 split at e
 all_goals first | (rename_i z _ _;cases z;done) | (rename_i z _;cases z;done) | (rename_i z;cases z;done) | skip
 ·cases rw' with
  | cons r1 t=>
   cases t
   cases qAC r1
   split at e
   ·rename_i xs ex
    split at e
    ·rename_i hl
     split at e
     ·rename_i j ej
      split at e
      ·rename_i y ey
       cases e
       obtain ⟨q1,p2,zs2,hp2,hH2,rs2⟩:=R.mut ex
       rw [ha] at hp2;cases hp2
       obtain ⟨w,hw,rw2⟩:=qAD rs2 ey
       obtain ⟨s1,s2,s3,s4⟩:=L2.ixN_seq ej
       have:=qB3
       unfold lim at hl
       refine ⟨a,zs2,_,j,w,rfl,rfl,hH2,by omega,by omega,by rw [<- Paired.length rs2];exact s1,hw,k φ _ _ (.refl _) (R.set q1 ha (qCu rs2 j)) rw2⟩
      ·cases e
     ·cases e
    ·cases e
   ·cases e
 ·cases e
section
open L2 PyProof.Rows
end
section
open L2 PyProof.Rows
end
section
open L2 PyProof.Rows
end
section
open L2 PyProof.Rows
end
section
open L2 PyProof.Rows
end
theorem qIX {apos cpos:Pos} (hbase:attributeBase ea "pop" X.env (eval ea X.env)=eval ea X.env) (hline:(apos.endLine==cpos.line)=true) (hn:qAT eb=true) (ha:SE X G F ea a) (hb:SE X G F eb b):
  SE X G F (.Call (.Attribute ea "pop" apos) [eb] [] cpos) (.meth .popAt a (.cons b .nil)):=
 qAj (L2.pe_bm PySem.F.plainAttrs_list PySem.F.slot_list_pop PySem.F.type_list_pop L2.mt_popAt ha (qHQ hn hb qIZ) hbase (by rw [qAE hn];rfl) hline (qAE hn) rfl) fun _ _ _=>qKS qGI
end
end PI
namespace PI
open PySem PySem.Spec PyProof.Rows PySem.SeqAt
open L2 (V Hp HO Cx PE PT PA PS PSs PG PW TE TT TA TS VK upd qAI qAM SqL SqT qEx Inv RelV Vals EP TP AP SP OpR qAp R2)
theorem qFc (is:List Int):qFm is=(firstMet (fun i=>is.getD i 0) is.length).length:=by
 unfold qFm firstMet
 congr 2
 apply List.ext_getElem
 ·simp
 ·intro i h1 h2
  simp [List.getD_eq_getElem?_getD,h1]
noncomputable def qM6 (P:Program) (w:World) (a:Addr) (n:Nat):Heap -> Prop:=fun h=>∃ o,∃ S:Int -> Bool,h.get? a=some o/\o.SetObjOf (intKind P w) S n
section
variable {X:Cx}
theorem qHB (hc:X.calm=true):qAp X (.type "set") (fun xs H Q=>∃ p,∃ is:List Int,xs=[.ref p]/\SqL X.K H p (is.map V.int)/\is.length < 1000/\∀ l,H l=none -> Q (.ref l) (upd H l (.ext (qM6 X.prog X.w l (qFm is))))):=by
 intro pins s σ H xs us Q I r ⟨p,is,e,hp,hj,q⟩
 subst e
 obtain ⟨u,rfl,ru⟩:=L2.vals1 r
 cases ru
 obtain ⟨its,rv',pl,_⟩:=I.list hp
 have hi:IntsAre its is:=L2.intsAre_of rv'
 have hl:its.length=is.length:=IntsAre.length hi
 refine call_set_list (items:=its.toArray) (ns:=is) (I.ok.hd hc) pl.isList (by simpa using hi) (by simp [scanBound];omega) fun h' tk hS hk=>?_
 obtain ⟨o,ho,hso⟩:=hS.objOf
 refine ⟨.ref s.heap.objs.size,_,I.laid (t':=tk) (fun b o' e=>hk b o' (Heap.lt_size e) e) (Nat.le_refl _) ?_,rfl,q _ (I.hok.fresh (Nat.le_refl _))⟩
 have e:qFm is=(firstMet (fun i=>is.getD i 0) its.toArray.size).length:=by rw [qFc,List.size_toArray,hl]
 rw [e]
 exact ⟨⟨o,_,ho,hso⟩,⟨o,ho⟩,fun h1 h2 ⟨o,S,q1,q2⟩ k=>⟨o,S,k _ q1,q2⟩⟩
theorem qFx:qAp X (.builtin "len") (fun xs H Q=>∃ p n,xs=[.ref p]/\H p=some (.ext (qM6 X.prog X.w p n))/\n < 1000/\Q (.int n) H):=by
 intro pins s σ H xs us Q I r ⟨p,n,e,hp,hn,q⟩
 subst e
 obtain ⟨u,rfl,ru⟩:=L2.vals1 r
 cases ru
 obtain ⟨⟨o,S,ho,hex,es,ep,t,hd,_,_,hz,hf⟩,_⟩:=I.hok p _ hp
 subst hz
 exact call_len_set ho hex hd hf (by omega) ⟨.int _,H,(I.tok _).tok _,⟨_,rfl⟩,q⟩
theorem qJp (is:List Int):qFm is<=is.length:=by rw [qFc];exact firstMet_length_le _ _
end
section
variable {X:Cx} {G:List Addr} {F:Nat -> List V -> AH -> RV} {a:E} {ea:Expr} {pos:Pos}
theorem qKD {p p2 pos2:Pos} (hc:X.calm=true) (hg:L2.Gl X "len") (hm:X.mg "len"=none) (hg2:L2.Gl X "set") (hm2:X.mg "set"=none) (hn:qAT ea=true) (ha:SE X G F ea a):
  SE X G F (.Call (.Name "len" p) [.Call (.Name "set" p2) [ea] [] pos2] [] pos) (.nset a):=by
 refine qAj (L2.pe_callB qFx hg hm PySem.boot_len (L2.pa_cons (L2.pe_callTy (qHB hc) hg2 hm2 PyProof.Rows.boot_set (L2.pa_cons ha L2.pa_nil (qAE hn)) (by decide) (by decide) (qAE hn) rfl) L2.pa_nil rfl) (by decide) (by decide) rfl rfl) fun σc H Q q=>?_
 obtain ⟨φ,h,σ,v,h',R,rs,e,k⟩:=q
 unfold ev at e
 obtain ⟨⟨x,h1⟩,e1,e⟩:=Res.bind_inv e
 refine ⟨φ,h,σ,x,h1,R,rs,e1,fun φ1 H1 w x1 R1 r1=>?_⟩
 dsimp only at e
 split at e
 ·rename_i q0
  split at e
  ·rename_i ys ey
   split at e
   ·rename_i is ei
    split at e
    ·rename_i hl
     cases e
     obtain ⟨p',rfl,hp⟩:=qAN r1
     obtain ⟨p'',zs,hp',hs,rs'⟩:=R1.lst ey
     rw [hp] at hp';cases hp'
     have hm':=qB9 ei
     subst hm'
     have hz:=qCO (qEK is) rs'
     subst hz
     have:=qJp is
     refine ⟨p',is,rfl,hs,hl,fun l hl'=>⟨l,qFm is,rfl,qAI,by omega,?_⟩⟩
     have R2:=R1.same (qBq (o:=.ext (qM6 X.prog X.w l (qFm is))) hl')
     exact k φ1 _ _ x1 R2 rfl
    ·cases e
   ·cases e
  ·cases e
 ·cases e
end
end PI
namespace PI
open PySem PySem.Spec PyProof.Rows PySem.SeqAt
open L2 (V Hp HO Cx PE PT PA PS PSs PG PW TE TT TA TS VK upd qAI qAM SqL SqT qEx Inv RelV Vals EP TP AP SP OpR qAp R2 It qGy qEc)
noncomputable def Itz (K:PySem.W.Frag) (a b:Addr):It:=
 ⟨fun i H=>∃ xs ys x y,SqL K H a xs/\SqL K H b ys/\xs[i]?=some x/\ys[i]?=some y,
  fun i H v H'=>∃ p x y,H p=none/\v=.ref p/\H'=upd H p (.tup [x,y])/\(∀ xs,SqL K H a xs -> xs[i]?=some x)/\∀ ys,SqL K H b ys -> ys[i]?=some y,
  fun i H=>∃ xs ys,SqL K H a xs/\SqL K H b ys/\(xs.length<=i\/ys.length<=i)⟩
end PI
namespace PI
open PySem PySem.Spec PyProof.Rows PySem.SeqAt
open L2 (V Hp HO Cx PE PT PA PS PSs PG PW TE TT TA TS VK upd qAI qAM SqL SqT qEx Inv RelV Vals EP TP AP SP OpR qAp R2 It qGy qEc)
noncomputable def Ite (K:PySem.W.Frag) (a:Addr):It:=
 ⟨fun i H=>∃ xs x,SqL K H a xs/\xs[i]?=some x,
  fun i H v H'=>∃ p x,H p=none/\v=.ref p/\H'=upd H p (.tup [.int (i:Int),x])/\∀ xs,SqL K H a xs -> xs[i]?=some x,
  fun i H=>∃ xs,SqL K H a xs/\xs.length<=i⟩
noncomputable def Itv (K:PySem.W.Frag) (a:Addr) (n:Nat):It:=
 ⟨fun i H=>i < n/\∃ xs x,SqL K H a xs/\xs[n - 1 - i]?=some x,fun i H x H'=>H'=H/\∀ xs,SqL K H a xs -> xs[n - 1 - i]?=some x,fun i _=>i=n⟩
noncomputable def Itd (lo:Int) (n:Nat):It:=⟨fun i _=>i < n,fun i H x H'=>H'=H/\x=.int (lo - (i:Int)),fun i _=>n<=i⟩
end PI
namespace PI
open PySem PySem.Spec PyProof.Rows PySem.SeqAt
open L2 (V Hp HO Cx PE PT PA PS PSs TE TT TA TS VK It TI qGy Inv RelV FnOk)
section
variable {prog:Program} {w:World} {A:Around} {E:Value -> Shared -> Prop} {s:Shared}
end
end PI
namespace PI
open PySem PySem.Spec PyProof.Rows PySem.SeqAt
open L2 (V Hp HO Cx PE PT PA PS PSs PG PGs PW TE TT TA TS TG TGs VK upd qAI qAM SqL SqT qEx Inv RelV Vals EP TP AP SP OpR qAp R2 It qGy qEc Itl Itt qEt)
section
variable (K:PySem.W.Frag) (G:List Addr)
noncomputable def tG (g:Tg):TG:=fun v σc H Q=>∃ φ h σ w σ',Rl K G φ h H/\rst φ σ σc/\rv φ w v/\store g w σ h=some σ'/\∀ σc',rst φ σ' σc' -> Q σc' H
noncomputable def tGs (is:List Nat):TGs:=fun vs σc H Q=>∃ φ σ ws σ',rst φ σ σc/\rvs φ ws vs/\qDK is ws σ=some σ'/\∀ σc',rst φ σ' σc' -> Q σc' H
end
section
variable {X:Cx} {G:List Addr} {F:Nat -> List V -> AH -> RV}
theorem qMT {e:Expr} {t t':TG} (h:PG X e t) (w:∀ v σ H Q,t' v σ H Q -> t v σ H Q):PG X e t':=fun pins s σ H v u Q I r q=>h pins s σ H v u Q I r (w v σ H Q q)
theorem qJH {e:List Expr} {t t':TGs} (h:PGs X e t) (w:∀ v σ H Q,t' v σ H Q -> t v σ H Q):PGs X e t':=fun pins s σ H v u Q I r q=>h pins s σ H v u Q I r (w v σ H Q q)
variable (X G) in
noncomputable abbrev SG (e:Expr) (g:Tg):Prop:=PG X e (tG X.K G g)
theorem qGz {i:Nat} {x:Str} {pos:Pos} (hN:X.N.Nodup) (hi:X.N[i]?=some x) (hx:L2.Loc X.env.scope x) (hf:X.fn x=true\/X.env.scope.names.lookup x=some .local):SG X G (.Name x pos) (.name i):=by
 refine qMT (L2.pg_name hN hi hx hf) fun v σc H Q q=>?_
 obtain ⟨φ,h,σ,w,σ',R,rs,r,e,k⟩:=q
 unfold store at e
 cases e
 exact k _ (qAs (R:=ropt φ) (show ropt φ (some w) (some v) from ⟨v,rfl,r⟩) i rs)
theorem qKW:PGs X [] (tGs []):=by
 refine qJH L2.pgs_nil fun vs σc H Q q=>?_
 obtain ⟨φ,σ,ws,σ',rs,r,e,k⟩:=q
 cases ws with
 | nil=>
  cases r
  cases e
  exact ⟨rfl,k _ rs⟩
 | cons _ _=>cases e
theorem qH8 {i:Nat} {is:List Nat} {x:Str} {pos:Pos} {es:List Expr} (hN:X.N.Nodup) (hi:X.N[i]?=some x) (hx:L2.Loc X.env.scope x) (hf:X.fn x=true\/X.env.scope.names.lookup x=some .local) (hs:PGs X es (tGs is)):
  PGs X (.Name x pos::es) (tGs (i::is)):=by
 refine qJH (L2.pgs_cons (L2.pg_name hN hi hx hf) hs rfl) fun vs σc H Q q=>?_
 obtain ⟨φ,σ,ws,σ',rs,r,e,k⟩:=q
 cases ws with
 | nil=>cases e
 | cons w ws=>
  cases r with
  | cons r1 rr=>exact ⟨_,_,rfl,φ,_,ws,σ',qAs (R:=ropt φ) (show ropt φ (some w) (some _) from ⟨_,rfl,r1⟩) i rs,rr,e,k⟩
theorem qDC:∀ {is:List Nat} {xs:List V} {σ σ':St},qDK is xs σ=some σ' -> xs.length=is.length
 | [],[],_,_,_=>rfl
 | [],_::_,_,_,e=>by cases e
 | _::_,[],_,_,e=>by cases e
 | i::is,x::xs,σ,σ',e=>by
  have:=qDC (show qDK is xs _=some σ' from e)
  simp [this]
theorem qLo {is:List Nat} {es:List Expr} {k:Nat} {pos:Pos} (hc:X.calm=true) (h:PGs X es (tGs is)) (hn:(assignEach es X.env).length=is.length) (hst:(assignEach es X.env).findIdx? (·.1)=none):SG X G (.Tuple es k pos) (.tup is):=by
 refine qMT (L2.pg_tup hc h hn hst) fun v σc H Q q=>?_
 obtain ⟨φ,h,σ,w,σ',R,rs,r,e,k⟩:=q
 cases w with
 | ref a=>
  unfold store at e
  dsimp only at e
  split at e
  ·rename_i xs ex
   obtain ⟨p,zs,hp,hs,rz⟩:=R.tup ex
   obtain ⟨q,rfl,hq⟩:=qAN r
   rw [hp] at hq;cases hq
   exact ⟨_,zs,rfl,hs,by rw [<- Paired.length rz];exact qDC e,φ,σ,xs,σ',rs,rz,e,k⟩
  ·cases e
 | _=>cases e
noncomputable def IsJ (K:PySem.W.Frag) (φ:List Addr):Src -> It -> Prop
 | .list p,J=>∃ a,φ[p]?=some a/\J=Itl K a
 | .tupl p,J=>∃ a,φ[p]?=some a/\J=Itt K a
 | .rng lo n,J=>J=L2.Itr lo n
 | .zip p q,J=>∃ a b,φ[p]?=some a/\φ[q]?=some b/\J=Itz K a b
 | .enum p,J=>∃ a,φ[p]?=some a/\J=Ite K a
 | .rvd p n,J=>∃ a,φ[p]?=some a/\J=Itv K a n
 | .rngd lo n,J=>J=Itd lo n
theorem IsJ.mono {K:PySem.W.Frag} {φ φ':List Addr} (x:Ext φ φ'):∀ {s:Src} {J:It},IsJ K φ s J -> IsJ K φ' s J
 | .list _,_,⟨a,h,e⟩=>⟨a,x.get h,e⟩
 | .tupl _,_,⟨a,h,e⟩=>⟨a,x.get h,e⟩
 | .rng _ _,_,e=>e
 | .zip _ _,_,⟨a,b,h,g,e⟩=>⟨a,b,x.get h,x.get g,e⟩
 | .enum _,_,⟨a,h,e⟩=>⟨a,x.get h,e⟩
 | .rvd _ _,_,⟨a,h,e⟩=>⟨a,x.get h,e⟩
 | .rngd _ _,_,e=>e
section
variable {K:PySem.W.Frag} {φ:List Addr} {h h1:AH} {H H':Hp} {s:Src} {J:It} {i:Nat} {x v:V}
theorem IsJ.stop (j:IsJ K φ s J) (R:Rl K G φ h H) (e:qBV h i s=true):J.stop i H:=by
 cases s with
 | list p=>
  obtain ⟨a,ha,rfl⟩:=j
  unfold qBV at e
  dsimp only at e
  split at e
  ·rename_i xs ex
   obtain ⟨q,zs,hq,hs,rz⟩:=R.lst ex
   rw [ha] at hq;cases hq
   exact ⟨zs,hs,by rw [<- Paired.length rz];exact of_decide_eq_true e⟩
  ·cases e
 | tupl p=>
  obtain ⟨a,ha,rfl⟩:=j
  unfold qBV at e
  dsimp only at e
  split at e
  ·rename_i xs ex
   obtain ⟨q,zs,hq,hs,rz⟩:=R.tup ex
   rw [ha] at hq;cases hq
   exact ⟨zs,hs,by rw [<- Paired.length rz];exact of_decide_eq_true e⟩
  ·cases e
 | rng lo n=>
  cases j
  show n<=i
  exact of_decide_eq_true e
 | zip p q=>
  obtain ⟨a,b,ha,hb,rfl⟩:=j
  unfold qBV at e
  dsimp only at e
  split at e
  ·rename_i xs ys ex ey
   obtain ⟨a',zs,hq,hs,rz⟩:=R.lst ex
   obtain ⟨b',ws,hq',hs',rz'⟩:=R.lst ey
   rw [ha] at hq;cases hq
   rw [hb] at hq';cases hq'
   exact ⟨zs,ws,hs,hs',by rw [<- Paired.length rz,<- Paired.length rz'];exact of_decide_eq_true e⟩
  ·cases e
 | enum p=>
  obtain ⟨a,ha,rfl⟩:=j
  unfold qBV at e
  dsimp only at e
  split at e
  ·rename_i xs ex
   obtain ⟨q,zs,hq,hs,rz⟩:=R.lst ex
   rw [ha] at hq;cases hq
   exact ⟨zs,hs,by rw [<- Paired.length rz];exact of_decide_eq_true e⟩
  ·cases e
 | rvd p n=>
  obtain ⟨a,ha,rfl⟩:=j
  show i=n
  exact of_decide_eq_true e
 | rngd lo n=>
  cases j
  show n<=i
  exact of_decide_eq_true e
theorem IsJ.go (j:IsJ K φ s J) (R:Rl K G φ h H) (e:qAZ h i s=some (x,h1)):J.go i H:=by
 cases s with
 | list p=>
  obtain ⟨a,ha,rfl⟩:=j
  unfold qAZ at e
  dsimp only at e
  split at e
  ·rename_i xs ex
   obtain ⟨y,ey,e2⟩:=Option.map_eq_some_iff.mp e
   obtain ⟨q,zs,hq,hs,rz⟩:=R.lst ex
   rw [ha] at hq;cases hq
   obtain ⟨z,hz,_⟩:=qAD rz ey
   exact ⟨zs,z,hs,hz⟩
  ·cases e
 | tupl p=>
  obtain ⟨a,ha,rfl⟩:=j
  unfold qAZ at e
  dsimp only at e
  split at e
  ·rename_i xs ex
   obtain ⟨y,ey,e2⟩:=Option.map_eq_some_iff.mp e
   obtain ⟨q,zs,hq,hs,rz⟩:=R.tup ex
   rw [ha] at hq;cases hq
   obtain ⟨z,hz,_⟩:=qAD rz ey
   exact ⟨zs,z,hs,hz⟩
  ·cases e
 | rng lo n=>
  cases j
  unfold qAZ at e
  dsimp only at e
  split at e
  ·rename_i hl
   exact hl
  ·cases e
 | zip p q=>
  obtain ⟨a,b,ha,hb,rfl⟩:=j
  unfold qAZ at e
  dsimp only at e
  split at e
  ·rename_i xs ys ex ey
   split at e
   ·rename_i u w eu ew
    obtain ⟨a',zs,hq,hs,rz⟩:=R.lst ex
    obtain ⟨b',ws,hq',hs',rz'⟩:=R.lst ey
    rw [ha] at hq;cases hq
    rw [hb] at hq';cases hq'
    obtain ⟨z,hz,_⟩:=qAD rz eu
    obtain ⟨z',hz',_⟩:=qAD rz' ew
    exact ⟨zs,ws,z,z',hs,hs',hz,hz'⟩
   ·cases e
  ·cases e
 | enum p=>
  obtain ⟨a,ha,rfl⟩:=j
  unfold qAZ at e
  dsimp only at e
  split at e
  ·rename_i xs ex
   obtain ⟨y,ey,e2⟩:=Option.map_eq_some_iff.mp e
   obtain ⟨q,zs,hq,hs,rz⟩:=R.lst ex
   rw [ha] at hq;cases hq
   obtain ⟨z,hz,_⟩:=qAD rz ey
   exact ⟨zs,z,hs,hz⟩
  ·cases e
 | rvd p n=>
  obtain ⟨a,ha,rfl⟩:=j
  unfold qAZ at e
  dsimp only at e
  split at e
  ·rename_i hi
   split at e
   ·rename_i xs ex
    obtain ⟨y,ey,e2⟩:=Option.map_eq_some_iff.mp e
    obtain ⟨q,zs,hq,hs,rz⟩:=R.lst ex
    rw [ha] at hq;cases hq
    obtain ⟨z,hz,_⟩:=qAD rz ey
    exact ⟨hi,zs,z,hs,hz⟩
   ·cases e
  ·cases e
 | rngd lo n=>
  cases j
  unfold qAZ at e
  dsimp only at e
  split at e
  ·rename_i hl
   exact hl
  ·cases e
theorem IsJ.yld (j:IsJ K φ s J) (R:Rl K G φ h H) (e:qAZ h i s=some (x,h1)) (y:J.yld i H v H'):∃ φ',Ext φ φ'/\Rl K G φ' h1 H'/\rv φ' x v:=by
 cases s with
 | list p=>
  obtain ⟨a,ha,rfl⟩:=j
  unfold qAZ at e
  dsimp only at e
  split at e
  ·rename_i xs ex
   obtain ⟨y',ey,e2⟩:=Option.map_eq_some_iff.mp e
   cases e2
   obtain ⟨q,zs,hq,hs,rz⟩:=R.lst ex
   rw [ha] at hq;cases hq
   obtain ⟨z,hz,rz'⟩:=qAD rz ey
   obtain ⟨rfl,k⟩:=y
   have:=k zs hs
   rw [hz] at this;cases this
   exact ⟨φ,.refl _,R,rz'⟩
  ·cases e
 | tupl p=>
  obtain ⟨a,ha,rfl⟩:=j
  unfold qAZ at e
  dsimp only at e
  split at e
  ·rename_i xs ex
   obtain ⟨y',ey,e2⟩:=Option.map_eq_some_iff.mp e
   cases e2
   obtain ⟨q,zs,hq,hs,rz⟩:=R.tup ex
   rw [ha] at hq;cases hq
   obtain ⟨z,hz,rz'⟩:=qAD rz ey
   obtain ⟨rfl,k⟩:=y
   have:=k zs hs
   rw [hz] at this;cases this
   exact ⟨φ,.refl _,R,rz'⟩
  ·cases e
 | rng lo n=>
  cases j
  unfold qAZ at e
  dsimp only at e
  split at e
  ·cases e
   obtain ⟨rfl,rfl⟩:=y
   exact ⟨φ,.refl _,R,rfl⟩
  ·cases e
 | zip p q=>
  obtain ⟨a,b,ha,hb,rfl⟩:=j
  unfold qAZ at e
  dsimp only at e
  split at e
  ·rename_i xs ys ex ey
   split at e
   ·rename_i u w eu ew
    cases e
    obtain ⟨a',zs,hq,hs,rz⟩:=R.lst ex
    obtain ⟨b',ws,hq',hs',rz'⟩:=R.lst ey
    rw [ha] at hq;cases hq
    rw [hb] at hq';cases hq'
    obtain ⟨z,hz,r1⟩:=qAD rz eu
    obtain ⟨z',hz',r2⟩:=qAD rz' ew
    obtain ⟨p',x',y',hn,rfl,rfl,k1,k2⟩:=y
    have t1:=k1 zs hs
    have t2:=k2 ws hs'
    rw [hz] at t1;cases t1
    rw [hz'] at t2;cases t2
    exact ⟨φ++[p'],⟨[p'],rfl⟩,R.newT hn (.cons r1 (.cons r2 .nil)),R.lastRef⟩
   ·cases e
  ·cases e
 | enum p=>
  obtain ⟨a,ha,rfl⟩:=j
  unfold qAZ at e
  dsimp only at e
  split at e
  ·rename_i xs ex
   obtain ⟨y',ey,e2⟩:=Option.map_eq_some_iff.mp e
   cases e2
   obtain ⟨q,zs,hq,hs,rz⟩:=R.lst ex
   rw [ha] at hq;cases hq
   obtain ⟨z,hz,r1⟩:=qAD rz ey
   obtain ⟨p',x',hn,rfl,rfl,k⟩:=y
   have:=k zs hs
   rw [hz] at this;cases this
   exact ⟨φ++[p'],⟨[p'],rfl⟩,R.newT hn (.cons rfl (.cons r1 .nil)),R.lastRef⟩
  ·cases e
 | rvd p n=>
  obtain ⟨a,ha,rfl⟩:=j
  unfold qAZ at e
  dsimp only at e
  split at e
  ·split at e
   ·rename_i xs ex
    obtain ⟨y',ey,e2⟩:=Option.map_eq_some_iff.mp e
    cases e2
    obtain ⟨q,zs,hq,hs,rz⟩:=R.lst ex
    rw [ha] at hq;cases hq
    obtain ⟨z,hz,rz'⟩:=qAD rz ey
    obtain ⟨rfl,k⟩:=y
    have:=k zs hs
    rw [hz] at this;cases this
    exact ⟨φ,.refl _,R,rz'⟩
   ·cases e
  ·cases e
 | rngd lo n=>
  cases j
  unfold qAZ at e
  dsimp only at e
  split at e
  ·cases e
   obtain ⟨rfl,rfl⟩:=y
   exact ⟨φ,.refl _,R,rfl⟩
  ·cases e
end
variable (G F) in
noncomputable def tI (K:PySem.W.Frag) (it:Itr):L2.TI:=fun σc H R=>∃ φ h σ s h',Rl K G φ h H/\rst φ σ σc/\evi F it σ h=.ok (s,h')/\∀ φ' H' J,Ext φ φ' -> Rl K G φ' h' H' -> IsJ K φ' s J -> R J H'
variable (X G F) in
noncomputable abbrev SI (tg iter:Expr) (it:Itr):Prop:=L2.PI X tg iter (tI G F X.K it)
theorem qMM {tg e:Expr} {t t':L2.TI} (h:L2.PI X tg e t) (w:∀ σ H Q,t' σ H Q -> t σ H Q):L2.PI X tg e t':=fun pins s σ H Q I q=>h pins s σ H Q I (w σ H Q q)
variable {a b:E} {ea eb tg:Expr} {pos p:Pos}
noncomputable def qPf (K:PySem.W.Frag) (tl:TE):L2.TI:=fun σ H R=>tl σ H fun x H1=>∃ a,x=.ref a/\(((∃ xs,SqL K H1 a xs)/\R (Itl K a) H1)\/((∃ xs,SqT K H1 a xs)/\R (Itt K a) H1))
theorem qMR {l:Expr} {tl:TE} (hl:PE X l tl):L2.PI X tg l (qPf X.K tl):=by
 intro pins s σ H R I h
 refine L2.thn (hl pins s σ H _ I h) fun v s1 ⟨x,H1,I1,r1,q1⟩=>?_
 obtain ⟨a,e,q⟩:=q1
 subst e
 cases r1
 rcases q with ⟨⟨xs,hq⟩,q⟩ | ⟨⟨xs,hq⟩,q⟩
 ·obtain ⟨its,rv,p,hz⟩:=I1.list hq
  refine wpAny_pyIter_list p.isList ?_
  refine ⟨s1.heap.objs.size,[s1.heap.objs.size],_,_,H1,rfl,I1.kept (t':=s1.toks) fun b o e=>Heap.get?_push_of_some _ e,L2.turn_list a _,⟨_,Heap.get?_push_size _ rfl,rfl,rfl⟩,fun b hb=>?_,q⟩
  have e:b=s1.heap.objs.size:=by simpa using hb
  subst e
  exact I1.fpOk (Nat.le_refl _) (I1.hok.fresh (Nat.le_refl _))
 ·obtain ⟨its,rv,p,hz⟩:=I1.tuple hq
  refine wpAny_pyIter_tuple (show s1.heap.IsTuple a its.toArray from p) ?_
  refine ⟨s1.heap.objs.size,[s1.heap.objs.size],_,_,H1,rfl,I1.kept (t':=s1.toks) fun b o e=>Heap.get?_push_of_some _ e,L2.turn_tuple a _,⟨_,Heap.get?_push_size _ rfl,rfl,rfl⟩,fun b hb=>?_,q⟩
  have e:b=s1.heap.objs.size:=by simpa using hb
  subst e
  exact I1.fpOk (Nat.le_refl _) (I1.hok.fresh (Nat.le_refl _))
theorem qGS (ha:SE X G F ea a):SI X G F tg ea (.list a):=by
 refine qMM (qMR ha) fun σc H Q q=>?_
 obtain ⟨φ,h,σ,s,h',R,rs,e,k⟩:=q
 unfold evi at e
 obtain ⟨⟨x,h1⟩,e1,e⟩:=Res.bind_inv e
 refine ⟨φ,h,σ,x,h1,R,rs,e1,fun φ1 H1 w x1 R1 r1=>?_⟩
 cases x with
 | ref p=>
  dsimp only at e
  cases ey:h1[p]? with
  | none=>rw [ey] at e;cases e
  | some o=>
   cases o with
   | lst fz ys=>
    rw [ey] at e
    cases e
    obtain ⟨q,zs,hq,hs,rz⟩:=R1.lst (i:=p) (xs:=ys) (by unfold qAL;rw [ey])
    obtain ⟨q',rfl,hq'⟩:=qAN r1
    rw [hq] at hq';cases hq'
    exact ⟨_,rfl,.inl ⟨⟨zs,hs⟩,k φ1 H1 _ x1 R1 ⟨_,hq,rfl⟩⟩⟩
   | tup ys=>
    rw [ey] at e
    cases e
    obtain ⟨q,zs,hq,hs,rz⟩:=R1.tup (i:=p) (xs:=ys) (by unfold qAS;rw [ey])
    obtain ⟨q',rfl,hq'⟩:=qAN r1
    rw [hq] at hq';cases hq'
    exact ⟨_,rfl,.inr ⟨⟨zs,hs⟩,k φ1 H1 _ x1 R1 ⟨_,hq,rfl⟩⟩⟩
   | ob ks=>rw [ey] at e;cases e
 | _=>cases e
theorem qJu (hg:L2.Gl X "range") (hm:X.mg "range"=none) (hn:qAT ea=true) (ha:SE X G F ea a):SI X G F tg (.Call (.Name "range" p) [ea] [] pos) (.rng1 a):=by
 refine qMM (L2.pi_range1 hg hm (L2.pa_cons ha L2.pa_nil (qAE hn)) (qAE hn)) fun σc H Q q=>?_
 obtain ⟨φ,h,σ,s,h',R,rs,e,k⟩:=q
 unfold evi at e
 obtain ⟨⟨x,h1⟩,e1,e⟩:=Res.bind_inv e
 refine ⟨φ,h,σ,x,h1,R,rs,e1,fun φ1 H1 w x1 R1 r1=>?_⟩
 cases x with
 | int j=>
  dsimp only at e
  split at e
  ·rename_i hj
   cases e
   cases qAC r1
   exact ⟨j,rfl,by omega,by omega,k φ1 H1 _ x1 R1 rfl⟩
  ·cases e
 | _=>cases e
end
end PI
namespace PI
open PySem PySem.Spec PyProof.Rows PySem.SeqAt
open L2 (V Hp HO Cx PE PT PA PS PSs PG PGs PW TE TT TA TS TG TGs VK upd qAI qAM SqL SqT qEx Inv RelV Vals EP TP AP SP OpR qAp R2 It qGy qEc Itl Itt qEt)
section
variable {X:Cx} {G:List Addr} {F:Nat -> List V -> AH -> RV}
theorem qMb {φ:List Addr}:∀ {v w w':V},rv φ v w -> rv φ v w' -> w=w'
 | .ref _,w,w',h,g=>by
  obtain ⟨a,e1,h1⟩:=qAN h
  obtain ⟨b,e2,g1⟩:=qAN g
  rw [h1] at g1
  cases g1
  rw [e1,e2]
 | .non,_,_,h,g=>by rw [qAz h,qAz g]
 | .bl _,_,_,h,g=>by rw [qA8 h,qA8 g]
 | .int _,_,_,h,g=>by rw [qAC h,qAC g]
 | .str _,_,_,h,g=>by rw [qBA h,qBA g]
 | .byt _,w,_,h,_=>by cases w<;>exact False.elim h
 | .flt _,w,_,h,_=>by cases w<;>exact False.elim h
 | .ty _,w,_,h,_=>by cases w<;>exact False.elim h
theorem qEh {φ:List Addr}:∀ {vs ws us:List V},rvs φ vs ws -> rvs φ vs us -> ws=us
 | _,_,_,.nil,.nil=>rfl
 | _,_,_,.cons r t,.cons r' t'=>by rw [qMb r r',qEh t t']
theorem qCY {φ:List Addr} {σ σc:St} (r:rst φ σ σc):∀ src,rst φ (L2.inner src σ) (L2.inner src σc)
 | []=>.nil
 | none::src=>.cons trivial (qCY r src)
 | some j::src=>by
  refine .cons ?_ (qCY r src)
  show ropt φ (σ[j]?).join (σc[j]?).join
  cases e:σ[j]? with
  | none=>exact trivial
  | some o=>
   cases o with
   | none=>exact trivial
   | some v=>
    obtain ⟨oc,ec,r'⟩:=qAD r e
    obtain ⟨w,rfl,r'⟩:=r'
    rw [ec]
    exact ⟨w,rfl,r'⟩
variable (X G F) in
noncomputable abbrev SC (ifs:List Expr) (c:Es):Prop:=L2.PTs X ifs (tB X.K G (evc F c))
theorem qLf:SC X G F [] .nil:=by
 intro pins s σ H Q I q
 obtain ⟨φ,h,σa,b,h',R,rs,e,k⟩:=q
 unfold evc at e
 cases e
 exact L2.pts_nil pins s σ H Q I (k φ H (.refl _) R)
theorem qL2 {c:Expr} {a:E} (hc:ST X G F c a):SC X G F [c] (.cons a .nil):=by
 intro pins s σ H Q I q
 obtain ⟨φ,h,σa,b,h',R,rs,e,k⟩:=q
 unfold evc at e
 exact L2.pts_one hc pins s σ H Q I ⟨φ,h,σa,b,h',R,rs,e,k⟩
theorem qGV {it:Itr} {src:List (Option Nat)} {g:Tg} {c:Es} {e:E} {σc:St} {H:Hp} {Q:VK} (q:tE X.K G F (.comp it src g c e) σc H Q):
  L2.tComp (tI G F X.K it) src (tG X.K G g) (tB X.K G (evc F c)) (tE X.K G F e) σc H Q:=by
 obtain ⟨φ,h,σ,v,h',R,rs,ee,k⟩:=q
 unfold ev at ee
 obtain ⟨⟨s,h1⟩,e1,ee⟩:=Res.bind_inv ee
 refine ⟨φ,h,σ,s,h1,R,rs,e1,fun φ1 H1 J x1 R1 j1=>?_⟩
 dsimp only at ee
 split at ee
 ·rename_i n hn
  intro D hD
  have R2:Rl X.K G (φ1++[D]) (h1++[.lst false []]) (upd H1 D (.lst [])):=R1.newL hD .nil
  have hDφ:(φ1++[D])[h1.length]?=some D:=R1.lastRef
  refine ⟨fun i m ys σ' H'=>∃ φ' h2 σa ya,Ext (φ1++[D]) φ'/\Rl X.K G φ' h2 H'/\rst φ' σa σ'/\rvs φ' ya ys/\h2[h1.length]?=some (.lst false ya)/\qCt s g (evc F c) (ev F e) h1.length m i ya σa h2=.ok (v,h'),
   ⟨n,φ1++[D],_,_,[],.refl _,R2,qCY (rst.mono (x1.trans ⟨[D],rfl⟩) rs) src,.nil,by simp,ee⟩,?_⟩
  rintro i m ys σ' H' ⟨φ',h2,σa,ya,x2,Ra,rsa,rya,hya,ec⟩ hys
  have jj:IsJ X.K φ' s J:=j1.mono (Ext.trans ⟨[D],rfl⟩ x2)
  have hDφ':=x2.get hDφ
  cases m with
  | zero=>
   unfold qCt at ec
   split at ec
   ·rename_i hst
    cases ec
    exact .inl ⟨jj.stop Ra hst,k φ' H' _ ((x1.trans ⟨[D],rfl⟩).trans x2) Ra hDφ'⟩
   ·cases ec
  | succ m=>
   unfold qCt at ec
   split at ec
   ·rename_i x h3 hy
    split at ec
    ·rename_i σ3 hst
     refine .inr ⟨jj.go Ra hy,fun xv H2 hyl=>?_⟩
     obtain ⟨φ3,x3,R3,rx⟩:=jj.yld Ra hy hyl
     refine ⟨φ3,h3,σa,x,σ3,R3,rst.mono x3 rsa,rx,hst,fun σc3 rs3=>?_⟩
     obtain ⟨⟨t,h4⟩,e4,ec⟩:=Res.bind_inv ec
     refine ⟨φ3,h3,σ3,t,h4,R3,rs3,e4,fun φ4 H4 x4 R4=>?_⟩
     dsimp only at ec
     cases t with
     | true=>
      rw [if_pos rfl] at ec ⊢
      obtain ⟨⟨y,h5⟩,e5,ec⟩:=Res.bind_inv ec
      refine ⟨φ4,h4,σ3,y,h5,R4,rst.mono x4 rs3,e5,fun φ5 H5 yc x5 R5 r5=>?_⟩
      dsimp only at ec
      split at ec
      ·rename_i hc5
       have xx:Ext φ' φ5:=x3.trans (x4.trans x5)
       have hD5:=xx.get hDφ'
       obtain ⟨zs,hz,rz⟩:=R5.obj _ _ D hc5.1 hD5
       have ez:zs=ys:=qEh rz (rvs.mono xx rya)
       subst ez
       refine ⟨hz,by rw [<- Paired.length rz];exact Nat.lt_trans hc5.2 qJJ,m,Nat.lt_succ_self _,φ5,_,σ3,_,x2.trans xx,R5.set hc5.1 hD5 (qAO rz (.cons r5 .nil)),rst.mono (x4.trans x5) rs3,qAO rz (.cons r5 .nil),?_,ec⟩
       rw [List.getElem?_set_self (List.getElem?_eq_some_iff.mp hc5.1).1]
      ·cases ec
     | false=>
      rw [if_neg (by decide)] at ec ⊢
      split at ec
      ·rename_i hc4
       have xx:Ext φ' φ4:=x3.trans x4
       have hD4:=xx.get hDφ'
       obtain ⟨zs,hz,rz⟩:=R4.obj _ _ D hc4 hD4
       have ez:zs=ys:=qEh rz (rvs.mono xx rya)
       subst ez
       exact ⟨hz,m,Nat.lt_succ_self _,φ4,_,σ3,_,x2.trans xx,R4,rst.mono x4 rs3,rz,hc4,ec⟩
      ·cases ec
    ·cases ec
   ·cases ec
 ·cases ee
end
end PI
namespace PI
open PySem PySem.Spec PyProof.Rows PySem.SeqAt
open L2 (V Hp HO Cx PE PT PA PS PSs PG PGs PW TE TT TA TS TG TGs VK upd qAI qAM SqL SqT qEx Inv RelV Vals EP TP AP SP OpR qAp R2 It qGy qEc Itl Itt qEt)
section
variable {X:Cx} {G:List Addr} {F:Nat -> List V -> AH -> RV} {a b c:E} {ea eb ec tg:Expr} {pos:Pos}
theorem qGe {iter elt:Expr} {ifs:List Expr} {scope:Scope} {N:List Str} {it:Itr} {src:List (Option Nat)} {g:Tg} {cs:Es} {e:E} (hc:X.calm=true) (hi:SI X G F tg iter it) (S:L2.CompScope X scope N src)
  (hg:∀ C fp s H,SG (L2.cxComp X scope C fp s H N) G tg g) (ht:∀ C fp s H,SC (L2.cxComp X scope C fp s H N) G F ifs cs) (he:∀ C fp s H,SE (L2.cxComp X scope C fp s H N) G F elt e)
  (hs:∀ x,foldedSetIterable iter X.env x=pure x):SE X G F (.ListComp elt [⟨tg,iter,ifs,0⟩] scope pos) (.comp it src g cs e):=
 qAj (L2.pe_comp hc hi S hg ht he hs) fun _ _ _=>qGV
noncomputable def Post (K:PySem.W.Frag) (G:List Addr) (D:qEt) (φ:List Addr) (o:Out) (h':AH):Prop:=∀ φ' H',Ext φ φ' -> Rl K G φ' h' H' -> match o with
 | .nx σ=>∀ σc,rst φ' σ σc -> D.nx σc H'
 | .rt v=>∀ w,rv φ' v w -> D.rt w H'
 | .bk σ=>∀ σc,rst φ' σ σc -> D.bk σc H'
 | .ct σ=>∀ σc,rst φ' σ σc -> D.ct σc H'
theorem Post.mono {K:PySem.W.Frag} {D:qEt} {φ φ1:List Addr} {o:Out} {h':AH} (x:Ext φ φ1) (p:Post K G D φ o h'):Post K G D φ1 o h':=fun φ' H' x' R=>p φ' H' (x.trans x') R
noncomputable def tS (K:PySem.W.Frag) (G:List Addr) (r:St -> AH -> RS):TS:=fun D σc H=>∃ φ h σ o h',Rl K G φ h H/\rst φ σ σc/\r σ h=.ok (o,h')/\Post K G D φ o h'
variable (X G F) in
noncomputable abbrev SS (st:Stmt) (s:S):Prop:=PS X st (tS X.K G (ex F s))
variable (X G F) in
noncomputable abbrev SSs (st:List Stmt) (s:Ss):Prop:=PSs X st (tS X.K G (exs F s))
theorem qDW {e:Stmt} {t t':TS} (h:PS X e t) (w:∀ D σ H,t' D σ H -> t D σ H):PS X e t':=fun pins s σ H D I q=>h pins s σ H D I (w D σ H q)
theorem qI0 {e:List Stmt} {t t':TS} (h:PSs X e t) (w:∀ D σ H,t' D σ H -> t D σ H):PSs X e t':=fun pins s σ H D I q=>h pins s σ H D I (w D σ H q)
theorem qAR {st:Stmt}:SS X G F st .stop:=by
 intro pins s σ H D I q
 obtain ⟨φ,h,σa,o,h',R,rs,e,k⟩:=q
 unfold ex at e
 cases e
noncomputable def qBr:Expr -> Bool
 | .ListComp ..=>false
 | .SetComp ..=>false
 | .DictComp ..=>false
 | _=>true
theorem qBp {e:Expr} {t:Option Expr} {l:Nat} {env:Env} (h:qBr e=true):swapsWith e t l env=pure false:=by
 cases e<;>first | rfl | cases h
theorem qDL {e t:Expr} {l:Nat} {env:Env} (h:qBr e=true):swapsWithSole [t] e l env=pure false:=qBp h
theorem qJy {K:PySem.W.Frag} {σ:St} {H:Hp} {Q Q':VK} (q:tE K G F a σ H Q) (w:∀ v H,Q v H -> Q' v H):tE K G F a σ H Q':=by
 obtain ⟨φ,h,σa,v,h',R,rs,e,k⟩:=q
 exact ⟨φ,h,σa,v,h',R,rs,e,fun φ' H' u x' R' r'=>w u H' (k φ' H' u x' R' r')⟩
theorem qHc {g:Tg} {D:qEt} {σc:St} {H:Hp} (q:tS X.K G (ex F (.asg g a)) D σc H):L2.tAsg (tE X.K G F a) (tG X.K G g) D σc H:=by
 obtain ⟨φ,h,σ,o,h',R,rs,e,k⟩:=q
 unfold ex at e
 obtain ⟨⟨x,h1⟩,e1,e⟩:=Res.bind_inv e
 dsimp only at e
 split at e
 ·rename_i σ1 es
  cases e
  exact ⟨φ,h,σ,x,_,R,rs,e1,fun φ1 H1 w x1 R1 r1=>⟨φ1,_,σ,x,σ1,R1,rst.mono x1 rs,r1,es,fun σc' rs'=>k φ1 H1 x1 R1 σc' rs'⟩⟩
 ·cases e
theorem qJ7 {iter elt:Expr} {ifs:List Expr} {scope:Scope} {N:List Str} {it:Itr} {src:List (Option Nat)} {g:Tg} {cs:Es} {e:E} {i:Nat} {n:Str} {p cpos:Pos} (hc:X.calm=true) (hi:SI X G F tg iter it) (S:L2.CompScope X scope N src)
  (hg:∀ C fp s H,SG (L2.cxComp X scope C fp s H N) G tg g) (ht:∀ C fp s H,SC (L2.cxComp X scope C fp s H N) G F ifs cs) (he:∀ C fp s H,SE (L2.cxComp X scope C fp s H N) G F elt e)
  (hs:∀ x,foldedSetIterable iter X.env x=pure x) (hN:X.N.Nodup) (hn:X.N[i]?=some n) (hx:L2.Loc X.env.scope n) (hf:X.fn n=true\/X.env.scope.names.lookup n=some .local):
  SS X G F (.Assign [.Name n p] (.ListComp elt [⟨tg,iter,ifs,0⟩] scope cpos) pos) (.asg (.name i) (.comp it src g cs e)):=by
 have hsw:swapsWith (.ListComp elt [⟨tg,iter,ifs,0⟩] scope cpos) (some (.Name n p)) pos.line X.env=pure (X.env.blockKind==.function&&X.env.kindOf n==some .local&&p.line==(Expr.ListComp elt [⟨tg,iter,ifs,0⟩] scope cpos).pos.line
   && !(scope.names.any fun (m,k)=>m==n&&(k==.local||k==.cell))):=rfl
 generalize hb:(X.env.blockKind==.function&&X.env.kindOf n==some .local&&p.line==(Expr.ListComp elt [⟨tg,iter,ifs,0⟩] scope cpos).pos.line
   && !(scope.names.any fun (m,k)=>m==n&&(k==.local||k==.cell)))=bb at hsw
 cases bb with
 | true=>
  have hl:X.env.scope.names.lookup n=some .local:=by
   simp only [Bool.and_eq_true] at hb
   have z:X.env.kindOf n=some .local:=by simpa using hb.1.1.2
   exact z
  refine qDW (L2.ps_setcomp (i:=i) (g:=tG X.K G g) (tc:=tB X.K G (evc F cs)) (te:=tE X.K G F e) hc hi S hg ht he hsw hN hn hl hs) fun D σc H q=>?_
  refine qGV (qJy (qHc q) fun v H1 z=>?_)
  obtain ⟨φ,h,σ,w,σ',R,rs,r,es,k⟩:=z
  unfold store at es
  cases es
  exact k _ (qAs (R:=ropt φ) (show ropt φ (some w) (some v) from ⟨v,rfl,r⟩) i rs)
 | false=>exact qDW (L2.ps_asg (qGe hc hi S hg ht he hs) (qGz hN hn hx hf) hsw rfl rfl) fun _ _ _=>qHc
noncomputable def qNT:L2.TSet:=fun o i v H Q=>L2.rSetL o i v H Q\/∃ p H',o=.ref p/\L2.DPut H p i v H'/\Q H'
theorem qJn (hu:X.A.units + 8 < cLine):L2.PSet X qNT:=by
 intro pins s σ H o i v ov iv u Q I ro ri rv h
 rcases h with h | ⟨p,H',rfl,g,q⟩
 ·exact L2.set_list pins s σ H o i v ov iv u Q I ro ri rv h
 ·cases ro
  exact L2.d_setItem (by omega) I g ri rv fun s' I'=>⟨H',I',q⟩
theorem qK3 (hu:X.A.units + 8 < cLine) {eo ei:Expr} {o i:E} {p:Pos} (ho:SE X G F eo o) (hi:SE X G F ei i) (ha:SE X G F ea a) (hc:qBr ea=true) (hsl:qCq ei=true):SS X G F (.Assign [.Subscript eo ei p] ea pos) (.put o i a):=by
 refine qDW (L2.ps_asg ha (L2.pg_sub ho hi (qJn hu) (fun v=>by cases ei<;>first | rfl | cases hsl)) (qDL hc) (by cases ea<;>rfl) rfl) fun D σc H q=>?_
 obtain ⟨φ,h,σ,out,h',R,rs,e,k⟩:=q
 unfold ex at e
 obtain ⟨⟨x,h1⟩,e1,e⟩:=Res.bind_inv e
 obtain ⟨⟨p1,h2⟩,e2,e⟩:=Res.bind_inv e
 obtain ⟨⟨k1,h3⟩,e3,e⟩:=Res.bind_inv e
 refine ⟨φ,h,σ,x,h1,R,rs,e1,fun φ1 H1 w x1 R1 r1=>?_⟩
 refine ⟨φ1,h1,σ,p1,h2,R1,rst.mono x1 rs,e2,fun φ2 H2 w2 x2 R2 r2=>?_⟩
 refine ⟨φ2,h2,σ,k1,h3,R2,rst.mono (x1.trans x2) rs,e3,fun φ3 H3 w3 x3 R3 r3=>?_⟩
 cases p1 with
 | ref q=>
  cases k1 with
  | int j=>
   dsimp only at e
   split at e
   ·rename_i xs ex1
    split at e
    ·rename_i jj ej
     cases e
     obtain ⟨q1,a',zs,ha',hH,rz⟩:=R3.mut ex1
     obtain ⟨a2,rfl,ha2⟩:=qAN (rv.mono x3 r2)
     rw [ha'] at ha2;cases ha2
     cases qAC r3
     refine .inl ⟨_,zs,j,jj,rfl,rfl,hH,by rw [<- Paired.length rz];exact ej,?_⟩
     have xx:Ext φ φ3:=x1.trans (x2.trans x3)
     exact k φ3 _ xx (R3.set q1 ha' (qAs (rv.mono (x2.trans x3) r1) jj rz)) σc (rst.mono xx rs)
    ·cases e
   ·split at e
    ·rename_i kvs ed
     split at e
     ·rename_i hf
      cases e
      obtain ⟨a',ea,eh,hH⟩:=R3.dct ed
      obtain ⟨a2,rfl,ha2⟩:=qAN (rv.mono x3 r2)
      rw [ea] at ha2;cases ha2
      cases qAC r3
      have hl:(kvs.map kk).length < sizeLine:=by rw [List.length_map];exact Nat.lt_of_lt_of_le hf.2 qB3
      have xx:Ext φ φ3:=x1.trans (x2.trans x3)
      have fw:=qEj hf.1 r1
      subst fw
      refine .inr ⟨_,_,rfl,L2.DPut.k (k:=.inl j) hH hl,?_⟩
      rw [qKB]
      exact k φ3 _ xx (R3.write rfl rfl eh ea qAI) σc (rst.mono xx rs)
     ·cases e
    ·cases e
  | _=>cases e
 | _=>cases e
theorem qHK (ha:SE X G F ea a) (hc:qBr ea=true):SS X G F (.Expr ea pos) (.expr a):=by
 refine qDW (L2.ps_expr ha (qBp hc)) fun D σc H q=>?_
 obtain ⟨φ,h,σ,out,h',R,rs,e,k⟩:=q
 unfold ex at e
 obtain ⟨⟨x,h1⟩,e1,e⟩:=Res.bind_inv e
 cases e
 exact ⟨φ,h,σ,x,_,R,rs,e1,fun φ1 H1 w x1 R1 r1=>k φ1 H1 x1 R1 σc (rst.mono x1 rs)⟩
theorem qMW (ha:SE X G F ea a):SS X G F (.Return (some ea) pos) (.ret a):=by
 refine qDW (L2.ps_ret ha) fun D σc H q=>?_
 obtain ⟨φ,h,σ,out,h',R,rs,e,k⟩:=q
 unfold ex at e
 obtain ⟨⟨x,h1⟩,e1,e⟩:=Res.bind_inv e
 cases e
 exact ⟨φ,h,σ,x,_,R,rs,e1,fun φ1 H1 w x1 R1 r1=>k φ1 H1 x1 R1 w r1⟩
theorem qJl:SSs X G F [] .nil:=by
 refine qI0 L2.pss_nil fun D σc H q=>?_
 obtain ⟨φ,h,σ,out,h',R,rs,e,k⟩:=q
 unfold exs at e
 cases e
 exact k φ H (.refl _) R σc rs
theorem qIM {st:Stmt} {sts:List Stmt} {s:S} {ss:Ss} (h1:SS X G F st s) (h2:SSs X G F sts ss):SSs X G F (st::sts) (.cons s ss):=by
 refine qI0 (L2.pss_cons h1 h2) fun D σc H q=>?_
 obtain ⟨φ,h,σ,out,h',R,rs,e,k⟩:=q
 unfold exs at e
 obtain ⟨⟨o,h1⟩,e1,e⟩:=Res.bind_inv e
 refine ⟨φ,h,σ,o,h1,R,rs,e1,fun φ1 H1 x1 R1=>?_⟩
 cases o with
 | nx σ1=>exact fun σc1 rs1=>⟨φ1,h1,σ1,out,h',R1,rs1,e,k.mono x1⟩
 | rt v=>cases e;exact k φ1 H1 x1 R1
 | bk σ1=>cases e;exact k φ1 H1 x1 R1
 | ct σ1=>cases e;exact k φ1 H1 x1 R1
theorem qLU {t u:List Stmt} {st su:Ss} (hc:ST X G F ec c) (ht:SSs X G F t st) (hu:SSs X G F u su):SS X G F (.If ec t u pos) (.ifs c st su):=by
 refine qDW (L2.ps_if hc ht hu) fun D σc H q=>?_
 obtain ⟨φ,h,σ,out,h',R,rs,e,k⟩:=q
 unfold ex at e
 obtain ⟨⟨x,h1⟩,e1,e⟩:=Res.bind_inv e
 refine ⟨φ,h,σ,x,h1,R,rs,e1,fun φ1 H1 x1 R1=>?_⟩
 dsimp only at e
 cases x with
 | true=>
  rw [if_pos rfl] at e ⊢
  exact ⟨φ1,h1,σ,out,h',R1,rst.mono x1 rs,e,k.mono x1⟩
 | false=>
  rw [if_neg (by decide)] at e ⊢
  exact ⟨φ1,h1,σ,out,h',R1,rst.mono x1 rs,e,k.mono x1⟩
theorem qL8 {iter:Expr} {body:List Stmt} {it:Itr} {g:Tg} {sb:Ss} (hx:X.xe=fun _ _=>False) (hc:X.calm=true) (hi:SI X G F tg iter it) (hg:SG X G tg g) (hb:SSs X G F body sb)
  (hs:∀ x,foldedSetIterable iter X.env x=pure x):SS X G F (.For tg iter body [] pos) (.for_ g it sb):=by
 refine qDW (L2.ps_for (by rw [hx];exact PassesOwn.never) hc hi hg hb hs) fun D σc H q=>?_
 obtain ⟨φ,h,σ,out,h',R,rs,e,k⟩:=q
 unfold ex at e
 obtain ⟨⟨s,h1⟩,e1,e⟩:=Res.bind_inv e
 refine ⟨φ,h,σ,s,h1,R,rs,e1,fun φ1 H1 J x1 R1 j1=>?_⟩
 dsimp only at e
 split at e
 ·rename_i n hn
  refine ⟨fun i m σ' H'=>∃ φ' h2 σa,Ext φ1 φ'/\Rl X.K G φ' h2 H'/\rst φ' σa σ'/\qEO s g (exs F sb) m i σa h2=.ok (out,h'),⟨n,φ1,h1,σ,.refl _,R1,rst.mono x1 rs,e⟩,?_⟩
  rintro i m σ' H' ⟨φ',h2,σa,x2,Ra,rsa,ef⟩
  have jj:IsJ X.K φ' s J:=j1.mono x2
  cases m with
  | zero=>
   unfold qEO at ef
   split at ef
   ·rename_i hst
    cases ef
    exact .inl ⟨jj.stop Ra hst,k φ' H' (x1.trans x2) Ra σ' rsa⟩
   ·cases ef
  | succ m=>
   unfold qEO at ef
   split at ef
   ·rename_i x h3 hy
    split at ef
    ·rename_i σ3 hst
     refine .inr ⟨jj.go Ra hy,fun σ' H'=>∃ φ' h2 σa,Ext φ1 φ'/\Rl X.K G φ' h2 H'/\rst φ' σa σ'/\qEO s g (exs F sb) m (i + 1) σa h2=.ok (out,h'),fun σ2 H2 w=>⟨m,Nat.lt_succ_self _,w⟩,fun xv H2 hyl=>?_⟩
     obtain ⟨φ3,x3,R3,rx⟩:=jj.yld Ra hy hyl
     refine ⟨φ3,h3,σa,x,σ3,R3,rst.mono x3 rsa,rx,hst,fun σc3 rs3=>?_⟩
     obtain ⟨⟨o,h4⟩,e4,ef⟩:=Res.bind_inv ef
     refine ⟨φ3,h3,σ3,o,h4,R3,rs3,e4,fun φ4 H4 x4 R4=>?_⟩
     dsimp only at ef
     cases o with
     | nx σ4=>exact fun σc4 rs4=>⟨φ4,h4,σ4,x2.trans (x3.trans x4),R4,rs4,ef⟩
     | ct σ4=>exact fun σc4 rs4=>⟨φ4,h4,σ4,x2.trans (x3.trans x4),R4,rs4,ef⟩
     | bk σ4=>cases ef;exact k φ4 H4 (x1.trans (x2.trans (x3.trans x4))) R4
     | rt v=>cases ef;exact k φ4 H4 (x1.trans (x2.trans (x3.trans x4))) R4
    ·cases ef
   ·cases ef
 ·cases e
end
end PI
namespace PI
open L2 (V)
noncomputable def NX {α:Type} (r:Res α):Prop:=∀ c h,r≠.exc c h
theorem NX.ok {α:Type} (a:α):NX (.ok a):=fun _ _ z=>nomatch z
theorem NX.st {α:Type}:NX (.stuck:Res α):=fun _ _ z=>nomatch z
theorem NX.nx {α:Type} (r:Res α):NX r.nx:=by cases r<;>(intro c h z;cases z)
theorem NX.bind {α β:Type} {r:Res α} {f:α -> Res β} (h:NX r) (k:∀ a,NX (f a)):NX (r.bind f):=by
 cases r with
 | ok a=>exact k a
 | exc c h'=>exact absurd rfl (h c h')
 | stuck=>exact NX.st
theorem qDe {x y:V} {f:Int -> Int -> RV} (h:∀ i j,NX (f i j)):NX (qFB x y f):=by
 unfold qFB;split
 ·split
  ·exact h _ _
  ·exact NX.st
 ·exact NX.st
theorem qE0 {x:V} {f:Nat -> RV} (h:∀ a,NX (f a)):NX (qHg x f):=by
 unfold qHg;split
 ·exact h _
 ·exact NX.st
theorem qGW {as:List V} {f:V -> RV} (h:∀ a,NX (f a)):NX (one as f):=by
 unfold one;split
 ·exact h _
 ·exact NX.st
theorem qGo {as:List V} {f:V -> V -> RV} (h:∀ a b,NX (f a b)):NX (two as f):=by
 unfold two;split
 ·exact h _ _
 ·exact NX.st
theorem qKq {op:BOp} {x y:V} {h:AH}:NX (qJo op x y h):=by
 unfold qJo newL
 cases op<;>try dsimp only<;>(repeat (first | exact NX.ok _ | exact NX.st | refine qGW fun _=>?_ | refine qGo fun _ _=>?_ | refine qE0 fun _=>?_ | refine qDe fun _ _=>?_ | split))
theorem qIf {op:COp} {x y:V} {h:AH}:NX (qHf op x y h):=by unfold qHf;(repeat (first | exact NX.ok _ | exact NX.st | split))
theorem qKu {f:BF} {as:List V} {h:AH}:NX (qKn f as h):=by
 unfold qKn newL newT qLM
 cases f<;>try dsimp only<;>(repeat (first | exact NX.ok _ | exact NX.st | refine qGW fun _=>?_ | refine qGo fun _ _=>?_ | refine qE0 fun _=>?_ | refine qDe fun _ _=>?_ | split))
theorem qJm {m:Mt} {p:Nat} {ys:List V} {h:AH}:NX (qEf m p ys h):=by unfold qEf;(repeat (first | exact NX.ok _ | exact NX.st | refine qGW fun _=>?_ | refine qGo fun _ _=>?_ | refine qE0 fun _=>?_ | refine qDe fun _ _=>?_ | split))
theorem qDN {r:RV} (h:NX r):NX (asB r):=by
 unfold asB
 refine NX.bind h fun a=>?_
 (repeat (first | exact NX.ok _ | exact NX.st | split))
theorem qDi {s:Src} {g:Tg} {c:St -> AH -> Res (Bool×AH)} {e:St -> AH -> RV} {D:Nat} (hc:∀ σ h,NX (c σ h)) (he:∀ σ h,NX (e σ h)):∀ (n i:Nat) (ys:List V) (σ:St) (h:AH),NX (qCt s g c e D n i ys σ h)
 | 0,i,ys,σ,h=>by unfold qCt;(repeat (first | exact NX.ok _ | exact NX.st | split))
 | n + 1,i,ys,σ,h=>by
  unfold qCt
  split
  ·split
   ·refine NX.bind (hc _ _) fun a=>?_
    try dsimp only
    split
    ·refine NX.bind (he _ _) fun b=>?_
     try dsimp only
     split
     ·exact qDi hc he n _ _ _ _
     ·exact NX.st
    ·split
     ·exact qDi hc he n _ _ _ _
     ·exact NX.st
   ·exact NX.st
  ·exact NX.st
section
variable (F:Nat -> List V -> AH -> RV)
mutual
theorem qAb:∀ (e:E) (σ:St) (h:AH),NX (ev F e σ h)
 | .var i,σ,h=>by unfold ev;(repeat (first | exact NX.ok _ | exact NX.st | split))
 | .cst v,σ,h=>by unfold ev;(repeat (first | exact NX.ok _ | exact NX.st | split))
 | .glob g,σ,h=>by unfold ev;(repeat (first | exact NX.ok _ | exact NX.st | split))
 | .bin op a b,σ,h=>by unfold ev;exact NX.bind (qAb a σ h) fun _=>NX.bind (qAb b σ _) fun _=>qKq
 | .neg a,σ,h=>by unfold ev;refine NX.bind (qAb a σ h) fun _=>?_;(repeat (first | exact NX.ok _ | exact NX.st | split))
 | .cmp op a b,σ,h=>by unfold ev;exact NX.bind (qAb a σ h) fun _=>NX.bind (qAb b σ _) fun _=>qIf
 | .cmp2 o1 o2 a b c,σ,h=>by
  unfold ev;refine NX.bind (qAb a σ h) fun _=>NX.bind (qAb b σ _) fun _=>?_
  (try dsimp only);split
  ·exact NX.bind (qAb c σ _) fun _=>qIf
  ·exact NX.ok _
  ·exact NX.st
 | .and a b,σ,h=>by unfold ev;refine NX.bind (qDN (qAb a σ h)) fun _=>?_;(try dsimp only);split;exact qAb b σ _;exact NX.ok _
 | .or a b,σ,h=>by unfold ev;refine NX.bind (qDN (qAb a σ h)) fun _=>?_;(try dsimp only);split;exact NX.ok _;exact qAb b σ _
 | .not a,σ,h=>by unfold ev;exact NX.bind (qDN (qAb a σ h)) fun _=>NX.ok _
 | .call f as,σ,h=>by unfold ev;exact NX.bind (qB1 as σ h) fun _=>NX.nx _
 | .blt f as,σ,h=>by unfold ev;exact NX.bind (qB1 as σ h) fun _=>qKu
 | .isi a ts,σ,h=>by unfold ev;refine NX.bind (qAb a σ h) fun _=>?_;(repeat (first | exact NX.ok _ | exact NX.st | split))
 | .idx a b,σ,h=>by unfold ev;refine NX.bind (qAb a σ h) fun _=>NX.bind (qAb b σ _) fun _=>?_;(repeat (first | exact NX.ok _ | exact NX.st | split))
 | .sl a lo hi,σ,h=>by unfold ev newL newT;refine NX.bind (qAb a σ h) fun _=>NX.bind (qB1 lo σ _) fun _=>NX.bind (qB1 hi σ _) fun _=>?_;(repeat (first | exact NX.ok _ | exact NX.st | split))
 | .lst as,σ,h=>by unfold ev newL;refine NX.bind (qB1 as σ h) fun _=>?_;(repeat (first | exact NX.ok _ | exact NX.st | split))
 | .tup as,σ,h=>by unfold ev newT;refine NX.bind (qB1 as σ h) fun _=>?_;(repeat (first | exact NX.ok _ | exact NX.st | split))
 | .comp it src g c e,σ,h=>by
  unfold ev;refine NX.bind (qI9 it σ h) fun _=>?_
  (try dsimp only);split
  ·exact qDi (qMV c) (qAb e) _ _ _ _ _
  ·exact NX.st
 | .app a b,σ,h=>by
  unfold ev;refine NX.bind (qAb a σ h) fun _=>?_
  (try dsimp only);split
  ·split
   ·refine NX.bind (qAb b σ _) fun _=>?_
    (repeat (first | exact NX.ok _ | exact NX.st | split))
   ·exact NX.st
  ·exact NX.st
 | .nset a,σ,h=>by unfold ev;refine NX.bind (qAb a σ h) fun _=>?_;(repeat (first | exact NX.ok _ | exact NX.st | split))
 | .lrng2 a b,σ,h=>by unfold ev;refine NX.bind (qAb a σ h) fun _=>?_;refine NX.bind (qAb b σ _) fun _=>?_;unfold newL;refine qDe fun _ _=>?_;(repeat (first | exact NX.ok _ | exact NX.st | split))
 | .lrng a,σ,h=>by unfold ev newL;refine NX.bind (qAb a σ h) fun _=>?_;(repeat (first | exact NX.ok _ | exact NX.st | split))
 | .dnew,σ,h=>by unfold ev;(repeat (first | exact NX.ok _ | exact NX.st | split))
 | .meth m a as,σ,h=>by
  unfold ev;refine NX.bind (qAb a σ h) fun _=>?_
  (try dsimp only);split
  ·split
   ·exact NX.bind (qB1 as σ _) fun _=>qJm
   ·exact NX.st
  ·exact NX.st
theorem qB1:∀ (as:Es) (σ:St) (h:AH),NX (evs F as σ h)
 | .nil,σ,h=>by unfold evs;exact NX.ok _
 | .cons a as,σ,h=>by unfold evs;exact NX.bind (qAb a σ h) fun _=>NX.bind (qB1 as σ _) fun _=>NX.ok _
theorem qMV:∀ (as:Es) (σ:St) (h:AH),NX (evc F as σ h)
 | .nil,σ,h=>by unfold evc;exact NX.ok _
 | .cons a _,σ,h=>by unfold evc;exact qDN (qAb a σ h)
theorem qI9:∀ (it:Itr) (σ:St) (h:AH),NX (evi F it σ h)
 | .list a,σ,h=>by unfold evi;refine NX.bind (qAb a σ h) fun _=>?_;(repeat (first | exact NX.ok _ | exact NX.st | split))
 | .rng1 a,σ,h=>by unfold evi;refine NX.bind (qAb a σ h) fun _=>?_;(repeat (first | exact NX.ok _ | exact NX.st | split))
 | .rvr a,σ,h=>by unfold evi;refine NX.bind (qAb a σ h) fun _=>?_;(repeat (first | exact NX.ok _ | exact NX.st | split))
end
mutual
noncomputable def S.calm:S -> Bool
 | .ifs _ t u=>t.calm&&u.calm
 | .for_ _ _ b=>b.calm
 | .xexpr _ _=>false
 | .nloop _ _ _ _ _=>false
 | .retc _ _=>false
 | .raise _=>false
 | .tryK _ _ _ _ _=>true
 | _=>true
noncomputable def Ss.calm:Ss -> Bool
 | .nil=>true
 | .cons s r=>s.calm&&r.calm
end
theorem qEo {s:Src} {g:Tg} {b:St -> AH -> RS} (hb:∀ σ h,NX (b σ h)):∀ (n i:Nat) (σ:St) (h:AH),NX (qEO s g b n i σ h)
 | 0,i,σ,h=>by unfold qEO;(repeat (first | exact NX.ok _ | exact NX.st | split))
 | n + 1,i,σ,h=>by
  unfold qEO
  split
  ·split
   ·refine NX.bind (hb _ _) fun a=>?_
    try dsimp only
    split
    ·exact qEo hb n _ _ _
    ·exact qEo hb n _ _ _
    ·exact NX.ok _
    ·exact NX.ok _
   ·exact NX.st
  ·exact NX.st
mutual
theorem qLV:∀ (s:S),s.calm=true -> ∀ (σ:St) (h:AH),NX (ex F s σ h)
 | .asg g e,_,σ,h=>by unfold ex;refine NX.bind (qAb F e σ h) fun _=>?_;(repeat (first | exact NX.ok _ | exact NX.st | split))
 | .put o i v,_,σ,h=>by unfold ex;refine NX.bind (qAb F v σ h) fun _=>NX.bind (qAb F o σ _) fun _=>NX.bind (qAb F i σ _) fun _=>?_;(repeat (first | exact NX.ok _ | exact NX.st | split))
 | .expr e,_,σ,h=>by unfold ex;exact NX.bind (qAb F e σ h) fun _=>NX.ok _
 | .ret e,_,σ,h=>by unfold ex;exact NX.bind (qAb F e σ h) fun _=>NX.ok _
 | .ifs c t u,hc,σ,h=>by
  unfold S.calm at hc;rw [Bool.and_eq_true] at hc
  unfold ex;refine NX.bind (qDN (qAb F c σ h)) fun _=>?_
  (try dsimp only);split
  ·exact qE6 t hc.1 _ _
  ·exact qE6 u hc.2 _ _
 | .for_ g it b,hc,σ,h=>by
  unfold S.calm at hc
  unfold ex;refine NX.bind (qI9 F it σ h) fun _=>?_
  (try dsimp only);split
  ·exact qEo (qE6 b hc) _ _ _ _
  ·exact NX.st
 | .stop,_,σ,h=>by unfold ex;exact NX.st
 | .xexpr f as,hc,σ,h=>by unfold S.calm at hc;cases hc
 | .nloop _ _ _ _ _,hc,σ,h=>by unfold S.calm at hc;cases hc
 | .retc _ _,hc,σ,h=>by unfold S.calm at hc;cases hc
 | .raise c,hc,σ,h=>by unfold S.calm at hc;cases hc
 | .tryK b e i m ks,_,σ,h=>by
  unfold ex
  try dsimp only
  split
  ·split
   ·exact NX.ok _
   ·exact NX.st
  ·rename_i q
   intro c h' z
   exact q c h' z
theorem qE6:∀ (s:Ss),s.calm=true -> ∀ (σ:St) (h:AH),NX (exs F s σ h)
 | .nil,_,σ,h=>by unfold exs;exact NX.ok _
 | .cons s r,hc,σ,h=>by
  unfold Ss.calm at hc;rw [Bool.and_eq_true] at hc
  unfold exs;refine NX.bind (qLV s hc.1 σ h) fun _=>?_
  (try dsimp only);split
  ·exact qE6 r hc.2 _ _
  ·exact NX.ok _
end
end
end PI
namespace PI
open PySem PySem.Spec PyProof.Rows
open L2 (V Hp HO Cx PE PT PA PS PSs TE TT TA TS VK Un HOk ObjOk frs Inv RelV Vals EP TP AP SP CXT XK)
theorem qFE {P:Program} {w:World} {H:Hp} {h:Heap} {a:Addr} {o:HO} (x:ObjOk P w H h a o):∃ u,h.get? a=some u:=by
 induction o with
 | lst xs=>obtain ⟨z,its,n,r,e⟩:=x;exact ⟨_,e⟩
 | tup xs=>obtain ⟨z,its,r,ob,e,c⟩:=x;exact ⟨_,e⟩
 | dK kvs=>obtain ⟨_,_,vs,_,o,es,ep,h1,_⟩:=x;exact ⟨_,h1⟩
 | dT kvs=>obtain ⟨_,_,xs,_,o,es,ep,h1,_⟩:=x;exact ⟨_,h1⟩
 | set S n=>obtain ⟨o,_,_,_,e,_⟩:=x;exact ⟨_,e⟩
 | ins C dx fs=>obtain ⟨_,_,_,h1,_⟩:=x;exact ⟨_,h1⟩
 | own y=>exact x
 | xd fs=>obtain ⟨mA,⟨o,es,ep,h1,_⟩,_⟩:=x;exact ⟨_,h1⟩
 | met f y=>exact ⟨_,x⟩
 | rng lo hi=>obtain ⟨t,u,v,e⟩:=x;exact ⟨_,e⟩
 | frz o u ih=>exact ⟨_,x.1⟩
 | tbl ps=>exact ⟨_,x⟩
 | ext φ=>exact x.2.1
noncomputable def Cov (l:List Env) (s:Heap) (H':Hp) (B h:Heap):Prop:=∀ b o,h.get? b=some o -> b∉frs l -> ((∃ o',s.get? b=some o')\/H' b≠none) -> B.get? b=some o
theorem stay {P:Program} {w:World} {l:List Env} {H H':Hp} {s h h' B base:Heap} (un:Un (frs l) [] H H' s h) (hok:HOk P w H' h) (cov:Cov l s H' B h) (hs:B.StaysIn h') (up:h.UpToSlots h') (fre:∀ b∈frs l,H' b=none) (ff:h.FunFrames base l):
  Un (frs l) [] H H' s h'/\HOk P w H' h'/\Cov l s H' B h':=by
 have nof:∀ b∈frs l,∀ o,h.get? b=some o -> ∃ sl,h'.get? b=some { o with slots:=sl }:=fun b hb o e=>by
  obtain ⟨_,o1,e1,nf⟩:=ff.mem hb
  rw [e] at e1;cases e1
  exact up b o e nf
 have tr:∀ b o,H' b≠none -> h.get? b=some o -> h'.get? b=some o:=fun b o hb e=>hs _ _ (cov b o e (fun z=>hb (fre b z)) (.inr hb))
 refine ⟨⟨fun b o q n hb _=>?_,fun b o q n hb hx=>?_,fun b o q n hx=>un.free b o q n hx,fun b o q hx=>?_,un.tups,un.frzs,un.tbls⟩,fun a o e=>?_,fun b o e hb c=>?_⟩
 ·exact hs _ _ (cov b o (un.keep b o q n hb (by simp)) hb (.inl ⟨o,q⟩))
 ·obtain ⟨sl,e⟩:=un.slot b o q n hb hx
  obtain ⟨sl2,e2⟩:=nof b hb _ e
  exact ⟨sl2,e2⟩
 ·obtain ⟨o',e⟩:=un.there b o q hx
  by_cases hb:b∈frs l
  ·obtain ⟨sl,e2⟩:=nof b hb _ e
   exact ⟨_,e2⟩
  ·exact ⟨o',hs _ _ (cov b o' e hb (.inl ⟨o,q⟩))⟩
 ·refine (hok a o e).stay (fun b u hb q=>tr b u ?_ q) (fun b q=>q) fun b xs q=>q
  rcases hb with rfl | z
  ·rw [e];simp
  ·rw [z];simp
 ·have:∃ o',h.get? b=some o':=by
   rcases c with ⟨o1,q⟩ | hb'
   ·exact un.there b o1 q (by simp)
   ·cases q:H' b with
    | none=>exact absurd q hb'
    | some u=>exact qFE (hok b u q)
  obtain ⟨o',e'⟩:=this
  have z:=cov b o' e' hb c
  rw [hs _ _ z] at e
  cases e
  exact z
structure Fly (P:Program) (w:World) (l:List Env) (H:Hp) (s:Shared) (C ea:Addr) (H':Hp) (s':Shared):Prop where
 os:s'.os=s.os
 bare:AllBare s'.gens
 un:Un (frs l) [] H H' s.heap s'.heap
 hok:HOk P w H' s'.heap
 fl:∃ B a0,Heap.FlyingW B l ea (.ref C) a0 s'.heap/\Cov l s.heap H' B s'.heap
noncomputable def CX1 (P:Program) (w:World):CXT:=fun outer H s E e s'=>∃ ea C H',e=.ref ea/\Fly P w outer H s C ea H' s'/\E (.ref C) none H'
section
variable {X:Cx} {pins:List (Addr×Obj)} {σ:L2.St} {H H':Hp} {s s':Shared}
theorem ofs (I:Inv X pins σ H s) (hst:X.stack=X.env::X.outer) (hf:X.env.frame=some X.env.locals) {b:Addr} (hb:b∈frs X.stack):b=X.env.locals\/b∈X.fs:=by
 rw [hst] at hb
 unfold frs at hb
 rw [List.filterMap_cons,hf] at hb
 exact List.mem_cons.mp hb
theorem qJK {h' B:Heap} {C ea:Addr} {a0:Value} (I:Inv X pins σ H s) (hst:X.stack=X.env::X.outer) (hf:X.env.frame=some X.env.locals) (hex:X.ex=[]) (os:s'.os=s.os) (bare:AllBare s'.gens) (un:Un (frs X.stack) [] H H' s.heap h') (hok:HOk X.prog X.w H' h') (cov:Cov X.stack s.heap H' B h')
  (fl:Heap.FlyingW B X.outer ea (.ref C) a0 h'):Fly X.prog X.w X.outer X.H₀ X.s₀ C ea H' { s' with heap:=h' }:=by
 have I':Inv X pins σ H' { s' with heap:=h' }:=I.call' os un hok bare (fun b z=>absurd z (by simp))
 have b0:=I'.base
 rw [hex] at b0
 refine ⟨I'.os,bare,b0,hok,B,a0,fl,fun b o e hb c=>?_⟩
 refine cov b o e (fun z=>?_) ?_
 ·rcases ofs I hst hf z with rfl | z
  ·rcases c with ⟨o',q⟩ | q
   ·exact absurd (Heap.lt_size q) (Nat.not_lt.mpr I.ok.above)
   ·exact q I'.free
  ·exact hb z
 ·rcases c with ⟨o',q⟩ | q
  ·exact .inl (I.base.there b o' q (by rw [hex];simp))
  ·exact .inr q
theorem qFo {h base:Heap} {fs:List Addr}:∀ {l:List Env},(∀ b∈frs l,b∈fs) -> h.FunFrames base l -> h.FunFrames (PySem.W.hideAll h fs) l
 | [],_,_=>trivial
 | env::l,hs,⟨k,⟨L,o,f,_,e,n⟩,r⟩=>⟨k,⟨L,o,f,PySem.W.hideAll_none fs (hs L (by unfold frs;rw [List.filterMap_cons,f];exact List.mem_cons_self ..)),e,n⟩,qFo (fun b hb=>hs b (by
  unfold frs at hb ⊢
  rw [List.filterMap_cons,f]
  exact List.mem_cons_of_mem _ hb)) r⟩
theorem qE3 {h1:Heap} {C ea:Addr} {vs:List Value} {E:Value -> Shared -> Prop} (I:Inv X pins σ H s) (hst:X.stack=X.env::X.outer) (hf:X.env.frame=some X.env.locals) (hex:X.ex=[]) (hm:Heap.MadeExcOf s.heap h1 ea (.ref C) vs):
  wpAny (model X.prog X.w) X.A (leaving X.env (.ref ea)) (fun _ s''=>Fly X.prog X.w X.outer X.H₀ X.s₀ C ea H s'') E { s with heap:=h1 }:=by
 have fr:=I.ok.frames
 rw [hst] at fr
 have ff:=I.stack
 have fh:s.heap.FunFrames (PySem.W.hideAll s.heap (frs X.stack)) (X.env::X.outer):=by rw [<- hst];exact qFo (fun b hb=>hb) ff
 refine wpAny_leaves_madeW (base:=PySem.W.hideAll s.heap (frs X.stack)) (h:=s.heap) fr hf (fun b o e=>PySem.W.of_hideAll _ e) fh hm fun h' t fl _ _ up=>?_
 have ff1:h1.FunFrames X.base X.stack:=ff.of_keeps fun b o e _=>⟨o,hm.keeps b o e,rfl⟩
 have cov:Cov X.stack s.heap H (PySem.W.hideAll s.heap (frs X.stack)) h1:=fun b o e hb c=>by
  have:∃ o',s.heap.get? b=some o':=by
   rcases c with c | c
   ·exact c
   ·cases q:H b with
    | none=>exact absurd q c
    | some u=>exact qFE (I.hok b u q)
  obtain ⟨o',e'⟩:=this
  rw [hm.keeps b o' e'] at e
  cases e
  exact PySem.W.hideAll_get _ e' hb
 obtain ⟨u,k,c⟩:=stay (Un.kept hm.keeps) (I.hok.kept hm.keeps) cov fl.1 up I.stkFree ff1
 exact qJK (s':={ s with heap:=h1 }) I hst hf hex rfl I.bare u k c fl
theorem qFu {C ea:Addr} {E:Value -> Shared -> Prop} (I:Inv X pins σ H s) (hst:X.stack=X.env::X.outer) (hf:X.env.frame=some X.env.locals) (hex:X.ex=[]) (F:Fly X.prog X.w X.stack H s C ea H' s'):
  wpAny (model X.prog X.w) X.A (leaving X.env (.ref ea)) (fun _ s''=>Fly X.prog X.w X.outer X.H₀ X.s₀ C ea H' s'') E s':=by
 obtain ⟨B,a0,fl,cov⟩:=F.fl
 have fr:=I.ok.frames
 have fl0:=fl
 rw [hst] at fr fl
 refine wpAny_leaves_onW fr hf fl fun h' fl' up=>?_
 have fre:∀ b∈frs X.stack,H' b=none:=fun b hb=>by
  obtain ⟨_,o,e,_⟩:=I.stack.mem hb
  exact F.un.free b o e (I.stkFree b hb) (by simp)
 obtain ⟨u,k,c⟩:=stay F.un F.hok cov fl'.1 up fre fl0.2.2.1
 exact qJK (s':=s') I hst hf hex F.os F.bare u k c fl'
end
end PI
namespace PI
open PySem PySem.Spec PyProof.Rows PySem.W PySem.Builtin PySem.Builtin.ObjectAttr PySem.Builtin.Getset_descriptor
open L2 (V Hp HO Cx PE PT PA PS PSs TE TT TA TS VK Un HOk ObjOk frs Inv RelV Vals EP TP AP SP CXT XK qAp)
section
variable {K:Frag} {prog:Program} {w:World} {A:Around} {E:Value -> Shared -> Prop} {x D:Addr} {ox:Obj} {h:Heap} {g:Array GenState} {d:Drawn} {t:Nat} {os:OsState}
theorem qLz {R:Result -> Shared -> Prop} {ty:Value} (X:K.In h) (hx:h.get? x=some ox) (hc:ox.cls=.ref D) (hm:mroIn K D (.type "object")=some true) (fin:R (.ok (.ret (.ref D))) ⟨h,g,d,t,os⟩):
  codeAny (model prog w) A (.call (.builtin "getset_descriptor.__get__") ⟨[.builtin "object.__class__",.ref x,ty],[]⟩) R ⟨h,g,d,t,os⟩:=by
 have ty0:Looks (model prog w) h (typeOf (.ref x)) (.ref D):=hc ▸ (Looks.ld hx).andThen .now
 have mr:=looks_mroIn (M:=model prog w) X hm
 refine codeAny_call_builtin KF.slot_gs.plain KF.entry_gs (KF.slot_gs.check _ _ _ _ _ _ _ _ KF.type_class (KF.args_gs _ _ _) ?_)
 unfold Builtin.«getset_descriptor.__get__» descrGet;rw [dga_obj]
 refine wpAny_bind (wpAny_pure ?_)
 unfold descrGetter descrCheckInstance descrNameAndClass isInstance;simp only [KF.owner_class]
 repeat lk
 refine ⟨Code.quiet_builtin _ (by decide +kernel),codeAny_builtin KF.entry_class ?_⟩
 unfold Builtin.«object.__class__» shownTypeOf;repeat lk
 exact fin
theorem qIT {tk:Tok} {Q:Fin -> Shared -> Prop} (X:K.In h) (hx:h.get? x=some ox) (hc:ox.cls=.ref D) (ha:findIn K (.ref D) "__class__"=some (some (.builtin "object.__class__"))) (hm:mroIn K D (.type "object")=some true) (fin:Q (.done (.ret (.ref D))) ⟨h,g,d,t,os⟩):
  wpAny (model prog w) A (Builtin.«object.__getattribute__» ⟨[.ref x,.str "__class__" tk],[]⟩) Q E ⟨h,g,d,t,os⟩:=by
 have g1:(⟨h,g,d,t,os⟩:Shared).TypeIs (.builtin "object.__class__") "getset_descriptor":=F.typeOf_object_class
 have g2:=F.typeOf_object_class
 have g3:=F.slot_gs_get.lookup
 have g4:=F.slot_gs_set.lookup
 have g5:=looks_findIn (M:=model prog w) X ha
 repeat (any_goals (first | assumption | (with_reducible refine wpAny_loadPart_at hx ?_;rw [hc]) | with_reducible refine g5.at ?_ | wp_step))
 refine qLz X hx hc hm ?_
 repeat (any_goals (first | assumption | wp_step))
theorem qIS {M:Model} {nv:Value} {Q:Unit -> Shared -> Prop} (X:K.In h) (hx:h.get? x=some ox) (hc:ox.cls=.ref D) (hb:mroIn K D (.type "BaseException")=some true) (fin:Q () ⟨h,g,d,t,os⟩):
  wpAny M A (checkBuiltinCall "BaseException.__getattribute__" ⟨[.ref x,nv],[]⟩) Q E ⟨h,g,d,t,os⟩:=by
 have k1:builtinKind "BaseException.__getattribute__"=some .slot:=by decide +kernel
 have k2:splitId "BaseException.__getattribute__"=some ("BaseException","__getattribute__"):=by decide +kernel
 have k3:=F.args_bexc_ga (.ref x) nv
 have k4:=looks_mroIn (M:=M) X hb
 simp only [checkBuiltinCall,k1,k2]
 refine wpAny_bind ?_
 unfold isInstance
 repeat (first | (with_reducible refine wpAny_loadPart_at hx ?_;rw [hc]) | with_reducible refine k4.at ?_ | wp_step)
 exact fin
structure qGM (K:Frag) (D:Addr):Prop where
 cl:∃ cd,clsIn K D=some cd
 ca:findIn K (.ref D) "__class__"=some (some (.builtin "object.__class__"))
 mo:mroIn K D (.type "object")=some true
 mb:mroIn K D (.type "BaseException")=some true
 ga:findIn K (.ref D) "__getattribute__"=some (some (.builtin "BaseException.__getattribute__"))
 gn:findIn K (.ref D) "__getattr__"=some none
 ex:excIn K D [.type "ValueError",.type "Exception",.type "BaseException",.type "object"] "ValueError.__new__"=true
theorem qNe {tk:Tok} {fill ex:Bool} {Q:Value -> Shared -> Prop} (X:K.In h) (c:qGM K D) (hx:h.get? x=some ox) (hc:ox.cls=.ref D) (fin:Q (.ref D) ⟨h,g,d,t,os⟩):wpAny (model prog w) A (getAttrBy (.ref x) (.str "__class__" tk) fill ex) Q E ⟨h,g,d,t,os⟩:=by
 have e3:=F.excAttr_ValueError.ga.bind (.ref x)
 have e4:(ex&&onTheHeap (Value.builtin "BaseException.__getattribute__"))=false:=by cases ex<;>rfl
 have e5:(Value.builtin "BaseException.__getattribute__"==Value.builtin "object.__getattribute__")=false:=by decide +kernel
 have e6:(onTheHeap (Value.ref D)&&Value.builtin "BaseException.__getattribute__"==Value.builtin "object.__getattribute__")=false:=by rw [e5];rfl
 have e7:=looks_findIn (M:=model prog w) X c.ga
 have e8:=looks_findIn (M:=model prog w) X c.gn
 repeat (any_goals (first | assumption | (with_reducible refine wpAny_loadPart_at hx ?_;rw [hc]) | with_reducible refine e7.at ?_ | with_reducible refine e8.at ?_ | wp_step))
 refine codeAny_call_builtin F.excAttr_ValueError.ga.plain F.entry_bexc_ga (qIS X hx hc c.mb (qIT X hx hc c.ca c.mo ?_))
 repeat (any_goals (first | assumption | wp_step))
theorem qIW {Q:Option Value -> Shared -> Prop} (X:K.In h) (c:qGM K D) (hx:h.get? x=some ox) (hc:ox.cls=.ref D) (fin:Q (some (.ref D)) ⟨h,g,d,t + 1,os⟩):wpAny (model prog w) A (getAttr? (.ref x) "__class__") Q E ⟨h,g,d,t,os⟩:=by
 unfold getAttr? getAttrBy?
 repeat (any_goals (first | assumption | with_reducible apply qNe X c hx hc | wp_step))
theorem qJ5 (c:qGM K D):KitX K (.ref x) (.ref D) (fun h=>∃ ox,h.get? x=some ox/\ox.cls=.ref D) where
 ty:=fun _ _ _ ⟨ox,hx,hc⟩=>hc ▸ (Looks.ld hx).andThen .now
 it:=fun _ _ X _=>by
  obtain ⟨cd,hcd⟩:=c.cl
  unfold clsIn at hcd
  split at hcd
  ·rename_i ho
   intro A2 Q2 E2 s2 k2 q2
   unfold isType loadHead;exact wpAny_bind (wpAny_loadPart (k2 _ _ (X _ _ ho)) (wpAny_pure q2))
  ·cases hcd
 ne:=fun h tp dd its n sl X htp=>by
  obtain ⟨cd,hcd⟩:=c.cl
  refine Bool.eq_false_iff.mpr fun q=>?_
  cases Value.ref.inj (beq_iff_eq.mp q)
  unfold clsIn at hcd
  split at hcd
  ·rename_i ho
   cases (X _ _ ho).symm.trans htp
  ·cases hcd
 ca:=fun {_ _ _ _ _ s} X ⟨ox,hx,hc⟩ k=>by obtain ⟨h,g,d,t,os⟩:=s;exact qIW X c hx hc k
theorem qJQ {h:Heap} {C:Addr} {bmB:List Value} {nid:String} (X:K.In h) (q:excIn K C bmB nid=true):∃ bm N nm qn bs hd sn sb ab col dd k0 k1 k2 k3 k5 mN,h.get? C=some (excClassObj nm qn C N bs bm hd sn sb ab col dd k0 k1 k2 k3 k5 nid)/\h.Ns N mN/\mN "__init__"=none/\OwnTail h bmB bm:=by
 unfold excIn at q
 split at q
 ·rename_i dd cd sl ho
  split at q
  ·rename_i C2 bm k0 k1 k2 k3 n k5 hm hs
   simp only [Bool.and_eq_true,beq_iff_eq,Bool.not_eq_true'] at q
   obtain ⟨⟨⟨⟨⟨rfl,rfl⟩,hdl⟩,htl⟩,hno⟩,hin⟩:=q
   obtain ⟨nm,bs,mro,ns,qn,hd,sn,sb,ab,col,dl⟩:=cd
   dsimp only at hm hdl hno hin
   subst hm hdl
   have e6:sl=#[k0,k1,k2,k3,some (.builtin n),k5]:=by obtain ⟨l⟩:=sl;simp only at hs;rw [hs]
   subst e6
   exact ⟨bm,ns,nm,qn,bs,hd,sn,sb,ab,col,dd,k0,k1,k2,k3,k5,_,X _ _ ho,.of_isNs (isNs_of_in X hno),nsMap_none_of_in X hno hin,tail_of_in X htl⟩
  ·cases q
 ·cases q
end
section
variable {X:Cx} {pins:List (Addr×Obj)} {σ:L2.St} {H H':Hp} {s s':Shared}
theorem qHo {x:Str} {C:Addr} {v:Str} {np p cpos pos:Pos} {j:Nat} {Q:Flow -> Shared -> Prop} (hg:L2.Gl X x) (hm:X.mg x=some (.ref C)) (hd:(x==("__debug__":Str))=false) (hc:X.calm=true) (c:qGM X.K C) (I:Inv X pins σ H s)
  (k:∀ s2 h1 ea vs,Inv X pins σ H s2 -> Heap.MadeExcOf s2.heap h1 ea (.ref C) vs -> X.xe (.ref ea) { s2 with heap:=h1 }):wpAny (model X.prog X.w) X.A (exec (.Raise (some (.Call (.Name x np) [.Constant (.str v) j p] [] cpos)) none pos) X.env) Q X.xe s:=by
 obtain ⟨bm,N,nm,qn,bs,hdc,sn,sb,ab,col,dd,k0,k1,k2,k3,k5,mN,hC,hN,hni,T⟩:=qJQ I.mod.kin c.ex
 have st:starEach [Expr.Constant (.str v) j p] X.env=(false,eval (.Constant (.str v) j p) X.env)::starEach [] X.env:=rfl
 refine wpAny_Raise_call_subT (C:=C) (bm:=bm) (nm:=nm) (q:=qn) (N:=N) (bs:=bs) (hdct:=hdc) (sn:=sn) (sub:=sb) (ab:=ab) (col:=col) (dd:=dd) (k0:=k0) (k1:=k1) (k2:=k2) (k3:=k3) (k5:=k5) F.excBase_ValueError (mN:=mN) (T.hasType F.excBase_ValueError.hasBase) (I.ok.hd hc) rfl hni (L2.ld_glob I hg hm ⟨rfl,?_⟩ hd)
 refine Calls.evalArgs_plain (wpAny_mono (L2.pa_cons (X:=X) L2.pe_str L2.pa_nil st cpos pins s σ H (fun ws H1=>ws.length=1/\H1=H) I ⟨rfl,rfl⟩) (fun us s2 ⟨ws,H1,I1,r1,l1,e1⟩=>?_) fun _ _ y=>y)
 subst e1
 exact ⟨rfl,by rw [<- r1.length,l1];decide,I1.bk _ _ hC,hN.keeps I1.bk,T.keeps I1.bk,fun h1 e hm=>k s2 h1 e _ I1 hm⟩
end
end PI
namespace PI
open PySem PySem.Spec PyProof.Rows PySem.W
open L2 (V Hp HO Cx PE PT PA PS PSs TE TT TA TS VK Un HOk ObjOk frs Inv RelV Vals EP TP AP SP CXT XK qAp qEt)
noncomputable def XE (X:Cx) (ea:Addr) (oe:Obj) (E:Value -> Shared -> Prop):Cx:={ X with A:=X.A.mark (some (.ref ea)),calm:=false,pn:=(ea,oe)::X.pn,xe:=E }
section
variable {X:Cx} {pins:List (Addr×Obj)} {σ:L2.St} {H H':Hp} {s s':Shared} {ea:Addr} {oe:Obj} {E:Value -> Shared -> Prop}
theorem qLD (I:Inv X pins σ H s) (h1:s.heap.get? ea=some oe) (h2:H ea=none) (h3:ea≠X.env.locals) (h4:ea∉X.fs) (h5:∀ v,oe.data≠.cell v):Inv (XE X ea oe E) pins σ H s:=
 ⟨⟨I.ok.mod,I.ok.kind,I.ok.glob,I.ok.blt,I.ok.above,I.ok.inj,I.ok.has,I.ok.cab,(fun z=>nomatch z),I.ok.frames,I.ok.stk,I.ok.exf,I.ok.bs,I.ok.bsz,I.ok.noex,I.ok.exfs,I.ok.funs,I.ok.frf⟩,I.os,I.bare,I.base,I.loc,I.cell,I.free,I.freeC,fun p hp=>by
  have hp:p∈(ea,oe)::(X.pn++pins):=hp
  rcases List.mem_cons.mp hp with rfl | hp
  ·exact ⟨h1,h2,h3,h4,h5⟩
  ·exact I.pin p hp,I.hok,I.len⟩
theorem qNV (ok:X.Ok) (I:Inv (XE X ea oe E) pins σ H s):Inv X pins σ H s:=
 ⟨ok,I.os,I.bare,I.base,I.loc,I.cell,I.free,I.freeC,fun p hp=>I.pin p (List.mem_cons_of_mem _ hp),I.hok,I.len⟩
theorem qOJ (I:Inv (XE X ea oe E) pins σ H s):s.heap.get? ea=some oe:=(I.pin (ea,oe) (List.mem_cons_self ..)).1
noncomputable def rXi (ea:Addr) (cv:V) (b:Bool):List V -> Hp -> VK -> Prop:=fun xs H Q=>xs=[.ref ea,cv]/\Q (.bl b) H
theorem qFa {C:Addr} {cv:V} {u:Value} {b:Bool} (c:qGM X.K C) (hc:oe.cls=.ref C) (hu:∀ w,RelV cv w -> w=u) (hk:kitOne X.K (.ref C) u=some b):qAp (XE X ea oe E) (.builtin "isinstance") (rXi ea cv b):=by
 intro pins s σ H xs us Q I r ⟨e,q⟩
 subst e
 obtain ⟨u1,u2,rfl,r1,r2⟩:=L2.vals2 r
 cases (show u1=Value.ref ea from r1)
 cases hu u2 r2
 exact kia_one (qJ5 c) I.kIn ⟨oe,qOJ I,hc⟩ hk (fun z=>nomatch z) fun tk=>⟨.bl b,H,I.tok tk,rfl,q⟩
theorem qKM {M:Model} {A:Around} {n:Str} {i:Nat} {pos:Pos} {Q:Unit -> Shared -> Prop} (I:Inv X pins σ H s) (hN:X.N.Nodup) (hi:X.N[i]?=some n) (hk:X.env.scope.names.lookup n=some .local) (k:∀ s',Inv X pins (σ.set i none) H s' -> Q () s'):
  wpAny M A (do bindName X.env n .none;unbindBehindTheSuite X.env n pos) Q E s:=by
 obtain ⟨m,hn,hl⟩:=id I.loc
 have cl:(X.env.scope.kind==.class||(X.env.scope.kind==.module&&X.env.locals != X.env.globals))=false:=by rw [I.ok.kind];rfl
 refine wpAny_nameGoes_keeps hk hn cl fun h1 v hn1 hs=>k _ ?_
 have old:∀ b o,X.s₀.heap.get? b=some o -> b≠X.env.locals:=fun b o e=>Nat.ne_of_lt (Nat.lt_of_lt_of_le (Heap.lt_size e) I.ok.above)
 refine ⟨I.ok,I.os,I.bare,⟨fun b o e q hb hx=>(hs.2 b (old b o e)).trans (I.base.keep b o e q hb hx),fun b o e q hb hx=>?_,I.base.free,fun b o e hx=>?_,I.base.tups,I.base.frzs,I.base.tbls⟩,⟨_,hn1,fun j y v2 e1 e2 e3=>?_⟩,fun y c e=>?_,I.free,I.freeC,fun p hp=>?_,fun b u e=>?_,by simpa using I.len⟩
 ·obtain ⟨sl,e1⟩:=I.base.slot b o e q hb hx
  exact ⟨sl,(hs.2 b (old b o e)).trans e1⟩
 ·obtain ⟨o2,e1⟩:=I.base.there b o e hx
  exact ⟨o2,(hs.2 b (old b o e)).trans e1⟩
 ·by_cases hj:j=i
  ·subst hj
   rw [List.getElem?_set] at e2
   simp at e2
  ·rw [List.getElem?_set_ne (Ne.symm hj)] at e2
   obtain ⟨u2,r2,q⟩:=hl j y v2 e1 e2 e3
   refine ⟨u2,r2,?_⟩
   rcases q with ⟨kk,e⟩ | ⟨kk,c,e,z⟩
   ·have hy:y≠n:=fun z=>hj (L2.nodup_ix hN e1 (z ▸ hi))
    exact .inl ⟨kk,(if_neg hy).trans e⟩
   ·exact .inr ⟨kk,c,e,z.sameBut hs (I.cne y c e)⟩
 ·obtain ⟨w2,z⟩:=I.cell y c e
  exact ⟨w2,z.sameBut hs (I.cne y c e)⟩
 ·obtain ⟨e,q,ne,nf,dd⟩:=I.pin p hp
  exact ⟨(hs.2 p.1 ne).trans e,q,ne,nf,dd⟩
 ·refine (I.hok b u e).stay (fun c w2 hc q=>(hs.2 c ?_).trans q) (fun _ q=>q) fun _ _ q=>q
  rintro rfl
  rcases hc with rfl | hc
  ·rw [I.free] at e;cases e
  ·rw [I.free] at hc;cases hc
theorem qMA {x n:Str} {C C0:Addr} {i:Nat} {np hpos:Pos} {b0:Stmt} {suite:List Stmt} {qB6:List ExceptHandler} {Q:Flow -> Shared -> Prop} {R7:L2.St -> Hp -> Prop} (I:Inv X pins σ H s) (hst:X.stack=X.env::X.outer) (hf:X.env.frame=some X.env.locals) (hex:X.ex=[]) (hN:X.N.Nodup) (hi:X.N[i]?=some n)
  (hk:X.env.scope.names.lookup n=some .local) (hg:L2.Gl X x) (hm:X.mg x=some (.ref C0)) (hd:(x==("__debug__":Str))=false) (hx:exmOne X.K (.ref C) (.ref C0)=some true) (Fy:Fly X.prog X.w X.stack H s C ea H' s')
  (k:∀ oe s6,oe.cls=.ref C -> Inv (XE X ea oe fun _ _=>False) pins (σ.set i (some (.ref ea))) H' s6 -> wpAny (model X.prog X.w) (X.A.mark (some (.ref ea))) (execs (b0::suite) X.env) (fun f s7=>f=.next/\∃ σ7 H7,Inv (XE X ea oe fun _ _=>False) pins σ7 H7 s7/\R7 (σ7.set i none) H7) (fun _ _=>False) s6)
  (fin:∀ σ7 H7 s8 oe,oe.cls=.ref C -> X.s₀.heap.get? ea=none -> s8.heap.get? ea=some oe -> H7 ea=none -> ea≠X.env.locals -> (∀ v,oe.data≠.cell v) -> (∀ p∈X.pn++pins,p.1≠ea) -> Inv X pins σ7 H7 s8 -> R7 σ7 H7 -> Q .next s8):
  wpAny (model X.prog X.w) X.A (noteFrame (.ref ea) X.env) (fun _ s2=>wpAny (model X.prog X.w) X.A (setFlight (.ref ea) none) (fun _ s3=>wpAny (model X.prog X.w) X.A (handleBy (.ref ea) X.env (.ExceptHandler (some (.Name x np)) (some n) (b0::suite) hpos::qB6)) Q E s3) E s2) E s':=by
 obtain ⟨B,a0,fl,cov⟩:=Fy.fl
 have fr:=I.ok.frames
 have fl0:=fl
 rw [hst] at fr fl
 have fre:∀ b∈frs X.stack,H' b=none:=fun b hb=>by
  obtain ⟨_,o,e,_⟩:=I.stack.mem hb
  exact Fy.un.free b o e (I.stkFree b hb) (by simp)
 refine wpAny_looks_onW fr hf fl fun h4 held up4=>?_
 refine wpAny_landsW held fun h5 fl5 up5=>?_
 obtain ⟨u5,k5,c5⟩:=stay Fy.un Fy.hok cov fl5.1 (up4.trans up5) fre fl0.2.2.1
 have I5:Inv X pins σ H' { s' with heap:=h5 }:=I.call' Fy.os u5 k5 Fy.bare (fun b z=>absurd z (by simp))
 have not_fr:∀ {h:Heap} {oe:Obj} {ws:Array Value},h.FunFrames B X.stack -> h.get? ea=some oe -> oe.data=.fields ws -> ea∉frs X.stack:=fun {h oe ws} ff e d z=>by
  obtain ⟨_,o,e2,nf⟩:=ff.mem z
  rw [e] at e2;cases e2
  exact nf ws d
 have apart:∀ {h:Heap} {oe:Obj} {ws:Array Value},h.FunFrames B X.stack -> Cov X.stack s.heap H' B h -> B.get? ea=none -> h.get? ea=some oe -> oe.data=.fields ws -> H' ea=none/\ea≠X.env.locals/\ea∉X.fs/\∀ v,oe.data≠.cell v:=fun {h oe ws} ff cv hb e d=>by
  have nf:=not_fr ff e d
  refine ⟨?_,fun z=>nf ?_,fun z=>nf ?_,fun v q=>by rw [d] at q;cases q⟩
  ·cases q:H' ea with
   | none=>rfl
   | some u=>
    have:=cv ea oe e nf (.inr (by rw [q];simp))
    rw [hb] at this;cases this
  ·rw [hst];unfold frs;rw [List.filterMap_cons,hf,z];exact List.mem_cons_self ..
  ·rw [hst];unfold frs;rw [List.filterMap_cons,hf];exact List.mem_cons_of_mem _ z
 obtain ⟨oe5,ws5,e5,hc5,d5,_⟩:=fl5.first
 have ff5:h5.FunFrames B X.stack:=by rw [hst];exact fl5.2.2.1
 obtain ⟨a1,a2,a3,a4⟩:=apart ff5 c5 fl5.2.1 e5 d5
 have IM:Inv (XE X ea oe5 fun _ _=>False) pins σ H' { s' with heap:=h5 }:=qLD I5 e5 a1 a2 a3 a4
 refine wpAny_handleBy_cons (codeAny_handlers_test (L2.ld_glob IM hg hm ?_ hd)) (by intro q;cases q)
 have LT:Looks (model X.prog X.w) h5 (typeOf (.ref ea)) (.ref C):=hc5 ▸ (Looks.ld e5).andThen .now
 refine (exm_one I5.kIn LT hx).here ?_
 refine codeAny_handlers_suite_as ?_
 refine lands_againW fl5 fun h6 fl6 up6=>?_
 obtain ⟨u6,k6,c6⟩:=stay u5 k5 c5 fl6.1 up6 fre ff5
 have I6:Inv X pins σ H' { s' with heap:=h6 }:=I.call' Fy.os u6 k6 Fy.bare (fun b z=>absurd z (by simp))
 obtain ⟨oe6,ws6,e6,hc6,d6,_⟩:=fl6.first
 have ff6:h6.FunFrames B X.stack:=by rw [hst];exact fl6.2.2.1
 obtain ⟨b1,b2,b3,b4⟩:=apart ff6 c6 fl6.2.1 e6 d6
 have IM6:Inv (XE X ea oe6 fun _ _=>False) pins σ H' { s' with heap:=h6 }:=qLD I6 e6 b1 b2 b3 b4
 refine L2.store_ok (X:=XE X ea oe6 fun _ _=>False) IM6 hN hi (.inl hk) (v:=.ref ea) rfl (fun s7 I7=>?_) (.inr hk)
 refine wpAny_mono (k oe6 s7 hc6 I7) (fun f s8 ⟨e,σ7,H7,I8,r⟩=>?_) (fun _ _ z=>z.elim)
 subst e
 have nf6:ea∉frs X.stack:=not_fr ff6 e6 d6
 have s0n:s.heap.get? ea=none:=by
  cases q:s.heap.get? ea with
  | none=>rfl
  | some o=>
   have:=c6 ea oe6 e6 nf6 (.inl ⟨o,q⟩)
   rw [fl6.2.1] at this;cases this
 refine qKM (X:=XE X ea oe6 fun _ _=>False) I8 hN hi hk fun s9 I9=>fin _ _ s9 oe6 hc6 ?_ (qOJ I9) (I9.pin (ea,oe6) (List.mem_cons_self ..)).2.1 b2 b4 (fun p hp z=>?_) (qNV I.ok I9) r
 ·cases q:X.s₀.heap.get? ea with
  | none=>rfl
  | some o=>
   obtain ⟨o',e'⟩:=I.base.there ea o q (by rw [hex];simp)
   rw [s0n] at e';cases e'
 ·have:=(I.pin p hp).1
  rw [z,s0n] at this;cases this
end
end PI
namespace PI
open PySem PySem.Spec PyProof.Rows PySem.W
open L2 (V Hp HO Cx PE PT PA PS PSs TE TT TA TS VK Un HOk ObjOk frs Inv RelV Vals EP TP AP SP CXT XK qAp qEt)
structure Xs (K:Frag) (mg:Str -> Option Value) (cn:List Str):Prop where
 nn:∀ x∈cn,∃ C,mg x=some (.ref C)/\nsIn K mainGlobals x=some (some (.ref C))/\qGM K C/\kitOne K (.ref C) (.type "ValueError")=some true
 sn:∀ x∈cn,∀ y∈cn,∀ C D,mg x=some (.ref C) -> mg y=some (.ref D) -> kitOne K (.ref C) (.ref D)=some (qN4 x y)
section
variable {X:Cx} {G:List Addr} {F:Nat -> List V -> AH -> RV} {cn:List Str}
end
end PI
namespace PI
open PySem PySem.Spec PyProof.Rows
open L2 (V)
structure Gam where
 N:List Str
 sc:Scope
 fns:List Str
 gl:List (Str×E)
 bl:List Str
 own:Str -> Bool
 cls:List Str:=[]
 xr:Bool:=false
noncomputable def slot (N:List Str) (x:Str):Option Nat:=(List.range N.length).find? fun i=>N[i]?==some x
theorem qAe {N:List Str} {x:Str} {i:Nat} (h:slot N x=some i):N[i]?=some x:=by
 unfold slot at h
 simpa using List.find?_some h
noncomputable def qM5 (sc:Scope) (x:Str):Bool:=match sc.names.lookup x with | some .local=>true | some .cell=>true | some .free=>true | _=>false
theorem qJt {sc:Scope} {x:Str} (h:qM5 sc x=true):L2.Vis sc x:=by
 unfold qM5 at h
 unfold L2.Vis
 split at h<;>first | (rename_i e;simp [e]) | cases h
noncomputable def glB (sc:Scope) (x:Str):Bool:=sc.names.lookup x==some .globalImplicit
noncomputable def okN (x:Str):Bool:=!(x==("__debug__":Str))&&!(x==("__classdict__":Str))&&!decide (x="__name__")
noncomputable def qN1:Operator -> Option BOp
 | .Add=>some .add | .Sub=>some .sub | .Mult=>some .mul | .FloorDiv=>some .fdiv | .Mod=>some .mod | .Pow=>some .pow | .LShift=>some .shl | _=>none
theorem qKN {o:Operator} {b:BOp} (h:qN1 o=some b):o=opB b:=by
 cases o<;>cases h<;>rfl
noncomputable def qF8:CmpOp -> COp
 | .Lt=>.lt | .LtE=>.le | .Gt=>.gt | .GtE=>.ge | .Eq=>.eq | .NotEq=>.ne | .In=>.inn | .NotIn=>.notin | .Is=>.is | .IsNot=>.isnot
theorem qEl (o:CmpOp):o=opC (qF8 o):=by cases o<;>rfl
noncomputable def qEm:Expr -> Bool
 | .Set ..=>false
 | _=>true
noncomputable def qFL:Expr -> Bool
 | .Call ..=>false
 | _=>true
noncomputable def bfL:List (Str×BF):=[("len",.len),("all",.all),("max",.max),("min",.min),("list",.list),("tuple",.tuple),("repr",.repr)]
noncomputable def qN6 (x:Str):Option BF:=bfL.lookup x
theorem qC5 {x:Str} {f:BF}:∀ {l:List (Str×BF)},l.lookup x=some f -> (x,f)∈l
 | [],h=>by cases h
 | (a,b)::l,h=>by
  rw [List.lookup_cons] at h
  split at h
  ·rename_i e
   cases h
   rw [eq_of_beq e]
   exact List.mem_cons_self ..
  ·exact List.mem_cons_of_mem _ (qC5 h)
theorem qL0:∀ p∈bfL,bootBuiltins p.1=some (fnB p.2):=
 List.forall_mem_cons.mpr ⟨PySem.boot_len,List.forall_mem_cons.mpr ⟨PyProof.Rows.boot_all,List.forall_mem_cons.mpr ⟨PyProof.Rows.boot_max,List.forall_mem_cons.mpr ⟨PyProof.Rows.boot_min,List.forall_mem_cons.mpr ⟨PyProof.Rows.boot_list,List.forall_mem_cons.mpr ⟨PyProof.Rows.boot_tuple,List.forall_mem_cons.mpr ⟨PyProof.Rows.boot_repr,(fun _ h=>absurd h List.not_mem_nil)⟩⟩⟩⟩⟩⟩⟩
theorem qJe {x:Str} {f:BF} (h:qN6 x=some f):bootBuiltins x=some (fnB f):=qL0 _ (qC5 h)
noncomputable def qNG (x:Str):Option String:=
 if x="int" then some "int" else if x="bool" then some "bool" else if x="list" then some "list" else if x="tuple" then some "tuple" else if x="str" then some "str" else if x="dict" then some "dict" else none
theorem qJV {x:Str} {t:String} (h:qNG x=some t):bootBuiltins x=some (.type t)/\qEN t=true:=by
 unfold qNG at h
 repeat' split at h
 all_goals first | cases h | skip
 all_goals (rename_i hx;subst hx)
 ·exact ⟨PyProof.Rows.boot_int,by decide⟩
 ·exact ⟨PyProof.Rows.boot_bool,by decide⟩
 ·exact ⟨PyProof.Rows.boot_list,by decide⟩
 ·exact ⟨PyProof.Rows.boot_tuple,by decide⟩
 ·exact ⟨PyProof.Rows.boot_str,by decide⟩
 ·exact ⟨PyProof.Rows.boot_dict,by decide⟩
noncomputable def qMo (scope sc:Scope):Scope:=
 { scope with names:=scope.names.map fun (n,k)=>if (k==.free&&sc.kind==.function&&sc.names.lookup n==some .cell) then (n,.cell) else (n,k) }
noncomputable def qHF:Expr -> List Str
 | .Name x _=>[x]
 | .Tuple es _ _=>es.filterMap fun e:Expr=>match e with | .Name x _=>some x | _=>none
 | _=>[]
noncomputable def qLu (scope:Scope):List Str:=scope.names.filterMap fun y=>if y.2=.free then some y.1 else none
noncomputable def qDm (Γ:Gam) (scope:Scope) (N:List Str) (src:List (Option Nat)):Bool:=
 decide (scope.kind=.function)&&scope.names.all (fun y=>decide (scope.names.lookup y.1=some y.2))
 && scope.names.all (fun y=>decide (y.2=.free -> (Γ.sc.names.lookup y.1=some .cell\/Γ.sc.names.lookup y.1=some .free)))&&decide N.Nodup&&decide (src.length=N.length)
 && (List.range N.length).all (fun i=>match N[i]?,src[i]? with | some x,some (some j)=>decide (Γ.N[j]?=some x/\scope.names.lookup x=some .free) | _,_=>true)
noncomputable def qC4 (Γ:Gam) (x:Str):Bool:=match Γ.sc.names.lookup x with | some .local=>true | some .cell=>Γ.own x | _=>false
noncomputable def qMs (Γ:Gam):List Expr -> Option (List Nat)
 | []=>some []
 | .Name x _::r=>if qC4 Γ x then (match slot Γ.N x,qMs Γ r with | some i,some is=>some (i::is) | _,_=>none) else none
 | _=>none
noncomputable def trT (Γ:Gam):Expr -> Option Tg
 | .Name x _=>if qC4 Γ x then (slot Γ.N x).map .name else none
 | .Tuple es _ _=>(qMs Γ es).map .tup
 | _=>none
noncomputable def qLN:List Expr -> Bool
 | [.Call (.Name r _) [_] [] _]=>decide (r="set")
 | _=>false
noncomputable def qM9:List Expr -> Bool
 | [.Call (.Name r _) [_] [] _]=>decide (r="range")
 | [.Call (.Name r _) [_,_] [] _]=>decide (r="range")
 | _=>false
mutual
noncomputable def trE:Nat -> Gam -> Expr -> Option E
 | 0,_,_=>none
 | n + 1,Γ,e=>match e with
  | .Constant c _ _=>(match c with
   | .int i=>some (.cst (.int i))
   | .bool i=>some (.cst (.bl i))
   | .none=>some (.cst .non)
   | .str i=>some (.cst (.str i))
   | _=>none)
  | .Name x _=>if okN x then (if qM5 Γ.sc x then (slot Γ.N x).map .var else if glB Γ.sc x then Γ.gl.lookup x else none) else none
  | .BinOp a op b _=>match qN1 op,trE n Γ a,trE n Γ b with | some o,some a',some b'=>some (.bin o a' b') | _,_,_=>none
  | .UnaryOp op a _=>(match op with
   | .USub=>(trE n Γ a).map .neg
   | .Not=>(trE n Γ a).map .not
   | _=>none)
  | .BoolOp op vs p=>trB n Γ op p vs
  | .Compare a ops bs _=>(match ops,bs with
   | [op],[b]=>if qEm b then (match trE n Γ a,trE n Γ b with | some a',some b'=>some (.cmp (qF8 op) a' b') | _,_=>none) else none
   | [o1,o2],[b,c]=>if qEm c then (match trE n Γ a,trE n Γ b,trE n Γ c with | some a',some b',some c'=>some (.cmp2 (qF8 o1) (qF8 o2) a' b' c') | _,_,_=>none) else none
   | _,_=>none)
  | .Call fn args kws cpos=>(match kws with
   | []=>(match fn with
    | .Name f _=>if okN f&&glB Γ.sc f&&args.all qAT then trC n Γ f args else none
    | .Attribute o m apos=>(match args with
     | [x]=>if m="append"/\qFL o=true/\qAT x=true/\(apos.endLine==cpos.line)=true then (match trE n Γ o,trE n Γ x with | some o',some x'=>some (.app o' x') | _,_=>none)
   else if m="pop"/\qFL o=true/\qAT x=true/\(apos.endLine==cpos.line)=true then (match trE n Γ o,trE n Γ x with | some o',some x'=>some (.meth .popAt o' (.cons x' .nil)) | _,_=>none) else none
     | []=>if m="bit_length" then (if qFL o=true/\(apos.endLine==cpos.line)=true then (trE n Γ o).map (fun o'=>.blt .bits (.cons o' .nil)) else none) else none
     | _=>none)
    | _=>none)
   | _=>none)
  | .Subscript a b _=>(match b with
   | .Slice lo hi st _=>(match st with
    | none=>(match trE n Γ a,trO n Γ lo,trO n Γ hi with | some a',some l,some h=>some (.sl a' l h) | _,_,_=>none)
    | some _=>none)
   | b=>if qCq b then (match trE n Γ a,trE n Γ b with | some a',some b'=>some (.idx a' b') | _,_=>none) else none)
  | .List es _=>if es.all qAT then (trA n Γ es).map .lst else none
  | .Tuple es _ _=>if es.all qAT then (trA n Γ es).map .tup else none
  | .Dict ks vs _=>(match ks,vs with | [],[]=>some .dnew | _,_=>none)
  | .ListComp elt gens scope _=>(match gens with
   | [gen]=>(match gen with
    | ⟨tg,iter,ifs,asy⟩=>(match asy with
     | 0=>
      let N:=qHF tg++qLu scope
      let src:=(qHF tg).map (fun _=>none)++(qLu scope).map (slot Γ.N)
      let Γ':Gam:={ Γ with N:=N,sc:=qMo scope Γ.sc,own:=fun x=>decide (scope.names.lookup x=some .cell) }
      if qDm Γ scope N src&&qEm iter then (match trI n Γ tg iter,trT Γ' tg,qKm n Γ' ifs,trE n Γ' elt with | some it,some g,some c,some e'=>some (.comp it src g c e') | _,_,_,_=>none) else none
     | _=>none))
   | _=>none)
  | _=>none
noncomputable def trA:Nat -> Gam -> List Expr -> Option Es
 | 0,_,_=>none
 | _ + 1,_,[]=>some .nil
 | n + 1,Γ,e::es=>match trE n Γ e,trA n Γ es with | some a,some as=>some (.cons a as) | _,_=>none
noncomputable def trB:Nat -> Gam -> BoolOp -> Pos -> List Expr -> Option E
 | 0,_,_,_,_=>none
 | _ + 1,_,_,_,[]=>none
 | n + 1,Γ,_,_,[a]=>trE n Γ a
 | n + 1,Γ,op,p,a::b::r=>match trE n Γ a,trB n Γ op p (b::r) with | some a',some b'=>some (match op with | .And=>.and a' b' | .Or=>.or a' b') | _,_=>none
noncomputable def trC:Nat -> Gam -> Str -> List Expr -> Option E
 | 0,_,_,_=>none
 | n + 1,Γ,f,args=>match slot Γ.fns f with
  | some i=>(trA n Γ args).map (.call i)
  | none=>if Γ.bl.contains f then
    (if f="isinstance" then (match args with
     | [a,.Name t _]=>if okN t&&glB Γ.sc t&&Γ.bl.contains t then (match trE n Γ a,qNG t with | some a',some t'=>some (.isi a' [t']) | _,_=>none) else none
     | _=>none)
    else if f="list"/\qM9 args=true then (match args with
     | [.Call (.Name r _) [a] [] _]=>if okN r&&glB Γ.sc r&&Γ.bl.contains r&&qAT a&&decide (r="range") then (trE n Γ a).map .lrng else none
     | [.Call (.Name r _) [a,b] [] _]=>if okN r&&glB Γ.sc r&&Γ.bl.contains r&&qAT a&&decide (r="range")&&qAT b then (match trE n Γ a,trE n Γ b with | some a',some b'=>some (.lrng2 a' b') | _,_=>none) else none
     | _=>none)
    else if f="len"/\qLN args=true then (match args with
     | [.Call (.Name r _) [a] [] _]=>if okN r&&glB Γ.sc r&&Γ.bl.contains r&&qAT a&&decide (r="set") then (trE n Γ a).map .nset else none
     | _=>none)
    else match qN6 f,args with
     | some b,_::_=>(trA n Γ args).map (.blt b)
     | _,_=>none)
   else none
noncomputable def trO:Nat -> Gam -> Option Expr -> Option Es
 | 0,_,_=>none
 | _ + 1,_,none=>some .nil
 | n + 1,Γ,some e=>(trE n Γ e).map fun a=>.cons a .nil
noncomputable def qKm:Nat -> Gam -> List Expr -> Option Es
 | 0,_,_=>none
 | _ + 1,_,[]=>some .nil
 | n + 1,Γ,[c]=>(trE n Γ c).map fun a=>.cons a .nil
 | _,_,_=>none
noncomputable def trI:Nat -> Gam -> Expr -> Expr -> Option Itr
 | 0,_,_,_=>none
 | n + 1,Γ,tg,iter=>match iter with
  | .Call (.Name f _) args [] _=>
   if f="range" then (if glB Γ.sc f&&Γ.bl.contains f&&args.all qAT then (match args with
    | [a]=>(trE n Γ a).map .rng1
    | _=>none) else none)
   else if f="zip" then (if glB Γ.sc f&&Γ.bl.contains f&&args.all qAT then none else none)
   else (trE n Γ iter).map .list
  | _=>(trE n Γ iter).map .list
end
noncomputable def xOf (Γ:Gam) (e:Expr):Option (Nat×Es):=match e with
 | .Call fn args kws _=>(match fn,args,kws with
  | .Name f _,a::r,[]=>if okN f&&glB Γ.sc f&&(a::r).all qAT then (match slot Γ.fns f,trA 60 Γ (a::r) with | some i,some as=>some (i,as) | _,_=>none) else none
  | _,_,_=>none)
 | _=>none
noncomputable def rOf (Γ:Gam) (ex ca:Option Expr):Option Nat:=match ca with
 | none=>(match ex with
  | some (.Call fn args kws _)=>(match fn,args,kws with
   | .Name x _,[.Constant (.str _) _ _],[]=>if okN x&&glB Γ.sc x then slot Γ.cls x else none
   | _,_,_=>none)
  | _=>none)
 | _=>none
noncomputable def qMp (Γ:Gam) (n:Str) (e:Expr):Option Nat:=match e with
 | .Call fn args kws _=>(match fn,args,kws with
  | .Name f _,[.Name m _,.Name k _],[]=>if f="isinstance"/\m=n/\okN k=true/\glB Γ.sc k=true then (match slot Γ.cls k with | some c=>some c | none=>if k="ValueError"/\Γ.bl.contains k=true then some 999 else none) else none
  | _,_,_=>none)
 | _=>none
noncomputable def kOf (Γ:Gam) (n:Str):List Expr -> Option (List Nat)
 | []=>some []
 | e::es=>match qMp Γ n e,kOf Γ n es with | some k,some ks=>some (k::ks) | _,_=>none
noncomputable def hOf (Γ:Gam) (hs:List ExceptHandler):Option (Nat×Nat×List Nat):=match hs with
 | [.ExceptHandler ty nm body _]=>(match ty,nm,body with
  | some (.Name x _),some n,[.Assign ts v _]=>(match ts,v with
   | [.Name y _],.List es _=>
    if okN x&&glB Γ.sc x&&okN n&&(slot Γ.cls x==some 0)&&(Γ.sc.names.lookup n==some .local)&&qC4 Γ y&&!(n==y)&&glB Γ.sc "isinstance"&&Γ.bl.contains "isinstance" then
     (match slot Γ.N n,slot Γ.N y,kOf Γ n es with | some e,some i,some ks=>if ks.length<=1000 then some (e,i,ks) else none | _,_,_=>none)
    else none
   | _,_=>none)
  | _,_,_=>none)
 | _=>none
noncomputable def hE (Γ:Gam) (hs:List ExceptHandler):Option (Nat×Nat):=match hs with
 | [.ExceptHandler ty nm body _]=>(match ty,nm,body with
  | some (.Name x _),some n,[.Assign ts v _]=>(match ts,v with
   | [.Name y _],.Name m _=>
    if okN x&&glB Γ.sc x&&okN n&&(slot Γ.cls x==some 0)&&(Γ.sc.names.lookup n==some .local)&&qC4 Γ y&&!(n==y)&&m==n then (match slot Γ.N n,slot Γ.N y with | some e,some i=>some (e,i) | _,_=>none) else none
   | _,_=>none)
  | _,_,_=>none)
 | _=>none
noncomputable def Ss.isNil:Ss -> Bool
 | .nil=>true
 | .cons _ _=>false
mutual
noncomputable def S.sole:S -> Bool
 | .xexpr _ _=>true
 | .ifs _ t u=>t.sole&&u.sole
 | _=>false
noncomputable def Ss.sole:Ss -> Bool
 | .nil=>true
 | .cons s r=>s.sole&&r.isNil
end
mutual
noncomputable def S.clean:S -> Bool
 | .xexpr _ _=>true
 | .raise _=>true
 | .ifs _ t u=>t.clean&&u.clean
 | s=>s.calm
noncomputable def Ss.clean:Ss -> Bool
 | .nil=>true
 | .cons s r=>s.clean&&r.clean
end
mutual
noncomputable def trS:Nat -> Gam -> Stmt -> S
 | 0,_,_=>.stop
 | n + 1,Γ,st=>match st with
  | .Assign ts v _=>(match ts with
   | [tgt]=>(match tgt with
    | .Name x _=>(match trT Γ (.Name x ⟨0,0,0,0⟩),trE 60 Γ v with | some g,some a=>.asg g a | _,_=>.stop)
    | .Tuple es k p=>(match es,v with
     | [.Name _ _,.Name _ _],.Tuple [_,_] _ _=>.stop
     | _,_=>.stop)
    | .Subscript o i _=>if qBr v&&qCq i then (match trE 60 Γ o,trE 60 Γ i,trE 60 Γ v with | some o',some i',some v'=>.put o' i' v' | _,_,_=>.stop) else .stop
    | _=>.stop)
   | _=>.stop)
  | .Expr e _=>if qBr e then (match xOf Γ e with | some p=>.xexpr p.1 p.2 | none=>(match trE 60 Γ e with | some a=>.expr a | none=>.stop)) else .stop
  | .Raise ex ca _=>(match rOf Γ ex ca with | some c=>.raise c | none=>.stop)
  | .Try body hs els fin _=>(match body,els,fin with
   | [st],[],[]=>(match hOf Γ hs with
    | some p=>if (trS n Γ st).sole&&(trS n Γ st).clean then .tryK (trS n Γ st) p.1 p.2.1 Γ.cls.length p.2.2 else .stop
    | none=>.stop)
   | _,_,_=>.stop)
  | .Return r _=>(match r with
   | some e=>(match trE 60 Γ e with | some a=>.ret a | none=>.stop)
   | none=>.stop)
  | .If c t u _=>match trE 60 Γ c with | some c'=>.ifs c' (qCz n Γ t) (qCz n Γ u) | none=>.stop
  | .For tg iter b els _=>(match els with
   | []=>if qEm iter then (match trI 60 Γ tg iter,trT Γ tg with | some it,some g=>.for_ g it (qCz n Γ b) | _,_=>.stop) else .stop
   | _=>.stop)
  | .While c b els _=>(match els with
   | []=>.stop
   | _=>.stop)
  | _=>.stop
noncomputable def qCz:Nat -> Gam -> List Stmt -> Ss
 | 0,_,_=>.cons .stop .nil
 | _ + 1,_,[]=>.nil
 | n + 1,Γ,s::r=>.cons (trS n Γ s) (qCz n Γ r)
end
end PI
namespace PI
open PySem PySem.Spec PyProof.Rows PySem.SeqAt
open L2 (V Hp HO Cx PE PT PA PS PSs PG PGs PW RelV)
structure Fit (Γ:Gam) (X:Cx) (G:List Addr) (F:Nat -> List V -> AH -> RV):Prop where
 hN:X.N=Γ.N
 nd:Γ.N.Nodup
 sc:X.env.scope=Γ.sc
 calm:X.calm=true
 fn:∀ x,Γ.own x=true -> X.fn x=true
 fns:∀ (f:Nat) x,Γ.fns[f]?=some x -> FnS X G F f x
 gls:∀ x e,Γ.gl.lookup x=some e -> (∃ v u,e=.cst v/\X.mg x=some u/\RelV v u/\∀ φ,rv φ v v)\/(∃ g a,e=.glob g/\X.mg x=some (.ref a)/\G[g]?=some a)
 blt:∀ x,Γ.bl.contains x=true -> X.mg x=none
 hu:X.A.units + 8 < cLine
 gd:X.A.guards=some []
 gtu:∀ a∈G,∃ o,X.K.lookup a=some o/\o.cls=.type "tuple"/\o.dict=none
 xs:Xs X.K X.mg Γ.cls
section
variable {Γ:Gam} {X:Cx} {G:List Addr} {F:Nat -> List V -> AH -> RV}
theorem qBt {x:Str} (h:okN x=true):(x==("__debug__":Str))=false/\(x==("__classdict__":Str))=false/\x≠"__name__":=by
 unfold okN at h
 simp only [Bool.and_eq_true,Bool.not_eq_true',decide_eq_false_iff_not] at h
 exact ⟨h.1.1,h.1.2,h.2⟩
theorem Fit.gl' (f:Fit Γ X G F) {x:Str} (h:glB Γ.sc x=true):L2.Gl X x:=by
 unfold L2.Gl Env.kindOf
 rw [f.sc]
 simpa [glB] using h
theorem Fit.store (f:Fit Γ X G F) {x:Str} (h:qC4 Γ x=true):L2.Loc X.env.scope x/\(X.fn x=true\/X.env.scope.names.lookup x=some .local):=by
 rw [f.sc]
 unfold qC4 at h
 unfold L2.Loc
 split at h
 ·rename_i e;exact ⟨.inl e,.inr e⟩
 ·rename_i e;exact ⟨.inr e,.inl (f.fn x h)⟩
 ·cases h
theorem qIr (f:Fit Γ X G F):∀ {es:List Expr} {is:List Nat},qMs Γ es=some is -> PGs X es (tGs is)/\(assignEach es X.env).length=is.length/\(assignEach es X.env).findIdx? (·.1)=none
 | [],is,h=>by
  cases h
  exact ⟨qKW,rfl,rfl⟩
 | e::es,is,h=>by
  unfold qMs at h
  split at h
  ·rename_i e1;cases e1
  ·rename_i x p r e1
   cases e1
   split at h
   ·rename_i hs
    split at h
    ·rename_i i is' ei eis
     cases h
     obtain ⟨h1,h2⟩:=f.store hs
     obtain ⟨g1,g2,g3⟩:=qIr f eis
     refine ⟨qH8 (by rw [f.hN];exact f.nd) (by rw [f.hN];exact qAe ei) h1 h2 g1,?_,?_⟩
     ·show (assignEach es X.env).length + 1=_
      rw [g2];rfl
     ·show (((false,assign (.Name x p) X.env)::assignEach es X.env).findIdx? (·.1))=none
      rw [List.findIdx?_cons,g3]
      rfl
    ·cases h
   ·cases h
  ·cases h
theorem qIF (f:Fit Γ X G F) {tg:Expr} {g:Tg} (h:trT Γ tg=some g):SG X G tg g:=by
 unfold trT at h
 split at h
 ·rename_i x p
  split at h
  ·rename_i hs
   obtain ⟨i,ei,rfl⟩:=Option.map_eq_some_iff.mp h
   obtain ⟨h1,h2⟩:=f.store hs
   exact qGz (by rw [f.hN];exact f.nd) (by rw [f.hN];exact qAe ei) h1 h2
  ·cases h
 ·obtain ⟨is,ei,rfl⟩:=Option.map_eq_some_iff.mp h
  obtain ⟨g1,g2,g3⟩:=qIr f ei
  exact qLo f.calm g1 g2 g3
 ·cases h
theorem qHI {op:CmpOp} {e:Expr} (h:qEm e=true):behindInMarks op e=false:=by
 cases e<;>first | rfl | cases h
theorem qHS {o1 o2:CmpOp} {b c:Expr} (h:qEm c=true):lastMarks [o1,o2] [b,c]=false:=by
 show behindInMarks o2 c=false
 exact qHI h
theorem qG6 {iter:Expr} {env:Env} (h:qEm iter=true):∀ x,foldedSetIterable iter env x=pure x:=by
 intro x
 cases iter<;>first | rfl | cases h
theorem qGf {o:Expr} {n:Str} {env:Env} {w:Sem Value} (h:qFL o=true):attributeBase o n env w=w:=by
 cases o<;>first | rfl | cases h
theorem qCF (f:Fit Γ X G F) {scope:Scope} {N:List Str} {src:List (Option Nat)} (h:qDm Γ scope N src=true):L2.CompScope X scope N src:=by
 unfold qDm at h
 simp only [Bool.and_eq_true,List.all_eq_true,decide_eq_true_eq] at h
 obtain ⟨⟨⟨⟨⟨h1,h2⟩,h4⟩,h5⟩,h6⟩,h7⟩:=h
 refine ⟨h1,h2,fun y hy hk=>?_,h5,h6,fun i x j e1 e2=>?_⟩
 ·unfold Env.kindOf
  rw [f.sc]
  exact h4 y hy hk
 ·have hi:i < N.length:=(List.getElem?_eq_some_iff.mp e1).1
  have:=h7 i (List.mem_range.mpr hi)
  rw [e1,e2] at this
  rw [f.hN]
  simpa using this
theorem qBc (f:Fit Γ X G F) {scope:Scope} {N:List Str} {src:List (Option Nat)} (h:qDm Γ scope N src=true) (C:Addr) (fp:List Addr) (s:Shared) (H:Hp):
  Fit { Γ with N:=N,sc:=qMo scope Γ.sc,own:=fun x=>decide (scope.names.lookup x=some .cell) } (L2.cxComp X scope C fp s H N) G F:=by
 have S:=qCF f h
 refine ⟨rfl,S.nd,?_,f.calm,fun x z=>z,fun g x e=>?_,f.gls,f.blt,f.hu,f.gd,f.gtu,f.xs⟩
 ·show relabel scope X.env=qMo scope Γ.sc
  unfold relabel qMo Env.kindOf
  rw [f.sc]
 ·exact ⟨(f.fns g x e).ex⟩
theorem qCV (n:Nat):
  (∀ Γ e a,trE n Γ e=some a -> ∀ X:Cx,Fit Γ X G F -> SE X G F e a/\ST X G F e a)/\
  (∀ Γ es as,trA n Γ es=some as -> es.all qAT=true -> ∀ X:Cx,Fit Γ X G F -> SA X G F es as)/\
  (∀ Γ op p vs a,trB n Γ op p vs=some a -> ∀ X:Cx,Fit Γ X G F -> SE X G F (.BoolOp op vs p) a/\SW X G F (.BoolOp op vs p) a)/\
  (∀ Γ f args a,trC n Γ f args=some a -> okN f=true -> glB Γ.sc f=true -> args.all qAT=true -> ∀ X:Cx,Fit Γ X G F -> ∀ p pos,SE X G F (.Call (.Name f p) args [] pos) a)/\
  (∀ Γ o as,trO n Γ o=some as -> ∀ X:Cx,Fit Γ X G F -> SO X G F o as)/\
  (∀ Γ ifs as,qKm n Γ ifs=some as -> ∀ X:Cx,Fit Γ X G F -> SC X G F ifs as)/\
  (∀ Γ tg iter it,trI n Γ tg iter=some it -> ∀ X:Cx,Fit Γ X G F -> SI X G F tg iter it):=by
 induction n with
 | zero=>exact ⟨(fun _ _ _ h=>by unfold trE at h;cases h),(fun _ _ _ h=>by unfold trA at h;cases h),(fun _ _ _ _ _ h=>by unfold trB at h;cases h),(fun _ _ _ _ h=>by unfold trC at h;cases h),(fun _ _ _ h=>by unfold trO at h;cases h),(fun _ _ _ h=>by unfold qKm at h;cases h),(fun _ _ _ _ h=>by unfold trI at h;cases h)⟩
 | succ n ih=>
  obtain ⟨iE,iA,iB,iC,iO,iIf,iI⟩:=ih
  refine ⟨?_,?_,?_,?_,?_,?_,?_⟩
  ·intro Γ e a h X f
   unfold trE at h
   split at h
   ·split at h
    ·cases h;exact ⟨qI4,qAQ qI4 fun _=>rfl⟩
    ·cases h;exact ⟨qMJ,qAQ qMJ fun _=>rfl⟩
    ·cases h;exact ⟨qIi,qAQ qIi fun _=>rfl⟩
    ·cases h;exact ⟨qJC,qAQ qJC fun _=>rfl⟩
    ·cases h
   ·rename_i x p
    split at h
    ·rename_i ho
     obtain ⟨o1,o2,o3⟩:=qBt ho
     split at h
     ·rename_i hv
      obtain ⟨i,ei,rfl⟩:=Option.map_eq_some_iff.mp h
      have s1:SE X G F (.Name x p) (.var i):=qLA (by rw [f.hN];exact qAe ei) (by rw [f.sc];exact qJt hv) o1 o2
      exact ⟨s1,qAQ s1 fun _=>rfl⟩
     ·split at h
      ·rename_i hg
       rcases f.gls x a h with ⟨v,u,rfl,e1,e2,e3⟩ | ⟨g,ad,rfl,e1,e2⟩
       ·have s1:SE X G F (.Name x p) (.cst v):=qJT (f.gl' hg) e1 e2 e3 o1
        exact ⟨s1,qAQ s1 fun _=>rfl⟩
       ·have s1:SE X G F (.Name x p) (.glob g):=qJf (f.gl' hg) e1 e2 o1
        exact ⟨s1,qAQ s1 fun _=>rfl⟩
      ·cases h
    ·cases h
   ·split at h
    ·rename_i o a' b' eo ea eb
     cases h
     rw [qKN eo]
     have s1:=qKy (op:=o) (pos:=‹Pos›) (iE _ _ _ ea X f).1 (iE _ _ _ eb X f).1
     exact ⟨s1,qAQ s1 fun _=>rfl⟩
    ·cases h
   ·split at h
    ·obtain ⟨a',ea,rfl⟩:=Option.map_eq_some_iff.mp h
     have s1:=qK5 (pos:=‹Pos›) (iE _ _ _ ea X f).1
     exact ⟨s1,qAQ s1 fun _=>rfl⟩
    ·obtain ⟨a',ea,rfl⟩:=Option.map_eq_some_iff.mp h
     exact ⟨qLc (iE _ _ _ ea X f).1,qMD (iE _ _ _ ea X f).2⟩
    ·cases h
   ·obtain ⟨s1,s2⟩:=iB _ _ _ _ _ h X f
    exact ⟨s1,s2.pt⟩
   ·split at h
    ·rename_i op b0
     split at h
     ·rename_i hs
      split at h
      ·rename_i a' b' ea eb
       cases h
       rw [qEl op]
       have e1:qF8 (opC (qF8 op))=qF8 op:=by cases op<;>rfl
       rw [e1]
       exact ⟨qLQ f.hu (iE _ _ _ ea X f).1 (iE _ _ _ eb X f).1 (qHI hs),qLB f.hu (iE _ _ _ ea X f).1 (iE _ _ _ eb X f).1 (qHI hs)⟩
      ·cases h
     ·cases h
    ·rename_i o1 o2 b0 c0
     split at h
     ·rename_i hs
      split at h
      ·rename_i a' b' c' ea eb ec
       cases h
       rw [qEl o1,qEl o2]
       have e1:qF8 (opC (qF8 o1))=qF8 o1:=by cases o1<;>rfl
       have e2:qF8 (opC (qF8 o2))=qF8 o2:=by cases o2<;>rfl
       rw [e1,e2]
       exact ⟨qHj f.hu (iE _ _ _ ea X f).1 (iE _ _ _ eb X f).1 (iE _ _ _ ec X f).1 (qHS hs),qHk f.hu (iE _ _ _ ea X f).1 (iE _ _ _ eb X f).1 (iE _ _ _ ec X f).1 (qHS hs)⟩
      ·cases h
     ·cases h
    ·cases h
   ·split at h
    ·split at h
     ·split at h
      ·rename_i hc
       simp only [Bool.and_eq_true] at hc
       have s1:=iC _ _ _ _ h hc.1.1 hc.1.2 hc.2 X f
       exact ⟨s1 _ _,qAQ (s1 _ _) fun _=>rfl⟩
      ·cases h
     ·split at h
      ·split at h
       ·rename_i hc
        obtain ⟨rfl,hc1,hc2,hc3⟩:=hc
        split at h
        ·rename_i o' x' eo ex
         cases h
         have s1:=qKr (qGf hc1) hc3 hc2 (iE _ _ _ eo X f).1 (iE _ _ _ ex X f).1
         exact ⟨s1,qAQ s1 fun _=>rfl⟩
        ·cases h
       ·split at h
        ·rename_i hc
         obtain ⟨rfl,hc1,hc2,hc3⟩:=hc
         split at h
         ·rename_i o' x' eo ex
          cases h
          have s1:=qIX (qGf hc1) hc3 hc2 (iE _ _ _ eo X f).1 (iE _ _ _ ex X f).1
          exact ⟨s1,qAQ s1 fun _=>rfl⟩
         ·cases h
        ·cases h
      ·split at h
       ·rename_i hm
        subst hm
        split at h
        ·rename_i hc
         obtain ⟨o',eo,rfl⟩:=Option.map_eq_some_iff.mp h
         have s1:=qJa f.calm f.hu f.gd (qGf hc.1) hc.2 (iE _ _ _ eo X f).1
         exact ⟨s1,qAQ s1 fun _=>rfl⟩
        ·cases h
       cases h
      ·cases h
     ·cases h
    ·cases h
   ·split at h
    ·split at h
     ·split at h
      ·rename_i a' l h' ea el eh
       cases h
       exact ⟨qLC (iE _ _ _ ea X f).1 (iO _ _ _ el X f) (iO _ _ _ eh X f),qAQ (qLC (iE _ _ _ ea X f).1 (iO _ _ _ el X f) (iO _ _ _ eh X f)) fun _=>rfl⟩
      ·cases h
     ·cases h
    ·split at h
     ·rename_i hs
      split at h
      ·rename_i a' b' ea eb
       cases h
       have s1:=qL6 (pos:=‹Pos›) hs (iE _ _ _ ea X f).1 (iE _ _ _ eb X f).1
       exact ⟨s1,qAQ s1 fun _=>rfl⟩
      ·cases h
     ·cases h
   ·split at h
    ·rename_i hs
     obtain ⟨a',ea,rfl⟩:=Option.map_eq_some_iff.mp h
     have s1:=qMS (pos:=‹Pos›) (iA _ _ _ ea hs X f)
     exact ⟨s1,qAQ s1 fun _=>rfl⟩
    ·cases h
   ·split at h
    ·rename_i hs
     obtain ⟨a',ea,rfl⟩:=Option.map_eq_some_iff.mp h
     exact ⟨qIp (iA _ _ _ ea hs X f),qAQ (qIp (iA _ _ _ ea hs X f)) fun _=>rfl⟩
    ·cases h
   ·split at h
    ·cases h
     exact ⟨qHH,qAQ qHH fun _=>rfl⟩
    ·cases h
   ·split at h
    ·split at h
     split at h
     ·dsimp only at h
      split at h
      ·rename_i hc
       simp only [Bool.and_eq_true] at hc
       split at h
       ·rename_i it g c e' ei eg ec ee
        cases h
        have s1:=qGe (pos:=‹Pos›) f.calm (iI _ _ _ _ ei X f) (qCF f hc.1) (fun C fp s H=>qIF (qBc f hc.1 C fp s H) eg) (fun C fp s H=>iIf _ _ _ ec _ (qBc f hc.1 C fp s H)) (fun C fp s H=>(iE _ _ _ ee _ (qBc f hc.1 C fp s H)).1) (qG6 hc.2)
        exact ⟨s1,qAQ s1 fun _=>rfl⟩
       ·cases h
      ·cases h
     ·cases h
    ·cases h
   ·cases h
  ·intro Γ es as h hs X f
   cases es with
   | nil=>simp only [trA] at h;cases h;exact qIZ
   | cons e es=>
    simp only [trA] at h
    simp only [List.all_cons,Bool.and_eq_true] at hs
    split at h
    ·rename_i a as ea eas
     cases h
     exact qHQ hs.1 (iE _ _ _ ea X f).1 (iA _ _ _ eas hs.2 X f)
    ·cases h
  ·intro Γ op p vs a h X f
   cases vs with
   | nil=>simp only [trB] at h;cases h
   | cons e r=>
    cases r with
    | nil=>
     simp only [trB] at h
     obtain ⟨s1,s2⟩:=iE _ _ _ h X f
     refine ⟨L2.pe_one s1,?_⟩
     cases op with
     | And=>exact L2.pw_and1 s2
     | Or=>exact L2.pw_or1 s2
    | cons b r=>
     simp only [trB] at h
     split at h
     ·rename_i a' b' ea eb
      cases h
      obtain ⟨s1,s2⟩:=iE _ _ _ ea X f
      obtain ⟨s3,s4⟩:=iB _ _ _ _ _ eb X f
      cases op with
      | And=>exact ⟨qMG s1 s3,qLt s2 s4⟩
      | Or=>exact ⟨qNQ s1 s3,qMx s2 s4⟩
     ·cases h
  ·intro Γ g args a h ho hg hs X f p pos
   obtain ⟨o1,o2,o3⟩:=qBt ho
   unfold trC at h
   split at h
   ·rename_i i ei
    obtain ⟨as,ea,rfl⟩:=Option.map_eq_some_iff.mp h
    have sA:=iA _ _ _ ea hs X f
    cases args with
    | nil=>
     have:as=.nil:=by
      cases n with
      | zero=>simp only [trA] at ea;cases ea
      | succ m=>simp only [trA] at ea;cases ea;rfl
     subst this
     exact qHu (f.fns i g (qAe ei)) (f.gl' hg) o1
    | cons e es=>
     simp only [List.all_cons,Bool.and_eq_true] at hs
     exact qHE (f.fns i g (qAe ei)) (f.gl' hg) o1 hs.1 hs.2 sA
   ·split at h
    ·rename_i hb
     split at h
     ·rename_i hi
      subst hi
      split at h
      ·rename_i e0 t pt
       split at h
       ·rename_i hc
        simp only [Bool.and_eq_true] at hc
        obtain ⟨t1,t2,t3⟩:=qBt hc.1.1
        split at h
        ·rename_i a' t' ea et
         cases h
         obtain ⟨b1,b2⟩:=qJV et
         simp only [List.all_cons,Bool.and_eq_true] at hs
         exact qLR b2 (f.gl' hg) (f.blt _ hb) (f.gl' hc.1.2) (f.blt _ hc.2) b1 t3 t1 hs.1 (iE _ _ _ ea X f).1
        ·cases h
       ·cases h
      ·cases h
     ·split at h
      ·rename_i hl
       obtain ⟨rfl,_⟩:=hl
       split at h
       ·rename_i r pr e0 pc
        split at h
        ·rename_i hc
         simp only [Bool.and_eq_true,decide_eq_true_eq] at hc
         obtain ⟨⟨⟨⟨c1,c2⟩,c3⟩,c4⟩,rfl⟩:=hc
         obtain ⟨a',ea,rfl⟩:=Option.map_eq_some_iff.mp h
         exact qJi f.calm (f.gl' hg) (f.blt _ hb) (f.gl' c2) (f.blt _ c3) c4 (iE _ _ _ ea X f).1
        ·cases h
       ·rename_i r pr e0 e1 pc
        split at h
        ·rename_i hc
         simp only [Bool.and_eq_true,decide_eq_true_eq] at hc
         obtain ⟨⟨⟨⟨⟨c1,c2⟩,c3⟩,c4⟩,rfl⟩,c5⟩:=hc
         split at h
         ·rename_i a' b' ea eb
          cases h
          exact qIH f.calm (f.gl' hg) (f.blt _ hb) (f.gl' c2) (f.blt _ c3) c4 c5 (iE _ _ _ ea X f).1 (iE _ _ _ eb X f).1
         ·cases h
        ·cases h
       ·cases h
      rename_i hneg
      clear hneg
      split at h
      ·rename_i hl
       obtain ⟨rfl,_⟩:=hl
       split at h
       ·rename_i r pr e0 pc
        split at h
        ·rename_i hc
         simp only [Bool.and_eq_true,decide_eq_true_eq] at hc
         obtain ⟨⟨⟨⟨c1,c2⟩,c3⟩,c4⟩,rfl⟩:=hc
         obtain ⟨a',ea,rfl⟩:=Option.map_eq_some_iff.mp h
         exact qKD f.calm (f.gl' hg) (f.blt _ hb) (f.gl' c2) (f.blt _ c3) c4 (iE _ _ _ ea X f).1
        ·cases h
       ·cases h
      rename_i hneg
      clear hneg
      split at h
      ·rename_i b e es eb
       obtain ⟨as,ea,rfl⟩:=Option.map_eq_some_iff.mp h
       have sA:=iA _ _ _ ea hs X f
       simp only [List.all_cons,Bool.and_eq_true] at hs
       exact qMU f.calm f.hu f.gd (f.gl' hg) (f.blt _ hb) (qJe eb) hs.1 hs.2 sA o3 o1
      ·cases h
    ·cases h
  ·intro Γ o as h X f
   cases o with
   | none=>simp only [trO] at h;cases h;exact qJ9
   | some e=>
    simp only [trO] at h
    obtain ⟨a,ea,rfl⟩:=Option.map_eq_some_iff.mp h
    exact qJS (iE _ _ _ ea X f).1
  ·intro Γ ifs as h X f
   cases ifs with
   | nil=>simp only [qKm] at h;cases h;exact qLf
   | cons e r=>
    cases r with
    | nil=>
     simp only [qKm] at h
     obtain ⟨a,ea,rfl⟩:=Option.map_eq_some_iff.mp h
     exact qL2 (iE _ _ _ ea X f).2
    | cons b r=>simp only [qKm] at h;cases h
  ·intro Γ tg iter it h X f
   unfold trI at h
   split at h
   ·rename_i fn p args pos
    split at h
    ·rename_i hf
     subst hf
     split at h
     ·rename_i hc
      simp only [Bool.and_eq_true] at hc
      split at h
      ·rename_i e
       obtain ⟨a,ea,rfl⟩:=Option.map_eq_some_iff.mp h
       have hs:=hc.2
       simp only [List.all_cons,Bool.and_eq_true] at hs
       exact qJu (f.gl' hc.1.1) (f.blt _ hc.1.2) hs.1 (iE _ _ _ ea X f).1
      ·cases h
     ·cases h
    ·split at h
     ·rename_i hf
      subst hf
      split at h
      ·rename_i hc
       simp only [Bool.and_eq_true] at hc
       cases h
      ·cases h
     ·obtain ⟨a,ea,rfl⟩:=Option.map_eq_some_iff.mp h
      exact qGS (iE _ _ _ ea X f).1
   ·obtain ⟨a,ea,rfl⟩:=Option.map_eq_some_iff.mp h
    exact qGS (iE _ _ _ ea X f).1
end
end PI
namespace PI
open PySem PySem.Spec PyProof.Rows PySem.SeqAt
open L2 (V Hp HO Cx PE PT PA PS PSs PG PGs PW RelV FnOk Fun qBB Binds Room SqL SqT XK qEt Vals Inv)
noncomputable def CA (mg:Str -> Option Value) (cn:List Str) (c:Nat):Option Addr:=match cn[c]? with
 | some x=>(match mg x with | some (.ref C)=>some C | _=>none)
 | none=>none
theorem qGm {mg:Str -> Option Value} {cn:List Str} {c:Nat} {C:Addr} (h:CA mg cn c=some C):∃ x,cn[c]?=some x/\mg x=some (.ref C):=by
 unfold CA at h
 split at h
 ·rename_i x ex
  split at h
  ·rename_i C' em;cases h;exact ⟨x,ex,em⟩
  ·cases h
 ·cases h
noncomputable def spX (mg:Str -> Option Value) (cn:List Str) (G:List Addr) (F:Nat -> List V -> AH -> RV) (K:PySem.W.Frag) (f:Nat):L2.Sp:=fun vs H _ E=>∃ φ h ws c C h',Rl K G φ h H/\rvs φ ws vs/\F f ws h=.exc c h'/\CA mg cn c=some C/\∀ φ' H',Ext φ φ' -> Rl K G φ' h' H' -> E (.ref C) none H'
structure FnX (X:Cx) (G:List Addr) (F:Nat -> List V -> AH -> RV) (cn:List Str) (f:Nat) (x:Str):Prop where
 ex:∃ k fa fd ps,FnOk X.prog X.w X.K X.mg X.base (CX1 X.prog X.w) k fa fd ps (spX X.mg cn G F X.K f)/\Room k X.A/\X.mg x=some (.ref fa)/\PySem.W.keepIn X.K (.ref fa)=true/\Binds X.K fd ps []
structure FitX (Γ:Gam) (X:Cx) (G:List Addr) (F:Nat -> List V -> AH -> RV):Prop where
 stk:X.stack=X.env::X.outer
 fra:X.env.frame=some X.env.locals
 exn:X.ex=[]
 fnx:∀ (f:Nat) x,Γ.fns[f]?=some x -> FnX X G F Γ.cls f x
 cl:∀ (c:Nat) x,Γ.cls[c]?=some x -> ∃ C,X.mg x=some (.ref C)/\qGM X.K C
 sb:∀ c k C D,CA X.mg Γ.cls c=some C -> CA X.mg Γ.cls k=some D -> PySem.W.kitOne X.K (.ref C) (.ref D)=some (qDP c k)
 sv:∀ c C,CA X.mg Γ.cls c=some C -> PySem.W.kitOne X.K (.ref C) (.type "ValueError")=some true
 ro:∀ c C D,CA X.mg Γ.cls c=some C -> CA X.mg Γ.cls 0=some D -> PySem.W.exmOne X.K (.ref C) (.ref D)=some true
section
variable {Γ:Gam} {X:Cx} {G:List Addr} {F:Nat -> List V -> AH -> RV}
theorem Fit.wish (f:Fit Γ X G F) (E:Value -> Shared -> Prop):Fit Γ (X.wish E) G F:=⟨f.hN,f.nd,f.sc,f.calm,f.fn,fun g x e=>⟨(f.fns g x e).ex⟩,f.gls,f.blt,f.hu,f.gd,f.gtu,f.xs⟩
theorem FitX.wish (f:FitX Γ X G F) (E:Value -> Shared -> Prop):FitX Γ (X.wish E) G F:=⟨f.stk,f.fra,f.exn,fun g x e=>⟨(f.fnx g x e).ex⟩,f.cl,f.sb,f.sv,f.ro⟩
noncomputable def Thr (X:Cx) (pins:List (Addr×Obj)) (Sg:L2.St -> Prop) (Ex:XK) (mk:Bool) (e:Value) (s':Shared):Prop:=
 (∃ σ1 s1 H1,Sg σ1/\Inv X pins σ1 H1 s1/\CX1 X.prog X.w X.stack H1 s1 Ex e s')\/
 (mk=true/\∃ σ1 s2 H1 h1 ea vs C,Inv X pins σ1 H1 s2/\Heap.MadeExcOf s2.heap h1 ea (.ref C) vs/\e=.ref ea/\s'={ s2 with heap:=h1 }/\Ex (.ref C) none H1)
theorem Thr.mono {pins:List (Addr×Obj)} {Sg Sg':L2.St -> Prop} {Ex:XK} {mk mk':Bool} {e:Value} {s':Shared} (t:Thr X pins Sg Ex mk e s') (h1:∀ σ,Sg σ -> Sg' σ) (h2:mk=true -> mk'=true):Thr X pins Sg' Ex mk' e s':=by
 rcases t with ⟨σ1,s1,H1,a,b,c⟩ | ⟨a,b⟩
 ·exact .inl ⟨σ1,s1,H1,h1 _ a,b,c⟩
 ·exact .inr ⟨h2 a,b⟩
noncomputable def tX (X:Cx) (G:List Addr) (cn:List Str) (r:St -> AH -> RS) (σc:L2.St) (H:Hp) (Ex:XK):Prop:=∃ φ h σ c C h',Rl X.K G φ h H/\rst φ σ σc/\r σ h=.exc c h'/\CA X.mg cn c=some C/\∀ φ' H',Ext φ φ' -> Rl X.K G φ' h' H' -> Ex (.ref C) none H'
variable (X G F) in
noncomputable def SX (cn:List Str) (st:Stmt) (s:S):Prop:=∀ (pins:List (Addr×Obj)) (s0:Shared) (σc:L2.St) (H:Hp) (Ex:XK),Inv X pins σc H s0 -> tX X G cn (ex F s) σc H Ex -> wpAny (model X.prog X.w) X.A (exec st X.env) (fun _ _=>False) (Thr X pins (fun σ1=>s.sole=true -> σ1=σc) Ex (!s.sole)) s0
variable (X G F) in
noncomputable def SXs (cn:List Str) (st:List Stmt) (s:Ss):Prop:=∀ (pins:List (Addr×Obj)) (s0:Shared) (σc:L2.St) (H:Hp) (Ex:XK),Inv X pins σc H s0 -> tX X G cn (exs F s) σc H Ex -> wpAny (model X.prog X.w) X.A (execs st X.env) (fun _ _=>False) (Thr X pins (fun σ1=>s.sole=true -> σ1=σc) Ex (!s.sole)) s0
theorem qBJ {cn:List Str} {st:Stmt} {s:S} (h:s.calm=true):SX X G F cn st s:=by
 intro pins s0 σc H Ex I q
 obtain ⟨φ,h0,σ,c,C,h',R,rs,e,_⟩:=q
 exact absurd e (qLV F s h σ h0 c h')
theorem qM4 {pins:List (Addr×Obj)} {σ:L2.St} {H:Hp} {s:Shared} {Ex:XK} {us:List Value} {vs:List V} {k:Nat} {fa:Addr} {fd:FuncData} {ps:List Str} {sp:L2.Sp} (Fo:FnOk X.prog X.w X.K X.mg X.base (CX1 X.prog X.w) k fa fd ps sp) (hr:Room k X.A) (hb:Binds X.K fd ps [])
  (I:Inv X pins σ H s) (r:Vals vs us) (h:sp vs H (fun _ _=>False) Ex):wpAny (model X.prog X.w) X.A (call (.ref fa) us) (fun _ _=>False) (fun e s'=>CX1 X.prog X.w X.stack H s Ex e s') s:=by
 have hl:(us++[]).length=ps.length:=by rw [List.append_nil,<- r.length];exact Fo.len _ _ _ _ h
 have hb2:=hb s us I.kIn hl
 rw [List.append_nil] at hb2
 refine wpAny_call (codeAny_mono (Fo.run X.A X.stack s H ⟨us,[]⟩ us vs _ Ex hr I.env0 hb2 r h) fun res s' hq=>?_)
 cases res with
 | error e=>exact hq
 | ok fl=>
  cases fl with
  | ret u=>obtain ⟨v,H2,_,_,_,_,_,z⟩:=hq;exact z.elim
  | next=>exact False.elim hq
  | brk=>exact False.elim hq
  | cont=>exact False.elim hq
theorem Res.bind_exc {α β:Type} {r:Res α} {f:α -> Res β} {c:Nat} {h:AH} (e:r.bind f=.exc c h) (n:NX r):∃ a,r=.ok a/\f a=.exc c h:=by
 cases r with
 | ok a=>exact ⟨a,rfl,e⟩
 | exc c' h'=>exact absurd rfl (n c' h')
 | stuck=>cases e
theorem qIN (f:Fit Γ X G F) (fx:FitX Γ X G F) {e:Expr} {i:Nat} {as:Es} {pos:Pos} (h:xOf Γ e=some (i,as)) (hc:qBr e=true):SX X G F Γ.cls (.Expr e pos) (.xexpr i as):=by
 intro pins s0 σc H Ex I q
 unfold xOf at h
 split at h
 ·rename_i fn args kws cpos
  split at h
  ·rename_i g gp a r
   split at h
   ·rename_i hcc
    simp only [Bool.and_eq_true] at hcc
    split at h
    ·rename_i i' as' ei ea
     cases h
     obtain ⟨⟨o1,o2⟩,o3⟩:=hcc
     obtain ⟨d1,d2,d3⟩:=qBt o1
     obtain ⟨k,fa,fd,ps,h1,h2,h3,h4,h5⟩:=(fx.fnx i g (qAe ei)).ex
     obtain ⟨φ,h0,σ,c,C,h',R,rs,e,ca,kk⟩:=q
     unfold ex at e
     obtain ⟨⟨xs,h01⟩,e1,e⟩:=Res.bind_exc e (qB1 F as σ h0)
     have e2:F i xs h01=.exc c h':=by
      dsimp only at e
      revert e
      generalize F i xs h01=rr
      intro e
      cases rr with
      | ok p=>cases e
      | exc c2 h2=>cases e;rfl
      | stuck=>cases e
     have hs:=o3
     simp only [List.all_cons,Bool.and_eq_true] at hs
     have sA:SA (X.wish (Thr X pins (fun σ1=>(S.xexpr i as).sole=true -> σ1=σc) Ex (!(S.xexpr i as).sole))) G F (a::r) as:=(qCV (G:=G) (F:=F) 60).2.1 Γ _ _ ea o3 _ (f.wish _)
     refine wpAny_Expr_any ?_ I.quiet (qBp hc)
     refine wpAny_Call_Name_kw (L2.ld_glob I (f.gl' o2) h3 ?_ d1)
     refine PySem.W.callWith_K (h₀:=X.base) I.ok.mod.kin h4 (L2.thn (sA cpos pins s0 σc H (fun vs H1=>spX X.mg Γ.cls G F X.K i vs H1 (fun _ _=>False) Ex) (I.wish _) ⟨φ,h0,σ,xs,h01,R,rs,e1,fun φ1 H1 ws x1 R1 r1=>⟨φ1,h01,xs,c,C,h',R1,r1,e2,ca,fun φ2 H2 x2 R2=>kk φ2 H2 (x1.trans x2) R2⟩⟩) fun us s1 ⟨vs,H1,I1,r1,q1⟩=>⟨I1.kIn,?_⟩) (qAE hs.1) (qBY hs.2)
     exact wpAny_mono (qM4 (X:=X) h1 h2 h5 I1.unwish r1 q1) (fun _ _ z=>z.elim) fun e s' z=>.inl ⟨σc,s1,H1,fun _=>rfl,I1.unwish,z⟩
    ·cases h
   ·cases h
  ·cases h
 ·cases h
theorem qID (f:Fit Γ X G F) (fx:FitX Γ X G F) {ex ca:Option Expr} {c:Nat} {pos:Pos} (h:rOf Γ ex ca=some c):SX X G F Γ.cls (.Raise ex ca pos) (.raise c):=by
 intro pins s0 σc H Ex I q
 unfold rOf at h
 split at h
 ·split at h
  ·rename_i fn args kws cpos
   split at h
   ·rename_i x np v j p
    split at h
    ·rename_i hcc
     rw [Bool.and_eq_true] at hcc
     obtain ⟨d1,d2,d3⟩:=qBt hcc.1
     obtain ⟨C,hm,hC⟩:=fx.cl c x (qAe h)
     obtain ⟨φ,h0,σ,c',C',h',R,rs,e,cc,kk⟩:=q
     unfold PI.ex at e
     cases e
     have e2:C'=C:=by
      obtain ⟨x',ex',em'⟩:=qGm cc
      rw [qAe h] at ex';cases ex'
      rw [hm] at em';cases em';rfl
     subst e2
     refine qHo (X:=X.wish (Thr X pins (fun σ1=>(S.raise c).sole=true -> σ1=σc) Ex (!(S.raise c).sole))) (f.gl' hcc.2) hm d1 f.calm hC (I.wish _) fun s2 h1 ea vs I2 mk=>?_
     exact .inr ⟨rfl,σc,s2,H,h1,ea,vs,_,I2.unwish,mk,rfl,rfl,kk φ H (.refl _) R⟩
    ·cases h
   ·cases h
  ·cases h
 ·cases h
end
end PI
namespace PI
open PySem PySem.Spec PyProof.Rows PySem.SeqAt
open L2 (V Hp HO Cx PE PT PA PS PSs PG PGs PW TE TA TS VK RelV FnOk Fun qBB Binds Room SqL SqT XK qEt Vals Inv SP)
section
variable {Γ:Gam} {X:Cx} {G:List Addr} {F:Nat -> List V -> AH -> RV} {cn:List Str}
theorem qMH {ec:Expr} {c:E} {t u:List Stmt} {st su:Ss} {pos:Pos} (hc:∀ E,ST (X.wish E) G F ec c) (ht:SXs X G F cn t st) (hu:SXs X G F cn u su):SX X G F cn (.If ec t u pos) (.ifs c st su):=by
 intro pins s0 σc H Ex I q
 obtain ⟨φ,h,σ,cc,C,h',R,rs,e,ca,k⟩:=q
 unfold ex at e
 obtain ⟨⟨b,h1⟩,e1,e⟩:=Res.bind_exc e (qDN (qAb F c σ h))
 have sl:(S.ifs c st su).sole=(st.sole&&su.sole):=by rw [S.sole]
 refine wpAny_If (L2.thn (hc (Thr X pins (fun σ1=>(S.ifs c st su).sole=true -> σ1=σc) Ex (!(S.ifs c st su).sole)) pins s0 σc H (fun d H1=>d=b/\tX X G cn (exs F (if b then st else su)) σc H1 Ex) (I.wish _) ⟨φ,h,σ,b,h1,R,rs,e1,fun φ1 H1 x1 R1=>⟨rfl,φ1,h1,σ,cc,C,h',R1,rst.mono x1 rs,?_,ca,fun φ2 H2 x2 R2=>k φ2 H2 (x1.trans x2) R2⟩⟩) fun d s1 ⟨H1,I1,ed,q1⟩=>?_)
 ·dsimp only at e
  cases b with
  | true=>rw [if_pos rfl] at e ⊢;exact e
  | false=>rw [if_neg (by decide)] at e ⊢;exact e
 ·subst ed
  cases d with
  | true=>
   rw [if_pos rfl] at q1
   refine wpAny_mono (ht pins s1 σc H1 Ex I1.unwish q1) (fun _ _ z=>z.elim) fun e s' z=>z.mono (fun σ1 w y=>w (by rw [sl,Bool.and_eq_true] at y;exact y.1)) fun y=>?_
   rw [sl];simp at y ⊢;exact .inl y
  | false=>
   rw [if_neg (by decide)] at q1
   refine wpAny_mono (hu pins s1 σc H1 Ex I1.unwish q1) (fun _ _ z=>z.elim) fun e s' z=>z.mono (fun σ1 w y=>w (by rw [sl,Bool.and_eq_true] at y;exact y.2)) fun y=>?_
   rw [sl];simp at y ⊢;exact .inr y
theorem qKK:SXs X G F cn [] .nil:=by
 intro pins s0 σc H Ex I q
 obtain ⟨φ,h,σ,cc,C,h',R,rs,e,ca,k⟩:=q
 unfold exs at e
 cases e
theorem qIY {st:Stmt} {sts:List Stmt} {s:S} {r:Ss} (h0:SS X.nox G F st s) (h1:SX X G F cn st s) (h2:SXs X G F cn sts r):SXs X G F cn (st::sts) (.cons s r):=by
 intro pins s0 σc H Ex I q
 obtain ⟨φ,h,σ,cc,C,h',R,rs,e,ca,k⟩:=q
 unfold exs at e
 cases er:ex F s σ h with
 | stuck=>rw [er] at e;cases e
 | exc c2 h2'=>
  rw [er] at e
  cases e
  refine wpAny_execs_cons (wpAny_mono (h1 pins s0 σc H Ex I ⟨φ,h,σ,cc,C,h',R,rs,er,ca,k⟩) (fun _ _ z=>z.elim) fun e s' z=>z.mono (fun σ1 w y=>w (by rw [Ss.sole,Bool.and_eq_true] at y;exact y.1)) fun y=>?_)
  rw [Ss.sole];simp at y ⊢;exact .inl y
 | ok p=>
  obtain ⟨o,h1'⟩:=p
  rw [er,Res.bind_ok] at e
  cases o with
  | nx σ1=>
   have e:exs F r σ1 h1'=.exc cc h':=e
   have hr:(Ss.cons s r).sole=false:=by
    cases r with
    | nil=>unfold exs at e;cases e
    | cons a b=>rw [Ss.sole];simp [Ss.isNil]
   refine wpAny_execs_cons (wpAny_mono (h0 pins s0 σc H { nx:=fun σ2 H2=>tX X G cn (exs F r) σ2 H2 Ex,rt:=fun _ _=>False } (I.wish _) ⟨φ,h,σ,.nx σ1,h1',R,rs,er,fun φ1 H1 x1 R1 σc1 rs1=>⟨φ1,h1',σ1,cc,C,h',R1,rs1,e,ca,fun φ2 H2 x2 R2=>k φ2 H2 (x1.trans x2) R2⟩⟩) (fun f s1 z=>?_) fun _ _ z=>False.elim z)
   cases f with
   | next=>
    obtain ⟨σ2,H2,I2,q2⟩:=z
    exact wpAny_mono (h2 pins s1 σ2 H2 Ex I2.unwish q2) (fun _ _ z=>z.elim) fun e s' z=>z.mono (fun σ1 w y=>by rw [hr] at y;cases y) fun y=>by rw [hr];rfl
   | ret v=>obtain ⟨_,_,_,_,_,z⟩:=z;exact z.elim
   | brk=>obtain ⟨_,_,_,z⟩:=z;exact z.elim
   | cont=>obtain ⟨_,_,_,z⟩:=z;exact z.elim
  | rt v=>cases e
  | bk σ1=>cases e
  | ct σ1=>cases e
theorem qI5 (φ:List Addr) {α:Type} (g:α -> Bool):∀ l:List α,rvs φ (l.map fun k=>.bl (g k)) (l.map fun k=>.bl (g k))
 | []=>.nil
 | a::r=>.cons rfl (qI5 φ g r)
theorem qNj (f:Fit Γ X G F) (fx:FitX Γ X G F) {n:Str} {ie c k:Nat} {C ea:Addr} {oe:Obj} {E:Value -> Shared -> Prop} (ca:CA X.mg Γ.cls c=some C) (hcl:oe.cls=.ref C) (hC:qGM X.K C) (hn:okN n=true) (hloc:Γ.sc.names.lookup n=some .local) (hi:slot Γ.N n=some ie)
  (hgi:glB Γ.sc "isinstance"=true) (hbi:Γ.bl.contains "isinstance"=true) {e:Expr} (h:qMp Γ n e=some k):PE (XE X ea oe E) e (fun σ H Q=>σ[ie]?=some (some (.ref ea))/\Q (.bl (qDP c k)) H):=by
 unfold qMp at h
 split at h
 ·rename_i fn args kws cpos
  split at h
  ·rename_i g gp m mp kk kp
   split at h
   ·rename_i hcc
    obtain ⟨rfl,rfl,ok,gk⟩:=hcc
    obtain ⟨d1,d2,d3⟩:=qBt hn
    obtain ⟨b1,b2,b3⟩:=qBt ok
    have hN:(XE X ea oe E).N[ie]?=some m:=by show X.N[ie]?=_;rw [f.hN];exact qAe hi
    have hv:L2.Vis (XE X ea oe E).env.scope m:=by show L2.Vis X.env.scope m;rw [f.sc];exact .inl hloc
    have pv:=L2.pe_var (X:=XE X ea oe E) (pos:=mp) hN hv d1 d2
    have hgl:L2.Gl (XE X ea oe E) "isinstance":=f.gl' hgi
    have hgk:L2.Gl (XE X ea oe E) kk:=f.gl' gk
    split at h
    ·rename_i k2 ek
     cases h
     obtain ⟨D,hm,hD⟩:=fx.cl k kk (qAe ek)
     have cd:CA X.mg Γ.cls k=some D:=by unfold CA;rw [qAe ek];dsimp only;rw [hm]
     refine qAj (L2.pe_callB (qFa (E:=E) (cv:=.ref D) (u:=.ref D) hC hcl (fun w r=>r) (fx.sb c k C D ca cd)) hgl (f.blt _ hbi) PyProof.Rows.boot_isinstance (L2.pa_cons pv (L2.pa_cons (L2.pe_glob (v:=.ref D) hgk hm rfl b1) L2.pa_nil rfl) rfl) (by decide) (by decide) rfl rfl) fun σ H Q q=>?_
     exact ⟨_,q.1,rfl,q.2⟩
    ·split at h
     ·rename_i hve
      cases h
      obtain ⟨rfl,hbv⟩:=hve
      have ev:qDP c 999=true:=by unfold qDP;simp
      rw [ev]
      refine qAj (L2.pe_callB (qFa (E:=E) (cv:=.ty "ValueError") (u:=.type "ValueError") hC hcl (fun w r=>r) (fx.sv c C ca)) hgl (f.blt _ hbi) PyProof.Rows.boot_isinstance (L2.pa_cons pv (L2.pa_cons (L2.pe_bltn (v:=.ty "ValueError") hgk (f.blt _ hbv) (by decide +kernel) rfl (by decide) (by decide)) L2.pa_nil rfl) rfl) (by decide) (by decide) rfl rfl) fun σ H Q q=>?_
      exact ⟨_,q.1,rfl,q.2⟩
     ·cases h
   ·cases h
  ·cases h
 ·cases h
theorem qKz (f:Fit Γ X G F) (fx:FitX Γ X G F) {n:Str} {ie c:Nat} {C ea:Addr} {oe:Obj} {E:Value -> Shared -> Prop} (ca:CA X.mg Γ.cls c=some C) (hcl:oe.cls=.ref C) (hC:qGM X.K C) (hn:okN n=true) (hloc:Γ.sc.names.lookup n=some .local) (hi:slot Γ.N n=some ie)
  (hgi:glB Γ.sc "isinstance"=true) (hbi:Γ.bl.contains "isinstance"=true):∀ {es:List Expr} {ks:List Nat},kOf Γ n es=some ks -> PA (XE X ea oe E) es (fun σ H Q=>σ[ie]?=some (some (.ref ea))/\Q (ks.map fun k=>.bl (qDP c k)) H)
 | [],ks,h=>by cases h;exact qHt L2.pa_nil fun σ H Q q=>q.2
 | e::es,ks,h=>by
  unfold kOf at h
  split at h
  ·rename_i k ks' e1 e2
   cases h
   have st:qAT e=true:=by
    unfold qMp at e1
    split at e1
    ·rfl
    ·cases e1
   exact qHt (L2.pa_cons (qNj f fx ca hcl hC hn hloc hi hgi hbi e1) (qKz f fx ca hcl hC hn hloc hi hgi hbi e2) (qAE st)) fun σ H Q q=>⟨q.1,q.1,q.2⟩
  ·cases h
theorem qMd (f:Fit Γ X G F) (fx:FitX Γ X G F) (hx:X.xe=fun _ _=>False) {st:Stmt} {hs:List ExceptHandler} {b:S} {e i:Nat} {ks:List Nat} {pos:Pos} (hh:hOf Γ hs=some (e,i,ks)) (h0:SS X G F st b) (h1:SX X G F Γ.cls st b) (sole:b.sole=true):
  SS X G F (.Try [st] hs [] [] pos) (.tryK b e i Γ.cls.length ks):=by
 intro pins s0 σc H D I q
 obtain ⟨φ,h,σ,o,h',R,rs,ee,kk⟩:=q
 unfold ex at ee
 unfold hOf at hh
 split at hh
 ·rename_i ty nm body hpos
  split at hh
  ·rename_i x xp n ts v ap
   split at hh
   ·rename_i y yp es lp
    split at hh
    ·rename_i hcc
     simp only [Bool.and_eq_true,Bool.not_eq_true',beq_iff_eq,beq_eq_false_iff_ne] at hcc
     obtain ⟨⟨⟨⟨⟨⟨⟨⟨c1,c2⟩,c3⟩,c4⟩,c5⟩,c6⟩,c7⟩,c8⟩,c9⟩:=hcc
     split at hh
     ·rename_i e' i' ks' ei ey ek
      split at hh
      ·rename_i hlen
       cases hh
       refine wpAny_Try_except ?_
       try dsimp only at ee
       cases er:ex F b σ h with
       | stuck=>rw [er] at ee;cases ee
       | ok p=>
        rw [er] at ee
        cases ee
        refine wpAny_execs_cons (wpAny_mono (h0 pins s0 σc H D I ⟨φ,h,σ,o,h',R,rs,er,kk⟩) (fun fl s1 z=>?_) fun _ _ z=>by rw [hx] at z;exact z.elim)
        cases fl with
        | next=>exact wpAny_execs_nil (wpAny_execs_nil z)
        | ret v=>exact z
        | brk=>exact z
        | cont=>exact z
       | exc c h1'=>
        rw [er] at ee
        try dsimp only at ee
        split at ee
        ·rename_i hcm
         cases ee
         obtain ⟨xc,exc⟩:∃ xc,Γ.cls[c]?=some xc:=⟨_,List.getElem?_eq_getElem hcm⟩
         obtain ⟨C,hmC,hC⟩:=fx.cl c xc exc
         have ca:CA X.mg Γ.cls c=some C:=by unfold CA;rw [exc];dsimp only;rw [hmC]
         obtain ⟨D0,hm0,hD0⟩:=fx.cl 0 x (qAe c4)
         have ca0:CA X.mg Γ.cls 0=some D0:=by unfold CA;rw [qAe c4];dsimp only;rw [hm0]
         refine wpAny_execs_cons (wpAny_mono (h1 pins s0 σc H (fun v _ H1=>v=.ref C/\∃ φ1,Ext φ φ1/\Rl X.K G φ1 h1' H1) I ⟨φ,h,σ,c,C,h1',R,rs,er,ca,fun φ1 H1 x1 R1=>⟨rfl,φ1,x1,R1⟩⟩) (fun _ _ z=>z.elim) fun ev s' t=>?_)
         rcases t with ⟨σ1,s1,H1,sg,I1,ea,C2,H2,rfl,Fy,e2,φ1,x1,R1⟩ | ⟨z,_⟩
         case inr=>rw [sole] at z;cases z
         cases sg sole
         cases e2
         have nd:X.N.Nodup:=by rw [f.hN];exact f.nd
         have hie:X.N[e]?=some n:=by rw [f.hN];exact qAe ei
         have hiy:X.N[i]?=some y:=by rw [f.hN];exact qAe ey
         have hloc:X.env.scope.names.lookup n=some .local:=by rw [f.sc];exact c5
         obtain ⟨sy,sy2⟩:=f.store c6
         have nei:e≠i:=by
          intro z
          subst z
          rw [hie] at hiy
          cases hiy
          exact c7 rfl
         refine qMA I1 fx.stk fx.fra fx.exn nd hie hloc (f.gl' c2) hm0 (qBt c1).1 (fx.ro c C D0 ca ca0) Fy (R7:=D.nx) (fun oe s6 hcl I6=>?_) fun σ7 H7 s8 _ _ _ _ _ _ _ _ I8 r=>⟨σ7,H7,I8,r⟩
         have hle:e < σc.length:=by rw [I1.len];exact (List.getElem?_eq_some_iff.mp hie).1
         refine wpAny_mono (L2.pss_one (L2.ps_set (X:=XE X ea oe fun _ _=>False) nd hiy sy (L2.pe_lst (qKz f fx ca hcl hC c3 c5 ei c8 c9 ek)) rfl sy2) pins s6 _ H2 { nx:=fun σ7 H7=>D.nx (σ7.set e none) H7,rt:=fun _ _=>False } I6 ⟨by rw [List.getElem?_set_self hle],by rw [List.length_map];exact Nat.le_trans hlen (by decide),fun p hp=>?_⟩) (fun fl s7 z=>?_) fun _ _ z=>z
         ·refine kk (φ1++[p]) (L2.upd H2 p (.lst (ks.map fun k=>.bl (qDP c k)))) (x1.trans ⟨[p],rfl⟩) (R1.newL hp (qI5 _ _ _)) _ ?_
          show rst (φ1++[p]) ((σ.set i (some (.ref h1'.length))).set e none) (((σc.set e (some (.ref ea))).set i (some (.ref p))).set e none)
          have e3:((σc.set e (some (V.ref ea))).set i (some (V.ref p))).set e none=(σc.set i (some (V.ref p))).set e none:=by
           rw [List.set_comm _ _ nei.symm,List.set_set,List.set_comm _ _ nei]
          rw [e3]
          exact qAs (R:=ropt (φ1++[p])) (x:=none) (u:=none) trivial e (qAs (R:=ropt (φ1++[p])) (x:=some (.ref h1'.length)) (u:=some (.ref p)) ⟨_,rfl,R1.lastRef⟩ i (rst.mono (x1.trans ⟨[p],rfl⟩) rs))
         ·cases fl with
          | next=>obtain ⟨σ7,H7,I7,q7⟩:=z;exact ⟨rfl,σ7,H7,I7,q7⟩
          | ret v=>obtain ⟨_,_,_,_,_,z⟩:=z;exact z.elim
          | brk=>obtain ⟨_,_,_,z⟩:=z;exact z.elim
          | cont=>obtain ⟨_,_,_,z⟩:=z;exact z.elim
        ·cases ee
      ·cases hh
     ·cases hh
    ·cases hh
   ·cases hh
  ·cases hh
 ·cases hh
end
end PI
namespace PI
open PySem PySem.Spec PyProof.Rows PySem.SeqAt
open L2 (V Hp HO Cx PE PT PA PS PSs PG PGs PW RelV FnOk Fun qBB Binds Room SqL SqT)
section
variable {G:List Addr} {F:Nat -> List V -> AH -> RV}
theorem qDp {Γ:Gam} {X:Cx} (f:Fit Γ X G F) (hx:∀ x,Γ.own x=true) {n:Nat} {elt:Expr} {gens:List Comprehension} {scope:Scope} {cpos p pos:Pos} {a:E} {x:Str} {g:Tg} (h:trE n Γ (.ListComp elt gens scope cpos)=some a)
  (hg:trT Γ (.Name x ⟨0,0,0,0⟩)=some g):SS X G F (.Assign [.Name x p] (.ListComp elt gens scope cpos) pos) (.asg g a):=by
 cases n with
 | zero=>unfold trE at h;cases h
 | succ n=>
  unfold trT at hg
  dsimp only at hg
  split at hg
  ·rename_i hs
   obtain ⟨i,ei,rfl⟩:=Option.map_eq_some_iff.mp hg
   obtain ⟨h1,h2⟩:=f.store hs
   obtain ⟨iE,iA,iB,iC,iO,iIf,iI⟩:=qCV (G:=G) (F:=F) n
   unfold trE at h
   dsimp only at h
   split at h
   ·split at h
    split at h
    ·split at h
     ·rename_i hc
      simp only [Bool.and_eq_true] at hc
      split at h
      ·rename_i it g c e' ei' eg ec ee
       cases h
       exact qJ7 f.calm (iI _ _ _ _ ei' X f) (qCF f hc.1) (fun C fp s H=>qIF (qBc f hc.1 C fp s H) eg) (fun C fp s H=>iIf _ _ _ ec _ (qBc f hc.1 C fp s H)) (fun C fp s H=>(iE _ _ _ ee _ (qBc f hc.1 C fp s H)).1) (qG6 hc.2) (by rw [f.hN];exact f.nd) (by rw [f.hN];exact qAe ei) h1 h2
      ·cases h
     ·cases h
    ·cases h
   ·cases h
  ·cases hg
theorem qHy {Γ:Gam} {X:Cx} (f:Fit Γ X G F) {e:Expr} {p:Nat×Es} {pos:Pos} (h:xOf Γ e=some p) (hc:qBr e=true):SS X G F (.Expr e pos) (.xexpr p.1 p.2):=by
 have h0:=h
 unfold xOf at h
 split at h
 ·rename_i fn args kws cpos
  split at h
  ·rename_i g gp a r
   split at h
   ·rename_i hcc
    simp only [Bool.and_eq_true] at hcc
    split at h
    ·rename_i i' as' ei ea
     cases h
     obtain ⟨⟨o1,o2⟩,o3⟩:=hcc
     have hs:=o3
     simp only [List.all_cons,Bool.and_eq_true] at hs
     have s1:=qHE (pos:=cpos) (p:=gp) (f.fns i' g (qAe ei)) (f.gl' o2) (qBt o1).1 hs.1 hs.2 ((qCV (G:=G) (F:=F) 60).2.1 Γ _ _ ea o3 X f)
     refine qDW (qHK (pos:=pos) s1 hc) fun D σc H q=>?_
     obtain ⟨φ,h,σ,o,h',R,rs,e,k⟩:=q
     refine ⟨φ,h,σ,o,h',R,rs,?_,k⟩
     unfold ex at e ⊢
     obtain ⟨⟨xs,h1⟩,e1,e⟩:=Res.bind_inv e
     obtain ⟨⟨v,h2⟩,e2,e⟩:=Res.bind_inv e
     unfold ev
     rw [e1,Res.bind_ok]
     dsimp only at e2 e ⊢
     rw [e2]
     exact e
    ·cases h
   ·cases h
  ·cases h
 ·cases h
theorem qF0 {s:S} (h:s.clean=true) (h1:∀ f as,s≠.xexpr f as) (h2:∀ c,s≠.raise c) (h3:∀ c t u,s≠.ifs c t u):s.calm=true:=by
 cases s<;>first | (exact absurd rfl (h1 _ _)) | (exact absurd rfl (h2 _)) | (exact absurd rfl (h3 _ _ _)) | (rw [S.clean] at h<;>first | exact h | (intros;contradiction))
noncomputable def S.fx:S -> Bool
 | .xexpr _ _=>false
 | .raise _=>false
 | .ifs _ _ _=>false
 | _=>true
noncomputable def qKF:Stmt -> Bool
 | .Expr _ _=>true
 | .Raise _ _ _=>true
 | .If _ _ _ _=>true
 | .Return (some _) _=>true
 | _=>false
theorem qGC {st:Stmt} (h:qKF st=true):(∃ e p,st=.Expr e p)\/(∃ a b p,st=.Raise a b p)\/(∃ c t u p,st=.If c t u p)\/(∃ e p,st=.Return (some e) p):=by
 cases st with
 | Expr e q=>exact .inl ⟨_,_,rfl⟩
 | Raise a b q=>exact .inr (.inl ⟨_,_,_,rfl⟩)
 | If c t u q=>exact .inr (.inr (.inl ⟨_,_,_,_,rfl⟩))
 | Return r q=>cases r with
  | some e=>exact .inr (.inr (.inr ⟨_,_,rfl⟩))
  | none=>cases h
 | _=>cases h
theorem qND (n:Nat) (Γ:Gam) (st:Stmt) (h:qKF st=false):(trS (n + 1) Γ st).fx=true:=by
 unfold trS
 split
 ·(repeat' split)<;>rfl
 ·cases h
 ·cases h
 ·(repeat' split)<;>rfl
 ·(repeat' split)<;>first | rfl | cases h
 ·cases h
 ·(repeat' split)<;>rfl
 ·(repeat' split)<;>rfl
 ·(repeat' split)<;>rfl
 all_goals rfl
theorem qEa (n:Nat):(∀ Γ st (X:Cx),Fit Γ X G F -> FitX Γ X G F -> (∀ x,Γ.own x=true) -> X.xe=(fun _ _=>False) -> SS X G F st (trS n Γ st))/\(∀ Γ sts (X:Cx),Fit Γ X G F -> FitX Γ X G F -> (∀ x,Γ.own x=true) -> X.xe=(fun _ _=>False) -> SSs X G F sts (qCz n Γ sts))/\
  (∀ Γ st (X:Cx),Fit Γ X G F -> FitX Γ X G F -> (∀ x,Γ.own x=true) -> (trS n Γ st).clean=true -> SX X G F Γ.cls st (trS n Γ st))/\(∀ Γ sts (X:Cx),Fit Γ X G F -> FitX Γ X G F -> (∀ x,Γ.own x=true) -> (qCz n Γ sts).clean=true -> SXs X G F Γ.cls sts (qCz n Γ sts)):=by
 induction n with
 | zero=>
  refine ⟨fun Γ st X f fx ho hx=>?_,fun Γ sts X f fx ho hx=>?_,fun Γ st X f fx ho hc=>?_,fun Γ sts X f fx ho hc=>?_⟩
  ·unfold trS;exact qAR
  ·unfold qCz
   intro pins s σ H D I q
   obtain ⟨φ,h,σa,o,h',R,rs,e,k⟩:=q
   unfold exs ex at e
   cases e
  ·unfold trS;exact qBJ rfl
  ·unfold qCz
   intro pins s0 σc H Ex I q
   obtain ⟨φ,h,σ,cc,C,h',R,rs,e,ca,k⟩:=q
   unfold exs ex at e
   cases e
 | succ n ih=>
  obtain ⟨i1,i2,i3,i4⟩:=ih
  obtain ⟨iE,iA,iB,iC,iO,iIf,iI⟩:=qCV (G:=G) (F:=F) 60
  refine ⟨fun Γ st X f fx ho hx=>?_,fun Γ sts X f fx ho hx=>?_,fun Γ st X f fx ho hc=>?_,fun Γ sts X f fx ho hc=>?_⟩
  ·unfold trS
   split
   ·split
    ·split
     ·rename_i v pos _ _ x p
      split
      ·rename_i g a eg ea
       by_cases hc:qBr v=true
       ·refine qDW (L2.ps_asg (iE _ _ _ ea X f).1 (qIF f (tg:=.Name x p) eg) (qDL hc) (by cases v<;>rfl) rfl) fun _ _ _=>qHc
       ·cases v with
        | ListComp elt gens scope cpos=>exact qDp f ho ea eg
        | SetComp elt gens scope cpos=>unfold trE at ea;cases ea
        | DictComp k elt gens scope cpos=>unfold trE at ea;cases ea
        | _=>exact absurd rfl hc
      ·exact qAR
     ·split
      ·exact qAR
      ·exact qAR
     ·split
      ·rename_i hc
       simp only [Bool.and_eq_true] at hc
       split
       ·rename_i o' i' v' eo ei ev
        exact qK3 f.hu (iE _ _ _ eo X f).1 (iE _ _ _ ei X f).1 (iE _ _ _ ev X f).1 hc.1 hc.2
       ·exact qAR
      ·exact qAR
     ·exact qAR
    ·exact qAR
   ·split
    ·rename_i hc
     split
     ·rename_i p ep;exact qHy f ep hc
     ·split
      ·rename_i a ea;exact qHK (iE _ _ _ ea X f).1 hc
      ·exact qAR
    ·exact qAR
   ·split
    ·intro pins s0 σ H D I q
     obtain ⟨φ,h,σa,o,h',R,rs,e,k⟩:=q
     unfold ex at e
     cases e
    ·exact qAR
   ·split
    ·split
     ·rename_i p ep
      split
      ·rename_i hcc
       rw [Bool.and_eq_true] at hcc
       exact qMd f fx hx (e:=p.1) (i:=p.2.1) (ks:=p.2.2) ep (i1 _ _ X f fx ho hx) (i3 _ _ X f fx ho hcc.2) hcc.1
      ·exact qAR
     ·exact qAR
    ·exact qAR
   ·split
    ·split
     ·rename_i a ea;exact qMW (iE _ _ _ ea X f).1
     ·exact qAR
    ·exact qAR
   ·split
    ·rename_i a ea;exact qLU (iE _ _ _ ea X f).2 (i2 _ _ X f fx ho hx) (i2 _ _ X f fx ho hx)
    ·exact qAR
   ·split
    ·split
     ·rename_i hs
      split
      ·rename_i it g ei eg;exact qL8 hx f.calm (iI _ _ _ _ ei X f) (qIF f eg) (i2 _ _ X f fx ho hx) (qG6 hs)
      ·exact qAR
     ·exact qAR
    ·exact qAR
   ·split
    ·exact qAR
    ·exact qAR
   ·exact qAR
  ·cases sts with
   | nil=>unfold qCz;exact qJl
   | cons s r=>unfold qCz;exact qIM (i1 _ _ X f fx ho hx) (i2 _ _ X f fx ho hx)
  ·rcases (Bool.eq_false_or_eq_true (qKF st)).imp qGC (fun h=>qND n Γ st h) with (⟨e,p,rfl⟩ | ⟨a,b,p,rfl⟩ | ⟨c,t,u,p,rfl⟩ | ⟨e,p,rfl⟩) | hf
   ·unfold trS at hc ⊢
    dsimp only at hc ⊢
    split
    ·rename_i hn
     split
     ·rename_i p ep;exact qIN f fx ep hn
     ·split
      ·exact qBJ rfl
      ·exact qBJ rfl
    ·exact qBJ rfl
   ·unfold trS
    dsimp only
    split
    ·rename_i c ec;exact qID f fx ec
    ·exact qBJ rfl
   ·unfold trS at hc ⊢
    dsimp only at hc ⊢
    split
    ·rename_i c' ec
     rw [ec] at hc
     dsimp only at hc
     rw [S.clean,Bool.and_eq_true] at hc
     exact qMH (fun E=>(iE _ _ _ ec _ (f.wish E)).2) (i4 _ _ X f fx ho hc.1) (i4 _ _ X f fx ho hc.2)
    ·exact qBJ rfl
   ·unfold trS
    dsimp only
    split
    ·exact qBJ rfl
    ·exact qBJ rfl
   ·exact qBJ (qF0 hc (fun f as z=>by rw [z] at hf;cases hf) (fun c z=>by rw [z] at hf;cases hf) (fun c t u z=>by rw [z] at hf;cases hf))
  ·cases sts with
   | nil=>unfold qCz;exact qKK
   | cons s r=>
    unfold qCz at hc ⊢
    rw [Ss.clean,Bool.and_eq_true] at hc
    exact qIY (i1 _ _ X.nox (f.wish _) (fx.wish _) ho rfl) (i3 _ _ X f fx ho hc.1) (i4 _ _ X f fx ho hc.2)
end
theorem len0 {α:Type} {us:List α} (h:us.length=0):us=[]:=List.length_eq_zero_iff.mp h
theorem len1 {α:Type} {us:List α} (h:us.length=1):∃ a,us=[a]:=List.length_eq_one_iff.mp h
theorem len2 {α:Type} {us:List α} (h:us.length=2):∃ a b,us=[a,b]:=by
 cases us with
 | nil=>cases h
 | cons a r=>obtain ⟨b,rfl⟩:=len1 (us:=r) (by simpa using h);exact ⟨a,b,rfl⟩
theorem len3 {α:Type} {us:List α} (h:us.length=3):∃ a b c,us=[a,b,c]:=by
 cases us with
 | nil=>cases h
 | cons a r=>obtain ⟨b,c,rfl⟩:=len2 (us:=r) (by simpa using h);exact ⟨a,b,c,rfl⟩
theorem len4 {α:Type} {us:List α} (h:us.length=4):∃ a b c d,us=[a,b,c,d]:=by
 cases us with
 | nil=>cases h
 | cons a r=>obtain ⟨b,c,d,rfl⟩:=len3 (us:=r) (by simpa using h);exact ⟨a,b,c,d,rfl⟩
theorem len5 {α:Type} {us:List α} (h:us.length=5):∃ a b c d e,us=[a,b,c,d,e]:=by
 cases us with
 | nil=>cases h
 | cons a r=>obtain ⟨b,c,d,e,rfl⟩:=len4 (us:=r) (by simpa using h);exact ⟨a,b,c,d,e,rfl⟩
theorem len6 {α:Type} {us:List α} (h:us.length=6):∃ a b c d e f,us=[a,b,c,d,e,f]:=by
 cases us with
 | nil=>cases h
 | cons a r=>obtain ⟨b,c,d,e,f,rfl⟩:=len5 (us:=r) (by simpa using h);exact ⟨a,b,c,d,e,f,rfl⟩
structure qGL where
 x:Str
 st:Stmt
 ps:List Str
 N:List Str
structure Tbl where
 ds:List qGL
 gl:List (Str×E)
 bl:List Str
 cls:List Str:=[]
 xr:List Str:=[]
noncomputable def Tbl.gam (T:Tbl) (d:qGL):Gam:=⟨d.N,L2.defScope d.st,T.ds.map (·.x),T.gl,T.bl,fun _=>true,T.cls,T.xr.contains d.x⟩
noncomputable def qCc (b:Ss):Ss:=if b.clean=true then b else .cons .stop .nil
noncomputable def Tbl.fn (T:Tbl) (d:qGL):Fn:=⟨d.ps.length,d.N.length,qCc (qCz 60 (T.gam d) (L2.defBody d.st))⟩
noncomputable def Tbl.fns (T:Tbl):List Fn:=T.ds.map T.fn
structure ClsOk (K:PySem.W.Frag) (mg:Str -> Option Value) (cn:List Str):Prop where
 cl:∀ (c:Nat) x,cn[c]?=some x -> ∃ C,mg x=some (.ref C)/\qGM K C
 sb:∀ c k C D,CA mg cn c=some C -> CA mg cn k=some D -> PySem.W.kitOne K (.ref C) (.ref D)=some (qDP c k)
 sv:∀ c C,CA mg cn c=some C -> PySem.W.kitOne K (.ref C) (.type "ValueError")=some true
 ro:∀ c C D,CA mg cn c=some C -> CA mg cn 0=some D -> PySem.W.exmOne K (.ref C) (.ref D)=some true
 xs:Xs K mg cn
theorem ClsOk.nil {K:PySem.W.Frag} {mg:Str -> Option Value}:ClsOk K mg []:=
 ⟨fun c x h=>by simp at h,fun c k C D h=>by obtain ⟨x,e,_⟩:=qGm h;simp at e,fun c C h=>by obtain ⟨x,e,_⟩:=qGm h;simp at e,fun c C D h=>by obtain ⟨x,e,_⟩:=qGm h;simp at e,⟨fun x h=>by simp at h,fun x h=>by simp at h⟩⟩
structure qGb (K:PySem.W.Frag) (mg:Str -> Option Value) (G:List Addr) (T:Tbl) (fa:List Addr) (fd:List FuncData):Prop where
 def_:∀ (i:Nat) d,T.ds[i]?=some d -> ∃ a f,fa[i]?=some a/\fd[i]?=some f/\Fun K d.x d.x d.st a f/\qBB d.N d.ps (L2.defScope d.st)/\mg d.x=some (.ref a)/\Binds K f d.ps []
 gls:∀ x e,T.gl.lookup x=some e -> (∃ v u,e=.cst v/\mg x=some u/\RelV v u/\∀ φ,rv φ v v)\/(∃ g a,e=.glob g/\mg x=some (.ref a)/\G[g]?=some a)
 blt:∀ x,T.bl.contains x=true -> mg x=none
 cls:ClsOk K mg T.cls
 gtu:∀ a∈G,∃ o,K.lookup a=some o/\o.cls=.type "tuple"/\o.dict=none
theorem qEW {φ:List Addr} {ws vs:List V} (r:rvs φ ws vs) (n:Nat):rst φ (ws.map some++List.replicate n none) (vs.map some++List.replicate n none):=by
 refine qAO ?_ ?_
 ·induction r with
  | nil=>exact .nil
  | cons h t ih=>exact .cons ⟨_,rfl,h⟩ ih
 ·induction n with
  | zero=>exact .nil
  | succ n ih=>exact .cons trivial ih
section
variable {P:Program} {w:World} {K:PySem.W.Frag} {mg:Str -> Option Value} {base:Heap} {G:List Addr} {T:Tbl} {fa:List Addr} {fd:List FuncData}
theorem qLG {k i:Nat} {d:qGL} (h1:T.ds[i]?=some d) {ws:List V} {h h':AH} {v:V} (e:Fk T.fns (k + 1) i ws h=.ok (v,h')):ws.length=d.ps.length/\d.ps.length<=d.N.length/\∃ o,exs (Fk T.fns k) (qCz 60 (T.gam d) (L2.defBody d.st)) (ws.map some++List.replicate (d.N.length - d.ps.length) none) h=.ok (o,h')/\
  ((∃ σ,o=.nx σ/\v=.non)\/o=.rt v):=by
 unfold Fk at e
 have ht:T.fns[i]?=some (T.fn d):=by unfold Tbl.fns;rw [List.getElem?_map,h1];rfl
 rw [ht] at e
 dsimp only at e
 split at e
 ·rename_i hc
  obtain ⟨⟨o,h2⟩,e2,e⟩:=Res.bind_inv e
  have e3:exs (Fk T.fns k) (qCc (qCz 60 (T.gam d) (L2.defBody d.st))) (ws.map some++List.replicate (d.N.length - d.ps.length) none) h=.ok (o,h2):=e2
  have e4:exs (Fk T.fns k) (qCz 60 (T.gam d) (L2.defBody d.st)) (ws.map some++List.replicate (d.N.length - d.ps.length) none) h=.ok (o,h2):=by
   unfold qCc at e3
   split at e3
   ·exact e3
   ·unfold exs ex at e3;cases e3
  refine ⟨hc.1,hc.2,o,?_,?_⟩
  ·cases o<;>cases e<;>exact e4
  ·cases o with
   | nx σ=>cases e;exact .inl ⟨σ,rfl,rfl⟩
   | rt u=>cases e;exact .inr rfl
   | bk σ=>cases e
   | ct σ=>cases e
 ·cases e
theorem qJF {k i c:Nat} {d:qGL} (h1:T.ds[i]?=some d) {ws:List V} {h h':AH} (e:Fk T.fns (k + 1) i ws h=.exc c h'):ws.length=d.ps.length/\d.ps.length<=d.N.length/\(qCz 60 (T.gam d) (L2.defBody d.st)).clean=true/\exs (Fk T.fns k) (qCz 60 (T.gam d) (L2.defBody d.st)) (ws.map some++List.replicate (d.N.length - d.ps.length) none) h=.exc c h':=by
 unfold Fk at e
 have ht:T.fns[i]?=some (T.fn d):=by unfold Tbl.fns;rw [List.getElem?_map,h1];rfl
 rw [ht] at e
 dsimp only at e
 split at e
 ·rename_i hc
  have e3:(exs (Fk T.fns k) (qCc (qCz 60 (T.gam d) (L2.defBody d.st))) (ws.map some++List.replicate (d.N.length - d.ps.length) none) h).bind (fun (o,h1)=>match o with | .nx _=>Res.ok (V.non,h1) | .rt v=>.ok (v,h1) | _=>.stuck)=.exc c h':=e
  unfold qCc at e3
  split at e3
  ·rename_i hcl
   refine ⟨hc.1,hc.2,hcl,?_⟩
   revert e3
   generalize exs (Fk T.fns k) (qCz 60 (T.gam d) (L2.defBody d.st)) _ h=r
   intro e3
   cases r with
   | stuck=>cases e3
   | exc c2 h2=>cases e3;rfl
   | ok p=>obtain ⟨o,h2⟩:=p;cases o<;>cases e3
  ·unfold exs ex at e3;cases e3
 ·cases e
theorem qJA (O:qGb K mg G T fa fd) {k:Nat} {d:qGL} (f0:∀ (i:Nat) d a f,T.ds[i]?=some d -> fa[i]?=some a -> fd[i]?=some f -> FnOk P w K mg base L2.CX0 k a f d.ps (spF G (Fk T.fns k) K i)) (f1:∀ (i:Nat) d a f,T.ds[i]?=some d -> fa[i]?=some a -> fd[i]?=some f -> FnOk P w K mg base (CX1 P w) k a f d.ps (spX mg T.cls G (Fk T.fns k) K i))
  (hS:qBB d.N d.ps (L2.defScope d.st)) (CX:L2.CXT) (a:Addr) (cdv:Value) (A:Around) (outer:List Env) (s:Shared) (H:Hp) (E:L2.XK) (E2:Value -> Shared -> Prop) (hr:Room k (A.deeper (envOfC d.x (L2.defScope d.st) s.heap.objs.size a cdv))):
  Fit (T.gam d) ((L2.cxOf CX P w K mg base d.N d.x (L2.defScope d.st) a cdv A outer s H E).wish E2) G (Fk T.fns k)/\FitX (T.gam d) ((L2.cxOf CX P w K mg base d.N d.x (L2.defScope d.st) a cdv A outer s H E).wish E2) G (Fk T.fns k):=by
 have get:∀ (g:Nat) x,(T.gam d).fns[g]?=some x -> ∃ d2 a2 f2,T.ds[g]?=some d2/\d2.x=x/\fa[g]?=some a2/\fd[g]?=some f2/\mg x=some (.ref a2)/\PySem.W.keepIn K (.ref a2)=true/\Binds K f2 d2.ps []:=fun g x eg=>by
  have eg':(T.ds.map (·.x))[g]?=some x:=eg
  rw [List.getElem?_map] at eg'
  cases hd:T.ds[g]? with
  | none=>rw [hd] at eg';cases eg'
  | some d2=>
   rw [hd] at eg'
   cases eg'
   obtain ⟨a2,f2,q1,q2,q3,q4,q5,q6⟩:=O.def_ g d2 hd
   exact ⟨d2,a2,f2,rfl,rfl,q1,q2,q5,q3.kp,q6⟩
 refine ⟨⟨rfl,hS.nd,rfl,rfl,fun _ _=>rfl,fun g x eg=>?_,O.gls,O.blt,?_,hr.gd,O.gtu,O.cls.xs⟩,⟨rfl,rfl,rfl,fun g x eg=>?_,O.cls.cl,O.cls.sb,O.cls.sv,O.cls.ro⟩⟩
 ·obtain ⟨d2,a2,f2,q1,rfl,q2,q3,q4,q5,q6⟩:=get g x eg
  exact ⟨k,a2,f2,d2.ps,f0 g d2 a2 f2 q1 q2 q3,hr,q4,q5,q6⟩
 ·have:=hr.units
  show (A.deeper (envOfC d.x (L2.defScope d.st) s.heap.objs.size a cdv)).units + 8 < cLine
  omega
 ·obtain ⟨d2,a2,f2,q1,rfl,q2,q3,q4,q5,q6⟩:=get g x eg
  exact ⟨k,a2,f2,d2.ps,f1 g d2 a2 f2 q1 q2 q3,hr,q4,q5,q6⟩
theorem qHJ (O:qGb K mg G T fa fd):∀ (k:Nat),(∀ (i:Nat) d a f,T.ds[i]?=some d -> fa[i]?=some a -> fd[i]?=some f -> FnOk P w K mg base L2.CX0 k a f d.ps (spF G (Fk T.fns k) K i))/\
  (∀ (i:Nat) d a f,T.ds[i]?=some d -> fa[i]?=some a -> fd[i]?=some f -> FnOk P w K mg base (CX1 P w) k a f d.ps (spX mg T.cls G (Fk T.fns k) K i))
 | 0=>⟨fun i d a f h1 h2 h3=>⟨(fun vs H Q E h=>by obtain ⟨_,_,_,_,_,_,_,e,_⟩:=h;unfold Fk at e;cases e),(fun A outer s H args us vs Q E hr e0 hb r h=>by obtain ⟨_,_,_,_,_,_,_,e,_⟩:=h;unfold Fk at e;cases e)⟩,
   fun i d a f h1 h2 h3=>⟨(fun vs H Q E h=>by obtain ⟨_,_,_,_,_,_,_,_,e,_⟩:=h;unfold Fk at e;cases e),(fun A outer s H args us vs Q E hr e0 hb r h=>by obtain ⟨_,_,_,_,_,_,_,_,e,_⟩:=h;unfold Fk at e;cases e)⟩⟩
 | k + 1=>by
  obtain ⟨f0,f1⟩:=qHJ O k
  refine ⟨fun i d a f h1 h2 h3=>?_,fun i d a f h1 h2 h3=>?_⟩
  ·obtain ⟨a',f',e1,e2,hF,hS,hm,hB⟩:=O.def_ i d h1
   rw [h2] at e1;cases e1
   rw [h3] at e2;cases e2
   refine hF.ok hS (fun vs H Q E h=>?_) (fun cdv A outer s H vs Q E hr h=>?_)
   ·obtain ⟨φ,h0,ws,v,h',R,r,e,_⟩:=h
    rw [<- Paired.length r]
    exact (qLG h1 e).1
   ·obtain ⟨φ,h0,ws,v,h',R,r,e,kk⟩:=h
    obtain ⟨l1,l2,o,eo,ho⟩:=qLG h1 e
    obtain ⟨fit,fitx⟩:=qJA O f0 f1 hS L2.CX0 a cdv A outer s H E (fun _ _=>False) hr
    refine ⟨_,(qEa (G:=G) (F:=Fk T.fns k) 60).2.1 (T.gam d) (L2.defBody d.st) _ fit fitx (fun _=>rfl) rfl,φ,h0,_,o,h',R,?_,eo,fun φ' H' x' R'=>?_⟩
    ·unfold L2.start
     rw [<- Paired.length r,l1]
     exact qEW r _
    ·rcases ho with ⟨σ,rfl,rfl⟩ | rfl
     ·exact fun σc _=>kk φ' H' .non x' R' trivial
     ·exact fun u ru=>kk φ' H' u x' R' ru
  ·obtain ⟨a',f',e1,e2,hF,hS,hm,hB⟩:=O.def_ i d h1
   rw [h2] at e1;cases e1
   rw [h3] at e2;cases e2
   obtain ⟨oc,od,kV,doc,pm,an,cdv,ct,osl,rfl,lk,hcd⟩:=hF.ex
   refine L2.fn_of lk hcd hS (fun vs H Q E h=>?_) fun A outer s H vs Q E hr h=>?_
   ·obtain ⟨φ,h0,ws,c,C,h',R,r,e,_⟩:=h
    rw [<- Paired.length r]
    exact (qJF h1 e).1
   ·obtain ⟨φ,h0,ws,c,C,h',R,r,e,ca,kk⟩:=h
    obtain ⟨l1,l2,cl,eo⟩:=qJF h1 e
    obtain ⟨fit,fitx⟩:=qJA O f0 f1 hS (CX1 P w) a cdv A outer s H E (L2.cxOf (CX1 P w) P w K mg base d.N d.x (L2.defScope d.st) a cdv A outer s H E).xe hr
    refine ⟨fun _ σc H1=>tX (L2.cxOf (CX1 P w) P w K mg base d.N d.x (L2.defScope d.st) a cdv A outer s H E) G T.cls (exs (Fk T.fns k) (qCz 60 (T.gam d) (L2.defBody d.st))) σc H1 E,fun pins s1 σc H1 D I q=>?_,φ,h0,_,c,C,h',R,?_,eo,ca,kk⟩
    ·refine wpAny_mono ((qEa (G:=G) (F:=Fk T.fns k) 60).2.2.2 (T.gam d) (L2.defBody d.st) _ fit fitx (fun _=>rfl) cl pins s1 σc H1 E I q) (fun _ _ z=>z.elim) fun ev s' z=>?_
     rcases z with ⟨σ1,s2,H2,_,I2,ea,C2,H3,rfl,Fy,ec⟩ | ⟨_,σ1,s2,H2,h2,ea,vs2,C2,I2,mk,rfl,rfl,ec⟩
     ·exact wpAny_mono (qFu I2 rfl rfl rfl Fy) (fun _ s3 z=>⟨ea,C2,H3,rfl,z,ec⟩) fun _ _ z=>z
     ·exact wpAny_mono (qE3 I2 rfl rfl rfl mk) (fun _ s3 z=>⟨ea,C2,H2,rfl,z,ec⟩) fun _ _ z=>z
    ·unfold L2.start
     rw [<- Paired.length r,l1]
     exact qEW r _
theorem qH9 (O:qGb K mg G T fa fd) (k i:Nat) (d:qGL) (a:Addr) (f:FuncData) (h1:T.ds[i]?=some d) (h2:fa[i]?=some a) (h3:fd[i]?=some f):FnOk P w K mg base L2.CX0 k a f d.ps (spF G (Fk T.fns k) K i):=(qHJ O k).1 i d a f h1 h2 h3
end
noncomputable def qHv (K:PySem.W.Frag):L2.Sp:=fun vs H Q _=>∃ (a:Addr) (ns:List Int),vs=[.ref a]/\L2.Only H/\SqL K H a (ns.map V.int)/\ns.length<=63/\∀ H',Q (.bl true) H'
noncomputable def qEC (gs:List O) (ns:List Int):AH:=gs++[.lst true (ns.map V.int)]
noncomputable def qFp (K:PySem.W.Frag):List Addr -> List O -> Prop
 | [],[]=>True
 | a::as,.tup xs::os=>(SqT K (fun _=>none) a xs/\xs.all flat=true)/\qFp K as os
 | _,_=>False
theorem qDd {φ:List Addr}:∀ {xs:List V},xs.all flat=true -> rvs φ xs xs
 | [],_=>.nil
 | x::xs,h=>by
  simp only [List.all_cons,Bool.and_eq_true] at h
  refine .cons ?_ (qDd h.2)
  cases x<;>first | rfl | exact trivial | (cases h.1)
theorem qHw {K:PySem.W.Frag} {H:Hp} {a:Addr} {xs:List V} (q:SqT K (fun _=>none) a xs):SqT K H a xs:=by
 rcases q with (h | ⟨o,h⟩) | h
 ·cases h
 ·cases h
 ·exact .inr h
theorem qDH {K:PySem.W.Frag}:∀ {as:List Addr} {os:List O},qFp K as os -> as.length=os.length/\∀ (i:Nat) o a,os[i]?=some o -> as[i]?=some a -> ∃ xs,o=.tup xs/\SqT K (fun _=>none) a xs/\xs.all flat=true
 | [],[],_=>⟨rfl,fun i o a h=>by simp at h⟩
 | [],_::_,h=>False.elim h
 | _::_,[],h=>False.elim h
 | a::as,.lst _ _::os,h=>False.elim h
 | a::as,.tup xs::os,h=>by
  obtain ⟨h1,h2⟩:=h
  obtain ⟨l,k⟩:=qDH h2
  refine ⟨by simp [l],fun i o b e1 e2=>?_⟩
  cases i with
  | zero=>simp at e1 e2;subst e1 e2;exact ⟨xs,rfl,h1⟩
  | succ i=>exact k i o b (by simpa using e1) (by simpa using e2)
theorem qGt {P:Program} {w:World} {K:PySem.W.Frag} {mg:Str -> Option Value} {base:Heap} {G:List Addr} {gs:List O} {T:Tbl} {fa:List Addr} {fd:List FuncData} (O:qGb K mg G T fa fd) (hG:qFp K G gs) {k i:Nat} {d:qGL} {a:Addr} {f:FuncData}
  (h1:T.ds[i]?=some d) (h2:fa[i]?=some a) (h3:fd[i]?=some f) (hp:d.ps=(["_law_script"]:List Str)) (main:∀ ns:List Int,ns.length<=63 -> ∃ h',Fk T.fns k i [.ref gs.length] (qEC gs ns)=.ok (.bl true,h')):
  FnOk P w K mg base L2.CX0 k a f (["_law_script"]:List Str) (qHv K):=by
 have F:=qH9 (P:=P) (w:=w) (base:=base) O k i d a f h1 h2 h3
 rw [hp] at F
 refine ⟨fun vs H Q E h=>by obtain ⟨b,ns,rfl,_⟩:=h;rfl,fun A outer s H args us vs Q E hr e0 hb r h=>?_⟩
 obtain ⟨b,ns,rfl,hO,hS,hl,q⟩:=h
 obtain ⟨h',e⟩:=main ns hl
 obtain ⟨lg,kg⟩:=qDH hG
 refine F.run A outer s H args us _ Q E hr e0 hb r ⟨G++[b],qEC gs ns,[.ref gs.length],.bl true,h',⟨by unfold qEC;simp [lg],⟨[b],rfl⟩,fun j o c e1 e2=>?_,fun j l xs ys c e1 e2 e3 e4=>?_⟩,.cons (by show (G++[b])[gs.length]?=some b;rw [<- lg];simp) .nil,e,fun φ' H' u x' R' ru=>by rw [qA8 ru];exact q H'⟩
 ·unfold qEC at e1
  by_cases hj:j < gs.length
  ·rw [List.getElem?_append_left hj] at e1
   rw [List.getElem?_append_left (by omega)] at e2
   obtain ⟨xs,rfl,h5,h6⟩:=kg j o c e1 e2
   exact ⟨xs,qHw h5,qDd h6⟩
  ·have hj':j=gs.length:=by
    have:=(List.getElem?_eq_some_iff.mp e1).1
    simp at this
    omega
   subst hj'
   simp at e1
   rw [<- lg] at e2
   simp at e2
   subst e1 e2
   refine ⟨ns.map V.int,?_,qDd (qEK ns)⟩
   rcases hS with (z | ⟨ob,z⟩) | z
   ·rcases hO b with y | ⟨ob,xs,y⟩<;>(rw [y] at z;cases z)
   ·exact .inl ⟨ob,z⟩
   ·exact .inr (.inr z)
 ·have no:∀ {m:Nat} {z:PI.O},z.mu=true -> (qEC gs ns)[m]?=some z -> False:=fun {m zs} mz em=>by
   unfold qEC at em
   by_cases hj:m < gs.length
   ·rw [List.getElem?_append_left hj] at em
    obtain ⟨xs,ex,_⟩:=kg m _ (G[m]'(by omega)) em (List.getElem?_eq_getElem (by omega))
    subst ex
    cases mz
   ·have hj':m=gs.length:=by
     have:=(List.getElem?_eq_some_iff.mp em).1
     simp at this
     omega
    subst hj'
    simp at em
    subst em
    cases mz
  exact (no ‹_› ‹_›).elim
end PI
namespace PI
open PySem PySem.Spec PyProof.Rows L2
theorem ClsOk.of {K:PySem.W.Frag} {mg:Str -> Option Value} {cn:List Str} {Cs:List Addr} (hm:∀ (c:Nat) x,cn[c]?=some x -> ∃ C,Cs[c]?=some C/\mg x=some (.ref C)/\PySem.W.nsIn K mainGlobals x=some (some (.ref C)))
  (hx:∀ (c:Nat) C,Cs[c]?=some C -> qGM K C/\PySem.W.kitOne K (.ref C) (.type "ValueError")=some true)
  (hs:∀ (c k:Nat) C D,Cs[c]?=some C -> Cs[k]?=some D -> PySem.W.kitOne K (.ref C) (.ref D)=some (qDP c k))
  (hr:∀ (c:Nat) C D,Cs[c]?=some C -> Cs[0]?=some D -> PySem.W.exmOne K (.ref C) (.ref D)=some true)
  (hn:cn.Nodup) (h0:cn[0]?=some ("HealError":Str)) (hv:("ValueError":Str)∉cn) (hl:cn.length < 999):ClsOk K mg cn:=by
 have up:∀ {c:Nat} {C:Addr},CA mg cn c=some C -> Cs[c]?=some C:=fun {c C} h=>by
  obtain ⟨x,e,em⟩:=qGm h
  obtain ⟨D,hD,eD,_⟩:=hm c x e
  cases em.symm.trans eD
  exact hD
 refine ⟨fun c x h=>by obtain ⟨C,hC,e,_⟩:=hm c x h;exact ⟨C,e,(hx c C hC).1⟩,fun c k C D h1 h2=>hs c k C D (up h1) (up h2),fun c C h=>(hx c C (up h)).2,fun c C D h1 h2=>hr c C D (up h1) (up h2),⟨fun x h=>?_,fun x h1 y h2 C D m1 m2=>?_⟩⟩
 ·obtain ⟨c,e⟩:=List.mem_iff_getElem?.mp h
  obtain ⟨C,hC,e1,e2⟩:=hm c x e
  exact ⟨C,e1,e2,(hx c C hC).1,(hx c C hC).2⟩
 ·obtain ⟨c,e1⟩:=List.mem_iff_getElem?.mp h1
  obtain ⟨k,e2⟩:=List.mem_iff_getElem?.mp h2
  obtain ⟨C',hC,q1,_⟩:=hm c x e1
  obtain ⟨D',hD,q2,_⟩:=hm k y e2
  rw [m1] at q1;cases q1
  rw [m2] at q2;cases q2
  rw [hs c k C D hC hD]
  have one:∀ {i j:Nat} {z z':Str},cn[i]?=some z -> cn[j]?=some z' -> (i=j↔z=z'):=fun {i j z z'} a b=>⟨fun h=>by subst h;rw [a] at b;cases b;rfl,fun h=>L2.nodup_ix hn a (h ▸ b)⟩
  have lk:=(List.getElem?_eq_some_iff.mp e2).1
  have b1:(k==c)=decide (y=x):=by rw [Bool.eq_iff_iff];simp [one e2 e1]
  have b2:(k==0)=decide (y="HealError"):=by rw [Bool.eq_iff_iff];simp [one e2 h0]
  have b3:(k==999)=false:=by simp;omega
  have b4:decide (y=("ValueError":Str))=false:=by simp;rintro rfl;exact hv h2
  unfold qDP qN4
  rw [b1,b2,b3,b4]
structure qIQ (K:PySem.W.Frag) (x:Str) (C:Addr):Prop where
 a:PySem.W.nsIn K mainGlobals x=some (some (.ref C))
 b:qGM K C
 j:PySem.W.kitOne K (.ref C) (.type "ValueError")=some true
noncomputable def qIs (K:PySem.W.Frag) (Cs:List Addr):Bool:=Cs.zipIdx.all fun p=>Cs.zipIdx.all (fun q=>PySem.W.kitOne K (.ref p.1) (.ref q.1)==some (qDP p.2 q.2))&&PySem.W.exmOne K (.ref p.1) (.ref (Cs.getD 0 0))==some true
theorem ClsOk.all {K:PySem.W.Frag} {h:Heap} {mg:Str -> Option Value} {cn:List Str} {Cs:List Addr} (X:K.In h) (G:h.Ns mainGlobals mg) (hp:Paired (qIQ K) cn Cs) (hc:qIs K Cs=true) (hn:cn.Nodup) (h0:cn[0]?=some ("HealError":Str)) (hv:("ValueError":Str)∉cn) (hl:cn.length < 999):ClsOk K mg cn:=by
 have got:∀ {c:Nat} {C:Addr},Cs[c]?=some C -> ∃ x,cn[c]?=some x/\qIQ K x C:=fun {c C} e=>by
  have l:c < cn.length:=by rw [Paired.length hp];exact (List.getElem?_eq_some_iff.mp e).1
  obtain ⟨D,e1,q⟩:=qAD hp (List.getElem?_eq_getElem l)
  rw [e] at e1;cases e1
  exact ⟨_,List.getElem?_eq_getElem l,q⟩
 have mz:∀ {c:Nat} {C:Addr},Cs[c]?=some C -> (C,c)∈Cs.zipIdx:=fun {c C} e=>List.mk_mem_zipIdx_iff_getElem?.mpr e
 have ck:∀ {c:Nat} {C:Addr},Cs[c]?=some C -> (∀ (k:Nat) D,Cs[k]?=some D -> PySem.W.kitOne K (.ref C) (.ref D)=some (qDP c k))/\PySem.W.exmOne K (.ref C) (.ref (Cs.getD 0 0))=some true:=fun {c C} e=>by
  have:=List.all_eq_true.mp hc _ (mz e)
  rw [Bool.and_eq_true] at this
  exact ⟨fun k D eD=>beq_iff_eq.mp (List.all_eq_true.mp this.1 _ (mz eD)),beq_iff_eq.mp this.2⟩
 refine ClsOk.of (Cs:=Cs) (fun c x e=>?_) (fun c C e=>?_) (fun c k C D e1 e2=>(ck e1).1 k D e2) (fun c C D e1 e2=>?_) hn h0 hv hl
 ·obtain ⟨C,e1,q⟩:=qAD hp e
  exact ⟨C,e1,PySem.W.mg_of X G q.a,q.a⟩
 ·obtain ⟨x,_,q⟩:=got e
  exact ⟨q.b,q.j⟩
 ·have:=(ck e1).2
  rw [List.getD_eq_getElem?_getD,e2] at this
  exact this
noncomputable def qFd (K:PySem.W.Frag) (x:Str):Bool:=match PySem.W.nsIn K mainGlobals x with
 | some (some (.ref C))=>(PySem.W.clsIn K C).isSome&&(PySem.W.findIn K (.ref C) "__class__"==some (some (.builtin "object.__class__")))&&(PySem.W.mroIn K C (.type "object")==some true)&&(PySem.W.mroIn K C (.type "BaseException")==some true)&&(PySem.W.findIn K (.ref C) "__getattribute__"==some (some (.builtin "BaseException.__getattribute__")))&&(PySem.W.findIn K (.ref C) "__getattr__"==some none)&&PySem.W.excIn K C [.type "ValueError",.type "Exception",.type "BaseException",.type "object"] "ValueError.__new__"&&(PySem.W.kitOne K (.ref C) (.type "ValueError")==some true)
 | _=>false
noncomputable def qEZ (K:PySem.W.Frag) (x:Str):Addr:=match PySem.W.nsIn K mainGlobals x with
 | some (some (.ref C))=>C
 | _=>0
noncomputable def qHd (K:PySem.W.Frag) (cn:List Str):Bool:=cn.all (qFd K)&&qIs K (cn.map (qEZ K))
theorem qG3 {K:PySem.W.Frag} {x:Str} (h:qFd K x=true):qIQ K x (qEZ K x):=by
 unfold qFd at h
 unfold qEZ
 split at h
 ·rename_i C e
  simp only [Bool.and_eq_true,beq_iff_eq] at h
  obtain ⟨⟨⟨⟨⟨⟨⟨h1,h2⟩,h3⟩,h4⟩,h5⟩,h6⟩,h7⟩,h8⟩:=h
  obtain ⟨cd,h1⟩:=Option.isSome_iff_exists.mp h1
  exact ⟨e,⟨⟨cd,h1⟩,h2,h3,h4,h5,h6,h7⟩,h8⟩
 ·cases h
theorem ClsOk.rec_ {K:PySem.W.Frag} {h:Heap} {mg:Str -> Option Value} {cn:List Str} (X:K.In h) (G:h.Ns mainGlobals mg) (hc:qHd K cn=true) (hn:cn.Nodup) (h0:cn[0]?=some ("HealError":Str)) (hv:("ValueError":Str)∉cn) (hl:cn.length < 999):ClsOk K mg cn:=by
 unfold qHd at hc
 rw [Bool.and_eq_true] at hc
 refine ClsOk.all (Cs:=cn.map (qEZ K)) X G ?_ hc.2 hn h0 hv hl
 have go:∀ l:List Str,l.all (qFd K)=true -> Paired (qIQ K) l (l.map (qEZ K)):=fun l=>by
  induction l with
  | nil=>exact fun _=>.nil
  | cons a r ih=>
   intro h
   rw [List.all_cons,Bool.and_eq_true] at h
   exact .cons (qG3 h.1) (ih h.2)
 exact go cn hc.1
noncomputable abbrev qMZ (K:PySem.W.Frag) (d:qGL):Prop:=∃ (f:Addr) (oc:Value) (od an:Option Addr) (sl:Array (Option Value)) (kV dc pm cd ct:Value),PySem.W.nsIn K mainGlobals d.x=some (some (.ref f))/\K.lookup f=some ⟨oc,od,.func (PySem.W.fnOf d.x d.x (qBg d.st) (defBody d.st) (defScope d.st) .none kV dc pm an cd ct),sl⟩/\PySem.W.codeIn K cd d.x=true/\PySem.W.keepIn K (.ref f)=true
structure qM8 (d:qGL):Prop where
 sc:qBB d.N d.ps (defScope d.st)
 bd:∀ (kV doc pm:Value) (an:Option Addr) (cdv ct:Value) (us:List Value),us.length=d.ps.length -> bindArgs (PySem.W.fnOf d.x d.x (qBg d.st) (defBody d.st) (defScope d.st) .none kV doc pm an cdv ct) ⟨us,[]⟩=pure (d.ps.zip us)
theorem qI1 {K:PySem.W.Frag} {h:Heap} {mg:Str -> Option Value} (X:K.In h) (G:h.Ns mainGlobals mg):∀ (ds:List qGL),(∀ d∈ds,qMZ K d) -> (∀ d∈ds,qM8 d) -> ∃ (fa:List Addr) (fd:List FuncData),∀ (i:Nat) d,ds[i]?=some d -> ∃ a f,fa[i]?=some a/\fd[i]?=some f/\Fun K d.x d.x d.st a f/\qBB d.N d.ps (L2.defScope d.st)/\mg d.x=some (.ref a)/\Binds K f d.ps []
 | [],_,_=>⟨[],[],fun i d h=>by simp at h⟩
 | d::ds,h,hk=>by
  obtain ⟨fa,fd,k⟩:=qI1 X G ds (fun x hx=>h x (by simp [hx])) fun x hx=>hk x (by simp [hx])
  obtain ⟨f,oc,od,an,sl,kV,dc,pm,cd,ct,h1,h2,h3,h4⟩:=h d (by simp)
  have hd:=hk d (by simp)
  refine ⟨f::fa,PySem.W.fnOf d.x d.x (qBg d.st) (defBody d.st) (defScope d.st) .none kV dc pm an cd ct::fd,fun i e he=>?_⟩
  cases i with
  | zero=>cases he;exact ⟨_,_,rfl,rfl,qI3 h2 h3 h4,hd.sc,PySem.W.mg_of X G h1,(qI3 h2 h3 h4).binds hd.bd⟩
  | succ i=>exact k i e he
theorem qNF {K:PySem.W.Frag} {d:qGL} {a:Addr} {f:FuncData} {x:Str} (F:Fun K d.x d.x d.st a f) (h:qM8 d) (hp:d.ps=[x]) (s:Shared) (v:Value):BindsTo s f ⟨[v],[]⟩ [(x,v)]:=by
 obtain ⟨oc,od,kV,doc,pm,an,cdv,ct,osl,rfl,lk,hcd⟩:=F.ex
 refine .of_eq ?_
 rw [h.bd kV doc pm an cdv ct [v] (by rw [hp];rfl),hp];rfl
end PI
namespace PI
open L2 (V)
inductive T where
 | v (x:V) | cell (n:Nat) | fz (xs:List T) | lst (xs:List T) | tup (xs:List T) | ob (o:Ob)
noncomputable abbrev Mem:=List (List T)
noncomputable abbrev TS:=List (Option T)
inductive PR (α:Type) | ok (a:α) | exc (c:Nat) (M:Mem) | stuck
noncomputable def PR.bind {α β:Type}:PR α -> (α -> PR β) -> PR β
 | .ok a,f=>f a
 | .exc c M,_=>.exc c M
 | .stuck,_=>.stuck
@[simp] theorem PR.bind_ok {α β:Type} (a:α) (f:α -> PR β):(PR.ok a).bind f=f a:=Eq.trans rfl rfl
@[simp] theorem PR.bind_stuck {α β:Type} (f:α -> PR β):(PR.stuck:PR α).bind f=.stuck:=Eq.trans rfl rfl
noncomputable def PR.nx {α:Type}:PR α -> PR α
 | .ok a=>.ok a
 | .exc _ _=>.stuck
 | .stuck=>.stuck
@[simp] theorem PR.nx_ok {α:Type} (a:α):(PR.ok a).nx=.ok a:=Eq.trans rfl rfl
@[simp] theorem PR.nx_stuck {α:Type}:(PR.stuck:PR α).nx=.stuck:=Eq.trans rfl rfl
noncomputable def PR.ofO {α:Type}:Option α -> PR α
 | some a=>.ok a
 | none=>.stuck
@[simp] theorem PR.ofO_some {α:Type} (a:α):PR.ofO (some a)=.ok a:=Eq.trans rfl rfl
mutual
noncomputable def T.lf:T -> Bool
 | .v _=>true
 | .ob _=>true
 | .tup ts=>T.lfs ts
 | _=>false
noncomputable def T.lfs:List T -> Bool
 | []=>true
 | t::ts=>T.lf t&&T.lfs ts
end
mutual
noncomputable def T.und (n:Nat):T -> Bool
 | .v _=>true
 | .ob _=>true
 | .cell k=>decide (k < n)
 | .fz ts=>T.unds n ts
 | .lst ts=>T.unds n ts
 | .tup ts=>T.unds n ts
noncomputable def T.unds (n:Nat):List T -> Bool
 | []=>true
 | t::ts=>T.und n t&&T.unds n ts
end
mutual
noncomputable def T.beq:T -> T -> Bool
 | .v x,.v y=>decide (x=y)
 | .cell x,.cell y=>decide (x=y)
 | .fz x,.fz y=>T.beqs x y
 | .lst x,.lst y=>T.beqs x y
 | .tup x,.tup y=>T.beqs x y
 | .ob x,.ob y=>decide (x=y)
 | _,_=>false
noncomputable def T.beqs:List T -> List T -> Bool
 | [],[]=>true
 | x::xs,y::ys=>T.beq x y&&T.beqs xs ys
 | _,_=>false
end
noncomputable abbrev qCM:=List (Nat×List T)
noncomputable def qAc (d:qCM) (M:Mem):Bool:=d.all fun p=>match M[p.1]? with | some ts=>T.beqs ts p.2 | none=>false
noncomputable def T.its (M:Mem):T -> Option (List T)
 | .lst xs=>some xs | .tup xs=>some xs | .fz xs=>some xs | .cell n=>M[n]? | _=>none
noncomputable def T.lis (M:Mem):T -> Option (List T)
 | .lst xs=>some xs | .fz xs=>some xs | .cell n=>M[n]? | _=>none
noncomputable def T.mu (M:Mem):T -> Option (List T)
 | .lst xs=>some xs | .cell n=>M[n]? | _=>none
noncomputable def qAm:List T -> Option (List Int)
 | []=>some []
 | .v (.int i)::r=>(qAm r).map (i::·)
 | _::_=>none
noncomputable def qBK:List T -> Option (List Bool)
 | []=>some []
 | .v (.bl i)::r=>(qBK r).map (i::·)
 | _::_=>none
noncomputable def qCi:List T -> Option (List V)
 | []=>some []
 | .v x::r=>(qCi r).map (x::·)
 | _::_=>none
noncomputable def qA3 (f:T -> T -> Option Bool):List T -> List T -> Option (List Bool)
 | [],[]=>some []
 | x::xs,y::ys=>match f x y,qA3 f xs ys with
  | some b,some bs=>some (b::bs)
  | _,_=>none
 | _,_=>none
noncomputable def T.isV:T -> Option V | .v x=>some x | _=>none
noncomputable def eqT (M:Mem):Nat -> T -> T -> Option Bool
 | 0,s,t=>match s.isV,t.isV with | some x,some y=>eqF x y | _,_=>none
 | n + 1,s,t=>match s.isV,t.isV with
  | some x,some y=>eqF x y
  | some _,none=>if (t.its M).isSome then some false else none
  | none,some _=>if (s.its M).isSome then some false else none
  | none,none=>match s.lis M,t.lis M with
   | some xs,some ys=>if xs.length=ys.length then (qA3 (eqT M n) xs ys).map fun bs=>bs.all id else some false
   | some _,none=>if (t.its M).isSome then some false else none
   | none,some _=>if (s.its M).isSome then some false else none
   | none,none=>match s.its M,t.its M with
    | some xs,some ys=>if xs.length=ys.length then (qA3 (eqT M n) xs ys).map fun bs=>bs.all id else (qA3 (eqT M n) (xs.take ys.length) (ys.take xs.length)).map fun _=>false
    | _,_=>none
noncomputable def qFC (xs:List T) (lo hi:Option Int):List T:=(xs.drop (HT.sIx xs.length 0 lo)).take (HT.sIx xs.length xs.length hi - HT.sIx xs.length 0 lo)
noncomputable abbrev TB:=T×Bool
noncomputable def iT (i:Int):TB:=(.v (.int i),true)
noncomputable def bT (b:Bool):TB:=(.v (.bl b),true)
noncomputable def lT (xs:List T):TB:=(.lst xs,T.lfs xs)
noncomputable def qIq (x:T) (xs:List T) (lo hi:Option Int):Option TB:=match x with
 | .tup _=>if HT.sIx xs.length 0 lo=0/\HT.sIx xs.length xs.length hi=xs.length then none else some (.tup (qFC xs lo hi),T.lfs (qFC xs lo hi))
 | _=>some (lT (qFC xs lo hi))
noncomputable def qAq (M:Mem) (op:BOp) (x y:T):Option TB:=match x.isV,y.isV with
 | some (.int i),some (.int j)=>match op with
  | .add=>some (iT (i + j))
  | .sub=>some (iT (i - j))
  | .mul=>if qCK i||qCK j||(mid i&&mid j) then some (iT (i * j)) else none
  | .fdiv=>if 0 < j/\(j < 1073741824\/mid j=true) then some (iT (i / j)) else if j < 0/\mid j=true then some (iT (i.fdiv j)) else none
  | .mod=>if 0 < j then some (iT (i % j)) else if j < 0 then some (iT (i.fmod j)) else none
  | .pow=>if 0<=j/\j<=1000/\i.natAbs < 18446744073709551616 then some (iT (i ^ j.toNat)) else none
  | .shl=>if 0<=j/\j<=1000/\i.natAbs < 18446744073709551616 then some (iT (i * 2 ^ j.toNat)) else none
 | none,some (.int k)=>match op with
  | .mul=>(x.mu M).bind fun xs=>if 0<=k/\xs.length * k.toNat<=lim/\k < 1000000 then some (lT (List.replicate k.toNat xs).flatten) else none
  | _=>none
 | none,none=>match op with
  | .add=>(match x,y with
   | .tup xs,.tup ys=>if xs≠[]/\xs.length + ys.length<=lim then some (.tup (xs++ys),T.lfs (xs++ys)) else none
   | x,y=>(x.mu M).bind fun xs=>(y.mu M).bind fun ys=>if xs.length + ys.length<=lim then some (lT (xs++ys)) else none)
  | _=>none
 | _,_=>none
noncomputable def inT (M:Mem) (x y:T):Option Bool:=x.isV.bind fun a=>(y.its M).bind fun ts=>(qCi ts).map fun xs=>xs.any fun z=>L2.eqV z a
noncomputable def qA0 (M:Mem) (op:COp) (x y:T):Option Bool:=match op with
 | .eq=>eqT M 4 x y
 | .ne=>(eqT M 4 x y).map (!·)
 | .inn=>inT M x y
 | .notin=>(inT M x y).map (!·)
 | .is=>match y.isV with | some .non=>some (match x.isV with | some .non=>true | _=>false) | some (.bl d)=>(match x.isV with | some (.bl c)=>some (c==d) | _=>none) | _=>none
 | .isnot=>match y.isV with | some .non=>some (match x.isV with | some .non=>false | _=>true) | some (.bl d)=>(match x.isV with | some (.bl c)=>some (!(c==d)) | _=>none) | _=>none
 | .lt=>match x.isV,y.isV with | some (.int i),some (.int j)=>some (decide (i < j)) | _,_=>none
 | .le=>match x.isV,y.isV with | some (.int i),some (.int j)=>some (decide (i<=j)) | _,_=>none
 | .gt=>match x.isV,y.isV with | some (.int i),some (.int j)=>some (decide (j < i)) | _,_=>none
 | .ge=>match x.isV,y.isV with | some (.int i),some (.int j)=>some (decide (j<=i)) | _,_=>none
noncomputable def qJI (as:List T) (f:T -> Option TB):Option TB:=match as with
 | [a]=>f a
 | _=>none
theorem qBZ {as:List T} {f:T -> Option TB} {r:TB} (e:qJI as f=some r):∃ a,as=[a]/\f a=some r:=by
 unfold qJI at e
 split at e
 ·exact ⟨_,rfl,e⟩
 ·cases e
noncomputable def twoT (as:List T) (f:Int -> Int -> Option TB):Option TB:=match as with
 | [a,b]=>(match a with
  | .v (.int i)=>(match b with | .v (.int j)=>f i j | _=>none)
  | _=>none)
 | _=>none
theorem twoT_inv {as:List T} {f:Int -> Int -> Option TB} {r:TB} (e:twoT as f=some r):∃ i j,as=[.v (.int i),.v (.int j)]/\f i j=some r:=by
 unfold twoT at e
 split at e
 ·split at e
  ·split at e
   ·exact ⟨_,_,rfl,e⟩
   ·cases e
  ·cases e
 ·cases e
noncomputable def qBP (f:T -> Option PySem.PyData):List T -> Option (List PySem.PyData)
 | []=>some []
 | x::r=>(f x).bind fun d=>(qBP f r).map fun ds=>d::ds
noncomputable def qCN (M:Mem):Nat -> T -> Option PySem.PyData
 | 0,t=>match t with | .v x=>qKE x | _=>none
 | n + 1,t=>match t with
  | .v x=>qKE x
  | .tup ts=>(qBP (qCN M n) ts).map .tuple
  | .lst ts=>(qBP (qCN M n) ts).map .list
  | .fz ts=>(qBP (qCN M n) ts).map .list
  | .cell k=>(M[k]?).bind fun ts=>(qBP (qCN M n) ts).map .list
  | .ob (.dct [])=>some (.dict [])
  | .ob _=>none
noncomputable def qH2 (M:Mem) (t:T):Option PySem.PyData:=qCN M 4 t
noncomputable def qBk (M:Mem):BF -> List T -> Option TB
 | .len,as=>qJI as fun a=>(a.its M).map fun xs=>iT xs.length
 | .all,as=>qJI as fun a=>(a.lis M).bind fun xs=>(qBK xs).map fun bs=>bT (bs.all id)
 | .max,as=>twoT as fun i j=>some (iT (if j > i then j else i))
 | .min,as=>twoT as fun i j=>some (iT (if j < i then j else i))
 | .list,as=>qJI as fun a=>(a.its M).map lT
 | .tuple,as=>qJI as fun a=>(match a with | .tup xs=>some (.tup xs,T.lfs xs) | a=>(a.lis M).map fun xs=>(.tup xs,T.lfs xs))
 | .bits,as=>qJI as fun a=>(match a with | .v (.int i)=>some (iT ((PySem.Builtin.Int.intBits i:Nat):Int)) | _=>none)
 | .repr,as=>qJI as fun a=>((qH2 M a).bind qGH).map fun v=>(.v v,true)
noncomputable def T.isC (n:Nat):T -> Bool | .cell k=>decide (k=n) | _=>false
noncomputable def qFw:Mt -> Nat -> List T -> Mem -> Option (TB×Mem)
 | .pop,n,[],M=>(M[n]?).bind fun xs=>(xs[xs.length - 1]?).map fun y=>((y,y.lf),M.set n xs.dropLast)
 | .popAt,n,[.v (.int i)],M=>(M[n]?).bind fun xs=>if xs.length<=lim then (ixN xs.length i).bind fun k=>(xs[k]?).map fun y=>((y,y.lf),M.set n (xs.eraseIdx k)) else none
 | .rev,n,[],M=>(M[n]?).map fun xs=>((.v .non,true),M.set n xs.reverse)
 | .clr,n,[],M=>(M[n]?).map fun _=>((.v .non,true),M.set n [])
 | .rem,n,[.v (.int i)],M=>(M[n]?).bind fun xs=>if xs.length<=lim then ((qAm xs).bind fun is=>is.findIdx? (·==i)).map fun k=>((.v .non,true),M.set n (xs.eraseIdx k)) else none
 | .cnt,n,[.v y],M=>(M[n]?).bind fun xs=>(qCi xs).map fun vs=>(iT (vs.countP fun z=>L2.eqV z y:Nat),M)
 | .ext,n,[t],M=>(M[n]?).bind fun xs=>(t.mu M).bind fun ys=>if t.isC n=false/\xs.length + ys.length<=lim then some ((.v .non,true),M.set n (xs++ys)) else none
 | _,_,_,_=>none
noncomputable def qAh (M:Mem):T -> Option String
 | .v .non=>some "NoneType"
 | .v (.bl _)=>some "bool"
 | .v (.int _)=>some "int"
 | .v (.str _)=>some "str"
 | .v _=>none
 | .tup _=>some "tuple"
 | .cell n=>(M[n]?).map fun _=>"list"
 | .ob (.dct _)=>some "dict"
 | .ob _=>none
 | _=>some "list"
noncomputable def qC3 (M:Mem) (x y:T):Option TB:=match y with
 | .v (.int i)=>(x.its M).bind fun xs=>(ixN xs.length i).bind fun j=>(xs[j]?).map fun t=>(t,t.lf)
 | _=>none
noncomputable def qMK:List Nat -> List T -> TS -> Option TS
 | [],[],σ=>some σ
 | i::is,x::xs,σ=>qMK is xs (σ.set i (some x))
 | _,_,_=>none
noncomputable def qBE:Tg -> T -> TS -> Option TS
 | .name i,t,σ=>some (σ.set i (some t))
 | .tup is,.tup ts,σ=>qMK is ts σ
 | .tup _,_,_=>none
noncomputable def qCH (src:List (Option Nat)) (σ:TS):TS:=src.map fun o=>match o with | none=>none | some j=>(σ[j]?).join
noncomputable def qAf (lo:Int) (n:Nat):List T:=(List.range n).map fun (i:Nat)=>.v (.int (lo + (i:Int)))
noncomputable def qDE (lo:Int) (n:Nat):List T:=(List.range n).map fun (i:Nat)=>.v (.int (lo - (i:Int)))
noncomputable def qGN (M:Mem):T -> Option (List T×qCM)
 | .lst ts=>some (ts,[])
 | .fz ts=>some (ts,[])
 | .tup ts=>some (ts,[])
 | .cell n=>(M[n]?).map fun ts=>(ts,[(n,ts)])
 | _=>none
noncomputable def qNA (M:Mem):T -> Option (List T×qCM)
 | .lst ts=>some (ts,[])
 | .fz ts=>some (ts,[])
 | .cell n=>(M[n]?).map fun ts=>(ts,[(n,ts)])
 | _=>none
noncomputable def qEL:Nat -> List T -> List T
 | _,[]=>[]
 | i,t::ts=>.tup [.v (.int (i:Int)),t]::qEL (i + 1) ts
noncomputable def qA4 (d:qCM) (g:Tg) (c:TS -> Mem -> PR (Bool×Mem)) (e:TS -> Mem -> PR (TB×Mem)):List T -> List T -> Bool -> TS -> Mem -> PR (TB×Mem)
 | [],ys,f,_,M=>.ok ((.lst ys,f),M)
 | x::r,ys,f,σ,M=>match qBE g x σ with
  | some σ1=>(c σ1 M).bind fun (b,M2)=>
   if b then (e σ1 M2).bind fun (y,M3)=>if ys.length < lim/\qAc d M3=true then qA4 d g c e r (ys++[y.1]) (f&&y.2) σ1 M3 else .stuck
   else if qAc d M2=true then qA4 d g c e r ys f σ1 M2 else .stuck
  | none=>.stuck
noncomputable def pB (r:PR (TB×Mem)):PR (Bool×Mem):=r.bind fun (x,M)=>match x.1 with | .v (.bl b)=>.ok (b,M) | _=>.stuck
section
variable (gl:List T) (P:Nat -> List T -> Mem -> PR (TB×Mem))
mutual
noncomputable def pe:E -> TS -> Mem -> PR (TB×Mem)
 | .var i=>fun σ M=>match σ[i]? with | some (some t)=>.ok ((t,t.lf),M) | _=>.stuck
 | .cst v=>fun _ M=>if flat v then .ok ((.v v,true),M) else .stuck
 | .glob g=>fun _ M=>match gl[g]? with | some t=>.ok ((t,t.lf),M) | none=>.stuck
 | .bin op a b=>fun σ M=>(pe a σ M).bind fun (x,M1)=>(pe b σ M1).bind fun (y,M2)=>(PR.ofO (qAq M2 op x.1 y.1)).bind fun r=>.ok (r,M2)
 | .neg a=>fun σ M=>(pe a σ M).bind fun (x,M1)=>match x.1 with | .v (.int i)=>.ok (iT (-i),M1) | _=>.stuck
 | .cmp op a b=>fun σ M=>(pe a σ M).bind fun (x,M1)=>(pe b σ M1).bind fun (y,M2)=>(PR.ofO (qA0 M2 op x.1 y.1)).bind fun r=>.ok (bT r,M2)
 | .cmp2 o1 o2 a b c=>fun σ M=>(pe a σ M).bind fun (x,M1)=>(pe b σ M1).bind fun (y,M2)=>(PR.ofO (qA0 M2 o1 x.1 y.1)).bind fun r=>
  if r then (pe c σ M2).bind fun (z,M3)=>(PR.ofO (qA0 M3 o2 y.1 z.1)).bind fun r=>.ok (bT r,M3) else .ok (bT false,M2)
 | .and a b=>fun σ M=>(pB (pe a σ M)).bind fun (x,M1)=>if x then pe b σ M1 else .ok (bT false,M1)
 | .or a b=>fun σ M=>(pB (pe a σ M)).bind fun (x,M1)=>if x then .ok (bT true,M1) else pe b σ M1
 | .not a=>fun σ M=>(pB (pe a σ M)).bind fun (x,M1)=>.ok (bT (!x),M1)
 | .call f as=>fun σ M=>(pes as σ M).bind fun (xs,M1)=>(P f (xs.map (·.1)) M1).nx
 | .blt f as=>fun σ M=>(pes as σ M).bind fun (xs,M1)=>(PR.ofO (qBk M1 f (xs.map (·.1)))).bind fun r=>.ok (r,M1)
 | .isi a ts=>fun σ M=>(pe a σ M).bind fun (x,M1)=>(PR.ofO (qAh M1 x.1)).bind fun t=>.ok (bT (ts.any (qAV t)),M1)
 | .idx a b=>fun σ M=>(pe a σ M).bind fun (x,M1)=>(pe b σ M1).bind fun (y,M2)=>(PR.ofO (qC3 M2 x.1 y.1)).bind fun r=>.ok (r,M2)
 | .sl a lo hi=>fun σ M=>(pe a σ M).bind fun (x,M1)=>(pes lo σ M1).bind fun (l,M2)=>(pes hi σ M2).bind fun (u,M3)=>
  (PR.ofO (x.1.its M3)).bind fun xs=>(PR.ofO (qAm (l.map (·.1)))).bind fun l=>(PR.ofO (qAm (u.map (·.1)))).bind fun u=>(PR.ofO (qIq x.1 xs l.head? u.head?)).bind fun r=>.ok (r,M3)
 | .lst as=>fun σ M=>(pes as σ M).bind fun (xs,M1)=>if xs.length<=lim then .ok ((.lst (xs.map (·.1)),xs.all (·.2)),M1) else .stuck
 | .tup as=>fun σ M=>(pes as σ M).bind fun (xs,M1)=>if xs.length<=lim then .ok ((.tup (xs.map (·.1)),xs.all (·.2)),M1) else .stuck
 | .comp it src g c e=>fun σ M=>(pei it σ M).bind fun (s,M1)=>qA4 s.2 g (pec c) (pe e) s.1 [] true (qCH src σ) M1
 | .app a b=>fun σ M=>(pe a σ M).bind fun (x,M1)=>match x.1 with
  | .cell n=>(pe b σ M1).bind fun (y,M2)=>match M2[n]? with
   | some xs=>if xs.length < lim then .ok ((.v .non,true),M2.set n (xs++[y.1])) else .stuck
   | none=>.stuck
  | _=>.stuck
 | .nset a=>fun σ M=>(pe a σ M).bind fun (x,M1)=>match (x.1.lis M1).bind qAm with | some is=>if is.length < 1000 then .ok ((.v (.int ((qFm is:Nat):Int)),true),M1) else .stuck | none=>.stuck
 | .lrng2 a b=>fun σ M=>(pe a σ M).bind fun (x,M1)=>(pe b σ M1).bind fun (y,M2)=>match x.1,y.1 with | .v (.int i),.v (.int j)=>if -1000000<=i/\-1000000<=j/\i<=100000/\j<=100000/\j - i<=100000 then .ok ((.lst (qAf i (j - i).toNat),true),M2) else .stuck | _,_=>.stuck
 | .lrng a=>fun σ M=>(pe a σ M).bind fun (x,M1)=>match x.1 with | .v (.int j)=>if -1000000<=j/\j<=100000 then .ok ((.lst (qAf 0 j.toNat),true),M1) else .stuck | _=>.stuck
 | .dnew=>fun _ M=>.ok ((.ob (.dct []),true),M)
 | .meth m a as=>fun σ M=>(pe a σ M).bind fun (x,M1)=>match x.1 with
  | .cell n=>(pes as σ M1).bind fun (ys,M2)=>PR.ofO (qFw m n (ys.map (·.1)) M2)
  | _=>.stuck
noncomputable def pes:Es -> TS -> Mem -> PR (List TB×Mem)
 | .nil=>fun _ M=>.ok ([],M)
 | .cons a as=>fun σ M=>(pe a σ M).bind fun (x,M1)=>(pes as σ M1).bind fun (xs,M2)=>.ok (x::xs,M2)
noncomputable def pec:Es -> TS -> Mem -> PR (Bool×Mem)
 | .nil=>fun _ M=>.ok (true,M)
 | .cons a _=>fun σ M=>pB (pe a σ M)
noncomputable def pei:Itr -> TS -> Mem -> PR ((List T×qCM)×Mem)
 | .list a=>fun σ M=>(pe a σ M).bind fun (x,M1)=>(PR.ofO (qGN M1 x.1)).bind fun s=>.ok (s,M1)
 | .rng1 a=>fun σ M=>(pe a σ M).bind fun (x,M1)=>match x.1 with | .v (.int j)=>if -1000000<=j/\j<=1000000 then .ok ((qAf 0 j.toNat,[]),M1) else .stuck | _=>.stuck
 | .rvr a=>fun σ M=>(pe a σ M).bind fun (x,M1)=>match x.1 with
  | .v (.int j)=>if 0<=j/\j<=1000000 then .ok ((qDE (j - 1) j.toNat,[]),M1) else .stuck
  | _=>.stuck
end
inductive PO | nx (σ:TS) | rt (t:TB) | bk (σ:TS) | ct (σ:TS)
noncomputable abbrev RSt:=PR (PO×Mem)
noncomputable def qBW (d:qCM) (g:Tg) (b:TS -> Mem -> RSt):List T -> TS -> Mem -> RSt
 | [],σ,M=>.ok (.nx σ,M)
 | x::r,σ,M=>match qBE g x σ with
  | some σ1=>(b σ1 M).bind fun (o,M2)=>match o with
   | .nx σ2=>if qAc d M2=true then qBW d g b r σ2 M2 else .stuck
   | .ct σ2=>if qAc d M2=true then qBW d g b r σ2 M2 else .stuck
   | .bk σ2=>.ok (.nx σ2,M2)
   | .rt t=>.ok (.rt t,M2)
  | none=>.stuck
noncomputable def qCL (d:qCM) (f x:Nat) (l:T):List T -> List (Int×V) -> TS -> Mem -> RSt
 | [],_,σ,M=>.ok (.nx σ,M)
 | t::r,ks,σ,M=>(P f [l,t] M).nx.bind fun (y,M2)=>match y.1 with
  | .v (.bl false)=>.ok (.rt (bT false),M2)
  | .v (.bl true)=>match t with
   | .tup [.v (.int p),.v (.int q)]=>if qAc d M2=true/\ks.length + 1 < lim then (if qC9 ks p||qC9 ks q then .ok (.rt (bT false),M2) else qCL d f x l r (qBz (qBz ks p (.bl true)) q (.bl true)) (σ.set x (some t)) M2) else .stuck
   | _=>.stuck
  | _=>.stuck
mutual
noncomputable def thaw (n:Nat):T -> T×Mem
 | .lst ts=>let r:=qBF n ts;(.cell (n + r.2.length),r.2++[r.1])
 | .tup ts=>let r:=qBF n ts;(.tup r.1,r.2)
 | t=>(t,[])
noncomputable def qBF (n:Nat):List T -> List T×Mem
 | []=>([],[])
 | t::ts=>let r:=thaw n t;let q:=qBF (n + r.2.length) ts;(r.1::q.1,r.2++q.2)
end
noncomputable def qLY:E -> Bool
 | .bin .add _ _=>true
 | .lst _=>true
 | _=>false
variable (C:List Nat)
mutual
noncomputable def px:S -> TS -> Mem -> RSt
 | .asg g e=>fun σ M=>(pe gl P e σ M).bind fun (x,M1)=>match g with
  | .name i=>if C.contains i&&x.2 then .ok (.nx (σ.set i (some (thaw M1.length x.1).1)),M1++(thaw M1.length x.1).2) else if C.contains (i + 1000)&&qLY e then (match x.1 with | .lst ts=>.ok (.nx (σ.set i (some (.cell M1.length))),M1++[ts]) | _=>.stuck) else .ok (.nx (σ.set i (some x.1)),M1)
  | g=>match qBE g x.1 σ with | some σ1=>.ok (.nx σ1,M1) | none=>.stuck
 | .put o i v=>fun σ M=>(pe gl P v σ M).bind fun (x,M1)=>(pe gl P o σ M1).bind fun (p,M2)=>(pe gl P i σ M2).bind fun (k,M3)=>match p.1,k.1 with
  | .cell n,.v (.int k)=>match M3[n]? with
   | some xs=>match ixN xs.length k with | some j=>.ok (.nx σ,M3.set n (xs.set j x.1)) | none=>.stuck
   | none=>.stuck
  | _,_=>.stuck
 | .expr e=>fun σ M=>(pe gl P e σ M).bind fun (_,M1)=>.ok (.nx σ,M1)
 | .ret e=>fun σ M=>(pe gl P e σ M).bind fun (x,M1)=>.ok (.rt x,M1)
 | .retc as e=>fun σ M=>(pes gl P as σ M).bind fun (xs,M1)=>(pe gl P e σ M1).bind fun (y,M2)=>if y.2=true/\xs.length < lim then .ok (.rt (.tup (xs.map (·.1)++[(thaw M2.length y.1).1]),false),M2++(thaw M2.length y.1).2) else .stuck
 | .ifs c t u=>fun σ M=>(pB (pe gl P c σ M)).bind fun (x,M1)=>if x then pxs t σ M1 else pxs u σ M1
 | .for_ g it b=>fun σ M=>(pei gl P it σ M).bind fun (s,M1)=>qBW s.2 g (pxs b) s.1 σ M1
 | .stop=>fun _ _=>.stuck
 | .xexpr f as=>fun σ M=>(pes gl P as σ M).bind fun (xs,M1)=>(P f (xs.map (·.1)) M1).bind fun (_,M2)=>.ok (.nx σ,M2)
 | .nloop u x f i a=>fun σ M=>if u=i\/x=i\/u=x\/σ.length<=u\/σ.length<=x then .stuck else (pei gl P (.list a) (σ.set u none) M).bind fun (s,M1)=>match σ[i]? with | some (some l)=>qCL P s.2 f x l s.1 [] (σ.set u none) M1 | _=>.stuck
 | .raise c=>fun _ M=>.exc c M
 | .tryK b e i m ks=>fun σ M=>match px b σ M with
  | .exc c M1=>if c < m then .ok (.nx ((σ.set i (some (.lst (ks.map fun k=>.v (.bl (qDP c k)))))).set e none),M1) else .stuck
  | r=>r
noncomputable def pxs:Ss -> TS -> Mem -> RSt
 | .nil=>fun σ M=>.ok (.nx σ,M)
 | .cons s r=>fun σ M=>(px s σ M).bind fun (o,M1)=>match o with
  | .nx σ1=>pxs r σ1 M1
  | o=>.ok (o,M1)
end
end
noncomputable def qAJ (M:Mem) (n0:Nat):Nat -> T -> Option T
 | 0,t=>if t.und n0 then some t else none
 | d + 1,t=>if t.und n0 then some t else match t with
  | .lst ts=>(ts.mapM (qAJ M n0 d)).map .lst
  | .tup ts=>(ts.mapM (qAJ M n0 d)).map .tup
  | .cell n=>(M[n]?).bind fun ts=>(ts.mapM (qAJ M n0 d)).map .lst
  | _=>none
noncomputable def qBi (M:Mem) (n0:Nat):Nat -> T -> Option (List Nat)
 | 0,t=>if t.lf then some [] else none
 | d + 1,t=>if t.lf then some [] else match t with
  | .tup ts=>(ts.mapM (qBi M n0 d)).map List.flatten
  | .cell n=>if n0<=n then (M[n]?).bind fun ts=>(ts.mapM (qBi M n0 d)).map fun l=>l.flatten++[n] else none
  | _=>none
noncomputable def frR (M:Mem) (n0:Nat) (t:T):Bool:=match qBi M n0 6 t with | some l=>decide l.Nodup | none=>false
noncomputable def finish (n0:Nat) (x:TB) (M:Mem):PR (TB×Mem):=
 if M.length=n0 then .ok (x,M) else if (M.take n0).all (T.unds n0) then (PR.ofO (qAJ M n0 6 x.1)).bind fun t=>.ok ((t,x.2||frR M n0 x.1),M.take n0) else .stuck
noncomputable def qC2 (n0:Nat):RSt -> PR (TB×Mem)
 | .ok (.nx _,M1)=>finish n0 (.v .non,true) M1
 | .ok (.rt t,M1)=>finish n0 t M1
 | .ok (_,_)=>.stuck
 | .exc c M1=>if M1.length=n0 then .exc c M1 else if (M1.take n0).all (T.unds n0) then .exc c (M1.take n0) else .stuck
 | .stuck=>.stuck
noncomputable def Pk (gl:List T) (tb:List Fn) (Cs:List (List Nat)):Nat -> Nat -> List T -> Mem -> PR (TB×Mem)
 | 0,_,_,_=>.stuck
 | k + 1,f,vs,M=>match tb[f]? with
  | some d=>if vs.length=d.npar/\d.npar<=d.nslot then qC2 M.length (pxs gl (Pk gl tb Cs k) (Cs.getD f []) d.body (vs.map some++List.replicate (d.nslot - d.npar) none) M)
   else .stuck
  | none=>.stuck
end PI
namespace PI
open L2 (V)
noncomputable def qBC {α β:Type} (R:α -> β -> Prop):List α -> List β -> Prop
 | [],vs=>vs=[]
 | t::ts,vs=>∃ v vs',vs=v::vs'/\R t v/\qBC R ts vs'
section
variable {α β:Type} {R:α -> β -> Prop}
theorem qAB:∀ {xs:List α} {ys:List β},qBC R xs ys -> xs.length=ys.length
 | [],_,h=>by cases h;rfl
 | x::xs,_,⟨v,vs,rfl,_,h⟩=>by simp [qAB h]
theorem qAl:∀ {xs:List α} {ys:List β} {i:Nat} {x:α},qBC R xs ys -> xs[i]?=some x -> ∃ y,ys[i]?=some y/\R x y
 | [],_,i,x,h,e=>by simp at e
 | x::xs,_,0,x',⟨v,vs,rfl,r,h⟩,e=>⟨v,rfl,by simp at e;subst e;exact r⟩
 | x::xs,_,i + 1,x',⟨v,vs,rfl,r,h⟩,e=>by
  obtain ⟨y,e1,r1⟩:=qAl (i:=i) h (by simpa using e)
  exact ⟨y,by simpa using e1,r1⟩
theorem qAo:∀ {xs:List α} {ys:List β} {xs':List α} {ys':List β},qBC R xs ys -> qBC R xs' ys' -> qBC R (xs++xs') (ys++ys')
 | [],_,_,_,h,k=>by cases h;exact k
 | x::xs,_,_,_,⟨v,vs,rfl,r,h⟩,k=>⟨v,vs++_,rfl,r,qAo h k⟩
theorem qBD:∀ (n:Nat) {xs:List α} {ys:List β},qBC R xs ys -> qBC R (xs.take n) (ys.take n)
 | 0,_,_,_=>by simp [qBC]
 | n + 1,[],_,h=>by cases h;simp [qBC]
 | n + 1,x::xs,_,⟨v,vs,rfl,r,h⟩=>⟨v,vs.take n,rfl,r,qBD n h⟩
theorem qCk:∀ (n:Nat) {xs:List α} {ys:List β},qBC R xs ys -> qBC R (xs.drop n) (ys.drop n)
 | 0,_,_,h=>h
 | n + 1,[],_,h=>by cases h;simp [qBC]
 | n + 1,x::xs,_,⟨v,vs,rfl,r,h⟩=>qCk n h
theorem qAw:∀ {xs:List α} {ys:List β} (j:Nat) {x:α} {y:β},qBC R xs ys -> R x y -> qBC R (xs.set j x) (ys.set j y)
 | [],_,j,_,_,h,r=>by cases h;simp [qBC]
 | x::xs,_,0,_,_,⟨v,vs,rfl,r0,h⟩,r=>⟨_,vs,rfl,r,h⟩
 | x::xs,_,j + 1,_,_,⟨v,vs,rfl,r0,h⟩,r=>⟨v,vs.set j _,rfl,r0,qAw j h r⟩
theorem qH6 (n:Nat) {xs:List α} {ys:List β} (h:qBC R xs ys):qBC R (List.replicate n xs).flatten (List.replicate n ys).flatten:=by
 induction n with
 | zero=>simp [qBC]
 | succ n ih=>simp only [List.replicate_succ,List.flatten_cons];exact qAo h ih
theorem qBw {S:α -> β -> Prop} (f:∀ x y,R x y -> S x y):∀ {xs:List α} {ys:List β},qBC R xs ys -> qBC S xs ys
 | [],_,h=>h
 | x::xs,_,⟨v,vs,rfl,r,h⟩=>⟨v,vs,rfl,f _ _ r,qBw f h⟩
end
mutual
noncomputable def Rep (A X:List Nat) (h:AH):T -> V -> Prop
 | .v x,w=>w=x/\flat x=true
 | .cell n,w=>∃ a:Nat,A[n]?=some a/\w=.ref a
 | .fz ts,w=>∃ a vs,w=.ref a/\a∉X/\h[a]?=some (.lst true vs)/\qAH A X h ts vs
 | .lst ts,w=>∃ a vs,w=.ref a/\a∉X/\h[a]?=some (.lst false vs)/\qAH A X h ts vs
 | .tup ts,w=>∃ a vs,w=.ref a/\a∉X/\h[a]?=some (.tup vs)/\qAH A X h ts vs
 | .ob o,w=>∃ a,w=.ref a/\a∉X/\h[a]?=some (.ob o)
noncomputable def qAH (A X:List Nat) (h:AH):List T -> List V -> Prop
 | [],vs=>vs=[]
 | t::ts,vs=>∃ v vs',vs=v::vs'/\Rep A X h t v/\qAH A X h ts vs'
end
theorem reps_iff {A X:List Nat} {h:AH}:∀ {ts:List T} {vs:List V},qAH A X h ts vs↔qBC (Rep A X h) ts vs
 | [],vs=>by unfold qAH qBC;rfl
 | t::ts,vs=>by
  unfold qAH qBC
  constructor
  ·rintro ⟨v,vs',e,r,k⟩;exact ⟨v,vs',e,r,reps_iff.mp k⟩
  ·rintro ⟨v,vs',e,r,k⟩;exact ⟨v,vs',e,r,reps_iff.mpr k⟩
mutual
noncomputable def FP (X:List Nat) (h:AH):T -> V -> List Nat -> Prop
 | .v x,w,fp=>(w=x/\flat x=true)/\fp=[]
 | .lst ts,w,fp=>∃ a vs f,w=.ref a/\a∉X/\h[a]?=some (.lst false vs)/\FPs X h ts vs f/\fp=f++[a]
 | .tup ts,w,fp=>∃ a vs,w=.ref a/\a∉X/\h[a]?=some (.tup vs)/\FPs X h ts vs fp
 | .ob o,w,fp=>(∃ a,w=.ref a/\a∉X/\h[a]?=some (.ob o))/\fp=[]
 | .fz _,_,_=>False
 | .cell _,_,_=>False
noncomputable def FPs (X:List Nat) (h:AH):List T -> List V -> List Nat -> Prop
 | [],vs,fp=>vs=[]/\fp=[]
 | t::ts,vs,fp=>∃ v vs' f1 f2,vs=v::vs'/\FP X h t v f1/\FPs X h ts vs' f2/\fp=f1++f2
end
mutual
theorem qAn {A X A' X':List Nat} {h h':AH} (hc:∀ (n:Nat) a,A[n]?=some a -> A'[n]?=some a) (hn:∀ a o,a∉X -> h[a]?=some o -> a∉X'/\h'[a]?=some o):∀ (t:T) {w:V},Rep A X h t w -> Rep A' X' h' t w
 | .v x,w,r=>by unfold Rep at r ⊢;exact r
 | .cell n,w,r=>by unfold Rep at r ⊢;obtain ⟨a,e,q⟩:=r;exact ⟨a,hc _ _ e,q⟩
 | .fz ts,w,r=>by unfold Rep at r ⊢;obtain ⟨a,vs,e,q1,q2,q3⟩:=r;exact ⟨a,vs,e,(hn _ _ q1 q2).1,(hn _ _ q1 q2).2,qAK hc hn ts q3⟩
 | .lst ts,w,r=>by unfold Rep at r ⊢;obtain ⟨a,vs,e,q1,q2,q3⟩:=r;exact ⟨a,vs,e,(hn _ _ q1 q2).1,(hn _ _ q1 q2).2,qAK hc hn ts q3⟩
 | .tup ts,w,r=>by unfold Rep at r ⊢;obtain ⟨a,vs,e,q1,q2,q3⟩:=r;exact ⟨a,vs,e,(hn _ _ q1 q2).1,(hn _ _ q1 q2).2,qAK hc hn ts q3⟩
 | .ob o,w,r=>by unfold Rep at r ⊢;obtain ⟨a,e,q1,q2⟩:=r;exact ⟨a,e,(hn _ _ q1 q2).1,(hn _ _ q1 q2).2⟩
theorem qAK {A X A' X':List Nat} {h h':AH} (hc:∀ (n:Nat) a,A[n]?=some a -> A'[n]?=some a) (hn:∀ a o,a∉X -> h[a]?=some o -> a∉X'/\h'[a]?=some o):∀ (ts:List T) {ws:List V},qAH A X h ts ws -> qAH A' X' h' ts ws
 | [],w,r=>by unfold qAH at r ⊢;exact r
 | t::ts,w,r=>by unfold qAH at r ⊢;obtain ⟨v,vs,e,q1,q2⟩:=r;exact ⟨v,vs,e,qAn hc hn t q1,qAK hc hn ts q2⟩
end
mutual
theorem qCW {X X':List Nat} {h h':AH} (hn:∀ a o,a∉X -> h[a]?=some o -> a∉X'/\h'[a]?=some o):∀ (t:T) {w:V} {fp:List Nat},FP X h t w fp -> FP X' h' t w fp
 | .v x,w,_,r=>by unfold FP at r ⊢;exact r
 | .cell n,w,_,r=>by unfold FP at r;exact r.elim
 | .fz ts,w,_,r=>by unfold FP at r;exact r.elim
 | .lst ts,w,_,r=>by unfold FP at r ⊢;obtain ⟨a,vs,f,e,q1,q2,q3,q4⟩:=r;exact ⟨a,vs,f,e,(hn _ _ q1 q2).1,(hn _ _ q1 q2).2,qBI hn ts q3,q4⟩
 | .tup ts,w,_,r=>by unfold FP at r ⊢;obtain ⟨a,vs,e,q1,q2,q3⟩:=r;exact ⟨a,vs,e,(hn _ _ q1 q2).1,(hn _ _ q1 q2).2,qBI hn ts q3⟩
 | .ob o,w,_,r=>by unfold FP at r ⊢;obtain ⟨⟨a,e,q1,q2⟩,q3⟩:=r;exact ⟨⟨a,e,(hn _ _ q1 q2).1,(hn _ _ q1 q2).2⟩,q3⟩
theorem qBI {X X':List Nat} {h h':AH} (hn:∀ a o,a∉X -> h[a]?=some o -> a∉X'/\h'[a]?=some o):∀ (ts:List T) {ws:List V} {fp:List Nat},FPs X h ts ws fp -> FPs X' h' ts ws fp
 | [],w,_,r=>by unfold FPs at r ⊢;exact r
 | t::ts,w,_,r=>by unfold FPs at r ⊢;obtain ⟨v,vs,f1,f2,e,q1,q2,q3⟩:=r;exact ⟨v,vs,f1,f2,e,qCW hn t q1,qBI hn ts q2,q3⟩
end
mutual
theorem qL5 {A X:List Nat} {h:AH}:∀ (t:T) {w:V} {fp:List Nat},FP X h t w fp -> Rep A X h t w
 | .v x,w,_,r=>by unfold FP at r;unfold Rep;exact r.1
 | .cell n,w,_,r=>by unfold FP at r;exact r.elim
 | .fz ts,w,_,r=>by unfold FP at r;exact r.elim
 | .lst ts,w,_,r=>by unfold FP at r;unfold Rep;obtain ⟨a,vs,f,e,q1,q2,q3,q4⟩:=r;exact ⟨a,vs,e,q1,q2,qEs ts q3⟩
 | .tup ts,w,_,r=>by unfold FP at r;unfold Rep;obtain ⟨a,vs,e,q1,q2,q3⟩:=r;exact ⟨a,vs,e,q1,q2,qEs ts q3⟩
 | .ob o,w,_,r=>by unfold FP at r;unfold Rep;exact r.1
theorem qEs {A X:List Nat} {h:AH}:∀ (ts:List T) {ws:List V} {fp:List Nat},FPs X h ts ws fp -> qAH A X h ts ws
 | [],w,_,r=>by unfold FPs at r;unfold qAH;exact r.1
 | t::ts,w,_,r=>by unfold FPs at r;unfold qAH;obtain ⟨v,vs,f1,f2,e,q1,q2,q3⟩:=r;exact ⟨v,vs,e,qL5 t q1,qEs ts q2⟩
end
mutual
theorem qJN {X:List Nat} {h:AH} (n:Nat):∀ (t:T) {w:V} {fp:List Nat},FP X h t w fp -> t.und n=true
 | .v x,w,_,r=>rfl
 | .cell n,w,_,r=>by unfold FP at r;exact r.elim
 | .fz ts,w,_,r=>by unfold FP at r;exact r.elim
 | .lst ts,w,_,r=>by unfold FP at r;obtain ⟨a,vs,f,e,q1,q2,q3,q4⟩:=r;exact qEg n ts q3
 | .tup ts,w,_,r=>by unfold FP at r;obtain ⟨a,vs,e,q1,q2,q3⟩:=r;exact qEg n ts q3
 | .ob o,w,_,r=>rfl
theorem qEg {X:List Nat} {h:AH} (n:Nat):∀ (ts:List T) {ws:List V} {fp:List Nat},FPs X h ts ws fp -> T.unds n ts=true
 | [],w,_,r=>rfl
 | t::ts,w,_,r=>by unfold FPs at r;obtain ⟨v,vs,f1,f2,e,q1,q2,q3⟩:=r;unfold T.unds;rw [qJN n t q1,qEg n ts q2];rfl
end
mutual
theorem qFq {X:List Nat} {h:AH}:∀ (t:T) {w:V} {fp:List Nat},FP X h t w fp -> ∀ a∈fp,a∉X/\∃ vs,h[a]?=some (.lst false vs)
 | .v x,w,_,r=>by unfold FP at r;obtain ⟨_,rfl⟩:=r;intro a ha;simp at ha
 | .cell n,w,_,r=>by unfold FP at r;exact r.elim
 | .fz ts,w,_,r=>by unfold FP at r;exact r.elim
 | .lst ts,w,_,r=>by
  unfold FP at r;obtain ⟨a,vs,f,e,q1,q2,q3,rfl⟩:=r
  intro b hb
  rcases List.mem_append.mp hb with hb | hb
  ·exact qCC ts q3 b hb
  ·simp at hb;subst hb;exact ⟨q1,vs,q2⟩
 | .tup ts,w,_,r=>by unfold FP at r;obtain ⟨a,vs,e,q1,q2,q3⟩:=r;exact qCC ts q3
 | .ob o,w,_,r=>by unfold FP at r;obtain ⟨_,rfl⟩:=r;intro a ha;simp at ha
theorem qCC {X:List Nat} {h:AH}:∀ (ts:List T) {ws:List V} {fp:List Nat},FPs X h ts ws fp -> ∀ a∈fp,a∉X/\∃ vs,h[a]?=some (.lst false vs)
 | [],w,_,r=>by unfold FPs at r;obtain ⟨_,rfl⟩:=r;intro a ha;simp at ha
 | t::ts,w,_,r=>by
  unfold FPs at r;obtain ⟨v,vs,f1,f2,e,q1,q2,rfl⟩:=r
  intro b hb
  rcases List.mem_append.mp hb with hb | hb
  ·exact qFq t q1 b hb
  ·exact qCC ts q2 b hb
end
mutual
theorem qKj {A X:List Nat} {h:AH}:∀ (t:T) {w:V},Rep A X h t w -> t.lf=true -> FP X h t w []
 | .v x,w,r,l=>by unfold Rep at r;unfold FP;exact ⟨r,rfl⟩
 | .cell n,w,r,l=>by unfold T.lf at l;cases l
 | .fz ts,w,r,l=>by unfold T.lf at l;cases l
 | .lst ts,w,r,l=>by unfold T.lf at l;cases l
 | .tup ts,w,r,l=>by unfold Rep at r;unfold FP;obtain ⟨a,vs,e,q1,q2,q3⟩:=r;exact ⟨a,vs,e,q1,q2,qGu ts q3 (by unfold T.lf at l;exact l)⟩
 | .ob o,w,r,l=>by unfold Rep at r;unfold FP;exact ⟨r,rfl⟩
theorem qGu {A X:List Nat} {h:AH}:∀ (ts:List T) {ws:List V},qAH A X h ts ws -> T.lfs ts=true -> FPs X h ts ws []
 | [],w,r,l=>by unfold qAH at r;unfold FPs;exact ⟨r,rfl⟩
 | t::ts,w,r,l=>by
  unfold qAH at r;unfold FPs;obtain ⟨v,vs,e,q1,q2⟩:=r
  unfold T.lfs at l;simp only [Bool.and_eq_true] at l
  exact ⟨v,vs,[],[],e,qKj t q1 l.1,qGu ts q2 l.2,rfl⟩
end
mutual
theorem qHU {A X A1 X1:List Nat} {h:AH} {n0:Nat} (hc:∀ n,n < n0 -> A1[n]?=A[n]?) (hX:∀ a∈X,a∈X1):∀ (t:T) {w:V},Rep A1 X1 h t w -> t.und n0=true -> Rep A X h t w
 | .v x,w,r,u=>by unfold Rep at r ⊢;exact r
 | .cell n,w,r,u=>by
  unfold Rep at r ⊢;obtain ⟨a,e,q⟩:=r
  unfold T.und at u
  exact ⟨a,(hc n (by simpa using u)).symm.trans e,q⟩
 | .fz ts,w,r,u=>by unfold Rep at r ⊢;obtain ⟨a,vs,e,q1,q2,q3⟩:=r;exact ⟨a,vs,e,fun z=>q1 (hX _ z),q2,qBu hc hX ts q3 (by unfold T.und at u;exact u)⟩
 | .lst ts,w,r,u=>by unfold Rep at r ⊢;obtain ⟨a,vs,e,q1,q2,q3⟩:=r;exact ⟨a,vs,e,fun z=>q1 (hX _ z),q2,qBu hc hX ts q3 (by unfold T.und at u;exact u)⟩
 | .tup ts,w,r,u=>by unfold Rep at r ⊢;obtain ⟨a,vs,e,q1,q2,q3⟩:=r;exact ⟨a,vs,e,fun z=>q1 (hX _ z),q2,qBu hc hX ts q3 (by unfold T.und at u;exact u)⟩
 | .ob o,w,r,u=>by unfold Rep at r ⊢;obtain ⟨a,e,q1,q2⟩:=r;exact ⟨a,e,fun z=>q1 (hX _ z),q2⟩
theorem qBu {A X A1 X1:List Nat} {h:AH} {n0:Nat} (hc:∀ n,n < n0 -> A1[n]?=A[n]?) (hX:∀ a∈X,a∈X1):∀ (ts:List T) {ws:List V},qAH A1 X1 h ts ws -> T.unds n0 ts=true -> qAH A X h ts ws
 | [],w,r,u=>by unfold qAH at r ⊢;exact r
 | t::ts,w,r,u=>by
  unfold qAH at r ⊢;obtain ⟨v,vs,e,q1,q2⟩:=r
  unfold T.unds at u;simp only [Bool.and_eq_true] at u
  exact ⟨v,vs,e,qHU hc hX t q1 u.1,qBu hc hX ts q2 u.2⟩
end
theorem qBb {x:V} {a:Nat} (h:flat x=true) (e:V.ref a=x):False:=by subst e;cases h
mutual
theorem qHM {A X:List Nat} {h:AH} (nd:A.Nodup) (hs:∀ a∈A,a∈X):∀ (s t:T) {w:V},Rep A X h s w -> Rep A X h t w -> s=t
 | .v x,t,w,r,q=>by
  unfold Rep at r;obtain ⟨rfl,f⟩:=r
  cases t with
  | v y=>unfold Rep at q;obtain ⟨rfl,_⟩:=q;rfl
  | cell n=>unfold Rep at q;obtain ⟨a,_,e⟩:=q;subst e;cases f
  | fz ts=>unfold Rep at q;obtain ⟨a,vs,e,_⟩:=q;subst e;cases f
  | lst ts=>unfold Rep at q;obtain ⟨a,vs,e,_⟩:=q;subst e;cases f
  | tup ts=>unfold Rep at q;obtain ⟨a,vs,e,_⟩:=q;subst e;cases f
  | ob o=>unfold Rep at q;obtain ⟨a,e,_⟩:=q;subst e;cases f
 | .cell n,t,w,r,q=>by
  unfold Rep at r;obtain ⟨a,ea,rfl⟩:=r
  have am:a∈X:=hs _ (List.mem_of_getElem? ea)
  cases t with
  | v y=>unfold Rep at q;obtain ⟨e,f⟩:=q;exact (qBb f e).elim
  | cell m=>
   unfold Rep at q;obtain ⟨b,eb,e⟩:=q;cases e
   have:n=m:=(List.getElem?_inj (by exact (List.getElem?_eq_some_iff.mp ea).1) nd).mp (ea.trans eb.symm)
   rw [this]
  | fz ts=>unfold Rep at q;obtain ⟨b,vs,e,k,_⟩:=q;cases e;exact (k am).elim
  | lst ts=>unfold Rep at q;obtain ⟨b,vs,e,k,_⟩:=q;cases e;exact (k am).elim
  | tup ts=>unfold Rep at q;obtain ⟨b,vs,e,k,_⟩:=q;cases e;exact (k am).elim
  | ob o=>unfold Rep at q;obtain ⟨b,e,k,_⟩:=q;cases e;exact (k am).elim
 | .fz ss,t,w,r,q=>by
  unfold Rep at r;obtain ⟨a,vs,rfl,k1,k2,k3⟩:=r
  cases t with
  | v y=>unfold Rep at q;obtain ⟨e,f⟩:=q;exact (qBb f e).elim
  | cell m=>unfold Rep at q;obtain ⟨b,eb,e⟩:=q;cases e;exact (k1 (hs _ (List.mem_of_getElem? eb))).elim
  | fz ts=>unfold Rep at q;obtain ⟨b,vs',e,z1,z2,z3⟩:=q;cases e;rw [k2] at z2;cases z2;rw [qCU nd hs ss ts k3 z3]
  | lst ts=>unfold Rep at q;obtain ⟨b,vs',e,z1,z2,z3⟩:=q;cases e;rw [k2] at z2;cases z2
  | tup ts=>unfold Rep at q;obtain ⟨b,vs',e,z1,z2,z3⟩:=q;cases e;rw [k2] at z2;cases z2
  | ob o=>unfold Rep at q;obtain ⟨b,e,z1,z2⟩:=q;cases e;rw [k2] at z2;cases z2
 | .lst ss,t,w,r,q=>by
  unfold Rep at r;obtain ⟨a,vs,rfl,k1,k2,k3⟩:=r
  cases t with
  | v y=>unfold Rep at q;obtain ⟨e,f⟩:=q;exact (qBb f e).elim
  | cell m=>unfold Rep at q;obtain ⟨b,eb,e⟩:=q;cases e;exact (k1 (hs _ (List.mem_of_getElem? eb))).elim
  | lst ts=>unfold Rep at q;obtain ⟨b,vs',e,z1,z2,z3⟩:=q;cases e;rw [k2] at z2;cases z2;rw [qCU nd hs ss ts k3 z3]
  | fz ts=>unfold Rep at q;obtain ⟨b,vs',e,z1,z2,z3⟩:=q;cases e;rw [k2] at z2;cases z2
  | tup ts=>unfold Rep at q;obtain ⟨b,vs',e,z1,z2,z3⟩:=q;cases e;rw [k2] at z2;cases z2
  | ob o=>unfold Rep at q;obtain ⟨b,e,z1,z2⟩:=q;cases e;rw [k2] at z2;cases z2
 | .tup ss,t,w,r,q=>by
  unfold Rep at r;obtain ⟨a,vs,rfl,k1,k2,k3⟩:=r
  cases t with
  | v y=>unfold Rep at q;obtain ⟨e,f⟩:=q;exact (qBb f e).elim
  | cell m=>unfold Rep at q;obtain ⟨b,eb,e⟩:=q;cases e;exact (k1 (hs _ (List.mem_of_getElem? eb))).elim
  | tup ts=>unfold Rep at q;obtain ⟨b,vs',e,z1,z2,z3⟩:=q;cases e;rw [k2] at z2;cases z2;rw [qCU nd hs ss ts k3 z3]
  | fz ts=>unfold Rep at q;obtain ⟨b,vs',e,z1,z2,z3⟩:=q;cases e;rw [k2] at z2;cases z2
  | lst ts=>unfold Rep at q;obtain ⟨b,vs',e,z1,z2,z3⟩:=q;cases e;rw [k2] at z2;cases z2
  | ob o=>unfold Rep at q;obtain ⟨b,e,z1,z2⟩:=q;cases e;rw [k2] at z2;cases z2
 | .ob o,t,w,r,q=>by
  unfold Rep at r;obtain ⟨a,rfl,k1,k2⟩:=r
  cases t with
  | v y=>unfold Rep at q;obtain ⟨e,f⟩:=q;exact (qBb f e).elim
  | cell m=>unfold Rep at q;obtain ⟨b,eb,e⟩:=q;cases e;exact (k1 (hs _ (List.mem_of_getElem? eb))).elim
  | fz ts=>unfold Rep at q;obtain ⟨b,vs',e,z1,z2,z3⟩:=q;cases e;rw [k2] at z2;cases z2
  | lst ts=>unfold Rep at q;obtain ⟨b,vs',e,z1,z2,z3⟩:=q;cases e;rw [k2] at z2;cases z2
  | tup ts=>unfold Rep at q;obtain ⟨b,vs',e,z1,z2,z3⟩:=q;cases e;rw [k2] at z2;cases z2
  | ob o'=>unfold Rep at q;obtain ⟨b,e,z1,z2⟩:=q;cases e;rw [k2] at z2;cases z2;rfl
theorem qCU {A X:List Nat} {h:AH} (nd:A.Nodup) (hs:∀ a∈A,a∈X):∀ (ss ts:List T) {ws:List V},qAH A X h ss ws -> qAH A X h ts ws -> ss=ts
 | [],[],w,r,q=>rfl
 | [],t::ts,w,r,q=>by unfold qAH at r q;obtain ⟨v,vs,e,_⟩:=q;subst r;cases e
 | s::ss,[],w,r,q=>by unfold qAH at r q;obtain ⟨v,vs,e,_⟩:=r;subst q;cases e
 | s::ss,t::ts,w,r,q=>by
  unfold qAH at r q;obtain ⟨v,vs,rfl,k1,k2⟩:=r;obtain ⟨v',vs',e,z1,z2⟩:=q
  cases e
  rw [qHM nd hs s t k1 z1,qCU nd hs ss ts k2 z2]
end
mutual
theorem qKv:∀ (s t:T),T.beq s t=true -> s=t
 | .v x,.v y,h=>by unfold T.beq at h;simp at h;rw [h]
 | .cell x,.cell y,h=>by unfold T.beq at h;simp at h;rw [h]
 | .fz x,.fz y,h=>by unfold T.beq at h;rw [qB8 x y h]
 | .lst x,.lst y,h=>by unfold T.beq at h;rw [qB8 x y h]
 | .tup x,.tup y,h=>by unfold T.beq at h;rw [qB8 x y h]
 | .ob x,.ob y,h=>by unfold T.beq at h;simp at h;rw [h]
 | .ob _,.v _,h | .ob _,.cell _,h | .ob _,.fz _,h | .ob _,.lst _,h | .ob _,.tup _,h=>by simp [T.beq] at h
 | .v _,.ob _,h | .cell _,.ob _,h | .fz _,.ob _,h | .lst _,.ob _,h | .tup _,.ob _,h=>by simp [T.beq] at h
 | .v _,.cell _,h | .v _,.fz _,h | .v _,.lst _,h | .v _,.tup _,h=>by simp [T.beq] at h
 | .cell _,.v _,h | .cell _,.fz _,h | .cell _,.lst _,h | .cell _,.tup _,h=>by simp [T.beq] at h
 | .fz _,.v _,h | .fz _,.cell _,h | .fz _,.lst _,h | .fz _,.tup _,h=>by simp [T.beq] at h
 | .lst _,.v _,h | .lst _,.cell _,h | .lst _,.fz _,h | .lst _,.tup _,h=>by simp [T.beq] at h
 | .tup _,.v _,h | .tup _,.cell _,h | .tup _,.fz _,h | .tup _,.lst _,h=>by simp [T.beq] at h
theorem qB8:∀ (ss ts:List T),T.beqs ss ts=true -> ss=ts
 | [],[],h=>rfl
 | [],_::_,h=>by simp [T.beqs] at h
 | _::_,[],h=>by simp [T.beqs] at h
 | s::ss,t::ts,h=>by unfold T.beqs at h;simp only [Bool.and_eq_true] at h;rw [qKv s t h.1,qB8 ss ts h.2]
end
noncomputable def Frm (A:List Nat) (h h':AH):Prop:=h.length<=h'.length/\∀ j,j < h.length -> j∉A -> h'[j]?=h[j]?
theorem Frm.refl (A:List Nat) (h:AH):Frm A h h:=⟨Nat.le_refl _,fun _ _ _=>rfl⟩
theorem Frm.trans {A:List Nat} {a b c:AH} (x:Frm A a b) (y:Frm A b c):Frm A a c:=⟨Nat.le_trans x.1 y.1,fun j hj hA=>(y.2 j (Nat.lt_of_lt_of_le hj x.1) hA).trans (x.2 j hj hA)⟩
theorem Frm.trans2 {A B:List Nat} {a b c:AH} (x:Frm A a b) (hB:∀ k∈B,a.length<=k) (y:Frm (A++B) b c):Frm A a c:=
 ⟨Nat.le_trans x.1 y.1,fun j hj hA=>(y.2 j (Nat.lt_of_lt_of_le hj x.1) (by rw [List.mem_append];rintro (z | z);exact hA z;have:=hB _ z;omega)).trans (x.2 j hj hA)⟩
theorem Frm.app (A:List Nat) (h e:AH):Frm A h (h++e):=⟨by simp,fun j hj _=>by rw [List.getElem?_append_left hj]⟩
theorem Frm.set {A:List Nat} {h h':AH} (f:Frm A h h') {a:Nat} (ha:a∈A\/h.length<=a) (o:O):Frm A h (h'.set a o):=⟨by simpa using f.1,fun j hj hA=>by
 rw [List.getElem?_set_ne (by rintro rfl;rcases ha with z | z;exact hA z;omega)];exact f.2 j hj hA⟩
theorem qAF {h:AH} {a:Nat} {o:O} (e:h[a]?=some o):a < h.length:=(List.getElem?_eq_some_iff.mp e).1
structure RelM (gl:List T) (A X:List Nat) (h:AH) (M:Mem):Prop where
 len:A.length=M.length
 nd:A.Nodup
 sub:∀ a∈A,a∈X
 lt:∀ a∈X,a < h.length
 at_:∀ (n:Nat) a,A[n]?=some a -> ∃ ts vs,M[n]?=some ts/\h[a]?=some (.lst false vs)/\qAH A X h ts vs
 glo:∀ (g:Nat) t,gl[g]?=some t -> Rep A X h t (.ref g)
section
variable {gl:List T} {A X:List Nat} {h h':AH} {M:Mem}
theorem RelM.keepN (R:RelM gl A X h M) (f:Frm A h h'):∀ a o,a∉X -> h[a]?=some o -> a∉X/\h'[a]?=some o:=fun a o hx e=>⟨hx,(f.2 a (qAF e) fun z=>hx (R.sub _ z)).trans e⟩
theorem RelM.keep (R:RelM gl A X h M) (f:Frm A h h') {t:T} {w:V} (r:Rep A X h t w):Rep A X h' t w:=qAn (fun _ _ e=>e) (R.keepN f) t r
theorem RelM.keeps (R:RelM gl A X h M) (f:Frm A h h') {t:List T} {w:List V} (r:qAH A X h t w):qAH A X h' t w:=qAK (fun _ _ e=>e) (R.keepN f) t r
theorem RelM.up (R:RelM gl A X h M) (e:AH):RelM gl A X (h++e) M:=by
 have f:Frm A h (h++e):=Frm.app A h e
 refine ⟨R.len,R.nd,R.sub,fun a ha=>Nat.lt_of_lt_of_le (R.lt a ha) f.1,fun n a ea=>?_,fun g t eg=>R.keep f (R.glo g t eg)⟩
 obtain ⟨ts,vs,e1,e2,e3⟩:=R.at_ n a ea
 exact ⟨ts,vs,e1,by rw [List.getElem?_append_left (qAF e2)];exact e2,R.keeps f e3⟩
theorem RelM.put (R:RelM gl A X h M) {n a:Nat} (ea:A[n]?=some a) {ts:List T} {vs:List V} (r:qAH A X h ts vs):RelM gl A X (h.set a (.lst false vs)) (M.set n ts)/\Frm A h (h.set a (.lst false vs)):=by
 have am:a∈A:=List.mem_of_getElem? ea
 have f:Frm A h (h.set a (.lst false vs)):=(Frm.refl A h).set (.inl am) _
 have al:a < h.length:=R.lt a (R.sub a am)
 refine ⟨⟨by simpa using R.len,R.nd,R.sub,fun b hb=>by simpa using R.lt b hb,fun m b eb=>?_,fun g t eg=>R.keep f (R.glo g t eg)⟩,f⟩
 by_cases hm:n=m
 ·subst hm
  rw [ea] at eb;cases eb
  have nl:n < M.length:=by rw [<- R.len];exact (List.getElem?_eq_some_iff.mp ea).1
  exact ⟨ts,vs,by rw [List.getElem?_set_self nl],by rw [List.getElem?_set_self al],R.keeps f r⟩
 ·obtain ⟨ts',vs',e1,e2,e3⟩:=R.at_ m b eb
  have hab:a≠b:=by
   rintro rfl
   exact hm ((List.getElem?_inj (List.getElem?_eq_some_iff.mp ea).1 R.nd).mp (ea.trans eb.symm))
  exact ⟨ts',vs',by rw [List.getElem?_set_ne hm];exact e1,by rw [List.getElem?_set_ne hab];exact e2,R.keeps f e3⟩
end
noncomputable def Frs (gl:List T) (A X:List Nat) (n:Nat) (h:AH) (M:Mem) (t:T) (w:V):Prop:=∃ fp,FP X h t w fp/\fp.Nodup/\(∀ a∈fp,n<=a)/\RelM gl A (X++fp) h M
noncomputable def Frss (gl:List T) (A X:List Nat) (n:Nat) (h:AH) (M:Mem) (t:List T) (w:List V):Prop:=∃ fp,FPs X h t w fp/\fp.Nodup/\(∀ a∈fp,n<=a)/\RelM gl A (X++fp) h M
theorem Frs.of_lf {gl:List T} {A X:List Nat} {n:Nat} {h:AH} {M:Mem} {t:T} {w:V} (R:RelM gl A X h M) (r:Rep A X h t w) (l:t.lf=true):Frs gl A X n h M t w:=⟨[],qKj t r l,List.nodup_nil,fun a ha=>by simp at ha,by rw [List.append_nil];exact R⟩
theorem Frss.of_lf {gl:List T} {A X:List Nat} {n:Nat} {h:AH} {M:Mem} {t:List T} {w:List V} (R:RelM gl A X h M) (r:qAH A X h t w) (l:T.lfs t=true):Frss gl A X n h M t w:=⟨[],qGu t r l,List.nodup_nil,fun a ha=>by simp at ha,by rw [List.append_nil];exact R⟩
noncomputable def Sim {α β:Type} (gl:List T) (A X:List Nat) (h:AH) (Q:α -> β -> AH -> Mem -> Prop):PR (α×Mem) -> Res (β×AH) -> Prop
 | .ok (x,M'),r=>∃ y h',r=.ok (y,h')/\Frm A h h'/\RelM gl A X h' M'/\Q x y h' M'
 | .exc c M',r=>∃ h',r=.exc c h'/\Frm A h h'/\RelM gl A X h' M'
 | .stuck,_=>True
theorem Sim.bind {α β α2 β2:Type} {gl:List T} {A X:List Nat} {h:AH} {Q:α -> β -> AH -> Mem -> Prop} {Q2:α2 -> β2 -> AH -> Mem -> Prop} {r:PR (α×Mem)} {rh:Res (β×AH)} {f:α×Mem -> PR (α2×Mem)} {g:β×AH -> Res (β2×AH)}
  (s:Sim gl A X h Q r rh) (k:∀ x M' y h',Frm A h h' -> RelM gl A X h' M' -> Q x y h' M' -> Sim gl A X h' Q2 (f (x,M')) (g (y,h'))):Sim gl A X h Q2 (r.bind f) (rh.bind g):=by
 cases r with
 | ok p=>
  obtain ⟨x,M'⟩:=p
  obtain ⟨y,h',rfl,f1,R1,q⟩:=s
  have:=k x M' y h' f1 R1 q
  rw [PR.bind_ok,Res.bind_ok]
  revert this
  generalize f (x,M')=r2
  generalize g (y,h')=rh2
  intro s2
  cases r2 with
  | ok p2=>
   obtain ⟨x2,M2⟩:=p2
   obtain ⟨y2,h2,e2,f2,R2,q2⟩:=s2
   exact ⟨y2,h2,e2,f1.trans f2,R2,q2⟩
  | exc c M2=>
   obtain ⟨h2,e2,f2,R2⟩:=s2
   exact ⟨h2,e2,f1.trans f2,R2⟩
  | stuck=>trivial
 | exc c M'=>
  obtain ⟨h',rfl,f1,R1⟩:=s
  exact ⟨h',rfl,f1,R1⟩
 | stuck=>trivial
theorem Sim.nx {α β:Type} {gl:List T} {A X:List Nat} {h:AH} {Q:α -> β -> AH -> Mem -> Prop} {r:PR (α×Mem)} {rh:Res (β×AH)} (s:Sim gl A X h Q r rh):Sim gl A X h Q r.nx rh.nx:=by
 cases r with
 | ok p=>obtain ⟨x,M'⟩:=p;obtain ⟨y,h',rfl,a,b,c⟩:=s;exact ⟨y,h',rfl,a,b,c⟩
 | exc c M'=>trivial
 | stuck=>trivial
theorem Sim.stuck {α β:Type} {gl:List T} {A X:List Nat} {h:AH} {Q:α -> β -> AH -> Mem -> Prop} {r:Res (β×AH)}:Sim gl A X h Q (.stuck:PR (α×Mem)) r:=trivial
theorem Sim.ofO {α β α2:Type} {gl:List T} {A X:List Nat} {h:AH} {Q:α -> β -> AH -> Mem -> Prop} {o:Option α2} {f:α2 -> PR (α×Mem)} {r:Res (β×AH)} (k:∀ x,o=some x -> Sim gl A X h Q (f x) r):Sim gl A X h Q ((PR.ofO o).bind f) r:=by
 cases o with
 | none=>trivial
 | some x=>exact k x rfl
noncomputable def QE (gl:List T) (A X:List Nat) (n:Nat):TB -> V -> AH -> Mem -> Prop:=fun x w h M=>Rep A X h x.1 w/\(x.2=true -> Frs gl A X n h M x.1 w)
noncomputable def QEs (gl:List T) (A X:List Nat) (n:Nat):List TB -> List V -> AH -> Mem -> Prop:=fun x w h M=>qAH A X h (x.map (·.1)) w/\(x.all (·.2)=true -> Frss gl A X n h M (x.map (·.1)) w)
theorem QE.le {gl:List T} {A X:List Nat} {n m:Nat} {x:TB} {w:V} {h:AH} {M:Mem} (q:QE gl A X n x w h M) (l:m<=n):QE gl A X m x w h M:=⟨q.1,fun e=>by obtain ⟨fp,a,b,c,d⟩:=q.2 e;exact ⟨fp,a,b,fun z hz=>Nat.le_trans l (c z hz),d⟩⟩
theorem Sim.le {gl:List T} {A X:List Nat} {h:AH} {n m:Nat} {r:PR (TB×Mem)} {rh:RV} (s:Sim gl A X h (QE gl A X n) r rh) (l:m<=n):Sim gl A X h (QE gl A X m) r rh:=by
 cases r with
 | ok p=>obtain ⟨y,h',e,f,R,q⟩:=s;exact ⟨y,h',e,f,R,q.le l⟩
 | exc c M=>exact s
 | stuck=>trivial
theorem RelM.weak {gl:List T} {A X X':List Nat} {h:AH} {M:Mem} (R:RelM gl A X' h M) (hX:∀ a∈X,a∈X') (hA:∀ a∈A,a∈X):RelM gl A X h M:=by
 have hn:∀ a o,a∉X' -> h[a]?=some o -> a∉X/\h[a]?=some o:=fun a o x y=>⟨fun z=>x (hX _ z),y⟩
 refine ⟨R.len,R.nd,hA,fun a ha=>R.lt a (hX a ha),fun n a e=>?_,fun g t e=>qAn (fun _ _ e=>e) hn t (R.glo g t e)⟩
 obtain ⟨ts,vs,e1,e2,e3⟩:=R.at_ n a e
 exact ⟨ts,vs,e1,e2,qAK (fun _ _ e=>e) hn ts e3⟩
theorem RelM.addX {gl:List T} {A X X':List Nat} {h:AH} {M:Mem} (R:RelM gl A X h M) {o:O} (h1:∀ a,a∈X'↔a=h.length\/a∈X):RelM gl A X' (h++[o]) M:=by
 have hn:∀ a o',a∉X -> h[a]?=some o' -> a∉X'/\(h++[o])[a]?=some o':=fun a o' x y=>⟨by
  rw [h1];rintro (z | z)
  ·have:=qAF y;omega
  ·exact x z,by rw [List.getElem?_append_left (qAF y)];exact y⟩
 refine ⟨R.len,R.nd,fun a ha=>(h1 a).mpr (.inr (R.sub a ha)),fun a ha=>?_,fun n a e=>?_,fun g t e=>qAn (fun _ _ e=>e) hn t (R.glo g t e)⟩
 ·rcases (h1 a).mp ha with z | z
  ·simp [z]
  ·have:=R.lt a z;simp;omega
 ·obtain ⟨ts,vs,e1,e2,e3⟩:=R.at_ n a e
  exact ⟨ts,vs,e1,by rw [List.getElem?_append_left (qAF e2)];exact e2,qAK (fun _ _ e=>e) hn ts e3⟩
end PI
namespace PI
open L2 (V)
section
variable {gl:List T} {A X:List Nat} {h:AH} {M:Mem}
theorem qFA (R:RelM gl A X h M) {t:T} {w:V} {ts:List T} (r:Rep A X h t w) (e:t.its M=some ts):∃ a vs,w=.ref a/\items h a=some vs/\qAH A X h ts vs:=by
 cases t with
 | v x=>cases e
 | cell n=>
  unfold Rep at r;obtain ⟨a,ea,rfl⟩:=r
  obtain ⟨ts',vs,e1,e2,e3⟩:=R.at_ n a ea
  have:M[n]?=some ts:=e
  rw [e1] at this;cases this
  exact ⟨a,vs,rfl,by unfold items;rw [e2],e3⟩
 | fz xs=>unfold Rep at r;obtain ⟨a,vs,rfl,_,q,k⟩:=r;cases e;exact ⟨a,vs,rfl,by unfold items;rw [q],k⟩
 | lst xs=>unfold Rep at r;obtain ⟨a,vs,rfl,_,q,k⟩:=r;cases e;exact ⟨a,vs,rfl,by unfold items;rw [q],k⟩
 | tup xs=>unfold Rep at r;obtain ⟨a,vs,rfl,_,q,k⟩:=r;cases e;exact ⟨a,vs,rfl,by unfold items;rw [q],k⟩
 | ob o=>cases e
theorem qBX (R:RelM gl A X h M) {t:T} {w:V} {ts:List T} (r:Rep A X h t w) (e:t.lis M=some ts):∃ a vs f,w=.ref a/\h[a]?=some (.lst f vs)/\qAH A X h ts vs:=by
 cases t with
 | v x=>cases e
 | cell n=>
  unfold Rep at r;obtain ⟨a,ea,rfl⟩:=r
  obtain ⟨ts',vs,e1,e2,e3⟩:=R.at_ n a ea
  have:M[n]?=some ts:=e
  rw [e1] at this;cases this
  exact ⟨a,vs,false,rfl,e2,e3⟩
 | fz xs=>unfold Rep at r;obtain ⟨a,vs,rfl,_,q,k⟩:=r;cases e;exact ⟨a,vs,true,rfl,q,k⟩
 | lst xs=>unfold Rep at r;obtain ⟨a,vs,rfl,_,q,k⟩:=r;cases e;exact ⟨a,vs,false,rfl,q,k⟩
 | tup xs=>cases e
 | ob o=>cases e
theorem qF7 (R:RelM gl A X h M) {t:T} {w:V} {ts:List T} (r:Rep A X h t w) (e:t.mu M=some ts):∃ a vs,w=.ref a/\qAU h a=some vs/\qAH A X h ts vs:=by
 cases t with
 | v x=>cases e
 | cell n=>
  unfold Rep at r;obtain ⟨a,ea,rfl⟩:=r
  obtain ⟨ts',vs,e1,e2,e3⟩:=R.at_ n a ea
  have:M[n]?=some ts:=e
  rw [e1] at this;cases this
  exact ⟨a,vs,rfl,by unfold qAU;rw [e2],e3⟩
 | fz xs=>cases e
 | lst xs=>unfold Rep at r;obtain ⟨a,vs,rfl,_,q,k⟩:=r;cases e;exact ⟨a,vs,rfl,by unfold qAU;rw [q],k⟩
 | tup xs=>cases e
 | ob o=>cases e
theorem qAX {t:T} {x:V} (e:t.isV=some x):t=.v x:=by cases t<;>cases e;rfl
theorem qB0 {t:T} {w:V} (e:t.isV=none) (r:Rep A X h t w):∃ a:Nat,w=.ref a:=by
 cases t with
 | v x=>cases e
 | cell n=>unfold Rep at r;obtain ⟨a,_,e⟩:=r;exact ⟨a,e⟩
 | fz xs=>unfold Rep at r;obtain ⟨a,vs,e,_⟩:=r;exact ⟨a,e⟩
 | lst xs=>unfold Rep at r;obtain ⟨a,vs,e,_⟩:=r;exact ⟨a,e⟩
 | tup xs=>unfold Rep at r;obtain ⟨a,vs,e,_⟩:=r;exact ⟨a,e⟩
 | ob o=>unfold Rep at r;obtain ⟨a,e,_⟩:=r;exact ⟨a,e⟩
theorem qDf (R:RelM gl A X h M) {ts:List T} {vs:List V} {n:Nat} {f:Bool} (r:qAH A X h ts vs) (hn:n<=h.length) (hf:f=true -> Frss gl A X n h M ts vs):Sim gl A X h (QE gl A X n) (.ok ((.lst ts,f),M)) (newL vs h):=by
 have fm:Frm A h (h++[O.lst false vs]):=Frm.app A h _
 have hx:h.length∉X:=fun z=>Nat.lt_irrefl _ (R.lt _ z)
 have ha:(h++[O.lst false vs])[h.length]?=some (.lst false vs):=by simp
 refine ⟨.ref h.length,_,rfl,fm,R.up _,?_,fun e=>?_⟩
 ·show Rep A X _ (.lst ts) _
  unfold Rep
  exact ⟨_,vs,rfl,hx,ha,R.keeps fm r⟩
 ·obtain ⟨fp,p,nd,l,R'⟩:=hf e
  refine ⟨fp++[h.length],?_,?_,?_,R'.addX fun a=>by simp only [List.mem_append,List.mem_singleton];grind⟩
  ·show FP X _ (.lst ts) _ _
   unfold FP
   exact ⟨_,vs,fp,rfl,hx,ha,qBI (R.keepN fm) ts p,rfl⟩
  ·rw [List.nodup_append]
   refine ⟨nd,by simp,?_⟩
   rintro a ha b hb rfl
   obtain ⟨_,vs',q⟩:=qCC ts p a ha
   simp at hb
   have:=qAF q
   omega
  ·intro a ha
   rcases List.mem_append.mp ha with z | z
   ·exact l a z
   ·simp at z;omega
theorem qDy (R:RelM gl A X h M) {ts:List T} {vs:List V} {n:Nat} {f:Bool} (r:qAH A X h ts vs) (hf:f=true -> Frss gl A X n h M ts vs):Sim gl A X h (QE gl A X n) (.ok ((.tup ts,f),M)) (newT vs h):=by
 have fm:Frm A h (h++[O.tup vs]):=Frm.app A h _
 have hx:h.length∉X:=fun z=>Nat.lt_irrefl _ (R.lt _ z)
 have ha:(h++[O.tup vs])[h.length]?=some (.tup vs):=by simp
 refine ⟨.ref h.length,_,rfl,fm,R.up _,?_,fun e=>?_⟩
 ·show Rep A X _ (.tup ts) _
  unfold Rep
  exact ⟨_,vs,rfl,hx,ha,R.keeps fm r⟩
 ·obtain ⟨fp,p,nd,l,R'⟩:=hf e
  refine ⟨fp,?_,nd,l,R'.up _⟩
  show FP X _ (.tup ts) _ _
  unfold FP
  exact ⟨_,vs,rfl,hx,ha,qBI (R.keepN fm) ts p⟩
theorem qGA (R:RelM gl A X h M) {ts:List T} {vs:List V} (r:qAH A X h ts vs):Sim gl A X h (QE gl A X h.length) (.ok (lT ts,M)) (newL vs h):=
 qDf R r (Nat.le_refl _) fun e=>Frss.of_lf R r e
theorem qAG (R:RelM gl A X h M) {x:V} (fx:flat x=true) {n:Nat}:Sim gl A X h (QE gl A X n) (.ok ((.v x,true),M)) (.ok (x,h)):=
 have r:Rep A X h (.v x) x:=by unfold Rep;exact ⟨rfl,fx⟩
 ⟨x,h,rfl,Frm.refl A h,R,r,fun _=>Frs.of_lf R r rfl⟩
theorem qA2 {x w:V} (r:Rep A X h (.v x) w):w=x:=by unfold Rep at r;exact r.1
theorem qJX (xs:List T):T.lf (.tup xs)=T.lfs xs:=by rw [T.lf]
theorem qKL (R:RelM gl A X h M) {op:BOp} {s t:T} {x y:V} {r:TB} (e:qAq M op s t=some r) (r1:Rep A X h s x) (r2:Rep A X h t y):Sim gl A X h (QE gl A X h.length) (.ok (r,M)) (qJo op x y h):=by
 unfold qAq at e
 split at e
 ·rename_i i j e1 e2
  cases qAX e1;cases qAX e2
  cases qA2 r1;cases qA2 r2
  cases op with
  | add=>cases e;exact qAG R rfl
  | sub=>cases e;exact qAG R rfl
  | mul=>dsimp only at e;split at e<;>cases e;rename_i c;show Sim _ _ _ _ _ _ (if _ then _ else _);rw [if_pos c];exact qAG R rfl
  | fdiv=>
   dsimp only at e
   show Sim _ _ _ _ _ _ (if _ then _ else _)
   split at e
   ·rename_i c;cases e;rw [if_pos c];exact qAG R rfl
   ·rename_i c
    rw [if_neg c]
    split at e
    ·rename_i c;cases e;rw [if_pos c];exact qAG R rfl
    ·cases e
  | mod=>
   dsimp only at e
   show Sim _ _ _ _ _ _ (if _ then _ else _)
   split at e
   ·rename_i c;cases e;rw [if_pos c];exact qAG R rfl
   ·rename_i c
    rw [if_neg c]
    split at e
    ·rename_i c;cases e;rw [if_pos c];exact qAG R rfl
    ·cases e
  | pow=>dsimp only at e;split at e<;>cases e;rename_i c;show Sim _ _ _ _ _ _ (if _ then _ else _);rw [if_pos c];exact qAG R rfl
  | shl=>dsimp only at e;split at e<;>cases e;rename_i c;show Sim _ _ _ _ _ _ (if _ then _ else _);rw [if_pos c];exact qAG R rfl
 ·rename_i k e1 e2
  cases qAX e2
  cases qA2 r2
  obtain ⟨a,rfl⟩:=qB0 e1 r1
  cases op<;>first | cases e | skip
  dsimp only at e
  cases em:s.mu M with
  | none=>rw [em] at e;cases e
  | some xs=>
   rw [em] at e
   dsimp only [Option.bind_some] at e
   split at e<;>cases e
   rename_i c
   obtain ⟨a',vs,ea,m,rs⟩:=qF7 R r1 em
   cases ea
   have lv:vs.length=xs.length:=(qAB (reps_iff.mp rs)).symm
   show Sim _ _ _ _ _ _ (match qAU h a with | some xs=>_ | none=>_)
   rw [m]
   dsimp only
   rw [if_pos (by rw [lv];exact c)]
   exact qGA R (reps_iff.mpr (qH6 _ (reps_iff.mp rs)))
 ·rename_i e1 e2
  obtain ⟨a,rfl⟩:=qB0 e1 r1
  obtain ⟨b,rfl⟩:=qB0 e2 r2
  cases op<;>first | cases e | skip
  dsimp only at e
  split at e
  ·rename_i xs ys
   split at e<;>cases e
   rename_i c
   unfold Rep at r1 r2
   obtain ⟨a1,vs,ea,n1,k1,q1⟩:=r1
   cases ea
   obtain ⟨b1,us,eb,n2,k2,q2⟩:=r2
   cases eb
   have lv:vs.length=xs.length:=(qAB (reps_iff.mp q1)).symm
   have lu:us.length=ys.length:=(qAB (reps_iff.mp q2)).symm
   have m1:qAU h a=none:=by unfold qAU;rw [k1]
   have t1:qAS h a=some vs:=by unfold qAS;rw [k1]
   have t2:qAS h b=some us:=by unfold qAS;rw [k2]
   have q3:=reps_iff.mpr (qAo (reps_iff.mp q1) (reps_iff.mp q2))
   show Sim _ _ _ _ _ _ (match qAU h a,qAU h b with | some xs,some ys=>_ | _,_=>_)
   rw [m1]
   show Sim _ _ _ _ _ _ (match qAS h a,qAS h b with | some xs,some ys=>_ | _,_=>_)
   rw [t1,t2]
   dsimp only
   rw [if_pos ⟨fun z=>c.1 (by subst z;exact List.length_eq_zero_iff.mp lv.symm),by rw [lv,lu];exact c.2⟩]
   split
   ·rename_i z
    subst z
    have y0:ys=[]:=List.length_eq_zero_iff.mp lu.symm
    subst y0
    have r:Rep A X h (.tup (xs++[])) (.ref a):=by
     rw [List.append_nil]
     unfold Rep
     exact ⟨a,vs,rfl,n1,k1,q1⟩
    exact ⟨_,h,rfl,Frm.refl A h,R,r,fun e=>Frs.of_lf R r (by rw [qJX];exact e)⟩
   ·exact qDy R q3 fun e=>Frss.of_lf R q3 e
  cases em:s.mu M with
  | none=>rw [em] at e;cases e
  | some xs=>
   rw [em] at e
   dsimp only [Option.bind_some] at e
   cases en:t.mu M with
   | none=>rw [en] at e;cases e
   | some ys=>
    rw [en] at e
    dsimp only [Option.bind_some] at e
    split at e<;>cases e
    rename_i c
    obtain ⟨a',vs,ea,m,rs⟩:=qF7 R r1 em
    cases ea
    obtain ⟨b',us,eb,m2,rs2⟩:=qF7 R r2 en
    cases eb
    have lv:vs.length=xs.length:=(qAB (reps_iff.mp rs)).symm
    have lu:us.length=ys.length:=(qAB (reps_iff.mp rs2)).symm
    show Sim _ _ _ _ _ _ (match qAU h a,qAU h b with | some xs,some ys=>_ | _,_=>_)
    rw [m,m2]
    dsimp only
    rw [if_pos (by rw [lv,lu];exact c)]
    exact qGA R (reps_iff.mpr (qAo (reps_iff.mp rs) (reps_iff.mp rs2)))
 ·cases e
theorem qFb {x:V} {b:Bool} (e:eqF x x=some b):b=true:=by
 cases x with
 | int i=>cases e;exact beq_self_eq_true i
 | bl i=>cases e;exact beq_self_eq_true i
 | str i=>cases e;exact beq_self_eq_true i
 | non=>cases e;rfl
 | _=>cases e
theorem qBn {f:T -> T -> Option Bool} (hf:∀ t b,f t t=some b -> b=true):∀ (ts:List T) bs,qA3 f ts ts=some bs -> bs.all id=true
 | [],bs,e=>by cases e;rfl
 | t::ts,bs,e=>by
  unfold qA3 at e
  split at e
  ·rename_i b bs' e1 e2
   cases e
   rw [List.all_cons,hf t b e1,qBn hf ts bs' e2]
   rfl
  ·cases e
theorem qDX:∀ (n:Nat) (t:T) (b:Bool),eqT M n t t=some b -> b=true
 | 0,t,b,e=>by
  unfold eqT at e
  split at e
  ·rename_i x y e1 e2;rw [e1] at e2;cases e2;exact qFb e
  ·cases e
 | n + 1,t,b,e=>by
  unfold eqT at e
  split at e
  ·rename_i x y e1 e2;rw [e1] at e2;cases e2;exact qFb e
  ·rename_i e1 e2;rw [e1] at e2;cases e2
  ·rename_i e1 e2;rw [e1] at e2;cases e2
  ·split at e
   ·rename_i xs ys e1 e2
    rw [e1] at e2;cases e2
    rw [if_pos rfl] at e
    obtain ⟨bs,eb,rfl⟩:=Option.map_eq_some_iff.mp e
    exact qBn (qDX n) xs bs eb
   ·rename_i e1 e2;rw [e1] at e2;cases e2
   ·rename_i e1 e2;rw [e1] at e2;cases e2
   ·split at e
    ·rename_i xs ys e1 e2
     rw [e1] at e2;cases e2
     rw [if_pos rfl] at e
     obtain ⟨bs,eb,rfl⟩:=Option.map_eq_some_iff.mp e
     exact qBn (qDX n) xs bs eb
    ·cases e
theorem qCP {f:T -> T -> Option Bool} {g:V -> V -> Option Bool} (hf:∀ s t x y b,Rep A X h s x -> Rep A X h t y -> f s t=some b -> g x y=some b):∀ {ss ts:List T} {xs ys:List V} {bs:List Bool},qAH A X h ss xs -> qAH A X h ts ys -> qA3 f ss ts=some bs -> qC1 g xs ys=some bs
 | [],[],xs,ys,bs,r1,r2,e=>by unfold qAH at r1 r2;subst r1 r2;exact e
 | [],t::ts,xs,ys,bs,r1,r2,e=>by cases e
 | s::ss,[],xs,ys,bs,r1,r2,e=>by cases e
 | s::ss,t::ts,xs,ys,bs,r1,r2,e=>by
  unfold qAH at r1 r2
  obtain ⟨x,xs',rfl,a1,a2⟩:=r1
  obtain ⟨y,ys',rfl,b1,b2⟩:=r2
  unfold qA3 at e
  split at e
  ·rename_i b bs' e1 e2
   cases e
   unfold qC1
   rw [hf s t x y b a1 b1 e1,qCP hf a2 b2 e2]
  ·cases e
theorem qBh {x w:V} (r:Rep A X h (.v x) w):flat x=true:=by unfold Rep at r;exact r.2
theorem qFg (R:RelM gl A X h M) {t:T} {a:Nat} (r:Rep A X h t (.ref a)) (hs:(t.its M).isSome=true):(items h a).isSome=true:=by
 cases t with
 | v x=>unfold Rep at r;exact (qBb r.2 r.1).elim
 | cell n=>unfold Rep at r;obtain ⟨b,eb,e⟩:=r;cases e;obtain ⟨_,_,_,q,_⟩:=R.at_ n _ eb;unfold items;rw [q];rfl
 | fz xs=>unfold Rep at r;obtain ⟨b,vs,e,_,q,_⟩:=r;cases e;unfold items;rw [q];rfl
 | lst xs=>unfold Rep at r;obtain ⟨b,vs,e,_,q,_⟩:=r;cases e;unfold items;rw [q];rfl
 | tup xs=>unfold Rep at r;obtain ⟨b,vs,e,_,q,_⟩:=r;cases e;unfold items;rw [q];rfl
 | ob o=>cases hs
theorem qFF {t:T} {w:V} {ts:List T} (r:Rep A X h t w) (e1:t.isV=none) (e2:t.lis M=none) (e:t.its M=some ts):∃ a vs,w=.ref a/\h[a]?=some (.tup vs)/\qAH A X h ts vs:=by
 cases t with
 | v x=>cases e1
 | cell n=>have z:M[n]?=some ts:=e;have z2:M[n]?=none:=e2;rw [z] at z2;cases z2
 | fz xs=>cases e2
 | lst xs=>cases e2
 | tup xs=>unfold Rep at r;obtain ⟨b,vs,e',_,q,k⟩:=r;cases e;exact ⟨b,vs,e',q,k⟩
 | ob o=>cases e
theorem qHz {n:Nat} {x y:V} (fx:flat x=true) (fy:flat y=true):eqD h (n + 1) x y=eqF x y:=by
 cases x<;>cases y<;>first | rfl | (simp [flat] at fx;done) | (simp [flat] at fy;done)
theorem qES (R:RelM gl A X h M):∀ (n:Nat) (s t:T) (x y:V) (b:Bool),Rep A X h s x -> Rep A X h t y -> eqT M n s t=some b -> eqD h n x y=some b
 | 0,s,t,x,y,b,r1,r2,e=>by
  unfold eqT at e
  split at e
  ·rename_i x' y' e1 e2
   cases qAX e1;cases qAX e2;cases qA2 r1;cases qA2 r2
   unfold eqD;exact e
  ·cases e
 | n + 1,s,t,x,y,b,r1,r2,e=>by
  unfold eqT at e
  split at e
  ·rename_i x' y' e1 e2
   cases qAX e1;cases qAX e2;cases qA2 r1;cases qA2 r2
   rw [qHz (qBh r1) (qBh r2)];exact e
  ·rename_i x' e1 e2
   cases qAX e1;cases qA2 r1
   obtain ⟨c,rfl⟩:=qB0 e2 r2
   have fx:=qBh r1
   split at e<;>cases e
   rename_i hz
   have:=qFg R r2 hz
   cases x<;>first | (unfold eqD;simp [flat,this];done) | (simp [flat] at fx;done)
  ·rename_i y' e1 e2
   cases qAX e2;cases qA2 r2
   obtain ⟨c,rfl⟩:=qB0 e1 r1
   have fx:=qBh r2
   split at e<;>cases e
   rename_i hz
   have:=qFg R r1 hz
   cases y<;>first | (unfold eqD;simp [flat,this];done) | (simp [flat] at fx;done)
  ·rename_i e1 e2
   obtain ⟨c,rfl⟩:=qB0 e1 r1
   obtain ⟨d,rfl⟩:=qB0 e2 r2
   have same:c=d -> b=true:=by
    rintro rfl
    have:=qHM R.nd R.sub s t r1 r2
    subst this
    refine qDX (M:=M) (n + 1) s b ?_
    unfold eqT
    rw [e1]
    exact e
   split at e
   ·rename_i xs ys l1 l2
    obtain ⟨_,vs,f1,q1,k1,m1⟩:=qBX R r1 l1;cases q1
    obtain ⟨_,us,f2,q2,k2,m2⟩:=qBX R r2 l2;cases q2
    unfold eqD
    rw [k1,k2]
    dsimp only
    by_cases hcd:c=d
    ·rw [if_pos hcd,same hcd]
    ·rw [if_neg hcd,<- qAB (reps_iff.mp m1),<- qAB (reps_iff.mp m2)]
     split at e
     ·rename_i hl
      rw [if_pos hl]
      obtain ⟨bs,eb,rfl⟩:=Option.map_eq_some_iff.mp e
      rw [qCP (fun s t x y b a1 a2 a3=>qES R n s t x y b a1 a2 a3) m1 m2 eb]
      rfl
     ·rename_i hl
      rw [if_neg hl];exact e
   ·rename_i l1 l2
    obtain ⟨_,vs,f1,q1,k1,m1⟩:=qBX R r1 l1;cases q1
    split at e<;>cases e
    rename_i z
    cases ei:t.its M with
    | none=>rw [ei] at z;cases z
    | some ys=>
     obtain ⟨_,us,q2,k2,m2⟩:=qFF r2 e2 l2 ei;cases q2
     unfold eqD
     rw [k1,k2]
   ·rename_i l1 l2
    obtain ⟨_,vs,f1,q1,k1,m1⟩:=qBX R r2 l2;cases q1
    split at e<;>cases e
    rename_i z
    cases ei:s.its M with
    | none=>rw [ei] at z;cases z
    | some ys=>
     obtain ⟨_,us,q2,k2,m2⟩:=qFF r1 e1 l1 ei;cases q2
     unfold eqD
     rw [k1,k2]
   ·rename_i l1 l2
    split at e
    ·rename_i xs ys i1 i2
     obtain ⟨_,vs,q1,k1,m1⟩:=qFF r1 e1 l1 i1;cases q1
     obtain ⟨_,us,q2,k2,m2⟩:=qFF r2 e2 l2 i2;cases q2
     unfold eqD
     rw [k1,k2]
     dsimp only
     by_cases hcd:c=d
     ·rw [if_pos hcd,same hcd]
     ·rw [if_neg hcd,<- qAB (reps_iff.mp m1),<- qAB (reps_iff.mp m2)]
      split at e
      ·rename_i hl
       rw [if_pos hl]
       obtain ⟨bs,eb,rfl⟩:=Option.map_eq_some_iff.mp e
       rw [qCP (fun s t x y b a1 a2 a3=>qES R n s t x y b a1 a2 a3) m1 m2 eb]
       rfl
      ·rename_i hl
       rw [if_neg hl]
       obtain ⟨bs,eb,rfl⟩:=Option.map_eq_some_iff.mp e
       rw [qCP (fun s t x y b a1 a2 a3=>qES R n s t x y b a1 a2 a3) (reps_iff.mpr (qBD _ (reps_iff.mp m1))) (reps_iff.mpr (qBD _ (reps_iff.mp m2))) eb]
       rfl
    ·cases e
theorem qDx:∀ {ts:List T} {vs xs:List V},qAH A X h ts vs -> qCi ts=some xs -> vs=xs/\xs.all flat=true
 | [],vs,xs,r,e=>by unfold qAH at r;subst r;cases e;exact ⟨rfl,rfl⟩
 | t::ts,vs,xs,r,e=>by
  unfold qAH at r
  obtain ⟨v,vs',rfl,a,b⟩:=r
  cases t with
  | v x=>
   unfold qCi at e
   obtain ⟨xs',e',rfl⟩:=Option.map_eq_some_iff.mp e
   obtain ⟨rfl,k⟩:=qDx b e'
   cases qA2 a
   exact ⟨rfl,by rw [List.all_cons,qBh a,k];rfl⟩
  | _=>cases e
theorem qIa (R:RelM gl A X h M) {s t:T} {x y:V} {b:Bool} (r1:Rep A X h s x) (r2:Rep A X h t y) (e:inT M s t=some b):qHn .inn x y h=some b/\qHn .notin x y h=some (!b):=by
 unfold inT at e
 obtain ⟨a,ea,e⟩:=Option.bind_eq_some_iff.mp e
 obtain ⟨ts,et,e⟩:=Option.bind_eq_some_iff.mp e
 obtain ⟨xs,ex,rfl⟩:=Option.map_eq_some_iff.mp e
 cases qAX ea;cases qA2 r1
 obtain ⟨p,vs,rfl,q1,q2⟩:=qFA R r2 et
 obtain ⟨rfl,k⟩:=qDx q2 ex
 have fx:=qBh r1
 constructor
 ·dsimp only [qHn,qJz];rw [q1];dsimp only;rw [if_pos (by rw [fx,k];rfl)]
 ·dsimp only [qHn,qJz];rw [q1];dsimp only;rw [if_pos (by rw [fx,k];rfl)]
theorem qE4 (R:RelM gl A X h M) {op:COp} {s t:T} {x y:V} {b:Bool} (r1:Rep A X h s x) (r2:Rep A X h t y) (e:qA0 M op s t=some b):qHn op x y h=some b:=by
 cases op with
 | eq=>exact qES R 4 s t x y b r1 r2 e
 | ne=>
  obtain ⟨c,ec,rfl⟩:=Option.map_eq_some_iff.mp (show (eqT M 4 s t).map (!·)=some b from e)
  show (eqD h 4 x y).map (!·)=_
  rw [qES R 4 s t x y c r1 r2 ec];rfl
 | inn=>exact (qIa R r1 r2 e).1
 | notin=>
  obtain ⟨c,ec,rfl⟩:=Option.map_eq_some_iff.mp (show (inT M s t).map (!·)=some b from e)
  exact (qIa R r1 r2 ec).2
 | is=>
  unfold qA0 at e;dsimp only at e
  split at e
  ·rename_i e2
   cases qAX e2;cases qA2 r2
   cases e
   show some (decide (x=V.non))=_
   cases hs:s.isV with
   | none=>obtain ⟨a,rfl⟩:=qB0 hs r1;rfl
   | some z=>cases qAX hs;cases qA2 r1;cases x<;>rfl
  ·rename_i e2
   cases qAX e2;cases qA2 r2
   split at e
   ·rename_i e3
    cases qAX e3;cases qA2 r1
    exact e
   ·cases e
  ·cases e
 | isnot=>
  unfold qA0 at e;dsimp only at e
  split at e
  ·rename_i e2
   cases qAX e2;cases qA2 r2
   cases e
   show some (!decide (x=V.non))=_
   cases hs:s.isV with
   | none=>obtain ⟨a,rfl⟩:=qB0 hs r1;rfl
   | some z=>cases qAX hs;cases qA2 r1;cases x<;>rfl
  ·rename_i e2
   cases qAX e2;cases qA2 r2
   split at e
   ·rename_i e3
    cases qAX e3;cases qA2 r1
    exact e
   ·cases e
  ·cases e
 | lt=>unfold qA0 at e;dsimp only at e;split at e<;>first | (rename_i e1 e2;cases qAX e1;cases qAX e2;cases qA2 r1;cases qA2 r2;exact e) | cases e
 | le=>unfold qA0 at e;dsimp only at e;split at e<;>first | (rename_i e1 e2;cases qAX e1;cases qAX e2;cases qA2 r1;cases qA2 r2;exact e) | cases e
 | gt=>unfold qA0 at e;dsimp only at e;split at e<;>first | (rename_i e1 e2;cases qAX e1;cases qAX e2;cases qA2 r1;cases qA2 r2;exact e) | cases e
 | ge=>unfold qA0 at e;dsimp only at e;split at e<;>first | (rename_i e1 e2;cases qAX e1;cases qAX e2;cases qA2 r1;cases qA2 r2;exact e) | cases e
theorem qCn:∀ {ts:List T} {vs:List V} {is:List Int},qAH A X h ts vs -> qAm ts=some is -> qBL vs=some is
 | [],vs,xs,r,e=>by unfold qAH at r;subst r;cases e;rfl
 | t::ts,vs,xs,r,e=>by
  unfold qAH at r
  obtain ⟨v,vs',rfl,a,b⟩:=r
  unfold qAm at e
  split at e
  ·rename_i e';cases e'
  ·rename_i e';cases e'
   obtain ⟨xs',e',rfl⟩:=Option.map_eq_some_iff.mp e
   cases qA2 a
   show (qBL vs').map _=_
   rw [qCn b e'];rfl
  ·cases e
theorem qFH:∀ {ts:List T} {vs:List V} {is:List Bool},qAH A X h ts vs -> qBK ts=some is -> qB7 vs=some is
 | [],vs,xs,r,e=>by unfold qAH at r;subst r;cases e;rfl
 | t::ts,vs,xs,r,e=>by
  unfold qAH at r
  obtain ⟨v,vs',rfl,a,b⟩:=r
  unfold qBK at e
  split at e
  ·rename_i e';cases e'
  ·rename_i e';cases e'
   obtain ⟨xs',e',rfl⟩:=Option.map_eq_some_iff.mp e
   cases qA2 a
   show (qB7 vs').map _=_
   rw [qFH b e'];rfl
  ·cases e
theorem qCf {t:T} {ws:List V} (r:qAH A X h [t] ws):∃ w,ws=[w]/\Rep A X h t w:=by
 unfold qAH at r;obtain ⟨v,vs,rfl,a,b⟩:=r;unfold qAH at b;subst b;exact ⟨v,rfl,a⟩
theorem qMY {s t:T} {ws:List V} (r:qAH A X h [s,t] ws):∃ w u,ws=[w,u]/\Rep A X h s w/\Rep A X h t u:=by
 unfold qAH at r;obtain ⟨v,vs,rfl,a,b⟩:=r;obtain ⟨u,rfl,c⟩:=qCf b;exact ⟨v,u,rfl,a,c⟩
theorem qAa {a:Nat} {f:Bool} {vs:List V} (e:h[a]?=some (.lst f vs)):qAL h a=some vs:=by unfold qAL;rw [e]
theorem qDv (R:RelM gl A X h M) {t:T} {w:V} {n:Nat} (r:Rep A X h t w):Sim gl A X h (QE gl A X n) (.ok ((t,t.lf),M)) (.ok (w,h)):=
 ⟨w,h,rfl,Frm.refl A h,R,r,fun e=>Frs.of_lf R r e⟩
theorem qDT {f:T -> Option PySem.PyData} {g:V -> Option PySem.PyData} (hf:∀ t w d,f t=some d -> Rep A X h t w -> g w=some d):∀ (ts:List T) (ws:List V) (ds:List PySem.PyData),qBP f ts=some ds -> qAH A X h ts ws -> qGD g ws=some ds
 | [],ws,ds,e,r=>by
  unfold qAH at r;subst r;exact e
 | t::ts,ws,ds,e,r=>by
  unfold qAH at r
  obtain ⟨w,ws',rfl,r1,r2⟩:=r
  unfold qBP at e
  obtain ⟨d,e1,e⟩:=Option.bind_eq_some_iff.mp e
  obtain ⟨ds',e2,rfl⟩:=Option.map_eq_some_iff.mp e
  unfold qGD
  rw [hf t w d e1 r1,Option.bind_some,qDT hf ts ws' ds' e2 r2];rfl
theorem qFD {h:AH} {n:Nat} {x:V} {d:PySem.PyData} (e:qKE x=some d):dat h n x=some d:=by
 cases n with
 | zero=>exact e
 | succ n=>cases x<;>first | exact e | cases e
theorem qEe (R:RelM gl A X h M):∀ (n:Nat) (t:T) (w:V) (d:PySem.PyData),qCN M n t=some d -> Rep A X h t w -> dat h n w=some d
 | 0,t,w,d,e,r=>by
  unfold qCN at e
  split at e
  ·cases qA2 r;exact qFD e
  ·cases e
 | n + 1,t,w,d,e,r=>by
  have ls:∀ (ts:List T),t.lis M=some ts -> (qBP (qCN M n) ts).map PySem.PyData.list=some d -> dat h (n + 1) w=some d:=fun ts hl e=>by
   obtain ⟨ds,e1,rfl⟩:=Option.map_eq_some_iff.mp e
   obtain ⟨a,vs,f,rfl,q1,q2⟩:=qBX R r hl
   show (match h[a]? with | some (.lst _ xs)=>(qGD (dat h n) xs).map PySem.PyData.list | some (.tup xs)=>(qGD (dat h n) xs).map PySem.PyData.tuple | some (.ob (.dct []))=>some (PySem.PyData.dict []) | _=>none)=_
   rw [q1]
   dsimp only
   rw [qDT (qEe R n) ts vs ds e1 q2];rfl
  unfold qCN at e
  split at e
  ·cases qA2 r;exact qFD e
  ·rename_i ts
   obtain ⟨ds,e1,rfl⟩:=Option.map_eq_some_iff.mp e
   unfold Rep at r
   obtain ⟨a,vs,rfl,q1,q2,q3⟩:=r
   show (match h[a]? with | some (.lst _ xs)=>(qGD (dat h n) xs).map PySem.PyData.list | some (.tup xs)=>(qGD (dat h n) xs).map PySem.PyData.tuple | some (.ob (.dct []))=>some (PySem.PyData.dict []) | _=>none)=_
   rw [q2]
   dsimp only
   rw [qDT (qEe R n) ts vs ds e1 q3];rfl
  ·exact ls _ rfl e
  ·exact ls _ rfl e
  ·obtain ⟨ts,e1,e2⟩:=Option.bind_eq_some_iff.mp e
   exact ls ts e1 e2
  ·cases e
   unfold Rep at r
   obtain ⟨a,rfl,_,q⟩:=r
   show (match h[a]? with | some (.lst _ xs)=>(qGD (dat h n) xs).map PySem.PyData.list | some (.tup xs)=>(qGD (dat h n) xs).map PySem.PyData.tuple | some (.ob (.dct []))=>some (PySem.PyData.dict []) | _=>none)=_
   rw [q]
  ·cases e
theorem qIA (R:RelM gl A X h M) (t:T) (w:V) (d:PySem.PyData) (e:qH2 M t=some d) (r:Rep A X h t w):qNH h w=some d:=qEe R 4 t w d e r
theorem qJg (R:RelM gl A X h M) {f:BF} {ts:List T} {ws:List V} {r:TB} (rs:qAH A X h ts ws) (e:qBk M f ts=some r):Sim gl A X h (QE gl A X h.length) (.ok (r,M)) (qKn f ws h):=by
 cases f with
 | len=>
  replace e:=qBZ e
  obtain ⟨t0,rfl,e⟩:=e
  obtain ⟨w,rfl,rw_⟩:=qCf rs
  obtain ⟨xs,ex,rfl⟩:=Option.map_eq_some_iff.mp e
  obtain ⟨a,vs,rfl,q1,q2⟩:=qFA R rw_ ex
  show Sim _ _ _ _ _ _ (match items h a with | some xs=>_ | none=>_)
  rw [q1,qAB (reps_iff.mp q2)]
  exact qAG R rfl
 | all=>
  replace e:=qBZ e
  obtain ⟨t0,rfl,e⟩:=e
  obtain ⟨w,rfl,rw_⟩:=qCf rs
  obtain ⟨xs,ex,e⟩:=Option.bind_eq_some_iff.mp e
  obtain ⟨is,ei,rfl⟩:=Option.map_eq_some_iff.mp e
  obtain ⟨a,vs,f,rfl,q1,q2⟩:=qBX R rw_ ex
  show Sim _ _ _ _ _ _ (match qAL h a with | some xs=>_ | none=>_)
  rw [qAa q1]
  dsimp only
  rw [qFH q2 ei]
  exact qAG R rfl
 | max=>
  replace e:=twoT_inv e
  obtain ⟨i,j,rfl,e⟩:=e
  obtain ⟨w,u,rfl,a,b⟩:=qMY rs;cases qA2 a;cases qA2 b;cases e;exact qAG R rfl
 | min=>
  replace e:=twoT_inv e
  obtain ⟨i,j,rfl,e⟩:=e
  obtain ⟨w,u,rfl,a,b⟩:=qMY rs;cases qA2 a;cases qA2 b;cases e;exact qAG R rfl
 | bits=>
  replace e:=qBZ e
  obtain ⟨t0,rfl,e⟩:=e
  split at e
  ·obtain ⟨w,rfl,a⟩:=qCf rs;cases qA2 a;cases e;exact qAG R rfl
  ·cases e
 | list=>
  replace e:=qBZ e
  obtain ⟨t0,rfl,e⟩:=e
  obtain ⟨w,rfl,rw_⟩:=qCf rs
  obtain ⟨xs,ex,rfl⟩:=Option.map_eq_some_iff.mp e
  obtain ⟨a,vs,rfl,q1,q2⟩:=qFA R rw_ ex
  show Sim _ _ _ _ _ _ (match items h a with | some xs=>_ | none=>_)
  rw [q1]
  exact qGA R q2
 | tuple=>
  replace e:=qBZ e
  obtain ⟨t0,rfl,e⟩:=e
  obtain ⟨w,rfl,rw_⟩:=qCf rs
  split at e
  ·cases e
   unfold Rep at rw_
   obtain ⟨a,vs,rfl,q1,q2,q3⟩:=rw_
   show Sim _ _ _ _ _ _ (match h[a]? with | some (.lst _ xs)=>_ | some (.tup _)=>_ | _=>_)
   rw [q2]
   exact qDv R (by unfold Rep;exact ⟨a,vs,rfl,q1,q2,q3⟩)
  ·obtain ⟨xs,ex,rfl⟩:=Option.map_eq_some_iff.mp e
   obtain ⟨a,vs,f,rfl,q1,q2⟩:=qBX R rw_ ex
   show Sim _ _ _ _ _ _ (match h[a]? with | some (.lst _ xs)=>_ | some (.tup _)=>_ | _=>_)
   rw [q1]
   exact qDy R q2 fun e=>Frss.of_lf R q2 e
 | repr=>
  replace e:=qBZ e
  obtain ⟨t0,rfl,e⟩:=e
  obtain ⟨w,rfl,rw_⟩:=qCf rs
  obtain ⟨v,e0,rfl⟩:=Option.map_eq_some_iff.mp e
  obtain ⟨d,e1,e2⟩:=Option.bind_eq_some_iff.mp e0
  have e3:=qIA R t0 w d e1 rw_
  show Sim _ _ _ _ _ _ (qLM h w)
  unfold qLM
  rw [e3,Option.bind_some,e2]
  unfold qGH at e2
  split at e2
  ·cases e2;exact qAG R rfl
  ·cases e2
theorem qIV (R:RelM gl A X h M) {t:T} {w:V} {s:String} (r:Rep A X h t w) (e:qAh M t=some s):qBO h w=some s:=by
 cases t with
 | v x=>cases qA2 r;cases w<;>first | exact e | (cases e;done)
 | cell n=>unfold Rep at r;obtain ⟨a,ea,rfl⟩:=r;obtain ⟨ts,vs,e1,e2,_⟩:=R.at_ n a ea;unfold qAh at e;dsimp only at e;rw [e1] at e;cases e;unfold qBO;dsimp only;rw [e2]
 | fz xs=>unfold Rep at r;obtain ⟨a,vs,rfl,_,q,_⟩:=r;cases e;unfold qBO;dsimp only;rw [q]
 | lst xs=>unfold Rep at r;obtain ⟨a,vs,rfl,_,q,_⟩:=r;cases e;unfold qBO;dsimp only;rw [q]
 | tup xs=>unfold Rep at r;obtain ⟨a,vs,rfl,_,q,_⟩:=r;cases e;unfold qBO;dsimp only;rw [q]
 | ob o=>cases o with
  | dct=>unfold Rep at r;obtain ⟨a,rfl,_,q⟩:=r;cases e;unfold qBO;dsimp only;rw [q]
  | exn c=>cases e
theorem qD9 {ts:List T} {vs:List V} {lo hi:Option Int} (r:qAH A X h ts vs):qAH A X h (qFC ts lo hi) (L2.cutV vs lo hi):=by
 have l:=qAB (reps_iff.mp r)
 unfold qFC L2.cutV
 rw [l]
 exact reps_iff.mpr (qBD _ (qCk _ (reps_iff.mp r)))
end
end PI
namespace PI
open L2 (V)
noncomputable def qJD (A X:List Nat) (h:AH):Option T -> Option V -> Prop
 | none,_=>True
 | some t,some w=>Rep A X h t w
 | some _,none=>False
noncomputable abbrev qBf (A X:List Nat) (h:AH):TS -> List (Option V) -> Prop:=qBC (qJD A X h)
section
variable {gl:List T} {A X:List Nat} {h h':AH} {M M':Mem} {σ:TS} {σh:List (Option V)}
theorem qDV {i:Nat} {t:T} (r:qBf A X h σ σh) (e:σ[i]?=some (some t)):∃ w,σh[i]?=some (some w)/\Rep A X h t w:=by
 obtain ⟨o,e1,q⟩:=qAl r e
 cases o with
 | none=>exact q.elim
 | some w=>exact ⟨w,e1,q⟩
theorem qAx {A' X':List Nat} (hc:∀ (n:Nat) a,A[n]?=some a -> A'[n]?=some a) (hn:∀ a o,a∉X -> h[a]?=some o -> a∉X'/\h'[a]?=some o) (r:qBf A X h σ σh):qBf A' X' h' σ σh:=
 qBw (fun x y q=>by
  cases x with
  | none=>trivial
  | some t=>cases y with
   | none=>exact q.elim
   | some w=>exact qAn hc hn t q) r
theorem RelM.keepS (R:RelM gl A X h M) (f:Frm A h h') (r:qBf A X h σ σh):qBf A X h' σ σh:=qAx (fun _ _ e=>e) (R.keepN f) r
theorem qCD (r:qBf A X h σ σh):∀ src:List (Option Nat),qBf A X h (qCH src σ) (L2.inner src σh)
 | []=>rfl
 | none::src=>⟨none,_,rfl,trivial,qCD r src⟩
 | some j::src=>by
  refine ⟨(σh[j]?).join,_,rfl,?_,qCD r src⟩
  show qJD A X h (σ[j]?).join _
  cases hj:σ[j]? with
  | none=>trivial
  | some o=>cases o with
   | none=>trivial
   | some t=>
    obtain ⟨w,e1,q⟩:=qDV r hj
    rw [e1]
    exact q
theorem qGl:∀ {is:List Nat} {ts:List T} {ws:List V} {σ σ1:TS} {σh:List (Option V)},qMK is ts σ=some σ1 -> qAH A X h ts ws -> qBf A X h σ σh -> ∃ σh1,qDK is ws σh=some σh1/\qBf A X h σ1 σh1
 | [],[],ws,σ,σ1,σh,e,r,rs=>by unfold qAH at r;subst r;cases e;exact ⟨σh,rfl,rs⟩
 | [],t::ts,ws,σ,σ1,σh,e,r,rs=>by cases e
 | i::is,[],ws,σ,σ1,σh,e,r,rs=>by cases e
 | i::is,t::ts,ws,σ,σ1,σh,e,r,rs=>by
  unfold qAH at r
  obtain ⟨w,ws',rfl,a,b⟩:=r
  exact qGl (is:=is) (show qMK is ts (σ.set i (some t))=some σ1 from e) b (qAw i rs (show qJD A X h (some t) (some w) from a))
theorem store_ok {g:Tg} {t:T} {w:V} {σ1:TS} (e:qBE g t σ=some σ1) (r:Rep A X h t w) (rs:qBf A X h σ σh):∃ σh1,store g w σh h=some σh1/\qBf A X h σ1 σh1:=by
 cases g with
 | name i=>cases e;exact ⟨σh.set i (some w),rfl,qAw i rs (show qJD A X h (some t) (some w) from r)⟩
 | tup is=>
  cases t with
  | tup ts=>
   unfold Rep at r
   obtain ⟨a,vs,rfl,_,q,k⟩:=r
   obtain ⟨σh1,e1,r1⟩:=qGl (show qMK is ts σ=some σ1 from e) k rs
   refine ⟨σh1,?_,r1⟩
   show (match qAS h a with | some xs=>_ | none=>_)=_
   rw [show qAS h a=some vs by unfold qAS;rw [q]]
   exact e1
  | _=>cases e
theorem qCo:∀ (i:Nat) (ts:List T),(qEL i ts).length=ts.length
 | _,[]=>rfl
 | i,t::ts=>by rw [qEL,List.length_cons,List.length_cons,qCo]
theorem qEG:∀ (i j:Nat) (ts:List T),(qEL i ts)[j]?=(ts[j]?).map fun t=>T.tup [.v (.int ((i + j:Nat):Int)),t]
 | _,_,[]=>by simp [qEL]
 | i,0,t::ts=>by simp [qEL]
 | i,j + 1,t::ts=>by
  rw [qEL,List.getElem?_cons_succ,List.getElem?_cons_succ,qEG (i + 1) j ts]
  rw [show i + 1 + j=i + (j + 1) by omega]
inductive qB5 (A X:List Nat) (h:AH):Src -> List T -> qCM -> Prop
 | list (a f vs ts):a∉X -> h[a]?=some (.lst f vs) -> qAH A X h ts vs -> qB5 A X h (.list a) ts []
 | cell (n a vs ts):A[n]?=some a -> h[a]?=some (.lst false vs) -> qAH A X h ts vs -> qB5 A X h (.list a) ts [(n,ts)]
 | tupl (a vs ts):a∉X -> h[a]?=some (.tup vs) -> qAH A X h ts vs -> qB5 A X h (.tupl a) ts []
 | rng (lo n):qB5 A X h (.rng lo n) (qAf lo n) []
 | rngd (lo n):qB5 A X h (.rngd lo n) (qDE lo n) []
 | enum (a ts d):qB5 A X h (.list a) ts d -> qB5 A X h (.enum a) (qEL 0 ts) d
 | rvd (a ts d):qB5 A X h (.list a) ts d -> qB5 A X h (.rvd a ts.length) ts.reverse d
 | zip (a b ts us d1 d2):qB5 A X h (.list a) ts d1 -> qB5 A X h (.list b) us d2 -> qB5 A X h (.zip a b) (List.zipWith (fun x y=>T.tup [x,y]) ts us) (d1++d2)
theorem qBa {d1 d2:qCM} (e:qAc (d1++d2) M=true):qAc d1 M=true/\qAc d2 M=true:=by
 unfold qAc at e ⊢
 rw [List.all_append,Bool.and_eq_true] at e
 exact e
theorem qEJ {s:Src} {ts:List T} {d:qCM} (r:qB5 A X h s ts d) (hn:∀ a o,a∉X -> h[a]?=some o -> h'[a]?=some o) (R:RelM gl A X h' M') (hd:qAc d M'=true):qB5 A X h' s ts d:=by
 induction r with
 | list a f vs ts q1 q2 q3=>exact .list a f vs ts q1 (hn _ _ q1 q2) (qAK (fun _ _ e=>e) (fun a o x y=>⟨x,hn a o x y⟩) ts q3)
 | cell n a vs ts q1 q2 q3=>
  obtain ⟨ts',vs',e1,e2,e3⟩:=R.at_ n a q1
  unfold qAc at hd
  simp only [List.all_cons,List.all_nil,Bool.and_true] at hd
  rw [e1] at hd
  have:=qB8 _ _ hd
  subst this
  exact .cell n a vs' ts' q1 e2 e3
 | tupl a vs ts q1 q2 q3=>exact .tupl a vs ts q1 (hn _ _ q1 q2) (qAK (fun _ _ e=>e) (fun a o x y=>⟨x,hn a o x y⟩) ts q3)
 | rng lo n=>exact .rng lo n
 | rngd lo n=>exact .rngd lo n
 | enum a ts d _ i1=>exact .enum a ts d (i1 hd)
 | rvd a ts d _ i1=>exact .rvd a ts d (i1 hd)
 | zip a b ts us d1 d2 _ _ i1 i2=>exact .zip a b ts us d1 d2 (i1 (qBa hd).1) (i2 (qBa hd).2)
theorem qDJ {A' X':List Nat} {s:Src} {ts:List T} {d:qCM} (r:qB5 A X h s ts d) (hn:∀ a o,a∉X -> h[a]?=some o -> a∉X'/\h'[a]?=some o) (R:RelM gl A' X' h' M') (hd:qAc d M'=true) (hA:∀ (n:Nat) a,A[n]?=some a -> A'[n]?=some a:=by exact fun _ _ e=>e):qB5 A' X' h' s ts d:=by
 induction r with
 | list a f vs ts q1 q2 q3=>exact .list a f vs ts (hn _ _ q1 q2).1 (hn _ _ q1 q2).2 (qAK hA hn ts q3)
 | cell n a vs ts q1 q2 q3=>
  obtain ⟨ts',vs',e1,e2,e3⟩:=R.at_ n a (hA _ _ q1)
  unfold qAc at hd
  simp only [List.all_cons,List.all_nil,Bool.and_true] at hd
  rw [e1] at hd
  have:=qB8 _ _ hd
  subst this
  exact .cell n a vs' ts' (hA _ _ q1) e2 e3
 | tupl a vs ts q1 q2 q3=>exact .tupl a vs ts (hn _ _ q1 q2).1 (hn _ _ q1 q2).2 (qAK hA hn ts q3)
 | rng lo n=>exact .rng lo n
 | rngd lo n=>exact .rngd lo n
 | enum a ts d _ i1=>exact .enum a ts d (i1 hd)
 | rvd a ts d _ i1=>exact .rvd a ts d (i1 hd)
 | zip a b ts us d1 d2 _ _ i1 i2=>exact .zip a b ts us d1 d2 (i1 (qBa hd).1) (i2 (qBa hd).2)
theorem qAk {a:Nat} {ts:List T} {d:qCM} (r:qB5 A X h (.list a) ts d):∃ vs,qAL h a=some vs/\qAH A X h ts vs:=by
 cases r with
 | list _ f vs _ q1 q2 q3=>exact ⟨vs,qAa q2,q3⟩
 | cell n _ vs _ q1 q2 q3=>exact ⟨vs,qAa q2,q3⟩
theorem qDk {s:Src} {ts:List T} {d:qCM} (r:qB5 A X h s ts d):qFr h s=some ts.length:=by
 cases r with
 | list a f vs ts q1 q2 q3=>show (qAL h a).map _=_;rw [qAa q2,Option.map_some,qAB (reps_iff.mp q3)]
 | cell n a vs ts q1 q2 q3=>show (qAL h a).map _=_;rw [qAa q2,Option.map_some,qAB (reps_iff.mp q3)]
 | tupl a vs ts q1 q2 q3=>show (qAS h a).map _=_;rw [show qAS h a=some vs by unfold qAS;rw [q2],Option.map_some,qAB (reps_iff.mp q3)]
 | rng lo n=>show some n=_;simp [qAf]
 | rngd lo n=>show some n=_;simp [qDE]
 | enum a ts d r1=>
  obtain ⟨vs,e1,k1⟩:=qAk r1
  show (qAL h a).map _=_
  rw [e1,Option.map_some,qCo,qAB (reps_iff.mp k1)]
 | rvd a ts d r1=>show some _=_;simp
 | zip a b ts us d1 d2 r1 r2=>
  obtain ⟨vs,e1,k1⟩:=qAk r1
  obtain ⟨ws,e2,k2⟩:=qAk r2
  show (match qAL h a,qAL h b with | some xs,some ys=>_ | _,_=>_)=_
  rw [e1,e2,List.length_zipWith,qAB (reps_iff.mp k1),qAB (reps_iff.mp k2)]
theorem qCa {s:Src} {ts:List T} {d:qCM} (r:qB5 A X h s ts d):qBV h ts.length s=true:=by
 cases r with
 | list a f vs ts q1 q2 q3=>show (match qAL h a with | some xs=>_ | none=>_)=_;rw [qAa q2,qAB (reps_iff.mp q3)];simp
 | cell n a vs ts q1 q2 q3=>show (match qAL h a with | some xs=>_ | none=>_)=_;rw [qAa q2,qAB (reps_iff.mp q3)];simp
 | tupl a vs ts q1 q2 q3=>show (match qAS h a with | some xs=>_ | none=>_)=_;rw [show qAS h a=some vs by unfold qAS;rw [q2],qAB (reps_iff.mp q3)];simp
 | rng lo n=>show decide _=_;simp [qAf]
 | rngd lo n=>show decide _=_;simp [qDE]
 | enum a ts d r1=>
  obtain ⟨vs,e1,k1⟩:=qAk r1
  show (match qAL h a with | some xs=>_ | none=>_)=_
  rw [e1,qCo,qAB (reps_iff.mp k1)];simp
 | rvd a ts d r1=>show decide _=_;simp
 | zip a b ts us d1 d2 r1 r2=>
  obtain ⟨vs,e1,k1⟩:=qAk r1
  obtain ⟨ws,e2,k2⟩:=qAk r2
  show (match qAL h a,qAL h b with | some xs,some ys=>_ | _,_=>_)=_
  rw [e1,e2,List.length_zipWith,qAB (reps_iff.mp k1),qAB (reps_iff.mp k2)]
  simp
  omega
theorem qCG (R:RelM gl A X h M) {s:Src} {ts:List T} {d:qCM} (r:qB5 A X h s ts d) {i:Nat} {t:T} (ei:ts[i]?=some t):
  ∃ w e,qAZ h i s=some (w,h++e)/\Rep A X (h++e) t w:=by
 cases r with
 | list a f vs ts q1 q2 q3=>
  obtain ⟨w,ew,q⟩:=qAl (reps_iff.mp q3) ei
  refine ⟨w,[],?_,by rw [List.append_nil];exact q⟩
  show (match qAL h a with | some xs=>_ | none=>_)=_
  rw [qAa q2];dsimp only;rw [ew,List.append_nil];rfl
 | cell n a vs ts q1 q2 q3=>
  obtain ⟨w,ew,q⟩:=qAl (reps_iff.mp q3) ei
  refine ⟨w,[],?_,by rw [List.append_nil];exact q⟩
  show (match qAL h a with | some xs=>_ | none=>_)=_
  rw [qAa q2];dsimp only;rw [ew,List.append_nil];rfl
 | tupl a vs ts q1 q2 q3=>
  obtain ⟨w,ew,q⟩:=qAl (reps_iff.mp q3) ei
  refine ⟨w,[],?_,by rw [List.append_nil];exact q⟩
  show (match qAS h a with | some xs=>_ | none=>_)=_
  rw [show qAS h a=some vs by unfold qAS;rw [q2]];dsimp only;rw [ew,List.append_nil];rfl
 | rng lo n=>
  have hi:i < n:=by have:=(List.getElem?_eq_some_iff.mp ei).1;simpa [qAf] using this
  refine ⟨.int (lo + (i:Int)),[],?_,?_⟩
  ·show (if i < n then _ else _)=_
   rw [if_pos hi,List.append_nil]
  ·have:t=.v (.int (lo + (i:Int))):=by
    simp only [qAf,List.getElem?_map,List.getElem?_range hi,Option.map_some,Option.some.injEq] at ei
    exact ei.symm
   rw [this]
   unfold Rep
   exact ⟨rfl,rfl⟩
 | rngd lo n=>
  have hi:i < n:=by have:=(List.getElem?_eq_some_iff.mp ei).1;simpa [qDE] using this
  refine ⟨.int (lo - (i:Int)),[],?_,?_⟩
  ·show (if i < n then _ else _)=_
   rw [if_pos hi,List.append_nil]
  ·have:t=.v (.int (lo - (i:Int))):=by
    simp only [qDE,List.getElem?_map,List.getElem?_range hi,Option.map_some,Option.some.injEq] at ei
    exact ei.symm
   rw [this]
   unfold Rep
   exact ⟨rfl,rfl⟩
 | enum a ts d r1=>
  obtain ⟨vs,e1,k1⟩:=qAk r1
  rw [qEG] at ei
  obtain ⟨x,ex,rfl⟩:=Option.map_eq_some_iff.mp ei
  obtain ⟨v,ev,qv⟩:=qAl (reps_iff.mp k1) ex
  refine ⟨.ref h.length,[.tup [.int (i:Int),v]],?_,?_⟩
  ·show (match qAL h a with | some xs=>_ | none=>_)=_
   rw [e1];dsimp only;rw [ev];rfl
  ·have f:=Frm.app A h [O.tup [.int (i:Int),v]]
   unfold Rep
   refine ⟨_,[.int (i:Int),v],rfl,fun z=>Nat.lt_irrefl _ (R.lt _ z),by simp,?_⟩
   unfold qAH
   refine ⟨.int (i:Int),[v],rfl,by unfold Rep;rw [Nat.zero_add];exact ⟨rfl,rfl⟩,?_⟩
   unfold qAH
   exact ⟨v,[],rfl,R.keep f qv,by unfold qAH;rfl⟩
 | rvd a ts d r1=>
  obtain ⟨vs,e1,k1⟩:=qAk r1
  have hi:i < ts.length:=by have:=(List.getElem?_eq_some_iff.mp ei).1;simpa using this
  rw [List.getElem?_reverse hi] at ei
  obtain ⟨w,ew,q⟩:=qAl (reps_iff.mp k1) ei
  refine ⟨w,[],?_,by rw [List.append_nil];exact q⟩
  show (if i < ts.length then _ else _)=_
  rw [if_pos hi,e1];dsimp only;rw [ew,List.append_nil];rfl
 | zip a b ts us d1 d2 r1 r2=>
  obtain ⟨vs,e1,k1⟩:=qAk r1
  obtain ⟨ws,e2,k2⟩:=qAk r2
  rw [List.getElem?_zipWith] at ei
  cases et:ts[i]? with
  | none=>rw [et] at ei;cases ei
  | some x=>
   cases eu:us[i]? with
   | none=>rw [et,eu] at ei;cases ei
   | some y=>
    rw [et,eu] at ei
    cases ei
    obtain ⟨v,ev,qv⟩:=qAl (reps_iff.mp k1) et
    obtain ⟨w,ew,qw⟩:=qAl (reps_iff.mp k2) eu
    refine ⟨.ref h.length,[.tup [v,w]],?_,?_⟩
    ·show (match qAL h a,qAL h b with | some xs,some ys=>_ | _,_=>_)=_
     rw [e1,e2];dsimp only;rw [ev,ew]
    ·have f:=Frm.app A h [O.tup [v,w]]
     unfold Rep
     refine ⟨_,[v,w],rfl,fun z=>Nat.lt_irrefl _ (R.lt _ z),by simp,?_⟩
     unfold qAH
     refine ⟨v,[w],rfl,R.keep f qv,?_⟩
     unfold qAH
     exact ⟨w,[],rfl,R.keep f qw,by unfold qAH;rfl⟩
theorem RelM.setX (R:RelM gl A X h M) {D:Nat} (hD:D∈X) (hA:D∉A) (o:O):RelM gl A X (h.set D o) M:=by
 have hn:∀ a o',a∉X -> h[a]?=some o' -> a∉X/\(h.set D o)[a]?=some o':=fun a o' x y=>⟨x,by rw [List.getElem?_set_ne (by rintro rfl;exact x hD)];exact y⟩
 refine ⟨R.len,R.nd,R.sub,fun a ha=>by simpa using R.lt a ha,fun n a e=>?_,fun g t e=>qAn (fun _ _ e=>e) hn t (R.glo g t e)⟩
 obtain ⟨ts,vs,e1,e2,e3⟩:=R.at_ n a e
 exact ⟨ts,vs,e1,by rw [List.getElem?_set_ne (by rintro rfl;exact hA (List.mem_of_getElem? e))];exact e2,qAK (fun _ _ e=>e) hn ts e3⟩
theorem Sim.bindW {α β α2 β2:Type} {X':List Nat} {h1:AH} {Q:α -> β -> AH -> Mem -> Prop} {Q2:α2 -> β2 -> AH -> Mem -> Prop} {r:PR (α×Mem)} {rh:Res (β×AH)} {f:α×Mem -> PR (α2×Mem)} {g:β×AH -> Res (β2×AH)}
  (hX:∀ a∈X,a∈X') (hA:∀ a∈A,a∈X) (f0:Frm A h1 h)
  (s:Sim gl A X' h Q r rh) (k:∀ x M' y h',Frm A h h' -> RelM gl A X' h' M' -> Q x y h' M' -> Sim gl A X h1 Q2 (f (x,M')) (g (y,h'))):Sim gl A X h1 Q2 (r.bind f) (rh.bind g):=by
 cases r with
 | ok p=>
  obtain ⟨x,M'⟩:=p
  obtain ⟨y,h',rfl,f1,R1,q⟩:=s
  exact k x M' y h' f1 R1 q
 | exc c M'=>
  obtain ⟨h',rfl,f1,R1⟩:=s
  exact ⟨h',rfl,f0.trans f1,R1.weak hX hA⟩
 | stuck=>trivial
mutual
theorem qK8 {X X':List Nat} {h:AH}:∀ (t:T) {w:V} {f g:List Nat},FP X h t w f -> FP X' h t w g -> f=g
 | .v x,w,f,g,p,q=>by unfold FP at p q;rw [p.2,q.2]
 | .cell n,w,f,g,p,q=>by unfold FP at p;exact p.elim
 | .fz ts,w,f,g,p,q=>by unfold FP at p;exact p.elim
 | .ob o,w,f,g,p,q=>by unfold FP at p q;rw [p.2,q.2]
 | .lst ts,w,f,g,p,q=>by
  unfold FP at p q
  obtain ⟨a,vs,f',rfl,_,e1,k1,rfl⟩:=p
  obtain ⟨b,us,g',e,_,e2,k2,rfl⟩:=q
  cases e;rw [e1] at e2;cases e2
  rw [qDs ts k1 k2]
 | .tup ts,w,f,g,p,q=>by
  unfold FP at p q
  obtain ⟨a,vs,rfl,_,e1,k1⟩:=p
  obtain ⟨b,us,e,_,e2,k2⟩:=q
  cases e;rw [e1] at e2;cases e2
  exact qDs ts k1 k2
theorem qDs {X X':List Nat} {h:AH}:∀ (ts:List T) {ws:List V} {f g:List Nat},FPs X h ts ws f -> FPs X' h ts ws g -> f=g
 | [],w,f,g,p,q=>by unfold FPs at p q;rw [p.2,q.2]
 | t::ts,w,f,g,p,q=>by
  unfold FPs at p q
  obtain ⟨v,vs,f1,f2,rfl,a,b,rfl⟩:=p
  obtain ⟨v',vs',g1,g2,e,a',b',rfl⟩:=q
  cases e
  rw [qK8 t a a',qDs ts b b']
end
theorem qFM:∀ {ts:List T} {ws:List V} {fp f:List Nat} {t:T} {w:V},FPs X h ts ws fp -> FP X h t w f -> FPs X h (ts++[t]) (ws++[w]) (fp++f)
 | [],ws,fp,f,t,w,p,q=>by
  unfold FPs at p;obtain ⟨rfl,rfl⟩:=p
  show FPs X h [t] [w] f
  unfold FPs
  exact ⟨w,[],f,[],rfl,q,by unfold FPs;exact ⟨rfl,rfl⟩,by simp⟩
 | s::ts,ws,fp,f,t,w,p,q=>by
  unfold FPs at p
  obtain ⟨v,vs,f1,f2,rfl,a,b,rfl⟩:=p
  show FPs X h (s::(ts++[t])) (v::(vs++[w])) _
  unfold FPs
  exact ⟨v,vs++[w],f1,f2++f,rfl,a,qFM b q,by rw [List.append_assoc]⟩
end
section
variable {gl:List T} {A X:List Nat}
theorem qDR {s:Src} {its:List T} {d:qCM} {g:Tg} {c:TS -> Mem -> PR (Bool×Mem)} {c':List (Option V) -> AH -> Res (Bool×AH)} {e:TS -> Mem -> PR (TB×Mem)} {e':List (Option V) -> AH -> RV} {D:Nat} {h1:AH}
  (hc:∀ X h M σ σh,RelM gl A X h M -> qBf A X h σ σh -> Sim gl A X h (fun b b' _ _=>b=b') (c σ M) (c' σh h))
  (he:∀ X h M σ σh,RelM gl A X h M -> qBf A X h σ σh -> Sim gl A X h (QE gl A X h.length) (e σ M) (e' σh h))
  (hD:h1.length<=D) (hDX:D∉X) (hA:∀ a∈A,a∈X):∀ (r:List T) (i:Nat) (ys:List T) (ws:List V) (f:Bool) (fp:List Nat) (Y:List Nat) (σ:TS) (σh:List (Option V)) (M:Mem) (h:AH),
   its.drop i=r -> i<=its.length -> Y=D::X++fp -> Frm A h1 h -> RelM gl A Y h M -> qB5 A Y h s its d -> h[D]?=some (.lst false ws) -> qAH A (D::X) h ys ws ->
   (f=true -> FPs (D::X) h ys ws fp/\fp.Nodup/\∀ a∈fp,h1.length<=a) -> qBf A Y h σ σh ->
   Sim gl A X h1 (QE gl A X h1.length) (qA4 d g c e r ys f σ M) (qCt s g c' e' D r.length i ws σh h)
 | [],i,ys,ws,f,fp,Y,σ,σh,M,h,hr,hi,hY,fm,R,sr,eD,ry,hf,rs=>by
  have hi':i=its.length:=by
   have:=List.drop_eq_nil_iff.mp hr;omega
  subst hi'
  have hX:∀ a∈X,a∈D::X:=fun a z=>List.mem_cons_of_mem _ z
  have hXY:∀ a∈X,a∈Y:=fun a z=>by rw [hY];simp [z]
  have hn:∀ a o,a∉D::X -> h[a]?=some o -> a∉X/\h[a]?=some o:=fun a o x y=>⟨fun z=>x (hX _ z),y⟩
  refine ⟨.ref D,h,?_,fm,R.weak hXY hA,?_,fun e=>?_⟩
  ·show (if qBV h its.length s then _ else _)=_
   rw [if_pos (qCa sr)]
  ·show Rep A X h (.lst ys) _
   unfold Rep
   exact ⟨D,ws,rfl,hDX,eD,qAK (fun _ _ e=>e) hn ys ry⟩
  ·obtain ⟨p,nd,l⟩:=hf e
   refine ⟨fp++[D],?_,?_,?_,?_⟩
   ·show FP X h (.lst ys) _ _
    unfold FP
    exact ⟨D,ws,fp,rfl,hDX,eD,qBI hn ys p,rfl⟩
   ·rw [List.nodup_append]
    refine ⟨nd,by simp,?_⟩
    rintro a ha b hb rfl
    simp at hb
    exact (qCC ys p a ha).1 (by rw [hb];exact List.mem_cons_self ..)
   ·intro a ha
    rcases List.mem_append.mp ha with z | z
    ·exact l a z
    ·simp at z;omega
   ·refine R.weak (fun a z=>?_) fun a z=>List.mem_append_left _ (hA a z)
    rw [hY]
    simp only [List.mem_append,List.mem_cons,List.mem_singleton] at z ⊢
    grind
 | x::r,i,ys,ws,f,fp,Y,σ,σh,M,h,hr,hi,hY,fm,R,sr,eD,ry,hf,rs=>by
  have hXY:∀ a∈X,a∈Y:=fun a z=>by rw [hY];simp [z]
  have hDY:D∈Y:=by rw [hY];simp
  have hDXY:∀ a∈D::X,a∈Y:=fun a z=>by rw [hY];exact List.mem_append_left _ z
  have hDA:D∉A:=fun z=>hDX (hA D z)
  have ex:its[i]?=some x:=by
   have:(its.drop i)[0]?=some x:=by rw [hr];rfl
   rwa [List.getElem?_drop,Nat.add_zero] at this
  have hi2:i + 1<=its.length:=(List.getElem?_eq_some_iff.mp ex).1
  have hr2:its.drop (i + 1)=r:=by
   rw [<- List.drop_drop,hr];rfl
  obtain ⟨w,ext,ey,rx⟩:=qCG R sr ex
  have fy:Frm A h (h++ext):=Frm.app A h ext
  rw [List.length_cons]
  unfold qA4 qCt
  rw [ey]
  dsimp only
  cases es:qBE g x σ with
  | none=>exact Sim.stuck
  | some σ1=>
   obtain ⟨σh1,esh,rs1⟩:=store_ok es rx (R.keepS fy rs)
   rw [esh]
   dsimp only
   refine Sim.bindW hXY hA (fm.trans fy) (hc _ _ _ _ _ (R.up ext) rs1) ?_
   rintro b M2 b' h2 f2 R2 rfl
   have k2:Frm A h h2:=fy.trans f2
   have eD2:h2[D]?=some (.lst false ws):=(k2.2 D (qAF eD) hDA).trans eD
   have kN:∀ {h':AH},Frm A h h' -> ∀ a o,a∉D::X -> h[a]?=some o -> a∉D::X/\h'[a]?=some o:=fun f' a o x y=>⟨x,(f'.2 a (qAF y) fun z=>x (List.mem_cons_of_mem _ (hA _ z))).trans y⟩
   cases b with
   | true=>
    simp only [if_true]
    refine Sim.bindW hXY hA (fm.trans k2) (he _ _ _ _ _ R2 ((R.up ext).keepS f2 rs1)) ?_
    intro y M3 w3 h3 f3 R3 q3
    have k3:Frm A h h3:=k2.trans f3
    have eD3:h3[D]?=some (.lst false ws):=(k3.2 D (qAF eD) hDA).trans eD
    have lw:ys.length=ws.length:=qAB (reps_iff.mp ry)
    dsimp only
    by_cases hl:ys.length < lim/\qAc d M3=true
    ·rw [if_pos hl,if_pos ⟨eD3,by rw [<- lw];exact hl.1⟩]
     have hs:∀ (Z:List Nat),D∈Z -> ∀ a o,a∉Z -> h3[a]?=some o -> a∉Z/\(h3.set D (.lst false (ws++[w3])))[a]?=some o:=fun Z hZ a o x y=>⟨x,by rw [List.getElem?_set_ne (by rintro rfl;exact x hZ)];exact y⟩
     have hnD:∀ a o,a∉D::X -> h[a]?=some o -> a∉D::X/\(h3.set D (.lst false (ws++[w3])))[a]?=some o:=fun a o x y=>hs _ (List.mem_cons_self ..) a o x (kN k3 a o x y).2
     have ry4:qAH A (D::X) (h3.set D (.lst false (ws++[w3]))) (ys++[y.1]) (ws++[w3]):=
      reps_iff.mpr (qAo (reps_iff.mp (qAK (fun _ _ e=>e) hnD ys ry)) ⟨w3,[],rfl,qAn (fun _ _ e=>e) (fun a o x y=>hs _ (List.mem_cons_self ..) a o x y) _ (qAn (fun _ _ e=>e) (fun a o x y=>⟨fun z=>x (hDXY _ z),y⟩) _ q3.1),rfl⟩)
     obtain ⟨fp2,hp2,R3',hlt2⟩:∃ fp2:List Nat,(y.2=true -> FP Y h3 y.1 w3 fp2/\fp2.Nodup)/\RelM gl A (Y++fp2) h3 M3/\∀ a∈fp2,h2.length<=a:=by
      cases hy2:y.2 with
      | true=>
       obtain ⟨fp2,a,b,c,d⟩:=q3.2 hy2
       exact ⟨fp2,fun _=>⟨a,b⟩,d,c⟩
      | false=>exact ⟨[],(fun z=>by cases z),by rw [List.append_nil];exact R3,fun a ha=>by simp at ha⟩
     have old:∀ {Z:List Nat} (_:∀ a∈Y,a∈Z) (a:Nat) o,a∉Y -> h2[a]?=some o -> a∉Y++fp2:=fun _ a o x y=>by
      rw [List.mem_append];rintro (z | z)
      ·exact x z
      ·have:=hlt2 a z;have:=qAF y;omega
     have R4:=R3'.setX (List.mem_append_left _ hDY) hDA (.lst false (ws++[w3]))
     have hnY:∀ a o,a∉Y -> h[a]?=some o -> a∉Y++fp2/\(h3.set D (.lst false (ws++[w3])))[a]?=some o:=fun a o x y=>⟨old (fun _ z=>z) a o x (R.keepN k2 a o x y).2,(hs Y hDY a o x (R.keepN k3 a o x y).2).2⟩
     have hn2:∀ a o,a∉Y -> h2[a]?=some o -> a∉Y++fp2/\(h3.set D (.lst false (ws++[w3])))[a]?=some o:=fun a o x y=>⟨old (fun _ z=>z) a o x y,(hs Y hDY a o x (R2.keepN f3 a o x y).2).2⟩
     refine qDR hc he hD hDX hA r (i + 1) (ys++[y.1]) (ws++[w3]) (f&&y.2) (fp++fp2) (Y++fp2) σ1 σh1 M3 _ hr2 hi2 (by rw [hY,List.append_assoc]) ((fm.trans k3).set (.inr hD) _) R4 ?_ ?_ ry4 ?_ ?_
     ·exact qDJ sr hnY R4 hl.2
     ·rw [List.getElem?_set_self (qAF eD3)]
     ·intro ef
      rw [Bool.and_eq_true] at ef
      obtain ⟨p1,nd1,l1⟩:=hf ef.1
      obtain ⟨p2,nd2⟩:=hp2 ef.2
      refine ⟨qFM (qBI hnD ys p1) (qCW (fun a o x y=>hs _ (List.mem_cons_self ..) a o x y) _ (qCW (fun a o x y=>⟨fun z=>x (hDXY _ z),y⟩) _ p2)),?_,?_⟩
      ·rw [List.nodup_append]
       refine ⟨nd1,nd2,?_⟩
       rintro a ha b hb rfl
       exact (qFq y.1 p2 a hb).1 (by rw [hY];exact List.mem_append_right _ ha)
      ·intro a ha
       rcases List.mem_append.mp ha with z | z
       ·exact l1 a z
       ·have:=hlt2 a z
        have:=(fm.trans k2).1
        omega
     ·exact qAx (fun _ _ e=>e) hn2 ((R.up ext).keepS f2 rs1)
    ·rw [if_neg hl]
     exact Sim.stuck
   | false=>
    dsimp only
    simp only [Bool.false_eq_true,if_false]
    by_cases hl:qAc d M2=true
    ·rw [if_pos hl,if_pos eD2]
     exact qDR hc he hD hDX hA r (i + 1) ys ws f fp Y σ1 σh1 M2 h2 hr2 hi2 hY (fm.trans k2) R2 (qEJ sr (fun a o x y=>(R.keepN k2 a o x y).2) R2 hl) eD2 (qAK (fun _ _ e=>e) (kN k2) ys ry)
      (fun ef=>by obtain ⟨a,b,c⟩:=hf ef;exact ⟨qBI (kN k2) ys a,b,c⟩) ((R.up ext).keepS f2 rs1)
    ·rw [if_neg hl]
     exact Sim.stuck
end
end PI
namespace PI
open L2 (V)
section
variable {gl:List T} {A X:List Nat} {h h':AH} {M M':Mem}
theorem qH0 {X':List Nat} {s:Src} {ts:List T} {d:qCM} (r:qB5 A X h s ts d) (hn:∀ a o,a∉X -> h[a]?=some o -> a∉X'/\h'[a]?=some o) (hc:∀ (n:Nat) a o,A[n]?=some a -> h[a]?=some o -> h'[a]?=some o):qB5 A X' h' s ts d:=by
 induction r with
 | list a f vs ts q1 q2 q3=>exact .list a f vs ts (hn _ _ q1 q2).1 (hn _ _ q1 q2).2 (qAK (fun _ _ e=>e) hn ts q3)
 | cell n a vs ts q1 q2 q3=>exact .cell n a vs ts q1 (hc n a _ q1 q2) (qAK (fun _ _ e=>e) hn ts q3)
 | tupl a vs ts q1 q2 q3=>exact .tupl a vs ts (hn _ _ q1 q2).1 (hn _ _ q1 q2).2 (qAK (fun _ _ e=>e) hn ts q3)
 | rng lo n=>exact .rng lo n
 | rngd lo n=>exact .rngd lo n
 | enum a ts d _ i1=>exact .enum a ts d i1
 | rvd a ts d _ i1=>exact .rvd a ts d i1
 | zip a b ts us d1 d2 _ _ i1 i2=>exact .zip a b ts us d1 d2 i1 i2
theorem qHO {n:Nat} {r:PR (TB×Mem)} {rh:RV} (s:Sim gl A X h (QE gl A X n) r rh):Sim gl A X h (fun b b' _ _=>b=b') (pB r) (asB rh):=by
 refine Sim.bind s ?_
 intro x M1 w h1 f1 R1 q1
 obtain ⟨t,fr⟩:=x
 dsimp only
 split
 ·rename_i b
  cases qA2 q1.1
  exact ⟨_,h1,rfl,Frm.refl A h1,R1,rfl⟩
 ·exact Sim.stuck
theorem qEQ:∀ (xs:List V),T.lfs (xs.map .v)=true
 | []=>rfl
 | x::xs=>by show (T.lf (.v x)&&T.lfs (xs.map .v))=true;rw [qEQ xs];rfl
theorem qC6 (lo:Int) (n:Nat):T.lfs (qAf lo n)=true:=by
 have e:qAf lo n=(qAr lo n).map .v:=by unfold qAf qAr;rw [List.map_map];rfl
 rw [e];exact qEQ _
theorem qBT {A X:List Nat} {h:AH}:∀ {xs:List V},xs.all flat=true -> qAH A X h (xs.map .v) xs
 | [],_=>by show qAH A X h [] [];unfold qAH;rfl
 | x::xs,f=>by
  rw [List.all_cons,Bool.and_eq_true] at f
  show qAH A X h (.v x::xs.map .v) _
  unfold qAH
  exact ⟨x,xs,rfl,by unfold Rep;exact ⟨rfl,f.1⟩,qBT f.2⟩
theorem qDD {α β:Type} {R:α -> β -> Prop} {xs:List α} {ys:List β} (k:Nat) (h:qBC R xs ys):qBC R (xs.eraseIdx k) (ys.eraseIdx k):=by
 rw [List.eraseIdx_eq_take_drop_succ,List.eraseIdx_eq_take_drop_succ]
 exact qAo (qBD _ h) (qCk _ h)
theorem qDo {α β:Type} {R:α -> β -> Prop} {xs:List α} {ys:List β} (h:qBC R xs ys):qBC R xs.dropLast ys.dropLast:=by
 rw [List.dropLast_eq_take,List.dropLast_eq_take,<- qAB h]
 exact qBD _ h
theorem qE8 {α β:Type} {R:α -> β -> Prop}:∀ {xs:List α} {ys:List β},qBC R xs ys -> qBC R xs.reverse ys.reverse
 | [],_,h=>by cases h;rfl
 | x::xs,_,⟨v,vs,rfl,r,h⟩=>by
  rw [List.reverse_cons,List.reverse_cons]
  exact qAo (qE8 h) ⟨v,[],rfl,r,rfl⟩
theorem qH1 (R:RelM gl A X h M) {m:Mt} {n p:Nat} {ts:List T} {ws:List V} (ep:A[n]?=some p) (rs:qAH A X h ts ws):Sim gl A X h (QE gl A X h.length) (PR.ofO (qFw m n ts M)) (qEf m p ws h):=by
 obtain ⟨ts2,vs2,g1,g2,g3⟩:=R.at_ n p ep
 have hm:qAU h p=some vs2:=by unfold qAU;rw [g2]
 have l:=qAB (reps_iff.mp g3)
 cases em:qFw m n ts M with
 | none=>exact Sim.stuck
 | some r=>
  unfold qFw at em
  split at em
  ·unfold qAH at rs;subst rs
   rw [g1] at em
   dsimp only [Option.bind_some] at em
   obtain ⟨y,ey,rfl⟩:=Option.map_eq_some_iff.mp em
   obtain ⟨w,ew,rw2⟩:=qAl (reps_iff.mp g3) ey
   show Sim _ _ _ _ _ _ (match qAU h p with | some xs=>_ | none=>_)
   rw [hm]
   dsimp only
   rw [<- l,ew]
   obtain ⟨R4,f4⟩:=R.put ep (reps_iff.mpr (qDo (reps_iff.mp g3)))
   have r:=R.keep f4 rw2
   exact ⟨w,_,rfl,f4,R4,r,fun e=>Frs.of_lf R4 r e⟩
  ·rename_i i
   obtain ⟨w,rfl,a⟩:=qCf rs
   cases qA2 a
   rw [g1] at em
   dsimp only [Option.bind_some] at em
   split at em
   ·rename_i hl
    obtain ⟨k,ek,em⟩:=Option.bind_eq_some_iff.mp em
    obtain ⟨y,ey,rfl⟩:=Option.map_eq_some_iff.mp em
    obtain ⟨w,ew,rw2⟩:=qAl (reps_iff.mp g3) ey
    show Sim _ _ _ _ _ _ (match qAU h p with | some xs=>_ | none=>_)
    rw [hm]
    dsimp only
    rw [<- l,if_pos hl,ek]
    dsimp only
    rw [ew]
    obtain ⟨R4,f4⟩:=R.put ep (reps_iff.mpr (qDD k (reps_iff.mp g3)))
    have r:=R.keep f4 rw2
    exact ⟨w,_,rfl,f4,R4,r,fun e=>Frs.of_lf R4 r e⟩
   ·cases em
  ·unfold qAH at rs;subst rs
   rw [g1] at em
   cases em
   show Sim _ _ _ _ _ _ (match qAU h p with | some xs=>_ | none=>_)
   rw [hm]
   obtain ⟨R4,f4⟩:=R.put ep (reps_iff.mpr (qE8 (reps_iff.mp g3)))
   have r:Rep A X (h.set p (.lst false vs2.reverse)) (.v .non) .non:=by unfold Rep;exact ⟨rfl,rfl⟩
   exact ⟨_,_,rfl,f4,R4,r,fun e=>Frs.of_lf R4 r e⟩
  ·unfold qAH at rs;subst rs
   rw [g1] at em
   cases em
   show Sim _ _ _ _ _ _ (match qAU h p with | some xs=>_ | none=>_)
   rw [hm]
   obtain ⟨R4,f4⟩:=R.put (ts:=[]) (vs:=[]) ep (by unfold qAH;rfl)
   have r:Rep A X (h.set p (.lst false [])) (.v .non) .non:=by unfold Rep;exact ⟨rfl,rfl⟩
   exact ⟨_,_,rfl,f4,R4,r,fun e=>Frs.of_lf R4 r e⟩
  ·rename_i i
   obtain ⟨w,rfl,a⟩:=qCf rs
   cases qA2 a
   rw [g1] at em
   dsimp only [Option.bind_some] at em
   split at em
   ·rename_i hl
    obtain ⟨k,ek,rfl⟩:=Option.map_eq_some_iff.mp em
    obtain ⟨is,eis,ek⟩:=Option.bind_eq_some_iff.mp ek
    show Sim _ _ _ _ _ _ (match qAU h p with | some xs=>_ | none=>_)
    rw [hm]
    dsimp only
    rw [<- l,if_pos hl,qCn g3 eis]
    dsimp only [Option.bind_some]
    rw [ek]
    obtain ⟨R4,f4⟩:=R.put ep (reps_iff.mpr (qDD k (reps_iff.mp g3)))
    have r:Rep A X (h.set p (.lst false (vs2.eraseIdx k))) (.v .non) .non:=by unfold Rep;exact ⟨rfl,rfl⟩
    exact ⟨_,_,rfl,f4,R4,r,fun e=>Frs.of_lf R4 r e⟩
   ·cases em
  ·rename_i y
   obtain ⟨w,rfl,a⟩:=qCf rs
   have fy:=qBh a
   cases qA2 a
   rw [g1] at em
   dsimp only [Option.bind_some] at em
   obtain ⟨zs,ez,rfl⟩:=Option.map_eq_some_iff.mp em
   obtain ⟨rfl,kk⟩:=qDx g3 ez
   show Sim _ _ _ _ _ _ (match qAU h p with | some xs=>_ | none=>_)
   rw [hm]
   dsimp only
   rw [if_pos (by rw [fy,kk];rfl)]
   exact qAG R rfl
  ·rename_i t
   obtain ⟨w,rfl,a⟩:=qCf rs
   rw [g1] at em
   dsimp only [Option.bind_some] at em
   obtain ⟨ys,ey,em⟩:=Option.bind_eq_some_iff.mp em
   split at em
   ·rename_i hc
    cases em
    obtain ⟨q,us,rfl,m2,k2⟩:=qF7 R a ey
    have hne:p≠q:=by
     rintro rfl
     cases t with
     | cell k=>
      unfold Rep at a;obtain ⟨a',ea,e⟩:=a;cases e
      have:n=k:=(List.getElem?_inj (List.getElem?_eq_some_iff.mp ep).1 R.nd).mp (ep.trans ea.symm)
      have hc1:=hc.1
      unfold T.isC at hc1
      simp at hc1
      exact hc1 this.symm
     | lst xs=>unfold Rep at a;obtain ⟨a',vs',e,z,_⟩:=a;cases e;exact z (R.sub _ (List.mem_of_getElem? ep))
     | _=>cases ey
    show Sim _ _ _ _ _ _ (match qAU h p with | some xs=>_ | none=>_)
    rw [hm]
    dsimp only
    rw [m2]
    dsimp only
    rw [if_pos ⟨hne,by rw [<- l,<- qAB (reps_iff.mp k2)];exact hc.2⟩]
    obtain ⟨R4,f4⟩:=R.put ep (reps_iff.mpr (qAo (reps_iff.mp g3) (reps_iff.mp k2)))
    have r:Rep A X (h.set p (.lst false (vs2++us))) (.v .non) .non:=by unfold Rep;exact ⟨rfl,rfl⟩
    exact ⟨_,_,rfl,f4,R4,r,fun e=>Frs.of_lf R4 r e⟩
   ·cases em
  ·cases em
theorem qKO (R:RelM gl A X h M) {t:T} {w:V} {s:List T×qCM} (r:Rep A X h t w) (e:qGN M t=some s):∃ p sh,w=.ref p/\(match h[p]? with | some (.lst _ _)=>Res.ok (Src.list p,h) | some (.tup _)=>.ok (.tupl p,h) | _=>.stuck)=.ok (sh,h)/\qB5 A X h sh s.1 s.2:=by
 cases t with
 | v x=>cases e
 | cell n=>
  unfold Rep at r;obtain ⟨a,ea,rfl⟩:=r
  obtain ⟨ts,vs,e1,e2,e3⟩:=R.at_ n a ea
  unfold qGN at e;dsimp only at e;rw [e1] at e;cases e
  exact ⟨a,_,rfl,by rw [e2],.cell n a vs ts ea e2 e3⟩
 | fz xs=>unfold Rep at r;obtain ⟨a,vs,rfl,q,k,z⟩:=r;cases e;exact ⟨a,_,rfl,by rw [k],.list a true vs xs q k z⟩
 | lst xs=>unfold Rep at r;obtain ⟨a,vs,rfl,q,k,z⟩:=r;cases e;exact ⟨a,_,rfl,by rw [k],.list a false vs xs q k z⟩
 | tup xs=>unfold Rep at r;obtain ⟨a,vs,rfl,q,k,z⟩:=r;cases e;exact ⟨a,_,rfl,by rw [k],.tupl a vs xs q k z⟩
 | ob o=>cases e
theorem QEs.len {n:Nat} {xs:List TB} {ws:List V} (q:QEs gl A X n xs ws h M):xs.length=ws.length:=by
 have:=qAB (reps_iff.mp q.1)
 simpa using this
end
section
variable {gl:List T} {P:Nat -> List T -> Mem -> PR (TB×Mem)} {F:Nat -> List V -> AH -> RV}
variable (hF:∀ f ts ws A X h M,RelM gl A X h M -> qAH A X h ts ws -> Sim gl A X h (QE gl A X h.length) (P f ts M) (F f ws h))
include hF
mutual
theorem qAW:∀ (e:E) (A X:List Nat) (h:AH) (M:Mem) (σ:TS) (σh:List (Option V)),RelM gl A X h M -> qBf A X h σ σh -> Sim gl A X h (QE gl A X h.length) (pe gl P e σ M) (ev F e σh h)
 | .var i,A,X,h,M,σ,σh,R,rs=>by
  rw [pe,ev];dsimp only
  split
  ·rename_i t e
   obtain ⟨w,ew,r⟩:=qDV rs e
   rw [ew]
   exact qDv R r
  ·exact Sim.stuck
 | .dnew,A,X,h,M,σ,σh,R,rs=>by
  unfold pe ev
  have r:Rep A X (h++[O.ob (.dct [])]) (.ob (.dct [])) (.ref h.length):=by
   unfold Rep
   exact ⟨h.length,rfl,fun z=>by have:=R.lt _ z;omega,by simp⟩
  exact ⟨_,_,rfl,Frm.app A h _,R.up _,r,fun _=>Frs.of_lf (R.up _) r rfl⟩
 | .cst v,A,X,h,M,σ,σh,R,rs=>by
  rw [pe,ev];dsimp only
  split
  ·rename_i e;exact qAG R e
  ·exact Sim.stuck
 | .glob g,A,X,h,M,σ,σh,R,rs=>by
  rw [pe,ev];dsimp only
  split
  ·rename_i t e;exact qDv R (R.glo g t e)
  ·exact Sim.stuck
 | .bin op a b,A,X,h,M,σ,σh,R,rs=>by
  rw [pe,ev];dsimp only
  refine Sim.bind (qAW a A X h M σ σh R rs) ?_
  intro x M1 v h1 f1 R1 q1;dsimp only
  refine Sim.bind (qAW b A X h1 M1 σ σh R1 (R.keepS f1 rs)) ?_
  intro y M2 w h2 f2 R2 q2;dsimp only
  exact Sim.ofO fun r er=>(qKL R2 er (R1.keep f2 q1.1) q2.1).le (Nat.le_trans f1.1 f2.1)
 | .neg a,A,X,h,M,σ,σh,R,rs=>by
  rw [pe,ev];dsimp only
  refine Sim.bind (qAW a A X h M σ σh R rs) ?_
  intro x M1 v h1 f1 R1 q1;dsimp only
  obtain ⟨t,fr⟩:=x
  dsimp only
  split
  ·cases qA2 q1.1;exact qAG R1 rfl
  ·exact Sim.stuck
 | .cmp op a b,A,X,h,M,σ,σh,R,rs=>by
  rw [pe,ev];dsimp only
  refine Sim.bind (qAW a A X h M σ σh R rs) ?_
  intro x M1 v h1 f1 R1 q1;dsimp only
  refine Sim.bind (qAW b A X h1 M1 σ σh R1 (R.keepS f1 rs)) ?_
  intro y M2 w h2 f2 R2 q2;dsimp only
  refine Sim.ofO fun r er=>?_
  unfold qHf
  rw [qE4 R2 (R1.keep f2 q1.1) q2.1 er]
  exact qAG R2 rfl
 | .cmp2 o1 o2 a b c,A,X,h,M,σ,σh,R,rs=>by
  rw [pe,ev];dsimp only
  refine Sim.bind (qAW a A X h M σ σh R rs) ?_
  intro x M1 v h1 f1 R1 q1;dsimp only
  refine Sim.bind (qAW b A X h1 M1 σ σh R1 (R.keepS f1 rs)) ?_
  intro y M2 w h2 f2 R2 q2;dsimp only
  refine Sim.ofO fun r er=>?_
  rw [qE4 R2 (R1.keep f2 q1.1) q2.1 er]
  cases r with
  | true=>
   simp only [if_true]
   refine Sim.bind (qAW c A X h2 M2 σ σh R2 (R1.keepS f2 (R.keepS f1 rs))) ?_
   intro z M3 u h3 f3 R3 q3;dsimp only
   refine Sim.ofO fun r er=>?_
   unfold qHf
   rw [qE4 R3 (R2.keep f3 q2.1) q3.1 er]
   exact qAG R3 rfl
  | false=>exact qAG R2 rfl
 | .and a b,A,X,h,M,σ,σh,R,rs=>by
  rw [pe,ev];dsimp only
  refine Sim.bind (qHO (qAW a A X h M σ σh R rs)) ?_
  rintro x M1 v h1 f1 R1 rfl;dsimp only
  cases x with
  | true=>simp only [if_true];exact (qAW b A X h1 M1 σ σh R1 (R.keepS f1 rs)).le f1.1
  | false=>exact qAG R1 rfl
 | .or a b,A,X,h,M,σ,σh,R,rs=>by
  rw [pe,ev];dsimp only
  refine Sim.bind (qHO (qAW a A X h M σ σh R rs)) ?_
  rintro x M1 v h1 f1 R1 rfl;dsimp only
  cases x with
  | false=>simp only [Bool.false_eq_true,if_false];exact (qAW b A X h1 M1 σ σh R1 (R.keepS f1 rs)).le f1.1
  | true=>exact qAG R1 rfl
 | .not a,A,X,h,M,σ,σh,R,rs=>by
  rw [pe,ev];dsimp only
  refine Sim.bind (qHO (qAW a A X h M σ σh R rs)) ?_
  rintro x M1 v h1 f1 R1 rfl;dsimp only
  exact qAG R1 rfl
 | .call f as,A,X,h,M,σ,σh,R,rs=>by
  rw [pe,ev];dsimp only
  refine Sim.bind (qBR as A X h M σ σh R rs) ?_
  intro x M1 v h1 f1 R1 q1;dsimp only
  exact (hF f _ _ A X h1 M1 R1 q1.1).nx.le f1.1
 | .blt f as,A,X,h,M,σ,σh,R,rs=>by
  rw [pe,ev];dsimp only
  refine Sim.bind (qBR as A X h M σ σh R rs) ?_
  intro x M1 v h1 f1 R1 q1;dsimp only
  exact Sim.ofO fun r er=>(qJg R1 q1.1 er).le f1.1
 | .isi a ts,A,X,h,M,σ,σh,R,rs=>by
  rw [pe,ev];dsimp only
  refine Sim.bind (qAW a A X h M σ σh R rs) ?_
  intro x M1 v h1 f1 R1 q1;dsimp only
  refine Sim.ofO fun r er=>?_
  rw [qIV R1 q1.1 er]
  exact qAG R1 rfl
 | .idx a b,A,X,h,M,σ,σh,R,rs=>by
  rw [pe,ev];dsimp only
  refine Sim.bind (qAW a A X h M σ σh R rs) ?_
  intro x M1 v h1 f1 R1 q1;dsimp only
  refine Sim.bind (qAW b A X h1 M1 σ σh R1 (R.keepS f1 rs)) ?_
  intro y M2 w h2 f2 R2 q2;dsimp only
  refine Sim.ofO fun r er=>?_
  obtain ⟨ty,fy⟩:=y
  unfold qC3 at er
  dsimp only at er
  split at er
  ·rename_i i
   cases qA2 q2.1
   obtain ⟨xs,e1,er⟩:=Option.bind_eq_some_iff.mp er
   obtain ⟨j,e2,er⟩:=Option.bind_eq_some_iff.mp er
   obtain ⟨t,e3,rfl⟩:=Option.map_eq_some_iff.mp er
   obtain ⟨p,vs,rfl,k1,k2⟩:=qFA R2 (R1.keep f2 q1.1) e1
   obtain ⟨u,e4,k3⟩:=qAl (reps_iff.mp k2) e3
   dsimp only
   rw [k1]
   dsimp only
   rw [<- qAB (reps_iff.mp k2),e2]
   dsimp only [Option.bind_some]
   rw [e4]
   exact qDv R2 k3
  ·cases er
 | .sl a lo hi,A,X,h,M,σ,σh,R,rs=>by
  rw [pe,ev];dsimp only
  refine Sim.bind (qAW a A X h M σ σh R rs) ?_
  intro x M1 v h1 f1 R1 q1;dsimp only
  refine Sim.bind (qBR lo A X h1 M1 σ σh R1 (R.keepS f1 rs)) ?_
  intro y M2 w h2 f2 R2 q2;dsimp only
  refine Sim.bind (qBR hi A X h2 M2 σ σh R2 (R1.keepS f2 (R.keepS f1 rs))) ?_
  intro z M3 u h3 f3 R3 q3;dsimp only
  refine Sim.ofO fun xs ex=>Sim.ofO fun l el=>Sim.ofO fun m em=>?_
  rw [qCn (R2.keeps f3 q2.1) el,qCn q3.1 em]
  have rp:=R2.keep f3 (R1.keep f2 q1.1)
  refine Sim.ofO fun r er=>?_
  refine Sim.le ?_ (Nat.le_trans f1.1 (Nat.le_trans f2.1 f3.1))
  obtain ⟨x1,x2⟩:=x
  dsimp only at ex er rp ⊢
  cases x1 with
  | v x=>cases ex
  | ob o=>cases ex
  | cell n=>cases er;obtain ⟨p,vs,f,rfl,k1,k2⟩:=qBX R3 rp ex;dsimp only;rw [qAa k1];exact qGA R3 (qD9 k2)
  | fz xs=>cases er;obtain ⟨p,vs,f,rfl,k1,k2⟩:=qBX R3 rp ex;dsimp only;rw [qAa k1];exact qGA R3 (qD9 k2)
  | lst xs=>cases er;obtain ⟨p,vs,f,rfl,k1,k2⟩:=qBX R3 rp ex;dsimp only;rw [qAa k1];exact qGA R3 (qD9 k2)
  | tup ts=>
   cases ex
   unfold Rep at rp
   obtain ⟨a,vs,rfl,_,q,kk⟩:=rp
   have ln:=qAB (reps_iff.mp kk)
   dsimp only
   rw [show qAL h3 a=none by unfold qAL;rw [q],show qAS h3 a=some vs by unfold qAS;rw [q]]
   dsimp only
   unfold qIq at er
   dsimp only at er
   rw [ln] at er
   split at er
   ·cases er
   ·rename_i hw
    cases er
    rw [if_neg hw]
    exact qDy R3 (qD9 kk) fun e=>Frss.of_lf R3 (qD9 kk) e
 | .lst as,A,X,h,M,σ,σh,R,rs=>by
  rw [pe,ev];dsimp only
  refine Sim.bind (qBR as A X h M σ σh R rs) ?_
  intro x M1 v h1 f1 R1 q1;dsimp only
  rw [<- q1.len]
  split
  ·exact qDf R1 q1.1 f1.1 q1.2
  ·exact Sim.stuck
 | .tup as,A,X,h,M,σ,σh,R,rs=>by
  rw [pe,ev];dsimp only
  refine Sim.bind (qBR as A X h M σ σh R rs) ?_
  intro x M1 v h1 f1 R1 q1;dsimp only
  rw [<- q1.len]
  split
  ·exact qDy R1 q1.1 q1.2
  ·exact Sim.stuck
 | .comp it src g c e,A,X,h,M,σ,σh,R,rs=>by
  rw [pe,ev];dsimp only
  refine Sim.bind (qG0 it A X h M σ σh R rs) ?_
  intro s M1 sh h1 f1 R1 q1;dsimp only
  have hn:∀ a o,a∉X -> h1[a]?=some o -> a∉h1.length::X/\(h1++[O.lst false []])[a]?=some o:=fun a o x y=>⟨by
   rw [List.mem_cons];rintro (z | z)
   ·have:=qAF y;omega
   ·exact x z,by rw [List.getElem?_append_left (qAF y)];exact y⟩
  have sr:qB5 A (h1.length::X) (h1++[O.lst false []]) sh s.1 s.2:=qH0 q1 hn fun n a o _ y=>by rw [List.getElem?_append_left (qAF y)];exact y
  rw [qDk sr]
  dsimp only
  refine (qDR (its:=s.1) (fun X h M σ σh R rs=>qK7 c A X h M σ σh R rs) (fun X h M σ σh R rs=>qAW e A X h M σ σh R rs) (Nat.le_refl h1.length) (fun z=>Nat.lt_irrefl _ (R1.lt _ z)) R1.sub s.1 0 [] [] true [] (h1.length::X) _ _ M1 _ rfl (Nat.zero_le _) (by simp) (Frm.app A h1 _) (R1.addX fun a=>List.mem_cons) sr (by simp) (by unfold qAH;rfl) ?_ ?_).le f1.1
  ·exact fun _=>⟨by unfold FPs;exact ⟨rfl,rfl⟩,List.nodup_nil,fun a ha=>by simp at ha⟩
  ·exact qAx (fun _ _ e=>e) hn (qCD (R.keepS f1 rs) src)
 | .app a b,A,X,h,M,σ,σh,R,rs=>by
  rw [pe,ev];dsimp only
  refine Sim.bind (qAW a A X h M σ σh R rs) ?_
  intro x M1 v h1 f1 R1 q1;dsimp only
  obtain ⟨t,fr⟩:=x
  dsimp only
  split
  ·rename_i n
   have q:=q1.1
   unfold Rep at q
   obtain ⟨p,ep,rfl⟩:=q
   obtain ⟨ts,vs,e1,e2,e3⟩:=R1.at_ n p ep
   dsimp only
   rw [qAa e2]
   dsimp only
   refine Sim.bind (qAW b A X h1 M1 σ σh R1 (R.keepS f1 rs)) ?_
   intro y M2 w h2 f2 R2 q2;dsimp only
   obtain ⟨ts2,vs2,g1,g2,g3⟩:=R2.at_ n p ep
   rw [g1,show qAU h2 p=some vs2 by unfold qAU;rw [g2]]
   dsimp only
   rw [<- qAB (reps_iff.mp g3)]
   split
   ·have r1:qBC (Rep A X h2) [y.1] [w]:=⟨w,[],rfl,q2.1,rfl⟩
    obtain ⟨R4,f4⟩:=R2.put ep (reps_iff.mpr (qAo (reps_iff.mp g3) r1))
    have r:Rep A X (h2.set p (.lst false (vs2++[w]))) (.v .non) .non:=by unfold Rep;exact ⟨rfl,rfl⟩
    exact ⟨.non,_,rfl,f4,R4,r,fun _=>Frs.of_lf R4 r rfl⟩
   ·exact Sim.stuck
  ·exact Sim.stuck
 | .nset a,A,X,h,M,σ,σh,R,rs=>by
  rw [pe,ev];dsimp only
  refine Sim.bind (qAW a A X h M σ σh R rs) ?_
  intro x M1 v h1 f1 R1 q1;dsimp only
  obtain ⟨t,fr⟩:=x
  dsimp only
  split
  ·rename_i is eis
   obtain ⟨xs,ex,ei⟩:=Option.bind_eq_some_iff.mp eis
   obtain ⟨b,vs,f,rfl,g1,g2⟩:=qBX R1 q1.1 ex
   dsimp only
   rw [qAa g1]
   dsimp only
   rw [qCn g2 ei]
   dsimp only
   split
   ·exact (qAG R1 rfl).le f1.1
   ·exact Sim.stuck
  ·exact Sim.stuck
 | .lrng2 a b,A,X,h,M,σ,σh,R,rs=>by
  rw [pe,ev];dsimp only
  refine Sim.bind (qAW a A X h M σ σh R rs) ?_
  intro x M1 v h1 f1 R1 q1;dsimp only
  refine (Sim.bind (qAW b A X h1 M1 σ σh R1 (R.keepS f1 rs)) ?_).le f1.1
  intro y M2 w h2 f2 R2 q2;dsimp only
  obtain ⟨t,fr⟩:=x
  obtain ⟨u,fu⟩:=y
  dsimp only
  split
  ·rename_i i j
   cases qA2 q1.1
   cases qA2 q2.1
   show Sim _ _ _ _ _ _ (if -1000000<=i/\-1000000<=j/\i<=100000/\j<=100000/\j - i<=100000 then newL (qAr i (j - i).toNat) h2 else .stuck)
   split
   ·have r:qAH A X h2 (qAf i (j - i).toNat) (qAr i (j - i).toNat):=by
     have e:qAf i (j - i).toNat=(qAr i (j - i).toNat).map .v:=by unfold qAf qAr;rw [List.map_map];rfl
     rw [e]
     exact qBT (by simp [qAr,flat])
    exact (qDf (f:=true) R2 r (Nat.le_refl _) fun _=>Frss.of_lf R2 r (qC6 _ _)).le f2.1
   ·exact Sim.stuck
  ·exact Sim.stuck
 | .lrng a,A,X,h,M,σ,σh,R,rs=>by
  rw [pe,ev];dsimp only
  refine Sim.bind (qAW a A X h M σ σh R rs) ?_
  intro x M1 v h1 f1 R1 q1;dsimp only
  obtain ⟨t,fr⟩:=x
  dsimp only
  split
  ·rename_i j
   cases qA2 q1.1
   dsimp only
   split
   ·have r:qAH A X h1 (qAf 0 j.toNat) (qAr 0 j.toNat):=by
     have e:qAf 0 j.toNat=(qAr 0 j.toNat).map .v:=by unfold qAf qAr;rw [List.map_map];rfl
     rw [e]
     exact qBT (by simp [qAr,flat])
    exact (qDf (f:=true) R1 r (Nat.le_refl _) fun _=>Frss.of_lf R1 r (qC6 0 _)).le f1.1
   ·exact Sim.stuck
  ·exact Sim.stuck
 | .meth m a as,A,X,h,M,σ,σh,R,rs=>by
  rw [pe,ev];dsimp only
  refine Sim.bind (qAW a A X h M σ σh R rs) ?_
  intro x M1 v h1 f1 R1 q1;dsimp only
  obtain ⟨t,fr⟩:=x
  dsimp only
  split
  ·rename_i n
   have q:=q1.1
   unfold Rep at q
   obtain ⟨p,ep,rfl⟩:=q
   obtain ⟨ts,vs,e1,e2,e3⟩:=R1.at_ n p ep
   dsimp only
   rw [qAa e2]
   dsimp only
   refine Sim.bind (qBR as A X h1 M1 σ σh R1 (R.keepS f1 rs)) ?_
   intro y M2 w h2 f2 R2 q2;dsimp only
   exact (qH1 R2 ep q2.1).le (Nat.le_trans f1.1 f2.1)
  ·exact Sim.stuck
theorem qBR:∀ (e:Es) (A X:List Nat) (h:AH) (M:Mem) (σ:TS) (σh:List (Option V)),RelM gl A X h M -> qBf A X h σ σh -> Sim gl A X h (QEs gl A X h.length) (pes gl P e σ M) (evs F e σh h)
 | .nil,A,X,h,M,σ,σh,R,rs=>by
  rw [pes,evs]
  have r:qAH A X h [] []:=by unfold qAH;rfl
  exact ⟨[],h,rfl,Frm.refl A h,R,r,fun _=>Frss.of_lf R r rfl⟩
 | .cons a as,A,X,h,M,σ,σh,R,rs=>by
  rw [pes,evs];dsimp only
  refine Sim.bind (qAW a A X h M σ σh R rs) ?_
  intro x M1 v h1 f1 R1 q1;dsimp only
  obtain ⟨fp1,hp1,R1',hlt1⟩:∃ fp1:List Nat,(x.2=true -> FP X h1 x.1 v fp1/\fp1.Nodup)/\RelM gl A (X++fp1) h1 M1/\∀ a∈fp1,h.length<=a:=by
   cases hx2:x.2 with
   | true=>
    obtain ⟨fp2,a,b,c,d⟩:=q1.2 hx2
    exact ⟨fp2,fun _=>⟨a,b⟩,d,c⟩
   | false=>exact ⟨[],(fun z=>by cases z),by rw [List.append_nil];exact R1,fun a ha=>by simp at ha⟩
  have hX:∀ a∈X,a∈X++fp1:=fun a z=>List.mem_append_left _ z
  have hn:∀ a o,a∉X -> h[a]?=some o -> a∉X++fp1/\h1[a]?=some o:=fun a o x y=>⟨by
   rw [List.mem_append];rintro (z | z)
   ·exact x z
   ·have:=hlt1 a z;have:=qAF y;omega,(R.keepN f1 a o x y).2⟩
  refine Sim.bindW hX R.sub (Frm.refl A h1) (qBR as A (X++fp1) h1 M1 σ σh R1' (qAx (fun _ _ e=>e) hn rs)) ?_
  intro y M2 w h2 f2 R2 q2;dsimp only
  refine ⟨_,h2,rfl,f2,R2.weak hX R.sub,?_,fun e=>?_⟩
  ·show qAH A X h2 (x.1::y.map (·.1)) (v::w)
   unfold qAH
   exact ⟨v,w,rfl,R1.keep f2 q1.1,qAK (fun _ _ e=>e) (fun a o x y=>⟨fun z=>x (hX _ z),y⟩) _ q2.1⟩
  ·rw [List.all_cons,Bool.and_eq_true] at e
   obtain ⟨a1,b1⟩:=hp1 e.1
   obtain ⟨fp2,a2,b2,c2,d2⟩:=q2.2 e.2
   refine ⟨fp1++fp2,?_,?_,?_,by rw [<- List.append_assoc];exact d2⟩
   ·show FPs X h2 (x.1::y.map (·.1)) (v::w) _
    unfold FPs
    exact ⟨v,w,fp1,fp2,rfl,qCW (R1.keepN f2) _ a1,qBI (fun a o x y=>⟨fun z=>x (hX _ z),y⟩) _ a2,rfl⟩
   ·rw [List.nodup_append]
    refine ⟨b1,b2,?_⟩
    rintro a ha b hb rfl
    exact (qCC _ a2 a hb).1 (List.mem_append_right _ ha)
   ·intro a ha
    rcases List.mem_append.mp ha with z | z
    ·exact hlt1 a z
    ·exact Nat.le_trans f1.1 (c2 a z)
theorem qK7:∀ (e:Es) (A X:List Nat) (h:AH) (M:Mem) (σ:TS) (σh:List (Option V)),RelM gl A X h M -> qBf A X h σ σh -> Sim gl A X h (fun b b' _ _=>b=b') (pec gl P e σ M) (evc F e σh h)
 | .nil,A,X,h,M,σ,σh,R,rs=>by
  rw [pec,evc]
  exact ⟨true,h,rfl,Frm.refl A h,R,rfl⟩
 | .cons a as,A,X,h,M,σ,σh,R,rs=>by
  rw [pec,evc]
  exact qHO (qAW a A X h M σ σh R rs)
theorem qG0:∀ (e:Itr) (A X:List Nat) (h:AH) (M:Mem) (σ:TS) (σh:List (Option V)),RelM gl A X h M -> qBf A X h σ σh -> Sim gl A X h (fun s sh h' _=>qB5 A X h' sh s.1 s.2) (pei gl P e σ M) (evi F e σh h)
 | .list a,A,X,h,M,σ,σh,R,rs=>by
  rw [pei,evi];dsimp only
  refine Sim.bind (qAW a A X h M σ σh R rs) ?_
  intro x M1 v h1 f1 R1 q1;dsimp only
  refine Sim.ofO fun s es=>?_
  obtain ⟨p,sh,rfl,e1,e2⟩:=qKO R1 q1.1 es
  exact ⟨sh,h1,e1,Frm.refl A h1,R1,e2⟩
 | .rng1 a,A,X,h,M,σ,σh,R,rs=>by
  rw [pei,evi];dsimp only
  refine Sim.bind (qAW a A X h M σ σh R rs) ?_
  intro x M1 v h1 f1 R1 q1;dsimp only
  obtain ⟨t,fr⟩:=x
  dsimp only
  split
  ·cases qA2 q1.1
   dsimp only
   split
   ·exact ⟨_,h1,rfl,Frm.refl A h1,R1,.rng 0 _⟩
   ·exact Sim.stuck
  ·exact Sim.stuck
 | .rvr a,A,X,h,M,σ,σh,R,rs=>by
  rw [pei,evi];dsimp only
  refine Sim.bind (qAW a A X h M σ σh R rs) ?_
  intro x M1 v h1 f1 R1 q1;dsimp only
  obtain ⟨t,fr⟩:=x
  dsimp only
  split
  ·cases qA2 q1.1
   dsimp only
   split
   ·exact ⟨_,h1,rfl,Frm.refl A h1,R1,.rngd _ _⟩
   ·exact Sim.stuck
  ·exact Sim.stuck
end
end
end PI
namespace PI
open L2 (V)
mutual
theorem qG7 {X Af Xf:List Nat} {h:AH} (hX:∀ a o,(∀ vs,o≠O.lst false vs) -> h[a]?=some o -> a∉X -> a∉Xf):∀ (t:T) (n:Nat) {w:V} {fp:List Nat},FP X h t w fp -> (∀ (k:Nat) a,fp[k]?=some a -> Af[n + k]?=some a) ->
  (thaw n t).2.length=fp.length/\Rep Af Xf h (thaw n t).1 w/\∀ (k:Nat) ts',(thaw n t).2[k]?=some ts' -> ∃ a vs,fp[k]?=some a/\h[a]?=some (.lst false vs)/\qAH Af Xf h ts' vs
 | .v x,n,w,fp,p,ha=>by unfold FP at p;obtain ⟨p1,rfl⟩:=p;rw [show thaw n (.v x)=(.v x,[]) by simp [thaw]];exact ⟨rfl,by unfold Rep;exact p1,fun k ts' e=>by simp at e⟩
 | .cell _,n,w,fp,p,ha=>by unfold FP at p;exact p.elim
 | .ob o,n,w,fp,p,ha=>by unfold FP at p;obtain ⟨⟨a,rfl,q1,q2⟩,rfl⟩:=p;rw [show thaw n (.ob o)=(.ob o,[]) by simp [thaw]];exact ⟨rfl,by unfold Rep;exact ⟨a,rfl,hX a _ (by intro _ z;cases z) q2 q1,q2⟩,fun k ts' e=>by simp at e⟩
 | .fz _,n,w,fp,p,ha=>by unfold FP at p;exact p.elim
 | .lst ts,n,w,fp,p,ha=>by
  unfold FP at p
  obtain ⟨a,vs,f,rfl,q1,q2,q3,rfl⟩:=p
  obtain ⟨l,r,c⟩:=qDu hX ts n q3 (fun k a e=>ha k a (by rw [List.getElem?_append_left (List.getElem?_eq_some_iff.mp e).1];exact e))
  rw [thaw]
  refine ⟨by simp [l],?_,fun k ts' e=>?_⟩
  ·show Rep Af Xf h (.cell _) _
   unfold Rep
   refine ⟨a,ha _ a ?_,rfl⟩
   rw [l,List.getElem?_append_right (Nat.le_refl _),Nat.sub_self]
   rfl
  ·dsimp only at e
   by_cases hk:k < f.length
   ·rw [List.getElem?_append_left (by rw [l];exact hk)] at e
    obtain ⟨b,us,e1,e2,e3⟩:=c k ts' e
    exact ⟨b,us,by rw [List.getElem?_append_left hk];exact e1,e2,e3⟩
   ·rw [List.getElem?_append_right (by rw [l];omega),l] at e
    have hk2:k - f.length=0:=by
     have:=(List.getElem?_eq_some_iff.mp e).1
     simp at this;omega
    rw [hk2] at e
    simp at e
    subst e
    exact ⟨a,vs,by rw [List.getElem?_append_right (by omega),hk2];rfl,q2,r⟩
 | .tup ts,n,w,fp,p,ha=>by
  unfold FP at p
  obtain ⟨a,vs,rfl,q1,q2,q3⟩:=p
  obtain ⟨l,r,c⟩:=qDu hX ts n q3 ha
  rw [thaw]
  refine ⟨l,?_,c⟩
  show Rep Af Xf h (.tup _) _
  unfold Rep
  exact ⟨a,vs,rfl,hX a _ (by intro _ z;cases z) q2 q1,q2,r⟩
theorem qDu {X Af Xf:List Nat} {h:AH} (hX:∀ a o,(∀ vs,o≠O.lst false vs) -> h[a]?=some o -> a∉X -> a∉Xf):∀ (ts:List T) (n:Nat) {ws:List V} {fp:List Nat},FPs X h ts ws fp -> (∀ (k:Nat) a,fp[k]?=some a -> Af[n + k]?=some a) ->
  (qBF n ts).2.length=fp.length/\qAH Af Xf h (qBF n ts).1 ws/\∀ (k:Nat) ts',(qBF n ts).2[k]?=some ts' -> ∃ a vs,fp[k]?=some a/\h[a]?=some (.lst false vs)/\qAH Af Xf h ts' vs
 | [],n,ws,fp,p,ha=>by unfold FPs at p;obtain ⟨rfl,rfl⟩:=p;rw [qBF];exact ⟨rfl,by unfold qAH;rfl,fun k ts' e=>by simp at e⟩
 | t::ts,n,ws,fp,p,ha=>by
  unfold FPs at p
  obtain ⟨v,vs,f1,f2,rfl,q1,q2,rfl⟩:=p
  obtain ⟨l1,r1,c1⟩:=qG7 hX t n q1 (fun k a e=>ha k a (by rw [List.getElem?_append_left (List.getElem?_eq_some_iff.mp e).1];exact e))
  obtain ⟨l2,r2,c2⟩:=qDu hX ts (n + (thaw n t).2.length) q2 (fun k a e=>by
   have:=ha (f1.length + k) a (by rw [List.getElem?_append_right (by omega),Nat.add_sub_cancel_left];exact e)
   rw [l1,Nat.add_assoc];exact this)
  rw [qBF]
  refine ⟨by dsimp only;rw [List.length_append,List.length_append,l2,l1],?_,fun k ts' e=>?_⟩
  ·show qAH Af Xf h (_::_) _
   unfold qAH
   exact ⟨v,vs,rfl,r1,r2⟩
  ·dsimp only at e
   by_cases hk:k < f1.length
   ·rw [List.getElem?_append_left (by rw [l1];exact hk)] at e
    obtain ⟨b,us,e1,e2,e3⟩:=c1 k ts' e
    exact ⟨b,us,by rw [List.getElem?_append_left hk];exact e1,e2,e3⟩
   ·rw [List.getElem?_append_right (by rw [l1];omega)] at e
    obtain ⟨b,us,e1,e2,e3⟩:=c2 _ ts' e
    rw [l1] at e1
    exact ⟨b,us,by rw [List.getElem?_append_right (by omega)];exact e1,e2,e3⟩
end
theorem RelM.thaw {gl:List T} {A X fp:List Nat} {h:AH} {M:Mem} {t:T} {w:V} (R:RelM gl A (X++fp) h M) (hA:∀ a∈A,a∈X) (p:FP X h t w fp) (nd:fp.Nodup):
  RelM gl (A++fp) (X++fp) h (M++(PI.thaw M.length t).2)/\Rep (A++fp) (X++fp) h (PI.thaw M.length t).1 w:=by
 have hX:∀ a o,(∀ vs,o≠O.lst false vs) -> h[a]?=some o -> a∉X -> a∉X++fp:=fun a o hno e x=>by
  rw [List.mem_append];rintro (z | z)
  ·exact x z
  ·obtain ⟨_,us,e2⟩:=qFq t p a z
   rw [e] at e2;cases e2;exact hno _ rfl
 obtain ⟨l,r,c⟩:=qG7 (Af:=A++fp) hX t M.length p (fun k a e=>by rw [<- R.len,List.getElem?_append_right (by omega),Nat.add_sub_cancel_left];exact e)
 refine ⟨⟨by simp [R.len,l],?_,?_,R.lt,fun n a e=>?_,fun g t e=>?_⟩,r⟩
 ·rw [List.nodup_append]
  exact ⟨R.nd,nd,by rintro a ha b hb rfl;exact (qFq t p a hb).1 (hA a ha)⟩
 ·intro a ha
  rcases List.mem_append.mp ha with z | z
  ·exact List.mem_append_left _ (hA a z)
  ·exact List.mem_append_right _ z
 ·by_cases hn:n < A.length
  ·rw [List.getElem?_append_left hn] at e
   obtain ⟨ts,vs,e1,e2,e3⟩:=R.at_ n a e
   exact ⟨ts,vs,by rw [List.getElem?_append_left (by rw [<- R.len];exact hn)];exact e1,e2,qAK (fun k b eb=>by rw [List.getElem?_append_left (List.getElem?_eq_some_iff.mp eb).1];exact eb) (fun a o x y=>⟨x,y⟩) ts e3⟩
  ·rw [List.getElem?_append_right (by omega)] at e
   have hk:n - A.length < (PI.thaw M.length t).2.length:=by rw [l];exact (List.getElem?_eq_some_iff.mp e).1
   obtain ⟨b,us,e1,e2,e3⟩:=c (n - A.length) _ (List.getElem?_eq_getElem hk)
   rw [e] at e1;cases e1
   have hnm:n - M.length=n - A.length:=by rw [R.len]
   exact ⟨_,us,by rw [List.getElem?_append_right (by rw [<- R.len];omega),hnm];exact List.getElem?_eq_getElem hk,e2,e3⟩
 ·exact qAn (fun k b eb=>by rw [List.getElem?_append_left (List.getElem?_eq_some_iff.mp eb).1];exact eb) (fun a o x y=>⟨x,y⟩) t (R.glo g t e)
noncomputable def RelO (gl:List T) (A X:List Nat) (n:Nat) (h:AH) (M:Mem):PO -> Out -> Prop
 | .nx σ,.nx σh=>qBf A X h σ σh
 | .bk σ,.bk σh=>qBf A X h σ σh
 | .ct σ,.ct σh=>qBf A X h σ σh
 | .rt t,.rt w=>QE gl A X n t w h M
 | _,_=>False
theorem RelO.le {gl:List T} {A X:List Nat} {n m:Nat} {h:AH} {M:Mem} {o:PO} {oh:Out} (r:RelO gl A X n h M o oh) (l:m<=n):RelO gl A X m h M o oh:=by
 cases o<;>cases oh<;>first | exact r | exact QE.le r l
noncomputable def SimS (gl:List T) (A X:List Nat) (h:AH):RSt -> RS -> Prop
 | .ok (o,M'),r=>∃ oh h' B,r=.ok (oh,h')/\Frm A h h'/\(∀ b∈B,h.length<=b)/\RelM gl (A++B) (X++B) h' M'/\RelO gl (A++B) (X++B) h.length h' M' o oh
 | .exc c M',r=>∃ h' B,r=.exc c h'/\Frm A h h'/\(∀ b∈B,h.length<=b)/\RelM gl (A++B) (X++B) h' M'
 | .stuck,_=>True
theorem SimS.stuck {gl:List T} {A X:List Nat} {h:AH} {r:RS}:SimS gl A X h .stuck r:=trivial
theorem SimS.mk {gl:List T} {A X:List Nat} {h:AH} {M:Mem} {o:PO} {oh:Out} (R:RelM gl A X h M) (ro:RelO gl A X h.length h M o oh):SimS gl A X h (.ok (o,M)) (.ok (oh,h)):=
 ⟨oh,h,[],rfl,Frm.refl A h,fun b hb=>by simp at hb,by simpa using R,by simpa using ro⟩
theorem SimS.pre {gl:List T} {A X:List Nat} {h h1:AH} {r:RSt} {rh:RS} (s:SimS gl A X h1 r rh) (f:Frm A h h1):SimS gl A X h r rh:=by
 cases r with
 | ok p=>
  obtain ⟨o,M'⟩:=p
  obtain ⟨oh,h',B,e,f1,hB,R,ro⟩:=s
  exact ⟨oh,h',B,e,f.trans f1,fun b hb=>Nat.le_trans f.1 (hB b hb),R,ro.le f.1⟩
 | exc c M'=>
  obtain ⟨h',B,e,f1,hB,R⟩:=s
  exact ⟨h',B,e,f.trans f1,fun b hb=>Nat.le_trans f.1 (hB b hb),R⟩
 | stuck=>trivial
theorem Sim.bindS {α β:Type} {gl:List T} {A X:List Nat} {h:AH} {Q:α -> β -> AH -> Mem -> Prop} {r:PR (α×Mem)} {rh:Res (β×AH)} {f:α×Mem -> RSt} {g:β×AH -> RS}
  (s:Sim gl A X h Q r rh) (k:∀ x M' y h',Frm A h h' -> RelM gl A X h' M' -> Q x y h' M' -> SimS gl A X h' (f (x,M')) (g (y,h'))):SimS gl A X h (r.bind f) (rh.bind g):=by
 cases r with
 | ok p=>
  obtain ⟨x,M'⟩:=p
  obtain ⟨y,h',rfl,f1,R1,q⟩:=s
  exact (k x M' y h' f1 R1 q).pre f1
 | exc c M'=>
  obtain ⟨h',rfl,f1,R1⟩:=s
  exact ⟨h',[],rfl,f1,fun b hb=>by simp at hb,by simpa using R1⟩
 | stuck=>trivial
theorem SimS.bind {gl:List T} {A X:List Nat} {h:AH} {r:RSt} {rh:RS} {f:PO×Mem -> RSt} {g:Out×AH -> RS}
  (s:SimS gl A X h r rh) (k:∀ o M' oh h' B,Frm A h h' -> (∀ b∈B,h.length<=b) -> RelM gl (A++B) (X++B) h' M' -> RelO gl (A++B) (X++B) h.length h' M' o oh -> SimS gl (A++B) (X++B) h' (f (o,M')) (g (oh,h'))\/(f (o,M')=.ok (o,M')/\g (oh,h')=.ok (oh,h'))):SimS gl A X h (r.bind f) (rh.bind g):=by
 cases r with
 | ok p=>
  obtain ⟨o,M'⟩:=p
  obtain ⟨oh,h',B,rfl,f1,hB,R,ro⟩:=s
  rw [PR.bind_ok,Res.bind_ok]
  rcases k o M' oh h' B f1 hB R ro with s2 | ⟨e1,e2⟩
  ·revert s2
   generalize f (o,M')=r2
   generalize g (oh,h')=rh2
   intro s2
   cases r2 with
   | ok p2=>
    obtain ⟨o2,M2⟩:=p2
    obtain ⟨oh2,h2,B2,rfl,f2,hB2,R2,ro2⟩:=s2
    rw [List.append_assoc,List.append_assoc] at R2 ro2
    exact ⟨oh2,h2,B++B2,rfl,f1.trans2 hB f2,fun b hb=>by
     rcases List.mem_append.mp hb with z | z
     ·exact hB b z
     ·exact Nat.le_trans f1.1 (hB2 b z),R2,ro2.le f1.1⟩
   | exc c M2=>
    obtain ⟨h2,B2,rfl,f2,hB2,R2⟩:=s2
    rw [List.append_assoc,List.append_assoc] at R2
    exact ⟨h2,B++B2,rfl,f1.trans2 hB f2,fun b hb=>by
     rcases List.mem_append.mp hb with z | z
     ·exact hB b z
     ·exact Nat.le_trans f1.1 (hB2 b z),R2⟩
   | stuck=>trivial
  ·rw [e1,e2]
   exact ⟨oh,h',B,rfl,f1,hB,R,ro⟩
 | exc c M'=>
  obtain ⟨h',B,rfl,f1,hB,R⟩:=s
  exact ⟨h',B,rfl,f1,hB,R⟩
 | stuck=>trivial
theorem qCd {A X B:List Nat} {h h':AH} (hs:∀ a∈A,a∈X) (f:Frm A h h') (hB:∀ b∈B,h.length<=b):∀ a o,a∉X -> h[a]?=some o -> a∉X++B/\h'[a]?=some o:=fun a o x y=>⟨by
 rw [List.mem_append];rintro (z | z)
 ·exact x z
 ·have:=hB a z;have:=qAF y;omega,(f.2 a (qAF y) fun z=>x (hs _ z)).trans y⟩
theorem qBH {A B:List Nat}:∀ (n:Nat) a,A[n]?=some a -> (A++B)[n]?=some a:=fun n a e=>by rw [List.getElem?_append_left (List.getElem?_eq_some_iff.mp e).1];exact e
theorem qGk {gl:List T} {s:Src} {its:List T} {d:qCM} {g:Tg} {b:TS -> Mem -> RSt} {b':List (Option V) -> AH -> RS}
  (hb:∀ A X h M σ σh,RelM gl A X h M -> qBf A X h σ σh -> SimS gl A X h (b σ M) (b' σh h)):∀ (r:List T) (i:Nat) (σ:TS) (σh:List (Option V)) (M:Mem) (h:AH) (A X:List Nat),
   its.drop i=r -> i<=its.length -> RelM gl A X h M -> qB5 A X h s its d -> qBf A X h σ σh -> SimS gl A X h (qBW d g b r σ M) (qEO s g b' r.length i σh h)
 | [],i,σ,σh,M,h,A,X,hr,hi,R,sr,rs=>by
  have hi':i=its.length:=by
   have:=List.drop_eq_nil_iff.mp hr;omega
  subst hi'
  show SimS gl A X h (.ok (.nx σ,M)) (if qBV h its.length s then _ else _)
  rw [if_pos (qCa sr)]
  exact SimS.mk R rs
 | x::r,i,σ,σh,M,h,A,X,hr,hi,R,sr,rs=>by
  have ex:its[i]?=some x:=by
   have:(its.drop i)[0]?=some x:=by rw [hr];rfl
   rwa [List.getElem?_drop,Nat.add_zero] at this
  have hi2:i + 1<=its.length:=(List.getElem?_eq_some_iff.mp ex).1
  have hr2:its.drop (i + 1)=r:=by
   rw [<- List.drop_drop,hr];rfl
  obtain ⟨w,ext,ey,rx⟩:=qCG R sr ex
  have fy:Frm A h (h++ext):=Frm.app A h ext
  rw [List.length_cons]
  unfold qBW qEO
  rw [ey]
  dsimp only
  cases es:qBE g x σ with
  | none=>exact SimS.stuck
  | some σ1=>
   obtain ⟨σh1,esh,rs1⟩:=store_ok es rx (R.keepS fy rs)
   rw [esh]
   dsimp only
   refine SimS.bind ((hb A X _ M σ1 σh1 (R.up ext) rs1).pre fy) ?_
   intro o M2 oh h2 B f2 hB R2 ro
   have nxt:∀ σ2 σh2,qBf (A++B) (X++B) h2 σ2 σh2 -> SimS gl (A++B) (X++B) h2 (if qAc d M2=true then qBW d g b r σ2 M2 else .stuck) (qEO s g b' r.length (i + 1) σh2 h2):=fun σ2 σh2 rs2=>by
    split
    ·rename_i hd
     exact qGk hb r (i + 1) σ2 σh2 M2 h2 _ _ hr2 hi2 R2 (qDJ sr (qCd R.sub f2 hB) R2 hd qBH) rs2
    ·exact SimS.stuck
   cases o with
   | nx σ2=>cases oh<;>first | exact .inl (nxt _ _ ro) | exact ro.elim
   | ct σ2=>cases oh<;>first | exact .inl (nxt _ _ ro) | exact ro.elim
   | bk σ2=>cases oh<;>first | exact .inl (SimS.mk R2 ro) | exact ro.elim
   | rt t=>cases oh<;>first | exact .inr ⟨rfl,rfl⟩ | exact ro.elim
section
variable {gl:List T} {P:Nat -> List T -> Mem -> PR (TB×Mem)} {F:Nat -> List V -> AH -> RV} (C:List Nat)
variable (hF:∀ f ts ws A X h M,RelM gl A X h M -> qAH A X h ts ws -> Sim gl A X h (QE gl A X h.length) (P f ts M) (F f ws h))
include hF
omit hF in
theorem Res.bind_assoc {α β γ:Type} (r:Res α) (f:α -> Res β) (g:β -> Res γ):(r.bind f).bind g=r.bind fun a=>(f a).bind g:=by cases r<;>rfl
omit hF in
theorem qFY (e:E) (σ:List (Option V)):∀ (as:Es) (h:AH),evs F (as.snoc e) σ h=(evs F as σ h).bind fun p=>(ev F e σ p.2).bind fun q=>.ok (p.1++[q.1],q.2)
 | .nil,h=>by
  show evs F (.cons e .nil) σ h=_
  rw [evs,evs,Res.bind_ok]
  rfl
 | .cons a as,h=>by
  show evs F (.cons a (as.snoc e)) σ h=_
  rw [evs,evs]
  dsimp only
  rw [Res.bind_assoc]
  congr 1
  funext p
  rw [qFY e σ as,Res.bind_assoc,Res.bind_assoc]
  congr 1
  funext q
  rw [Res.bind_assoc,Res.bind_ok]
  rfl
noncomputable def qO3 (gl:List T) (A X:List Nat) (h:AH):PR (TB×Mem) -> RV -> Prop
 | .ok ((.lst ts,_),M1),r=>∃ h1 vs,r=.ok (.ref h1.length,h1++[.lst false vs])/\Frm A h h1/\RelM gl A X h1 M1/\qAH A X h1 ts vs
 | _,_=>True
omit hF in
theorem RelM.cellN {gl:List T} {A X:List Nat} {h:AH} {M:Mem} {ts:List T} {vs:List V} (R:RelM gl A X h M) (r:qAH A X h ts vs):RelM gl (A++[h.length]) (X++[h.length]) (h++[.lst false vs]) (M++[ts]):=by
 have hn:∀ a o,a∉X -> h[a]?=some o -> a∉X++[h.length]/\(h++[O.lst false vs])[a]?=some o:=qCd R.sub (Frm.app A h _) (fun b hb=>by simp at hb;omega)
 refine ⟨by simp [R.len],?_,fun a ha=>?_,fun a ha=>?_,fun n a e=>?_,fun g t e=>qAn qBH hn t (R.glo g t e)⟩
 ·rw [List.nodup_append]
  refine ⟨R.nd,by simp,fun a ha b hb=>?_⟩
  have:=R.lt a (R.sub a ha)
  simp at hb
  omega
 ·rcases List.mem_append.mp ha with z | z
  ·exact List.mem_append_left _ (R.sub a z)
  ·exact List.mem_append_right _ z
 ·rcases List.mem_append.mp ha with z | z
  ·have:=R.lt a z;simp;omega
  ·simp at z;simp [z]
 ·by_cases hlt:n < A.length
  ·rw [List.getElem?_append_left hlt] at e
   obtain ⟨us,ws,e1,e2,e3⟩:=R.at_ n a e
   exact ⟨us,ws,by rw [List.getElem?_append_left (by rw [<- R.len];exact hlt)];exact e1,by rw [List.getElem?_append_left (qAF e2)];exact e2,qAK qBH hn us e3⟩
  ·have hl:=(List.getElem?_eq_some_iff.mp e).1
   have hnn:n=A.length:=by simp at hl;omega
   subst hnn
   simp at e
   subst e
   exact ⟨ts,vs,by rw [R.len];simp,by simp,qAK qBH hn ts r⟩
omit hF in
theorem qGR {e:E} (h:qLY e=true):(∃ as,e=.lst as)\/∃ a b,e=.bin .add a b:=by
 unfold qLY at h
 split at h
 ·exact .inr ⟨_,_,rfl⟩
 ·exact .inl ⟨_,rfl⟩
 ·cases h
theorem qJb (e:E) (he:qLY e=true) (A X:List Nat) (h:AH) (M:Mem) (σ:TS) (σh:List (Option V)) (R:RelM gl A X h M) (rs:qBf A X h σ σh):qO3 gl A X h (pe gl P e σ M) (ev F e σh h):=by
 rcases qGR he with ⟨as,rfl⟩ | ⟨a,b,rfl⟩
 ·rw [pe,ev];dsimp only
  have s1:=qBR hF as A X h M σ σh R rs
  revert s1
  generalize pes gl P as σ M=r
  generalize evs F as σh h=rh
  intro s1
  cases r with
  | stuck=>trivial
  | exc c M'=>trivial
  | ok p=>
   obtain ⟨x,M1⟩:=p
   obtain ⟨w,h1,rfl,f1,R1,q⟩:=s1
   rw [PR.bind_ok,Res.bind_ok]
   dsimp only
   rw [<- q.len]
   split
   ·exact ⟨h1,w,rfl,f1,R1,q.1⟩
   ·trivial
 ·rw [pe,ev];dsimp only
  have s1:=qAW hF a A X h M σ σh R rs
  revert s1
  generalize pe gl P a σ M=r
  generalize ev F a σh h=rh
  intro s1
  cases r with
  | stuck=>trivial
  | exc c M'=>trivial
  | ok p=>
   obtain ⟨x,M1⟩:=p
   obtain ⟨v,h1,rfl,f1,R1,q1⟩:=s1
   rw [PR.bind_ok,Res.bind_ok]
   dsimp only
   have s2:=qAW hF b A X h1 M1 σ σh R1 (R.keepS f1 rs)
   revert s2
   generalize pe gl P b σ M1=r
   generalize ev F b σh h1=rh
   intro s2
   cases r with
   | stuck=>trivial
   | exc c M'=>trivial
   | ok p=>
    obtain ⟨y,M2⟩:=p
    obtain ⟨w,h2,rfl,f2,R2,q2⟩:=s2
    rw [PR.bind_ok,Res.bind_ok]
    dsimp only
    have rx:=R1.keep f2 q1.1
    cases eb:qAq M2 .add x.1 y.1 with
    | none=>trivial
    | some r=>
     rw [PR.ofO_some,PR.bind_ok]
     unfold qAq at eb
     split at eb
     ·cases eb;trivial
     ·cases eb
     ·rename_i e1 e2
      dsimp only at eb
      split at eb
      ·split at eb
       ·cases eb;trivial
       ·cases eb
      rename_i u0 u1 u2
      clear u2
      obtain ⟨xs,m1,eb⟩:=Option.bind_eq_some_iff.mp eb
      obtain ⟨ys,m2,eb⟩:=Option.bind_eq_some_iff.mp eb
      split at eb
      ·rename_i hl
       cases eb
       obtain ⟨a1,vs,rfl,g1,k1⟩:=qF7 R2 rx m1
       obtain ⟨a2,us,rfl,g2,k2⟩:=qF7 R2 q2.1 m2
       refine ⟨h2,vs++us,?_,f1.trans f2,R2,reps_iff.mpr (qAo (reps_iff.mp k1) (reps_iff.mp k2))⟩
       show (match qAU h2 a1,qAU h2 a2 with | some xs,some ys=>if xs.length + ys.length<=lim then newL (xs++ys) h2 else .stuck | _,_=>_)=_
       rw [g1,g2]
       dsimp only
       rw [<- qAB (reps_iff.mp k1),<- qAB (reps_iff.mp k2),if_pos hl]
       rfl
      ·cases eb
     ·cases eb
omit hF in
theorem qIz {σ:List (Option V)} {h:AH} {x a:Nat} {k:Int} {vs:List V} {v:V} (ex:σ[x]?=some (some (.ref a))) (ea:h[a]?=some (.tup vs)) (ev':(ixN vs.length k).bind (fun j=>vs[j]?)=some v):ev F (.idx (.var x) (.cst (.int k))) σ h=.ok (v,h):=by
 have e0:ev F (.var x) σ h=.ok (.ref a,h):=by
  show (match σ[x]? with | some (some v)=>Res.ok (v,h) | _=>.stuck)=_
  rw [ex]
 show (ev F (.var x) σ h).bind (fun p=>match p.1,V.int k with
  | .ref p',.int i=>match items p.2 p' with
   | some xs=>match (ixN xs.length i).bind fun j=>xs[j]? with | some v=>Res.ok (v,p.2) | none=>.stuck
   | none=>.stuck
  | _,_=>.stuck)=_
 rw [e0,Res.bind_ok]
 dsimp only
 rw [show items h a=some vs by unfold items;rw [ea]]
 dsimp only
 rw [ev']
omit hF in
theorem qFS {σ:List (Option V)} {h:AH} {u:Nat} {v:V} (eu:σ[u]?=some (some v)):ev F (.var u) σ h=.ok (v,h):=by
 show (match σ[u]? with | some (some v)=>Res.ok (v,h) | _=>.stuck)=_
 rw [eu]
omit hF in
theorem qLS {σ:List (Option V)} {h:AH} {x u a D:Nat} {k i:Int} {vs:List V} {ks:List (Int×V)} (ex:σ[x]?=some (some (.ref a))) (ea:h[a]?=some (.tup vs)) (ev':(ixN vs.length k).bind (fun j=>vs[j]?)=some (.int i)) (eu:σ[u]?=some (some (.ref D))) (eD:h[D]?=some (.ob (.dct ks))):ev F (.cmp .inn (.idx (.var x) (.cst (.int k))) (.var u)) σ h=.ok (.bl (qC9 ks i),h):=by
 show (ev F (.idx (.var x) (.cst (.int k))) σ h).bind (fun p=>(ev F (.var u) σ p.2).bind fun q=>qHf .inn p.1 q.1 q.2)=_
 rw [qIz ex ea ev',Res.bind_ok]
 dsimp only
 rw [qFS eu,Res.bind_ok]
 unfold qHf qHn qJz
 dsimp only
 rw [show items h D=none by unfold items;rw [eD]]
 dsimp only
 rw [show qDt h D=some ks by unfold qDt;rw [eD]]
omit hF in
theorem qLk {σ:List (Option V)} {h:AH} {x u a D:Nat} {k i:Int} {vs:List V} {ks:List (Int×V)} (ex:σ[x]?=some (some (.ref a))) (ea:h[a]?=some (.tup vs)) (ev':(ixN vs.length k).bind (fun j=>vs[j]?)=some (.int i)) (eu:σ[u]?=some (some (.ref D))) (eD:h[D]?=some (.ob (.dct ks))) (hl:ks.length < lim):qJ4 F u x k σ h=.ok (.nx σ,h.set D (.ob (.dct (qBz ks i (.bl true))))):=by
 unfold qJ4
 rw [show ev F (.cst (.bl true)) σ h=.ok (.bl true,h) from rfl,Res.bind_ok]
 dsimp only
 rw [qFS eu,Res.bind_ok]
 dsimp only
 rw [qIz ex ea ev',Res.bind_ok]
 dsimp only
 rw [show qAU h D=none by unfold qAU;rw [eD],show qDt h D=some ks by unfold qDt;rw [eD]]
 dsimp only
 rw [if_pos ⟨rfl,hl⟩]
omit hF in
theorem qDj (ks:List (Int×V)) (k:Int) (v:V):(qBz ks k v).length<=ks.length + 1:=by
 unfold qBz
 split<;>simp
omit hF in
theorem qEP {σ:List (Option V)} {h h2:AH} {u x f i:Nat} {lv w:V} {b:Bool} (ei:σ[i]?=some (some lv)) (ex:σ[x]?=some (some w)) (ef:F f [lv,w] h=.ok (.bl b,h2)):asB (ev F (qOY u x f i) σ h)=if b then asB (ev F (.or (.cmp .inn (.idx (.var x) (.cst (.int 0))) (.var u)) (.cmp .inn (.idx (.var x) (.cst (.int 1))) (.var u))) σ h2) else .ok (true,h2):=by
 show asB ((asB ((asB (((ev F (.var i) σ h).bind fun p=>((ev F (.var x) σ p.2).bind fun q=>Res.ok ([q.1],q.2)).bind fun q=>Res.ok (p.1::q.1,q.2)).bind fun p=>(F f p.1 p.2).nx)).bind fun p=>Res.ok (V.bl (!p.1),p.2))).bind fun p=>if p.1 then Res.ok (V.bl true,p.2) else ev F (.or (.cmp .inn (.idx (.var x) (.cst (.int 0))) (.var u)) (.cmp .inn (.idx (.var x) (.cst (.int 1))) (.var u))) σ p.2)=_
 rw [qFS ei,Res.bind_ok]
 dsimp only
 rw [qFS ex,Res.bind_ok,Res.bind_ok,Res.bind_ok,ef]
 cases b<;>rfl
omit hF in
theorem qF2 {σ:List (Option V)} {h h2:AH} {u x f i:Nat} {lv w:V} (ei:σ[i]?=some (some lv)) (ex:σ[x]?=some (some w)) (ef:F f [lv,w] h=.ok (.bl false,h2)):qBm F u x f i σ h=.ok (.rt (.bl false),h2):=by
 unfold qBm
 rw [qEP ei ex ef]
 rfl
omit hF in
theorem qG8 {σ:List (Option V)} {h h2:AH} {u x f i a D:Nat} {lv:V} {p q:Int} {ks:List (Int×V)} (ei:σ[i]?=some (some lv)) (ex:σ[x]?=some (some (.ref a))) (ef:F f [lv,.ref a] h=.ok (.bl true,h2)) (ea:h2[a]?=some (.tup [.int p,.int q])) (eu:σ[u]?=some (some (.ref D))) (eD:h2[D]?=some (.ob (.dct ks))) (hl:ks.length + 1 < lim):
  qBm F u x f i σ h=if qC9 ks p||qC9 ks q then .ok (.rt (.bl false),h2) else .ok (.nx σ,h2.set D (.ob (.dct (qBz (qBz ks p (.bl true)) q (.bl true))))):=by
 have i0:(ixN ([V.int p,V.int q]:List V).length 0).bind (fun j=>([V.int p,V.int q]:List V)[j]?)=some (.int p):=rfl
 have i1:(ixN ([V.int p,V.int q]:List V).length 1).bind (fun j=>([V.int p,V.int q]:List V)[j]?)=some (.int q):=rfl
 have c0:=qLS (F:=F) ex ea i0 eu eD
 have c1:=qLS (F:=F) ex ea i1 eu eD
 have ne:a≠D:=by rintro rfl;rw [ea] at eD;cases eD
 have lD:D < h2.length:=qAF eD
 have p0:=qLk (F:=F) ex ea i0 eu eD (by omega)
 have ea':(h2.set D (.ob (.dct (qBz ks p (.bl true)))))[a]?=some (.tup [.int p,.int q]):=by rw [List.getElem?_set_ne (Ne.symm ne)];exact ea
 have p1:=qLk (F:=F) ex ea' i1 eu (ks:=qBz ks p (.bl true)) (by rw [List.getElem?_set_self lD]) (by have:=qDj ks p (.bl true);omega)
 unfold qBm
 rw [qEP ei ex ef,if_pos rfl]
 rw [show ev F (.or (.cmp .inn (.idx (.var x) (.cst (.int 0))) (.var u)) (.cmp .inn (.idx (.var x) (.cst (.int 1))) (.var u))) σ h2=(asB (ev F (.cmp .inn (.idx (.var x) (.cst (.int 0))) (.var u)) σ h2)).bind fun p=>if p.1 then .ok (.bl true,p.2) else ev F (.cmp .inn (.idx (.var x) (.cst (.int 1))) (.var u)) σ p.2 from rfl,c0]
 cases qC9 ks p with
 | true=>rfl
 | false=>
  rw [show (asB (.ok (.bl false,h2))).bind (fun p:Bool×AH=>if p.1 then .ok (.bl true,p.2) else ev F (.cmp .inn (.idx (.var x) (.cst (.int 1))) (.var u)) σ p.2)=ev F (.cmp .inn (.idx (.var x) (.cst (.int 1))) (.var u)) σ h2 from rfl,c1]
  cases qC9 ks q with
  | true=>rfl
  | false=>
   show qEk (qJ4 F u x 0 σ h2) (fun σ h=>qEk (qJ4 F u x 1 σ h) fun σ h=>Res.ok (Out.nx σ,h))=_
   rw [p0]
   show qEk (qJ4 F u x 1 σ (h2.set D (.ob (.dct (qBz ks p (.bl true)))))) (fun σ h=>Res.ok (Out.nx σ,h))=_
   rw [p1,List.set_set]
   rfl
noncomputable def SimN (gl:List T) (A X:List Nat) (D n0:Nat) (h:AH):RSt -> RS -> Prop
 | .ok (o,M'),r=>∃ oh h',r=.ok (oh,h')/\Frm (A++[D]) h h'/\RelM gl A X h' M'/\RelO gl A X n0 h' M' o oh
 | .exc _ _,_=>False
 | .stuck,_=>True
omit hF in
theorem SimN.pre {A X:List Nat} {D n0:Nat} {h h1:AH} {r:RSt} {rh:RS} (s:SimN gl A X D n0 h1 r rh) (f:Frm (A++[D]) h h1):SimN gl A X D n0 h r rh:=by
 match r,s with
 | .ok (o,M'),⟨oh,h',e,f1,R,ro⟩=>exact ⟨oh,h',e,f.trans f1,R,ro⟩
 | .exc _ _,z=>exact z.elim
 | .stuck,_=>trivial
omit hF in
theorem Frm.more {A:List Nat} {D:Nat} {h h':AH} (f:Frm A h h'):Frm (A++[D]) h h':=⟨f.1,fun j hj hA=>f.2 j hj fun z=>hA (List.mem_append_left _ z)⟩
theorem qGw {A X:List Nat} {s:Src} {its:List T} {d:qCM} {u x f i D n0:Nat} {l:T} (hi:u≠i/\x≠i/\u≠x) (hD:D∈X) (hA:D∉A):∀ (r:List T) (n:Nat) (ks:List (Int×V)) (σ:TS) (σh:List (Option V)) (M:Mem) (h:AH) (lv:V),
   its.drop n=r -> n<=its.length -> RelM gl A X h M -> qB5 A X h s its d -> qBf A X h σ σh -> σh[u]?=some (some (.ref D)) -> h[D]?=some (.ob (.dct ks)) -> σh[i]?=some (some lv) -> Rep A X h l lv -> x < σh.length -> n0<=h.length -> SimN gl A X D n0 h (qCL P d f x l r ks σ M) (qEO s (.name x) (qBm F u x f i) r.length n σh h)
 | [],n,ks,σ,σh,M,h,lv,hr,hn,R,sr,rs,eu,eD,ei,rl,hx,h0=>by
  have hi':n=its.length:=by
   have:=List.drop_eq_nil_iff.mp hr;omega
  subst hi'
  show SimN gl A X D n0 h (.ok (.nx σ,M)) (if qBV h its.length s then _ else _)
  rw [if_pos (qCa sr)]
  exact ⟨_,h,rfl,Frm.refl _ _,R,rs⟩
 | t::r,n,ks,σ,σh,M,h,lv,hr,hn,R,sr,rs,eu,eD,ei,rl,hx,h0=>by
  have ex:its[n]?=some t:=by
   have:(its.drop n)[0]?=some t:=by rw [hr];rfl
   rwa [List.getElem?_drop,Nat.add_zero] at this
  have hn2:n + 1<=its.length:=(List.getElem?_eq_some_iff.mp ex).1
  have hr2:its.drop (n + 1)=r:=by
   rw [<- List.drop_drop,hr];rfl
  obtain ⟨w,ext,ey,rx⟩:=qCG R sr ex
  have fy:Frm A h (h++ext):=Frm.app A h ext
  have R1:=R.up ext
  have rl1:=R.keep fy rl
  rw [List.length_cons]
  unfold qCL qEO
  rw [ey]
  have st:store (.name x) w σh (h++ext)=some (σh.set x (some w)):=rfl
  dsimp only
  rw [st]
  dsimp only
  have ei1:(σh.set x (some w))[i]?=some (some lv):=by rw [List.getElem?_set_ne hi.2.1];exact ei
  have eu1:(σh.set x (some w))[u]?=some (some (.ref D)):=by rw [List.getElem?_set_ne (Ne.symm hi.2.2)];exact eu
  have ex1:(σh.set x (some w))[x]?=some (some w):=List.getElem?_set_self hx
  have sm:=hF f [l,t] [lv,w] A X (h++ext) M R1 (by unfold qAH;exact ⟨lv,[w],rfl,rl1,by unfold qAH;exact ⟨w,[],rfl,rx,by unfold qAH;rfl⟩⟩)
  revert sm
  generalize P f [l,t] M=rp
  intro sm
  match rp,sm with
  | .stuck,_=>trivial
  | .exc _ _,_=>trivial
  | .ok ((y,fl),M2),⟨yv,h2,ef,f2,R2,q⟩=>
   rw [PR.nx_ok,PR.bind_ok]
   dsimp only
   have rt_ok:RelO gl A X n0 h2 M2 (.rt (bT false)) (.rt (.bl false)):=by
    have rr:Rep A X h2 (.v (.bl false)) (.bl false):=by unfold Rep;exact ⟨rfl,rfl⟩
    exact ⟨rr,fun _=>Frs.of_lf R2 rr rfl⟩
   have fr2:Frm (A++[D]) h h2:=(fy.trans f2).more
   split
   ·rename_i ee
    have ry:=q.1
    unfold Rep at ry
    rw [ry.1] at ef
    rw [qF2 ei1 ex1 ef]
    exact ⟨_,h2,rfl,fr2,R2,rt_ok⟩
   ·rename_i ee
    have ry:=q.1
    unfold Rep at ry
    rw [ry.1] at ef
    split
    ·rename_i p q'
     have rx2:=R1.keep f2 rx
     unfold Rep at rx2
     obtain ⟨a,vs,rfl,ax,ea,rvs⟩:=rx2
     have hvs:vs=[.int p,.int q']:=by
      unfold qAH at rvs
      obtain ⟨v1,vs1,rfl,r1,rvs⟩:=rvs
      unfold qAH at rvs
      obtain ⟨v2,vs2,rfl,r2,rvs⟩:=rvs
      unfold qAH at rvs
      unfold Rep at r1 r2
      rw [rvs,r1.1,r2.1]
     subst hvs
     have eD2:h2[D]?=some (.ob (.dct ks)):=by
      rw [(fy.trans f2).2 D (qAF eD) hA];exact eD
     have lD:D < h2.length:=qAF eD2
     split
     ·rename_i hd
      rw [qG8 ei1 ex1 ef ea eu1 eD2 hd.2]
      split
      ·exact ⟨_,h2,rfl,fr2,R2,rt_ok⟩
      ·have kp:∀ a o,a∉X -> h[a]?=some o -> a∉X/\(h2.set D (.ob (.dct (qBz (qBz ks p (.bl true)) q' (.bl true)))))[a]?=some o:=fun a o z e=>⟨z,by
        rw [List.getElem?_set_ne (by rintro rfl;exact z hD)]
        exact ((R.keepN (fy.trans f2)) a o z e).2⟩
       have R3:=R2.setX hD hA (.ob (.dct (qBz (qBz ks p (.bl true)) q' (.bl true))))
       have kp2:∀ a o,a∉X -> h2[a]?=some o -> a∉X/\(h2.set D (.ob (.dct (qBz (qBz ks p (.bl true)) q' (.bl true)))))[a]?=some o:=fun a o z e=>⟨z,by
        rw [List.getElem?_set_ne (by rintro rfl;exact z hD)];exact e⟩
       have fr3:Frm (A++[D]) h (h2.set D (.ob (.dct (qBz (qBz ks p (.bl true)) q' (.bl true))))):=fr2.set (.inl (by simp)) _
       refine SimN.pre ?_ fr3
       exact qGw hi hD hA r (n + 1) _ _ _ M2 _ lv hr2 hn2 R3 (qEJ sr (fun a o z e=>(kp a o z e).2) R3 hd.1) (qAw x (qAx (fun _ _ e=>e) kp rs) (show qJD A X _ (some _) (some _) from qAn (fun _ _ e=>e) kp2 _ (R1.keep f2 rx))) eu1 (List.getElem?_set_self lD) ei1 (qAn (fun _ _ e=>e) kp _ rl) (by simpa using hx) (by have:=fr3.1;omega)
     ·trivial
    ·trivial
   ·trivial
mutual
theorem qLx:∀ (s:S) (A X:List Nat) (h:AH) (M:Mem) (σ:TS) (σh:List (Option V)),RelM gl A X h M -> qBf A X h σ σh -> SimS gl A X h (px gl P C s σ M) (ex F s σh h)
 | .asg g e,A,X,h,M,σ,σh,R,rs=>by
  rw [px,ex];dsimp only
  have se:=qAW hF e A X h M σ σh R rs
  have tp:=fun he=>qJb hF e he A X h M σ σh R rs
  revert se tp
  generalize pe gl P e σ M=r
  generalize ev F e σh h=rh
  intro se tp
  cases r with
  | stuck=>trivial
  | exc c M'=>
   obtain ⟨h',rfl,f1,R1⟩:=se
   exact ⟨h',[],rfl,f1,fun b hb=>by simp at hb,by simpa using R1⟩
  | ok p=>
   obtain ⟨x,M1⟩:=p
   obtain ⟨w,h1,rfl,f1,R1,q⟩:=se
   rw [PR.bind_ok,Res.bind_ok]
   dsimp only
   have gen:∀ {g:Tg} {σ1:TS},qBE g x.1 σ=some σ1 -> SimS gl A X h (.ok (.nx σ1,M1)) (match store g w σh h1 with | some σ1=>.ok (.nx σ1,h1) | none=>.stuck):=fun e=>by
    obtain ⟨σh1,e2,rs2⟩:=store_ok e q.1 (R.keepS f1 rs)
    rw [e2]
    exact (SimS.mk (o:=.nx _) (oh:=.nx _) R1 rs2).pre f1
   cases g with
   | name i=>
    dsimp only
    split
    ·rename_i hc
     rw [Bool.and_eq_true] at hc
     obtain ⟨fp,p,nd,l,R'⟩:=q.2 hc.2
     obtain ⟨R2,r2⟩:=R'.thaw R.sub p nd
     refine ⟨.nx (σh.set i (some w)),h1,fp,rfl,f1,l,R2,?_⟩
     exact qAw i (qAx qBH (qCd R.sub f1 l) rs) (show qJD _ _ h1 (some _) (some w) from r2)
    ·split
     ·rename_i hc
      rw [Bool.and_eq_true] at hc
      have tp:=tp hc.2
      obtain ⟨x1,x2⟩:=x
      dsimp only
      split
      ·rename_i ts
       obtain ⟨h0,vs,e0,f0,R0,r0⟩:=tp
       cases e0
       refine ⟨.nx (σh.set i (some (.ref h0.length))),_,[h0.length],rfl,f0.trans (Frm.app A h0 _),fun b hb=>by simp at hb;have:=f0.1;omega,R0.cellN r0,?_⟩
       refine qAw i (qAx qBH (qCd R0.sub (Frm.app A h0 _) (fun b hb=>by simp at hb;omega)) (R.keepS f0 rs)) (show qJD _ _ _ (some _) (some _) from ?_)
       have rc:Rep (A++[h0.length]) (X++[h0.length]) (h0++[O.lst false vs]) (.cell M1.length) (.ref h0.length):=by
        unfold Rep
        exact ⟨h0.length,by rw [<- R0.len];simp,rfl⟩
       exact rc
      ·exact SimS.stuck
     ·exact gen (g:=.name i) rfl
   | tup is=>
    dsimp only
    split
    ·rename_i σ1 e;exact gen e
    ·exact SimS.stuck
 | .put o i v,A,X,h,M,σ,σh,R,rs=>by
  rw [px,ex];dsimp only
  refine Sim.bindS (qAW hF v A X h M σ σh R rs) ?_
  intro x M1 vx h1 f1 R1 q1;dsimp only
  refine Sim.bindS (qAW hF o A X h1 M1 σ σh R1 (R.keepS f1 rs)) ?_
  intro y M2 w h2 f2 R2 q2;dsimp only
  refine Sim.bindS (qAW hF i A X h2 M2 σ σh R2 (R1.keepS f2 (R.keepS f1 rs))) ?_
  intro z M3 u h3 f3 R3 q3;dsimp only
  obtain ⟨ty,fy⟩:=y
  obtain ⟨tz,fz⟩:=z
  dsimp only
  split
  ·rename_i n k
   cases qA2 q3.1
   have q:=R2.keep f3 q2.1
   unfold Rep at q
   obtain ⟨p,ep,rfl⟩:=q
   obtain ⟨ts2,vs2,g1,g2,g3⟩:=R3.at_ n p ep
   rw [g1]
   dsimp only
   rw [show qAU h3 p=some vs2 by unfold qAU;rw [g2]]
   dsimp only
   rw [<- qAB (reps_iff.mp g3)]
   split
   ·rename_i j ej
    try simp only [ej]
    obtain ⟨R4,f4⟩:=R3.put ep (reps_iff.mpr (qAw j (reps_iff.mp g3) (R2.keep f3 (R1.keep f2 q1.1))))
    exact (SimS.mk (o:=.nx σ) (oh:=.nx σh) R4 (R3.keepS f4 (R2.keepS f3 (R1.keepS f2 (R.keepS f1 rs))))).pre f4
   ·exact SimS.stuck
  ·exact SimS.stuck
 | .expr e,A,X,h,M,σ,σh,R,rs=>by
  rw [px,ex];dsimp only
  refine Sim.bindS (qAW hF e A X h M σ σh R rs) ?_
  intro x M1 v h1 f1 R1 q1;dsimp only
  exact SimS.mk (o:=.nx σ) (oh:=.nx σh) R1 (R.keepS f1 rs)
 | .ret e,A,X,h,M,σ,σh,R,rs=>by
  rw [px,ex];dsimp only
  have se:=qAW hF e A X h M σ σh R rs
  revert se
  generalize pe gl P e σ M=r
  generalize ev F e σh h=rh
  intro se
  cases r with
  | stuck=>trivial
  | exc c M'=>
   obtain ⟨h',rfl,f1,R1⟩:=se
   exact ⟨h',[],rfl,f1,fun b hb=>by simp at hb,by simpa using R1⟩
  | ok p=>
   obtain ⟨x,M1⟩:=p
   obtain ⟨w,h1,rfl,f1,R1,q⟩:=se
   exact ⟨.rt w,h1,[],rfl,f1,fun b hb=>by simp at hb,by simpa using R1,by simpa using (show RelO gl A X h.length h1 M1 (.rt x) (.rt w) from q)⟩
 | .retc as e,A,X,h,M,σ,σh,R,rs=>by
  rw [px,ex];dsimp only
  rw [show ev F (.tup (as.snoc e)) σh h=(evs F (as.snoc e) σh h).bind fun p=>if p.1.length<=lim then newT p.1 p.2 else .stuck from by rw [ev],qFY,Res.bind_assoc,Res.bind_assoc]
  refine Sim.bindS (qBR hF as A X h M σ σh R rs) ?_
  intro x M1 v h1 f1 R1 q1;dsimp only
  rw [Res.bind_assoc]
  have se:=qAW hF e A X h1 M1 σ σh R1 (R.keepS f1 rs)
  revert se
  generalize pe gl P e σ M1=r
  generalize ev F e σh h1=rh
  intro se
  cases r with
  | stuck=>trivial
  | exc c M'=>
   obtain ⟨h',rfl,f2,R2⟩:=se
   exact ⟨h',[],rfl,f2,fun b hb=>by simp at hb,by simpa using R2⟩
  | ok p=>
   obtain ⟨y,M2⟩:=p
   obtain ⟨w,h2,rfl,f2,R2,q⟩:=se
   rw [PR.bind_ok,Res.bind_ok,Res.bind_ok]
   dsimp only
   split
   ·rename_i hc
    obtain ⟨fp,p,nd,l,R'⟩:=q.2 hc.1
    obtain ⟨R3,r3⟩:=R'.thaw R.sub p nd
    have ll:(v++[w]).length<=lim:=by
     have:=qAB (reps_iff.mp q1.1)
     rw [List.length_map] at this
     rw [List.length_append,<- this]
     exact hc.2
    rw [if_pos ll]
    have rp:Rep (A++fp) (X++fp) (h2++[O.tup (v++[w])]) (.tup (x.map (·.1)++[(thaw M2.length y.1).1])) (.ref h2.length):=by
     unfold Rep
     refine ⟨h2.length,v++[w],rfl,fun z=>by have:=R3.lt _ z;omega,by simp,?_⟩
     have g1:=qAK (qBH (B:=fp)) (qCd R1.sub (f2.trans (Frm.app A h2 [O.tup (v++[w])])) l) _ q1.1
     have g2:=R3.keep (Frm.app (A++fp) h2 [O.tup (v++[w])]) r3
     exact reps_iff.mpr (qAo (reps_iff.mp g1) ⟨w,[],rfl,g2,rfl⟩)
    exact ⟨.rt (.ref h2.length),h2++[O.tup (v++[w])],fp,rfl,f2.trans (Frm.app A h2 _),l,R3.up _,⟨rp,fun e=>by cases e⟩⟩
   ·exact SimS.stuck
 | .ifs c t u,A,X,h,M,σ,σh,R,rs=>by
  rw [px,ex];dsimp only
  refine Sim.bindS (qHO (qAW hF c A X h M σ σh R rs)) ?_
  rintro x M1 v h1 f1 R1 rfl;dsimp only
  cases x with
  | true=>simp only [if_true];exact qD4 t A X h1 M1 σ σh R1 (R.keepS f1 rs)
  | false=>simp only [Bool.false_eq_true,if_false];exact qD4 u A X h1 M1 σ σh R1 (R.keepS f1 rs)
 | .for_ g it b,A,X,h,M,σ,σh,R,rs=>by
  rw [px,ex];dsimp only
  refine Sim.bindS (qG0 hF it A X h M σ σh R rs) ?_
  intro s M1 sh h1 f1 R1 q1;dsimp only
  rw [qDk q1]
  exact qGk (fun A X h M σ σh R rs=>qD4 b A X h M σ σh R rs) s.1 0 σ σh M1 h1 A X rfl (Nat.zero_le _) R1 q1 (R.keepS f1 rs)
 | .xexpr f as,A,X,h,M,σ,σh,R,rs=>by
  rw [px,ex];dsimp only
  refine Sim.bindS (qBR hF as A X h M σ σh R rs) ?_
  intro x M1 v h1 f1 R1 q1;dsimp only
  refine Sim.bindS (hF f _ _ A X h1 M1 R1 q1.1) ?_
  intro y M2 w h2 f2 R2 q2;dsimp only
  exact SimS.mk R2 (R1.keepS f2 (R.keepS f1 rs))
 | .nloop u x f i a,A,X,h,M,σ,σh,R,rs=>by
  rw [px,ex];dsimp only
  split
  ·exact SimS.stuck
  ·rename_i hne
   have hX:∀ b,b∈X++[h.length]↔b=h.length\/b∈X:=fun b=>by rw [List.mem_append,List.mem_singleton];exact Or.comm
   have R0:=R.addX (o:=.ob (.dct [])) hX
   have hn:∀ b o,b∉X -> h[b]?=some o -> b∉X++[h.length]/\(h++[O.ob (.dct [])])[b]?=some o:=qCd R.sub (Frm.app A h _) (fun b hb=>by simp at hb;omega)
   have rs0:qBf A (X++[h.length]) (h++[O.ob (.dct [])]) (σ.set u none) (σh.set u (some (.ref h.length))):=qAw u (qAx (fun _ _ e=>e) hn rs) (show qJD A _ _ none _ from trivial)
   have ll:=qAB rs
   have sp:=qG0 hF (.list a) A (X++[h.length]) _ M _ _ R0 rs0
   revert sp
   generalize pei gl P (.list a) (σ.set u none) M=rp
   generalize evi F (.list a) (σh.set u (some (.ref h.length))) (h++[O.ob (.dct [])])=re
   intro sp
   match rp,sp with
   | .stuck,_=>exact SimS.stuck
   | .exc c M1,⟨h1,e,f1,R1⟩=>
    subst e
    exact ⟨h1,[],rfl,(Frm.app A h _).trans f1,fun b hb=>by simp at hb,by simpa using R1.weak (fun a ha=>(hX a).mpr (.inr ha)) R.sub⟩
   | .ok (s,M1),⟨sh,h1,e,f1,R1,q1⟩=>
    subst e
    rw [PR.bind_ok,Res.bind_ok]
    dsimp only
    rw [qDk q1]
    dsimp only
    split
    ·rename_i l el
     obtain ⟨lv,elv,rl⟩:=qDV rs el
     have hD:h.length∈X++[h.length]:=by simp
     have hA:h.length∉A:=fun z=>by have:=R.lt _ (R.sub _ z);omega
     have e1:h1[h.length]?=some (.ob (.dct [])):=by
      rw [f1.2 h.length (by simp) hA];simp
     have kp:∀ b o,b∉X -> h[b]?=some o -> b∉X++[h.length]/\h1[b]?=some o:=fun b o z e=>⟨(hn b o z e).1,((R0.keepN f1) b o (hn b o z e).1 (hn b o z e).2).2⟩
     have sn:=qGw (n0:=h.length) hF (u:=u) (x:=x) (f:=f) (i:=i) (D:=h.length) (l:=l) (s:=sh) (its:=s.1) (d:=s.2) (by omega) hD hA s.1 0 [] (σ.set u none) (σh.set u (some (.ref h.length))) M1 h1 lv rfl (Nat.zero_le _) R1 q1 (R0.keepS f1 rs0) (List.getElem?_set_self (by omega)) e1 (by rw [List.getElem?_set_ne (by omega)];exact elv) (qAn (fun _ _ e=>e) kp l rl) (by simp;omega) (by have:=f1.1;simp at this;omega)
     revert sn
     generalize qCL P s.2 f x l s.1 [] (σ.set u none) M1=r2
     generalize qEO sh (.name x) (qBm F u x f i) s.1.length 0 (σh.set u (some (.ref h.length))) h1=re2
     intro sn
     have wk:∀ (h':AH) (b:Nat) (o:O),b∉X++[h.length] -> h'[b]?=some o -> b∉X/\h'[b]?=some o:=fun h' b o z e=>⟨fun y=>z ((hX b).mpr (.inr y)),e⟩
     match r2,sn with
     | .stuck,_=>exact SimS.stuck
     | .exc _ _,z=>exact z.elim
     | .ok (o,M2),⟨oh,h2,e,f2,R2,ro⟩=>
      subst e
      have R3:RelM gl A X h2 M2:=R2.weak (fun a ha=>(hX a).mpr (.inr ha)) R.sub
      refine ⟨oh,h2,[],rfl,?_,fun b hb=>by simp at hb,by simpa using R3,?_⟩
      ·have g1:=(Frm.app A h [O.ob (.dct [])]).trans f1
       refine ⟨Nat.le_trans g1.1 f2.1,fun j hj hjA=>?_⟩
       rw [f2.2 j (Nat.lt_of_lt_of_le hj g1.1) (fun z=>by
        rcases List.mem_append.mp z with z | z
        ·exact hjA z
        ·simp at z;omega),g1.2 j hj hjA]
      ·rw [List.append_nil,List.append_nil]
       cases o<;>cases oh<;>first | exact ro.elim | exact qAx (fun _ _ e=>e) (wk h2) ro | skip
       refine ⟨qAn (fun _ _ e=>e) (wk h2) _ ro.1,fun e=>?_⟩
       obtain ⟨fp,p1,p2,p3,p4⟩:=ro.2 e
       refine ⟨fp,qCW (wk h2) _ p1,p2,p3,p4.weak (fun a ha=>?_) (fun a ha=>List.mem_append_left _ (R.sub a ha))⟩
       rcases List.mem_append.mp ha with z | z
       ·exact List.mem_append_left _ ((hX a).mpr (.inr z))
       ·exact List.mem_append_right _ z
    ·exact SimS.stuck
 | .raise c,A,X,h,M,σ,σh,R,rs=>by
  rw [px,ex]
  exact ⟨h,[],rfl,Frm.refl A h,fun b hb=>by simp at hb,by simpa using R⟩
 | .tryK b e i m ks,A,X,h,M,σ,σh,R,rs=>by
  rw [px,ex];dsimp only
  have sb:=qLx b A X h M σ σh R rs
  revert sb
  generalize px gl P C b σ M=r
  generalize ex F b σh h=rh
  intro sb
  cases r with
  | stuck=>trivial
  | ok p=>
   obtain ⟨o,M'⟩:=p
   obtain ⟨oh,h',B,rfl,q⟩:=sb
   exact ⟨oh,h',B,rfl,q⟩
  | exc c M1=>
   obtain ⟨h',B,rfl,f1,hB,R1⟩:=sb
   dsimp only
   by_cases hcm:c < m
   case neg=>rw [if_neg hcm];exact SimS.stuck
   rw [if_pos hcm,if_pos hcm]
   have rp:Rep (A++B) (X++B) (h'++[O.lst false (ks.map fun k=>V.bl (qDP c k))]) (.lst (ks.map fun k=>.v (.bl (qDP c k)))) (.ref h'.length):=by
    unfold Rep
    refine ⟨h'.length,ks.map fun k=>V.bl (qDP c k),rfl,fun z=>by have:=R1.lt _ z;omega,by simp,?_⟩
    have go:∀ (l:List Nat) (g:AH),qAH (A++B) (X++B) g (l.map fun k=>.v (.bl (qDP c k))) (l.map fun k=>V.bl (qDP c k)):=fun l g=>by
     induction l with
     | nil=>unfold qAH;rfl
     | cons a r ih=>
      rw [List.map_cons,List.map_cons]
      unfold qAH
      exact ⟨_,_,rfl,by unfold Rep;exact ⟨rfl,rfl⟩,ih⟩
    exact go ks _
   refine ⟨_,_,B,rfl,f1.trans (Frm.app A h' _),hB,R1.up _,?_⟩
   refine qAw e (qAw i (qAx qBH (qCd R.sub (f1.trans (Frm.app A h' _)) hB) rs) ?_) ?_
   ·exact rp
   ·trivial
 | .stop,A,X,h,M,σ,σh,R,rs=>by rw [px,ex];exact SimS.stuck
theorem qD4:∀ (s:Ss) (A X:List Nat) (h:AH) (M:Mem) (σ:TS) (σh:List (Option V)),RelM gl A X h M -> qBf A X h σ σh -> SimS gl A X h (pxs gl P C s σ M) (exs F s σh h)
 | .nil,A,X,h,M,σ,σh,R,rs=>by rw [pxs,exs];exact SimS.mk (o:=.nx σ) (oh:=.nx σh) R rs
 | .cons s r,A,X,h,M,σ,σh,R,rs=>by
  rw [pxs,exs];dsimp only
  refine SimS.bind (qLx s A X h M σ σh R rs) ?_
  intro o M1 oh h1 B f1 hB R1 ro
  cases o with
  | nx σ2=>cases oh<;>first | exact .inl (qD4 r _ _ h1 M1 _ _ R1 ro) | exact ro.elim
  | ct σ2=>cases oh<;>first | exact .inr ⟨rfl,rfl⟩ | exact ro.elim
  | bk σ2=>cases oh<;>first | exact .inr ⟨rfl,rfl⟩ | exact ro.elim
  | rt t=>cases oh<;>first | exact .inr ⟨rfl,rfl⟩ | exact ro.elim
end
end
end PI
namespace PI
open L2 (V)
section
variable {gl:List T} {A X B:List Nat} {h h':AH} {M M1:Mem}
theorem mapM_cons {α β:Type} {f:α -> Option β} {x:α} {xs:List α} {ys:List β} (e:(x::xs).mapM f=some ys):∃ y ys',f x=some y/\xs.mapM f=some ys'/\ys=y::ys':=by
 rw [List.mapM_cons] at e
 cases hf:f x with
 | none=>rw [hf] at e;cases e
 | some y=>
  rw [hf] at e
  cases hg:xs.mapM f with
  | none=>rw [hg] at e;cases e
  | some ys'=>rw [hg] at e;cases e;exact ⟨y,ys',rfl,rfl,rfl⟩
theorem mapM_nil {α β:Type} {f:α -> Option β} {ys:List β} (e:([]:List α).mapM f=some ys):ys=[]:=by
 rw [List.mapM_nil] at e;cases e;rfl
theorem qBx {A1 X1:List Nat} {f:T -> Option T} (hf:∀ t t' w,f t=some t' -> Rep A1 X1 h t w -> Rep A X h t' w):∀ {ts ts':List T} {vs:List V},ts.mapM f=some ts' -> qAH A1 X1 h ts vs -> qAH A X h ts' vs
 | [],ts',vs,e,r=>by cases mapM_nil e;unfold qAH at r ⊢;exact r
 | t::ts,ts',vs,e,r=>by
  obtain ⟨y,ys,e1,e2,rfl⟩:=mapM_cons e
  unfold qAH at r ⊢
  obtain ⟨v,vs',rfl,a,b⟩:=r
  exact ⟨v,vs',rfl,hf _ _ _ e1 a,qBx hf e2 b⟩
theorem qGK (R:RelM gl (A++B) (X++B) h M1) (hB:∀ b∈B,b∉X):∀ (d:Nat) (t t':T) (w:V),qAJ M1 A.length d t=some t' -> Rep (A++B) (X++B) h t w -> Rep A X h t' w:=by
 have hu:∀ (t:T) (w:V),t.und A.length=true -> Rep (A++B) (X++B) h t w -> Rep A X h t w:=fun t w u r=>qHU (fun n hn=>List.getElem?_append_left hn) (fun a ha=>List.mem_append_left _ ha) t r u
 have hX:∀ a,a∉X++B -> a∉X:=fun a x z=>x (List.mem_append_left _ z)
 intro d
 induction d with
 | zero=>
  intro t t' w e r
  unfold qAJ at e
  split at e
  ·rename_i u;cases e;exact hu _ w u r
  ·cases e
 | succ d ih=>
  intro t t' w e r
  unfold qAJ at e
  split at e
  ·rename_i u;cases e;exact hu _ w u r
  ·rename_i u
   cases t with
   | v x=>cases e
   | ob o=>cases e
   | fz ts=>cases e
   | lst ts=>
    obtain ⟨ts',e1,rfl⟩:=Option.map_eq_some_iff.mp e
    unfold Rep at r ⊢
    obtain ⟨a,vs,rfl,q1,q2,q3⟩:=r
    exact ⟨a,vs,rfl,hX a q1,q2,qBx ih e1 q3⟩
   | tup ts=>
    obtain ⟨ts',e1,rfl⟩:=Option.map_eq_some_iff.mp e
    unfold Rep at r ⊢
    obtain ⟨a,vs,rfl,q1,q2,q3⟩:=r
    exact ⟨a,vs,rfl,hX a q1,q2,qBx ih e1 q3⟩
   | cell n=>
    obtain ⟨ts,e0,e⟩:=Option.bind_eq_some_iff.mp (show (M1[n]?).bind _=_ from e)
    obtain ⟨ts',e1,rfl⟩:=Option.map_eq_some_iff.mp e
    have hn:A.length<=n:=by
     unfold T.und at u;simpa using u
    unfold Rep at r ⊢
    obtain ⟨a,ea,rfl⟩:=r
    obtain ⟨ts2,vs,g1,g2,g3⟩:=R.at_ n a ea
    rw [e0] at g1;cases g1
    rw [List.getElem?_append_right hn] at ea
    exact ⟨a,vs,rfl,hB a (List.mem_of_getElem? ea),g2,qBx ih e1 g3⟩
mutual
theorem qGU (n:Nat):∀ (t:T),t.lf=true -> t.und n=true
 | .v x,_=>rfl
 | .cell _,l=>by unfold T.lf at l;cases l
 | .ob _,_=>rfl
 | .fz _,l=>by unfold T.lf at l;cases l
 | .lst _,l=>by unfold T.lf at l;cases l
 | .tup ts,l=>by unfold T.lf at l;unfold T.und;exact qDl n ts l
theorem qDl (n:Nat):∀ (ts:List T),T.lfs ts=true -> T.unds n ts=true
 | [],_=>rfl
 | t::ts,l=>by unfold T.lfs at l;rw [Bool.and_eq_true] at l;unfold T.unds;rw [qGU n t l.1,qDl n ts l.2];rfl
end
theorem qG5 {n0:Nat} {f:T -> Option (List Nat)} (hf:∀ t l,f t=some l -> t.und n0=true -> t.lf=true):∀ {ts:List T} {ls:List (List Nat)},ts.mapM f=some ls -> T.unds n0 ts=true -> T.lfs ts=true
 | [],ls,e,u=>rfl
 | t::ts,ls,e,u=>by
  obtain ⟨y,ys,e1,e2,rfl⟩:=mapM_cons e
  unfold T.unds at u;rw [Bool.and_eq_true] at u
  unfold T.lfs
  rw [hf t _ e1 u.1,qG5 hf e2 u.2];rfl
theorem qHL {n0:Nat}:∀ (d:Nat) (t:T) (l:List Nat),qBi M1 n0 d t=some l -> t.und n0=true -> t.lf=true:=by
 intro d
 induction d with
 | zero=>intro t l e u;unfold qBi at e;split at e<;>first | assumption | cases e
 | succ d ih=>
  intro t l e u
  unfold qBi at e
  split at e
  ·assumption
  ·cases t with
   | tup ts=>
    obtain ⟨ls,e1,rfl⟩:=Option.map_eq_some_iff.mp e
    unfold T.und at u
    unfold T.lf
    exact qG5 ih e1 u
   | cell n=>
    dsimp only at e
    split at e
    ·rename_i hn;unfold T.und at u;simp at u;omega
    ·cases e
   | v x=>cases e
   | ob o=>cases e
   | fz ts=>cases e
   | lst ts=>cases e
theorem qDh {A1 X1:List Nat} {n0:Nat} {f:T -> Option (List Nat)} {g:T -> Option T} (hf:∀ t l t' w,f t=some l -> g t=some t' -> Rep A1 X1 h t w -> ∃ fp,FP X h t' w fp/\fp.map some=l.map (A1[·]?)/\∀ n∈l,n0<=n):
  ∀ {ts ts':List T} {ls:List (List Nat)} {vs:List V},ts.mapM f=some ls -> ts.mapM g=some ts' -> qAH A1 X1 h ts vs -> ∃ fp,FPs X h ts' vs fp/\fp.map some=ls.flatten.map (A1[·]?)/\∀ n∈ls.flatten,n0<=n
 | [],ts',ls,vs,e,e',r=>by
  cases mapM_nil e;cases mapM_nil e'
  unfold qAH at r
  exact ⟨[],by unfold FPs;exact ⟨r,rfl⟩,rfl,fun n hn=>by simp at hn⟩
 | t::ts,ts',ls,vs,e,e',r=>by
  obtain ⟨y,ys,e1,e2,rfl⟩:=mapM_cons e
  obtain ⟨z,zs,e3,e4,rfl⟩:=mapM_cons e'
  unfold qAH at r
  obtain ⟨v,vs',rfl,a,b⟩:=r
  obtain ⟨f1,p1,q1,n1⟩:=hf _ _ _ _ e1 e3 a
  obtain ⟨f2,p2,q2,n2⟩:=qDh hf e2 e4 b
  refine ⟨f1++f2,by unfold FPs;exact ⟨v,vs',f1,f2,rfl,p1,p2,rfl⟩,by simp [q1,q2],fun n hn=>?_⟩
  rw [List.flatten_cons] at hn
  rcases List.mem_append.mp hn with z | z
  ·exact n1 n z
  ·exact n2 n z
theorem qCp {n0:Nat} {d:Nat} {t t':T} (u:t.und n0=true) (e:qAJ M1 n0 d t=some t'):t'=t:=by
 cases d<;>(unfold qAJ at e;rw [if_pos u] at e;cases e;rfl)
theorem qHm (R:RelM gl (A++B) (X++B) h M1) (hB:∀ b∈B,b∉X):∀ (d:Nat) (t:T) (l:List Nat) (t':T) (w:V),qBi M1 A.length d t=some l -> qAJ M1 A.length d t=some t' -> Rep (A++B) (X++B) h t w ->
  ∃ fp,FP X h t' w fp/\fp.map some=l.map ((A++B)[·]?)/\∀ n∈l,A.length<=n:=by
 have hX:∀ a,a∉X++B -> a∉X:=fun a x z=>x (List.mem_append_left _ z)
 have lfc:∀ {d:Nat} {t t':T} {w:V},t.lf=true -> qAJ M1 A.length d t=some t' -> Rep (A++B) (X++B) h t w -> ∃ fp:List Nat,FP X h t' w fp/\fp.map some=([]:List Nat).map ((A++B)[·]?)/\∀ n∈([]:List Nat),A.length<=n:=by
  intro d t t' w l e r
  cases qCp (qGU _ t l) e
  exact ⟨[],qCW (fun a o x y=>⟨hX a x,y⟩) _ (qKj _ r l),rfl,fun n hn=>by simp at hn⟩
 intro d
 induction d with
 | zero=>
  intro t l t' w e e' r
  unfold qBi at e
  split at e
  ·rename_i hl;cases e;exact lfc hl e' r
  ·cases e
 | succ d ih=>
  intro t l t' w e e' r
  unfold qBi at e
  split at e
  ·rename_i hl;cases e;exact lfc hl e' r
  ·rename_i hl
   have hu:t.und A.length≠true:=fun u=>hl (qHL (M1:=M1) (d + 1) t l (by unfold qBi;rw [if_neg hl];exact e) u)
   unfold qAJ at e'
   rw [if_neg hu] at e'
   cases t with
   | tup ts=>
    obtain ⟨ls,e1,rfl⟩:=Option.map_eq_some_iff.mp e
    obtain ⟨ts',e2,rfl⟩:=Option.map_eq_some_iff.mp e'
    unfold Rep at r
    obtain ⟨a,vs,rfl,q1,q2,q3⟩:=r
    obtain ⟨fp,p1,p2,p3⟩:=qDh ih e1 e2 q3
    exact ⟨fp,by unfold FP;exact ⟨a,vs,rfl,hX a q1,q2,p1⟩,p2,p3⟩
   | cell n=>
    dsimp only at e e'
    split at e
    ·rename_i hn
     obtain ⟨ts,e0,e⟩:=Option.bind_eq_some_iff.mp e
     obtain ⟨ls,e1,rfl⟩:=Option.map_eq_some_iff.mp e
     rw [e0] at e'
     dsimp only [Option.bind_some] at e'
     obtain ⟨ts',e2,rfl⟩:=Option.map_eq_some_iff.mp e'
     unfold Rep at r
     obtain ⟨a,ea,rfl⟩:=r
     obtain ⟨ts2,vs,g1,g2,g3⟩:=R.at_ n a ea
     rw [e0] at g1;cases g1
     obtain ⟨fp,p1,p2,p3⟩:=qDh ih e1 e2 g3
     have ea2:=ea
     rw [List.getElem?_append_right hn] at ea2
     refine ⟨fp++[a],by unfold FP;exact ⟨a,vs,fp,rfl,hB a (List.mem_of_getElem? ea2),g2,p1,rfl⟩,?_,fun m hm=>?_⟩
     ·rw [List.map_append,List.map_append,p2]
      simp [ea]
     ·rcases List.mem_append.mp hm with z | z
      ·exact p3 m z
      ·simp at z;omega
    ·cases e
   | v x=>cases e
   | ob o=>cases e
   | fz ts=>cases e
   | lst ts=>cases e
theorem qDb {X' Y:List Nat} (R:RelM gl (A++B) Y h M1) (hX:∀ a∈X',a∈Y) (hA:∀ a∈A,a∈X') (hc:(M1.take A.length).all (T.unds A.length)=true) (hg:∀ (g:Nat) t,gl[g]?=some t -> Rep A X' h t (.ref g)):RelM gl A X' h (M1.take A.length):=by
 have l:=R.len
 rw [List.length_append] at l
 refine ⟨by rw [List.length_take];omega,(List.nodup_append.mp R.nd).1,hA,fun a ha=>R.lt a (hX a ha),fun n a e=>?_,hg⟩
 have hn:=(List.getElem?_eq_some_iff.mp e).1
 obtain ⟨ts,vs,e1,e2,e3⟩:=R.at_ n a (qBH n a e)
 refine ⟨ts,vs,by rw [List.getElem?_take_of_lt hn];exact e1,e2,qBu (fun n hn=>List.getElem?_append_left hn) hX ts e3 ?_⟩
 rw [List.all_eq_true] at hc
 refine hc ts (List.mem_of_getElem? (i:=n) ?_)
 rw [List.getElem?_take_of_lt hn];exact e1
theorem qEU (R0:RelM gl A X h M) (f:Frm A h h') (hB:∀ b∈B,h.length<=b) (R:RelM gl (A++B) (X++B) h' M1) {x:TB} {w:V} (q:QE gl (A++B) (X++B) h.length x w h' M1):Sim gl A X h (QE gl A X h.length) (finish M.length x M1) (.ok (w,h')):=by
 have hBX:∀ b∈B,b∉X:=fun b z y=>by have:=hB b z;have:=R0.lt b y;omega
 have hX:∀ a,a∉X++B -> a∉X:=fun a x z=>x (List.mem_append_left _ z)
 have hg:∀ {Z:List Nat},(∀ a∈Z,h.length<=a) -> ∀ (g:Nat) t,gl[g]?=some t -> Rep A (X++Z) h' t (.ref g):=fun hZ g t e=>qAn (fun _ _ e=>e) (fun a o x y=>⟨by
   rw [List.mem_append];rintro (z | z)
   ·exact x z
   ·have:=hZ a z;have:=qAF y;omega,(R0.keepN f a o x y).2⟩) t (R0.glo g t e)
 unfold finish
 rw [<- R0.len]
 split
 ·rename_i hl
  have hB0:B=[]:=by
   have:=R.len
   rw [List.length_append,hl] at this
   exact List.length_eq_zero_iff.mp (by omega)
  subst hB0
  rw [List.append_nil,List.append_nil] at R q
  exact ⟨w,h',rfl,f,R,q⟩
 split
 ·rename_i hc
  refine Sim.ofO fun t' et=>?_
  have R':RelM gl A X h' (M1.take A.length):=by
   have:=qDb (X':=X++[]) R (fun a ha=>by simp at ha;exact List.mem_append_left _ ha) (fun a ha=>by simp;exact R0.sub a ha) hc (hg fun a ha=>by simp at ha)
   simpa using this
  refine ⟨w,h',rfl,f,R',qGK R hBX 6 _ _ _ et q.1,fun e=>?_⟩
  rw [Bool.or_eq_true] at e
  rcases e with e | e
  ·obtain ⟨fp,p,nd,l,Rf⟩:=q.2 e
   cases qCp (qJN A.length _ p) et
   refine ⟨fp,qCW (fun a o x y=>⟨hX a x,y⟩) _ p,nd,l,qDb Rf (fun a ha=>?_) (fun a ha=>List.mem_append_left _ (R0.sub a ha)) hc (hg l)⟩
   rcases List.mem_append.mp ha with z | z
   ·exact List.mem_append_left _ (List.mem_append_left _ z)
   ·exact List.mem_append_right _ z
  ·unfold frR at e
   split at e
   ·rename_i l el
    have ndl:l.Nodup:=by simpa using e
    obtain ⟨fp,p,pm,pn⟩:=qHm R hBX 6 _ _ _ _ el et q.1
    have fB:∀ a∈fp,a∈B:=fun a ha=>by
     have:some a∈fp.map some:=List.mem_map_of_mem ha
     rw [pm] at this
     obtain ⟨n,hn,en⟩:=List.mem_map.mp this
     rw [List.getElem?_append_right (pn n hn)] at en
     exact List.mem_of_getElem? en
    have nd:fp.Nodup:=by
     have:(fp.map some).Nodup:=by
      rw [pm]
      refine List.pairwise_map.mpr (List.Pairwise.imp_of_mem ?_ ndl)
      intro n m hn hm hnm e
      have:(A++B)[n]?∈fp.map some:=by rw [pm];exact List.mem_map_of_mem hn
      obtain ⟨a,_,ea⟩:=List.mem_map.mp this
      exact hnm ((List.getElem?_inj (List.getElem?_eq_some_iff.mp ea.symm).1 R.nd).mp e)
     exact (List.pairwise_map.mp this).imp fun {a b} z e=>z (by rw [e])
    refine ⟨fp,p,nd,fun a ha=>hB a (fB a ha),qDb R (fun a ha=>?_) (fun a ha=>List.mem_append_left _ (R0.sub a ha)) hc (hg fun a ha=>hB a (fB a ha))⟩
    rcases List.mem_append.mp ha with z | z
    ·exact List.mem_append_left _ z
    ·exact List.mem_append_right _ (fB a z)
   ·cases e
 ·exact Sim.stuck
end
theorem qEV {A X:List Nat} {h:AH} (n:Nat):∀ {ts:List T} {ws:List V},qAH A X h ts ws -> qBf A X h (ts.map some++List.replicate n none) (ws.map some++List.replicate n none)
 | [],ws,r=>by
  unfold qAH at r;subst r
  show qBf A X h (List.replicate n none) (List.replicate n none)
  induction n with
  | zero=>rfl
  | succ n ih=>exact ⟨none,_,rfl,trivial,ih⟩
 | t::ts,ws,r=>by
  unfold qAH at r
  obtain ⟨v,vs,rfl,a,b⟩:=r
  exact ⟨some v,_,rfl,a,qEV n b⟩
theorem qLL (gl:List T) (tb:List Fn) (Cs:List (List Nat)):∀ (k f:Nat) (ts:List T) (ws:List V) (A X:List Nat) (h:AH) (M:Mem),RelM gl A X h M -> qAH A X h ts ws -> Sim gl A X h (QE gl A X h.length) (Pk gl tb Cs k f ts M) (Fk tb k f ws h)
 | 0,f,ts,ws,A,X,h,M,R,rs=>Sim.stuck
 | k + 1,f,ts,ws,A,X,h,M,R,rs=>by
  unfold Pk Fk
  cases ed:tb[f]? with
  | none=>exact Sim.stuck
  | some d=>
   dsimp only
   rw [<- qAB (reps_iff.mp rs)]
   split
   ·have s:=qD4 (Cs.getD f []) (qLL gl tb Cs k) d.body A X h M _ _ R (qEV (d.nslot - d.npar) rs)
    revert s
    generalize pxs gl (Pk gl tb Cs k) (Cs.getD f []) d.body (ts.map some++List.replicate (d.nslot - d.npar) none) M=r
    generalize exs (Fk tb k) d.body (ws.map some++List.replicate (d.nslot - d.npar) none) h=rh
    intro s
    cases r with
    | stuck=>exact Sim.stuck
    | exc c M1=>
     obtain ⟨h',B,rfl,f1,hB,R1⟩:=s
     show Sim gl A X h _ (if _ then _ else if _ then _ else _) _
     split
     ·rename_i hl
      have hB0:B=[]:=by
       have:=R1.len
       rw [List.length_append,hl,R.len] at this
       exact List.length_eq_zero_iff.mp (by omega)
      subst hB0
      rw [List.append_nil,List.append_nil] at R1
      exact ⟨h',rfl,f1,R1⟩
     split
     ·rename_i hc
      refine ⟨h',rfl,f1,?_⟩
      rw [<- R.len] at hc ⊢
      exact qDb R1 (fun a ha=>List.mem_append_left _ ha) R.sub hc fun g t e=>R.keep f1 (R.glo g t e)
     ·exact Sim.stuck
    | ok p=>
     obtain ⟨o,M1⟩:=p
     obtain ⟨oh,h',B,rfl,f1,hB,R1,ro⟩:=s
     rw [Res.bind_ok]
     cases o with
     | nx σ=>
      cases oh<;>first | exact ro.elim | skip
      have r:Rep (A++B) (X++B) h' (.v .non) .non:=by unfold Rep;exact ⟨rfl,rfl⟩
      exact qEU R f1 hB R1 (show QE gl (A++B) (X++B) h.length (.v .non,true) .non h' M1 from ⟨r,fun _=>Frs.of_lf R1 r rfl⟩)
     | rt t=>
      cases oh<;>first | exact ro.elim | skip
      exact qEU R f1 hB R1 ro
     | bk σ=>exact Sim.stuck
     | ct σ=>exact Sim.stuck
   ·exact Sim.stuck
noncomputable def glT (gs:List O):List T:=gs.map fun o=>match o with | .tup xs=>.tup (xs.map .v) | .lst _ xs=>.fz (xs.map .v) | .ob _=>.v .non
noncomputable def qLp (gs:List O):Bool:=gs.all fun o=>match o with | .tup xs=>xs.all flat | _=>false
theorem qMN {gs:List O} {tb:List Fn} {Cs:List (List Nat)} {k i:Nat} {ns:List Int} {b:Bool} {M':Mem} (hg:qLp gs=true) (e:Pk (glT gs) tb Cs k i [.fz (ns.map fun n=>.v (.int n))] []=.ok ((.v (.bl true),b),M')):
  ∃ h',Fk tb k i [.ref gs.length] (gs++[.lst true (ns.map V.int)])=.ok (.bl true,h'):=by
 have R:RelM (glT gs) [] [] (gs++[.lst true (ns.map V.int)]) []:=by
  refine ⟨rfl,List.nodup_nil,fun a ha=>by simp at ha,fun a ha=>by simp at ha,fun n a e=>by simp at e,fun g t eg=>?_⟩
  unfold glT at eg
  rw [List.getElem?_map] at eg
  obtain ⟨o,eo,rfl⟩:=Option.map_eq_some_iff.mp eg
  unfold qLp at hg
  rw [List.all_eq_true] at hg
  have ho:=hg o (List.mem_of_getElem? eo)
  cases o with
  | lst _ _=>cases ho
  | ob _=>cases ho
  | tup xs=>
   dsimp only
   unfold Rep
   exact ⟨g,xs,rfl,by simp,by rw [List.getElem?_append_left (List.getElem?_eq_some_iff.mp eo).1];exact eo,qBT ho⟩
 have rs:qAH [] [] (gs++[O.lst true (ns.map V.int)]) [.fz (ns.map fun n=>.v (.int n))] [.ref gs.length]:=by
  unfold qAH
  refine ⟨_,[],rfl,?_,by unfold qAH;rfl⟩
  unfold Rep
  refine ⟨gs.length,ns.map V.int,rfl,by simp,by simp,?_⟩
  have:ns.map (fun n=>T.v (.int n))=(ns.map V.int).map .v:=by rw [List.map_map];rfl
  rw [this]
  exact qBT (by simp [flat])
 have s:=qLL (glT gs) tb Cs k i _ _ [] [] _ [] R rs
 rw [e] at s
 obtain ⟨w,h',e1,_,_,q⟩:=s
 cases qA2 q.1
 exact ⟨h',e1⟩
theorem qJE {tb:List Fn} {j:Nat} {d:Fn} {b:Ss} (e:tb[j]?=some d) (hb:∀ F σ h,exs F d.body σ h=exs F b σ h):∀ (k f:Nat) (vs:List V) (h:AH),Fk tb k f vs h=Fk (tb.set j ⟨d.npar,d.nslot,b⟩) k f vs h
 | 0,_,_,_=>rfl
 | k + 1,f,vs,h=>by
  have ih:Fk tb k=Fk (tb.set j ⟨d.npar,d.nslot,b⟩) k:=by funext f vs h;exact qJE e hb k f vs h
  unfold Fk
  by_cases hf:f=j
  ·subst hf
   rw [e,List.getElem?_set_self (List.getElem?_eq_some_iff.mp e).1,ih]
   dsimp only
   rw [hb]
  ·rw [List.getElem?_set_ne (Ne.symm hf),ih]
end PI
namespace PI
open L2 (V)
noncomputable def qOO (t:T):Option TB:=match t with | .v (.int i)=>some (iT (-i)) | _=>none
noncomputable def qML (M:Mem) (p k x:T):Option Mem:=match p,k with
 | .cell n,.v (.int j)=>(M[n]?).bind fun xs=>(L2.ixN xs.length j).map fun j=>M.set n (xs.set j x)
 | _,_=>none
noncomputable def qK6 (M:Mem) (n:Nat) (x:T):Option Mem:=(M[n]?).bind fun xs=>if xs.length < lim then some (M.set n (xs++[x])) else none
noncomputable def qJh (t:T):Option (List T):=match t with | .v (.int j)=>if -1000000<=j/\j<=100000 then some (qAf 0 j.toNat) else none | _=>none
noncomputable def qL3 (t:T):Option (List T):=match t with | .v (.int j)=>if -1000000<=j/\j<=1000000 then some (qAf 0 j.toNat) else none | _=>none
section
variable {gl:List T} {P:Nat -> List T -> Mem -> PR (TB×Mem)} {C:List Nat} {σ:TS} {M:Mem} {a b c e:E} {as lo hi:Es}
@[simp] theorem pe_var (i:Nat):pe gl P (.var i) σ M=match σ[i]? with | some (some t)=>.ok ((t,t.lf),M) | _=>.stuck:=Eq.trans rfl rfl
@[simp] theorem pe_int (i:Int):pe gl P (.cst (.int i)) σ M=.ok (iT i,M):=Eq.trans rfl rfl
@[simp] theorem pe_bl (i:Bool):pe gl P (.cst (.bl i)) σ M=.ok (bT i,M):=Eq.trans rfl rfl
@[simp] theorem pe_non:pe gl P (.cst .non) σ M=.ok ((.v .non,true),M):=Eq.trans rfl rfl
@[simp] theorem pe_str (s:PySem.Str):pe gl P (.cst (.str s)) σ M=.ok ((.v (.str s),true),M):=Eq.trans rfl rfl
@[simp] theorem pe_glob (g:Nat):pe gl P (.glob g) σ M=match gl[g]? with | some t=>.ok ((t,t.lf),M) | none=>.stuck:=Eq.trans rfl rfl
@[simp] theorem qOC (op:BOp):pe gl P (.bin op a b) σ M=(pe gl P a σ M).bind fun p=>(pe gl P b σ p.2).bind fun q=>(PR.ofO (qAq q.2 op p.1.1 q.1.1)).bind fun r=>.ok (r,q.2):=Eq.trans rfl rfl
@[simp] theorem qOP (op:COp):pe gl P (.cmp op a b) σ M=(pe gl P a σ M).bind fun p=>(pe gl P b σ p.2).bind fun q=>(PR.ofO (qA0 q.2 op p.1.1 q.1.1)).bind fun r=>.ok (bT r,q.2):=Eq.trans rfl rfl
@[simp] theorem qM1 (o1 o2:COp):pe gl P (.cmp2 o1 o2 a b c) σ M=(pe gl P a σ M).bind fun p=>(pe gl P b σ p.2).bind fun q=>(PR.ofO (qA0 q.2 o1 p.1.1 q.1.1)).bind fun r=>
  if r=true then (pe gl P c σ q.2).bind fun z=>(PR.ofO (qA0 z.2 o2 q.1.1 z.1.1)).bind fun r=>.ok (bT r,z.2) else .ok (bT false,q.2):=Eq.trans rfl rfl
@[simp] theorem pe_and:pe gl P (.and a b) σ M=(pB (pe gl P a σ M)).bind fun p=>if p.1=true then pe gl P b σ p.2 else .ok (bT false,p.2):=Eq.trans rfl rfl
@[simp] theorem pe_or:pe gl P (.or a b) σ M=(pB (pe gl P a σ M)).bind fun p=>if p.1=true then .ok (bT true,p.2) else pe gl P b σ p.2:=Eq.trans rfl rfl
@[simp] theorem pe_not:pe gl P (.not a) σ M=(pB (pe gl P a σ M)).bind fun p=>.ok (bT (!p.1),p.2):=Eq.trans rfl rfl
@[simp] theorem pe_call (f:Nat):pe gl P (.call f as) σ M=(pes gl P as σ M).bind fun p=>(P f (p.1.map (·.1)) p.2).nx:=Eq.trans rfl rfl
@[simp] theorem qNy (f:BF):pe gl P (.blt f as) σ M=(pes gl P as σ M).bind fun p=>(PR.ofO (qBk p.2 f (p.1.map (·.1)))).bind fun r=>.ok (r,p.2):=Eq.trans rfl rfl
@[simp] theorem qOK (ts:List String):pe gl P (.isi a ts) σ M=(pe gl P a σ M).bind fun p=>(PR.ofO (qAh p.2 p.1.1)).bind fun t=>.ok (bT (ts.any (qAV t)),p.2):=Eq.trans rfl rfl
@[simp] theorem qKw:pe gl P (.idx a b) σ M=(pe gl P a σ M).bind fun p=>(pe gl P b σ p.2).bind fun q=>(PR.ofO (qC3 q.2 p.1.1 q.1.1)).bind fun r=>.ok (r,q.2):=Eq.trans rfl rfl
@[simp] theorem qPQ:pe gl P (.sl a lo hi) σ M=(pe gl P a σ M).bind fun p=>(pes gl P lo σ p.2).bind fun l=>(pes gl P hi σ l.2).bind fun u=>
  (PR.ofO (p.1.1.its u.2)).bind fun xs=>(PR.ofO (qAm (l.1.map (·.1)))).bind fun i=>(PR.ofO (qAm (u.1.map (·.1)))).bind fun j=>(PR.ofO (qIq p.1.1 xs i.head? j.head?)).bind fun r=>.ok (r,u.2):=Eq.trans rfl rfl
@[simp] theorem pe_lst:pe gl P (.lst as) σ M=(pes gl P as σ M).bind fun p=>if p.1.length<=lim then .ok ((.lst (p.1.map (·.1)),p.1.all (·.2)),p.2) else .stuck:=Eq.trans rfl rfl
@[simp] theorem pe_tup:pe gl P (.tup as) σ M=(pes gl P as σ M).bind fun p=>if p.1.length<=lim then .ok ((.tup (p.1.map (·.1)),p.1.all (·.2)),p.2) else .stuck:=Eq.trans rfl rfl
@[simp] theorem pe_comp (it:Itr) (src:List (Option Nat)) (g:Tg) (c:Es):pe gl P (.comp it src g c e) σ M=(pei gl P it σ M).bind fun p=>qA4 p.1.2 g (pec gl P c) (pe gl P e) p.1.1 [] true (qCH src σ) p.2:=Eq.trans rfl rfl
@[simp] theorem qOd:pe gl P (.app a b) σ M=(pe gl P a σ M).bind fun p=>match p.1.1 with
  | .cell n=>(pe gl P b σ p.2).bind fun q=>(PR.ofO (qK6 q.2 n q.1.1)).bind fun M'=>.ok ((.v .non,true),M')
  | _=>.stuck:=by
 show PR.bind _ _=_
 dsimp only
 congr 1;funext p
 obtain ⟨⟨p1,p3⟩,p2⟩:=p
 dsimp only
 cases p1<;>dsimp only
 congr 1;funext q
 obtain ⟨⟨q1,q3⟩,q2⟩:=q
 dsimp only
 unfold qK6
 rename_i n
 cases h:q2[n]? with
 | none=>rfl
 | some xs=>
  dsimp only [Option.bind_some]
  split<;>rfl
@[simp] theorem qNu:pe gl P (.nset a) σ M=(pe gl P a σ M).bind fun p=>(PR.ofO ((p.1.1.lis p.2).bind qAm)).bind fun is=>if is.length < 1000 then .ok ((.v (.int ((qFm is:Nat):Int)),true),p.2) else .stuck:=by
 show PR.bind _ _=_
 dsimp only
 congr 1;funext p
 obtain ⟨⟨p1,p3⟩,p2⟩:=p
 dsimp only
 cases (p1.lis p2).bind qAm<;>rfl
@[simp] theorem qNI:pe gl P (.lrng a) σ M=(pe gl P a σ M).bind fun p=>(PR.ofO (qJh p.1.1)).bind fun xs=>.ok ((.lst xs,true),p.2):=by
 show PR.bind _ _=_
 dsimp only
 congr 1;funext p
 obtain ⟨⟨p1,p3⟩,p2⟩:=p
 dsimp only
 unfold qJh
 cases p1<;>first | rfl | skip
 rename_i x
 cases x<;>first | rfl | skip
 dsimp only
 split<;>rfl
@[simp] theorem qNn (m:Mt):pe gl P (.meth m a as) σ M=(pe gl P a σ M).bind fun p=>match p.1.1 with
  | .cell n=>(pes gl P as σ p.2).bind fun q=>PR.ofO (qFw m n (q.1.map (·.1)) q.2)
  | _=>.stuck:=Eq.trans rfl rfl
@[simp] theorem qNd:pe gl P .dnew σ M=.ok ((.ob (.dct []),true),M):=Eq.trans rfl rfl
@[simp] theorem qKX:pes gl P .nil σ M=.ok ([],M):=Eq.trans rfl rfl
@[simp] theorem qHs:pes gl P (.cons a as) σ M=(pe gl P a σ M).bind fun p=>(pes gl P as σ p.2).bind fun q=>.ok (p.1::q.1,q.2):=Eq.trans rfl rfl
@[simp] theorem qA1:pec gl P .nil σ M=.ok (true,M):=Eq.trans rfl rfl
@[simp] theorem qMt:pec gl P (.cons a as) σ M=pB (pe gl P a σ M):=Eq.trans rfl rfl
@[simp] theorem qMj:pei gl P (.list a) σ M=(pe gl P a σ M).bind fun p=>(PR.ofO (qGN p.2 p.1.1)).bind fun s=>.ok (s,p.2):=Eq.trans rfl rfl
@[simp] theorem qIJ:pei gl P (.rng1 a) σ M=(pe gl P a σ M).bind fun p=>(PR.ofO (qL3 p.1.1)).bind fun xs=>.ok ((xs,[]),p.2):=by
 show PR.bind _ _=_
 dsimp only
 congr 1;funext p
 obtain ⟨⟨p1,p3⟩,p2⟩:=p
 dsimp only
 unfold qL3
 cases p1<;>first | rfl | skip
 rename_i x
 cases x<;>first | rfl | skip
 dsimp only
 split<;>rfl
variable {s:S} {r t u:Ss}
@[simp] theorem qNg (i:Nat):px gl P C (.asg (.name i) e) σ M=(pe gl P e σ M).bind fun p=>if (C.contains i&&p.1.2)=true then .ok (.nx (σ.set i (some (thaw p.2.length p.1.1).1)),p.2++(thaw p.2.length p.1.1).2) else if (C.contains (i + 1000)&&qLY e)=true then (match p.1.1 with | .lst ts=>.ok (.nx (σ.set i (some (.cell p.2.length))),p.2++[ts]) | _=>.stuck) else .ok (.nx (σ.set i (some p.1.1)),p.2):=Eq.trans rfl rfl
@[simp] theorem qOf (is:List Nat):px gl P C (.asg (.tup is) e) σ M=(pe gl P e σ M).bind fun p=>match qBE (.tup is) p.1.1 σ with | some σ1=>.ok (.nx σ1,p.2) | none=>.stuck:=Eq.trans rfl rfl
@[simp] theorem qOI {o i v:E}:px gl P C (.put o i v) σ M=(pe gl P v σ M).bind fun x=>(pe gl P o σ x.2).bind fun p=>(pe gl P i σ p.2).bind fun k=>(PR.ofO (qML k.2 p.1.1 k.1.1 x.1.1)).bind fun M'=>.ok (.nx σ,M'):=by
 show PR.bind _ _=_
 dsimp only
 congr 1;funext x;congr 1;funext p;congr 1;funext k
 obtain ⟨⟨k1,k3⟩,k2⟩:=k
 obtain ⟨⟨p1,p3⟩,p2⟩:=p
 dsimp only
 unfold qML
 cases p1<;>first | rfl | skip
 rename_i n
 cases k1<;>first | rfl | skip
 rename_i y
 cases y<;>first | rfl | skip
 rename_i j
 dsimp only
 cases h:k2[n]? with
 | none=>rfl
 | some xs=>
  dsimp only [Option.bind_some]
  have hj:PI.ixN xs.length j=L2.ixN xs.length j:=rfl
  rw [hj]
  cases L2.ixN xs.length j with
  | none=>rfl
  | some j=>rfl
@[simp] theorem qNL:px gl P C (.expr e) σ M=(pe gl P e σ M).bind fun p=>.ok (.nx σ,p.2):=Eq.trans rfl rfl
@[simp] theorem qLe:px gl P C (.ret e) σ M=(pe gl P e σ M).bind fun p=>.ok (.rt p.1,p.2):=Eq.trans rfl rfl
@[simp] theorem qOB:px gl P C (.ifs c t u) σ M=(pB (pe gl P c σ M)).bind fun p=>if p.1=true then pxs gl P C t σ p.2 else pxs gl P C u σ p.2:=Eq.trans rfl rfl
@[simp] theorem qON (g:Tg) (it:Itr):px gl P C (.for_ g it t) σ M=(pei gl P it σ M).bind fun p=>qBW p.1.2 g (pxs gl P C t) p.1.1 σ p.2:=Eq.trans rfl rfl
@[simp] theorem qMm (f:Nat):px gl P C (.xexpr f as) σ M=(pes gl P as σ M).bind fun p=>(P f (p.1.map (·.1)) p.2).bind fun q=>.ok (.nx σ,q.2):=Eq.trans rfl rfl
theorem qFs (u x f i:Nat):px gl P C (.nloop u x f i a) σ M=if u=i\/x=i\/u=x\/σ.length<=u\/σ.length<=x then .stuck else (pei gl P (.list a) (σ.set u none) M).bind fun p=>match σ[i]? with | some (some l)=>qCL P p.1.2 f x l p.1.1 [] (σ.set u none) p.2 | _=>.stuck:=Eq.trans rfl rfl
@[simp] theorem qMg (c:Nat):px gl P C (.raise c) σ M=.exc c M:=Eq.trans rfl rfl
theorem qKb (b:S) (j i m:Nat) (ks:List Nat):px gl P C (.tryK b j i m ks) σ M=match px gl P C b σ M with
  | .exc c M1=>if c < m then .ok (.nx ((σ.set i (some (.lst (ks.map fun k=>.v (.bl (qDP c k)))))).set j none),M1) else .stuck
  | r=>r:=Eq.trans rfl rfl
@[simp] theorem qM7:px gl P C .stop σ M=.stuck:=Eq.trans rfl rfl
@[simp] theorem qNs:pxs gl P C .nil σ M=.ok (.nx σ,M):=Eq.trans rfl rfl
@[simp] theorem qDr:pxs gl P C (.cons s r) σ M=(px gl P C s σ M).bind fun p=>match p.1 with
  | .nx σ1=>pxs gl P C r σ1 p.2
  | o=>.ok (o,p.2):=Eq.trans rfl rfl
@[simp] theorem qO2 (x:Bool):pB (.ok (bT x,M))=.ok (x,M):=Eq.trans rfl rfl
@[simp] theorem qPo (x f:Bool):pB (.ok ((T.v (.bl x),f),M))=.ok (x,M):=Eq.trans rfl rfl
@[simp] theorem qMi:pB .stuck=.stuck:=Eq.trans rfl rfl
@[simp] theorem bind_exc {α β:Type} (c:Nat) (M:Mem) (f:α -> PR β):(PR.exc c M:PR α).bind f=.exc c M:=Eq.trans rfl rfl
end
@[simp] theorem qP3 (x:V):T.lf (.v x)=true:=by rw [T.lf]
@[simp] theorem qKk (n:Nat):T.lf (.cell n)=false:=by rw [T.lf]<;>simp
@[simp] theorem qOM (xs:List T):T.lf (.lst xs)=false:=by rw [T.lf]<;>simp
@[simp] theorem qN3 (xs:List T):T.lf (.tup xs)=T.lfs xs:=by rw [T.lf]
@[simp] theorem qNr:T.lfs []=true:=by rw [T.lfs]
@[simp] theorem qCT (x:T) (xs:List T):T.lfs (x::xs)=(x.lf&&T.lfs xs):=by rw [T.lfs]
@[simp] theorem iT1 (i:Int):(iT i).1=.v (.int i):=rfl
@[simp] theorem iT2 (i:Int):(iT i).2=true:=rfl
@[simp] theorem bT1 (i:Bool):(bT i).1=.v (.bl i):=rfl
@[simp] theorem bT2 (i:Bool):(bT i).2=true:=rfl
@[simp] theorem lT1 (xs:List T):(lT xs).1=.lst xs:=rfl
@[simp] theorem lT2 (xs:List T):(lT xs).2=T.lfs xs:=rfl
@[simp] theorem qPc (x:V):T.isV (.v x)=some x:=rfl
@[simp] theorem qNq (x:List T):T.isV (.lst x)=none:=rfl
@[simp] theorem qNh (x:List T):T.isV (.tup x)=none:=rfl
@[simp] theorem qMh (x:Nat):T.isV (.cell x)=none:=rfl
section
variable {M:Mem} (i j:Int) (xs ys:List T)
@[simp] theorem qOG:qAq M .add (.v (.int i)) (.v (.int j))=some (iT (i + j)):=rfl
@[simp] theorem qLX:qAq M .sub (.v (.int i)) (.v (.int j))=some (iT (i - j)):=rfl
theorem qMI {i j:Int} (h:(-18446744073709551616 < i/\i < 18446744073709551616)\/(-18446744073709551616 < j/\j < 18446744073709551616)):qAq M .mul (.v (.int i)) (.v (.int j))=some (iT (i * j)):=by
 show (if (qCK i||qCK j||(mid i&&mid j))=true then _ else _)=_
 rw [if_pos]
 rcases h with h | h
 ·have:qCK i=true:=by unfold qCK two64;exact decide_eq_true h
  rw [this];rfl
 ·have:qCK j=true:=by unfold qCK two64;exact decide_eq_true h
  rw [this,Bool.or_true];rfl
theorem qJx {i j:Int} (h:0 < j/\j < 1073741824):qAq M .fdiv (.v (.int i)) (.v (.int j))=some (iT (i / j)):=by
 show (if 0 < j/\(j < 1073741824\/mid j=true) then _ else _)=_
 rw [if_pos ⟨h.1,.inl h.2⟩]
theorem qIb {i j:Int} (h:0 < j):qAq M .mod (.v (.int i)) (.v (.int j))=some (iT (i % j)):=by
 show (if 0 < j then _ else _)=_
 rw [if_pos h]
theorem qIy {i j:Int} (h:0<=j/\j<=1000/\i.natAbs < 18446744073709551616):qAq M .pow (.v (.int i)) (.v (.int j))=some (iT (i ^ j.toNat)):=by
 show (if 0<=j/\j<=1000/\i.natAbs < 18446744073709551616 then _ else _)=_
 rw [if_pos h]
theorem qME {i j:Int} (h:0<=j/\j<=1000/\i.natAbs < 18446744073709551616):qAq M .shl (.v (.int i)) (.v (.int j))=some (iT (i * 2 ^ j.toNat)):=by
 show (if 0<=j/\j<=1000/\i.natAbs < 18446744073709551616 then _ else _)=_
 rw [if_pos h]
theorem qDQ {xs ys:List T} (h:xs.length + ys.length<=lim):qAq M .add (.lst xs) (.lst ys)=some (lT (xs++ys)):=by
 show (if xs.length + ys.length<=lim then _ else _)=_
 rw [if_pos h]
@[simp] theorem qM3:qA0 M .lt (.v (.int i)) (.v (.int j))=some (decide (i < j)):=rfl
@[simp] theorem qMw:qA0 M .le (.v (.int i)) (.v (.int j))=some (decide (i<=j)):=rfl
@[simp] theorem qNt:qA0 M .gt (.v (.int i)) (.v (.int j))=some (decide (j < i)):=rfl
@[simp] theorem qNJ:qA0 M .ge (.v (.int i)) (.v (.int j))=some (decide (j<=i)):=rfl
@[simp] theorem qNo:qA0 M .eq (.v (.int i)) (.v (.int j))=some (decide (i=j)):=by
 show some (i==j)=_
 congr 1
@[simp] theorem qPF:qA0 M .ne (.v (.int i)) (.v (.int j))=some (!decide (i=j)):=by
 show (some (i==j)).map (!·)=_
 rfl
theorem qNp:qBk M .len [.lst xs]=some (iT xs.length):=rfl
@[simp] theorem qOT:qBk M .list [.lst xs]=some (lT xs):=rfl
@[simp] theorem qOe:qBk M .list [.tup xs]=some (lT xs):=rfl
@[simp] theorem qK4:qBk M .max [.v (.int i),.v (.int j)]=some (iT (if j > i then j else i)):=rfl
@[simp] theorem qLa:qBk M .min [.v (.int i),.v (.int j)]=some (iT (if j < i then j else i)):=rfl
@[simp] theorem qPt:qAh M (.v (.int i))=some "int":=rfl
@[simp] theorem qP8 (b:Bool):qAh M (.v (.bl b))=some "bool":=rfl
@[simp] theorem qPu:qAh M (.lst xs)=some "list":=rfl
@[simp] theorem qP0:qAh M (.tup xs)=some "tuple":=rfl
@[simp] theorem qP7 (kvs:List (Int×V)):qAh M (.ob (.dct kvs))=some "dict":=rfl
@[simp] theorem qPv:qAh M (.v .non)=some "NoneType":=rfl
@[simp] theorem qNz:qGN M (.lst xs)=some (xs,[]):=rfl
@[simp] theorem qOE:qGN M (.tup xs)=some (xs,[]):=rfl
@[simp] theorem qOm:qGN M (.fz xs)=some (xs,[]):=rfl
@[simp] theorem qOb:qNA M (.lst xs)=some (xs,[]):=rfl
end
@[simp] theorem lk0 {α:Type} (x0:α) (l:List α):(x0::l)[0]?=some x0:=rfl
@[simp] theorem st0 {α:Type} (x0 y:α) (l:List α):(x0::l).set 0 y=y::l:=rfl
@[simp] theorem lk1 {α:Type} (x0 x1:α) (l:List α):(x0::x1::l)[1]?=some x1:=rfl
@[simp] theorem st1 {α:Type} (x0 x1 y:α) (l:List α):(x0::x1::l).set 1 y=x0::y::l:=rfl
@[simp] theorem lk2 {α:Type} (x0 x1 x2:α) (l:List α):(x0::x1::x2::l)[2]?=some x2:=rfl
@[simp] theorem st2 {α:Type} (x0 x1 x2 y:α) (l:List α):(x0::x1::x2::l).set 2 y=x0::x1::y::l:=rfl
@[simp] theorem lk3 {α:Type} (x0 x1 x2 x3:α) (l:List α):(x0::x1::x2::x3::l)[3]?=some x3:=rfl
@[simp] theorem st3 {α:Type} (x0 x1 x2 x3 y:α) (l:List α):(x0::x1::x2::x3::l).set 3 y=x0::x1::x2::y::l:=rfl
@[simp] theorem lk4 {α:Type} (x0 x1 x2 x3 x4:α) (l:List α):(x0::x1::x2::x3::x4::l)[4]?=some x4:=rfl
@[simp] theorem st4 {α:Type} (x0 x1 x2 x3 x4 y:α) (l:List α):(x0::x1::x2::x3::x4::l).set 4 y=x0::x1::x2::x3::y::l:=rfl
@[simp] theorem lk5 {α:Type} (x0 x1 x2 x3 x4 x5:α) (l:List α):(x0::x1::x2::x3::x4::x5::l)[5]?=some x5:=rfl
@[simp] theorem st5 {α:Type} (x0 x1 x2 x3 x4 x5 y:α) (l:List α):(x0::x1::x2::x3::x4::x5::l).set 5 y=x0::x1::x2::x3::x4::y::l:=rfl
@[simp] theorem lk6 {α:Type} (x0 x1 x2 x3 x4 x5 x6:α) (l:List α):(x0::x1::x2::x3::x4::x5::x6::l)[6]?=some x6:=rfl
@[simp] theorem st6 {α:Type} (x0 x1 x2 x3 x4 x5 x6 y:α) (l:List α):(x0::x1::x2::x3::x4::x5::x6::l).set 6 y=x0::x1::x2::x3::x4::x5::y::l:=rfl
@[simp] theorem lk7 {α:Type} (x0 x1 x2 x3 x4 x5 x6 x7:α) (l:List α):(x0::x1::x2::x3::x4::x5::x6::x7::l)[7]?=some x7:=rfl
@[simp] theorem st7 {α:Type} (x0 x1 x2 x3 x4 x5 x6 x7 y:α) (l:List α):(x0::x1::x2::x3::x4::x5::x6::x7::l).set 7 y=x0::x1::x2::x3::x4::x5::x6::y::l:=rfl
@[simp] theorem lk8 {α:Type} (x0 x1 x2 x3 x4 x5 x6 x7 x8:α) (l:List α):(x0::x1::x2::x3::x4::x5::x6::x7::x8::l)[8]?=some x8:=rfl
@[simp] theorem st8 {α:Type} (x0 x1 x2 x3 x4 x5 x6 x7 x8 y:α) (l:List α):(x0::x1::x2::x3::x4::x5::x6::x7::x8::l).set 8 y=x0::x1::x2::x3::x4::x5::x6::x7::y::l:=rfl
@[simp] theorem lk9 {α:Type} (x0 x1 x2 x3 x4 x5 x6 x7 x8 x9:α) (l:List α):(x0::x1::x2::x3::x4::x5::x6::x7::x8::x9::l)[9]?=some x9:=rfl
@[simp] theorem st9 {α:Type} (x0 x1 x2 x3 x4 x5 x6 x7 x8 x9 y:α) (l:List α):(x0::x1::x2::x3::x4::x5::x6::x7::x8::x9::l).set 9 y=x0::x1::x2::x3::x4::x5::x6::x7::x8::y::l:=rfl
@[simp] theorem qP2 {α:Type} (x0 x1 x2 x3 x4 x5 x6 x7 x8 x9 x10:α) (l:List α):(x0::x1::x2::x3::x4::x5::x6::x7::x8::x9::x10::l)[10]?=some x10:=rfl
@[simp] theorem qPp {α:Type} (x0 x1 x2 x3 x4 x5 x6 x7 x8 x9 x10 y:α) (l:List α):(x0::x1::x2::x3::x4::x5::x6::x7::x8::x9::x10::l).set 10 y=x0::x1::x2::x3::x4::x5::x6::x7::x8::x9::y::l:=rfl
@[simp] theorem qPs {α:Type} (x0 x1 x2 x3 x4 x5 x6 x7 x8 x9 x10 x11:α) (l:List α):(x0::x1::x2::x3::x4::x5::x6::x7::x8::x9::x10::x11::l)[11]?=some x11:=rfl
@[simp] theorem qP4 {α:Type} (x0 x1 x2 x3 x4 x5 x6 x7 x8 x9 x10 x11 y:α) (l:List α):(x0::x1::x2::x3::x4::x5::x6::x7::x8::x9::x10::x11::l).set 11 y=x0::x1::x2::x3::x4::x5::x6::x7::x8::x9::x10::y::l:=rfl
@[simp] theorem qPz {α:Type} (x0 x1 x2 x3 x4 x5 x6 x7 x8 x9 x10 x11 x12:α) (l:List α):(x0::x1::x2::x3::x4::x5::x6::x7::x8::x9::x10::x11::x12::l)[12]?=some x12:=rfl
@[simp] theorem qQA {α:Type} (x0 x1 x2 x3 x4 x5 x6 x7 x8 x9 x10 x11 x12 y:α) (l:List α):(x0::x1::x2::x3::x4::x5::x6::x7::x8::x9::x10::x11::x12::l).set 12 y=x0::x1::x2::x3::x4::x5::x6::x7::x8::x9::x10::x11::y::l:=rfl
@[simp] theorem qPx {α:Type} (x0 x1 x2 x3 x4 x5 x6 x7 x8 x9 x10 x11 x12 x13:α) (l:List α):(x0::x1::x2::x3::x4::x5::x6::x7::x8::x9::x10::x11::x12::x13::l)[13]?=some x13:=rfl
@[simp] theorem qPq {α:Type} (x0 x1 x2 x3 x4 x5 x6 x7 x8 x9 x10 x11 x12 x13 y:α) (l:List α):(x0::x1::x2::x3::x4::x5::x6::x7::x8::x9::x10::x11::x12::x13::l).set 13 y=x0::x1::x2::x3::x4::x5::x6::x7::x8::x9::x10::x11::x12::y::l:=rfl
@[simp] theorem qP5 {α:Type} (x0 x1 x2 x3 x4 x5 x6 x7 x8 x9 x10 x11 x12 x13 x14:α) (l:List α):(x0::x1::x2::x3::x4::x5::x6::x7::x8::x9::x10::x11::x12::x13::x14::l)[14]?=some x14:=rfl
@[simp] theorem qP1 {α:Type} (x0 x1 x2 x3 x4 x5 x6 x7 x8 x9 x10 x11 x12 x13 x14 y:α) (l:List α):(x0::x1::x2::x3::x4::x5::x6::x7::x8::x9::x10::x11::x12::x13::x14::l).set 14 y=x0::x1::x2::x3::x4::x5::x6::x7::x8::x9::x10::x11::x12::x13::y::l:=rfl
@[simp] theorem qP6 {α:Type} (x0 x1 x2 x3 x4 x5 x6 x7 x8 x9 x10 x11 x12 x13 x14 x15:α) (l:List α):(x0::x1::x2::x3::x4::x5::x6::x7::x8::x9::x10::x11::x12::x13::x14::x15::l)[15]?=some x15:=rfl
@[simp] theorem qP9 {α:Type} (x0 x1 x2 x3 x4 x5 x6 x7 x8 x9 x10 x11 x12 x13 x14 x15 y:α) (l:List α):(x0::x1::x2::x3::x4::x5::x6::x7::x8::x9::x10::x11::x12::x13::x14::x15::l).set 15 y=x0::x1::x2::x3::x4::x5::x6::x7::x8::x9::x10::x11::x12::x13::x14::y::l:=rfl
theorem qAP {gl:List T} {tb:List Fn} {Cs:List (List Nat)} {k f:Nat} {vs:List T} {M:Mem} {np ns:Nat} {b:Ss} (ht:tb[f]?=some ⟨np,ns,b⟩) (hl:vs.length=np/\np<=ns) (hk:1<=k):
  Pk gl tb Cs k f vs M=qC2 M.length (pxs gl (Pk gl tb Cs (k - 1)) (Cs.getD f []) b (vs.map some++List.replicate (ns - np) none) M):=by
 obtain ⟨k,rfl⟩:∃ j,k=j + 1:=⟨k - 1,by omega⟩
 rw [Pk,ht]
 dsimp only
 rw [if_pos hl]
 rfl
theorem qAA {M M1:Mem} {t:TB} (h:M1.length=M.length):qC2 M.length (.ok (.rt t,M1))=.ok (t,M1):=by
 show finish M.length t M1=_
 unfold finish
 rw [if_pos h]
theorem qIE {M M1:Mem} {σ:TS} (h:M1.length=M.length):qC2 M.length (.ok (.nx σ,M1))=.ok ((.v .non,true),M1):=by
 show finish M.length _ M1=_
 unfold finish
 rw [if_pos h]
noncomputable def N (n:Nat):T:=.v (.int (n:Int))
noncomputable def NL (L:List Nat):T:=.lst (L.map N)
theorem qEp (n:Nat):qAf 0 n=(List.range n).map N:=by
 unfold qAf N
 simp
theorem qLH (L:List Nat):T.lfs (L.map N)=true:=by
 induction L with
 | nil=>rfl
 | cons x L ih=>rw [List.map_cons,qCT,ih];rfl
theorem qPZ (n:Nat):(N n).lf=true:=by unfold N;rfl
theorem qFP {M:Mem} {d:Nat}:∀ (L K:List Nat),L.length=K.length -> qA3 (eqT M d) (L.map N) (K.map N)=some (List.zipWith (fun (a b:Nat)=>decide (a=b)) L K)
 | [],[],_=>rfl
 | [],_::_,h=>by simp at h
 | _::_,[],h=>by simp at h
 | a::L,b::K,h=>by
  have e:eqT M d (N a) (N b)=some (decide (a=b)):=by
   have:eqF (.int (a:Int)) (.int (b:Int))=some (decide (a=b)):=by
    show some ((a:Int)==(b:Int))=_
    congr 1
    rw [Bool.eq_iff_iff,beq_iff_eq,decide_eq_true_eq]
    omega
   cases d<;>(unfold eqT;exact this)
  rw [List.map_cons,List.map_cons,qA3,e,qFP L K (by simpa using h)]
  rfl
theorem qGn:∀ (L K:List Nat),L.length=K.length -> ((List.zipWith (fun (a b:Nat)=>decide (a=b)) L K).all id=decide (L=K))
 | [],[],_=>rfl
 | [],_::_,h=>by simp at h
 | _::_,[],h=>by simp at h
 | a::L,b::K,h=>by
  rw [List.zipWith_cons_cons,List.all_cons,qGn L K (by simpa using h)]
  by_cases h1:a=b<;>by_cases h2:L=K<;>simp [h1,h2]
theorem qLn {M:Mem} {d:Nat} (L K:List Nat):eqT M (d + 1) (NL L) (NL K)=some (decide (L=K)):=by
 unfold eqT
 show (if (L.map N).length=(K.map N).length then (qA3 (eqT M d) (L.map N) (K.map N)).map (fun bs=>bs.all id) else some false)=_
 rw [List.length_map,List.length_map]
 by_cases h:L.length=K.length
 ·rw [if_pos h,qFP L K h,Option.map_some,qGn L K h]
 ·rw [if_neg h]
  congr 1
  symm
  exact decide_eq_false (fun e=>h (by rw [e]))
open L2 (V)
@[simp] theorem qMX {d:qCM} {g:Tg} {b:TS -> Mem -> RSt} {σ:TS} {M:Mem}:qBW d g b [] σ M=.ok (.nx σ,M):=rfl
@[simp] theorem qDB {i:Nat} {b:TS -> Mem -> RSt} {x:T} {r:List T} {σ:TS} {M:Mem}:qBW [] (.name i) b (x::r) σ M=(b (σ.set i (some x)) M).bind fun p=>match p.1 with
   | .nx σ2=>qBW [] (.name i) b r σ2 p.2
   | .ct σ2=>qBW [] (.name i) b r σ2 p.2
   | .bk σ2=>.ok (.nx σ2,p.2)
   | .rt t=>.ok (.rt t,p.2):=rfl
@[simp] theorem qOW {M:Mem} (a b:Nat):qAq M .add (N a) (N b)=some (N (a + b),true):=by unfold N;simp [iT]
open L2 (V)
noncomputable def nE (n:Nat):E:=.cst (.int (n:Int))
@[simp] theorem qNZ {gl:List T} {P:Nat -> List T -> Mem -> PR (TB×Mem)} {σ:TS} {M:Mem} (n:Nat):pe gl P (nE n) σ M=.ok ((N n,true),M):=by unfold nE;rw [pe_int];rfl
section
variable {M:Mem} (a b:Nat) (xs:List T)
@[simp] theorem lfN:(N a).lf=true:=qPZ a
@[simp] theorem qPR:(N a).isV=some (.int (a:Int)):=rfl
@[simp] theorem qPw:qAh M (N a)=some "int":=rfl
@[simp] theorem qO9 (L:List Nat):qAh M (NL L)=some "list":=rfl
theorem qI7 {a b:Nat} (h:b<=a):qAq M .sub (N a) (N b)=some (N (a - b),true):=by
 unfold N;rw [qLX];unfold iT;rw [Int.ofNat_sub h]
theorem qHV {a b:Nat} (h:a < 18446744073709551616\/b < 18446744073709551616):qAq M .mul (N a) (N b)=some (N (a * b),true):=by
 unfold N;rw [qMI (by omega)];unfold iT;simp
theorem qDY {a b:Nat} (h:0 < b/\b < 1073741824):qAq M .fdiv (N a) (N b)=some (N (a / b),true):=by
 unfold N;rw [qJx (by omega)];unfold iT;simp
theorem qCZ {a b:Nat} (h:0 < b):qAq M .mod (N a) (N b)=some (N (a % b),true):=by
 unfold N;rw [qIb (by omega)];unfold iT;simp
theorem qGQ {a b:Nat} (h:b<=1000/\a < 1000000):qAq M .pow (N a) (N b)=some (N (a ^ b),true):=by
 unfold N;rw [qIy (by omega)];unfold iT;simp
theorem qG2 {a b:Nat} (h:b<=1000/\a < 1000000):qAq M .shl (N a) (N b)=some (N (a * 2 ^ b),true):=by
 unfold N;rw [qME (by omega)];unfold iT;simp
@[simp] theorem qF6:qA0 M .lt (N a) (N b)=some (decide (a < b)):=by unfold N;rw [qM3];simp
@[simp] theorem qKG:qA0 M .le (N a) (N b)=some (decide (a<=b)):=by unfold N;rw [qMw];simp
@[simp] theorem qNk:qA0 M .gt (N a) (N b)=some (decide (b < a)):=by unfold N;rw [qNt];simp
@[simp] theorem qNP:qA0 M .ge (N a) (N b)=some (decide (b<=a)):=by unfold N;rw [qNJ];simp
@[simp] theorem qLE:qA0 M .eq (N a) (N b)=some (decide (a=b)):=by unfold N;rw [qNo];congr 1;rw [Bool.eq_iff_iff,decide_eq_true_eq,decide_eq_true_eq];omega
@[simp] theorem qLO:qA0 M .ne (N a) (N b)=some (!decide (a=b)):=by
 show ((eqT M 4 (N a) (N b)).map (!·))=_
 rw [show eqT M 4 (N a) (N b)=some (decide (a=b)) from qLE (M:=M) a b];rfl
@[simp] theorem qCx:qC3 M (.lst xs) (N a)=(xs[a]?).map fun t=>(t,t.lf):=by
 show ((L2.ixN xs.length (a:Int)).bind fun j=>(xs[j]?).map fun t=>(t,t.lf))=_
 unfold L2.ixN
 rw [if_pos (by omega)]
 split
 ·simp
 ·rw [List.getElem?_eq_none (by omega)];rfl
@[simp] theorem qIw:qC3 M (.tup xs) (N a)=(xs[a]?).map fun t=>(t,t.lf):=by
 show ((L2.ixN xs.length (a:Int)).bind fun j=>(xs[j]?).map fun t=>(t,t.lf))=_
 unfold L2.ixN
 rw [if_pos (by omega)]
 split
 ·simp
 ·rw [List.getElem?_eq_none (by omega)];rfl
theorem qLi {n:Nat} {xs:List T} (h:M[n]?=some xs):qC3 M (.cell n) (N a)=(xs[a]?).map fun t=>(t,t.lf):=by
 show ((M[n]?).bind fun xs=>(L2.ixN xs.length (a:Int)).bind fun j=>(xs[j]?).map fun t=>(t,t.lf))=_
 rw [h]
 exact qCx (M:=M) a xs
@[simp] theorem qK2:qBk M .len [.lst xs]=some (N xs.length,true):=rfl
@[simp] theorem qOQ:qBk M .len [.tup xs]=some (N xs.length,true):=rfl
@[simp] theorem qNw:qBk M .len [.fz xs]=some (N xs.length,true):=rfl
@[simp] theorem qDA (L:List Nat):qBk M .len [NL L]=some (N L.length,true):=by unfold NL;rw [qK2,List.length_map]
@[simp] theorem qN7:qBk M .max [N a,N b]=some (N (max a b),true):=by
 unfold N;rw [qK4];unfold iT
 congr 4
 split<;>omega
@[simp] theorem qNx:qBk M .min [N a,N b]=some (N (min a b),true):=by
 unfold N;rw [qLa];unfold iT
 congr 4
 split<;>omega
@[simp] theorem qN2:qBk M .bits [N a]=some (N (PySem.Builtin.Int.intBits (a:Int)),true):=rfl
end
theorem qGX {n:Nat} (hn:n<=1000000):qL3 (N n)=some ((List.range n).map N):=by
 show (if -1000000<=(n:Int)/\(n:Int)<=1000000 then some (qAf 0 (n:Int).toNat) else none)=_
 rw [if_pos (by omega),Int.toNat_natCast,qEp]
theorem qKi {n:Nat} (hn:n<=100000):qJh (N n)=some ((List.range n).map N):=by
 show (if -1000000<=(n:Int)/\(n:Int)<=100000 then some (qAf 0 (n:Int).toNat) else none)=_
 rw [if_pos (by omega),Int.toNat_natCast,qEp]
theorem qLs {M:Mem} {n j:Nat} {xs:List T} {x:T} (h:M[n]?=some xs) (hj:j < xs.length):qML M (.cell n) (N j) x=some (M.set n (xs.set j x)):=by
 show ((M[n]?).bind fun xs=>(L2.ixN xs.length (j:Int)).map fun j=>M.set n (xs.set j x))=_
 rw [h]
 show (L2.ixN xs.length (j:Int)).map _=_
 unfold L2.ixN
 rw [if_pos (by omega),if_pos (by omega)]
 simp
theorem qJW {M:Mem} {n:Nat} {xs:List T} {x:T} (h:M[n]?=some xs) (hl:xs.length < lim):qK6 M n x=some (M.set n (xs++[x])):=by
 unfold qK6
 rw [h]
 show (if xs.length < lim then _ else _)=_
 rw [if_pos hl]
@[simp] theorem qLF (n a:Nat):thaw n (N a)=(N a,[]):=by unfold N;simp [thaw]
@[simp] theorem qOS {M:Mem} (L:List Nat):qGN M (NL L)=some (L.map N,[]):=rfl
@[simp] theorem qOA {M:Mem} (x f:Bool):pB (PR.ok ((T.v (V.bl x),f),M))=.ok (x,M):=Eq.trans rfl rfl
open L2 (V)
open L2 (V)
@[simp] theorem qLW {M:Mem} {n j:Nat} {x:T}:qML M (.cell n) (N j) x=(M[n]?).bind fun xs=>if j < xs.length then some (M.set n (xs.set j x)) else none:=by
 show ((M[n]?).bind fun xs=>(L2.ixN xs.length (j:Int)).map fun j=>M.set n (xs.set j x))=_
 congr 1
 funext xs
 unfold L2.ixN
 rw [if_pos (by omega)]
 by_cases h:j < xs.length
 ·rw [if_pos (by omega),if_pos h];simp
 ·rw [if_neg (by omega),if_neg h];rfl
@[simp] theorem qKa {M:Mem} {n a:Nat}:qC3 M (.cell n) (N a)=(M[n]?).bind fun xs=>(xs[a]?).map fun t=>(t,t.lf):=by
 show ((M[n]?).bind fun xs=>(L2.ixN xs.length (a:Int)).bind fun j=>(xs[j]?).map fun t=>(t,t.lf))=_
 congr 1
 funext xs
 exact qCx (M:=M) a xs
open L2 (V)
@[simp] theorem qN0 (a:Nat):qOO (N a)=some (iT (-(a:Int))):=rfl
@[simp] theorem qOc (a:Int):qOO (.v (.int a))=some (iT (-a)):=rfl
@[simp] theorem qPP (a:Nat):qAm [N a]=some [(a:Int)]:=rfl
@[simp] theorem qPE:qAm []=some []:=rfl
@[simp] theorem qOx {M:Mem} (xs:List T):T.its M (.lst xs)=some xs:=rfl
@[simp] theorem qPO {M:Mem} (xs:List T):T.its M (.fz xs)=some xs:=rfl
@[simp] theorem qPk {M:Mem} (xs:List T):T.its M (.tup xs)=some xs:=rfl
@[simp] theorem qOv {M:Mem} (L:List Nat):T.its M (NL L)=some (L.map N):=rfl
@[simp] theorem qOh (ys xs:List T) (lo hi:Option Int):qIq (.lst ys) xs lo hi=some (lT (qFC xs lo hi)):=rfl
@[simp] theorem qOk (ys xs:List T) (lo hi:Option Int):qIq (.fz ys) xs lo hi=some (lT (qFC xs lo hi)):=rfl
@[simp] theorem qN9 (L:List Nat) (xs:List T) (lo hi:Option Int):qIq (NL L) xs lo hi=some (lT (qFC xs lo hi)):=rfl
@[simp] theorem qOX (n:Nat) (xs:List T) (lo hi:Option Int):qIq (.cell n) xs lo hi=some (lT (qFC xs lo hi)):=rfl
@[simp] theorem qO8 {M:Mem} (xs:List T):T.lis M (.lst xs)=some xs:=rfl
@[simp] theorem qPW {M:Mem} (xs:List T):T.lis M (.fz xs)=some xs:=rfl
@[simp] theorem qPK {M:Mem} (L:List Nat):T.lis M (NL L)=some (L.map N):=rfl
open L2 (V)
@[simp] theorem qMr (i j:Nat) (a b:T) (σ:TS):qBE (.tup [i,j]) (.tup [a,b]) σ=some ((σ.set i (some a)).set j (some b)):=rfl
@[simp] theorem qGG (σ:TS):qCH [] σ=[]:=rfl
@[simp] theorem qEz (r:List (Option Nat)) (σ:TS):qCH (none::r) σ=none::qCH r σ:=rfl
@[simp] theorem qEw (j:Nat) (r:List (Option Nat)) (σ:TS):qCH (some j::r) σ=(σ[j]?).join::qCH r σ:=rfl
open L2 (V)
theorem qHG (x:V) (f:Bool) (M1:Mem):∃ b M2,qC2 ([]:Mem).length (.ok (.rt (.v x,f),M1))=.ok ((.v x,b),M2):=by
 show ∃ b M2,finish 0 (.v x,f) M1=_
 unfold finish
 by_cases h:M1.length=0
 ·rw [if_pos h];exact ⟨f,M1,rfl⟩
 ·rw [if_neg h,if_pos (by simp)]
  rw [show qAJ M1 0 6 (T.v x)=some (.v x) by unfold qAJ;rw [if_pos (by unfold T.und;rfl)]]
  exact ⟨_,_,rfl⟩
open L2 (V)
mutual
theorem qIR:∀ t:T,T.beq t t=true
 | .v x=>by unfold T.beq;simp
 | .cell x=>by unfold T.beq;simp
 | .ob x=>by unfold T.beq;simp
 | .fz xs=>by unfold T.beq;exact qBU xs
 | .lst xs=>by unfold T.beq;exact qBU xs
 | .tup xs=>by unfold T.beq;exact qBU xs
theorem qBU:∀ ts:List T,T.beqs ts ts=true
 | []=>rfl
 | t::ts=>by unfold T.beqs;rw [qIR t,qBU ts];rfl
end
mutual
theorem qFn {a b:Nat} (h:a<=b):∀ t:T,t.und a=true -> t.und b=true
 | .v x,_=>rfl
 | .cell k,e=>by unfold T.und at e ⊢;simp at e ⊢;omega
 | .ob x,_=>rfl
 | .fz xs,e=>by unfold T.und at e ⊢;exact qA6 h xs e
 | .lst xs,e=>by unfold T.und at e ⊢;exact qA6 h xs e
 | .tup xs,e=>by unfold T.und at e ⊢;exact qA6 h xs e
theorem qA6 {a b:Nat} (h:a<=b):∀ ts:List T,T.unds a ts=true -> T.unds b ts=true
 | [],_=>rfl
 | t::ts,e=>by unfold T.unds at e ⊢;rw [Bool.and_eq_true] at e;rw [qFn h t e.1,qA6 h ts e.2];rfl
end
noncomputable def FlatM (M:Mem):Prop:=∀ c∈M,T.unds 0 c=true
theorem FlatM.all {M:Mem} (h:FlatM M) (n:Nat):M.all (T.unds n)=true:=by
 rw [List.all_eq_true]
 exact fun c hc=>qA6 (Nat.zero_le _) c (h c hc)
theorem FlatM.app {A B:Mem} (h:FlatM A) (k:FlatM B):FlatM (A++B):=fun c hc=>by
 rcases List.mem_append.mp hc with z | z
 ·exact h c z
 ·exact k c z
theorem qA9 (n a:Nat):(N a).und n=true:=by unfold N T.und;rfl
theorem qCs (n:Nat):∀ L:List Nat,T.unds n (L.map N)=true
 | []=>rfl
 | x::L=>by rw [List.map_cons];unfold T.unds;rw [qA9,qCs n L];rfl
open L2 (V)
theorem qGZ (n:Nat):∀ L:List Nat,qBF n (L.map N)=(L.map N,[])
 | []=>by simp [qBF]
 | x::L=>by
  rw [List.map_cons,qBF,qLF]
  dsimp only
  rw [List.length_nil,Nat.add_zero,qGZ n L]
  rfl
@[simp] theorem qHC (n:Nat) (L:List Nat):thaw n (NL L)=(.cell n,[L.map N]):=by
 unfold NL
 rw [thaw,qGZ]
 rfl
theorem qIe {M:Mem} {n:Nat} {ts:List T} (h:M[n]?=some ts):qAc [(n,ts)] M=true:=by
 unfold qAc
 simp [h,qBU]
theorem qFV {M:Mem} {n:Nat} {ts:List T} (h:M[n]?=some ts):qGN M (.cell n)=some (ts,[(n,ts)]):=by
 unfold qGN;dsimp only;rw [h];rfl
theorem qOa {M:Mem} {n:Nat} {ts:List T} (h:M[n]?=some ts):qAh M (.cell n)=some "list":=by
 unfold qAh;dsimp only;rw [h];rfl
open L2 (V)
structure IsL (M:Mem) (t:T) (L:List Nat):Prop where
 its:t.its M=some (L.map N)
 lis:t.lis M=some (L.map N)
 ty:qAh M t=some "list"
 src:∃ d,qGN M t=some (L.map N,d)/\qNA M t=some (L.map N,d)/\qAc d M=true
 nv:t.isV=none
theorem IsL.nl (M:Mem) (L:List Nat):IsL M (NL L) L:=⟨rfl,rfl,rfl,⟨[],rfl,rfl,rfl⟩,rfl⟩
theorem IsL.cell {M:Mem} {n:Nat} {L:List Nat} (h:M[n]?=some (L.map N)):IsL M (.cell n) L:=⟨h,h,qOa h,⟨_,qFV h,qFV h,qIe h⟩,rfl⟩
section
variable {M:Mem} {t u:T} {L K:List Nat}
theorem IsL.len (h:IsL M t L):qBk M .len [t]=some (N L.length,true):=by
 show (t.its M).map _=_
 rw [h.its,Option.map_some,List.length_map];rfl
theorem IsL.list (h:IsL M t L):qBk M .list [t]=some (NL L,true):=by
 show (t.its M).map lT=_
 rw [h.its,Option.map_some]
 show some (T.lst (L.map N),T.lfs (L.map N))=_
 rw [qLH];rfl
theorem IsL.idx (h:IsL M t L) {i:Nat} {x:Nat} (e:L[i]?=some x):qC3 M t (N i)=some (N x,true):=by
 show ((t.its M).bind fun xs=>(L2.ixN xs.length (i:Int)).bind fun j=>(xs[j]?).map fun t=>(t,t.lf))=_
 rw [h.its,Option.bind_some]
 have:=qCx (M:=M) i (L.map N)
 rw [show qC3 M (.lst (L.map N)) (N i)=((L2.ixN (L.map N).length (i:Int)).bind fun j=>((L.map N)[j]?).map fun t=>(t,t.lf)) from rfl] at this
 rw [this,List.getElem?_map,e]
 simp
theorem IsL.eq (h:IsL M t L) (k:IsL M u K):eqT M 4 t u=some (decide (L=K)):=by
 have:=qLn (M:=M) (d:=3) L K
 unfold eqT at this ⊢
 rw [h.nv,k.nv,h.lis,k.lis]
 exact this
theorem IsL.cne (h:IsL M t L) (k:IsL M u K):qA0 M .ne t u=some (!decide (L=K)):=by
 show (eqT M 4 t u).map (!·)=_
 rw [h.eq k];rfl
end
theorem qGi {xs:List T} {m:Nat} (h:m<=xs.length):qFC xs none (some (m:Int))=xs.take m:=by
 unfold qFC
 rw [HT.sIx_none,HT.sIx_nat,Nat.min_eq_left h,List.drop_zero,Nat.sub_zero]
theorem qGY {xs:List T} {m:Nat} (h:m<=xs.length):qFC xs (some (m:Int)) none=xs.drop m:=by
 unfold qFC
 rw [HT.sIx_none,HT.sIx_nat,Nat.min_eq_left h]
 exact List.take_of_length_le (by simp)
open L2 (V)
theorem qHb {α:Type} (p:α -> Bool):∀ L:List α,qBK (L.map fun x=>T.v (.bl (p x)))=some (L.map p)
 | []=>rfl
 | x::L=>by
  show (qBK (L.map fun x=>T.v (.bl (p x)))).map _=_
  rw [qHb p L];rfl
theorem qKl {M:Mem} {α:Type} (p:α -> Bool) (L:List α):qBk M .all [.lst (L.map fun x=>T.v (.bl (p x)))]=some (bT (L.all p)):=by
 show (qBK _).map _=_
 rw [qHb,Option.map_some,List.all_map];rfl
open L2 (V)
theorem qNb {M:Mem} (a b:Bool):qA0 M .eq (.v (.bl a)) (.v (.bl b))=some (a==b):=rfl
theorem getD_some {L:List Nat} {i:Nat} (h:i < L.length):L[i]?=some (L.getD i 0):=by
 rw [List.getD_eq_getElem?_getD,List.getElem?_eq_getElem h];rfl
end PI
namespace PI
open L2 (V)
noncomputable def IsS (M:Mem) (t:T) (ts:List T):Prop:=t=.lst ts\/∃ m,t=.cell m/\M[m]?=some ts
section
variable {M C:Mem} {t:T} {ts:List T}
theorem IsS.app (h:IsS M t ts):IsS (M++C) t ts:=by
 rcases h with h | ⟨m,h,e⟩
 ·exact .inl h
 ·exact .inr ⟨m,h,by rw [List.getElem?_append_left (List.getElem?_eq_some_iff.mp e).1];exact e⟩
theorem IsS.its (h:IsS M t ts):t.its M=some ts:=by rcases h with rfl | ⟨m,rfl,e⟩;rfl;exact e
theorem IsS.lis (h:IsS M t ts):t.lis M=some ts:=by rcases h with rfl | ⟨m,rfl,e⟩;rfl;exact e
theorem IsS.ty (h:IsS M t ts):qAh M t=some "list":=by rcases h with rfl | ⟨m,rfl,e⟩;rfl;exact qOa e
theorem IsS.nv (h:IsS M t ts):t.isV=none:=by rcases h with rfl | ⟨m,rfl,e⟩<;>rfl
theorem IsS.lf (h:IsS M t ts):t.lf=false:=by rcases h with rfl | ⟨m,rfl,e⟩<;>simp
theorem IsS.src (h:IsS M t ts):∃ d,qGN M t=some (ts,d)/\qNA M t=some (ts,d)/\∀ C,qAc d (M++C)=true:=by
 rcases h with rfl | ⟨m,rfl,e⟩
 ·exact ⟨[],rfl,rfl,fun _=>rfl⟩
 ·exact ⟨_,qFV e,qFV e,fun C=>qIe (by rw [List.getElem?_append_left (List.getElem?_eq_some_iff.mp e).1];exact e)⟩
theorem IsS.len (h:IsS M t ts):qBk M .len [t]=some (N ts.length,true):=by
 show (t.its M).map _=_
 rw [h.its,Option.map_some];rfl
theorem IsS.idx (h:IsS M t ts) (i:Nat):qC3 M t (N i)=(ts[i]?).map fun t=>(t,t.lf):=by
 have a:qC3 M t (N i)=qC3 M (.lst ts) (N i):=by
  show (t.its M).bind _=_
  rw [h.its];rfl
 rw [a,qCx]
theorem IsS.list (h:IsS M t ts):qBk M .list [t]=some (lT ts):=by
 show (t.its M).map lT=_
 rw [h.its];rfl
theorem IsS.eqT {u:T} {us:List T} {d:Nat} {bs:List Bool} (h:IsS M t ts) (k:IsS M u us) (hl:ts.length=us.length) (e:qA3 (eqT M d) ts us=some bs):PI.eqT M (d + 1) t u=some (bs.all id):=by
 unfold PI.eqT
 rw [h.nv,k.nv,h.lis,k.lis]
 dsimp only
 rw [if_pos hl,e];rfl
end
noncomputable def WfM (M:Mem):Prop:=M.all (T.unds M.length)=true
theorem WfM.app {M C:Mem} (h:WfM M) (hC:∀ c∈C,T.unds (M++C).length c=true):WfM (M++C):=by
 unfold WfM at *
 rw [List.all_eq_true] at h ⊢
 intro c hc
 rcases List.mem_append.mp hc with z | z
 ·exact qA6 (by simp) c (h c z)
 ·exact hC c z
theorem FlatM.wf {M:Mem} (h:FlatM M):WfM M:=h.all _
theorem WfM.one {M:Mem} (h:WfM M) {ts:List T} (l:T.lfs ts=true):WfM (M++[ts]):=h.app fun c hc=>by rw [List.mem_singleton.mp hc];exact qDl _ _ l
theorem qCg {M:Mem} {n0 d:Nat}:∀ ts:List T,T.lfs ts=true -> ts.mapM (qAJ M n0 d)=some ts
 | [],_=>rfl
 | t::ts,h=>by
  rw [qCT,Bool.and_eq_true] at h
  have e:qAJ M n0 d t=some t:=by cases d<;>(unfold qAJ;rw [if_pos (qGU n0 t h.1)])
  rw [List.mapM_cons,e,qCg ts h.2];rfl
theorem qFf {M:Mem} {n0 d:Nat}:∀ ts:List T,T.lfs ts=true -> ts.mapM (qBi M n0 d)=some (ts.map fun _=>[])
 | [],_=>rfl
 | t::ts,h=>by
  rw [qCT,Bool.and_eq_true] at h
  have e:qBi M n0 d t=some []:=by cases d<;>(unfold qBi;rw [if_pos h.1])
  rw [List.mapM_cons,e,qFf ts h.2];rfl
theorem qGJ (L:List T):(L.map fun _=>([]:List Nat)).flatten=[]:=by
 induction L with
 | nil=>rfl
 | cons x L ih=>rw [List.map_cons,List.flatten_cons,ih];rfl
theorem qFt {M A C:Mem} {c:Nat} {ts:List T} (hA:A.length=M.length) (hW:WfM A) (hc:(A++C)[c]?=some ts) (hn:A.length<=c) (hl:T.lfs ts=true) (f:Bool):qC2 M.length (.ok (.rt (.cell c,f),A++C))=.ok ((.lst ts,true),A):=by
 show finish M.length _ _=_
 unfold finish
 have hlt:=(List.getElem?_eq_some_iff.mp hc).1
 rw [List.length_append] at hlt
 rw [<- hA,if_neg (by rw [List.length_append];omega),List.take_left' rfl,if_pos (show A.all (T.unds A.length)=true from hW)]
 have r:qAJ (A++C) A.length 6 (.cell c)=some (.lst ts):=by
  unfold qAJ
  rw [if_neg (by unfold T.und;simp;omega)]
  dsimp only
  rw [hc,Option.bind_some,qCg _ hl];rfl
 have i:frR (A++C) A.length (.cell c)=true:=by
  unfold frR
  rw [show qBi (A++C) A.length 6 (.cell c)=some [c] by
   unfold qBi
   rw [if_neg (by rw [qKk];decide)]
   dsimp only
   rw [if_pos hn,hc,Option.bind_some,qFf _ hl,Option.map_some,qGJ];rfl]
  simp
 dsimp only
 rw [r,PR.ofO_some,PR.bind_ok,i,Bool.or_true]
theorem qJL {d:qCM} {gl:List T} {P:Nat -> List T -> Mem -> PR (TB×Mem)} {e:TS -> Mem -> PR (TB×Mem)} {σ:TS} {J:Mem -> Prop} {Pr:T -> T -> Prop}:∀ (its ys:List T) (b:Bool) (o:Option T) (M:Mem),ys.length + its.length<=lim -> J M -> (∀ M',J M' -> qAc d M'=true) ->
  (∀ x∈its,∀ M',J M' -> ∃ z M'',e (some x::σ) M'=.ok ((z,true),M'')/\J M''/\Pr x z) ->
  ∃ zs M',qA4 d (.name 0) (pec gl P .nil) e its ys b (o::σ) M=.ok ((.lst (ys++zs),b),M')/\J M'/\qBC Pr its zs
 | [],ys,b,o,M,_,hJ,_,_=>⟨[],M,by simp [qA4],hJ,rfl⟩
 | x::r,ys,b,o,M,hl,hJ,hd,he=>by
  obtain ⟨z,M1,e1,j1,p1⟩:=he x (by simp) M hJ
  obtain ⟨zs,M2,e2,j2,p2⟩:=qJL (d:=d) (gl:=gl) (P:=P) (σ:=σ) r (ys++[z]) b (some x) M1 (by simp at hl ⊢;omega) j1 hd fun y hy=>he y (by simp [hy])
  refine ⟨z::zs,M2,?_,j2,⟨z,zs,rfl,p1,p2⟩⟩
  rw [qA4,show qBE (.name 0) x (o::σ)=some (some x::σ) from rfl]
  dsimp only
  rw [qA1,PR.bind_ok]
  dsimp only
  rw [if_pos rfl,e1,PR.bind_ok]
  dsimp only
  rw [if_pos ⟨by simp at hl;omega,hd M1 j1⟩,Bool.and_true,e2]
  simp
theorem qDO {d:qCM} {gl:List T} {P:Nat -> List T -> Mem -> PR (TB×Mem)} {e:TS -> Mem -> PR (TB×Mem)} {σ:TS} {M:Mem} (f:T -> T) (fr:T -> Bool) (hd:qAc d M=true):∀ (its ys:List T) (b:Bool) (o:Option T),ys.length + its.length<=lim ->
  (∀ x∈its,e (some x::σ) M=.ok ((f x,fr x),M)) ->
  qA4 d (.name 0) (pec gl P .nil) e its ys b (o::σ) M=.ok ((.lst (ys++its.map f),b&&its.all fr),M)
 | [],ys,b,o,_,_=>by simp [qA4]
 | x::r,ys,b,o,hl,he=>by
  rw [qA4,show qBE (.name 0) x (o::σ)=some (some x::σ) from rfl]
  dsimp only
  rw [qA1,PR.bind_ok]
  dsimp only
  rw [if_pos rfl,he x (by simp),PR.bind_ok]
  dsimp only
  rw [if_pos ⟨by simp at hl;omega,hd⟩,qDO f fr hd r (ys++[f x]) (b&&fr x) (some x) (by simp at hl ⊢;omega) fun y hy=>he y (by simp [hy])]
  simp [Bool.and_assoc]
end PI
namespace Nt
noncomputable abbrev Stp:=Nat×Nat
noncomputable def one (x:List Nat) (p:Stp):List Nat:=x.set p.1 ((x.getD p.1 0 + x.getD p.2 0) % 2)
noncomputable def row (x:List Nat) (L:List Stp):List Nat:=L.foldl one x
noncomputable def net (x:List Nat) (Ns:List (List Stp)):List Nat:=Ns.foldl row x
noncomputable def Sg (n:Nat) (x:List Nat):Prop:=x.length=n/\∀ v∈x,v < 2
noncomputable def OkS (n:Nat) (p:Stp):Prop:=p.1 < n/\p.2 < n/\p.1≠p.2
noncomputable def qAt (L:List Stp):List Nat:=L.flatMap fun p=>[p.1,p.2]
structure OkR (n:Nat) (L:List Stp):Prop where
 st:∀ p∈L,OkS n p
 nd:(qAt L).Nodup
 le:L.length<=100
noncomputable def add (x y:List Nat):List Nat:=(List.range x.length).map fun k=>(x.getD k 0 + y.getD k 0) % 2
theorem spots_app (A B:List Stp):qAt (A++B)=qAt A++qAt B:=by unfold qAt;rw [List.flatMap_append]
end Nt
namespace My
open PySem PySem.Spec PyProof.Rows L2 PI
noncomputable def top (i:Nat):Stmt:=PySem.Challenge.pw_healhalves_k07_nets_let_in.main.body.getD i (.Pass ⟨0,0,0,0⟩)
noncomputable def Tb:Tbl:=⟨[⟨"is_whole",top 7,["thing"],["thing"]⟩,
 ⟨"is_number_below",top 8,["thing","end"],["thing","end"]⟩,
 ⟨"length_of",top 9,["size"],["size"]⟩,
 ⟨"is_size",top 10,["thing"],["thing"]⟩,
 ⟨"check_size",top 11,["size"],["size"]⟩,
 ⟨"is_net",top 14,["size","thing"],["size","thing"]⟩,
 ⟨"is_net_round",top 15,["length","thing"],["length","thing","used","step"]⟩,
 ⟨"is_net_step",top 16,["length","thing"],["length","thing"]⟩,
 ⟨"_law_bag",top 18,["_law_script","_law_k"],["_law_script","_law_k","_law_cell","_law_great"]⟩,
 ⟨"_law_out",top 19,["_law_bag_here","_law_many"],["_law_bag_here","_law_many","_law_found"]⟩,
 ⟨"_law_whole",top 20,["_law_thing"],["_law_thing"]⟩,
 ⟨"_law_round",top 21,["_law_bag_here","_law_size"],["_law_bag_here","_law_size","_law_spots","_law_row","_law_k","_law_one","_law_other"]⟩,
 ⟨"_law_net",top 22,["_law_bag_here","_law_size"],["_law_bag_here","_law_size"]⟩,
 ⟨"_law_is_step",top 23,["_law_top","_law_thing"],["_law_top","_law_thing"]⟩,
 ⟨"_law_is_round",top 24,["_law_top","_law_thing"],["_law_top","_law_thing","_law_one","_law_spots","_law_other"]⟩,
 ⟨"_law_is_net",top 25,["_law_size","_law_thing"],["_law_size","_law_thing"]⟩,
 ⟨"_law_odd_step",top 26,["_law_bag_here","_law_row","_law_top"],["_law_bag_here","_law_row","_law_top","_law_one","_law_other","_law_used","_law_some"]⟩,
 ⟨"_law_spoilt",top 27,["_law_bag_here","_law_size","_law_net_here"],["_law_bag_here","_law_size","_law_net_here","_law_way","_law_more","_law_rows","_law_at","_law_place"]⟩,
 ⟨"_law_truth",top 28,["_law_found","_law_due"],["_law_found","_law_due"]⟩,
 ⟨"_law_no_size",top 29,["_law_bag_here","_law_thing"],["_law_bag_here","_law_thing","_law_size","_law_kinds","e"]⟩,
 ⟨"law",top 30,["_law_script"],["_law_script","_law_k","_law_bag_here","_law_size","_law_net_here","_law_bent","_law_kept"]⟩],
 [("LENGTHS",E.glob 0),("GREATEST_SIZE",E.cst (.int 5)),("MOST_ROUNDS",E.cst (.int 40))],
 ["len","all","max","min","list","int","tuple","range","isinstance","bool","repr","set","ValueError"],["HealError","NoSize","NoNet"],[]⟩
noncomputable def gs:List O:=[O.tup [V.int 1,V.int 2,V.int 4,V.int 8,V.int 16,V.int 32]]
end My
namespace My
open PySem PySem.Spec PI
open L2 (V)
noncomputable def b0:Ss:=(.cons (.ret (.and (.isi (.var 0) ["int"]) (.not (.isi (.var 0) ["bool"])))) .nil)
noncomputable def b1:Ss:=(.cons (.ret (.and (.call 0 (.cons (.var 0) .nil)) (.cmp2 .le .lt (nE 0) (.var 0) (.var 1)))) .nil)
noncomputable def b2:Ss:=(.cons (.ret (.idx (.glob 0) (.var 0))) .nil)
noncomputable def b3:Ss:=(.cons (.ret (.and (.call 0 (.cons (.var 0) .nil)) (.cmp2 .le .le (nE 1) (.var 0) (nE 5)))) .nil)
noncomputable def b4:Ss:=(.cons (.ifs (.not (.call 3 (.cons (.var 0) .nil))) (.cons (.raise 1) .nil) .nil) .nil)
noncomputable def b5:Ss:=(.cons (.xexpr 4 (.cons (.var 0) .nil)) (.cons (.ifs (.or (.not (.isi (.var 1) ["list"])) (.cmp .gt (.blt .len (.cons (.var 1) .nil)) (nE 40))) (.cons (.ret (.cst (V.bl false))) .nil) .nil) (.cons (.ret (.blt .all (.cons (.comp (.list (.var 1)) [none,some 0] (.name 0) .nil (.call 6 (.cons (.call 2 (.cons (.var 1) .nil)) (.cons (.var 0) .nil)))) .nil))) .nil)))
noncomputable def qO4:Ss:=(.cons (.ifs (.or (.not (.call 7 (.cons (.var 0) (.cons (.var 3) .nil)))) (.or (.cmp .inn (.idx (.var 3) (nE 0)) (.var 2)) (.cmp .inn (.idx (.var 3) (nE 1)) (.var 2)))) (.cons (.ret (.cst (V.bl false))) .nil) .nil) (.cons (.put (.var 2) (.idx (.var 3) (nE 0)) (.cst (V.bl true))) (.cons (.put (.var 2) (.idx (.var 3) (nE 1)) (.cst (V.bl true))) .nil)))
noncomputable def b6o:Ss:=(.cons (.ifs (.not (.isi (.var 1) ["list"])) (.cons (.ret (.cst (V.bl false))) .nil) .nil) (.cons (.asg (.name 2) .dnew) (.cons (.for_ (.name 3) (.list (.var 1)) qO4) (.cons (.ret (.cst (V.bl true))) .nil))))
theorem t6o:Tb.fns[6]?=some ⟨2,4,b6o⟩:=by kernel_rfl
noncomputable def b6:Ss:=(.cons (.ifs (.not (.isi (.var 1) ["list"])) (.cons (.ret (.cst (V.bl false))) .nil) .nil) (.cons (.nloop 2 3 7 0 (.var 1)) (.cons (.ret (.cst (V.bl true))) .nil)))
noncomputable def b7:Ss:=(.cons (.ifs (.or (.not (.isi (.var 1) ["tuple"])) (.cmp .ne (.blt .len (.cons (.var 1) .nil)) (nE 2))) (.cons (.ret (.cst (V.bl false))) .nil) .nil) (.cons (.ret (.and (.blt .all (.cons (.comp (.list (.var 1)) [none,some 0] (.name 0) .nil (.call 1 (.cons (.var 0) (.cons (.var 1) .nil)))) .nil)) (.cmp .ne (.idx (.var 1) (nE 0)) (.idx (.var 1) (nE 1))))) .nil))
noncomputable def b8:Ss:=(.cons (.asg (.name 2) (nE 0)) (.cons (.ifs (.cmp .lt (.var 1) (.blt .len (.cons (.var 0) .nil))) (.cons (.asg (.name 2) (.idx (.var 0) (.var 1))) .nil) .nil) (.cons (.asg (.name 3) (nE 0)) (.cons (.ifs (.cmp .ge (.var 2) (.bin .pow (nE 10) (nE 18))) (.cons (.asg (.name 3) (.var 2)) .nil) .nil) (.cons (.ret (.lst (.cons (.var 3) (.cons (.bin .mod (.bin .pow (.bin .add (.bin .add (.bin .mod (.var 2) (nE 998244353)) (.bin .mul (nE 7368787) (.var 1))) (nE 17)) (nE 3)) (nE 2147483629)) .nil)))) .nil)))))
noncomputable def b9:Ss:=(.cons (.ifs (.cmp .gt (.idx (.var 0) (nE 0)) (nE 0)) (.cons (.asg (.name 2) (.bin .mod (.idx (.var 0) (nE 0)) (.var 1))) (.cons (.put (.var 0) (nE 0) (.bin .fdiv (.idx (.var 0) (nE 0)) (.var 1))) (.cons (.ret (.var 2)) .nil))) .nil) (.cons (.put (.var 0) (nE 1) (.bin .mod (.bin .add (.bin .mul (.idx (.var 0) (nE 1)) (nE 40692)) (nE 12345)) (nE 2147483399))) (.cons (.ret (.bin .mod (.bin .fdiv (.bin .mod (.bin .mul (.idx (.var 0) (nE 1)) (.bin .add (.bin .fdiv (.idx (.var 0) (nE 1)) (nE 1024)) (nE 7))) (nE 2147483647)) (nE 32)) (.var 1))) .nil)))
noncomputable def b10:Ss:=(.cons (.ret (.and (.isi (.var 0) ["int"]) (.not (.isi (.var 0) ["bool"])))) .nil)
noncomputable def qG1:Ss:=(.cons (.asg (.name 5) (.meth .popAt (.var 2) (.cons (.call 9 (.cons (.var 0) (.cons (.blt .len (.cons (.var 2) .nil)) .nil))) .nil))) (.cons (.asg (.name 6) (.meth .popAt (.var 2) (.cons (.call 9 (.cons (.var 0) (.cons (.blt .len (.cons (.var 2) .nil)) .nil))) .nil))) (.cons (.expr (.app (.var 3) (.tup (.cons (.var 5) (.cons (.var 6) .nil))))) .nil)))
noncomputable def b11:Ss:=(.cons (.asg (.name 2) (.lrng (.bin .shl (nE 1) (.var 1)))) (.cons (.asg (.name 3) (.lst .nil)) (.cons (.for_ (.name 4) (.rng1 (.call 9 (.cons (.var 0) (.cons (.bin .add (.bin .fdiv (.bin .shl (nE 1) (.var 1)) (nE 2)) (nE 1)) .nil)))) qG1) (.cons (.ret (.var 3)) .nil))))
noncomputable def b12:Ss:=(.cons (.ret (.comp (.rng1 (.idx (.lst (.cons (nE 0) (.cons (nE 1) (.cons (nE 2) (.cons (nE 3) (.cons (nE 5) (.cons (nE 40) .nil))))))) (.call 9 (.cons (.var 0) (.cons (nE 6) .nil))))) [none,some 0,some 1] (.name 0) .nil (.call 11 (.cons (.var 1) (.cons (.var 2) .nil))))) .nil)
noncomputable def b13:Ss:=(.cons (.ifs (.or (.not (.isi (.var 1) ["tuple"])) (.or (.cmp .ne (.blt .len (.cons (.var 1) .nil)) (nE 2)) (.or (.not (.call 10 (.cons (.idx (.var 1) (nE 0)) .nil))) (.not (.call 10 (.cons (.idx (.var 1) (nE 1)) .nil)))))) (.cons (.ret (.cst (V.bl false))) .nil) .nil) (.cons (.ret (.and (.cmp2 .le .lt (nE 0) (.idx (.var 1) (nE 0)) (.var 0)) (.and (.cmp2 .le .lt (nE 0) (.idx (.var 1) (nE 1)) (.var 0)) (.cmp .ne (.idx (.var 1) (nE 0)) (.idx (.var 1) (nE 1)))))) .nil))
noncomputable def qIG:Ss:=(.cons (.asg (.name 3) (.bin .add (.var 3) (.lst (.cons (.var 2) (.cons (.var 4) .nil))))) .nil)
noncomputable def b14:Ss:=(.cons (.ifs (.or (.not (.isi (.var 1) ["list"])) (.not (.blt .all (.cons (.comp (.list (.var 1)) [none,some 0] (.name 0) .nil (.call 13 (.cons (.var 1) (.cons (.var 0) .nil)))) .nil)))) (.cons (.ret (.cst (V.bl false))) .nil) .nil) (.cons (.asg (.name 3) (.lst .nil)) (.cons (.for_ (.tup [2,4]) (.list (.var 1)) qIG) (.cons (.ret (.cmp .eq (.nset (.var 3)) (.blt .len (.cons (.var 3) .nil)))) .nil))))
noncomputable def b15:Ss:=(.cons (.ret (.and (.isi (.var 1) ["list"]) (.and (.cmp .le (.blt .len (.cons (.var 1) .nil)) (nE 40)) (.blt .all (.cons (.comp (.list (.var 1)) [none,some 0] (.name 0) .nil (.call 14 (.cons (.bin .shl (nE 1) (.var 1)) (.cons (.var 0) .nil)))) .nil))))) .nil)
noncomputable def b16:Ss:=(.cons (.asg (.name 3) (.call 9 (.cons (.var 0) (.cons (.var 2) .nil)))) (.cons (.asg (.name 4) (.bin .mod (.bin .add (.bin .add (.var 3) (nE 1)) (.call 9 (.cons (.var 0) (.cons (.bin .sub (.var 2) (nE 1)) .nil)))) (.var 2))) (.cons (.asg (.name 5) (.var 3)) (.cons (.ifs (.cmp .ne (.var 1) (.lst .nil)) (.cons (.asg (.name 5) (.idx (.idx (.var 1) (.call 9 (.cons (.var 0) (.cons (.blt .len (.cons (.var 1) .nil)) .nil)))) (.call 9 (.cons (.var 0) (.cons (nE 2) .nil))))) .nil) .nil) (.cons (.asg (.name 6) (.lst (.cons (.tup (.cons (.var 3) (.cons (.var 3) .nil))) (.cons (.tup (.cons (.var 5) (.cons (.var 4) .nil))) (.cons (.tup (.cons (.var 4) (.cons (.var 5) .nil))) (.cons (.tup (.cons (.var 3) (.cons (.var 2) .nil))) (.cons (.tup (.cons (.bin .sub (nE 0) (nE 1)) (.cons (.var 3) .nil))) (.cons (.tup (.cons (.cst (V.bl true)) (.cons (.var 4) .nil))) (.cons (.tup (.cons (.var 3) (.cons (.cst (V.bl false)) .nil))) (.cons (.tup (.cons (.var 3) .nil)) .nil)))))))))) (.cons (.asg (.name 6) (.bin .add (.var 6) (.lst (.cons (.tup (.cons (.var 3) (.cons (.var 4) (.cons (.var 3) .nil)))) (.cons (.lst (.cons (.var 3) (.cons (.var 4) .nil))) (.cons (.cst V.non) (.cons (.tup (.cons (.var 3) (.cons (.cst V.non) .nil))) (.cons (.tup (.cons (.cst (V.str "0")) (.cons (.var 4) .nil))) (.cons (.tup (.cons (.var 3) (.cons (.bin .add (.var 2) (.bin .pow (nE 10) (nE 30))) .nil))) .nil))))))))) (.cons (.asg (.name 6) (.bin .add (.var 6) (.lst (.cons (.tup (.cons (.lst (.cons (.var 3) .nil)) (.cons (.var 4) .nil))) (.cons (.tup (.cons (.var 3) (.cons .dnew .nil))) (.cons (.tup (.cons (.var 3) (.cons (.var 4) .nil))) .nil)))))) (.cons (.ret (.idx (.var 6) (.call 9 (.cons (.var 0) (.cons (nE 17) .nil))))) .nil))))))))
noncomputable def b17:Ss:=(.cons (.asg (.name 3) (.call 9 (.cons (.var 0) (.cons (nE 20) .nil)))) (.cons (.ifs (.cmp .lt (.var 3) (nE 4)) (.cons (.asg (.name 4) (.comp (.rng1 (.bin .sub (.idx (.lst (.cons (nE 0) (.cons (nE 0) (.cons (nE 41) (.cons (nE 40) .nil))))) (.var 3)) (.blt .len (.cons (.var 2) .nil)))) [none] (.name 0) .nil (.lst .nil))) (.cons (.ret (.idx (.lst (.cons (.blt .tuple (.cons (.var 2) .nil)) (.cons (.cst V.non) (.cons (.bin .add (.var 2) (.var 4)) (.cons (.bin .add (.var 2) (.var 4)) .nil))))) (.var 3))) .nil)) .nil) (.cons (.asg (.name 5) (.comp (.list (.var 2)) [none] (.name 0) .nil (.blt .list (.cons (.var 0) .nil)))) (.cons (.ifs (.cmp .lt (.blt .len (.cons (.var 5) .nil)) (nE 40)) (.cons (.expr (.app (.var 5) (.lst .nil))) .nil) .nil) (.cons (.asg (.name 6) (.call 9 (.cons (.var 0) (.cons (.blt .len (.cons (.var 5) .nil)) .nil)))) (.cons (.ifs (.cmp .lt (.var 3) (nE 7)) (.cons (.put (.var 5) (.var 6) (.idx (.lst (.cons (.blt .tuple (.cons (.idx (.var 5) (.var 6)) .nil)) (.cons (.idx (.lst (.cons (.cst V.non) (.cons .dnew .nil))) (.bin .mod (.var 6) (nE 2))) (.cons (nE 7) .nil)))) (.bin .sub (.var 3) (nE 4)))) .nil) (.cons (.asg (.name 7) (.call 9 (.cons (.var 0) (.cons (.bin .add (.blt .len (.cons (.idx (.var 5) (.var 6)) .nil)) (nE 1)) .nil)))) (.cons (.put (.var 5) (.var 6) (.bin .add (.bin .add (.sl (.idx (.var 5) (.var 6)) .nil (.cons (.var 7) .nil)) (.lst (.cons (.call 16 (.cons (.var 0) (.cons (.idx (.var 5) (.var 6)) (.cons (.bin .shl (nE 1) (.var 1)) .nil)))) .nil))) (.sl (.idx (.var 5) (.var 6)) (.cons (.var 7) .nil) .nil))) .nil))) (.cons (.ret (.var 5)) .nil)))))))
noncomputable def b18:Ss:=(.cons (.ret (.and (.isi (.var 0) ["bool"]) (.cmp .eq (.var 0) (.var 1)))) .nil)
noncomputable def b19:Ss:=(.cons (.asg (.name 2) (.idx (.lst (.cons (nE 0) (.cons (nE 6) (.cons (.bin .sub (nE 0) (nE 1)) (.cons (.cst (V.bl true)) (.cons (.cst V.non) (.cons (.cst (V.str "2")) (.cons (.tup (.cons (nE 2) .nil)) (.cons (.bin .pow (nE 10) (nE 30)) .nil))))))))) (.call 9 (.cons (.var 0) (.cons (nE 8) .nil))))) (.cons (.asg (.name 3) (.lst .nil)) (.cons (.tryK (.xexpr 5 (.cons (.var 2) (.cons (.var 1) .nil))) 4 3 3 [1,999,2]) (.cons (.ret (.cmp .eq (.var 3) (.lst (.cons (.cst (V.bl true)) (.cons (.cst (V.bl true)) (.cons (.cst (V.bl false)) .nil)))))) .nil))))
noncomputable def qII:Ss:=(.cons (.asg (.name 2) (.call 8 (.cons (.var 0) (.cons (.var 1) .nil)))) (.cons (.asg (.name 3) (.bin .add (nE 1) (.call 9 (.cons (.var 2) (.cons (nE 5) .nil))))) (.cons (.asg (.name 4) (.call 12 (.cons (.var 2) (.cons (.var 3) .nil)))) (.cons (.asg (.name 5) (.call 17 (.cons (.var 2) (.cons (.var 3) (.cons (.var 4) .nil))))) (.cons (.asg (.name 6) (.lst (.cons (.blt .repr (.cons (.var 4) .nil)) (.cons (.blt .repr (.cons (.var 5) .nil)) .nil)))) (.cons (.ifs (.or (.not (.call 18 (.cons (.call 5 (.cons (.var 3) (.cons (.var 4) .nil))) (.cons (.cst (V.bl true)) .nil)))) (.not (.call 18 (.cons (.call 5 (.cons (.var 3) (.cons (.var 5) .nil))) (.cons (.call 15 (.cons (.var 3) (.cons (.var 5) .nil))) .nil))))) (.cons (.ret (.cst (V.bl false))) .nil) .nil) (.cons (.ifs (.or (.not (.call 18 (.cons (.call 5 (.cons (.var 3) (.cons (.var 4) .nil))) (.cons (.cst (V.bl true)) .nil)))) (.cmp .ne (.lst (.cons (.blt .repr (.cons (.var 4) .nil)) (.cons (.blt .repr (.cons (.var 5) .nil)) .nil))) (.var 6))) (.cons (.ret (.cst (V.bl false))) .nil) .nil) (.cons (.ifs (.not (.call 19 (.cons (.var 2) (.cons (.idx (.lst (.cons (.var 4) (.cons (.var 5) .nil))) (.call 9 (.cons (.var 2) (.cons (nE 2) .nil)))) .nil)))) (.cons (.ret (.cst (V.bl false))) .nil) .nil) (.cons (.ifs (.cmp .ne (.var 4) (.lst .nil)) (.cons (.expr (.app (.idx (.var 4) (nE 0)) (nE 7))) (.cons (.ifs (.not (.call 18 (.cons (.call 5 (.cons (.var 3) (.cons (.var 4) .nil))) (.cons (.cst (V.bl false)) .nil)))) (.cons (.ret (.cst (V.bl false))) .nil) .nil) .nil)) .nil) .nil)))))))))
noncomputable def b20:Ss:=(.cons (.for_ (.name 1) (.rng1 (.blt .max (.cons (nE 1) (.cons (.blt .min (.cons (.blt .len (.cons (.var 0) .nil)) (.cons (nE 30) .nil))) .nil)))) qII) (.cons (.ret (.cst (V.bl true))) .nil))
noncomputable def Fs:List Fn:=Tb.fns.set 6 ⟨2,4,b6⟩
theorem t0:Fs[0]?=some ⟨1,1,b0⟩:=by kernel_rfl
theorem t1:Fs[1]?=some ⟨2,2,b1⟩:=by kernel_rfl
theorem t2:Fs[2]?=some ⟨1,1,b2⟩:=by kernel_rfl
theorem t3:Fs[3]?=some ⟨1,1,b3⟩:=by kernel_rfl
theorem t4:Fs[4]?=some ⟨1,1,b4⟩:=by kernel_rfl
theorem t5:Fs[5]?=some ⟨2,2,b5⟩:=by kernel_rfl
theorem t6:Fs[6]?=some ⟨2,4,b6⟩:=by kernel_rfl
theorem t7:Fs[7]?=some ⟨2,2,b7⟩:=by kernel_rfl
theorem t8:Fs[8]?=some ⟨2,4,b8⟩:=by kernel_rfl
theorem t9:Fs[9]?=some ⟨2,3,b9⟩:=by kernel_rfl
theorem t10:Fs[10]?=some ⟨1,1,b10⟩:=by kernel_rfl
theorem t11:Fs[11]?=some ⟨2,7,b11⟩:=by kernel_rfl
theorem t12:Fs[12]?=some ⟨2,2,b12⟩:=by kernel_rfl
theorem t13:Fs[13]?=some ⟨2,2,b13⟩:=by kernel_rfl
theorem t14:Fs[14]?=some ⟨2,5,b14⟩:=by kernel_rfl
theorem t15:Fs[15]?=some ⟨2,2,b15⟩:=by kernel_rfl
theorem t16:Fs[16]?=some ⟨3,7,b16⟩:=by kernel_rfl
theorem t17:Fs[17]?=some ⟨3,8,b17⟩:=by kernel_rfl
theorem t18:Fs[18]?=some ⟨2,2,b18⟩:=by kernel_rfl
theorem t19:Fs[19]?=some ⟨2,5,b19⟩:=by kernel_rfl
theorem t20:Fs[20]?=some ⟨1,7,b20⟩:=by kernel_rfl
theorem qPU (k f:Nat) (vs:List V) (h:AH):Fk Tb.fns k f vs h=Fk Fs k f vs h:=qJE (d:=⟨2,4,b6o⟩) (b:=b6) t6o (fun _ _ _=>rfl) k f vs h
noncomputable def Cs:List (List Nat):=[[],[],[],[],[],[],[],[],[],[],[],[2,3],[],[],[],[],[],[5],[],[],[2,4]]
open Nt (Stp Sg OkS OkR qAt)
theorem gl0:(glT gs)[0]?=some (.tup [N 1,N 2,N 4,N 8,N 16,N 32]):=rfl
theorem qEb {M:Mem} (c:Nat):qC2 M.length (.exc c M)=.exc c M:=by
 show (if M.length=M.length then _ else _)=_
 rw [if_pos rfl]
section
variable {k:Nat}
noncomputable abbrev I (x:Int):T:=.v (.int x)
noncomputable def stT (g s:Nat):List T:=[N g,N s]
noncomputable def qER (M:Mem) (n:Nat):Prop:=∃ g s,M[n]?=some (stT g s)/\s < 2147483648
structure Kept (n:Nat) (M M':Mem):Prop where
 good:qER M' n
 len:M'.length=M.length
 oth:∀ j,j≠n -> M'[j]?=M[j]?
theorem Kept.trans {n:Nat} {A B C:Mem} (x:Kept n A B) (y:Kept n B C):Kept n A C:=⟨y.good,y.len.trans x.len,fun j hj=>(y.oth j hj).trans (x.oth j hj)⟩
theorem qO5 (hk:1<=k) {M:Mem} {n m g s:Nat} (hm:0 < m/\m<=1000000) (hg:0 < g) (e:M[n]?=some [N g,N s]) (e':∀ y,(M.set n y)[n]?=some y):
  Pk (glT gs) Fs Cs k 9 [.cell n,N m] M=.ok ((N (g % m),true),M.set n [N (g / m),N s]):=by
 rw [qAP t9 ⟨rfl,by decide⟩ hk,b9,show Cs.getD 9 []=[] from rfl]
 simp (disch:=omega) [qCZ,qDY,e,e',hg]
 rw [qAA (by simp)]
theorem qPV (hk:1<=k) {M:Mem} {n m s:Nat} (hm:0 < m/\m<=1000000) (e:M[n]?=some [N 0,N s]) (e':∀ y,(M.set n y)[n]?=some y) {s':Nat} (hs':(s * 40692 + 12345) % 2147483399=s') (hq:s' < 2147483399):
  Pk (glT gs) Fs Cs k 9 [.cell n,N m] M=.ok ((N (s' * (s' / 1024 + 7) % 2147483647 / 32 % m),true),M.set n [N 0,N s']):=by
 rw [qAP t9 ⟨rfl,by decide⟩ hk,b9,show Cs.getD 9 []=[] from rfl]
 have ml1:∀ {M:Mem} (x:Nat),qAq M .mul (N x) (N 40692)=some (N (x * 40692),true):=fun {M} x=>qHV (.inr (by decide))
 have ml3:∀ {M:Mem} (y:Nat),qAq M .mul (N s') (N y)=some (N (s' * y),true):=fun {M} y=>qHV (.inl (Nat.lt_trans hq (by decide)))
 have md1:∀ {M:Mem} (x:Nat),qAq M .mod (N x) (N 2147483399)=some (N (x % 2147483399),true):=fun {M} x=>qCZ (by decide)
 have md2:∀ {M:Mem} (x:Nat),qAq M .mod (N x) (N 2147483647)=some (N (x % 2147483647),true):=fun {M} x=>qCZ (by decide)
 have md3:∀ {M:Mem} (x:Nat),qAq M .mod (N x) (N m)=some (N (x % m),true):=fun {M} x=>qCZ hm.1
 have fd1:∀ {M:Mem} (x:Nat),qAq M .fdiv (N x) (N 1024)=some (N (x / 1024),true):=fun {M} x=>qDY (by decide)
 have fd2:∀ {M:Mem} (x:Nat),qAq M .fdiv (N x) (N 32)=some (N (x / 32),true):=fun {M} x=>qDY (by decide)
 simp [hs',ml1,ml3,md1,md2,md3,fd1,fd2,e,e']
 rw [qAA (by simp)]
theorem out (hk:1<=k) {M:Mem} {n m:Nat} (g:qER M n) (hm:0 < m/\m<=1000000):∃ d M',Pk (glT gs) Fs Cs k 9 [.cell n,N m] M=.ok ((N d,true),M')/\d < m/\Kept n M M':=by
 obtain ⟨a,s,e,hb⟩:=g
 have hn:n < M.length:=(List.getElem?_eq_some_iff.mp e).1
 have e':∀ y,(M.set n y)[n]?=some y:=fun y=>List.getElem?_set_self hn
 rcases Nat.eq_zero_or_pos a with rfl | hp
 ·have hq:(s * 40692 + 12345) % 2147483399 < 2147483399:=Nat.mod_lt _ (by decide)
  exact ⟨_,_,qPV hk hm e e' rfl hq,Nat.mod_lt _ hm.1,⟨⟨0,_,e' _,Nat.lt_trans hq (by decide)⟩,by simp,fun j hj=>by rw [List.getElem?_set_ne (Ne.symm hj)]⟩⟩
 ·exact ⟨_,_,qO5 hk hm hp e e',Nat.mod_lt _ hm.1,⟨⟨a / m,s,e' _,hb⟩,by simp,fun j hj=>by rw [List.getElem?_set_ne (Ne.symm hj)]⟩⟩
theorem qNv {M:Mem}:qAq M .pow (N 10) (N 18)=some (N 1000000000000000000,true):=by rw [qGQ (by decide)]
theorem qOH (hk:1<=k) {S:List T} {kk:Nat} (hkk:kk<=63) (M:Mem) {cl:Int} (hc:(kk < S.length/\S[kk]?=some (I cl))\/(S.length<=kk/\cl=0)):∃ g s,Pk (glT gs) Fs Cs k 8 [.fz S,N kk] M=.ok ((.lst (stT g s),true),M)/\s < 2147483648:=by
 obtain ⟨c,hcc⟩:∃ c:Nat,cl % 998244353=(c:Int):=⟨(cl % 998244353).toNat,by omega⟩
 have cb:c < 998244353:=by omega
 have md:∀ {M:Mem},qAq M .mod (I cl) (N 998244353)=some (N c,true):=fun {M}=>by
  show qAq M .mod (.v (.int cl)) (.v (.int 998244353))=_
  rw [qIb (by decide)];unfold iT;rw [hcc];rfl
 have m1:∀ {M:Mem},qAq M .mul (N 7368787) (N kk)=some (N (7368787 * kk),true):=fun {M}=>qHV (.inl (by decide))
 have pw:∀ {M:Mem},qAq M .pow (N (c + 7368787 * kk + 17)) (N 3)=some (N ((c + 7368787 * kk + 17) ^ 3),true):=fun {M}=>by
  unfold N
  rw [qIy (by omega)];unfold iT;simp
 have md2:∀ {M:Mem} (x:Nat),qAq M .mod (N x) (N 2147483629)=some (N (x % 2147483629),true):=fun {M} x=>qCZ (by decide)
 have hs:(c + 7368787 * kk + 17) ^ 3 % 2147483629 < 2147483648:=Nat.lt_trans (Nat.mod_lt _ (by decide)) (by decide)
 generalize (c + 7368787 * kk + 17) ^ 3=q at pw hs
 have ge:∀ {M:Mem},qA0 M .ge (I cl) (N 1000000000000000000)=some (decide (1000000000000000000<=cl)):=fun {M}=>rfl
 by_cases hg:(1000000000000000000:Int)<=cl
 ·obtain ⟨gn,rfl⟩:∃ gn:Nat,cl=(gn:Int):=⟨cl.toNat,by omega⟩
  refine ⟨gn,q % 2147483629,?_,hs⟩
  rw [decide_eq_true hg] at ge
  rcases hc with ⟨h1,h2⟩ | ⟨h1,h2⟩
  ·have ix:∀ {M:Mem},qC3 M (.fz S) (N kk)=some (I gn,true):=fun {M}=>by
    show ((some S).bind fun xs=>(L2.ixN xs.length (kk:Int)).bind fun j=>(xs[j]?).map fun t=>(t,t.lf))=_
    rw [Option.bind_some];unfold L2.ixN
    rw [if_pos (by omega),if_pos (by omega),Option.bind_some,Int.toNat_natCast,h2];rfl
   rw [qAP t8 ⟨rfl,by decide⟩ hk,b8,show Cs.getD 8 []=[] from rfl]
   simp [h1,ix,qNv,ge,md,m1,pw,md2,lim,stT]
   rw [qAA rfl];rfl
  ·omega
 ·rw [decide_eq_false hg] at ge
  refine ⟨0,q % 2147483629,?_,hs⟩
  rcases hc with ⟨h1,h2⟩ | ⟨h1,h2⟩
  ·have ix:∀ {M:Mem},qC3 M (.fz S) (N kk)=some (I cl,true):=fun {M}=>by
    show ((some S).bind fun xs=>(L2.ixN xs.length (kk:Int)).bind fun j=>(xs[j]?).map fun t=>(t,t.lf))=_
    rw [Option.bind_some];unfold L2.ixN
    rw [if_pos (by omega),if_pos (by omega),Option.bind_some,Int.toNat_natCast,h2];rfl
   rw [qAP t8 ⟨rfl,by decide⟩ hk,b8,show Cs.getD 8 []=[] from rfl]
   simp [h1,ix,qNv,ge,md,m1,pw,md2,lim,stT]
   rw [qAA rfl]
  ·subst h2
   have h1':¬ kk < S.length:=by omega
   rw [show I 0=N 0 from rfl] at md ge
   have ge:∀ {M:Mem},qA0 M .ge (N 0) (N 1000000000000000000)=some false:=fun {M}=>ge
   have md:∀ {M:Mem},qAq M .mod (N 0) (N 998244353)=some (N c,true):=fun {M}=>md
   rw [qAP t8 ⟨rfl,by decide⟩ hk,b8,show Cs.getD 8 []=[] from rfl]
   simp [h1',qNv,ge,md,m1,pw,md2,lim,stT,-qNP]
   rw [qAA rfl]
theorem bag (hk:1<=k) (ns:List Int) {kk:Nat} (hkk:kk<=63) (M:Mem):∃ g s,Pk (glT gs) Fs Cs k 8 [.fz (ns.map fun n=>.v (.int n)),N kk] M=.ok ((.lst (stT g s),true),M)/\s < 2147483648:=by
 by_cases h:kk < ns.length
 ·exact qOH hk hkk M (cl:=ns[kk]) (.inl ⟨by simpa using h,by rw [List.getElem?_map,List.getElem?_eq_getElem h];rfl⟩)
 ·exact qOH hk hkk M (cl:=0) (.inr ⟨by simp;omega,rfl⟩)
theorem f0 (hk:1<=k) (x:Int) (M:Mem):Pk (glT gs) Fs Cs k 0 [I x] M=.ok (bT true,M):=by
 rw [qAP t0 ⟨rfl,by decide⟩ hk]
 simp [b0,qAV,qAA]
theorem f0N (hk:1<=k) (i:Nat) (M:Mem):Pk (glT gs) Fs Cs k 0 [N i] M=.ok (bT true,M):=f0 hk (i:Int) M
theorem f1 (hk:2<=k) (i e:Nat) (M:Mem):Pk (glT gs) Fs Cs k 1 [N i,N e] M=.ok (bT (decide (i < e)),M):=by
 rw [qAP t1 ⟨rfl,by decide⟩ (by omega)]
 simp (disch:=omega) [b1,f0N,qAA]
theorem f2 (hk:1<=k) {s:Nat} (hs:s<=5) (M:Mem):Pk (glT gs) Fs Cs k 2 [N s] M=.ok ((N (2 ^ s),true),M):=by
 rw [qAP t2 ⟨rfl,by decide⟩ hk]
 have:s=0\/s=1\/s=2\/s=3\/s=4\/s=5:=by omega
 rcases this with rfl | rfl | rfl | rfl | rfl | rfl<;>simp [b2,gl0,qAA]
theorem f3 (hk:2<=k) {s:Nat} (h1:1<=s) (hs:s<=5) (M:Mem):Pk (glT gs) Fs Cs k 3 [N s] M=.ok (bT true,M):=by
 rw [qAP t3 ⟨rfl,by decide⟩ (by omega)]
 simp (disch:=omega) [b3,f0N,h1,hs,qAA]
theorem f4 (hk:3<=k) {s:Nat} (h1:1<=s) (hs:s<=5) (M:Mem):Pk (glT gs) Fs Cs k 4 [N s] M=.ok ((.v .non,true),M):=by
 rw [qAP t4 ⟨rfl,by decide⟩ (by omega)]
 simp (disch:=omega) [b4,f3,qIE,h1,hs]
theorem p5 {s:Nat} (h:s<=5):2 ^ s<=32:=Nat.le_trans (Nat.pow_le_pow_right (by decide) h) (by decide)
end
theorem qJZ (a b:Nat):T.unds 0 (stT a b)=true:=qCs 0 [a,b]
theorem qA5 {M:Mem} {n:Nat} {C:Mem} (g:qER M n):qER (M++C) n:=by
 obtain ⟨a,b,e,h⟩:=g
 exact ⟨a,b,by rw [List.getElem?_append_left (List.getElem?_eq_some_iff.mp e).1];exact e,h⟩
theorem qAg {M C M':Mem} {n:Nat} (hn:n < M.length) (h:Kept n (M++C) M'):∃ M1,M'=M1++C/\Kept n M M1:=by
 have hl:=h.len
 rw [List.length_append] at hl
 refine ⟨M'.take M.length,?_,?_⟩
 ·apply List.ext_getElem?
  intro i
  by_cases hi:i < M.length
  ·rw [List.getElem?_append_left (by rw [List.length_take];omega),List.getElem?_take_of_lt hi]
  ·rw [List.getElem?_append_right (by rw [List.length_take];omega),h.oth i (by omega),List.getElem?_append_right (by omega),List.length_take,Nat.min_eq_left (by omega)]
 ·obtain ⟨a,b,e,hb⟩:=h.good
  refine ⟨⟨a,b,by rw [List.getElem?_take_of_lt hn];exact e,hb⟩,by rw [List.length_take];omega,fun j hj=>?_⟩
  by_cases hi:j < M.length
  ·rw [List.getElem?_take_of_lt hi,h.oth j hj,List.getElem?_append_left hi]
  ·rw [List.getElem?_eq_none (by rw [List.length_take];omega),List.getElem?_eq_none (by omega)]
noncomputable def sp (p:Stp):T:=.tup [N p.1,N p.2]
noncomputable def SL (L:List Stp):List T:=L.map sp
theorem qLh (p:Stp):(sp p).lf=true:=by unfold sp;simp
theorem qHi:∀ L:List Stp,T.lfs (SL L)=true
 | []=>by unfold SL;simp
 | p::L=>by
  show T.lfs (sp p::SL L)=true
  rw [qCT,qLh,qHi L];rfl
theorem qBM (L:List Stp):(SL L).length=L.length:=by simp [SL]
noncomputable def IsN (M:Mem) (t:T) (Ns:List (List Stp)):Prop:=∃ ts,IsS M t ts/\qBC (fun t L=>IsS M t (SL L)) ts Ns
theorem IsN.app {M C:Mem} {t:T} {Ns:List (List Stp)} (h:IsN M t Ns):IsN (M++C) t Ns:=by
 obtain ⟨ts,a,b⟩:=h
 exact ⟨ts,a.app,qBw (fun _ _ z=>z.app) b⟩
theorem qED (M:Mem):∀ Ns:List (List Stp),qBC (fun t L=>IsS M t (SL L)) (Ns.map fun L=>T.lst (SL L)) Ns
 | []=>rfl
 | L::Ns=>⟨L,Ns,rfl,.inl rfl,qED M Ns⟩
theorem IsN.lst (M:Mem) (Ns:List (List Stp)):IsN M (.lst (Ns.map fun L=>.lst (SL L))) Ns:=⟨_,.inl rfl,qED M Ns⟩
theorem qEE (ks:List (Int×V)) (k j:Int) (v:V):qC9 (qBz ks k v) j=(qC9 ks j||decide (j=k)):=by
 unfold qBz
 split
 ·rename_i h
  unfold qC9 at h ⊢
  rw [List.any_map]
  have e:((fun p:Int×V=>decide (p.1=j))∘fun p=>if p.1=k then (p.1,v) else p)=fun p=>decide (p.1=j):=by
   funext p
   show decide ((if p.1=k then (p.1,v) else p).1=j)=_
   split<;>rfl
  rw [e]
  by_cases z:j=k
  ·subst z;rw [h];simp
  ·rw [decide_eq_false z,Bool.or_false]
 ·unfold qC9
  rw [List.any_append]
  congr 1
  simp
  exact eq_comm
section
variable {k:Nat}
theorem qPm {x:List Nat} {i:Nat} (h:i < x.length):(x.map N)[i]?=some (N (x.getD i 0)):=by
 rw [List.getElem?_map,List.getElem?_eq_getElem h,List.getD_eq_getElem?_getD,List.getElem?_eq_getElem h];rfl
theorem qBG {n:Nat} {M M':Mem} (h:WfM M) (k:Kept n M M'):WfM M':=by
 unfold WfM at *
 rw [List.all_eq_true] at h ⊢
 intro c hc
 rw [k.len]
 obtain ⟨j,hj⟩:=List.getElem?_of_mem hc
 by_cases e:j=n
 ·subst e
  obtain ⟨g,s,e1,_⟩:=k.good
  rw [e1] at hj;cases hj
  exact qA6 (Nat.zero_le _) _ (qJZ g s)
 ·rw [k.oth j e] at hj
  exact h c (List.mem_of_getElem? hj)
theorem qIu:∀ (S:List Nat) (d:Nat),(S.map N).eraseIdx d=(S.eraseIdx d).map N
 | [],d=>by simp
 | x::S,0=>rfl
 | x::S,d + 1=>by
  show N x::(S.map N).eraseIdx d=N x::(S.eraseIdx d).map N
  rw [qIu S d]
theorem qLT {M:Mem} {c d:Nat} {S:List Nat} (h:M[c]?=some (S.map N)) (hd:d < S.length) (hl:S.length<=1000):qFw .popAt c [N d] M=some ((N (S.getD d 0),true),M.set c ((S.eraseIdx d).map N)):=by
 show ((M[c]?).bind fun xs=>if xs.length<=lim then (ixN xs.length (d:Int)).bind fun k=>(xs[k]?).map fun y=>((y,y.lf),M.set c (xs.eraseIdx k)) else none)=_
 have ix:ixN (S.map N).length (d:Int)=some d:=by
  unfold ixN L2.ixN
  simp
  omega
 rw [h,Option.bind_some,if_pos (by rw [List.length_map];exact Nat.le_trans hl (by decide)),ix,Option.bind_some,qPm hd,Option.map_some,lfN,qIu]
theorem qFi:∀ {L:List Stp},(qAt L).Nodup -> ∀ p∈L,p.1≠p.2
 | q::L,h,p,hp=>by
  have h':([q.1,q.2]++qAt L).Nodup:=h
  rw [List.nodup_append] at h'
  rcases List.mem_cons.mp hp with rfl | hp
  ·have:=h'.1
   simp at this
   exact this
  ·exact qFi h'.2.1 p hp
theorem qD3 {L:List Stp} {p:Stp} (h:p∈L):p.1∈qAt L/\p.2∈qAt L:=by
 unfold qAt
 exact ⟨List.mem_flatMap.mpr ⟨p,h,by simp⟩,List.mem_flatMap.mpr ⟨p,h,by simp⟩⟩
theorem qCE:∀ {S:List Nat} {d:Nat},d < S.length -> (S.getD d 0::S.eraseIdx d).Perm S
 | [],d,h=>by simp at h
 | x::S,0,h=>.refl _
 | x::S,d + 1,h=>by
  have:=qCE (S:=S) (d:=d) (by simpa using h)
  show (S.getD d 0::x::S.eraseIdx d).Perm (x::S)
  exact (List.Perm.swap x _ _).trans (this.cons x)
theorem qJM (hk:1<=k) {n nb c:Nat} {a1:Option T}:∀ (m i:Nat) (S:List Nat) (L:List Stp) (A:Mem) (o4 o5 o6:Option T),A.length=c -> qER A nb -> 2 * m<=S.length -> S.length<=100 -> (qAt L++S).Nodup -> (∀ v∈qAt L++S,v < n) -> L.length + m<=100 ->
  ∃ L' S' A' p4 p5 p6,qBW [] (.name 4) (pxs (glT gs) (Pk (glT gs) Fs Cs k) [2,3] qG1) ((List.range' i m).map N) [some (.cell nb),a1,some (.cell c),some (.cell (c + 1)),o4,o5,o6] (A++[S.map N,SL L])=.ok (.nx [some (.cell nb),a1,some (.cell c),some (.cell (c + 1)),p4,p5,p6],A'++[S'.map N,SL L'])/\Kept nb A A'/\(qAt L'++S').Nodup/\(∀ v∈qAt L'++S',v < n)/\L'.length<=100
 | 0,i,S,L,A,o4,o5,o6,hc,g,hm,hS,nd,lt,hl=>⟨L,S,A,o4,o5,o6,rfl,⟨g,rfl,fun _ _=>rfl⟩,nd,lt,by omega⟩
 | m + 1,i,S,L,A,o4,o5,o6,hc,g,hm,hS,nd,lt,hl=>by
  have hb:∀ {B:Mem},qER B nb -> nb < B.length:=fun {B} z=>by
   obtain ⟨a,s,e,_⟩:=z
   exact (List.getElem?_eq_some_iff.mp e).1
  obtain ⟨d1,M1,e1,h1,k1⟩:=out (k:=k) hk (qA5 (C:=[S.map N,SL L]) g) (m:=S.length) (by omega)
  obtain ⟨A1,rfl,kk1⟩:=qAg (hb g) k1
  obtain ⟨S1,hS1⟩:∃ S1,S1=S.eraseIdx d1:=⟨_,rfl⟩
  have lS1:S1.length=S.length - 1:=by rw [hS1,List.length_eraseIdx_of_lt h1]
  obtain ⟨d2,M2,e2,h2,k2⟩:=out (k:=k) hk (qA5 (C:=[S1.map N,SL L]) kk1.good) (m:=S1.length) (by omega)
  obtain ⟨A2,rfl,kk2⟩:=qAg (hb kk1.good) k2
  obtain ⟨S2,hS2⟩:∃ S2,S2=S1.eraseIdx d2:=⟨_,rfl⟩
  have lS2:S2.length=S1.length - 1:=by rw [hS2,List.length_eraseIdx_of_lt h2]
  have c1:A1.length=c:=kk1.len.trans hc
  have c2:A2.length=c:=kk2.len.trans c1
  have pr1:=qCE h1
  have pr2:=qCE h2
  rw [<- hS1] at pr1
  rw [<- hS2] at pr2
  have g0:∀ {B:Mem} (X Y:List T),B.length=c -> (B++[X,Y])[c]?=some X:=fun {B} X Y z=>by rw [<- z];simp
  have g1:∀ {B:Mem} (X Y:List T),B.length=c -> (B++[X,Y])[c + 1]?=some Y:=fun {B} X Y z=>by rw [<- z,List.getElem?_append_right (by omega)];simp
  have s0:∀ {B:Mem} (X Y Z:List T),B.length=c -> (B++[X,Y]).set c Z=B++[Z,Y]:=fun {B} X Y Z z=>by rw [<- z,List.set_append_right _ _ (by omega)];simp
  have s1:∀ {B:Mem} (X Y Z:List T),B.length=c -> (B++[X,Y]).set (c + 1) Z=B++[X,Z]:=fun {B} X Y Z z=>by rw [<- z,List.set_append_right _ _ (by omega)];simp
  have p1:=qLT (M:=A1++[S.map N,SL L]) (c:=c) (d:=d1) (S:=S) (g0 _ _ c1) h1 (by omega)
  rw [s0 _ _ _ c1,<- hS1] at p1
  have p2:=qLT (M:=A2++[S1.map N,SL L]) (c:=c) (d:=d2) (S:=S1) (g0 _ _ c2) h2 (by omega)
  rw [s0 _ _ _ c2,<- hS2] at p2
  generalize S.getD d1 0=va at p1 pr1
  generalize S1.getD d2 0=vb at p2 pr2
  have perm:(qAt (L++[(va,vb)])++S2).Perm (qAt L++S):=by
   rw [Nt.spots_app,List.append_assoc]
   refine List.Perm.append_left _ ?_
   show (va::vb::S2).Perm S
   exact (pr2.cons va).trans pr1
  have ap:qK6 (A2++[S2.map N,SL L]) (c + 1) (sp (va,vb))=some (A2++[S2.map N,SL (L++[(va,vb)])]):=by
   rw [qJW (g1 _ _ c2) (by rw [qBM];exact Nat.lt_of_lt_of_le (show L.length < 200 by omega) (by decide)),s1 _ _ _ c2]
   unfold SL;rw [List.map_append];rfl
  have ln:∀ {B:Mem} (X:List Nat) (Y:List T),B.length=c -> qBk (B++[X.map N,Y]) .len [.cell c]=some (N X.length,true):=fun {B} X Y z=>(IsL.cell (g0 _ _ z)).len
  obtain ⟨L',S',A',p4,p5,p6,e,kk,n',l',z'⟩:=qJM hk (a1:=a1) m (i + 1) S2 (L++[(va,vb)]) A2 (some (N i)) (some (N va)) (some (N vb)) c2 kk2.good (by omega) (by omega) (perm.nodup_iff.mpr nd) (fun v hv=>lt v (perm.mem_iff.mp hv)) (by simp;omega)
  refine ⟨L',S',A',p4,p5,p6,?_,(kk1.trans kk2).trans kk,n',l',z'⟩
  have body:pxs (glT gs) (Pk (glT gs) Fs Cs k) [2,3] qG1 [some (.cell nb),a1,some (.cell c),some (.cell (c + 1)),some (N i),o5,o6] (A++[S.map N,SL L])=.ok (.nx [some (.cell nb),a1,some (.cell c),some (.cell (c + 1)),some (N i),some (N va),some (N vb)],A2++[S2.map N,SL (L++[(va,vb)])]):=by
   rw [qG1]
   simp [ln S (SL L) hc,e1,p1,ln S1 (SL L) c1,e2,p2,show T.tup [N va,N vb]=sp (va,vb) from rfl,ap,lim]
  rw [List.range'_succ,List.map_cons,qDB,show ([some (.cell nb),a1,some (.cell c),some (.cell (c + 1)),o4,o5,o6]:TS).set 4 (some (N i))=[some (.cell nb),a1,some (.cell c),some (.cell (c + 1)),some (N i),o5,o6] from rfl,body,PR.bind_ok]
  exact e
theorem qNi (hk:2<=k) {M:Mem} {nb s:Nat} (hs:s<=5) (hW:WfM M) (g:qER M nb):∃ L M',Pk (glT gs) Fs Cs k 11 [.cell nb,N s] M=.ok ((.lst (SL L),true),M')/\OkR (2 ^ s) L/\Kept nb M M':=by
 have n5:=p5 hs
 have sl:∀ {M:Mem},qAq M .shl (N 1) (N s)=some (N (2 ^ s),true):=fun {M}=>by rw [qG2 (by omega),Nat.one_mul]
 generalize 2 ^ s=n at *
 have hb:nb < M.length:=by
  obtain ⟨a,s,e,_⟩:=g
  exact (List.getElem?_eq_some_iff.mp e).1
 obtain ⟨d,M1,e1,h1,k1⟩:=out (k:=k - 1) (by omega) (qA5 (C:=[(List.range (n)).map N,[]]) g) (m:=n / 2 + 1) (by omega)
 obtain ⟨A1,rfl,kk1⟩:=qAg hb k1
 obtain ⟨L,S,A,p4,p5,p6,e,kk,nd,lt,ll⟩:=qJM (k:=k - 1) (by omega) (n:=n) (nb:=nb) (c:=M.length) (a1:=some (N s)) d 0 (List.range (n)) [] A1 none none none kk1.len kk1.good (by simp;omega) (by simp;omega) (by simpa [qAt] using List.nodup_range) (fun v hv=>by simpa [qAt] using hv) (by simp;omega)
 rw [<- List.range_eq_range'] at e
 have kt:=kk1.trans kk
 refine ⟨L,A,?_,⟨fun p hp=>⟨lt _ (List.mem_append_left _ (qD3 hp).1),lt _ (List.mem_append_left _ (qD3 hp).2),qFi (List.nodup_append.mp nd).1 p hp⟩,(List.nodup_append.mp nd).1,ll⟩,kt⟩
 rw [qAP t11 ⟨rfl,by decide⟩ (by omega),b11,show Cs.getD 11 []=[2,3] from rfl]
 have fd:∀ {M:Mem},qAq M .fdiv (N (n)) (N 2)=some (N (n / 2),true):=fun {M}=>qDY (by decide)
 have lr:=qKi (n:=n) (by omega)
 have th:∀ m,thaw m (.lst ((List.range (n)).map N))=(.cell m,[(List.range (n)).map N]):=fun m=>qHC m _
 have th0:∀ m,thaw m (.lst [])=(.cell m,[[]]):=fun m=>by simp [thaw,qBF]
 have rg:=qGX (n:=d) (by omega)
 have e:qBW [] (.name 4) (pxs (glT gs) (Pk (glT gs) Fs Cs (k - 1)) [2,3] qG1) ((List.range d).map N) [some (.cell nb),some (N s),some (.cell M.length),some (.cell (M.length + 1)),none,none,none] (A1++[(List.range (n)).map N,[]])=.ok (.nx [some (.cell nb),some (N s),some (.cell M.length),some (.cell (M.length + 1)),p4,p5,p6],A++[S.map N,SL L]):=e
 simp [sl,fd,lr,th,th0,e1,rg,e,lim]
 exact qFt (c:=M.length + 1) kt.len (qBG hW kt) (by rw [<- kt.len,List.getElem?_append_right (by omega)];simp) (by rw [kt.len];omega) (qHi L) _
theorem qGj {its zs:List T} {n:Nat}:qBC (fun _ z=>∃ L,z=T.lst (SL L)/\OkR n L) its zs -> ∃ Ns:List (List Stp),zs=Ns.map (fun L=>T.lst (SL L))/\(∀ L∈Ns,OkR n L)/\Ns.length=its.length:=by
 induction its generalizing zs with
 | nil=>intro h;cases (show zs=[] from h);exact ⟨[],rfl,by simp,rfl⟩
 | cons x r ih=>
  rintro ⟨z,zs',rfl,⟨L,rfl,hL⟩,h⟩
  obtain ⟨Ns,rfl,a,b⟩:=ih h
  exact ⟨L::Ns,rfl,fun K hK=>by
   rcases List.mem_cons.mp hK with rfl | hK
   ·exact hL
   ·exact a K hK,by simp [b]⟩
theorem net (hk:3<=k) {M:Mem} {nb s:Nat} (hs:s<=5) (hW:WfM M) (g:qER M nb):∃ (Ns:List (List Stp)) (M':Mem),Pk (glT gs) Fs Cs k 12 [.cell nb,N s] M=.ok ((.lst (Ns.map fun L=>.lst (SL L)),true),M')/\(∀ L∈Ns,OkR (2 ^ s) L)/\Ns.length<=40/\Kept nb M M':=by
 obtain ⟨d,M1,e1,h1,k1⟩:=out (k:=k - 1) (by omega) g (m:=6) (by decide)
 obtain ⟨w,ew,hw⟩:∃ w,([N 0,N 1,N 2,N 3,N 5,N 40]:List T)[d]?=some (N w)/\w<=40:=by
  have:d=0\/d=1\/d=2\/d=3\/d=4\/d=5:=by omega
  rcases this with rfl | rfl | rfl | rfl | rfl | rfl<;>exact ⟨_,rfl,by decide⟩
 obtain ⟨zs,M2,e2,j2,p2⟩:=qJL (d:=[]) (gl:=glT gs) (P:=Pk (glT gs) Fs Cs (k - 1)) (e:=pe (glT gs) (Pk (glT gs) Fs Cs (k - 1)) (.call 11 (.cons (.var 1) (.cons (.var 2) .nil)))) (σ:=[some (.cell nb),some (N s)]) (J:=fun M'=>Kept nb M M') (Pr:=fun _ z=>∃ L,z=T.lst (SL L)/\OkR (2 ^ s) L) ((List.range w).map N) [] true none M1 (by simp [lim];omega) k1 (fun _ _=>rfl) (fun x _ M' hJ=>by
  obtain ⟨L,M'',e,o,kk⟩:=qNi (k:=k - 1) (by omega) hs (qBG hW hJ) hJ.good
  exact ⟨.lst (SL L),M'',by simp [e],hJ.trans kk,L,rfl,o⟩)
 obtain ⟨Ns,rfl,a,b⟩:=qGj p2
 refine ⟨Ns,M2,?_,a,by rw [b];simp;exact hw,j2⟩
 rw [qAP t12 ⟨rfl,by decide⟩ (by omega),b12,show Cs.getD 12 []=[] from rfl]
 have rg:=qGX (n:=w) (by omega)
 have e2:qA4 [] (.name 0) (pec (glT gs) (Pk (glT gs) Fs Cs (k - 1)) .nil) (pe (glT gs) (Pk (glT gs) Fs Cs (k - 1)) (.call 11 (.cons (.var 1) (.cons (.var 2) .nil)))) ((List.range w).map N) [] true [none,some (.cell nb),some (N s)] M1=.ok ((.lst (Ns.map fun L=>.lst (SL L)),true),M2):=by simpa using e2
 simp only [qDr,qLe,pe_comp,qIJ,qKw,pe_lst,pe_call,qHs,qKX,pe_var,qNZ,qEz,qEw,qGG]
 simp [e1,ew,rg,e2,lim,-qA1]
 rw [qAA j2.len]
end
theorem qJO (m:Nat) (p:Stp):thaw m (sp p)=(sp p,[]):=by
 unfold sp
 simp [thaw,qBF]
theorem qFO (m:Nat):∀ L:List Stp,qBF m (SL L)=(SL L,[])
 | []=>by simp [SL,qBF]
 | p::L=>by
  show qBF m (sp p::SL L)=_
  rw [qBF,qJO]
  simp [qFO m L]
  rfl
theorem qKV (m:Nat) (L:List Stp):thaw m (.lst (SL L))=(.cell m,[SL L]):=by
 rw [thaw,qFO];simp
noncomputable def cl (m r:Nat):List T:=(List.range' m r).map T.cell
theorem qDM (m r:Nat):(cl m r).length=r:=by simp [cl]
theorem qD8:∀ (Ns:List (List Stp)) (m:Nat),qBF m (Ns.map fun L=>T.lst (SL L))=(cl m Ns.length,Ns.map SL)
 | [],m=>by simp [qBF,cl]
 | L::Ns,m=>by
  rw [List.map_cons,qBF,qKV]
  simp only [List.length_cons,List.length_nil]
  rw [qD8 Ns (m + (0 + 1))]
  simp [cl,List.range'_succ]
theorem qFG (m:Nat) (Ns:List (List Stp)):thaw m (.lst (Ns.map fun L=>T.lst (SL L)))=(.cell (m + Ns.length),Ns.map SL++[cl m Ns.length]):=by
 rw [thaw,qD8];simp
section
variable {A:Mem} {Ns:List (List Stp)}
theorem qB2 {R:Mem} {j:Nat} {L:List Stp} (h:Ns[j]?=some L):(A++(Ns.map SL++R))[A.length + j]?=some (SL L):=by
 have hj:=(List.getElem?_eq_some_iff.mp h).1
 rw [List.getElem?_append_right (by omega),show A.length + j - A.length=j by omega,List.getElem?_append_left (by simpa using hj),List.getElem?_map,h];rfl
theorem qBj {R:Mem} (j:Nat):(A++(Ns.map SL++R))[A.length + Ns.length + j]?=R[j]?:=by
 rw [List.getElem?_append_right (by omega),show A.length + Ns.length + j - A.length=Ns.length + j by omega,List.getElem?_append_right (by simp),List.length_map,show Ns.length + j - Ns.length=j by omega]
theorem qFI {R:Mem} (j:Nat) (c:List T):(A++(Ns.map SL++R)).set (A.length + Ns.length + j) c=A++(Ns.map SL++R.set j c):=by
 rw [List.set_append_right _ _ (by omega),show A.length + Ns.length + j - A.length=Ns.length + j by omega,List.set_append_right _ _ (by simp),List.length_map,show Ns.length + j - Ns.length=j by omega]
theorem qK0 {M:Mem}:∀ (Ns:List (List Stp)) (m:Nat),(∀ j L,Ns[j]?=some L -> M[m + j]?=some (SL L)) -> qBC (fun t L=>IsS M t (SL L)) (cl m Ns.length) Ns
 | [],m,_=>rfl
 | L::Ns,m,h=>by
  have e:cl m (L::Ns).length=.cell m::cl (m + 1) Ns.length:=by unfold cl;rw [List.length_cons,List.range'_succ];rfl
  rw [e]
  exact ⟨L,Ns,rfl,.inr ⟨m,rfl,h 0 L rfl⟩,qK0 Ns (m + 1) fun j K hj=>by rw [show m + 1 + j=m + (j + 1) by omega];exact h (j + 1) K hj⟩
theorem qKC {R:Mem}:qBC (fun t L=>IsS (A++(Ns.map SL++R)) t (SL L)) (cl A.length Ns.length) Ns:=qK0 Ns A.length fun j L h=>qB2 h
theorem qJY (m r n:Nat) (h:m + r<=n):T.unds n (cl m r)=true:=by
 induction r generalizing m with
 | zero=>unfold cl;simp [T.unds]
 | succ r ih=>
  have e:cl m (r + 1)=.cell m::cl (m + 1) r:=by unfold cl;rw [List.range'_succ];rfl
  rw [e,T.unds,T.und,ih (m + 1) (by omega)]
  simp;omega
end
noncomputable def Kn (t:T):Prop:=∃ ty,∀ M:Mem,qAh M t=some ty
noncomputable def isI:T -> Bool | .v (.int _)=>true | _=>false
noncomputable def blw (e:Int):T -> Bool | .v (.int i)=>decide (0<=i)&&decide (i < e) | _=>false
theorem qLm {t:T} (h:∀ M:Mem,qAh M t=some "int"):∃ i,t=.v (.int i):=by
 have h0:=h []
 cases t with
 | v x=>cases x<;>first | exact ⟨_,rfl⟩ | (simp [qAh] at h0)
 | cell n=>simp [qAh] at h0
 | fz xs=>simp [qAh] at h0
 | lst xs=>simp [qAh] at h0
 | tup xs=>simp [qAh] at h0
 | ob o=>cases o<;>simp [qAh] at h0
theorem qIo {t:T} {ty:String} (h:∀ M:Mem,qAh M t=some ty):isI t=decide (ty="int"):=by
 by_cases hi:ty="int"
 ·subst hi
  obtain ⟨i,rfl⟩:=qLm h
  rfl
 ·rw [decide_eq_false hi]
  unfold isI
  split
  ·have:=h [];simp [qAh] at this;exact absurd this.symm hi
  ·rfl
section
variable {k:Nat}
theorem w0 (hk:1<=k) {t:T} (h:Kn t) (M:Mem):Pk (glT gs) Fs Cs k 0 [t] M=.ok (bT (isI t),M):=by
 obtain ⟨ty,e⟩:=h
 rw [qAP t0 ⟨rfl,by decide⟩ hk,b0,qIo e]
 by_cases h1:ty="int"
 ·subst h1
  simp [e,qAV,qAA]
 ·by_cases h2:ty="bool"
  ·subst h2
   simp [e,qAV,qAA]
  ·simp [e,qAV,qAA,h1,h2]
theorem n1 (hk:2<=k) {t:T} (h:Kn t) (e:Int) (M:Mem):Pk (glT gs) Fs Cs k 1 [t,.v (.int e)] M=.ok (bT (blw e t),M):=by
 rw [qAP t1 ⟨rfl,by decide⟩ (by omega),b1]
 have e0:=w0 (k:=k - 1) (by omega) h M
 cases hi:isI t with
 | false=>
  rw [hi] at e0
  have:blw e t=false:=by
   unfold isI at hi
   unfold blw
   split at hi
   ·cases hi
   ·rfl
  simp [e0,this,qAA]
 | true=>
  rw [hi] at e0
  unfold isI at hi
  split at hi
  ·rename_i i
   have c1:∀ {M:Mem},qA0 M .le (N 0) (.v (.int i))=some (decide (0<=i)):=fun {M}=>rfl
   have c2:∀ {M:Mem},qA0 M .lt (.v (.int i)) (.v (.int e))=some (decide (i < e)):=fun {M}=>rfl
   by_cases h0:0<=i
   ·simp [e0,c1,c2,h0,blw,qAA]
   ·simp [e0,c1,h0,blw,qAA]
  ·cases hi
end
section
variable {k:Nat}
theorem w10 (hk:1<=k) {t:T} (h:Kn t) (M:Mem):Pk (glT gs) Fs Cs k 10 [t] M=.ok (bT (isI t),M):=by
 obtain ⟨ty,e⟩:=h
 rw [qAP t10 ⟨rfl,by decide⟩ hk,b10,qIo e]
 by_cases h1:ty="int"
 ·subst h1
  simp [e,qAV,qAA]
 ·by_cases h2:ty="bool"
  ·subst h2
   simp [e,qAV,qAA]
  ·simp [e,qAV,qAA,h1,h2]
noncomputable def szT:T -> Bool | .v (.int i)=>decide (1<=i)&&decide (i<=5) | _=>false
theorem z3 (hk:2<=k) {t:T} (h:Kn t) (M:Mem):Pk (glT gs) Fs Cs k 3 [t] M=.ok (bT (szT t),M):=by
 rw [qAP t3 ⟨rfl,by decide⟩ (by omega),b3,show Cs.getD 3 []=[] from rfl]
 have e0:=w0 (k:=k - 1) (by omega) h M
 cases hi:isI t with
 | false=>
  rw [hi] at e0
  have:szT t=false:=by
   unfold szT
   split
   ·rename_i i;exact absurd hi (by simp [isI])
   ·rfl
  simp [e0,this,qAA]
 | true=>
  rw [hi] at e0
  unfold isI at hi
  split at hi
  ·rename_i i
   have c1:∀ {M:Mem},qA0 M .le (N 1) (.v (.int i))=some (decide (1<=i)):=fun {M}=>rfl
   have c2:∀ {M:Mem},qA0 M .le (.v (.int i)) (N 5)=some (decide (i<=5)):=fun {M}=>rfl
   by_cases h0:1<=i
   ·simp [e0,c1,c2,h0,szT,qAA]
   ·simp [e0,c1,h0,szT,qAA]
  ·cases hi
theorem z4 (hk:3<=k) {t:T} (h:Kn t) (hs:szT t=false) (M:Mem):Pk (glT gs) Fs Cs k 4 [t] M=.exc 1 M:=by
 rw [qAP t4 ⟨rfl,by decide⟩ (by omega),b4,show Cs.getD 4 []=[] from rfl]
 have e:=z3 (k:=k - 1) (by omega) h M
 rw [hs] at e
 simp [e,bind_exc,qEb]
end
end My
namespace My
open PySem PySem.Spec PI
open L2 (V)
open Nt (Stp Sg OkS OkR qAt)
noncomputable def neI:T -> T -> Bool
 | .v (.int i),.v (.int j)=>!decide (i=j)
 | _,_=>true
noncomputable def sv (n:Int):T -> Bool
 | .tup [a,b]=>blw n a&&blw n b&&neI a b
 | _=>false
inductive Ks:T -> Prop
 | pair (a b:T):Kn a -> Kn b -> Ks (.tup [a,b])
 | len (ts:List T):ts.length≠2 -> Ks (.tup ts)
 | oth (t:T) (ty:String):(∀ M:Mem,qAh M t=some ty) -> ty≠"tuple" -> Ks t
theorem qIl {n:Int} {ts:List T} (h:ts.length≠2):sv n (.tup ts)=false:=by
 unfold sv
 split
 ·rename_i a b e;cases e;exact absurd rfl h
 ·rfl
theorem qJG {n:Int} {t:T} {ty:String} (h:∀ M:Mem,qAh M t=some ty) (hn:ty≠"tuple"):sv n t=false:=by
 unfold sv
 split
 ·have:=h [];simp [qAh] at this;exact absurd this.symm hn
 ·rfl
theorem qIO {n:Int} {a:T} (h:blw n a=true):∃ i:Int,a=.v (.int i)/\0<=i/\i < n:=by
 unfold blw at h
 split at h
 ·rename_i i
  rw [Bool.and_eq_true,decide_eq_true_eq,decide_eq_true_eq] at h
  exact ⟨i,rfl,h.1,h.2⟩
 ·cases h
theorem qCr {n:Int} {t:T} (h:sv n t=true):∃ p q:Int,t=.tup [.v (.int p),.v (.int q)]/\0<=p/\p < n/\0<=q/\q < n/\p≠q:=by
 unfold sv at h
 split at h
 ·rename_i a b
  rw [Bool.and_eq_true,Bool.and_eq_true] at h
  obtain ⟨p,rfl,p0,p1⟩:=qIO h.1.1
  obtain ⟨q,rfl,q0,q1⟩:=qIO h.1.2
  have hn:(!decide (p=q))=true:=h.2
  exact ⟨p,q,rfl,p0,p1,q0,q1,by simpa using hn⟩
 ·cases h
theorem qNa {n:Nat} {p:Stp} (h:OkS n p):sv (n:Int) (sp p)=true:=by
 show (blw (n:Int) (N p.1)&&blw (n:Int) (N p.2)&&!decide ((p.1:Int)=(p.2:Int)))=true
 have a:blw (n:Int) (N p.1)=true:=by
  show (decide (0<=(p.1:Int))&&decide ((p.1:Int) < (n:Int)))=true
  have:=h.1
  rw [decide_eq_true (by omega),decide_eq_true (by omega)];rfl
 have b:blw (n:Int) (N p.2)=true:=by
  show (decide (0<=(p.2:Int))&&decide ((p.2:Int) < (n:Int)))=true
  have:=h.2.1
  rw [decide_eq_true (by omega),decide_eq_true (by omega)];rfl
 have:=h.2.2
 rw [a,b,decide_eq_false (by omega)];rfl
theorem qCS (x:Nat):Kn (N x):=⟨"int",fun _=>rfl⟩
theorem qKI (p:Stp):Ks (sp p):=.pair _ _ (qCS _) (qCS _)
section
variable {k:Nat}
theorem qNS (hk:3<=k) {t:T} (h:Ks t) (n:Nat) (M:Mem):Pk (glT gs) Fs Cs k 7 [N n,t] M=.ok (bT (sv (n:Int) t),M):=by
 rw [qAP t7 ⟨rfl,by decide⟩ (by omega),b7,show Cs.getD 7 []=[] from rfl]
 cases h with
 | oth _ ty e hn=>
  rw [qJG e hn]
  simp [e,qAV,hn,qAA]
 | len ts hl=>
  rw [qIl hl]
  have l:∀ {M:Mem},qBk M .len [.tup ts]=some (N ts.length,true):=fun {M}=>rfl
  have ne:∀ {M:Mem},qA0 M .ne (N ts.length) (N 2)=some true:=fun {M}=>by rw [qLO,decide_eq_false hl];rfl
  simp [qAV,l,ne,qAA]
 | pair a b ha hb=>
  have c:=qDO (d:=[]) (gl:=glT gs) (P:=Pk (glT gs) Fs Cs (k - 1)) (e:=pe (glT gs) (Pk (glT gs) Fs Cs (k - 1)) (.call 1 (.cons (.var 0) (.cons (.var 1) .nil)))) (σ:=[some (N n)]) (M:=M) (fun u=>T.v (.bl (blw (n:Int) u))) (fun _=>true) rfl [a,b] [] true none (by simp [lim]) (fun u hu=>by
   have e:Pk (glT gs) Fs Cs (k - 1) 1 [u,N n] M=.ok (bT (blw (n:Int) u),M):=n1 (k:=k - 1) (by omega) (by
    simp only [List.mem_cons,List.not_mem_nil,or_false] at hu
    rcases hu with rfl | rfl
    ·exact ha
    ·exact hb) n M
   simp [e,bT])
  simp only [List.nil_append,List.map_cons,List.map_nil,List.all_cons,List.all_nil,Bool.and_self] at c
  have al:∀ {M:Mem},qBk M .all [.lst [T.v (.bl (blw (n:Int) a)),T.v (.bl (blw (n:Int) b))]]=some (bT (blw (n:Int) a&&blw (n:Int) b)):=fun {M}=>by
   show some (bT (blw (n:Int) a&&(blw (n:Int) b&&true)))=_
   rw [Bool.and_true]
  cases hv:(blw (n:Int) a&&blw (n:Int) b) with
  | false=>
   rw [hv] at al
   have r:sv (n:Int) (.tup [a,b])=false:=by show (blw (n:Int) a&&blw (n:Int) b&&neI a b)=false;rw [hv];rfl
   rw [r]
   simp [qAV,c,al,qAA,-qA1]
  | true=>
   rw [hv] at al
   rw [Bool.and_eq_true] at hv
   obtain ⟨p,rfl,_,_⟩:=qIO hv.1
   obtain ⟨q,rfl,_,_⟩:=qIO hv.2
   have r:sv (n:Int) (.tup [.v (.int p),.v (.int q)])=!decide (p=q):=by show (blw (n:Int) (.v (.int p))&&blw (n:Int) (.v (.int q))&&!decide (p=q))=_;rw [hv.1,hv.2];rfl
   rw [r]
   simp [qAV,c,al,qAA,-qA1]
theorem qMz (hk:3<=k) {t:T} (h:Ks t) (n:Nat) (M:Mem):Pk (glT gs) Fs Cs k 13 [N n,t] M=.ok (bT (sv (n:Int) t),M):=by
 rw [qAP t13 ⟨rfl,by decide⟩ (by omega),b13,show Cs.getD 13 []=[] from rfl]
 cases h with
 | oth _ ty e hn=>
  rw [qJG e hn]
  simp [e,qAV,hn,qAA]
 | len ts hl=>
  rw [qIl hl]
  have l:∀ {M:Mem},qBk M .len [.tup ts]=some (N ts.length,true):=fun {M}=>rfl
  have ne:∀ {M:Mem},qA0 M .ne (N ts.length) (N 2)=some true:=fun {M}=>by rw [qLO,decide_eq_false hl];rfl
  simp [qAV,l,ne,qAA]
 | pair a b ha hb=>
  have e1:=w10 (k:=k - 1) (by omega) ha M
  have e2:=w10 (k:=k - 1) (by omega) hb M
  cases h1:isI a with
  | false=>
   rw [h1] at e1
   have r:sv (n:Int) (.tup [a,b])=false:=by
    cases z:sv (n:Int) (.tup [a,b]) with
    | false=>rfl
    | true=>obtain ⟨p,q,e,_⟩:=qCr z;cases e;cases h1
   rw [r]
   simp [qAV,e1,qAA]
  | true=>
   rw [h1] at e1
   cases h2:isI b with
   | false=>
    rw [h2] at e2
    have r:sv (n:Int) (.tup [a,b])=false:=by
     cases z:sv (n:Int) (.tup [a,b]) with
     | false=>rfl
     | true=>obtain ⟨p,q,e,_⟩:=qCr z;cases e;cases h2
    rw [r]
    simp [qAV,e1,e2,qAA]
   | true=>
    rw [h2] at e2
    unfold isI at h1 h2
    split at h1
    ·rename_i p
     split at h2
     ·rename_i q
      have r:sv (n:Int) (.tup [.v (.int p),.v (.int q)])=(decide (0<=p)&&decide (p < (n:Int))&&(decide (0<=q)&&decide (q < (n:Int)))&&!decide (p=q)):=rfl
      rw [r]
      have c1:∀ {M:Mem} (i:Int),qA0 M .le (N 0) (.v (.int i))=some (decide (0<=i)):=fun {M} i=>rfl
      have c2:∀ {M:Mem} (i:Int),qA0 M .lt (.v (.int i)) (N n)=some (decide (i < (n:Int))):=fun {M} i=>rfl
      by_cases a1:0<=p
      ·by_cases a2:p < (n:Int)
       ·by_cases a3:0<=q
        ·by_cases a4:q < (n:Int)
         ·simp [qAV,e1,e2,c1,c2,a1,a2,a3,a4,qAA]
         ·simp [qAV,e1,e2,c1,c2,a1,a2,a3,a4,qAA]
        ·simp [qAV,e1,e2,c1,c2,a1,a2,a3,qAA]
       ·simp [qAV,e1,e2,c1,c2,a1,a2,qAA]
      ·simp [qAV,e1,e2,c1,a1,qAA]
     ·cases h2
    ·cases h1
end
noncomputable def spI:List T -> List Int
 | .tup [.v (.int p),.v (.int q)]::ts=>p::q::spI ts
 | _::ts=>spI ts
 | []=>[]
noncomputable def gd (n:Int):List Int -> List T -> Bool
 | _,[]=>true
 | U,t::ts=>match t with
  | .tup [.v (.int p),.v (.int q)]=>sv n t&&!(decide (p∈U)||decide (q∈U))&&gd n (U++[p,q]) ts
  | _=>false
theorem qJ6 {n:Int}:∀ (ts:List T) (U:List Int),U.Nodup -> gd n U ts=(ts.all (sv n)&&decide ((U++spI ts).Nodup))
 | [],U,h=>by simp [gd,spI,h]
 | t::ts,U,h=>by
  cases hs:sv n t with
  | false=>
   have e:gd n U (t::ts)=false:=by
    unfold gd
    split
    ·rw [hs];rfl
    ·rfl
   rw [e,List.all_cons,hs];rfl
  | true=>
   obtain ⟨p,q,rfl,_,_,_,_,hpq⟩:=qCr hs
   rw [List.all_cons,hs,Bool.true_and]
   show (sv n (.tup [.v (.int p),.v (.int q)])&&!(decide (p∈U)||decide (q∈U))&&gd n (U++[p,q]) ts)=(ts.all (sv n)&&decide ((U++(p::q::spI ts)).Nodup))
   rw [hs,Bool.true_and,show U++(p::q::spI ts)=U++[p,q]++spI ts by simp]
   by_cases hp:p∈U
   ·have:¬ (U++[p,q]++spI ts).Nodup:=fun z=>by
     have:=(List.nodup_append.mp (List.nodup_append.mp z).1).2.2 p hp p (by simp)
     exact this rfl
    rw [decide_eq_true hp,decide_eq_false this,Bool.and_false];rfl
   ·by_cases hq:q∈U
    ·have:¬ (U++[p,q]++spI ts).Nodup:=fun z=>by
      have:=(List.nodup_append.mp (List.nodup_append.mp z).1).2.2 q hq q (by simp)
      exact this rfl
     rw [decide_eq_true hq,decide_eq_false this,Bool.or_true,Bool.and_false];rfl
    ·rw [decide_eq_false hp,decide_eq_false hq]
     have hU:(U++[p,q]).Nodup:=by
      rw [List.nodup_append]
      refine ⟨h,by simp [hpq],fun a ha b hb=>?_⟩
      simp only [List.mem_cons,List.not_mem_nil,or_false] at hb
      rcases hb with rfl | rfl
      ·rintro rfl;exact hp ha
      ·rintro rfl;exact hq ha
     rw [show (!(false||false)&&gd n (U++[p,q]) ts)=gd n (U++[p,q]) ts from rfl,qJ6 ts _ hU]
theorem qE1:∀ (is acc:List Int),acc.Nodup -> ((is.foldl PyProof.Rows.step_dedup acc).length=acc.length + is.length↔(acc++is).Nodup)/\(is.foldl PyProof.Rows.step_dedup acc).length<=acc.length + is.length
 | [],acc,h=>by simp [h]
 | x::is,acc,h=>by
  rw [List.foldl_cons]
  by_cases hx:x∈acc
  ·have e:PyProof.Rows.step_dedup acc x=acc:=by
    unfold PyProof.Rows.step_dedup
    rw [if_pos (List.any_eq_true.mpr ⟨x,hx,by simp⟩)]
   rw [e]
   obtain ⟨a,b⟩:=qE1 is acc h
   refine ⟨⟨fun z=>by simp at z;omega,fun z=>?_⟩,by simp;omega⟩
   have:=(List.nodup_append.mp z).2.2 x hx x (by simp)
   exact absurd rfl this
  ·have e:PyProof.Rows.step_dedup acc x=acc++[x]:=by
    unfold PyProof.Rows.step_dedup
    rw [if_neg (by rw [List.any_eq_true];rintro ⟨y,hy,e⟩;simp at e;subst e;exact hx hy)]
   rw [e]
   have h2:(acc++[x]).Nodup:=by
    rw [List.nodup_append]
    refine ⟨h,by simp,fun a ha b hb=>?_⟩
    rw [List.mem_singleton.mp hb]
    rintro rfl
    exact hx ha
   obtain ⟨a,b⟩:=qE1 is (acc++[x]) h2
   rw [List.append_assoc,List.singleton_append] at a
   simp at a b
   refine ⟨?_,by simp;omega⟩
   rw [<- a]
   simp
   omega
theorem qH7 (is:List Int):(qFm is=is.length)↔is.Nodup:=by
 have:=(qE1 is [] (by simp)).1
 simpa [qFm] using this
section
variable {k:Nat}
theorem qN8 (hk:3<=k) {M:Mem} {d:qCM} (hd:qAc d M=true) {n:Nat}:∀ (ts:List T) (U:List Int) (ks:List (Int×V)) (σ:TS),(∀ t∈ts,Ks t) -> (∀ v:Int,qC9 ks v=decide (v∈U)) -> ks.length + 2 * ts.length<=1000 -> (gd (n:Int) U ts=true -> ∃ σ',qCL (Pk (glT gs) Fs Cs k) d 7 3 (N n) ts ks σ M=.ok (.nx σ',M))/\(gd (n:Int) U ts=false -> qCL (Pk (glT gs) Fs Cs k) d 7 3 (N n) ts ks σ M=.ok (.rt (bT false),M))
 | [],U,ks,σ,_,_,_=>⟨fun _=>⟨σ,rfl⟩,fun h=>by cases h⟩
 | t::ts,U,ks,σ,h,hk2,hl=>by
  have e:=qNS hk (h t (by simp)) n M
  simp at hl
  cases hs:sv (n:Int) t with
  | false=>
   rw [hs] at e
   have g:gd (n:Int) U (t::ts)=false:=by
    unfold gd
    split
    ·rw [hs];rfl
    ·rfl
   refine ⟨fun z=>(by rw [g] at z;cases z),fun _=>?_⟩
   unfold qCL
   rw [e,PR.nx_ok,PR.bind_ok]
   rfl
  | true=>
   rw [hs] at e
   obtain ⟨p,q,rfl,_,_,_,_,hpq⟩:=qCr hs
   have g:gd (n:Int) U (.tup [.v (.int p),.v (.int q)]::ts)=(!(decide (p∈U)||decide (q∈U))&&gd (n:Int) (U++[p,q]) ts):=by
    show (sv (n:Int) (.tup [.v (.int p),.v (.int q)])&&!(decide (p∈U)||decide (q∈U))&&gd (n:Int) (U++[p,q]) ts)=_
    rw [hs,Bool.true_and]
   have l1:=qDj ks p (.bl true)
   have l2:=qDj (qBz ks p (.bl true)) q (.bl true)
   have ih:=qN8 hk hd (n:=n) ts (U++[p,q]) (qBz (qBz ks p (.bl true)) q (.bl true)) (σ.set 3 (some (.tup [.v (.int p),.v (.int q)]))) (fun t ht=>h t (by simp [ht])) (fun v=>by
    rw [qEE,qEE,hk2 v,Bool.eq_iff_iff]
    simp only [Bool.or_eq_true,decide_eq_true_eq,List.mem_append,List.mem_cons,List.not_mem_nil,or_false,or_assoc]) (by omega)
   have st:qCL (Pk (glT gs) Fs Cs k) d 7 3 (N n) (.tup [.v (.int p),.v (.int q)]::ts) ks σ M=if qC9 ks p||qC9 ks q then .ok (.rt (bT false),M) else qCL (Pk (glT gs) Fs Cs k) d 7 3 (N n) ts (qBz (qBz ks p (.bl true)) q (.bl true)) (σ.set 3 (some (.tup [.v (.int p),.v (.int q)]))) M:=by
    rw [qCL,e,PR.nx_ok,PR.bind_ok]
    show (if qAc d M=true/\ks.length + 1 < lim then (if qC9 ks p||qC9 ks q then _ else _) else _)=_
    rw [if_pos ⟨hd,Nat.lt_of_lt_of_le (show ks.length + 1 < 2000 by omega) (by decide)⟩]
   rw [st,g,hk2,hk2]
   cases hc:(decide (p∈U)||decide (q∈U)) with
   | true=>exact ⟨fun z=>(by cases z),fun _=>(by rw [if_pos rfl])⟩
   | false=>
    rw [if_neg (by decide)]
    exact ih
theorem qLK (hk:4<=k) {M:Mem} {t:T} {ts:List T} (i:IsS M t ts) (h:∀ u∈ts,Ks u) (hl:ts.length<=300) (n:Nat):Pk (glT gs) Fs Cs k 6 [N n,t] M=.ok (bT (gd (n:Int) [] ts),M):=by
 rw [qAP t6 ⟨rfl,by decide⟩ (by omega),b6,show Cs.getD 6 []=[] from rfl]
 obtain ⟨d,s1,_,s2⟩:=i.src
 have s2':=s2 []
 rw [List.append_nil] at s2'
 have e:=qN8 (k:=k - 1) (by omega) s2' (n:=n) ts [] [] [some (N n),some t,none,none] h (fun v=>rfl) (by simp;omega)
 cases hg:gd (n:Int) [] ts with
 | true=>
  obtain ⟨σ',e⟩:=e.1 hg
  simp [qAV,i.ty,i.lf,qFs,s1,e,qAA]
 | false=>
  have e:=e.2 hg
  simp [qAV,i.ty,i.lf,qFs,s1,e,qAA]
theorem qKg (hk:1<=k) {t:T} {ty:String} {M:Mem} (e:qAh M t=some ty) (hn:ty≠"list") (n:Nat):Pk (glT gs) Fs Cs k 6 [N n,t] M=.ok (bT false,M):=by
 rw [qAP t6 ⟨rfl,by decide⟩ (by omega),b6,show Cs.getD 6 []=[] from rfl]
 simp [e,qAV,hn,qAA]
theorem spL {M:Mem} {d:qCM} (hd:qAc d M=true) {n:Nat} {a0 a1:Option T}:∀ (ts:List T) (W:List Int) (o2 o4:Option T),ts.all (sv (n:Int))=true -> W.length + 2 * ts.length<=1000 -> ∃ p2 p4,qBW d (.tup [2,4]) (pxs (glT gs) (Pk (glT gs) Fs Cs k) [] qIG) ts [a0,a1,o2,some (.lst (W.map I)),o4] M=.ok (.nx [a0,a1,p2,some (.lst ((W++spI ts).map I)),p4],M)
 | [],W,o2,o4,_,_=>⟨o2,o4,by simp [qBW,spI]⟩
 | t::ts,W,o2,o4,h,hl=>by
  rw [List.all_cons,Bool.and_eq_true] at h
  obtain ⟨p,q,rfl,_,_,_,_,hpq⟩:=qCr h.1
  simp at hl
  obtain ⟨p2,p4,e⟩:=spL hd (n:=n) (a0:=a0) (a1:=a1) ts (W++[p,q]) (some (I p)) (some (I q)) h.2 (by simp;omega)
  refine ⟨p2,p4,?_⟩
  have ad:qAq M .add (.lst (W.map I)) (.lst [I p,I q])=some (lT ((W++[p,q]).map I)):=by
   rw [qDQ (by simp [lim];omega)];simp
  have body:pxs (glT gs) (Pk (glT gs) Fs Cs k) [] qIG [a0,a1,some (I p),some (.lst (W.map I)),some (I q)] M=.ok (.nx [a0,a1,some (I p),some (.lst ((W++[p,q]).map I)),some (I q)],M):=by
   clear e
   generalize (W++[p,q]).map I=W2 at *
   rw [qIG]
   simp [ad,lim]
  rw [qBW,show qBE (.tup [2,4]) (.tup [.v (.int p),.v (.int q)]) [a0,a1,o2,some (.lst (W.map I)),o4]=some [a0,a1,some (I p),some (.lst (W.map I)),some (I q)] from rfl]
  dsimp only
  rw [body,PR.bind_ok]
  dsimp only
  rw [if_pos hd]
  rw [show W++spI (.tup [.v (.int p),.v (.int q)]::ts)=W++[p,q]++spI ts by simp [spI]]
  exact e
theorem qIc:∀ W:List Int,qAm (W.map I)=some W
 | []=>rfl
 | x::W=>by
  show (qAm (W.map I)).map _=_
  rw [qIc W];rfl
theorem qHN:∀ ts:List T,(spI ts).length<=2 * ts.length
 | []=>by simp [spI]
 | t::ts=>by
  have:=qHN ts
  unfold spI
  split
  ·rename_i h;cases h;simp;omega
  ·rename_i h;cases h;simp;omega
  ·rename_i h;cases h
theorem qKY (hk:4<=k) {M:Mem} {t:T} {ts:List T} (i:IsS M t ts) (h:∀ u∈ts,Ks u) (hl:ts.length<=300) (n:Nat):Pk (glT gs) Fs Cs k 14 [N n,t] M=.ok (bT (gd (n:Int) [] ts),M):=by
 rw [qAP t14 ⟨rfl,by decide⟩ (by omega),b14,show Cs.getD 14 []=[] from rfl]
 obtain ⟨d,s1,_,s2⟩:=i.src
 have s2':=s2 []
 rw [List.append_nil] at s2'
 have c:=qDO (d:=d) (gl:=glT gs) (P:=Pk (glT gs) Fs Cs (k - 1)) (e:=pe (glT gs) (Pk (glT gs) Fs Cs (k - 1)) (.call 13 (.cons (.var 1) (.cons (.var 0) .nil)))) (σ:=[some (N n)]) (M:=M) (fun u=>T.v (.bl (sv (n:Int) u))) (fun _=>true) s2' ts [] true none (by simp [lim];omega) (fun u hu=>by simp [qMz (k:=k - 1) (by omega) (h u hu),bT])
 rw [List.nil_append,show (ts.all fun _=>true)=true from List.all_eq_true.mpr fun _ _=>rfl,Bool.and_self] at c
 have al:∀ {M:Mem},qBk M .all [.lst (ts.map fun u=>T.v (.bl (sv (n:Int) u)))]=some (bT (ts.all (sv (n:Int)))):=fun {M}=>qKl _ ts
 have nf:=i.lf
 rw [qJ6 ts [] (by simp),List.nil_append]
 cases ha:ts.all (sv (n:Int)) with
 | false=>
  rw [ha] at al
  generalize (ts.map fun u=>T.v (.bl (sv (n:Int) u)))=B at *
  simp [qAV,i.ty,s1,c,al,qAA,-qA1]
 | true=>
  rw [ha] at al
  obtain ⟨p2,p4,e⟩:=spL (k:=k - 1) s2' (n:=n) (a0:=some (N n)) (a1:=some t) ts [] none none ha (by simp;omega)
  rw [List.nil_append,List.map_nil] at e
  have sl:=qHN ts
  have li:(T.lst ((spI ts).map I)).lis M=some ((spI ts).map I):=rfl
  have ii:=qIc (spI ts)
  have ln:qBk M .len [.lst ((spI ts).map I)]=some (N (spI ts).length,true):=by rw [qNp];simp;rfl
  have cq:qA0 M .eq (.v (.int ((qFm (spI ts):Nat):Int))) (N (spI ts).length)=some (decide ((spI ts).Nodup)):=by
   show qA0 M .eq (N (qFm (spI ts))) (N (spI ts).length)=_
   rw [qLE]
   congr 1
   rw [Bool.eq_iff_iff,decide_eq_true_eq,decide_eq_true_eq]
   exact qH7 _
  have l9:(spI ts).length < 1000:=by omega
  rw [Bool.true_and]
  generalize (ts.map fun u=>T.v (.bl (sv (n:Int) u)))=B at *
  generalize hX:(spI ts).map I=X at *
  generalize decide ((spI ts).Nodup)=dd at *
  have lX:X.length=(spI ts).length:=by rw [<- hX];simp
  simp [qAV,i.ty,s1,c,al,e,ii,l9,lX,ln,-qDA,cq,qAA,lim,-qA1]
theorem qJ3 (hk:1<=k) {t:T} {ty:String} {M:Mem} (e:qAh M t=some ty) (hn:ty≠"list") (n:Nat):Pk (glT gs) Fs Cs k 14 [N n,t] M=.ok (bT false,M):=by
 rw [qAP t14 ⟨rfl,by decide⟩ (by omega),b14,show Cs.getD 14 []=[] from rfl]
 simp [e,qAV,hn,qAA]
end
noncomputable def RB (M:Mem) (n:Nat) (t:T) (b:Bool):Prop:=∀ k,4<=k -> Pk (glT gs) Fs Cs k 6 [N n,t] M=.ok (bT b,M)/\Pk (glT gs) Fs Cs k 14 [N n,t] M=.ok (bT b,M)
theorem RB.lst {M:Mem} {n:Nat} {t:T} {ts:List T} (i:IsS M t ts) (h:∀ u∈ts,Ks u) (hl:ts.length<=300):RB M n t (gd (n:Int) [] ts):=fun k hk=>⟨qLK hk i h hl n,qKY hk i h hl n⟩
theorem RB.oth {M:Mem} {n:Nat} {t:T} {ty:String} (e:qAh M t=some ty) (hn:ty≠"list"):RB M n t false:=fun k hk=>⟨qKg (by omega) e hn n,qJ3 (by omega) e hn n⟩
theorem qJB:∀ L:List Stp,spI (SL L)=(qAt L).map fun (x:Nat)=>(x:Int)
 | []=>rfl
 | p::L=>by
  show (p.1:Int)::(p.2:Int)::spI (SL L)=((p.1::p.2::qAt L).map fun (x:Nat)=>(x:Int))
  rw [qJB L];rfl
theorem qKR {n:Nat} {L:List Stp} (h:OkR n L):gd (n:Int) [] (SL L)=true:=by
 rw [qJ6 _ _ (by simp),List.nil_append,qJB]
 have a:(SL L).all (sv (n:Int))=true:=List.all_eq_true.mpr fun t ht=>by
  obtain ⟨p,hp,rfl⟩:=List.mem_map.mp ht
  exact qNa (h.st p hp)
 have b:((qAt L).map fun (x:Nat)=>(x:Int)).Nodup:=by
  have:=h.nd
  rw [List.nodup_iff_pairwise_ne] at this ⊢
  exact List.Pairwise.map _ (fun a b z=>by omega) this
 rw [a,decide_eq_true b];rfl
theorem RB.good {M:Mem} {n:Nat} {t:T} {L:List Stp} (i:IsS M t (SL L)) (h:OkR n L):RB M n t true:=by
 have:=RB.lst (n:=n) i (fun u hu=>by obtain ⟨p,_,rfl⟩:=List.mem_map.mp hu;exact qKI p) (by rw [qBM];have:=h.le;omega)
 rw [qKR h] at this
 exact this
section
variable {k:Nat}
theorem qM0 (hk:6<=k) {M:Mem} {t:T} {s:Nat} (h1:1<=s) (h5:s<=5) {ts:List T} (i:IsS M t ts) (hl:ts.length<=100) {f:T -> Bool} (h:∀ u∈ts,RB M (2 ^ s) u (f u)):Pk (glT gs) Fs Cs k 5 [N s,t] M=.ok (bT (decide (ts.length<=40)&&ts.all f),M):=by
 rw [qAP t5 ⟨rfl,by decide⟩ (by omega),b5,show Cs.getD 5 []=[] from rfl]
 obtain ⟨d,s1,_,s2⟩:=i.src
 have s2':=s2 []
 rw [List.append_nil] at s2'
 have e4:=f4 (k:=k - 1) (by omega) h1 h5 M
 have gt:∀ {M:Mem},qA0 M .gt (N ts.length) (N 40)=some (!decide (ts.length<=40)):=fun {M}=>by rw [qNk];congr 1;by_cases q:ts.length<=40<;>simp [q]<;>omega
 cases hq:decide (ts.length<=40) with
 | false=>
  rw [hq] at gt
  simp [e4,qAV,i.ty,i.len,gt,qAA]
 | true=>
  rw [hq] at gt
  have c:=qDO (d:=d) (gl:=glT gs) (P:=Pk (glT gs) Fs Cs (k - 1)) (e:=pe (glT gs) (Pk (glT gs) Fs Cs (k - 1)) (.call 6 (.cons (.call 2 (.cons (.var 1) .nil)) (.cons (.var 0) .nil)))) (σ:=[some (N s)]) (M:=M) (fun u=>T.v (.bl (f u))) (fun _=>true) s2' ts [] true none (by simp [lim];omega) (fun u hu=>by simp [f2 (k:=k - 1) (by omega) h5,(h u hu (k - 1) (by omega)).1,bT])
  rw [List.nil_append,show (ts.all fun _=>true)=true from List.all_eq_true.mpr fun _ _=>rfl,Bool.and_self] at c
  have al:∀ {M:Mem},qBk M .all [.lst (ts.map fun u=>T.v (.bl (f u)))]=some (bT (ts.all f)):=fun {M}=>qKl _ ts
  generalize (ts.map fun u=>T.v (.bl (f u)))=B at *
  simp [e4,qAV,i.ty,i.len,gt,s1,c,al,qAA,-qA1]
theorem qOr (hk:6<=k) {M:Mem} {t:T} {s:Nat} (h5:s<=5) {ts:List T} (i:IsS M t ts) (hl:ts.length<=100) {f:T -> Bool} (h:∀ u∈ts,RB M (2 ^ s) u (f u)):Pk (glT gs) Fs Cs k 15 [N s,t] M=.ok (bT (decide (ts.length<=40)&&ts.all f),M):=by
 rw [qAP t15 ⟨rfl,by decide⟩ (by omega),b15,show Cs.getD 15 []=[] from rfl]
 obtain ⟨d,s1,_,s2⟩:=i.src
 have s2':=s2 []
 rw [List.append_nil] at s2'
 have le:∀ {M:Mem},qA0 M .le (N ts.length) (N 40)=some (decide (ts.length<=40)):=fun {M}=>qKG _ _
 have sh:∀ {M:Mem},qAq M .shl (N 1) (N s)=some (N (2 ^ s),true):=fun {M}=>by rw [qG2 (by omega),Nat.one_mul]
 cases hq:decide (ts.length<=40) with
 | false=>
  rw [hq] at le
  simp [qAV,i.ty,i.len,le,-qKG,qAA]
 | true=>
  rw [hq] at le
  have c:=qDO (d:=d) (gl:=glT gs) (P:=Pk (glT gs) Fs Cs (k - 1)) (e:=pe (glT gs) (Pk (glT gs) Fs Cs (k - 1)) (.call 14 (.cons (.bin .shl (nE 1) (.var 1)) (.cons (.var 0) .nil)))) (σ:=[some (N s)]) (M:=M) (fun u=>T.v (.bl (f u))) (fun _=>true) s2' ts [] true none (by simp [lim];omega) (fun u hu=>by simp [sh,(h u hu (k - 1) (by omega)).2,bT])
  rw [List.nil_append,show (ts.all fun _=>true)=true from List.all_eq_true.mpr fun _ _=>rfl,Bool.and_self] at c
  have al:∀ {M:Mem},qBk M .all [.lst (ts.map fun u=>T.v (.bl (f u)))]=some (bT (ts.all f)):=fun {M}=>qKl _ ts
  generalize (ts.map fun u=>T.v (.bl (f u)))=B at *
  simp [qAV,i.ty,i.len,le,-qKG,s1,c,al,qAA,-qA1]
theorem qLd (hk:6<=k) {M:Mem} {t:T} {s:Nat} (h1:1<=s) (h5:s<=5) {ty:String} (e:qAh M t=some ty) (hn:ty≠"list"):Pk (glT gs) Fs Cs k 5 [N s,t] M=.ok (bT false,M)/\Pk (glT gs) Fs Cs k 15 [N s,t] M=.ok (bT false,M):=by
 have e4:=f4 (k:=k - 1) (by omega) h1 h5 M
 constructor
 ·rw [qAP t5 ⟨rfl,by decide⟩ (by omega),b5,show Cs.getD 5 []=[] from rfl]
  simp [e4,e,qAV,hn,qAA]
 ·rw [qAP t15 ⟨rfl,by decide⟩ (by omega),b15,show Cs.getD 15 []=[] from rfl]
  simp [e,qAV,hn,qAA]
noncomputable def NB (M:Mem) (s:Nat) (t:T):Prop:=∃ b,∀ k,6<=k -> Pk (glT gs) Fs Cs k 5 [N s,t] M=.ok (bT b,M)/\Pk (glT gs) Fs Cs k 15 [N s,t] M=.ok (bT b,M)
theorem NB.lst {M:Mem} {s:Nat} (h1:1<=s) (h5:s<=5) {t:T} {ts:List T} (i:IsS M t ts) (hl:ts.length<=100) (h:∀ u∈ts,∃ b,RB M (2 ^ s) u b):NB M s t:=by
 have:∃ f:T -> Bool,∀ u∈ts,RB M (2 ^ s) u (f u):=by
  classical
  refine ⟨fun u=>if h:∃ b,RB M (2 ^ s) u b then h.choose else false,fun u hu=>?_⟩
  dsimp only
  rw [dif_pos (h u hu)]
  exact (h u hu).choose_spec
 obtain ⟨f,hf⟩:=this
 exact ⟨_,fun k hk=>⟨qM0 hk h1 h5 i hl hf,qOr hk h5 i hl hf⟩⟩
theorem qMk (hk:1<=k) (a b:Bool) (M:Mem):Pk (glT gs) Fs Cs k 18 [.v (.bl a),.v (.bl b)] M=.ok (bT (a==b),M):=by
 rw [qAP t18 ⟨rfl,by decide⟩ (by omega),b18,show Cs.getD 18 []=[] from rfl]
 simp [qAV,qNb,qAA]
end
end My
namespace My
open PySem PySem.Spec PI
open L2 (V)
open Nt (Stp Sg OkS OkR qAt)
noncomputable def qKU:S:=(.asg (.name 3) (.call 9 (.cons (.var 0) (.cons (nE 20) .nil))))
noncomputable def qGc:S:=(.ifs (.cmp .lt (.var 3) (nE 4)) (.cons (.asg (.name 4) (.comp (.rng1 (.bin .sub (.idx (.lst (.cons (nE 0) (.cons (nE 0) (.cons (nE 41) (.cons (nE 40) .nil))))) (.var 3)) (.blt .len (.cons (.var 2) .nil)))) [none] (.name 0) .nil (.lst .nil))) (.cons (.ret (.idx (.lst (.cons (.blt .tuple (.cons (.var 2) .nil)) (.cons (.cst V.non) (.cons (.bin .add (.var 2) (.var 4)) (.cons (.bin .add (.var 2) (.var 4)) .nil))))) (.var 3))) .nil)) .nil)
noncomputable def qJw:S:=(.asg (.name 5) (.comp (.list (.var 2)) [none] (.name 0) .nil (.blt .list (.cons (.var 0) .nil))))
noncomputable def qIK:S:=(.ifs (.cmp .lt (.blt .len (.cons (.var 5) .nil)) (nE 40)) (.cons (.expr (.app (.var 5) (.lst .nil))) .nil) .nil)
noncomputable def qKf:S:=(.asg (.name 6) (.call 9 (.cons (.var 0) (.cons (.blt .len (.cons (.var 5) .nil)) .nil))))
noncomputable def qHl:S:=(.ifs (.cmp .lt (.var 3) (nE 7)) (.cons (.put (.var 5) (.var 6) (.idx (.lst (.cons (.blt .tuple (.cons (.idx (.var 5) (.var 6)) .nil)) (.cons (.idx (.lst (.cons (.cst V.non) (.cons .dnew .nil))) (.bin .mod (.var 6) (nE 2))) (.cons (nE 7) .nil)))) (.bin .sub (.var 3) (nE 4)))) .nil) (.cons (.asg (.name 7) (.call 9 (.cons (.var 0) (.cons (.bin .add (.blt .len (.cons (.idx (.var 5) (.var 6)) .nil)) (nE 1)) .nil)))) (.cons (.put (.var 5) (.var 6) (.bin .add (.bin .add (.sl (.idx (.var 5) (.var 6)) .nil (.cons (.var 7) .nil)) (.lst (.cons (.call 16 (.cons (.var 0) (.cons (.idx (.var 5) (.var 6)) (.cons (.bin .shl (nE 1) (.var 1)) .nil)))) .nil))) (.sl (.idx (.var 5) (.var 6)) (.cons (.var 7) .nil) .nil))) .nil)))
noncomputable def qKh:S:=(.ret (.var 5))
theorem qL4:b17=(.cons qKU (.cons qGc (.cons qJw (.cons qIK (.cons qKf (.cons qHl (.cons qKh .nil))))))):=rfl
noncomputable def qJU:S:=(.asg (.name 3) (.call 9 (.cons (.var 0) (.cons (.var 2) .nil))))
noncomputable def qKT:S:=(.asg (.name 4) (.bin .mod (.bin .add (.bin .add (.var 3) (nE 1)) (.call 9 (.cons (.var 0) (.cons (.bin .sub (.var 2) (nE 1)) .nil)))) (.var 2)))
noncomputable def qJj:S:=(.asg (.name 5) (.var 3))
noncomputable def qH4:S:=(.ifs (.cmp .ne (.var 1) (.lst .nil)) (.cons (.asg (.name 5) (.idx (.idx (.var 1) (.call 9 (.cons (.var 0) (.cons (.blt .len (.cons (.var 1) .nil)) .nil)))) (.call 9 (.cons (.var 0) (.cons (nE 2) .nil))))) .nil) .nil)
noncomputable def qKH:S:=(.asg (.name 6) (.lst (.cons (.tup (.cons (.var 3) (.cons (.var 3) .nil))) (.cons (.tup (.cons (.var 5) (.cons (.var 4) .nil))) (.cons (.tup (.cons (.var 4) (.cons (.var 5) .nil))) (.cons (.tup (.cons (.var 3) (.cons (.var 2) .nil))) (.cons (.tup (.cons (.bin .sub (nE 0) (nE 1)) (.cons (.var 3) .nil))) (.cons (.tup (.cons (.cst (V.bl true)) (.cons (.var 4) .nil))) (.cons (.tup (.cons (.var 3) (.cons (.cst (V.bl false)) .nil))) (.cons (.tup (.cons (.var 3) .nil)) .nil))))))))))
noncomputable def qKQ:S:=(.asg (.name 6) (.bin .add (.var 6) (.lst (.cons (.tup (.cons (.var 3) (.cons (.var 4) (.cons (.var 3) .nil)))) (.cons (.lst (.cons (.var 3) (.cons (.var 4) .nil))) (.cons (.cst V.non) (.cons (.tup (.cons (.var 3) (.cons (.cst V.non) .nil))) (.cons (.tup (.cons (.cst (V.str "0")) (.cons (.var 4) .nil))) (.cons (.tup (.cons (.var 3) (.cons (.bin .add (.var 2) (.bin .pow (nE 10) (nE 30))) .nil))) .nil)))))))))
noncomputable def qJq:S:=(.asg (.name 6) (.bin .add (.var 6) (.lst (.cons (.tup (.cons (.lst (.cons (.var 3) .nil)) (.cons (.var 4) .nil))) (.cons (.tup (.cons (.var 3) (.cons .dnew .nil))) (.cons (.tup (.cons (.var 3) (.cons (.var 4) .nil))) .nil))))))
noncomputable def qJ1:S:=(.ret (.idx (.var 6) (.call 9 (.cons (.var 0) (.cons (nE 17) .nil)))))
theorem qMP:b16=(.cons qJU (.cons qKT (.cons qJj (.cons qH4 (.cons qKH (.cons qKQ (.cons qJq (.cons qJ1 .nil)))))))):=rfl
theorem qAi {gl:List T} {P:Nat -> List T -> Mem -> PR (TB×Mem)} {C:List Nat} {s:S} {r:Ss} {σ σ':TS} {M M':Mem} (e:px gl P C s σ M=.ok (.nx σ',M')):pxs gl P C (.cons s r) σ M=pxs gl P C r σ' M':=by
 rw [qDr,e];rfl
theorem qGv {gl:List T} {P:Nat -> List T -> Mem -> PR (TB×Mem)} {C:List Nat} {s:S} {r:Ss} {σ:TS} {t:TB} {M M':Mem} (e:px gl P C s σ M=.ok (.rt t,M')):pxs gl P C (.cons s r) σ M=.ok (.rt t,M'):=by
 rw [qDr,e];rfl
noncomputable def Bd (i:Int):Prop:=i.natAbs < 2 ^ 110
theorem Bd.log {i:Int} (h:Bd i):i.natAbs.log2 < 120:=by
 rcases Nat.eq_zero_or_pos i.natAbs with z | z
 ·rw [z];decide
 ·have:=(Nat.log2_lt (by omega)).mpr h;omega
theorem Bd.len {i:Int} (h:Bd i):(Str.ofString (toString i)).length<=121:=by
 rw [ofString_length];exact int_text_length_le (by decide) h.log
noncomputable def Fit (d:PyData) (n:Nat):Prop:=d.showable=true/\d.shown.length<=n
theorem qHx (ts:List Str):(tupleText ts).length<=piled ts + 3:=by
 unfold tupleText
 rw [Str.length_append,Str.length_append]
 have e1:(("(":String):Str).length=1:=rfl
 have e2:((if ts.length==1 then ",)" else ")":String):Str).length<=2:=by split<;>decide
 cases ts with
 | nil=>
  have:(Str.join ", " []).length=0:=rfl
  omega
 | cons t r=>
  have:=join_length_add (t::r) (by simp)
  omega
theorem qHW:∀ (ts:List Str) (k:Nat) (acc:Str),(textFrom k acc ts).length<=acc.length + piled ts
 | [],k,acc=>by show acc.length<=_;rw [piled_nil];omega
 | t::r,k,acc=>by
  have:=qHW r (k + 1) (acc++(if k > 0 then ", " else "":String)++t)
  show (textFrom (k + 1) (acc++(if k > 0 then ", " else "":String)++t) r).length<=_
  rw [Str.length_append,Str.length_append] at this
  rw [piled_cons]
  have e:((if k > 0 then ", " else "":String):Str).length<=2:=by split<;>decide
  omega
theorem qDZ:∀ {ds:List PyData} {n:Nat},(∀ d∈ds,Fit d n) -> PyData.showableAll ds=true/\piled (PyData.shownAll ds)<=ds.length * (n + 2)
 | [],n,h=>⟨rfl,Nat.zero_le _⟩
 | d::r,n,h=>by
  obtain ⟨a,b⟩:=qDZ (ds:=r) fun x hx=>h x (by simp [hx])
  obtain ⟨c,e⟩:=h d (by simp)
  refine ⟨by show (d.showable&&PyData.showableAll r)=true;rw [c,a];rfl,?_⟩
  show piled (d.shown::PyData.shownAll r)<=_
  rw [piled_cons,List.length_cons,Nat.succ_mul];omega
theorem qEr {ds:List PyData} {n m:Nat} (h:∀ d∈ds,Fit d n) (hm:ds.length * (n + 2) + 3<=m):Fit (.tuple ds) m:=by
 obtain ⟨a,b⟩:=qDZ h
 refine ⟨a,?_⟩
 show (tupleText (PyData.shownAll ds)).length<=_
 have c:=qHx (PyData.shownAll ds)
 omega
theorem qDg {ds:List PyData} {n m:Nat} (h:∀ d∈ds,Fit d n) (hm:ds.length * (n + 2) + 3<=m):Fit (.list ds) m:=by
 obtain ⟨a,b⟩:=qDZ h
 refine ⟨a,?_⟩
 show (listText (PyData.shownAll ds)).length<=_
 unfold listText
 rw [Str.length_append]
 have c:=qHW (PyData.shownAll ds) 0 "["
 have e1:(("[":String):Str).length=1:=rfl
 have e2:(("]":String):Str).length=1:=rfl
 omega
theorem qEv {i:Int} (h:Bd i):Fit (.int i) 200:=⟨decide_eq_true (by have:=h.log;omega),Nat.le_trans h.len (by decide)⟩
theorem Fit.mono {d:PyData} {n m:Nat} (h:Fit d n) (l:n<=m):Fit d m:=⟨h.1,Nat.le_trans h.2 l⟩
theorem qCj {f:Mem -> T -> Option PyData} {n:Nat}:∀ {ts:List T},(∀ t∈ts,∃ d,(∀ M:Mem,f M t=some d)/\Fit d n) -> ∃ ds,(∀ M:Mem,qBP (f M) ts=some ds)/\ds.length=ts.length/\∀ d∈ds,Fit d n
 | [],_=>⟨[],fun _=>rfl,rfl,fun d hd=>by simp at hd⟩
 | t::ts,h=>by
  obtain ⟨d,e1,f1⟩:=h t (by simp)
  obtain ⟨ds,e2,l2,f2⟩:=qCj (ts:=ts) fun t ht=>h t (by simp [ht])
  refine ⟨d::ds,fun M=>?_,by simp [l2],fun x hx=>?_⟩
  ·rw [qBP,e1 M,Option.bind_some,e2 M];rfl
  ·rcases List.mem_cons.mp hx with rfl | hx
   ·exact f1
   ·exact f2 x hx
noncomputable def Sx (t:T):Prop:=∃ d,(∀ M:Mem,qCN M 1 t=some d)/\Fit d 600
noncomputable def Sy (t:T):Prop:=∃ d,(∀ M:Mem,qCN M 2 t=some d)/\Fit d 2000
theorem qNM {i:Int} (h:Bd i):Sx (.v (.int i)):=⟨.int i,fun _=>rfl,(qEv h).mono (by decide)⟩
theorem qMv {x:Nat} (h:x<=1000):Bd (x:Int):=Nat.lt_of_le_of_lt (by simpa using h) (by decide)
theorem qNE {x:Nat} (h:x<=1000):Sx (N x):=qNM (qMv h)
theorem qLq:Sx (.v .non):=⟨.none,fun _=>rfl,rfl,by decide⟩
theorem qOg (b:Bool):Sx (.v (.bl b)):=⟨.bool b,fun _=>rfl,rfl,by cases b<;>decide⟩
theorem qOp:Sx (.v (.str "0")):=⟨.str "0",fun _=>rfl,rfl,by decide +kernel⟩
theorem qPa:Sx (.ob (.dct [])):=⟨.dict [],fun _=>rfl,rfl,by decide +kernel⟩
theorem qOw {x:Nat} (h:x<=1000):Sx (.lst [N x]):=⟨.list [.int x],fun _=>rfl,qDg (n:=200) (fun d hd=>by rw [List.mem_singleton.mp hd];exact qEv (qMv h)) (by simp)⟩
theorem qMl {ts:List T} (h:∀ t∈ts,Sx t) (hl:ts.length<=3):Sy (.tup ts):=by
 obtain ⟨ds,e,l,f⟩:=qCj (f:=fun M=>qCN M 1) h
 exact ⟨.tuple ds,fun M=>by show (qBP (qCN M 1) ts).map _=_;rw [e M];rfl,qEr f (by omega)⟩
theorem qPX {ts:List T} (h:∀ t∈ts,Sx t) (hl:ts.length<=3):Sy (.lst ts):=by
 obtain ⟨ds,e,l,f⟩:=qCj (f:=fun M=>qCN M 1) h
 exact ⟨.list ds,fun M=>by show (qBP (qCN M 1) ts).map _=_;rw [e M];rfl,qDg f (by omega)⟩
theorem qLP:Sy (.v .non):=⟨.none,fun _=>rfl,rfl,by decide⟩
theorem qOq {p:T -> Prop} {a:T} (h1:p a):∀ t∈[a],p t:=fun t ht=>by rw [List.mem_singleton.mp ht];exact h1
theorem qNK {p:T -> Prop} {a b:T} (h1:p a) (h2:p b):∀ t∈[a,b],p t:=fun t ht=>by
 simp only [List.mem_cons,List.not_mem_nil,or_false] at ht;rcases ht with rfl | rfl;exact h1;exact h2
theorem qPA {p:T -> Prop} {a b c:T} (h1:p a) (h2:p b) (h3:p c):∀ t∈[a,b,c],p t:=fun t ht=>by
 simp only [List.mem_cons,List.not_mem_nil,or_false] at ht;rcases ht with rfl | rfl | rfl;exact h1;exact h2;exact h3
theorem qJs {n:Nat} (hn:n<=100) {p:Stp} (h:OkS n p):Sy (sp p):=by
 have:=h.1
 have:=h.2.1
 exact qMl (qNK (qNE (by omega)) (qNE (by omega))) (by simp)
noncomputable def Sr (M:Mem) (u:T):Prop:=∃ d,qCN M 3 u=some d/\Fit d 300000
noncomputable def Sn (M:Mem) (t:T):Prop:=∃ x:Str,qBk M .repr [t]=some (.v (.str x),true)
theorem qL1 {M:Mem} {t:T} {ts:List T} (n:Nat) (h:IsS M t ts):qCN M (n + 1) t=(qBP (qCN M n) ts).map .list:=by
 rcases h with rfl | ⟨m,rfl,e⟩
 ·rfl
 ·show (M[m]?).bind _=_
  rw [e];rfl
theorem qOi {M:Mem} {u:T} {us:List T} (i:IsS M u us) (h:∀ t∈us,Sy t) (hl:us.length<=102):Sr M u:=by
 obtain ⟨ds,e,l,f⟩:=qCj (f:=fun M=>qCN M 2) h
 exact ⟨.list ds,by rw [qL1 2 i,e M];rfl,qDg f (by omega)⟩
theorem qPG {M:Mem} {us:List T} (h:∀ t∈us,Sy t) (hl:us.length<=102):Sr M (.tup us):=by
 obtain ⟨ds,e,l,f⟩:=qCj (f:=fun M=>qCN M 2) h
 exact ⟨.tuple ds,by show (qBP (qCN M 2) us).map _=_;rw [e M];rfl,qEr f (by omega)⟩
theorem qMC {M:Mem}:Sr M (.v .non):=⟨.none,rfl,rfl,by decide⟩
theorem qPb {M:Mem}:Sr M (.ob (.dct [])):=⟨.dict [],rfl,rfl,by decide +kernel⟩
theorem qPH {M:Mem}:Sr M (N 7):=⟨.int 7,rfl,(qEv (qMv (x:=7) (by decide))).mono (by decide)⟩
theorem qDn {M:Mem}:∀ {ts:List T},(∀ t∈ts,Sr M t) -> ∃ ds,qBP (qCN M 3) ts=some ds/\ds.length=ts.length/\∀ d∈ds,Fit d 300000
 | [],_=>⟨[],rfl,rfl,fun d hd=>by simp at hd⟩
 | t::ts,h=>by
  obtain ⟨d,e1,f1⟩:=h t (by simp)
  obtain ⟨ds,e2,l2,f2⟩:=qDn (ts:=ts) fun t ht=>h t (by simp [ht])
  refine ⟨d::ds,by rw [qBP,e1,Option.bind_some,e2];rfl,by simp [l2],fun x hx=>?_⟩
  rcases List.mem_cons.mp hx with rfl | hx
  ·exact f1
  ·exact f2 x hx
theorem qJr {M:Mem} {t:T} {d:PyData} {n:Nat} (h:qH2 M t=some d) (f:Fit d n) (hn:n<=16000000):Sn M t:=by
 refine ⟨d.shown,?_⟩
 show ((qH2 M t).bind qGH).map _=_
 rw [h,Option.bind_some]
 unfold qGH
 rw [if_pos ⟨f.1,Nat.le_trans f.2 (by rw [sizeLine_eq];omega)⟩];rfl
theorem qOn {M:Mem} {t:T} {ts:List T} (i:IsS M t ts) (h:∀ u∈ts,Sr M u) (hl:ts.length<=50):Sn M t:=by
 obtain ⟨ds,e,l,f⟩:=qDn h
 exact qJr (n:=16000000) (by show qCN M 4 t=_;rw [qL1 3 i,e];rfl) (qDg f (by omega)) (Nat.le_refl _)
theorem qPd {M:Mem} {ts:List T} (h:∀ u∈ts,Sr M u) (hl:ts.length<=50):Sn M (.tup ts):=by
 obtain ⟨ds,e,l,f⟩:=qDn h
 exact qJr (n:=16000000) (by show (qBP (qCN M 3) ts).map _=_;rw [e];rfl) (qEr f (by omega)) (Nat.le_refl _)
theorem qKp {M:Mem}:Sn M (.v .non):=qJr (d:=.none) (n:=600) rfl ⟨rfl,by decide⟩ (by decide)
theorem qD0 {M M':Mem} {nb:Nat} {u:T} {L:List Stp} (i:IsS M u (SL L)) (g:qER M nb) (kk:Kept nb M M'):IsS M' u (SL L):=by
 rcases i with h | ⟨c,h,e⟩
 ·exact .inl h
 ·refine .inr ⟨c,h,?_⟩
  rw [kk.oth c ?_]
  ·exact e
  ·rintro rfl
   obtain ⟨a,b,e',_⟩:=g
   rw [e] at e'
   cases L with
   | nil=>cases e'
   | cons p L=>cases e'
theorem qHZ {M M':Mem} {nb:Nat} (g:qER M nb) (kk:Kept nb M M'):∀ {ts:List T} {Ns:List (List Stp)},qBC (fun t L=>IsS M t (SL L)) ts Ns -> qBC (fun t L=>IsS M' t (SL L)) ts Ns:=fun h=>qBw (fun _ _ z=>qD0 z g kk) h
theorem qHp {M M':Mem} {nb:Nat} {t:T} {Ns:List (List Stp)} (i:IsN M t Ns) (g:qER M nb) (kk:Kept nb M M'):IsN M' t Ns:=by
 obtain ⟨ts,a,b⟩:=i
 refine ⟨ts,?_,qHZ g kk b⟩
 rcases a with h | ⟨c,h,e⟩
 ·exact .inl h
 ·refine .inr ⟨c,h,?_⟩
  rw [kk.oth c ?_]
  ·exact e
  ·rintro rfl
   obtain ⟨x,y,e',_⟩:=g
   rw [e] at e'
   cases e'
   obtain ⟨L,_,_,z,_⟩:=b
   rcases z with z | ⟨m,z,_⟩<;>cases z
theorem qIj {M:Mem} {n:Nat} (hn:n<=100) {u:T} {L:List Stp} (i:IsS M u (SL L)) (h:OkR n L):Sr M u:=qOi i (fun t ht=>by obtain ⟨p,hp,rfl⟩:=List.mem_map.mp ht;exact qJs hn (h.st p hp)) (by rw [qBM];have:=h.le;omega)
theorem qCR {α β:Type} {R:α -> β -> Prop}:∀ {xs:List α} {ys:List β},qBC R xs ys -> ∀ x∈xs,∃ y∈ys,R x y
 | [],_,_,x,hx=>by cases hx
 | a::xs,_,⟨b,ys,rfl,r,h⟩,x,hx=>by
  rcases List.mem_cons.mp hx with rfl | hx
  ·exact ⟨b,by simp,r⟩
  ·obtain ⟨y,hy,q⟩:=qCR h x hx
   exact ⟨y,by simp [hy],q⟩
noncomputable def qIh (a b u n:Nat):List T:=[.tup [N a,N a],.tup [N u,N b],.tup [N b,N u],.tup [N a,N n],.tup [.v (.int (-1)),N a],.tup [.v (.bl true),N b],.tup [N a,.v (.bl false)],.tup [N a]]++[.tup [N a,N b,N a],.lst [N a,N b],.v .non,.tup [N a,.v .non],.tup [.v (.str "0"),N b],.tup [N a,N (n + 1000000000000000000000000000000)]]++[.tup [.lst [N a],N b],.tup [N a,.ob (.dct [])],.tup [N a,N b]]
structure Od (o:T):Prop where
 ks:Ks o
 sy:Sy o
 un:o.und 0=true
theorem qFv {a b:T} (h1:Kn a) (h2:Kn b) (s1:Sx a) (s2:Sx b) (u1:a.und 0=true) (u2:b.und 0=true):Od (.tup [a,b]):=⟨.pair a b h1 h2,qMl (qNK s1 s2) (by simp),by unfold T.und T.unds T.unds T.unds;rw [u1,u2];rfl⟩
theorem qNm (b:Bool):Kn (.v (.bl b)):=⟨"bool",fun _=>rfl⟩
theorem qOR:Kn (.v .non):=⟨"NoneType",fun _=>rfl⟩
theorem qOl (x:Str):Kn (.v (.str x)):=⟨"str",fun _=>rfl⟩
theorem qOD (i:Int):Kn (.v (.int i)):=⟨"int",fun _=>rfl⟩
theorem qOy (ts:List T):Kn (.lst ts):=⟨"list",fun _=>rfl⟩
theorem qPl:Kn (.ob (.dct [])):=⟨"dict",fun _=>rfl⟩
theorem qE2 (x:V):(T.v x).und 0=true:=by rw [T.und]
theorem qMe {a b u n:Nat} (ha:a<=100) (hb:b<=100) (hu:u<=100) (hn:n<=100):∀ o∈qIh a b u n,Od o:=by
 have N1:=fun (x:Nat) (h:x<=100)=>qNE (x:=x) (by omega)
 intro o ho
 unfold qIh at ho
 simp only [List.cons_append,List.nil_append,List.mem_cons,List.not_mem_nil,or_false] at ho
 rcases ho with rfl | rfl | rfl | rfl | rfl | rfl | rfl | rfl | rfl | rfl | rfl | rfl | rfl | rfl | rfl | rfl | rfl
 ·exact qFv (qCS _) (qCS _) (N1 a ha) (N1 a ha) (qA9 _ _) (qA9 _ _)
 ·exact qFv (qCS _) (qCS _) (N1 u hu) (N1 b hb) (qA9 _ _) (qA9 _ _)
 ·exact qFv (qCS _) (qCS _) (N1 b hb) (N1 u hu) (qA9 _ _) (qA9 _ _)
 ·exact qFv (qCS _) (qCS _) (N1 a ha) (N1 n hn) (qA9 _ _) (qA9 _ _)
 ·exact qFv (qOD _) (qCS _) (qNM (show (-1:Int).natAbs < 2 ^ 110 by decide)) (N1 a ha) (qE2 _) (qA9 _ _)
 ·exact qFv (qNm _) (qCS _) (qOg _) (N1 b hb) (qE2 _) (qA9 _ _)
 ·exact qFv (qCS _) (qNm _) (N1 a ha) (qOg _) (qA9 _ _) (qE2 _)
 ·exact ⟨.len _ (by simp),qMl (qOq (N1 a ha)) (by simp),by unfold T.und;exact qCs 0 [a]⟩
 ·exact ⟨.len _ (by simp),qMl (qPA (N1 a ha) (N1 b hb) (N1 a ha)) (by simp),by unfold T.und;exact qCs 0 [a,b,a]⟩
 ·exact ⟨.oth _ "list" (fun _=>rfl) (by decide),qPX (qNK (N1 a ha) (N1 b hb)) (by simp),by unfold T.und;exact qCs 0 [a,b]⟩
 ·exact ⟨.oth _ "NoneType" (fun _=>rfl) (by decide),qLP,qE2 _⟩
 ·exact qFv (qCS _) qOR (N1 a ha) qLq (qA9 _ _) (qE2 _)
 ·exact qFv (qOl _) (qCS _) qOp (N1 b hb) (qE2 _) (qA9 _ _)
 ·exact qFv (qCS _) (qCS _) (N1 a ha) (qNM (show ((n + 1000000000000000000000000000000:Nat):Int).natAbs < 2 ^ 110 by rw [Int.natAbs_natCast];exact Nat.lt_of_le_of_lt (Nat.add_le_add_right hn _) (by decide))) (qA9 _ _) (qA9 _ _)
 ·exact qFv (qOy _) (qCS _) (qOw (by omega)) (N1 b hb) (by unfold T.und;exact qCs 0 [a]) (qA9 _ _)
 ·exact qFv (qCS _) qPl (N1 a ha) qPa (qA9 _ _) (by rw [T.und])
 ·exact qFv (qCS _) (qCS _) (N1 a ha) (N1 b hb) (qA9 _ _) (qA9 _ _)
section
variable {k:Nat}
theorem qNf {M:Mem} {u:T} {L:List Stp} (i:IsS M u (SL L)):qA0 M .ne u (.lst [])=some (!decide (L=[])):=by
 show (eqT M 4 u (.lst [])).map (!·)=_
 unfold eqT
 rw [i.nv,i.lis]
 show ((if (SL L).length=([]:List T).length then (qA3 (eqT M 3) (SL L) []).map fun bs=>bs.all id else some false).map (!·):Option Bool)=_
 cases L with
 | nil=>rfl
 | cons p L=>rfl
theorem odd (hk:2<=k) {M:Mem} {nb s:Nat} (h1:1<=s) (h5:s<=5) (g:qER M nb) {u:T} {L:List Stp} (i:IsS M u (SL L)) (hL:OkR (2 ^ s) L):∃ o fr M',Pk (glT gs) Fs Cs k 16 [.cell nb,u,N (2 ^ s)] M=.ok ((o,fr),M')/\Kept nb M M'/\Od o:=by
 have n5:=p5 h5
 have n2:2<=2 ^ s:=Nat.le_trans (by decide:2<=2 ^ 1) (Nat.pow_le_pow_right (by decide) h1)
 obtain ⟨a,M1,e1,ha,k1⟩:=out (k:=k - 1) (by omega) g (m:=2 ^ s) (by omega)
 obtain ⟨b,M2,e2,hb,k2⟩:=out (k:=k - 1) (by omega) k1.good (m:=2 ^ s - 1) (by omega)
 have i2:=qD0 i g (k1.trans k2)
 have lL:=hL.le
 obtain ⟨v,M3,k3,hv,e3⟩:∃ (v:Nat) (M3:Mem),Kept nb M2 M3/\v < 2 ^ s/\px (glT gs) (Pk (glT gs) Fs Cs (k - 1)) [] qH4 [some (.cell nb),some u,some (N (2 ^ s)),some (N a),some (N ((a + 1 + b) % 2 ^ s)),some (N a),none] M2=.ok (.nx [some (.cell nb),some u,some (N (2 ^ s)),some (N a),some (N ((a + 1 + b) % 2 ^ s)),some (N v),none],M3):=by
  have ne:=qNf i2
  by_cases hn:L=[]
  ·rw [decide_eq_true hn] at ne
   refine ⟨a,M2,⟨k2.good,rfl,fun _ _=>rfl⟩,ha,?_⟩
   rw [qH4]
   simp [ne]
  ·rw [decide_eq_false hn] at ne
   have lp:0 < L.length:=List.length_pos_iff.mpr hn
   obtain ⟨c,M4,e4,hc,k4⟩:=out (k:=k - 1) (by omega) k2.good (m:=L.length) (by omega)
   obtain ⟨j,M5,e5,hj,k5⟩:=out (k:=k - 1) (by omega) k4.good (m:=2) (by decide)
   have i4:=qD0 i2 k2.good k4
   have hp:(SL L)[c]?=some (sp L[c]):=by unfold SL;rw [List.getElem?_map,List.getElem?_eq_getElem hc];rfl
   have ix:qC3 M4 u (N c)=some (sp L[c],true):=by rw [i4.idx,hp,Option.map_some,qLh]
   have ok:=hL.st L[c] (List.getElem_mem _)
   have ln:=i2.len
   rw [qBM] at ln
   obtain ⟨v,hv,iv⟩:∃ v,v < 2 ^ s/\∀ M:Mem,qC3 M (sp L[c]) (N j)=some (N v,true):=by
    rcases (by omega:j=0\/j=1) with rfl | rfl
    ·exact ⟨_,ok.1,fun M=>by unfold sp;rw [qIw];simp⟩
    ·exact ⟨_,ok.2.1,fun M=>by unfold sp;rw [qIw];simp⟩
   refine ⟨v,M5,k4.trans k5,hv,?_⟩
   rw [qH4]
   simp [ne,ln,e4,ix,e5,iv]
 obtain ⟨d,M6,e6,hd,k6⟩:=out (k:=k - 1) (by omega) k3.good (m:=17) (by decide)
 have kk:=((k1.trans k2).trans k3).trans k6
 have md:∀ {M:Mem},qAq M .mod (N (a + 1 + b)) (N (2 ^ s))=some (N ((a + 1 + b) % 2 ^ s),true):=fun {M}=>qCZ (by omega)
 have sb:∀ {M:Mem},qAq M .sub (N (2 ^ s)) (N 1)=some (N (2 ^ s - 1),true):=fun {M}=>qI7 (by omega)
 have hw:=Nat.mod_lt (a + 1 + b) (show 0 < 2 ^ s by omega)
 generalize hww:(a + 1 + b) % 2 ^ s=w at *
 obtain ⟨o,ho⟩:∃ o,(qIh a w v (2 ^ s))[d]?=some o:=⟨_,List.getElem?_eq_getElem (by simpa [qIh] using hd)⟩
 have od:=qMe (a:=a) (b:=w) (u:=v) (n:=2 ^ s) (by omega) (by omega) (by omega) (by omega) o (List.mem_of_getElem? ho)
 have x0:px (glT gs) (Pk (glT gs) Fs Cs (k - 1)) [] qJU [some (.cell nb),some u,some (N (2 ^ s)),none,none,none,none] M=.ok (.nx [some (.cell nb),some u,some (N (2 ^ s)),some (N a),none,none,none],M1):=by
  rw [qJU];simp [e1]
 have x1:px (glT gs) (Pk (glT gs) Fs Cs (k - 1)) [] qKT [some (.cell nb),some u,some (N (2 ^ s)),some (N a),none,none,none] M1=.ok (.nx [some (.cell nb),some u,some (N (2 ^ s)),some (N a),some (N w),none,none],M2):=by
  rw [qKT];simp [sb,e2,md]
 have x2:px (glT gs) (Pk (glT gs) Fs Cs (k - 1)) [] qJj [some (.cell nb),some u,some (N (2 ^ s)),some (N a),some (N w),none,none] M2=.ok (.nx [some (.cell nb),some u,some (N (2 ^ s)),some (N a),some (N w),some (N a),none],M2):=by
  rw [qJj];simp
 have mi:∀ {M:Mem},qAq M .sub (N 0) (N 1)=some (.v (.int (-1)),true):=fun {M}=>rfl
 have pw:∀ {M:Mem},qAq M .pow (N 10) (N 30)=some (N 1000000000000000000000000000000,true):=fun {M}=>by rw [qGQ (by decide)]
 have x4:px (glT gs) (Pk (glT gs) Fs Cs (k - 1)) [] qKH [some (.cell nb),some u,some (N (2 ^ s)),some (N a),some (N w),some (N v),none] M3=.ok (.nx [some (.cell nb),some u,some (N (2 ^ s)),some (N a),some (N w),some (N v),some (.lst [.tup [N a,N a],.tup [N v,N w],.tup [N w,N v],.tup [N a,N (2 ^ s)],.tup [.v (.int (-1)),N a],.tup [.v (.bl true),N w],.tup [N a,.v (.bl false)],.tup [N a]])],M3):=by
  rw [qKH];simp [mi,lim]
 have x5:∀ A:List T,A.length=8 -> px (glT gs) (Pk (glT gs) Fs Cs (k - 1)) [] qKQ [some (.cell nb),some u,some (N (2 ^ s)),some (N a),some (N w),some (N v),some (.lst A)] M3=.ok (.nx [some (.cell nb),some u,some (N (2 ^ s)),some (N a),some (N w),some (N v),some (.lst (A++[.tup [N a,N w,N a],.lst [N a,N w],.v .non,.tup [N a,.v .non],.tup [.v (.str "0"),N w],.tup [N a,N (2 ^ s + 1000000000000000000000000000000)]]))],M3):=fun A hA=>by
  have ad:∀ B:List T,B.length=6 -> qAq M3 .add (.lst A) (.lst B)=some (lT (A++B)):=fun B hB=>qDQ (by rw [hA,hB];decide)
  have ex:∀ y:PySem.Str,pe (glT gs) (Pk (glT gs) Fs Cs (k - 1)) (.cst (V.str y)) [some (.cell nb),some u,some (N (2 ^ s)),some (N a),some (N w),some (N v),some (.lst A)] M3=.ok ((.v (.str y),true),M3):=fun y=>rfl
  rw [qKQ];simp [pw,lim,ad,lT,ex,-pe_str]
 have x6:∀ A:List T,A.length=14 -> px (glT gs) (Pk (glT gs) Fs Cs (k - 1)) [] qJq [some (.cell nb),some u,some (N (2 ^ s)),some (N a),some (N w),some (N v),some (.lst A)] M3=.ok (.nx [some (.cell nb),some u,some (N (2 ^ s)),some (N a),some (N w),some (N v),some (.lst (A++[.tup [.lst [N a],N w],.tup [N a,.ob (.dct [])],.tup [N a,N w]]))],M3):=fun A hA=>by
  have ad:∀ B:List T,B.length=3 -> qAq M3 .add (.lst A) (.lst B)=some (lT (A++B)):=fun B hB=>qDQ (by rw [hA,hB];decide)
  rw [qJq];simp [lim,ad,lT]
 have x7:px (glT gs) (Pk (glT gs) Fs Cs (k - 1)) [] qJ1 [some (.cell nb),some u,some (N (2 ^ s)),some (N a),some (N w),some (N v),some (.lst (qIh a w v (2 ^ s)))] M3=.ok (.rt (o,o.lf),M6):=by
  have ix:∀ {M:Mem},qC3 M (.lst (qIh a w v (2 ^ s))) (N d)=some (o,o.lf):=fun {M}=>by rw [qCx,ho];rfl
  generalize qIh a w v (2 ^ s)=A at *
  rw [qJ1];simp [e6,ix]
 refine ⟨o,o.lf,M6,?_,kk,od⟩
 rw [qAP t16 ⟨rfl,by decide⟩ (by omega),qMP,show Cs.getD 16 []=[] from rfl]
 show qC2 M.length (pxs _ _ _ _ [some (.cell nb),some u,some (N (2 ^ s)),none,none,none,none] M)=_
 have x7':=x7
 unfold qIh at x7'
 rw [qAi x0,qAi x1,qAi x2,qAi e3,qAi x4,qAi (x5 _ rfl),qAi (x6 _ rfl),qGv x7',qAA kk.len]
end
end My
namespace My
open PySem PySem.Spec PI
open L2 (V)
open Nt (Stp Sg OkS OkR qAt)
theorem qGp (n:Nat):OkR n []:=⟨fun p hp=>(by cases hp),List.nodup_nil,Nat.zero_le _⟩
theorem qNY {M:Mem} {t:T} {ts ys:List T} (i:IsS M t ts) (h:ts.length + ys.length<=lim):qAq M .add t (.lst ys)=some (lT (ts++ys)):=by
 rcases i with rfl | ⟨m,rfl,e⟩
 ·exact qDQ h
 ·show (M[m]?).bind _=_
  rw [e,Option.bind_some]
  show (if _ then _ else _)=_
  rw [if_pos h]
theorem qMF {M:Mem} {t:T} {ts:List T} (i:IsS M t ts):qBk M .tuple [t]=some (.tup ts,T.lfs ts):=by
 rcases i with rfl | ⟨m,rfl,e⟩
 ·rfl
 ·show (M[m]?).map _=_
  rw [e];rfl
theorem qKx {M:Mem} {t:T} {ts:List T} (i:IsS M t ts) (lo hi:Option Int):qIq t ts lo hi=some (lT (qFC ts lo hi)):=by
 rcases i with rfl | ⟨m,rfl,e⟩<;>rfl
noncomputable def Rw (Ns:List (List Stp)) (n q:Nat) (t:T) (L:List Stp):Prop:=OkR q L/\(t=.lst (SL L)\/∃ j,t=.cell (n + j)/\Ns[j]?=some L)
theorem Rw.isS {Ns:List (List Stp)} {n q:Nat} {t:T} {L:List Stp} (h:Rw Ns n q t L) {A R:Mem} (hA:A.length=n):IsS (A++(Ns.map SL++R)) t (SL L):=by
 rcases h.2 with e | ⟨j,e,hj⟩
 ·exact .inl e
 ·exact .inr ⟨_,e,by rw [<- hA];exact qB2 hj⟩
theorem qC8:∀ (L:List Stp) (n:Nat),T.unds n (SL L)=true
 | [],n=>by unfold SL;rw [List.map_nil,T.unds]
 | p::L,n=>by
  show T.unds n (sp p::SL L)=true
  rw [T.unds,qC8 L n]
  unfold sp
  rw [T.und]
  show (T.unds n ([p.1,p.2].map N)&&true)=true
  rw [qCs];rfl
theorem qEi:∀ {ts:List T} {n:Nat},T.unds n ts=true -> ∀ t∈ts,t.und n=true
 | [],n,_,t,h=>by cases h
 | u::ts,n,h,t,ht=>by
  rw [T.unds,Bool.and_eq_true] at h
  rcases List.mem_cons.mp ht with rfl | ht
  ·exact h.1
  ·exact qEi h.2 t ht
theorem qEy {n:Nat}:∀ {ts:List T},(∀ t∈ts,t.und n=true) -> T.unds n ts=true
 | [],_=>by rw [T.unds]
 | t::ts,h=>by rw [T.unds,h t (by simp),qEy fun x hx=>h x (by simp [hx])];rfl
theorem qEd {M:Mem} {n d:Nat} {t:T} (h:t.und n=true):qAJ M n d t=some t:=by
 cases d<;>(unfold qAJ;rw [if_pos h])
theorem qFK {M:Mem} {n d:Nat}:∀ {ts:List T},T.unds n ts=true -> ts.mapM (qAJ M n d)=some ts
 | [],_=>rfl
 | t::ts,h=>by
  rw [T.unds,Bool.and_eq_true] at h
  rw [List.mapM_cons,qEd h.1,qFK h.2];rfl
theorem Rw.res {Ns:List (List Stp)} {n q:Nat} {t:T} {L:List Stp} (h:Rw Ns n q t L) {A R:Mem} (hA:A.length=n):qAJ (A++(Ns.map SL++R)) n 5 t=some (.lst (SL L)):=by
 rcases h.2 with e | ⟨j,e,hj⟩
 ·rw [e];exact qEd (by rw [T.und];exact qC8 L n)
 ·rw [e]
  unfold qAJ
  rw [if_neg (by rw [T.und];simp)]
  dsimp only
  rw [<- hA,qB2 hj,Option.bind_some,qFK (qC8 L _)];rfl
theorem qI2 {MM:Mem} {n:Nat} {Q:T -> Prop}:∀ {R:List T},(∀ t∈R,∃ u,qAJ MM n 5 t=some u/\Q u) -> ∃ us,R.mapM (qAJ MM n 5)=some us/\us.length=R.length/\∀ u∈us,Q u
 | [],_=>⟨[],rfl,rfl,fun u hu=>by cases hu⟩
 | t::R,h=>by
  obtain ⟨u,e,q⟩:=h t (by simp)
  obtain ⟨us,e2,l,qs⟩:=qI2 (R:=R) fun t ht=>h t (by simp [ht])
  refine ⟨u::us,by rw [List.mapM_cons,e,e2];rfl,by simp [l],fun x hx=>?_⟩
  rcases List.mem_cons.mp hx with rfl | hx
  ·exact q
  ·exact qs x hx
theorem qGF {M A C:Mem} {Q:T -> Prop} {c:Nat} {R:List T} (hA:A.length=M.length) (hW:WfM A) (hc:(A++C)[c]?=some R) (hn:A.length<=c) (h:∀ t∈R,∃ u,qAJ (A++C) A.length 5 t=some u/\Q u) (f:Bool):∃ us f',qC2 M.length (.ok (.rt (.cell c,f),A++C))=.ok ((.lst us,f'),A)/\us.length=R.length/\∀ u∈us,Q u:=by
 obtain ⟨us,e,l,q⟩:=qI2 h
 refine ⟨us,f||frR (A++C) A.length (.cell c),?_,l,q⟩
 show PI.finish M.length _ _=_
 unfold PI.finish
 have hlt:=(List.getElem?_eq_some_iff.mp hc).1
 rw [List.length_append] at hlt
 rw [<- hA,if_neg (by rw [List.length_append];omega),List.take_left' rfl,if_pos (show A.all (T.unds A.length)=true from hW)]
 have r:qAJ (A++C) A.length 6 (.cell c)=some (.lst us):=by
  unfold qAJ
  rw [if_neg (by rw [T.und];simp;omega)]
  dsimp only
  rw [hc,Option.bind_some,e];rfl
 rw [r,PR.ofO_some,PR.bind_ok]
noncomputable def Q (A:Mem) (q:Nat) (u:T):Prop:=(∃ b,RB A q u b)/\Sr A u
theorem Q.row {A:Mem} {q:Nat} (hq:q<=100) {u:T} {L:List Stp} (i:IsS A u (SL L)) (h:OkR q L):Q A q u:=⟨⟨true,RB.good i h⟩,qIj hq i h⟩
theorem Q.net {A:Mem} {s:Nat} (h1:1<=s) (h5:s<=5) {t:T} {ts:List T} (i:IsS A t ts) (hl:ts.length<=50) (h:∀ u∈ts,Q A (2 ^ s) u):NB A s t/\Sn A t:=⟨NB.lst h1 h5 i (by omega) fun u hu=>(h u hu).1,qOn i (fun u hu=>(h u hu).2) hl⟩
theorem qPS {M:Mem} (a b:Nat):qAq M .sub (N a) (N b)=some (.v (.int ((a:Int) - b)),true):=rfl
theorem qKe {M:Mem} (a b:Nat) (ha:a<=1000) (hb:b<=1000):qL3 (.v (.int ((a:Int) - b)))=some ((List.range (a - b)).map N):=by
 unfold qL3
 dsimp only
 rw [if_pos (by omega),show ((a:Int) - b).toNat=a - b by omega,qEp]
section
variable {k:Nat}
theorem qJk (hk:2<=k) {M M1:Mem} {nb s w:Nat} (h1:1<=s) (h5:s<=5) {t:T} {Ns:List (List Stp)} (i:IsN M1 t Ns) (hN:∀ L∈Ns,OkR (2 ^ s) L) (hl:Ns.length<=40) (hw:w < 4):∃ u fr,px (glT gs) (Pk (glT gs) Fs Cs (k - 1)) [5] qGc [some (.cell nb),some (N s),some t,some (N w),none,none,none,none] M1=.ok (.rt (u,fr),M1)/\NB M1 s u/\Sn M1 u:=by
 obtain ⟨ts,a,b⟩:=i
 have n5:=p5 h5
 have lt:ts.length=Ns.length:=qAB b
 have qr:∀ u∈ts,Q M1 (2 ^ s) u:=fun u hu=>by
  obtain ⟨L,hL,r⟩:=qCR b u hu
  exact Q.row (by omega) r (hN L hL)
 obtain ⟨v,ev,hv,hvv⟩:∃ v,([N 0,N 0,N 41,N 40]:List T)[w]?=some (N v)/\v<=41/\(2<=w -> 40<=v):=by
  rcases (by omega:w=0\/w=1\/w=2\/w=3) with rfl | rfl | rfl | rfl<;>exact ⟨_,rfl,by decide,by decide⟩
 have ln:=a.len
 have sb:=qPS (M:=M1) v ts.length
 have rg:=qKe (M:=M1) v ts.length (by omega) (by omega)
 have c:=qDO (d:=[]) (gl:=glT gs) (P:=Pk (glT gs) Fs Cs (k - 1)) (e:=pe (glT gs) (Pk (glT gs) Fs Cs (k - 1)) (.lst .nil)) (σ:=[]) (M:=M1) (fun _=>T.lst []) (fun _=>true) rfl ((List.range (v - ts.length)).map N) [] true none (by simp [lim];omega) (fun u hu=>by simp [lim])
 rw [List.nil_append,show (((List.range (v - ts.length)).map N).all fun _=>true)=true from List.all_eq_true.mpr fun _ _=>rfl,Bool.and_self] at c
 generalize hE:(((List.range (v - ts.length)).map N).map fun _=>T.lst [])=E at *
 have lE:E.length=v - ts.length:=by rw [<- hE];simp
 have mE:∀ u∈E,u=T.lst (SL []):=fun u hu=>by rw [<- hE] at hu;obtain ⟨_,_,rfl⟩:=List.mem_map.mp hu;rfl
 have ad:qAq M1 .add t (.lst E)=some (lT (ts++E)):=qNY a (by simp [lim];omega)
 have tp:=qMF a
 obtain ⟨u,hu,nb1,sn1⟩:∃ u,([T.tup ts,T.v .non,T.lst (ts++E),T.lst (ts++E)]:List T)[w]?=some u/\NB M1 s u/\Sn M1 u:=by
  have q2:NB M1 s (T.lst (ts++E))/\Sn M1 (T.lst (ts++E)):=Q.net h1 h5 (.inl rfl) (by rw [List.length_append];omega) fun u hu=>by
   rcases List.mem_append.mp hu with h | h
   ·exact qr u h
   ·rw [mE u h];exact Q.row (L:=[]) (by omega) (.inl rfl) (qGp _)
  rcases (by omega:w=0\/w=1\/w=2\/w=3) with rfl | rfl | rfl | rfl
  ·exact ⟨_,rfl,⟨false,fun k hk=>qLd hk h1 h5 (ty:="tuple") rfl (by decide)⟩,qPd (fun u hu=>(qr u hu).2) (by omega)⟩
  ·exact ⟨_,rfl,⟨false,fun k hk=>qLd hk h1 h5 (ty:="NoneType") rfl (by decide)⟩,qKp⟩
  ·exact ⟨_,rfl,q2⟩
  ·exact ⟨_,rfl,q2⟩
 refine ⟨u,u.lf,?_,nb1,sn1⟩
 rw [qGc]
 have lt4:∀ {M:Mem},qA0 M .lt (N w) (N 4)=some true:=fun {M}=>by rw [qF6,decide_eq_true hw]
 simp only [lT] at ad
 simp [lt4,ev,ln,-qDA,sb,rg,c,tp,ad,hu,lim,-qA1]
end
end My
namespace My
open PySem PySem.Spec PI
open L2 (V)
open Nt (Stp Sg OkS OkR qAt)
section
variable {k:Nat}
theorem qPT {M:Mem} {nb s w:Nat} {t:T} {Ns:List (List Stp)} (i:IsN M t Ns) (hl:Ns.length<=40):px (glT gs) (Pk (glT gs) Fs Cs k) [5] qJw [some (.cell nb),some (N s),some t,some (N w),none,none,none,none] M=.ok (.nx [some (.cell nb),some (N s),some t,some (N w),none,some (.cell (M.length + Ns.length)),none,none],M++(Ns.map SL++[cl M.length Ns.length])):=by
 obtain ⟨ts,a,b⟩:=i
 have lt:ts.length=Ns.length:=qAB b
 obtain ⟨d,s1,s3,s2⟩:=a.src
 have s2':=s2 []
 rw [List.append_nil] at s2'
 have go:∀ {ts:List T} {Ns:List (List Stp)},qBC (fun t L=>IsS M t (SL L)) ts Ns -> ∀ (ys:List T) (o:Option T),ys.length + ts.length<=lim -> qA4 d (.name 0) (pec (glT gs) (Pk (glT gs) Fs Cs k) .nil) (pe (glT gs) (Pk (glT gs) Fs Cs k) (.blt .list (.cons (.var 0) .nil))) ts ys true [o] M=.ok ((.lst (ys++Ns.map fun L=>T.lst (SL L)),true),M):=by
  intro ts
  induction ts with
  | nil=>
   intro Ns h ys o hl
   have h:Ns=[]:=h
   subst h
   simp [qA4]
  | cons u ts ih=>
   rintro Ns ⟨L,Ns',rfl,r,h⟩ ys o hl
   simp at hl
   have ls:=r.list
   rw [show lT (SL L)=(.lst (SL L),true) by unfold lT;rw [qHi]] at ls
   have:=ih h (ys++[T.lst (SL L)]) (some u) (by simp;omega)
   rw [qA4,show qBE (.name 0) u [o]=some [some u] from rfl]
   simp [-qA1] at this
   simp [ls,s2',show ys.length < lim by omega]
   exact this
 have c:=go b [] none (by simp [lim];omega)
 rw [List.nil_append] at c
 have th:=qFG M.length Ns
 generalize (Ns.map fun L=>T.lst (SL L))=X at *
 rw [qJw]
 simp [s1,s3,c,th,-qA1]
theorem qL9 {Ns:List (List Stp)} {n q:Nat} (hN:∀ L∈Ns,OkR q L):∀ t∈cl n Ns.length,∃ L,Rw Ns n q t L:=by
 intro t ht
 unfold cl at ht
 obtain ⟨j,hj,rfl⟩:=List.mem_map.mp ht
 rw [List.mem_range'] at hj
 obtain ⟨m,hm,rfl⟩:=hj
 exact ⟨Ns[m],hN _ (List.getElem_mem _),.inr ⟨m,by rw [Nat.one_mul],List.getElem?_eq_getElem hm⟩⟩
theorem more {M:Mem} {nb s w q:Nat} {t:T} {Ns:List (List Stp)} (hN:∀ L∈Ns,OkR q L) (hl:Ns.length<=40):∃ R:List T,px (glT gs) (Pk (glT gs) Fs Cs k) [5] qIK [some (.cell nb),some (N s),some t,some (N w),none,some (.cell (M.length + Ns.length)),none,none] (M++(Ns.map SL++[cl M.length Ns.length]))=.ok (.nx [some (.cell nb),some (N s),some t,some (N w),none,some (.cell (M.length + Ns.length)),none,none],M++(Ns.map SL++[R]))/\(∀ t∈R,∃ L,Rw Ns M.length q t L)/\1<=R.length/\R.length<=40:=by
 have g0:(M++(Ns.map SL++[cl M.length Ns.length]))[M.length + Ns.length]?=some (cl M.length Ns.length):=qBj 0
 have ln:=(IsS.len (.inr ⟨_,rfl,g0⟩:IsS (M++(Ns.map SL++[cl M.length Ns.length])) (.cell (M.length + Ns.length)) (cl M.length Ns.length)))
 rw [qDM] at ln
 by_cases h:Ns.length < 40
 ·refine ⟨cl M.length Ns.length++[.lst []],?_,fun t ht=>?_,by simp,by rw [List.length_append,qDM];simp;omega⟩
  ·have ap:=qJW (x:=T.lst []) g0 (by rw [qDM];exact Nat.lt_of_lt_of_le h (by decide))
   rw [show (M++(Ns.map SL++[cl M.length Ns.length])).set (M.length + Ns.length) (cl M.length Ns.length++[.lst []])=M++(Ns.map SL++[cl M.length Ns.length++[.lst []]]) from qFI 0 _] at ap
   have lt4:∀ {M:Mem},qA0 M .lt (N Ns.length) (N 40)=some true:=fun {M}=>by rw [qF6,decide_eq_true h]
   generalize (M++(Ns.map SL++[cl M.length Ns.length]))=MM at *
   generalize (M++(Ns.map SL++[cl M.length Ns.length++[.lst []]]))=MM2 at *
   rw [qIK]
   simp [ln,-qDA,lt4,ap,lim]
  ·rcases List.mem_append.mp ht with h | h
   ·exact qL9 hN t h
   ·rw [List.mem_singleton.mp h];exact ⟨[],qGp _,.inl rfl⟩
 ·refine ⟨cl M.length Ns.length,?_,qL9 hN,by rw [qDM];omega,by rw [qDM];omega⟩
  have lt4:∀ {M:Mem},qA0 M .lt (N Ns.length) (N 40)=some false:=fun {M}=>by rw [qF6,decide_eq_false h]
  generalize (M++(Ns.map SL++[cl M.length Ns.length]))=MM at *
  rw [qIK]
  simp [ln,-qDA,lt4]
theorem qPJ (hk:3<=k) {A:Mem} {nb s w d:Nat} (hw:4<=w) (hw2:w < 20) (h1:1<=s) (h5:s<=5) (g:qER A nb) {t:T} {Ns:List (List Stp)} {R:List T} (hR:∀ t∈R,∃ L,Rw Ns A.length (2 ^ s) t L) (hd:d < R.length) (hRl:R.length<=40):∃ (x:T) (o7:Option T) (A2:Mem),px (glT gs) (Pk (glT gs) Fs Cs (k - 1)) [5] qHl [some (.cell nb),some (N s),some t,some (N w),none,some (.cell (A.length + Ns.length)),some (N d),none] (A++(Ns.map SL++[R]))=.ok (.nx [some (.cell nb),some (N s),some t,some (N w),none,some (.cell (A.length + Ns.length)),some (N d),o7],A2++(Ns.map SL++[R.set d x]))/\Kept nb A A2/\x.und 0=true/\Q A2 (2 ^ s) x:=by
 have n5:=p5 h5
 have nbA:nb < A.length:=by obtain ⟨_,_,e,_⟩:=g;exact (List.getElem?_eq_some_iff.mp e).1
 obtain ⟨L,hL⟩:=hR R[d] (List.getElem_mem _)
 have gr:R[d]?=some R[d]:=List.getElem?_eq_getElem hd
 generalize R[d]=r at *
 have g0:∀ B:Mem,B.length=A.length -> (B++(Ns.map SL++[R]))[A.length + Ns.length]?=some R:=fun B hB=>by rw [<- hB];exact qBj 0
 have ix:∀ B:Mem,B.length=A.length -> qC3 (B++(Ns.map SL++[R])) (.cell (A.length + Ns.length)) (N d)=some (r,r.lf):=fun B hB=>by rw [qLi _ (g0 B hB),gr];rfl
 have iS:∀ B:Mem,B.length=A.length -> IsS (B++(Ns.map SL++[R])) r (SL L):=fun B hB=>hL.isS hB
 have pt:∀ (B:Mem) (x:T),B.length=A.length -> qML (B++(Ns.map SL++[R])) (.cell (A.length + Ns.length)) (N d) x=some (B++(Ns.map SL++[R.set d x])):=fun B x hB=>by
  rw [qLs (g0 B hB) hd,<- hB];congr 1;exact qFI 0 _
 have oL:=hL.1
 have lL:=oL.le
 by_cases h7:w < 7
 ·have md:∀ {M:Mem},qAq M .mod (N d) (N 2)=some (N (d % 2),true):=fun {M}=>qCZ (by decide)
  have sb:∀ {M:Mem},qAq M .sub (N w) (N 4)=some (N (w - 4),true):=fun {M}=>qI7 hw
  obtain ⟨y,hy,uy,qy⟩:∃ y,([T.v .non,.ob (.dct [])]:List T)[d % 2]?=some y/\y.und 0=true/\Q A (2 ^ s) y:=by
   rcases (by omega:d % 2=0\/d % 2=1) with e | e<;>rw [e]
   ·exact ⟨_,rfl,qE2 _,⟨false,RB.oth (ty:="NoneType") rfl (by decide)⟩,qMC⟩
   ·exact ⟨_,rfl,by rw [T.und],⟨false,RB.oth (ty:="dict") rfl (by decide)⟩,qPb⟩
  obtain ⟨x,hx,ux,qx⟩:∃ x,([T.tup (SL L),y,N 7]:List T)[w - 4]?=some x/\x.und 0=true/\Q A (2 ^ s) x:=by
   rcases (by omega:w=4\/w=5\/w=6) with rfl | rfl | rfl
   ·exact ⟨_,rfl,by rw [T.und];exact qC8 L 0,⟨false,RB.oth (ty:="tuple") rfl (by decide)⟩,qPG (fun t ht=>by obtain ⟨p,hp,rfl⟩:=List.mem_map.mp ht;exact qJs (by omega) (oL.st p hp)) (by rw [qBM];omega)⟩
   ·exact ⟨_,rfl,uy,qy⟩
   ·exact ⟨_,rfl,qA9 _ _,⟨false,RB.oth (ty:="int") rfl (by decide)⟩,qPH⟩
  refine ⟨x,none,A,?_,⟨g,rfl,fun _ _=>rfl⟩,ux,qx⟩
  have lt7:∀ {M:Mem},qA0 M .lt (N w) (N 7)=some true:=fun {M}=>by rw [qF6,decide_eq_true h7]
  have ix:=ix A rfl
  have tp:=qMF (iS A rfl)
  have pt:=pt A x rfl
  generalize (A++(Ns.map SL++[R.set d x]))=MM2 at *
  generalize (A++(Ns.map SL++[R]))=MM at *
  rw [qHl]
  simp [lt7,ix,tp,md,hy,sb,hx,lim,pt,-qLW,-qKa]
 ·have lt7:∀ {M:Mem},qA0 M .lt (N w) (N 7)=some false:=fun {M}=>by rw [qF6,decide_eq_false h7]
  have gC:qER (A++(Ns.map SL++[R])) nb:=qA5 g
  obtain ⟨e,M1,e1,he,k1⟩:=out (k:=k - 1) (by omega) gC (m:=L.length + 1) (by omega)
  obtain ⟨A1,rfl,j1⟩:=qAg nbA k1
  obtain ⟨o,fo,M2,e2,k2,od⟩:=odd (k:=k - 1) (by omega) h1 h5 (qA5 (C:=Ns.map SL++[R]) j1.good) (iS A1 j1.len) oL
  obtain ⟨A2,rfl,j2⟩:=qAg (by rw [j1.len];exact nbA) k2
  have l2:A2.length=A.length:=j2.len.trans j1.len
  have sh:∀ {M:Mem},qAq M .shl (N 1) (N s)=some (N (2 ^ s),true):=fun {M}=>by rw [qG2 (by omega),Nat.one_mul]
  have le1:e<=(SL L).length:=by rw [qBM];omega
  have ad1:∀ {M:Mem},qAq M .add (.lst ((SL L).take e)) (.lst [o])=some (lT ((SL L).take e++[o])):=fun {M}=>qDQ (by rw [List.length_take,qBM];show _ + 1<=100000;omega)
  have ad2:∀ {M:Mem},qAq M .add (.lst ((SL L).take e++[o])) (.lst ((SL L).drop e))=some (lT ((SL L).take e++[o]++(SL L).drop e)):=fun {M}=>qDQ (by rw [List.length_append,List.length_take,List.length_drop,qBM];show _ + 1 + _<=100000;omega)
  have mem:∀ u∈(SL L).take e++[o]++(SL L).drop e,(∃ p∈L,u=sp p)\/u=o:=fun u hu=>by
   have sl:∀ u∈SL L,(∃ p∈L,u=sp p)\/u=o:=fun u hu=>by obtain ⟨p,hp,rfl⟩:=List.mem_map.mp hu;exact .inl ⟨p,hp,rfl⟩
   rcases List.mem_append.mp hu with h | h
   ·rcases List.mem_append.mp h with h | h
    ·exact sl u (List.mem_of_mem_take h)
    ·exact .inr (List.mem_singleton.mp h)
   ·exact sl u (List.mem_of_mem_drop h)
  have lx:((SL L).take e++[o]++(SL L).drop e).length=L.length + 1:=by simp [qBM];omega
  refine ⟨.lst ((SL L).take e++[o]++(SL L).drop e),some (N e),A2,?_,j1.trans j2,?_,⟨_,RB.lst (.inl rfl) (fun u hu=>?_) (by omega)⟩,qOi (.inl rfl) (fun u hu=>?_) (by omega)⟩
  ·have ix0:=ix A rfl
   have ix1:=ix A1 j1.len
   have ix2:=ix A2 l2
   have ln0:=(iS A rfl).len
   rw [qBM] at ln0
   have it1:=(iS A1 j1.len).its
   have it2:=(iS A2 l2).its
   have sm:=qKx (iS A rfl)
   have pt:=pt A2 (.lst ((SL L).take e++[o]++(SL L).drop e)) l2
   have c1:=qGi le1
   have c2:=qGY le1
   generalize (SL L).take e=X at *
   generalize (SL L).drop e=Y at *
   generalize SL L=Z at *
   generalize (A2++(Ns.map SL++[R.set d (.lst (X++[o]++Y))]))=MM3 at *
   generalize (A++(Ns.map SL++[R]))=MM at *
   generalize (A1++(Ns.map SL++[R]))=MM1 at *
   generalize (A2++(Ns.map SL++[R]))=MM2 at *
   rw [qHl]
   simp only [lT] at ad1 ad2 sm
   simp [lt7,ix0,ln0,-qDA,e1,ix1,it1,sm,c1,sh,e2,lim,ad1,ix2,it2,c2,ad2,pt,lT,-qLW,-qKa,-List.append_assoc]
  ·rw [T.und]
   refine qEy fun u hu=>?_
   rcases mem u hu with ⟨p,hp,rfl⟩ | rfl
   ·exact qEi (qC8 L 0) _ (List.mem_map_of_mem hp)
   ·exact od.un
  ·rcases mem u hu with ⟨p,hp,rfl⟩ | rfl
   ·exact qKI p
   ·exact od.ks
  ·rcases mem u hu with ⟨p,hp,rfl⟩ | rfl
   ·exact qJs (by omega) (oL.st p hp)
   ·exact od.sy
theorem qKs (hk:4<=k) {M:Mem} {nb s:Nat} (h1:1<=s) (h5:s<=5) (hW:WfM M) (g:qER M nb) {t:T} {Ns:List (List Stp)} (i:IsN M t Ns) (hN:∀ L∈Ns,OkR (2 ^ s) L) (hl:Ns.length<=40):∃ u fr M',Pk (glT gs) Fs Cs k 17 [.cell nb,N s,t] M=.ok ((u,fr),M')/\Kept nb M M'/\NB M' s u/\Sn M' u:=by
 obtain ⟨w,M1,e1,hw,k1⟩:=out (k:=k - 1) (by omega) g (m:=20) (by decide)
 have i1:=qHp i g k1
 have W1:=qBG hW k1
 have x0:px (glT gs) (Pk (glT gs) Fs Cs (k - 1)) [5] qKU [some (.cell nb),some (N s),some t,none,none,none,none,none] M=.ok (.nx [some (.cell nb),some (N s),some t,some (N w),none,none,none,none],M1):=by
  rw [qKU];simp [e1]
 rw [qAP t17 ⟨rfl,by decide⟩ (by omega),qL4,show Cs.getD 17 []=[5] from rfl]
 show ∃ u fr M',qC2 M.length (pxs _ _ _ _ [some (.cell nb),some (N s),some t,none,none,none,none,none] M)=_/\_
 rw [qAi x0]
 by_cases h4:w < 4
 ·obtain ⟨u,fr,e,a,b⟩:=qJk (k:=k) (M:=M) (nb:=nb) (by omega) h1 h5 i1 hN hl h4
  exact ⟨u,fr,M1,by rw [qGv e,qAA k1.len],k1,a,b⟩
 ·have lt4:∀ {M:Mem},qA0 M .lt (N w) (N 4)=some false:=fun {M}=>by rw [qF6,decide_eq_false h4]
  have x1:px (glT gs) (Pk (glT gs) Fs Cs (k - 1)) [5] qGc [some (.cell nb),some (N s),some t,some (N w),none,none,none,none] M1=.ok (.nx [some (.cell nb),some (N s),some t,some (N w),none,none,none,none],M1):=by
   rw [qGc];simp [lt4]
  have x2:=qPT (k:=k - 1) (nb:=nb) (s:=s) (w:=w) i1 hl
  obtain ⟨R,x3,hR,l1,l2⟩:=more (k:=k - 1) (M:=M1) (nb:=nb) (s:=s) (w:=w) (t:=t) hN hl
  have nbM:nb < M1.length:=by obtain ⟨_,_,e,_⟩:=k1.good;exact (List.getElem?_eq_some_iff.mp e).1
  obtain ⟨d,M2,e2,hd,k2⟩:=out (k:=k - 1) (by omega) (qA5 (C:=Ns.map SL++[R]) k1.good) (m:=R.length) (by omega)
  obtain ⟨A,rfl,j2⟩:=qAg nbM k2
  have x4:px (glT gs) (Pk (glT gs) Fs Cs (k - 1)) [5] qKf [some (.cell nb),some (N s),some t,some (N w),none,some (.cell (M1.length + Ns.length)),none,none] (M1++(Ns.map SL++[R]))=.ok (.nx [some (.cell nb),some (N s),some t,some (N w),none,some (.cell (M1.length + Ns.length)),some (N d),none],A++(Ns.map SL++[R])):=by
   have ln:qBk (M1++(Ns.map SL++[R])) .len [.cell (M1.length + Ns.length)]=some (N R.length,true):=IsS.len (.inr ⟨_,rfl,qBj 0⟩)
   generalize (M1++(Ns.map SL++[R]))=MM at *
   generalize (A++(Ns.map SL++[R]))=MM1 at *
   rw [qKf];simp [ln,-qDA,e2]
  rw [<- j2.len] at hR
  obtain ⟨x,o7,A2,x5,j5,ux,qx⟩:=qPJ (k:=k) (by omega) (by omega) hw h1 h5 j2.good (t:=t) hR hd l2
  have kk:=(k1.trans j2).trans j5
  have la:A2.length=A.length:=j5.len
  have mm:∀ u∈R.set d x,∃ v,qAJ (A2++(Ns.map SL++[R.set d x])) A2.length 5 u=some v/\Q A2 (2 ^ s) v:=fun u hu=>by
   rcases List.mem_or_eq_of_mem_set hu with h | rfl
   ·obtain ⟨L,hL⟩:=hR u h
    have:=hL.res (A:=A2) (R:=[R.set d x]) la
    rw [<- la] at this
    exact ⟨_,this,Q.row (by have:=p5 h5;omega) (.inl rfl) hL.1⟩
   ·exact ⟨u,qEd (qFn (Nat.zero_le _) u ux),qx⟩
  have gc:(A2++(Ns.map SL++[R.set d x]))[A2.length + Ns.length]?=some (R.set d x):=qBj 0
  obtain ⟨us,f',ef,lu,qu⟩:=qGF (M:=M) kk.len (qBG hW kk) gc (by omega) mm false
  rw [List.length_set] at lu
  have q:=Q.net h1 h5 (.inl rfl:IsS A2 (.lst us) us) (by omega) qu
  refine ⟨.lst us,f',A2,?_,kk,q⟩
  have x6:px (glT gs) (Pk (glT gs) Fs Cs (k - 1)) [5] qKh [some (.cell nb),some (N s),some t,some (N w),none,some (.cell (A.length + Ns.length)),some (N d),o7] (A2++(Ns.map SL++[R.set d x]))=.ok (.rt (.cell (A2.length + Ns.length),false),A2++(Ns.map SL++[R.set d x])):=by
   rw [qKh,la];simp
  rw [qAi x1,qAi x2,qAi x3,qAi x4,<- j2.len,qAi x5,qGv x6]
  exact ef
end
end My
namespace My
open PySem PySem.Spec PI
open L2 (V)
open Nt (Stp Sg OkS OkR qAt)
noncomputable def d_0:S:=(.asg (.name 2) (.call 8 (.cons (.var 0) (.cons (.var 1) .nil))))
noncomputable def d_1:S:=(.asg (.name 3) (.bin .add (nE 1) (.call 9 (.cons (.var 2) (.cons (nE 5) .nil)))))
noncomputable def d_2:S:=(.asg (.name 4) (.call 12 (.cons (.var 2) (.cons (.var 3) .nil))))
noncomputable def d_3:S:=(.asg (.name 5) (.call 17 (.cons (.var 2) (.cons (.var 3) (.cons (.var 4) .nil)))))
noncomputable def d_4:S:=(.asg (.name 6) (.lst (.cons (.blt .repr (.cons (.var 4) .nil)) (.cons (.blt .repr (.cons (.var 5) .nil)) .nil))))
noncomputable def d_5:S:=(.ifs (.or (.not (.call 18 (.cons (.call 5 (.cons (.var 3) (.cons (.var 4) .nil))) (.cons (.cst (V.bl true)) .nil)))) (.not (.call 18 (.cons (.call 5 (.cons (.var 3) (.cons (.var 5) .nil))) (.cons (.call 15 (.cons (.var 3) (.cons (.var 5) .nil))) .nil))))) (.cons (.ret (.cst (V.bl false))) .nil) .nil)
noncomputable def d_6:S:=(.ifs (.or (.not (.call 18 (.cons (.call 5 (.cons (.var 3) (.cons (.var 4) .nil))) (.cons (.cst (V.bl true)) .nil)))) (.cmp .ne (.lst (.cons (.blt .repr (.cons (.var 4) .nil)) (.cons (.blt .repr (.cons (.var 5) .nil)) .nil))) (.var 6))) (.cons (.ret (.cst (V.bl false))) .nil) .nil)
noncomputable def d_7:S:=(.ifs (.not (.call 19 (.cons (.var 2) (.cons (.idx (.lst (.cons (.var 4) (.cons (.var 5) .nil))) (.call 9 (.cons (.var 2) (.cons (nE 2) .nil)))) .nil)))) (.cons (.ret (.cst (V.bl false))) .nil) .nil)
noncomputable def d_8:S:=(.ifs (.cmp .ne (.var 4) (.lst .nil)) (.cons (.expr (.app (.idx (.var 4) (nE 0)) (nE 7))) (.cons (.ifs (.not (.call 18 (.cons (.call 5 (.cons (.var 3) (.cons (.var 4) .nil))) (.cons (.cst (V.bl false)) .nil)))) (.cons (.ret (.cst (V.bl false))) .nil) .nil) .nil)) .nil)
theorem qOu:qII=(.cons d_0 (.cons d_1 (.cons d_2 (.cons d_3 (.cons d_4 (.cons d_5 (.cons d_6 (.cons d_7 (.cons d_8 .nil))))))))):=rfl
theorem qMQ {M:Mem} {j:Nat} (h:WfM M) {c:List T} (hc:T.unds M.length c=true):WfM (M.set j c):=by
 unfold WfM at *
 rw [List.all_eq_true] at h ⊢
 intro d hd
 rw [List.length_set]
 rcases List.mem_or_eq_of_mem_set hd with z | rfl
 ·exact h d z
 ·exact hc
theorem qPg {A:Mem} (h:WfM A) {Ns:List (List Stp)} {R:Mem} (u:∀ c∈R,T.unds (A.length + Ns.length + R.length) c=true):WfM (A++(Ns.map SL++R)):=h.app fun c hc=>by
 rcases List.mem_append.mp hc with z | z
 ·obtain ⟨L,_,rfl⟩:=List.mem_map.mp z
  exact qDl _ _ (qHi L)
 ·have:=u c z
  rw [show (A++(Ns.map SL++R)).length=A.length + Ns.length + R.length by simp;omega]
  exact this
section
variable {k:Nat}
theorem z5 (hk:4<=k) {t:T} (h:Kn t) (hs:szT t=false) (x:T) (M:Mem):Pk (glT gs) Fs Cs k 5 [t,x] M=.exc 1 M:=by
 rw [qAP t5 ⟨rfl,by decide⟩ (by omega),b5,show Cs.getD 5 []=[] from rfl]
 have e:=z4 (k:=k - 1) (by omega) h hs M
 simp [e,bind_exc,qEb]
noncomputable def szs:List T:=[N 0,N 6,.v (.int (-1)),.v (.bl true),.v .non,.v (.str "2"),.tup [N 2],N 1000000000000000000000000000000]
theorem qJd:∀ t∈szs,Kn t/\szT t=false:=by
 intro t ht
 simp only [szs,List.mem_cons,List.not_mem_nil,or_false] at ht
 rcases ht with rfl | rfl | rfl | rfl | rfl | rfl | rfl | rfl
 ·exact ⟨qCS _,rfl⟩
 ·exact ⟨qCS _,rfl⟩
 ·exact ⟨qOD _,rfl⟩
 ·exact ⟨qNm _,rfl⟩
 ·exact ⟨qOR,rfl⟩
 ·exact ⟨qOl _,rfl⟩
 ·exact ⟨⟨"tuple",fun _=>rfl⟩,rfl⟩
 ·exact ⟨qCS _,rfl⟩
theorem qLv (hk:5<=k) {M:Mem} {nb:Nat} (g:qER M nb) (x:T):∃ M',Pk (glT gs) Fs Cs k 19 [.cell nb,x] M=.ok (bT true,M')/\Kept nb M M':=by
 obtain ⟨d,M1,e1,hd,k1⟩:=out (k:=k - 1) (by omega) g (m:=8) (by decide)
 obtain ⟨t,ht⟩:∃ t,szs[d]?=some t:=⟨_,List.getElem?_eq_getElem (by simpa [szs] using hd)⟩
 obtain ⟨kt,st⟩:=qJd t (List.mem_of_getElem? ht)
 have e5:=z5 (k:=k - 1) (by omega) kt st x M1
 refine ⟨M1,?_,k1⟩
 rw [qAP t19 ⟨rfl,by decide⟩ (by omega),b19,show Cs.getD 19 []=[] from rfl]
 have sb:∀ {M:Mem},qAq M .sub (N 0) (N 1)=some (.v (.int (-1)),true):=fun {M}=>rfl
 have pw:∀ {M:Mem},qAq M .pow (N 10) (N 30)=some (N 1000000000000000000000000000000,true):=fun {M}=>by rw [qGQ (by decide)]
 have ix:∀ {M:Mem},qC3 M (.lst [N 0,N 6,.v (.int (-1)),.v (.bl true),.v .non,.v (.str "2"),.tup [N 2],N 1000000000000000000000000000000]) (N d)=some (t,t.lf):=fun {M}=>by
  show qC3 M (.lst szs) (N d)=_
  rw [qCx,ht];rfl
 have ex:∀ (y:PySem.Str) (σ:TS) (M:Mem),pe (glT gs) (Pk (glT gs) Fs Cs (k - 1)) (.cst (V.str y)) σ M=.ok ((.v (.str y),true),M):=fun y _ _=>rfl
 have eqq:∀ {M:Mem},qA0 M .eq (.lst [.v (.bl true),.v (.bl true),.v (.bl false)]) (.lst [.v (.bl true),.v (.bl true),.v (.bl false)])=some true:=fun {M}=>rfl
 simp [sb,pw,lim,e1,ix,-qCx,ex,-pe_str,qKb,e5,bind_exc,qDP,eqq,qAA k1.len]
theorem qLI {M:Mem} {u:T} {ts:List T} (i:IsS M u ts):qA0 M .ne u (.lst [])=some (!decide (ts=[])):=by
 show (eqT M 4 u (.lst [])).map (!·)=_
 unfold eqT
 rw [i.nv,i.lis]
 show ((if ts.length=([]:List T).length then (qA3 (eqT M 3) ts []).map fun bs=>bs.all id else some false).map (!·):Option Bool)=_
 cases ts with
 | nil=>rfl
 | cons p L=>rfl
theorem qLg {n:Int}:∀ (ts:List T) (U:List Int) (x:T),sv n x=false -> gd n U (ts++[x])=false:=by
 intro ts U x h
 cases e:gd n U (ts++[x]) with
 | false=>rfl
 | true=>
  exfalso
  induction ts generalizing U with
  | nil=>
   rw [List.nil_append] at e
   unfold gd at e
   split at e
   ·rw [h] at e;cases e
   ·cases e
  | cons t ts ih=>
   rw [List.cons_append] at e
   unfold gd at e
   split at e
   ·rw [Bool.and_eq_true] at e;exact ih _ e.2
   ·cases e
theorem qPC (hk:6<=k) {A:Mem} {s:Nat} (h1:1<=s) (h5:s<=5) {L:List Stp} {Ns:List (List Stp)} (hN:∀ K∈L::Ns,OkR (2 ^ s) K) (lN:(L::Ns).length<=40) (MM:Mem) (hMM:MM=(A++((L::Ns).map SL++[cl A.length (L::Ns).length])).set A.length (SL L++[N 7])):Pk (glT gs) Fs Cs k 5 [N s,.cell (A.length + (L::Ns).length)] MM=.ok (bT false,MM):=by
 have n5:=p5 h5
 have at0:MM[A.length]?=some (SL L++[N 7]):=by rw [hMM,List.getElem?_set_self];simp
 have atj:∀ j,j≠A.length -> MM[j]?=(A++((L::Ns).map SL++[cl A.length (L::Ns).length]))[j]?:=fun j hj=>by rw [hMM,List.getElem?_set_ne (by omega)]
 have i:IsS MM (.cell (A.length + (L::Ns).length)) (cl A.length (L::Ns).length):=.inr ⟨_,rfl,by rw [atj _ (by simp)];exact qBj 0⟩
 have h:=qM0 (k:=k) hk h1 h5 i (by rw [qDM];omega) (f:=fun u=>match u with | .cell c=>decide (c≠A.length) | _=>true) (fun u hu=>by
  unfold cl at hu
  obtain ⟨j,hj,rfl⟩:=List.mem_map.mp hu
  rw [List.mem_range'] at hj
  obtain ⟨m,hm,rfl⟩:=hj
  rw [Nat.one_mul]
  dsimp only
  cases m with
  | zero=>
   rw [decide_eq_false (by simp)]
   have:=RB.lst (n:=2 ^ s) (.inr ⟨_,rfl,at0⟩:IsS MM (.cell A.length) (SL L++[N 7])) (fun u hu=>by
    rcases List.mem_append.mp hu with h | h
    ·obtain ⟨p,_,rfl⟩:=List.mem_map.mp h;exact qKI p
    ·rw [List.mem_singleton.mp h];exact .oth _ "int" (fun _=>rfl) (by decide)) (by rw [List.length_append,qBM];have:=(hN L (by simp)).le;simp;omega)
   rw [qLg _ _ _ rfl] at this
   exact this
  | succ m=>
   rw [decide_eq_true (by omega)]
   have hm':m < Ns.length:=by simpa using hm
   exact RB.good (L:=Ns[m]) (.inr ⟨_,rfl,by rw [atj _ (by omega)];exact qB2 (by simp [hm'])⟩) (hN _ (by simp)))
 rw [h,show ((cl A.length (L::Ns).length).all fun u=>match u with | .cell c=>decide (c≠A.length) | _=>true)=false by
  unfold cl
  rw [List.length_cons,List.range'_succ,List.map_cons,List.all_cons]
  simp,Bool.and_false]
theorem qMa (hk:10<=k) (ns:List Int) {i:Nat} (hi:i<=62) {M:Mem} (hM:WfM M) {o2 o3 o4 o5 o6:Option T}:∃ p2 p3 p4 p5 p6 M',pxs (glT gs) (Pk (glT gs) Fs Cs k) [2,4] qII [some (.fz (ns.map fun n=>.v (.int n))),some (N i),o2,o3,o4,o5,o6] M=.ok (.nx [some (.fz (ns.map fun n=>.v (.int n))),some (N i),p2,p3,p4,p5,p6],M')/\WfM M':=by
 obtain ⟨g0,s0,e1,hb0⟩:=bag (k:=k) (by omega) ns (kk:=i) (by omega) M
 have gd:qER (M++[stT g0 s0]) M.length:=⟨g0,s0,by simp,hb0⟩
 have hM0:WfM (M++[stT g0 s0]):=hM.one (qLH [g0,s0])
 obtain ⟨d,M1,e2,hd,k1⟩:=out (k:=k) (by omega) gd (m:=5) (by decide)
 obtain ⟨s,hs⟩:∃ s,s=1 + d:=⟨_,rfl⟩
 have h1:1<=s:=by omega
 have h5:s<=5:=by omega
 have n5:=p5 h5
 obtain ⟨Ns,A,e3,hN,lN,k2⟩:=net (k:=k) (by omega) (s:=s) h5 (qBG hM0 k1) k1.good
 have kA:=k1.trans k2
 have hA:=qBG hM0 kA
 have nbA:M.length < A.length:=by rw [kA.len];simp
 have iN:∀ B:Mem,B.length=A.length -> IsN (B++(Ns.map SL++[cl A.length Ns.length])) (.cell (A.length + Ns.length)) Ns:=fun B hB=>by
  rw [<- hB]
  exact ⟨_,.inr ⟨_,rfl,qBj 0⟩,qKC⟩
 have wf:∀ B:Mem,WfM B -> B.length=A.length -> WfM (B++(Ns.map SL++[cl A.length Ns.length])):=fun B h hB=>qPg h fun c hc=>by
  rw [List.mem_singleton.mp hc];exact qJY _ _ _ (by rw [hB];simp)
 obtain ⟨u,fu,M3,e4,k3,nbu,snu⟩:=qKs (k:=k) (by omega) h1 h5 (wf A hA rfl) (qA5 kA.good) (iN A rfl) hN lN
 obtain ⟨A3,rfl,j3⟩:=qAg nbA k3
 have l3:A3.length=A.length:=j3.len
 have qn:∀ B:Mem,B.length=A.length -> (∀ k,6<=k -> Pk (glT gs) Fs Cs k 5 [N s,.cell (A.length + Ns.length)] (B++(Ns.map SL++[cl A.length Ns.length]))=.ok (bT true,B++(Ns.map SL++[cl A.length Ns.length])))/\Sn (B++(Ns.map SL++[cl A.length Ns.length])) (.cell (A.length + Ns.length)):=fun B hB=>by
  obtain ⟨ts,a,b⟩:=iN B hB
  have lt:ts.length=Ns.length:=qAB b
  constructor
  ·intro k hk
   rw [qM0 hk h1 h5 a (by omega) (f:=fun _=>true) (fun u hu=>by obtain ⟨L,hL,r⟩:=qCR b u hu;exact RB.good r (hN L hL)),decide_eq_true (by omega),show (ts.all fun _=>true)=true from List.all_eq_true.mpr fun _ _=>rfl];rfl
  ·exact qOn a (fun u hu=>by obtain ⟨L,hL,r⟩:=qCR b u hu;exact qIj (by omega) r (hN L hL)) (by omega)
 obtain ⟨b,nbu⟩:=nbu
 obtain ⟨q3,⟨y1,r1⟩⟩:=qn A3 l3
 obtain ⟨y2,r2⟩:=snu
 obtain ⟨d2,M4,e5,hd2,k4⟩:=out (k:=k) (by omega) (qA5 (C:=Ns.map SL++[cl A.length Ns.length]) j3.good) (m:=2) (by decide)
 obtain ⟨A4,rfl,j4⟩:=qAg (by rw [l3];exact nbA) k4
 obtain ⟨x,hx⟩:∃ x,([T.cell (A.length + Ns.length),u]:List T)[d2]?=some x:=⟨_,List.getElem?_eq_getElem (by simpa using hd2)⟩
 obtain ⟨M5,e6,k5⟩:=qLv (k:=k) (by omega) (qA5 (C:=Ns.map SL++[cl A.length Ns.length]) j4.good) x
 obtain ⟨A5,rfl,j5⟩:=qAg (by rw [j4.len,l3];exact nbA) k5
 have l5:A5.length=A.length:=by rw [j5.len,j4.len,l3]
 have W5:WfM A5:=qBG (qBG (qBG hA j3) j4) j5
 generalize hZ:(ns.map fun n=>T.v (.int n))=Z at *
 have x0:px (glT gs) (Pk (glT gs) Fs Cs k) [2,4] d_0 [some (.fz Z),some (N i),o2,o3,o4,o5,o6] M=.ok (.nx [some (.fz Z),some (N i),some (.cell M.length),o3,o4,o5,o6],M++[stT g0 s0]):=by
  have th:thaw M.length (.lst (stT g0 s0))=(.cell M.length,[stT g0 s0]):=qHC M.length [g0,s0]
  rw [d_0];simp [e1,th]
 have x1:px (glT gs) (Pk (glT gs) Fs Cs k) [2,4] d_1 [some (.fz Z),some (N i),some (.cell M.length),o3,o4,o5,o6] (M++[stT g0 s0])=.ok (.nx [some (.fz Z),some (N i),some (.cell M.length),some (N s),o4,o5,o6],M1):=by
  rw [hs,d_1]
  generalize (M++[stT g0 s0])=MM at *
  simp [e2]
 have x2:px (glT gs) (Pk (glT gs) Fs Cs k) [2,4] d_2 [some (.fz Z),some (N i),some (.cell M.length),some (N s),o4,o5,o6] M1=.ok (.nx [some (.fz Z),some (N i),some (.cell M.length),some (N s),some (.cell (A.length + Ns.length)),o5,o6],A++(Ns.map SL++[cl A.length Ns.length])):=by
  have th:=qFG A.length Ns
  generalize (Ns.map fun L=>T.lst (SL L))=X at *
  rw [d_2];simp [e3,th]
 generalize hC:(Ns.map SL++[cl A.length Ns.length])=C at *
 have x3:px (glT gs) (Pk (glT gs) Fs Cs k) [2,4] d_3 [some (.fz Z),some (N i),some (.cell M.length),some (N s),some (.cell (A.length + Ns.length)),o5,o6] (A++C)=.ok (.nx [some (.fz Z),some (N i),some (.cell M.length),some (N s),some (.cell (A.length + Ns.length)),some u,o6],A3++C):=by
  generalize (A++C)=MM at *
  generalize (A3++C)=MM3 at *
  rw [d_3];simp [e4]
 have q3:=q3 k (by omega)
 obtain ⟨n1,n2⟩:=nbu k (by omega)
 have x4:px (glT gs) (Pk (glT gs) Fs Cs k) [2,4] d_4 [some (.fz Z),some (N i),some (.cell M.length),some (N s),some (.cell (A.length + Ns.length)),some u,o6] (A3++C)=.ok (.nx [some (.fz Z),some (N i),some (.cell M.length),some (N s),some (.cell (A.length + Ns.length)),some u,some (.lst [.v (.str y1),.v (.str y2)])],A3++C):=by
  generalize (A3++C)=MM3 at *
  rw [d_4];simp [r1,r2,lim]
 have x5:px (glT gs) (Pk (glT gs) Fs Cs k) [2,4] d_5 [some (.fz Z),some (N i),some (.cell M.length),some (N s),some (.cell (A.length + Ns.length)),some u,some (.lst [.v (.str y1),.v (.str y2)])] (A3++C)=.ok (.nx [some (.fz Z),some (N i),some (.cell M.length),some (N s),some (.cell (A.length + Ns.length)),some u,some (.lst [.v (.str y1),.v (.str y2)])],A3++C):=by
  have t1:=qMk (k:=k) (by omega) true true (A3++C)
  have t2:=qMk (k:=k) (by omega) b b (A3++C)
  rw [show (b==b)=true by cases b<;>rfl] at t2
  generalize (A3++C)=MM3 at *
  simp only [bT] at q3 n1 n2 t1 t2
  rw [d_5];simp [q3,n1,n2,t1,t2]
 have x6:px (glT gs) (Pk (glT gs) Fs Cs k) [2,4] d_6 [some (.fz Z),some (N i),some (.cell M.length),some (N s),some (.cell (A.length + Ns.length)),some u,some (.lst [.v (.str y1),.v (.str y2)])] (A3++C)=.ok (.nx [some (.fz Z),some (N i),some (.cell M.length),some (N s),some (.cell (A.length + Ns.length)),some u,some (.lst [.v (.str y1),.v (.str y2)])],A3++C):=by
  have t1:=qMk (k:=k) (by omega) true true (A3++C)
  have ne:∀ {M:Mem},qA0 M .ne (.lst [.v (.str y1),.v (.str y2)]) (.lst [.v (.str y1),.v (.str y2)])=some false:=fun {M}=>by
   have e:∀ (n:Nat) (y:PySem.Str),eqT M n (.v (.str y)) (.v (.str y))=some true:=fun n y=>by
    cases n<;>(show some (y==y)=_;simp)
   show (eqT M 4 (.lst [.v (.str y1),.v (.str y2)]) (.lst [.v (.str y1),.v (.str y2)])).map (!·)=_
   unfold eqT
   show (((qA3 (eqT M 3) [.v (.str y1),.v (.str y2)] [.v (.str y1),.v (.str y2)]).map fun bs=>bs.all id).map (!·):Option Bool)=_
   simp [qA3,e]
  generalize (A3++C)=MM3 at *
  simp only [bT] at q3 t1
  rw [d_6];simp [q3,t1,r1,r2,ne,lim]
 have x7:px (glT gs) (Pk (glT gs) Fs Cs k) [2,4] d_7 [some (.fz Z),some (N i),some (.cell M.length),some (N s),some (.cell (A.length + Ns.length)),some u,some (.lst [.v (.str y1),.v (.str y2)])] (A3++C)=.ok (.nx [some (.fz Z),some (N i),some (.cell M.length),some (N s),some (.cell (A.length + Ns.length)),some u,some (.lst [.v (.str y1),.v (.str y2)])],A5++C):=by
  generalize (A3++C)=MM3 at *
  generalize (A4++C)=MM4 at *
  generalize (A5++C)=MM5 at *
  rw [d_7];simp [e5,hx,e6,lim]
 rw [qOu,qAi x0,qAi x1,qAi x2,qAi x3,qAi x4,qAi x5,qAi x6,qAi x7]
 have is5:IsS (A5++C) (.cell (A.length + Ns.length)) (cl A.length Ns.length):=.inr ⟨_,rfl,by rw [<- hC,<- l5];exact qBj 0⟩
 have nn:=qLI is5
 have w5:=wf A5 W5 l5
 cases Ns with
 | nil=>
  rw [show (cl A.length ([]:List (List Stp)).length)=[] from rfl,decide_eq_true rfl] at nn
  refine ⟨some (.cell M.length),some (N s),some (.cell (A.length + ([]:List (List Stp)).length)),some u,some (.lst [.v (.str y1),.v (.str y2)]),A5++C,?_,w5⟩
  generalize A.length + ([]:List (List Stp)).length=cc at *
  generalize (A5++C)=MM5 at *
  rw [d_8]
  simp [nn]
 | cons L Ns=>
  have c1:cl A.length (L::Ns).length=.cell A.length::cl (A.length + 1) Ns.length:=by unfold cl;rw [List.length_cons,List.range'_succ];rfl
  rw [decide_eq_false (by rw [c1];simp)] at nn
  have ix:qC3 (A5++C) (.cell (A.length + (L::Ns).length)) (N 0)=some (.cell A.length,false):=by rw [is5.idx,c1];rfl
  have a0:(A5++C)[A.length]?=some (SL L):=by rw [<- hC,<- l5];exact qB2 (j:=0) rfl
  have lL:=(hN L (by simp)).le
  have ap:=qJW (x:=N 7) a0 (by rw [qBM];show _ < 100000;omega)
  have la:=qPC (k:=k) (by omega) (A:=A5) h1 h5 hN lN _ rfl
  rw [l5,hC] at la
  have wl:WfM ((A5++C).set A.length (SL L++[N 7])):=qMQ w5 (qEy fun u hu=>by
   rcases List.mem_append.mp hu with h | h
   ·exact qEi (qC8 L _) u h
   ·rw [List.mem_singleton.mp h];exact qA9 _ _)
  have t1:=qMk (k:=k) (by omega) false false ((A5++C).set A.length (SL L++[N 7]))
  refine ⟨some (.cell M.length),some (N s),some (.cell (A.length + (L::Ns).length)),some u,some (.lst [.v (.str y1),.v (.str y2)]),(A5++C).set A.length (SL L++[N 7]),?_,wl⟩
  generalize (A5++C).set A.length (SL L++[N 7])=MM6 at *
  generalize (A5++C)=MM5 at *
  generalize A.length + (L::Ns).length=cc at *
  simp only [bT] at la t1
  rw [d_8]
  simp [nn,ix,-qKa,ap,la,t1]
theorem qN5 (hk:10<=k) (ns:List Int):∀ (m i:Nat) (M:Mem) (o1 o2 o3 o4 o5 o6:Option T),i + m<=63 -> WfM M -> ∃ σ' M',qBW [] (.name 1) (pxs (glT gs) (Pk (glT gs) Fs Cs k) [2,4] qII) ((List.range' i m).map N) [some (.fz (ns.map fun n=>.v (.int n))),o1,o2,o3,o4,o5,o6] M=.ok (.nx σ',M')
 | 0,i,M,o1,o2,o3,o4,o5,o6,h,_=>⟨_,M,rfl⟩
 | m + 1,i,M,o1,o2,o3,o4,o5,o6,h,hF=>by
  obtain ⟨p2,p3,p4,p5,p6,M1,e,F1⟩:=qMa hk ns (i:=i) (by omega) hF (o2:=o2) (o3:=o3) (o4:=o4) (o5:=o5) (o6:=o6)
  obtain ⟨σ',M',e'⟩:=qN5 hk ns m (i + 1) M1 (some (N i)) p2 p3 p4 p5 p6 (by omega) F1
  refine ⟨σ',M',?_⟩
  rw [List.range'_succ,List.map_cons,qDB,show ∀ a b c d e f g z:Option T,[a,b,c,d,e,f,g].set 1 z=[a,z,c,d,e,f,g] from fun _ _ _ _ _ _ _ _=>rfl,e,PR.bind_ok]
  exact e'
end
theorem main:∀ ns:List Int,ns.length<=63 -> ∃ h',Fk Tb.fns 30 20 [.ref gs.length] (qEC gs ns)=.ok (.bl true,h'):=by
 intro ns hn
 rw [qPU]
 obtain ⟨σ',M',e⟩:=qN5 (k:=29) (by omega) ns (max 1 (min ns.length 30)) 0 [] none none none none none none (by omega) rfl
 rw [<- List.range_eq_range'] at e
 have key:∃ b M2,Pk (glT gs) Fs Cs 30 20 [.fz (ns.map fun n=>.v (.int n))] []=.ok ((.v (.bl true),b),M2):=by
  rw [qAP t20 ⟨rfl,by decide⟩ (by omega),show Cs.getD 20 []=[2,4] from rfl]
  clear hn
  have ex:pxs (glT gs) (Pk (glT gs) Fs Cs (30 - 1)) [2,4] b20 ([T.fz (ns.map fun n=>.v (.int n))].map some++List.replicate (7 - 1) none) []=.ok (.rt (bT true),M'):=by
   rw [b20]
   simp (disch:=omega) [qGX,e]
  rw [ex]
  exact qHG _ _ _
 obtain ⟨b,M2,e2⟩:=key
 exact qMN rfl e2
end My
namespace PySem.W.Fast
theorem tw10751432838900422958:True:=trivial
theorem tw1787512802128721750:True:=trivial
theorem tw15328730114270880893:True:=trivial
theorem tw3553037606506660583:True:=trivial
theorem tw14286466129381540755:True:=trivial
theorem tw17810170007135956679:True:=trivial
theorem tw1212818583480505042:True:=trivial
theorem tw10823857663237764441:True:=trivial
theorem tw531417364925111475:True:=trivial
theorem tw6647678893791316952:True:=trivial
theorem tw10443009710111057761:True:=trivial
theorem tw5773500792356498912:True:=trivial
theorem tw11927413735977465180:True:=trivial
theorem tw16272408608223093917:True:=trivial
theorem tw8483491377291881837:True:=trivial
theorem tw13931998392017294912:True:=trivial
theorem tw3283064081728823823:True:=trivial
theorem tw9400710807140744919:True:=trivial
theorem tw14786455902271929147:True:=trivial
theorem tw5064775866539154211:True:=trivial
theorem tw9679488103270806375:True:=trivial
theorem tw16111955735458068088:True:=trivial
theorem tw13551570390612553612:True:=trivial
theorem tw1927833032918149209:True:=trivial
theorem tw10814800728359150900:True:=trivial
theorem tw16266004435615707319:True:=trivial
theorem tw8861280030829556821:True:=trivial
theorem tw1741041340454886134:True:=trivial
theorem tw8503924128077158716:True:=trivial
theorem tw4305209973772926371:True:=trivial
theorem tw10694583687606309098:True:=trivial
theorem tw15000804348200802494:True:=trivial
theorem tw7222708942184960396:True:=trivial
theorem tw17955339690234379238:True:=trivial
theorem tw17325645457414755377:True:=trivial
theorem tw11720854979436554825:True:=trivial
theorem tw14088296847253244142:True:=trivial
theorem tw6696415787920003662:True:=trivial
theorem tw793276073327477781:True:=trivial
theorem tw15430288484600640329:True:=trivial
theorem tw14947852225519817799:True:=trivial
theorem tw4488168159064845199:True:=trivial
theorem tw5160504778307673269:True:=trivial
theorem tw9539861616301635119:True:=trivial
theorem tw11387007529780993399:True:=trivial
theorem tw6519648686731755638:True:=trivial
theorem tw15025040751461278633:True:=trivial
theorem tw10435954303685761755:True:=trivial
theorem tw9265460674116895275:True:=trivial
theorem tw8266056748305473932:True:=trivial
theorem tw10971129645649995261:True:=trivial
theorem tw7126379160250032673:True:=trivial
theorem tw15247771165900790437:True:=trivial
theorem tw5724178814483678515:True:=trivial
theorem tw5239045362058803012:True:=trivial
theorem tw14673350462837886293:True:=trivial
theorem tw7692854887547898552:True:=trivial
theorem tw15618503140820933932:True:=trivial
theorem tw8563049510810866948:True:=trivial
theorem tw5425259309755349757:True:=trivial
theorem tw14309310681332926939:True:=trivial
theorem tw99074668314978512:True:=trivial
theorem tw5158076716009326436:True:=trivial
theorem tw16481118640788947211:True:=trivial
theorem tw6400045224125138888:True:=trivial
theorem tw246891845241925845:True:=trivial
theorem tw7294961118557934686:True:=trivial
theorem tw14934317282915888211:True:=trivial
theorem tw8374092436686536563:True:=trivial
theorem tw8199023742581075960:True:=trivial
theorem tw5508913093215141480:True:=trivial
theorem tw8891791129235670662:True:=trivial
theorem tw8711698074225288111:True:=trivial
theorem tw4930519900736445096:True:=trivial
theorem tw4008572565529966803:True:=trivial
theorem tw342087954082092857:True:=trivial
theorem tw18098526687075408466:True:=trivial
theorem tw16530221614192765246:True:=trivial
theorem tw16978112618547030531:True:=trivial
theorem tw9705280005253684466:True:=trivial
theorem tw3504994356221123028:True:=trivial
theorem tw11895656326369767417:True:=trivial
theorem tw14527760920501915499:True:=trivial
theorem tw14684655582166925933:True:=trivial
theorem tw15253605391055523281:True:=trivial
theorem tw13403716640162263872:True:=trivial
theorem tw10234131826374603130:True:=trivial
theorem tw5510662536195977611:True:=trivial
theorem tw6822359153253235325:True:=trivial
theorem tw9504056118534212920:True:=trivial
theorem tw17962809335145864443:True:=trivial
theorem tw6447853067256858847:True:=trivial
theorem tw10345807002677523268:True:=trivial
theorem tw228377738074269534:True:=trivial
theorem tw4609753818421462045:True:=trivial
theorem tw13780560297442880183:True:=trivial
theorem tw6335061270412915258:True:=trivial
theorem tw7390916599681992875:True:=trivial
theorem tw3439823685334321099:True:=trivial
theorem tw9041647711446637315:True:=trivial
theorem tw1987738907881071560:True:=trivial
theorem tw14109086097252916914:True:=trivial
theorem tw16307936943659935424:True:=trivial
theorem tw18229872775539472036:True:=trivial
theorem tw9544261546504849723:True:=trivial
theorem tw14651664722833256543:True:=trivial
theorem tw545444863821282706:True:=trivial
theorem tw16401670579841891990:True:=trivial
theorem tw17414488843125474056:True:=trivial
theorem tw13212974335198802761:True:=trivial
theorem tw12894418905622008904:True:=trivial
theorem tw4076310124237116798:True:=trivial
theorem tw7431887095591372224:True:=trivial
theorem tw1321169552838745472:True:=trivial
theorem tw10765162022042241723:True:=trivial
theorem tw4680595745735006392:True:=trivial
theorem tw4305802550332998544:True:=trivial
theorem tw14993710996722772158:True:=trivial
theorem tw8226865242468515640:True:=trivial
theorem tw4388192664150829725:True:=trivial
theorem tw12160421963331035222:True:=trivial
theorem tw16375765212869823482:True:=trivial
theorem tw2907645987018564515:True:=trivial
theorem tw3692445811953086207:True:=trivial
theorem tw9660002316699760904:True:=trivial
theorem tw9589937981761461703:True:=trivial
theorem tw13021995810270431634:True:=trivial
theorem tw11413860633194037910:True:=trivial
theorem tw7144974665837615035:True:=trivial
theorem tw6871904170867469894:True:=trivial
theorem tw11054795308562596806:True:=trivial
theorem tw8833201294621451661:True:=trivial
theorem tw4706520430291759339:True:=trivial
theorem tw8486266948465279246:True:=trivial
theorem tw5184107794876074557:True:=trivial
theorem tw14454147619272167937:True:=trivial
theorem tw2390885982010374243:True:=trivial
theorem tw1639723257120248686:True:=trivial
theorem tw311731158105406259:True:=trivial
theorem tw2524746524499943800:True:=trivial
theorem tw12387523881684688312:True:=trivial
theorem tw9309917669252845993:True:=trivial
theorem tw9103335885798813905:True:=trivial
theorem tw6673277701559251313:True:=trivial
theorem tw16546670247915030732:True:=trivial
theorem tw9933882087472540334:True:=trivial
theorem tw7083774006827492523:True:=trivial
theorem tw12443672745947950452:True:=trivial
theorem tw6880111560612212370:True:=trivial
theorem tw3372678553618803070:True:=trivial
theorem tw2967169047105871509:True:=trivial
theorem tw5001021691329193215:True:=trivial
theorem tw11757371116390691490:True:=trivial
theorem tw18400665100979491204:True:=trivial
theorem tw9120030887347346811:True:=trivial
theorem tw6342783946170386078:True:=trivial
theorem tw713966920375200430:True:=trivial
theorem tw2718058711943658894:True:=trivial
theorem tw12883790314521014783:True:=trivial
theorem tw10092669123560636638:True:=trivial
theorem tw9643170192706945784:True:=trivial
theorem tw8077934981022462771:True:=trivial
theorem tw13201087487464996523:True:=trivial
theorem tw1773280360014709510:True:=trivial
theorem tw12568054591385427993:True:=trivial
theorem tw16154820766041437119:True:=trivial
theorem tw18237770191620978249:True:=trivial
theorem tw13862547326842161352:True:=trivial
theorem tw1835205052304976306:True:=trivial
theorem tw14990907371707067428:True:=trivial
theorem tw13811420810932804935:True:=trivial
theorem tw3033477545735640482:True:=trivial
theorem tw8690016822666720994:True:=trivial
theorem tw18234745567500501616:True:=trivial
theorem tw7584716565672688605:True:=trivial
theorem tw6487480100911184080:True:=trivial
theorem tw7936892480518070989:True:=trivial
end PySem.W.Fast
namespace My
open PySem PySem.Spec PyProof.Rows L2 PI
theorem dks:∀ d∈Tb.ds,qM8 d:=by
 intro d hd
 simp only [Tb,List.mem_cons,List.not_mem_nil,or_false] at hd
 rcases hd with rfl | rfl | rfl | rfl | rfl | rfl | rfl | rfl | rfl | rfl | rfl | rfl | rfl | rfl | rfl | rfl | rfl | rfl | rfl | rfl | rfl
 all_goals exact ⟨⟨rfl,rfl,rfl,by decide +kernel,rfl,by decide +kernel,by decide +kernel⟩,fun _ _ _ _ _ _ us hl=>by first | (obtain rfl:=PI.len0 hl;rfl) | (obtain ⟨_,rfl⟩:=PI.len1 hl;rfl) | (obtain ⟨_,_,rfl⟩:=PI.len2 hl;rfl) | (obtain ⟨_,_,_,rfl⟩:=PI.len3 hl;rfl) | (obtain ⟨_,_,_,_,rfl⟩:=PI.len4 hl;rfl) | (obtain ⟨_,_,_,_,_,rfl⟩:=PI.len5 hl;rfl) | (obtain ⟨_,_,_,_,_,_,rfl⟩:=PI.len6 hl;rfl)⟩
theorem all_mk {l:PySem.W.OpenLaw} {w:World} {K:PySem.W.Frag} {h:Heap} {mg:Str -> Option Value} {fa:Addr} (X:K.In h) (G:h.Ns mainGlobals mg) (hfa:mg "law"=some (.ref fa))
  (hds:∀ d∈Tb.ds,qMZ K d)
  {ga0:Addr} {gn0:Nat} {gsl0:Array (Option Value)} {u0_0 u0_1 u0_2 u0_3 u0_4 u0_5:Tok} (g_LENGTHS:PySem.W.nsIn K mainGlobals "LENGTHS"=some (some (.ref ga0))) (m0:K.lookup ga0=some ⟨.type "tuple",none,.seq #[.int 1 u0_0,.int 2 u0_1,.int 4 u0_2,.int 8 u0_3,.int 16 u0_4,.int 32 u0_5] gn0,gsl0⟩)
  {tg_GREATEST_SIZE:Tok} (g_GREATEST_SIZE:PySem.W.nsIn K mainGlobals "GREATEST_SIZE"=some (some (.int 5 tg_GREATEST_SIZE)))
  {tg_MOST_ROUNDS:Tok} (g_MOST_ROUNDS:PySem.W.nsIn K mainGlobals "MOST_ROUNDS"=some (some (.int 40 tg_MOST_ROUNDS)))
  (hcs:qHd K (["HealError","NoSize","NoNet"]:List Str)=true)
  (z_len:PySem.W.nsIn K mainGlobals "len"=some none)
  (z_all:PySem.W.nsIn K mainGlobals "all"=some none)
  (z_max:PySem.W.nsIn K mainGlobals "max"=some none)
  (z_min:PySem.W.nsIn K mainGlobals "min"=some none)
  (z_list:PySem.W.nsIn K mainGlobals "list"=some none)
  (z_int:PySem.W.nsIn K mainGlobals "int"=some none)
  (z_tuple:PySem.W.nsIn K mainGlobals "tuple"=some none)
  (z_range:PySem.W.nsIn K mainGlobals "range"=some none)
  (z_isinstance:PySem.W.nsIn K mainGlobals "isinstance"=some none)
  (z_bool:PySem.W.nsIn K mainGlobals "bool"=some none)
  (z_repr:PySem.W.nsIn K mainGlobals "repr"=some none)
  (z_set:PySem.W.nsIn K mainGlobals "set"=some none)
  (z_ValueError:PySem.W.nsIn K mainGlobals "ValueError"=some none)
  (main:∀ ns:List Int,ns.length<=63 -> ∃ h',Fk Tb.fns 30 20 [.ref gs.length] (qEC gs ns)=.ok (.bl true,h')):
  ∃ fd:FuncData,(∀ (s:Shared) (v:Value),BindsTo s fd ⟨[v],[]⟩ [("_law_script",v)])/\∀ base:Heap,K.In base -> base.Ns mainGlobals mg -> FnOk l.prog w K mg base CX0 30 fa fd ["_law_script"] (qHv K):=by
 obtain ⟨fas,fds,hT⟩:=qI1 X G Tb.ds hds dks
 have O:qGb K mg [ga0] Tb fas fds:=by
  refine ⟨hT,fun x e hx=>?_,fun x hx=>?_,ClsOk.rec_ X G hcs (by decide +kernel) rfl (by decide +kernel) (by decide),fun a ha=>(List.mem_cons.mp ha).elim (fun z=>by subst z;exact ⟨_,m0,rfl,rfl⟩) fun ha=>nomatch ha⟩
  ·have hx2:List.lookup x ([("LENGTHS",E.glob 0),("GREATEST_SIZE",E.cst (.int 5)),("MOST_ROUNDS",E.cst (.int 40))]:List (Str×E))=some e:=hx
   simp only [List.lookup_cons,List.lookup_nil] at hx2
   split at hx2
   ·rename_i hq
    have hq2:x="LENGTHS":=by simpa using hq
    subst hq2
    cases hx2
    exact .inr ⟨_,_,rfl,PySem.W.mg_of X G g_LENGTHS,rfl⟩
   split at hx2
   ·rename_i hq
    have hq2:x="GREATEST_SIZE":=by simpa using hq
    subst hq2
    cases hx2
    exact .inl ⟨_,_,rfl,PySem.W.mg_of X G g_GREATEST_SIZE,⟨_,rfl⟩,fun _=>rfl⟩
   split at hx2
   ·rename_i hq
    have hq2:x="MOST_ROUNDS":=by simpa using hq
    subst hq2
    cases hx2
    exact .inl ⟨_,_,rfl,PySem.W.mg_of X G g_MOST_ROUNDS,⟨_,rfl⟩,fun _=>rfl⟩
   cases hx2
  ·have hx2:x∈(["len","all","max","min","list","int","tuple","range","isinstance","bool","repr","set","ValueError"]:List Str):=List.contains_iff_mem.mp hx
   simp only [List.mem_cons,List.not_mem_nil,or_false] at hx2
   rcases hx2 with rfl | rfl | rfl | rfl | rfl | rfl | rfl | rfl | rfl | rfl | rfl | rfl | rfl
   ·exact PySem.W.mg_none_of X G z_len
   ·exact PySem.W.mg_none_of X G z_all
   ·exact PySem.W.mg_none_of X G z_max
   ·exact PySem.W.mg_none_of X G z_min
   ·exact PySem.W.mg_none_of X G z_list
   ·exact PySem.W.mg_none_of X G z_int
   ·exact PySem.W.mg_none_of X G z_tuple
   ·exact PySem.W.mg_none_of X G z_range
   ·exact PySem.W.mg_none_of X G z_isinstance
   ·exact PySem.W.mg_none_of X G z_bool
   ·exact PySem.W.mg_none_of X G z_repr
   ·exact PySem.W.mg_none_of X G z_set
   ·exact PySem.W.mg_none_of X G z_ValueError
 have hG:qFp K [ga0] gs:=⟨⟨.inr ⟨_,_,_,m0,rfl,rfl,by show 6<=sizeLine;decide,.cons ⟨_,rfl⟩ (.cons ⟨_,rfl⟩ (.cons ⟨_,rfl⟩ (.cons ⟨_,rfl⟩ (.cons ⟨_,rfl⟩ (.cons ⟨_,rfl⟩ (.nil))))))⟩,rfl⟩,True.intro⟩
 obtain ⟨a,f,e1,e2,F,_,em,_⟩:=hT 20 _ rfl
 have e:=hfa.symm.trans em
 cases e
 exact ⟨f,qNF F (dks _ (List.mem_of_getElem? (i:=20) rfl)) rfl,fun base _ _=>qGt O hG (i:=20) rfl e1 e2 rfl main⟩
theorem walk {l:PySem.W.OpenLaw} {q:Program} {loose:List Str} {XP:(Str -> Option Value) -> Heap -> Prop} {YP:World -> Heap -> Prop} {d:DefRec} {K:Params -> PySem.W.Frag} (hn:l.most=some 63) (hdf:d.params.defaults=[])
  (hY:∀ (w:World) (h:Heap),YP w h -> (K w.params).In h)
  (F:∀ (w:World) (mg:Str -> Option Value) (fa:Addr) (h:Heap),(K w.params).In h -> h.Ns mainGlobals mg -> mg d.name=some (.ref fa) ->
   ∃ fd:FuncData,(∀ (s:Shared) (u:Value),BindsTo s fd ⟨[u],[]⟩ [("_law_script",u)])/\∀ base:Heap,(K w.params).In base -> base.Ns mainGlobals mg -> FnOk l.prog w (K w.params) mg base CX0 30 fa fd ["_law_script"] (qHv (K w.params))):
  PySem.W.WalkO q loose XP YP l.row.toRowW d [] (fun f vs=>PySem.call f vs):=
 L2.walk_of (n:=63) (k:=30) (x:="_law_script") (CX:=fun _=>CX0) (sp:=fun w=>qHv (K w.params)) hn (by decide) hdf ⟨rfl,by decide,by decide,rfl⟩ hY F (fun _ _ a ns hl hO hS=>⟨a,ns,rfl,hO,hS,hl,fun _=>rfl⟩) fun _ _ _ _ _ z=>z
end My
open PySem PySem.W PyProof.Rows
set_option maxRecDepth 100000 in
set_option maxHeartbeats 0 in
theorem PySem.Challenge.cw_healhalves_k07_nets_let_in_holds : PySem.Challenge.rw_healhalves_k07_nets_let_in.Holds := by
 w_on;o_law;k_head;(case hw=>w_witness2)
 k_fill
 refine My.walk (l:=PySem.Challenge.rw_healhalves_k07_nets_let_in) rfl rfl (fun w h Y=>PySem.W.kIn_of Y) ?F
 case F=>
  intro w mg fa h KX G hmg
  refine' My.all_mk KX G hmg ?ds ?g_LENGTHS ?m0 ?g_GREATEST_SIZE ?g_MOST_ROUNDS ?hcs ?z_len ?z_all ?z_max ?z_min ?z_list ?z_int ?z_tuple ?z_range ?z_isinstance ?z_bool ?z_repr ?z_set ?z_ValueError My.main
  case ds=>
   intro d hd
   simp only [My.Tb,List.mem_cons,List.not_mem_nil,or_false] at hd
   rcases hd with rfl | rfl | rfl | rfl | rfl | rfl | rfl | rfl | rfl | rfl | rfl | rfl | rfl | rfl | rfl | rfl | rfl | rfl | rfl | rfl | rfl
   all_goals exact ⟨_,_,_,_,_,_,_,_,_,_,by k_is,by k_is,by k_is,by k_is⟩
  case hcs=>kernel_rfl
  all_goals (try k_is)
