import PyProof.Rows.All
import Wide.All
import OpenK.AllK
import Wide.FinOn
import Lean
import PyProof.EqAt
import PyProof.EqKinds
import PyProof.TupleCall
import PyProof.NeKinds
import PyProof.ZipIter
import PySem.Challenge.RW_healhalves_k03_word_of_the_word
set_option Elab.async false
set_option linter.all false
set_option maxRecDepth 100000
/-! THE HAND LAYER, for ints, bools, texts, own classes, LISTS and tuples (index, slices, in, append, pop ..), calls, loops. Paste it whole ahead of your own text; what your proof does not reach may be deleted. -/
namespace L2
open PySem PySem.Spec PyProof.Rows

/-- a key: an int or a str -/
abbrev Key := Sum Int Str
def keyIs : Key → Value → Bool
  | .inl k, v => Value.isInt k v
  | .inr x, v => Value.isStrOf x v
def keyH (w : World) : Key → Int
  | .inl k => hashInt k
  | .inr x => hashStr w x
theorem keyIs_shape : ∀ {k : Key} {v : Value}, keyIs k v = true → (∃ i t, k = Sum.inl i ∧ v = Value.int i t) ∨ (∃ x t, k = Sum.inr x ∧ v = Value.str x t)
  | .inl i, v, h => by
    obtain ⟨t, e⟩ := Value.isInt_shape (k := i) (v := v) h
    exact .inl ⟨i, t, rfl, e⟩
  | .inr x, v, h => by
    obtain ⟨t, e⟩ := Value.isStrOf_shape (x := x) (v := v) h
    exact .inr ⟨x, t, rfl, e⟩
theorem keyIs_int (i : Int) (t : Tok) : keyIs (.inl i) (.int i t) = true := by simp [keyIs, Value.isInt]
theorem keyIs_str (x : Str) (t : Tok) : keyIs (.inr x) (.str x t) = true := by simp [keyIs, Value.isStrOf]
theorem key_ll (a b : Int) : decide ((Sum.inl a : Key) = Sum.inl b) = (a == b) := by
  by_cases e : a = b
  · subst e; simp
  · have h : ¬ (Sum.inl a : Key) = Sum.inl b := fun q => e (Sum.inl.inj q)
    rw [decide_eq_false h]
    exact (beq_eq_false_iff_ne.mpr e).symm
theorem key_rr (a b : Str) : decide ((Sum.inr a : Key) = Sum.inr b) = decide (a = b) := by
  by_cases e : a = b
  · subst e; simp
  · have h : ¬ (Sum.inr a : Key) = Sum.inr b := fun q => e (Sum.inr.inj q)
    rw [decide_eq_false h, decide_eq_false e]
theorem key_lr (a : Int) (b : Str) : decide ((Sum.inl a : Key) = Sum.inr b) = false := decide_eq_false (fun q => nomatch q)
theorem key_rl (a : Str) (b : Int) : decide ((Sum.inr a : Key) = Sum.inl b) = false := decide_eq_false (fun q => nomatch q)

def mixKind (prog : Program) (w : World) : PySem.KeyKind prog w Key where
  is := keyIs
  hash := keyH w
  inj := fun v a b ha hb => by
    rcases keyIs_shape ha with ⟨i, t, rfl, rfl⟩ | ⟨x, t, rfl, rfl⟩
    · rcases keyIs_shape hb with ⟨j, u, rfl, e⟩ | ⟨y, u, rfl, e⟩
      · injection e with e1 _; rw [e1]
      · exact nomatch e
    · rcases keyIs_shape hb with ⟨j, u, rfl, e⟩ | ⟨y, u, rfl, e⟩
      · exact nomatch e
      · injection e with e1 _; rw [e1]
  byValue := fun k v h => by
    rcases keyIs_shape h with ⟨i, t, rfl, rfl⟩ | ⟨x, t, rfl, rfl⟩ <;> rfl
  pyHash := fun hv h => by
    rcases keyIs_shape hv with ⟨i, t, rfl, rfl⟩ | ⟨x, t, rfl, rfl⟩
    · exact wpAny_pyHash_int h
    · exact wpAny_pyHash_str h
  eqBool := fun hu hv h => by
    rcases keyIs_shape hu with ⟨i, t, rfl, rfl⟩ | ⟨x, t, rfl, rfl⟩
    · rcases keyIs_shape hv with ⟨j, u, rfl, rfl⟩ | ⟨y, u, rfl, rfl⟩
      · rw [key_ll] at h; exact wpAny_eqBool_int h
      · rw [key_lr] at h; exact SeqAt.EqAt.int_str i t y u _ _ _ _ h
    · rcases keyIs_shape hv with ⟨j, u, rfl, rfl⟩ | ⟨y, u, rfl, rfl⟩
      · rw [key_rl] at h; exact SeqAt.EqAt.str_int x t j u _ _ _ _ h
      · rw [key_rr] at h; exact wpAny_eqBool_str h
  «strs» := fun k x t v h => by
    rcases keyIs_shape h with ⟨i, u, rfl, e⟩ | ⟨y, u, rfl, e⟩
    · exact nomatch e
    · injection e with e1 _
      subst e1
      cases v <;> rfl

theorem mixKind_is (prog : Program) (w : World) (k : Key) (v : Value) : (mixKind prog w).is k v = keyIs k v := rfl
theorem mixKind_int (prog : Program) (w : World) (i : Int) (t : Tok) : (mixKind prog w).is (.inl i) (.int i t) = true := keyIs_int i t
theorem mixKind_str (prog : Program) (w : World) (x : Str) (t : Tok) : (mixKind prog w).is (.inr x) (.str x t) = true := keyIs_str x t
end L2

namespace L2
open PySem PySem.Spec PyProof.Rows

/-- a value, without the heap -/
inductive V where
  | non | bl (b : Bool) | int (i : Int) | str (x : Str) | byt (b : Array UInt8) | flt (b : UInt64) | ref (a : Addr) | ty (n : String)
  deriving DecidableEq

def RelV : V → Value → Prop
  | .non, u => u = Value.none
  | .bl b, u => u = Value.bool b
  | .int i, u => ∃ t, u = Value.int i t
  | .str x, u => ∃ t, u = Value.str x t
  | .byt b, u => ∃ t, u = Value.bytes b t
  | .flt b, u => ∃ t, u = Value.float b t
  | .ref a, u => u = Value.ref a
  | .ty n, u => u = Value.type n

abbrev Vals : List V → List Value → Prop := Paired RelV
theorem Vals.length {xs : List V} {us : List Value} (r : Vals xs us) : xs.length = us.length := Paired.length r
theorem Vals.get : ∀ {xs : List V} {us : List Value} {i : Nat} {x : V}, Vals xs us → xs[i]? = some x → ∃ u, us[i]? = some u ∧ RelV x u
  | _, _, _, _, .nil, e => by simp at e
  | _, _, 0, _, .cons r _, e => by simp at e; subst e; exact ⟨_, rfl, r⟩
  | _, _, i + 1, x, .cons _ t, e => by
    obtain ⟨u, h1, h2⟩ := Vals.get (i := i) (x := x) t (by simpa using e)
    exact ⟨u, by simpa using h1, h2⟩
theorem Vals.set {x : V} {u : Value} (r : RelV x u) : ∀ {xs : List V} {us : List Value} (i : Nat), Vals xs us → Vals (xs.set i x) (us.set i u)
  | _, _, _, .nil => .nil
  | _, _, 0, .cons _ t => .cons r t
  | _, _, i + 1, .cons q t => .cons q (Vals.set r i t)
theorem Vals.append : ∀ {xs ys : List V} {us ws : List Value}, Vals xs us → Vals ys ws → Vals (xs ++ ys) (us ++ ws)
  | _, _, _, _, .nil, s => s
  | _, _, _, _, .cons r t, s => .cons r (Vals.append t s)
theorem Vals.take : ∀ {xs : List V} {us : List Value} (n : Nat), Vals xs us → Vals (xs.take n) (us.take n)
  | _, _, 0, _ => .nil
  | _, _, _ + 1, .nil => .nil
  | _, _, n + 1, .cons r t => .cons r (Vals.take n t)
theorem Vals.drop : ∀ {xs : List V} {us : List Value} (n : Nat), Vals xs us → Vals (xs.drop n) (us.drop n)
  | _, _, 0, r => r
  | _, _, _ + 1, .nil => .nil
  | _, _, n + 1, .cons _ t => Vals.drop n t
theorem Vals.none_of : ∀ {xs : List V} {us : List Value} {i : Nat}, Vals xs us → xs[i]? = none → us[i]? = none := fun {xs us i} r e => by
  have h1 := r.length
  have h2 : xs.length ≤ i := List.getElem?_eq_none_iff.mp e
  exact List.getElem?_eq_none_iff.mpr (by omega)

def RelO : Option V → Option Value → Prop
  | some v, some u => RelV v u
  | none, none => True
  | _, _ => False
def KV {κ : Type} : List (κ × V) → List (κ × Value) → Prop := Paired fun (p : κ × V) (q : κ × Value) => p.1 = q.1 ∧ RelV p.2 q.2

/-- a key of a dict (00_mix): an int or a text -/
def kV : Key → V
  | .inl i => .int i
  | .inr x => .str x

/-- what stands at a tracked address -/
inductive HO where
  /-- a list -/
  | lst (xs : List V)
  /-- a tuple (never changes) -/
  | tup (xs : List V)
  /-- a dict whose keys are ints and texts; one whose keys are tuples of ints and texts (the empty one is both) -/
  | dK (kvs : List (Key × V)) | dT (kvs : List (List Key × V))
  /-- a set of ints: its members, its size -/
  | set (S : Int → Bool) (n : Nat)
  /-- an instance of the class at C, its dict at dx, its attributes -/
  | ins (C dx : Addr) (fs : List (Str × V))
  /-- the dict of the instance at x -/
  | own (x : Addr)
  /-- the dict of an exception -/
  | xd (fs : List (Str × V))
  /-- a bound method, f of x -/
  | met (f x : Addr)
  /-- a range object lo, lo + 1, .. below hi -/
  | rng (lo hi : Int)
  /-- a thing that is known to the object (the script; a dict while a loop walks it): read, never written while it is so -/
  | frz (o : Obj) (u : HO)
  /-- a code object's table -/
  | tbl (ps : Array Value)
  /-- any other thing, by what is true of its one object (a def of one's own: SetO a S n := HO.ext fun h => ..) -/
  | ext (φ : Heap → Prop)

abbrev Hp := Addr → Option HO
def upd (H : Hp) (a : Addr) (o : HO) : Hp := fun b => if b = a then some o else H b
theorem upd_same {H : Hp} {a : Addr} {o : HO} : upd H a o a = some o := by unfold upd; rw [if_pos rfl]
theorem upd_ne {H : Hp} {a b : Addr} {o : HO} (h : b ≠ a) : upd H a o b = H b := by unfold upd; rw [if_neg h]
theorem upd_upd {H : Hp} {a : Addr} {o u : HO} : upd (upd H a o) a u = upd H a u := by
  funext b; unfold upd; split <;> rfl
/-- two objects of different content stand apart -/
theorem ne_of {H : Hp} {a b : Addr} {o u : HO} (h : H a = some o) (h' : H b = some u) (d : o ≠ u) : a ≠ b := by
  intro e; subst e; rw [h] at h'; exact d (Option.some.inj h')
theorem ne_of_none {H : Hp} {a b : Addr} {o : HO} (h : H a = some o) (h' : H b = none) : a ≠ b := by
  intro e; subst e; rw [h] at h'; cases h'

section
variable (P : Program) (w : World)
def ObjOk (H : Hp) (h : Heap) (a : Addr) : HO → Prop
  | .lst xs => xs.length ≤ sizeLine ∧ ∃ (its : List Value) (n : Nat), Vals xs its ∧ h.get? a = some { cls := .type "list", data := .seq its.toArray n }
  | .tup xs => xs.length ≤ sizeLine ∧ ∃ its : List Value, Vals xs its ∧ IsTup h a its.toArray
  | .dK kvs => kvs.length ≤ sizeLine ∧ (a == sysModules) = false ∧ ∃ vs, KV kvs vs ∧ h.DictOf (mixKind P w) a vs
  | .dT kvs => kvs.length ≤ sizeLine ∧ (a == sysModules) = false ∧ ∃ xs : List (List Key × Addr × Value),
      Paired (fun (p : List Key × V) (q : List Key × Addr × Value) => p.1 = q.1 ∧ H q.2.1 = some (.tup (p.1.map kV)) ∧ RelV p.2 q.2.2) kvs xs ∧
      ∃ o es ep, h.get? a = some o ∧ o.ExactDict ∧ o.data = .dict es ep ∧ es.toList = xs.map (entryOfKey (tupleKind (mixKind P w))) ∧ (xs.map (·.1)).Nodup
  | .set S n => h.SetOf (intKind P w) a S n
  | .ins C dx fs => H dx = some (.own a) ∧ fs.length ≤ 1000 ∧ dx ≠ a ∧ h.get? a = some (PySem.W.instObj C dx) ∧
      ∃ mA, h.Ns1 dx mA ∧ (∀ f, RelO (fs.lookup f) (mA f)) ∧ PySem.Within mA (fs.map (·.1))
  | .own _ => ∃ o, h.get? a = some o
  | .xd fs => ∃ mA, h.Ns1 a mA ∧ ∀ f, RelO (fs.lookup f) (mA f)
  | .rng lo hi => ∃ t u v, h.get? a = some { cls := .type "range", data := .fields #[.int lo t, .int hi u, .int 1 v] }
  | .frz o u => h.get? a = some o ∧ ObjOk H h a u
  | .tbl ps => h.get? a = some { cls := .none, data := .fields ps }
  | .met f x => h.get? a = some (PySem.W.methodObj (.ref f) (.ref x))
  | .ext φ => φ h ∧ (∃ o, h.get? a = some o) ∧ ∀ h1 h2 : Heap, φ h1 → (∀ o, h1.get? a = some o → h2.get? a = some o) → φ h2
/-- the abstract heap is held -/
def HOk (H : Hp) (h : Heap) : Prop := ∀ a o, H a = some o → ObjOk P w H h a o
end

section
variable {P : Program} {w : World} {H H' : Hp} {h h' : Heap} {a : Addr} {o : HO}
theorem ObjOk.lt (x : ObjOk P w H h a o) : a < h.objs.size := by
  cases o with
  | lst xs => obtain ⟨_, _, _, _, e⟩ := x; exact Heap.lt_size e
  | tup xs => obtain ⟨_, _, _, p⟩ := x; exact p.lt
  | dK kvs => obtain ⟨_, _, _, _, o, _, _, e, _⟩ := x; exact Heap.lt_size e
  | dT kvs => obtain ⟨_, _, _, _, o, _, _, e, _⟩ := x; exact Heap.lt_size e
  | set S n => obtain ⟨o, _, _, _, e, _⟩ := x; exact Heap.lt_size e
  | ins C dx fs => obtain ⟨_, _, _, e, _⟩ := x; exact Heap.lt_size e
  | own y => obtain ⟨_, e⟩ := x; exact Heap.lt_size e
  | xd fs => obtain ⟨_, ⟨_, _, _, e, _⟩, _⟩ := x; exact Heap.lt_size e
  | rng lo hi => obtain ⟨_, _, _, e⟩ := x; exact Heap.lt_size e
  | frz ob u => obtain ⟨e, _⟩ := x; exact Heap.lt_size e
  | tbl ps => exact Heap.lt_size (show h.get? a = some _ from x)
  | met f y => exact Heap.lt_size (show h.get? a = some _ from x)
  | ext φ => obtain ⟨_, ⟨_, e⟩, _⟩ := x; exact Heap.lt_size e
theorem Paired.mapP {α β : Type} {F G : α → β → Prop} : ∀ {l₁ : List α} {l₂ : List β}, Paired F l₁ l₂ → (∀ a b, F a b → G a b) → Paired G l₁ l₂
  | _, _, .nil, _ => .nil
  | _, _, .cons r t, f => .cons (f _ _ r) (Paired.mapP t f)
theorem Paired.imp' {α β : Type} {F G : α → β → Prop} (f : ∀ a b, F a b → G a b) {l₁ : List α} {l₂ : List β} (r : Paired F l₁ l₂) : Paired G l₁ l₂ := Paired.mapP r f
/-- what an object's description leans on: its own object, its own dict, the tuples -/
theorem ObjOk.stay (x : ObjOk P w H h a o) (k : ∀ b u, (b = a ∨ H b = some (.own a)) → h.get? b = some u → h'.get? b = some u)
    (ho : ∀ b, H b = some (.own a) → H' b = some (.own a)) (ht : ∀ b xs, H b = some (.tup xs) → H' b = some (.tup xs)) : ObjOk P w H' h' a o := by
  induction o with
  | lst xs => obtain ⟨z, its, n, r, e⟩ := x; exact ⟨z, its, n, r, k _ _ (.inl rfl) e⟩
  | tup xs => obtain ⟨z, its, r, ob, e, c⟩ := x; exact ⟨z, its, r, ob, k _ _ (.inl rfl) e, c⟩
  | dK kvs => obtain ⟨z, y, vs, r, ob, es, ep, e, c⟩ := x; exact ⟨z, y, vs, r, ob, es, ep, k _ _ (.inl rfl) e, c⟩
  | dT kvs =>
    obtain ⟨z, y, xs, r, ob, es, ep, e, c⟩ := x
    exact ⟨z, y, xs, Paired.mapP r fun p q z => ⟨z.1, ht _ _ z.2.1, z.2.2⟩, ob, es, ep, k _ _ (.inl rfl) e, c⟩
  | set S n => obtain ⟨ob, es, ep, t, e, c⟩ := x; exact ⟨ob, es, ep, t, k _ _ (.inl rfl) e, c⟩
  | ins C dx fs =>
    obtain ⟨d, z, ne, e, mA, ⟨od, es, ep, e2, c⟩, r⟩ := x
    exact ⟨ho _ d, z, ne, k _ _ (.inl rfl) e, mA, ⟨od, es, ep, k _ _ (.inr d) e2, c⟩, r⟩
  | own y => obtain ⟨ob, e⟩ := x; exact ⟨ob, k _ _ (.inl rfl) e⟩
  | xd fs => obtain ⟨mA, ⟨od, es, ep, e, c⟩, r⟩ := x; exact ⟨mA, ⟨od, es, ep, k _ _ (.inl rfl) e, c⟩, r⟩
  | rng lo hi => obtain ⟨t, u, v, e⟩ := x; exact ⟨t, u, v, k _ _ (.inl rfl) e⟩
  | frz ob u ih => obtain ⟨e, q⟩ := x; exact ⟨k _ _ (.inl rfl) e, ih q⟩
  | tbl ps =>
    have e : h.get? a = some { cls := .none, data := .fields ps } := x
    show h'.get? a = some { cls := .none, data := .fields ps }
    exact k a _ (.inl rfl) e
  | met f y =>
    have e : h.get? a = some (PySem.W.methodObj (.ref f) (.ref y)) := x
    show h'.get? a = some (PySem.W.methodObj (.ref f) (.ref y))
    exact k a _ (.inl rfl) e
  | ext φ => obtain ⟨p, ⟨o, e⟩, st⟩ := x; exact ⟨st _ _ p fun o q => k _ _ (.inl rfl) q, ⟨o, k _ _ (.inl rfl) e⟩, st⟩
theorem HOk.lt (x : HOk P w H h) (e : H a = some o) : a < h.objs.size := (x a o e).lt
theorem HOk.fresh (x : HOk P w H h) (e : h.objs.size ≤ a) : H a = none := by
  cases q : H a with
  | none => rfl
  | some u => exact absurd (Nat.lt_of_lt_of_le (x.lt q) e) (Nat.lt_irrefl _)
/-- every object of the heap is kept -/
theorem HOk.kept (x : HOk P w H h) (k : ∀ b u, h.get? b = some u → h'.get? b = some u) : HOk P w H h' := fun a o e =>
  (x a o e).stay (fun b u _ q => k b u q) (fun _ q => q) fun _ _ q => q
/-- a new object is laid and tracked -/
theorem HOk.laid (x : HOk P w H h) (k : ∀ b u, h.get? b = some u → h'.get? b = some u) (hp : h.objs.size ≤ a) (new : ObjOk P w (upd H a o) h' a o) : HOk P w (upd H a o) h' := fun b u e => by
  have hn := x.fresh hp
  by_cases hb : b = a
  · subst hb; rw [upd_same] at e; cases e; exact new
  · rw [upd_ne hb] at e
    exact (x b u e).stay (fun c v _ q => k c v q) (fun c q => by rw [upd_ne (ne_of_none q hn)]; exact q) fun c xs q => by rw [upd_ne (ne_of_none q hn)]; exact q
end

/-- what may be read as u: it is u, or a known u -/
def Rd (H : Hp) (a : Addr) (u : HO) : Prop := H a = some u ∨ ∃ o, H a = some (.frz o u)
theorem Rd.of {H : Hp} {a : Addr} {u : HO} (h : H a = some u) : Rd H a u := .inl h
theorem Rd.ok {P : Program} {w : World} {H : Hp} {h : Heap} {a : Addr} {u : HO} (r : Rd H a u) (x : HOk P w H h) : ObjOk P w H h a u := by
  rcases r with r | ⟨o, r⟩
  · exact x a u r
  · obtain ⟨_, q⟩ := x a _ r
    exact q
/-- what may be written -/
def Mut : Option HO → Prop
  | some (.lst _) => True
  | some (.dK _) => True
  | some (.dT _) => True
  | some (.set _ _) => True
  | some (.ins _ _ _) => True
  | some (.ext _) => True
  | _ => False
section
variable {P : Program} {w : World} {H : Hp} {h h' : Heap} {x e : Addr} {o' : HO}
/-- the object at e is changed: x itself, or the dict of the instance x -/
theorem HOk.write (ok : HOk P w H h) (mu : Mut (H x)) (he : e = x ∨ H e = some (.own x)) (k : ∀ b u, b ≠ e → h.get? b = some u → h'.get? b = some u) (heo : ∃ u, h'.get? e = some u)
    (new : ObjOk P w (upd H x o') h' x o') : HOk P w (upd H x o') h' := fun b u q => by
  have nown : ∀ c y, H c = some (.own y) → c ≠ x := fun c y r z => by subst z; rw [r] at mu; exact mu
  have ntup : ∀ c xs, H c = some (.tup xs) → c ≠ x := fun c xs r z => by subst z; rw [r] at mu; exact mu
  by_cases hb : b = x
  · subst hb; rw [upd_same] at q; cases q; exact new
  · rw [upd_ne hb] at q
    by_cases hbe : b = e
    · have q' : H b = some (.own x) := by
        rcases he with z | z
        · exact absurd (hbe.trans z) hb
        · rw [hbe]; exact z
      rw [q] at q'; cases q'
      obtain ⟨v, hv⟩ := heo
      exact ⟨v, by rw [hbe]; exact hv⟩
    · refine (ok b u q).stay (fun c v hc r => k c v ?_ r) (fun c r => by rw [upd_ne (nown c b r)]; exact r) fun c xs r => by rw [upd_ne (ntup c xs r)]; exact r
      rcases hc with rfl | hc
      · exact hbe
      · rintro rfl
        rcases he with z | z
        · exact nown c b hc z
        · rw [hc] at z; cases z; exact hb rfl
end

/-! ### kept unless tracked; of the frames at fs (the callers') the slots may change (an exception that passes writes there); of the records at ex (iterators) nothing is said -/
structure Un (fs ex : List Addr) (H H' : Hp) (h h' : Heap) : Prop where
  keep : ∀ b o, h.get? b = some o → H b = none → b ∉ fs → b ∉ ex → h'.get? b = some o
  slot : ∀ b o, h.get? b = some o → H b = none → b ∈ fs → b ∉ ex → ∃ sl, h'.get? b = some { o with slots := sl }
  free : ∀ b o, h.get? b = some o → H b = none → b ∉ ex → H' b = none
  there : ∀ b o, h.get? b = some o → b ∉ ex → ∃ o', h'.get? b = some o'
  tups : ∀ b xs, H b = some (.tup xs) → H' b = some (.tup xs)
  frzs : ∀ b o u, H b = some (.frz o u) → H' b = some (.frz o u)
  tbls : ∀ b ps, H b = some (.tbl ps) → ∃ more, H' b = some (.tbl (ps ++ more))
section
variable {fs fs' ex ex' : List Addr} {H H1 H2 : Hp} {h h1 h2 h' : Heap} {a x e : Addr} {o : HO}
theorem Un.any (u : Un fs ex H H1 h h1) {b : Addr} {ob : Obj} (q : h.get? b = some ob) (n : H b = none) (hx : b ∉ ex) : ∃ sl, h1.get? b = some { ob with slots := sl } := by
  by_cases hb : b ∈ fs
  · exact u.slot b ob q n hb hx
  · exact ⟨ob.slots, u.keep b ob q n hb hx⟩
theorem Un.trans (a : Un fs ex H H1 h h1) (b : Un fs ex H1 H2 h1 h2) : Un fs ex H H2 h h2 where
  keep := fun c ob q n hc hx => b.keep c ob (a.keep c ob q n hc hx) (a.free c ob q n hx) hc hx
  slot := fun c ob q n hc hx => by
    obtain ⟨sl, e1⟩ := a.slot c ob q n hc hx
    obtain ⟨sl', e2⟩ := b.slot c _ e1 (a.free c ob q n hx) hc hx
    exact ⟨sl', e2⟩
  free := fun c ob q n hx => by
    obtain ⟨o', e1⟩ := a.there c ob q hx
    exact b.free c o' e1 (a.free c ob q n hx) hx
  there := fun c ob q hx => by
    obtain ⟨o', e1⟩ := a.there c ob q hx
    exact b.there c o' e1 hx
  tups := fun c xs q => b.tups c xs (a.tups c xs q)
  frzs := fun c ob xs q => b.frzs c ob xs (a.frzs c ob xs q)
  tbls := fun c ps q => by
    obtain ⟨m1, e1⟩ := a.tbls c ps q
    obtain ⟨m2, e2⟩ := b.tbls c _ e1
    exact ⟨m1 ++ m2, by rw [e2, Array.append_assoc]⟩
theorem Un.kept (k : ∀ b u, h.get? b = some u → h'.get? b = some u) : Un fs ex H H h h' :=
  ⟨fun b ob q _ _ _ => k b ob q, fun b ob q _ _ _ => ⟨ob.slots, k b ob q⟩, fun _ _ _ n _ => n, fun b ob q _ => ⟨ob, k b ob q⟩, fun _ _ q => q, fun _ _ _ q => q, fun _ ps q => ⟨#[], by rw [q]; simp⟩⟩
theorem Un.refl : Un fs ex H H h h := Un.kept fun _ _ q => q
theorem Un.laid (k : ∀ b u, h.get? b = some u → h'.get? b = some u) (hp : h.objs.size ≤ a) (hn : H a = none) : Un fs ex H (upd H a o) h h' where
  keep := fun b u q _ _ _ => k b u q
  slot := fun b u q _ _ _ => ⟨u.slots, k b u q⟩
  free := fun b u q n _ => by rw [upd_ne (Nat.ne_of_lt (Nat.lt_of_lt_of_le (Heap.lt_size q) hp))]; exact n
  there := fun b u q _ => ⟨u, k b u q⟩
  tups := fun b xs q => by rw [upd_ne (ne_of_none q hn)]; exact q
  frzs := fun b u xs q => by rw [upd_ne (ne_of_none q hn)]; exact q
  tbls := fun b ps q => ⟨#[], by rw [upd_ne (ne_of_none q hn), q]; simp⟩
theorem Un.write (mu : Mut (H x)) (he : e = x ∨ H e = some (.own x)) (k : ∀ b u, b ≠ e → h.get? b = some u → h'.get? b = some u) (heo : ∃ u, h'.get? e = some u) : Un fs ex H (upd H x o) h h' := by
  have hx : ∀ b, H b = none → b ≠ x := fun b n z => by subst z; rw [n] at mu; exact mu
  have hb : ∀ b, H b = none → b ≠ e := fun b n z => by
    subst z
    rcases he with r | r
    · exact hx b n r
    · rw [n] at r; cases r
  have hm : ∀ b u, H b = some u → ¬ Mut (some u) → b ≠ x := fun b u q nm z => by subst z; rw [q] at mu; exact nm mu
  refine ⟨fun b u q n _ _ => k b u (hb b n) q, fun b u q n _ _ => ⟨u.slots, k b u (hb b n) q⟩, fun b u q n _ => by rw [upd_ne (hx b n)]; exact n, fun b u q _ => ?_,
    fun b xs q => by rw [upd_ne (hm b _ q fun z => z)]; exact q, fun b u xs q => by rw [upd_ne (hm b _ q fun z => z)]; exact q, fun b ps q => ⟨#[], by rw [upd_ne (hm b _ q fun z => z), q]; simp⟩⟩
  by_cases hbe : b = e
  · subst hbe; exact heo
  · exact ⟨u, k b u hbe q⟩
theorem Un.mono (u : Un fs ex H H1 h h1) (hs : ∀ b ∈ fs, b ∈ fs') (hx : ∀ b ∈ ex, b ∈ ex') : Un fs' ex' H H1 h h1 :=
  ⟨fun b ob q n hb he => u.keep b ob q n (fun z => hb (hs b z)) fun z => he (hx b z), fun _ _ q n _ he => u.any q n fun z => he (hx _ z), fun b ob q n he => u.free b ob q n fun z => he (hx b z), fun b ob q he => u.there b ob q fun z => he (hx b z), u.tups, u.frzs, u.tbls⟩
end

/-! ### the heap without what is tracked -/
def trk (h : Heap) (H : Hp) : List Addr := (List.range h.objs.size).filter fun a => (H a).isSome
def hidT (h : Heap) (H : Hp) : Heap := PySem.W.hideAll h (trk h H)
theorem hidT_size (h : Heap) (H : Hp) : (hidT h H).objs.size = h.objs.size := PySem.W.hideAll_size _ _
theorem hidT_get {h : Heap} {H : Hp} {b : Addr} {o : Obj} (e : h.get? b = some o) (n : H b = none) : (hidT h H).get? b = some o :=
  PySem.W.hideAll_get _ e fun hm => by
    have q : (H b).isSome = true := (List.mem_filter.mp hm).2
    rw [n] at q; simp at q
theorem of_hidT {h : Heap} {H : Hp} {b : Addr} {o : Obj} (e : (hidT h H).get? b = some o) : h.get? b = some o ∧ H b = none := by
  have e' : h.get? b = some o := PySem.W.of_hideAll (trk h H) e
  refine ⟨e', ?_⟩
  cases q : H b with
  | none => rfl
  | some x =>
    have hm : b ∈ trk h H := List.mem_filter.mpr ⟨List.mem_range.mpr (Heap.lt_size e'), by simp [q]⟩
    have z : (hidT h H).get? b = none := PySem.W.hideAll_none (trk h H) hm
    rw [z] at e; cases e

/-! ### OpenK's ledger, filled with every new object but one -/
def allNews (g h : Heap) (L : Addr) : List (Addr × Obj) := (List.range h.objs.size).filterMap fun a => if a = L ∨ (g.get? a).isSome = true then none else (h.get? a).map fun o => (a, o)
theorem mem_allNews {g h : Heap} {L a : Addr} {o : Obj} (h1 : a ≠ L) (h2 : g.get? a = none) (h3 : h.get? a = some o) : (a, o) ∈ allNews g h L :=
  List.mem_filterMap.mpr ⟨a, List.mem_range.mpr (Heap.lt_size h3), by simp [h1, h2, h3]⟩
theorem of_mem_allNews {g h : Heap} {L : Addr} {p : Addr × Obj} (hp : p ∈ allNews g h L) : p.1 ≠ L ∧ g.get? p.1 = none ∧ h.get? p.1 = some p.2 := by
  obtain ⟨b, _, e⟩ := List.mem_filterMap.mp hp
  split at e
  · cases e
  · rename_i hn
    cases q : h.get? b with
    | none => rw [q] at e; simp at e
    | some u =>
      rw [q] at e
      simp only [Option.map_some, Option.some.injEq] at e
      subst e
      refine ⟨fun z => hn (.inl z), ?_, q⟩
      show g.get? b = none
      cases r : g.get? b with
      | none => rfl
      | some v => exact (hn (.inr (by simp [r]))).elim
def rest (g h : Heap) (L d : Addr) : List (Addr × Obj) := (allNews g h L).filter fun p => decide (p.1 ≠ d)
theorem rest_ne {g h : Heap} {L d : Addr} : ∀ p ∈ rest g h L d, p.1 ≠ d := fun p hp => of_decide_eq_true (List.mem_filter.mp hp).2
theorem mem_rest {g h : Heap} {L d a : Addr} {o : Obj} (h1 : a ≠ L) (h2 : g.get? a = none) (h3 : h.get? a = some o) (h4 : a ≠ d) : (a, o) ∈ rest g h L d :=
  List.mem_filter.mpr ⟨mem_allNews h1 h2 h3, decide_eq_true h4⟩
theorem news_all {g h : Heap} {L : Addr} : News g L h (allNews g h L) := fun p hp => let ⟨a, b, c⟩ := of_mem_allNews hp; ⟨c, a, b⟩
theorem news_at {g h : Heap} {L d : Addr} {o : Obj} (h1 : d ≠ L) (h2 : g.get? d = none) (h3 : h.get? d = some o) : News g L h ((d, o) :: rest g h L d) := fun p hp => by
  rcases List.mem_cons.mp hp with rfl | hp
  · exact ⟨h3, h1, h2⟩
  · exact news_all p (List.mem_filter.mp hp).1
/-- behind a rule that changed d alone: all else but the frame is kept -/
theorem kept_of_news {g h h' : Heap} {L d : Addr} {m : Str → Option Value} (k : ∀ b o, g.get? b = some o → h.get? b = some o) (F : Fr g L h' m) (N : News g L h' (rest g h L d)) :
    ∀ b o, b ≠ L → b ≠ d → h.get? b = some o → h'.get? b = some o := fun b o h1 h2 e => by
  cases q : g.get? b with
  | some u =>
    have := k b u q
    rw [e] at this; cases this
    exact F.keep b _ q
  | none => exact (N (b, o) (mem_rest h1 q e h2)).1
end L2

namespace L2
open PySem PySem.Spec PyProof.Rows

/-- the module's facts, over the base: the heap at the law's entry without what is tracked there -/
structure Mod (K : PySem.W.Frag) (mg : Str → Option Value) (base : Heap) : Prop where
  kin : K.In base
  glob : base.Ns mainGlobals mg
  blt : ∃ mb, base.Ns builtinsNs mb ∧ ∀ x : Str, x ≠ "__name__" → mb x = bootBuiltins x
  nolimit : base.NoLimit

/-- the context: a def's body (or a comprehension's block) running. base: fixed through the whole law; s₀, H₀: the entry; outer: the frames whose slots others may change (a def's callers); stack: all frames that run;
   ex: iterators that were made ahead of the entry and are walked here (a comprehension's); fn: the names whose cells were made at the entry (a def: all; a comprehension's block: its own); calm: not within an except suite; pn: pins that every state bears; xe: what is wanted of an exception that leaves the code -/
structure Cx where
  prog : Program
  w : World
  K : PySem.W.Frag
  mg : Str → Option Value
  base : Heap
  A : Around
  N : List Str
  s₀ : Shared
  H₀ : Hp
  env : Env
  outer : List Env
  stack : List Env
  ex : List Addr
  fn : Str → Bool
  calm : Bool
  pn : List (Addr × Obj)
  xe : Value → Shared → Prop
/-- the callers' frames -/
def frs (l : List Env) : List Addr := l.filterMap (·.frame)
abbrev Cx.fs (X : Cx) : List Addr := frs X.outer

def Vis (sc : Scope) (x : Str) : Prop := sc.names.lookup x = some .local ∨ sc.names.lookup x = some .cell ∨ sc.names.lookup x = some .free
def Loc (sc : Scope) (x : Str) : Prop := sc.names.lookup x = some .local ∨ sc.names.lookup x = some .cell
def Look (env : Env) (h : Heap) (m : Str → Option Value) (x : Str) (u : Value) : Prop :=
  (env.kindOf x = some .local ∧ m x = some u) ∨ ((env.kindOf x = some .cell ∨ env.kindOf x = some .free) ∧ ∃ c, env.cells.lookup x = some c ∧ h.IsCell c (some u))

structure Cx.Ok (X : Cx) : Prop where
  mod : Mod X.K X.mg X.base
  kind : X.env.scope.kind = .function
  glob : X.env.globals = mainGlobals
  blt : X.env.builtins = builtinsNs
  above : X.s₀.heap.objs.size ≤ X.env.locals
  inj : ∀ x y c, X.env.cells.lookup x = some c → X.env.cells.lookup y = some c → x = y
  has : ∀ x, (X.env.kindOf x = some .cell ∨ X.env.kindOf x = some .free) → ∃ c, X.env.cells.lookup x = some c
  cab : ∀ x c, X.fn x = true → X.env.cells.lookup x = some c → X.s₀.heap.objs.size ≤ c
  hd : X.calm = true → X.A.handled = none
  frames : X.A.frames = some X.stack
  stk : X.stack = X.outer ∨ (X.stack = X.env :: X.outer ∧ X.env.frame = some X.env.locals)
  exf : ∀ b ∈ X.ex, b ≠ X.env.locals ∧ ∀ x c, X.env.cells.lookup x = some c → c ≠ b
  bs : ∀ b o, X.base.get? b = some o → X.s₀.heap.get? b = some o ∧ X.H₀ b = none
  bsz : X.base.objs.size ≤ X.s₀.heap.objs.size
  noex : ∀ b o, X.base.get? b = some o → b ∉ X.ex
  exfs : ∀ b ∈ X.ex, b ∉ X.fs
  funs : X.s₀.heap.FunFrames X.base X.outer
  frf : ∀ b ∈ X.fs, X.H₀ b = none

structure Inv (X : Cx) (pins : List (Addr × Obj)) (σ : List (Option V)) (H : Hp) (s : Shared) : Prop where
  ok : X.Ok
  os : s.os = X.s₀.os
  bare : AllBare s.gens
  base : Un X.fs X.ex X.H₀ H X.s₀.heap s.heap
  loc : ∃ m, s.heap.Ns X.env.locals m ∧ ∀ (i : Nat) (x : Str) (v : V), X.N[i]? = some x → σ[i]? = some (some v) → Vis X.env.scope x → ∃ u, RelV v u ∧ Look X.env s.heap m x u
  cell : ∀ x c, X.env.cells.lookup x = some c → ∃ v, s.heap.IsCell c v
  free : H X.env.locals = none
  freeC : ∀ x c, X.env.cells.lookup x = some c → H c = none
  pin : ∀ p ∈ X.pn ++ pins, s.heap.get? p.1 = some p.2 ∧ H p.1 = none ∧ p.1 ≠ X.env.locals ∧ p.1 ∉ X.fs ∧ ∀ v, p.2.data ≠ .cell v
  hok : HOk X.prog X.w H s.heap
  len : σ.length = X.N.length

section
variable {X : Cx} {pins : List (Addr × Obj)} {σ : List (Option V)} {H H' : Hp} {s : Shared} {h' : Heap}

theorem Cx.Ok.nofr (ok : X.Ok) {b : Addr} {o : Obj} (e : X.base.get? b = some o) : b ∉ X.fs := fun hb => by
  have := (ok.funs.mem hb).1
  rw [e] at this; cases this
theorem Inv.bs (I : Inv X pins σ H s) : ∀ b o, X.base.get? b = some o → s.heap.get? b = some o ∧ H b = none := fun b o e =>
  ⟨I.base.keep b o (I.ok.bs b o e).1 (I.ok.bs b o e).2 (I.ok.nofr e) (I.ok.noex b o e), I.base.free b o (I.ok.bs b o e).1 (I.ok.bs b o e).2 (I.ok.noex b o e)⟩
theorem Inv.bk (I : Inv X pins σ H s) : ∀ b o, X.base.get? b = some o → s.heap.get? b = some o := fun b o e => (I.bs b o e).1
theorem Inv.mod (I : Inv X pins σ H s) : Mod X.K X.mg X.base := I.ok.mod
theorem Inv.kIn (I : Inv X pins σ H s) : X.K.In s.heap := I.ok.mod.kin.keeps I.bk
theorem Inv.nolimit (I : Inv X pins σ H s) : s.heap.NoLimit := I.ok.mod.nolimit.keeps I.bk
/-- the frame over the base: for OpenK's rules (K.In X.base is I.mod.kin) -/
theorem Inv.fr (I : Inv X pins σ H s) : ∃ m, Fr X.base X.env.locals s.heap m :=
  let ⟨m, hn, _⟩ := I.loc
  ⟨m, hn, I.bk, Nat.le_trans I.ok.bsz I.ok.above⟩
theorem Inv.lt (I : Inv X pins σ H s) : X.env.locals < s.heap.objs.size := let ⟨_, hn, _⟩ := I.loc; hn.lt
theorem Inv.sz (I : Inv X pins σ H s) : X.s₀.heap.objs.size ≤ s.heap.objs.size := Nat.le_trans I.ok.above (Nat.le_of_lt I.lt)
theorem Inv.nofs (I : Inv X pins σ H s) {a : Addr} (h : s.heap.objs.size ≤ a) : a ∉ X.fs := fun hb => by
  obtain ⟨_, o, ho, _⟩ := I.ok.funs.mem hb
  exact absurd (Nat.lt_of_lt_of_le (Heap.lt_size ho) (Nat.le_trans I.sz h)) (Nat.lt_irrefl _)
theorem Inv.cne (I : Inv X pins σ H s) : ∀ x c, X.env.cells.lookup x = some c → c ≠ X.env.locals := fun x c e z => by
  obtain ⟨v, o, ho, hd⟩ := I.cell x c e
  obtain ⟨m, ⟨o', es, ep, ho', hd', _⟩, _⟩ := I.loc
  rw [z, ho'] at ho; cases ho; rw [hd'] at hd; cases hd
theorem Inv.funs (I : Inv X pins σ H s) : s.heap.FunFrames X.base X.outer := by
  have all : ∀ (l : List Env), (∀ b ∈ frs l, b ∈ X.fs) → X.s₀.heap.FunFrames X.base l → s.heap.FunFrames X.base l := by
    intro l
    induction l with
    | nil => intro _ _; trivial
    | cons env r ih =>
      intro hs hl
      obtain ⟨hk, ⟨L, o, hf, hn, ho, hd⟩, hr⟩ := hl
      have hL : L ∈ X.fs := hs L (by unfold frs; rw [List.filterMap_cons, hf]; exact List.mem_cons_self)
      obtain ⟨sl, e⟩ := I.base.slot L o ho (I.ok.frf L hL) hL fun z => I.ok.exfs L z hL
      exact ⟨hk, ⟨L, _, hf, hn, e, hd⟩, ih (fun b hb => hs b (by unfold frs; rw [List.filterMap_cons, hf]; exact List.mem_cons_of_mem _ hb)) hr⟩
  exact all X.outer (fun _ hb => hb) I.ok.funs

/-- the frames that run, for a call -/
theorem Inv.stack (I : Inv X pins σ H s) : s.heap.FunFrames X.base X.stack := by
  rcases I.ok.stk with e | ⟨e, hf⟩
  · rw [e]; exact I.funs
  · rw [e]
    obtain ⟨m, hn, _⟩ := I.loc
    refine .cons (by rw [I.ok.kind]; decide) hf hn ?_ I.funs
    exact Heap.get?_none_of_le (Nat.le_trans I.ok.bsz I.ok.above)
theorem Inv.stkSub (I : Inv X pins σ H s) : ∀ b ∈ frs X.stack, b ∈ X.env.locals :: X.fs := fun b hb => by
  rcases I.ok.stk with e | ⟨e, hf⟩
  · rw [e] at hb; exact List.mem_cons_of_mem _ hb
  · rw [e] at hb
    unfold frs at hb
    rw [List.filterMap_cons, hf] at hb
    exact hb
theorem Inv.stkFree (I : Inv X pins σ H s) : ∀ b ∈ frs X.stack, H b = none := fun b hb => by
  rcases List.mem_cons.mp (I.stkSub b hb) with e | hb
  · rw [e]; exact I.free
  · obtain ⟨_, o, ho, _⟩ := I.ok.funs.mem hb
    exact I.base.free b o ho (I.ok.frf b hb) fun z => I.ok.exfs b z hb

/-- THE STEP: the untracked objects but the frame and the records at ch are kept (the callers' frames up to slots), the frame's map is kept, the new abstract heap is held -/
theorem Inv.step {g' : Array GenState} {t' : Nat} {d' : Drawn} {ch : List Addr} (I : Inv X pins σ H s)
    (hch : ∀ b ∈ ch, (b ∈ X.ex ∨ X.s₀.heap.objs.size ≤ b) ∧ b ≠ X.env.locals ∧ (∀ x c, X.env.cells.lookup x = some c → c ≠ b) ∧ ∀ p ∈ X.pn ++ pins, p.1 ≠ b)
    (keep : ∀ b o, b ≠ X.env.locals → b ∉ X.fs → b ∉ ch → s.heap.get? b = some o → H b = none → h'.get? b = some o)
    (slot : ∀ b o, b ≠ X.env.locals → b ∈ X.fs → b ∉ ch → s.heap.get? b = some o → H b = none → ∃ sl, h'.get? b = some { o with slots := sl }) (free : ∀ b o, b ∉ ch → s.heap.get? b = some o → H b = none → H' b = none)
    (there : ∀ b o, b ∉ ch → s.heap.get? b = some o → ∃ o', h'.get? b = some o')
    (tups : ∀ b xs, H b = some (.tup xs) → H' b = some (.tup xs)) (frzs : ∀ b o u, H b = some (.frz o u) → H' b = some (.frz o u)) (tbls : ∀ b ps, H b = some (.tbl ps) → ∃ more, H' b = some (.tbl (ps ++ more)))
    (ns : ∀ m, s.heap.Ns X.env.locals m → h'.Ns X.env.locals m) (hok : HOk X.prog X.w H' h') (hg : AllBare g') :
    Inv X pins σ H' { s with heap := h', gens := g', drawn := d', toks := t' } := by
  have neL : ∀ b o, X.s₀.heap.get? b = some o → b ≠ X.env.locals := fun b o e => Nat.ne_of_lt (Nat.lt_of_lt_of_le (Heap.lt_size e) I.ok.above)
  have neC : ∀ b o, X.s₀.heap.get? b = some o → b ∉ X.ex → b ∉ ch := fun b o e hx hb => by
    rcases (hch b hb).1 with z | z
    · exact hx z
    · exact absurd (Nat.lt_of_lt_of_le (Heap.lt_size e) z) (Nat.lt_irrefl _)
  have cellK : ∀ x c, X.env.cells.lookup x = some c → ∀ v, s.heap.IsCell c v → h'.IsCell c v := fun x c e v ⟨o, ho, hd⟩ => by
    have nch : c ∉ ch := fun z => (hch c z).2.2.1 x c e rfl
    by_cases hc : c ∈ X.fs
    · obtain ⟨sl, q⟩ := slot c o (I.cne x c e) hc nch ho (I.freeC x c e)
      exact ⟨_, q, hd⟩
    · exact ⟨o, keep c o (I.cne x c e) hc nch ho (I.freeC x c e), hd⟩
  refine ⟨I.ok, I.os, hg, ⟨fun b o e n hb hx => ?_, fun b o e n hb hx => ?_, fun b o e n hx => ?_, fun b o e hx => ?_, fun b xs e => tups b xs (I.base.tups b xs e), fun b o xs e => frzs b o xs (I.base.frzs b o xs e), fun b ps e => ?_⟩, ?_, fun x c e => ?_, ?_, fun x c e => ?_, fun p hp => ?_, hok, I.len⟩
  · exact keep b o (neL b o e) hb (neC b o e hx) (I.base.keep b o e n hb hx) (I.base.free b o e n hx)
  · obtain ⟨sl, e1⟩ := I.base.slot b o e n hb hx
    obtain ⟨sl', e2⟩ := slot b _ (neL b o e) hb (neC b o e hx) e1 (I.base.free b o e n hx)
    exact ⟨sl', e2⟩
  · obtain ⟨o', e1⟩ := I.base.there b o e hx
    exact free b o' (neC b o e hx) e1 (I.base.free b o e n hx)
  · obtain ⟨o', e1⟩ := I.base.there b o e hx
    exact there b o' (neC b o e hx) e1
  · obtain ⟨m1, e1⟩ := I.base.tbls b ps e
    obtain ⟨m2, e2⟩ := tbls b _ e1
    exact ⟨m1 ++ m2, by rw [e2, Array.append_assoc]⟩
  · obtain ⟨m, hn, hl⟩ := I.loc
    refine ⟨m, ns m hn, fun i x v e1 e2 e3 => ?_⟩
    obtain ⟨u, r, l⟩ := hl i x v e1 e2 e3
    refine ⟨u, r, ?_⟩
    rcases l with l | ⟨k, c, e, z⟩
    · exact .inl l
    · exact .inr ⟨k, c, e, cellK x c e _ z⟩
  · obtain ⟨v, z⟩ := I.cell x c e
    exact ⟨v, cellK x c e v z⟩
  · obtain ⟨m, ⟨o, _, _, ho, _⟩, _⟩ := I.loc
    exact free _ o (fun z => (hch _ z).2.1 rfl) ho I.free
  · obtain ⟨v, o, ho, hd⟩ := I.cell x c e
    exact free c o (fun z => (hch c z).2.2.1 x c e rfl) ho (I.freeC x c e)
  · obtain ⟨e, n, ne, nf, d⟩ := I.pin p hp
    have nch : p.1 ∉ ch := fun z => (hch p.1 z).2.2.2 p hp rfl
    exact ⟨keep p.1 p.2 ne nf nch e n, free p.1 p.2 nch e n, ne, nf, d⟩
/-- .. where the frame's own object is kept too -/
theorem Inv.un {t' : Nat} (I : Inv X pins σ H s) (u : Un X.fs [] H H' s.heap h') (hok : HOk X.prog X.w H' h') : Inv X pins σ H' { s with heap := h', toks := t' } := by
  obtain ⟨m, ⟨o, es, ep, ho, r⟩, _⟩ := id I.loc
  obtain ⟨sl, hL⟩ := u.any ho I.free (by simp)
  exact I.step (g' := s.gens) (d' := s.drawn) (ch := []) (fun _ z => nomatch z) (fun b o _ hb _ e n => u.keep b o e n hb (by simp)) (fun b o _ hb _ e n => u.slot b o e n hb (by simp)) (fun b o _ e n => u.free b o e n (by simp)) (fun b o _ e => u.there b o e (by simp)) u.tups u.frzs u.tbls (fun m' hm => by
    obtain ⟨o', es', ep', ho', r'⟩ := hm
    rw [ho] at ho'; cases ho'
    exact ⟨_, es', ep', hL, r'⟩) hok I.bare
/-- behind a call (or a comprehension's block): the slots of this frame may have changed too, the records at ch may have turned -/
theorem Inv.call {g' : Array GenState} {t' : Nat} {d' : Drawn} {ch : List Addr} (I : Inv X pins σ H s) (u : Un (frs X.stack) ch H H' s.heap h') (hok : HOk X.prog X.w H' h') (hg : AllBare g')
    (hch : ∀ b ∈ ch, (b ∈ X.ex ∨ X.s₀.heap.objs.size ≤ b) ∧ b ≠ X.env.locals ∧ (∀ x c, X.env.cells.lookup x = some c → c ≠ b) ∧ ∀ p ∈ X.pn ++ pins, p.1 ≠ b) :
    Inv X pins σ H' { s with heap := h', gens := g', drawn := d', toks := t' } := by
  obtain ⟨m, ⟨o, es, ep, ho, r⟩, _⟩ := id I.loc
  obtain ⟨sl, hL⟩ := u.any ho I.free fun z => (hch _ z).2.1 rfl
  exact I.step (ch := ch) hch (fun b o hL hb hc e n => u.keep b o e n (fun z => (List.mem_cons.mp (I.stkSub b z)).elim hL hb) hc) (fun b o _ _ hc e n => u.any e n hc) (fun b o hc e n => u.free b o e n hc) (fun b o hc e => u.there b o e hc) u.tups u.frzs u.tbls (fun m' hm => by
    obtain ⟨o', es', ep', ho', r'⟩ := hm
    rw [ho] at ho'; cases ho'
    exact ⟨_, es', ep', hL, r'⟩) hok hg
/-- an untracked record of ours (an iterator) has turned -/
theorem Inv.turned {t' : Nat} {it : Addr} (I : Inv X pins σ H s) (k : ∀ b o, b ≠ it → s.heap.get? b = some o → h'.get? b = some o) (hn : H it = none) (hL : it ≠ X.env.locals)
    (h1 : it ∈ X.ex ∨ X.s₀.heap.objs.size ≤ it) (h2 : ∀ x c, X.env.cells.lookup x = some c → c ≠ it) (h3 : ∀ p ∈ X.pn ++ pins, p.1 ≠ it) : Inv X pins σ H { s with heap := h', toks := t' } := by
  have nit : ∀ b u, H b = some u → b ≠ it := fun b u e z => by rw [z, hn] at e; cases e
  refine I.step (g' := s.gens) (d' := s.drawn) (ch := [it]) (fun b hb => ?_) (fun b o _ _ hc e _ => k b o (fun z => hc (by simp [z])) e) (fun b o _ _ hc e _ => ⟨o.slots, k b o (fun z => hc (by simp [z])) e⟩) (fun _ _ _ _ n => n)
    (fun b o hc e => ⟨o, k b o (fun z => hc (by simp [z])) e⟩) (fun _ _ e => e) (fun _ _ _ e => e) (fun b ps e => ⟨#[], by rw [e]; simp⟩) (fun m hm => ?_) (fun b u e => ?_) I.bare
  · have e : b = it := by simpa using hb
    subst e
    exact ⟨h1, hL, h2, h3⟩
  · obtain ⟨o, es, ep, ho, r⟩ := hm
    exact ⟨o, es, ep, k _ o (Ne.symm hL) ho, r⟩
  · refine (I.hok b u e).stay (fun c v hc q => k c v ?_ q) (fun _ q => q) fun _ _ q => q
    rcases hc with z | z
    · rw [z]; exact nit b u e
    · exact nit c _ z
theorem Inv.tok (I : Inv X pins σ H s) (t : Nat) : Inv X pins σ H { s with toks := t } := I.un (h' := s.heap) (t' := t) Un.refl I.hok
/-- all objects kept -/
theorem Inv.kept {t' : Nat} (I : Inv X pins σ H s) (k : ∀ b u, s.heap.get? b = some u → h'.get? b = some u) : Inv X pins σ H { s with heap := h', toks := t' } := I.un (Un.kept k) (I.hok.kept k)
/-- a new object laid and tracked -/
theorem Inv.laid {a : Addr} {o : HO} {t' : Nat} (I : Inv X pins σ H s) (k : ∀ b u, s.heap.get? b = some u → h'.get? b = some u) (hp : s.heap.objs.size ≤ a) (new : ObjOk X.prog X.w (upd H a o) h' a o) :
    Inv X pins σ (upd H a o) { s with heap := h', toks := t' } := I.un (Un.laid k hp (I.hok.fresh hp)) (I.hok.laid k hp new)
/-- an object written -/
theorem Inv.write {x e : Addr} {o : HO} {t' : Nat} (I : Inv X pins σ H s) (mu : Mut (H x)) (he : e = x ∨ H e = some (.own x)) (k : ∀ b u, b ≠ e → s.heap.get? b = some u → h'.get? b = some u) (heo : ∃ u, h'.get? e = some u)
    (new : ObjOk X.prog X.w (upd H x o) h' x o) : Inv X pins σ (upd H x o) { s with heap := h', toks := t' } := I.un (Un.write mu he k heo) (I.hok.write mu he k heo new)
/-- forgetting slots, pins -/
theorem Inv.weak {σ' : List (Option V)} (I : Inv X pins σ H s) (hl : σ'.length = σ.length) (w : ∀ (i : Nat) v, σ'[i]? = some (some v) → σ[i]? = some (some v)) : Inv X pins σ' H s :=
  ⟨I.ok, I.os, I.bare, I.base, let ⟨m, hn, hl'⟩ := I.loc; ⟨m, hn, fun i x v e1 e2 e3 => hl' i x v e1 (w i v e2) e3⟩, I.cell, I.free, I.freeC, I.pin, I.hok, hl.trans I.len⟩
theorem Inv.pins_of {pins' : List (Addr × Obj)} (I : Inv X pins σ H s) (h : ∀ p ∈ pins', s.heap.get? p.1 = some p.2 ∧ H p.1 = none ∧ p.1 ≠ X.env.locals ∧ p.1 ∉ X.fs ∧ ∀ v, p.2.data ≠ .cell v) : Inv X pins' σ H s :=
  ⟨I.ok, I.os, I.bare, I.base, I.loc, I.cell, I.free, I.freeC, fun p hp => (List.mem_append.mp hp).elim (fun z => I.pin p (List.mem_append_left _ z)) (h p), I.hok, I.len⟩

theorem nodup_ix {N : List Str} (hN : N.Nodup) {i j : Nat} {x : Str} (a : N[i]? = some x) (b : N[j]? = some x) : i = j := by
  obtain ⟨h1, e1⟩ := List.getElem?_eq_some_iff.mp a
  obtain ⟨h2, e2⟩ := List.getElem?_eq_some_iff.mp b
  exact (List.getElem_inj hN).mp (e1.trans e2.symm)

/-- a name is stored; what changed -/
theorem store_ok2 {M : Model} {A : Around} {E : Value → Shared → Prop} {i : Nat} {x : Str} {v : V} {u : Value} {Q : Unit → Shared → Prop} (I : Inv X pins σ H s) (hN : X.N.Nodup) (hi : X.N[i]? = some x) (hx : Loc X.env.scope x) (r : RelV v u)
    (h : ∀ s', Inv X pins (σ.set i (some v)) H s' → (∃ a, Heap.SameBut a s.heap s'.heap ∧ (a = X.env.locals ∨ X.env.cells.lookup x = some a)) → Q () s') (hf : X.fn x = true ∨ X.env.scope.names.lookup x = some .local := by first | exact .inl rfl | exact .inr rfl | assumption) : wpAny M A (storeName X.env x u) Q E s := by
  obtain ⟨m, hn, hl⟩ := id I.loc
  have hcls : (X.env.scope.kind == .class || (X.env.scope.kind == .module && X.env.locals != X.env.globals)) = false := by rw [I.ok.kind]; rfl
  have hiσ : i < σ.length := by rw [I.len]; exact (List.getElem?_eq_some_iff.mp hi).1
  have cne := I.cne
  have tracked : ∀ {a : Addr} {h' : Heap}, (∃ o, s.heap.get? a = some o ∧ H a = none) → Heap.SameBut a s.heap h' → HOk X.prog X.w H h' := fun {a h'} ha hs b ob e => by
    obtain ⟨_, _, hfree⟩ := ha
    refine (I.hok b ob e).stay (fun c w' hc q => (hs.2 c ?_).trans q) (fun _ q => q) fun _ _ q => q
    rintro rfl
    rcases hc with rfl | hc
    · rw [hfree] at e; cases e
    · rw [hfree] at hc; cases hc
  rcases hx with hk | hk
  · refine wpAny_storeName_local hk hn (fun h' hn' hs => ?_) hcls
    obtain ⟨oL, _, _, hoL, _⟩ := id hn
    refine h _ ⟨I.ok, I.os, I.bare, ⟨fun b o e n hb hx => ?_, fun b o e n hb hx => ?_, I.base.free, fun b o e hx => ?_, I.base.tups, I.base.frzs, I.base.tbls⟩, ⟨_, hn', fun j y v' e1 e2 e3 => ?_⟩, fun y c e => ?_, I.free, I.freeC, fun p hp => ?_, tracked ⟨oL, hoL, I.free⟩ hs, by simpa using I.len⟩ ⟨_, hs, .inl rfl⟩
    · exact (hs.2 b (Nat.ne_of_lt (Nat.lt_of_lt_of_le (Heap.lt_size e) I.ok.above))).trans (I.base.keep b o e n hb hx)
    · obtain ⟨sl, e1⟩ := I.base.slot b o e n hb hx
      exact ⟨sl, (hs.2 b (Nat.ne_of_lt (Nat.lt_of_lt_of_le (Heap.lt_size e) I.ok.above))).trans e1⟩
    · obtain ⟨o', e1⟩ := I.base.there b o e hx
      exact ⟨o', (hs.2 b (Nat.ne_of_lt (Nat.lt_of_lt_of_le (Heap.lt_size e) I.ok.above))).trans e1⟩
    · by_cases hj : j = i
      · subst hj
        rw [hi] at e1; cases e1
        rw [List.getElem?_set_self hiσ] at e2
        cases e2
        exact ⟨u, r, .inl ⟨hk, by simp⟩⟩
      · rw [List.getElem?_set_ne (Ne.symm hj)] at e2
        obtain ⟨u', r', q⟩ := hl j y v' e1 e2 e3
        refine ⟨u', r', ?_⟩
        rcases q with ⟨k, e⟩ | ⟨k, c, e, z⟩
        · refine .inl ⟨k, ?_⟩
          have : y ≠ x := fun e => hj (nodup_ix hN e1 (e ▸ hi))
          simp [this, e]
        · exact .inr ⟨k, c, e, z.sameBut hs (cne y c e)⟩
    · obtain ⟨w', z⟩ := I.cell y c e
      exact ⟨w', z.sameBut hs (cne y c e)⟩
    · obtain ⟨e, n, ne, nf, d⟩ := I.pin p hp
      exact ⟨(hs.2 p.1 ne).trans e, n, ne, nf, d⟩
  · have hfn : X.fn x = true := by
      rcases hf with z | z
      · exact z
      · rw [z] at hk; cases hk
    obtain ⟨c, hc⟩ := I.ok.has x (.inl hk)
    obtain ⟨w', z⟩ := I.cell x c hc
    refine wpAny_storeName_cell I.ok.kind hk hc z (fun h' hc' hs => ?_)
    obtain ⟨oc, hoc, hocd⟩ := id z
    refine h { s with heap := h' } ⟨I.ok, I.os, I.bare, ⟨fun b o e n hb hx => ?_, fun b o e n hb hx => ?_, I.base.free, fun b o e hx => ?_, I.base.tups, I.base.frzs, I.base.tbls⟩, ⟨m, hn.sameBut hs (Ne.symm (cne x c hc)), fun j y v' e1 e2 e3 => ?_⟩, fun y c' e => ?_, I.free, I.freeC, fun p hp => ?_, tracked ⟨oc, hoc, I.freeC x c hc⟩ hs, by simpa using I.len⟩ ⟨c, hs, .inr hc⟩
    · exact (hs.2 b (Nat.ne_of_lt (Nat.lt_of_lt_of_le (Heap.lt_size e) (I.ok.cab x c hfn hc)))).trans (I.base.keep b o e n hb hx)
    · obtain ⟨sl, e1⟩ := I.base.slot b o e n hb hx
      exact ⟨sl, (hs.2 b (Nat.ne_of_lt (Nat.lt_of_lt_of_le (Heap.lt_size e) (I.ok.cab x c hfn hc)))).trans e1⟩
    · obtain ⟨o', e1⟩ := I.base.there b o e hx
      exact ⟨o', (hs.2 b (Nat.ne_of_lt (Nat.lt_of_lt_of_le (Heap.lt_size e) (I.ok.cab x c hfn hc)))).trans e1⟩
    · by_cases hj : j = i
      · subst hj
        rw [hi] at e1; cases e1
        rw [List.getElem?_set_self hiσ] at e2
        cases e2
        exact ⟨u, r, .inr ⟨.inl hk, c, hc, hc'⟩⟩
      · rw [List.getElem?_set_ne (Ne.symm hj)] at e2
        obtain ⟨u', r', q⟩ := hl j y v' e1 e2 e3
        refine ⟨u', r', ?_⟩
        rcases q with q | ⟨k, c', e, z'⟩
        · exact .inl q
        · refine .inr ⟨k, c', e, z'.sameBut hs ?_⟩
          rintro rfl
          exact hj (nodup_ix hN e1 (I.ok.inj _ _ _ e hc ▸ hi))
    · by_cases hcc : c' = c
      · subst hcc; exact ⟨_, hc'⟩
      · obtain ⟨w2, z2⟩ := I.cell y c' e
        exact ⟨w2, z2.sameBut hs hcc⟩
    · obtain ⟨e, n, ne, nf, d⟩ := I.pin p hp
      refine ⟨(hs.2 p.1 ?_).trans e, n, ne, nf, d⟩
      intro q
      rw [q, hoc] at e
      have q' : oc = p.2 := Option.some.inj e
      exact d w' (by rw [← q']; exact hocd)
theorem store_ok {M : Model} {A : Around} {E : Value → Shared → Prop} {i : Nat} {x : Str} {v : V} {u : Value} {Q : Unit → Shared → Prop} (I : Inv X pins σ H s) (hN : X.N.Nodup) (hi : X.N[i]? = some x) (hx : Loc X.env.scope x) (r : RelV v u)
    (h : ∀ s', Inv X pins (σ.set i (some v)) H s' → Q () s') (hf : X.fn x = true ∨ X.env.scope.names.lookup x = some .local := by first | exact .inl rfl | exact .inr rfl | assumption) : wpAny M A (storeName X.env x u) Q E s :=
  store_ok2 I hN hi hx r (fun s' I' _ => h s' I') hf
/-- behind a call or a block, the state as it is -/
theorem Inv.call' {s' : Shared} {ch : List Addr} (I : Inv X pins σ H s) (ho : s'.os = s.os) (u : Un (frs X.stack) ch H H' s.heap s'.heap) (hok : HOk X.prog X.w H' s'.heap) (hg : AllBare s'.gens)
    (hch : ∀ b ∈ ch, (b ∈ X.ex ∨ X.s₀.heap.objs.size ≤ b) ∧ b ≠ X.env.locals ∧ (∀ x c, X.env.cells.lookup x = some c → c ≠ b) ∧ ∀ p ∈ X.pn ++ pins, p.1 ≠ b) : Inv X pins σ H' s' := by
  obtain ⟨h', g', d', t', o'⟩ := s'
  have e : o' = s.os := ho
  subst e
  exact I.call (g' := g') (t' := t') (d' := d') u hok hg hch
end

/-! ### the judgements -/
/-- an exception: its class, its own dict's address (where it has one), the abstract heap behind it -/
abbrev XK := Value → Option Addr → Hp → Prop
abbrev St := List (Option V)
abbrev VK := V → Hp → Prop
/-- an expression's reading; a test's; an argument list's -/
abbrev TE := St → Hp → VK → Prop
abbrev TT := St → Hp → (Bool → Hp → Prop) → Prop
abbrev TA := St → Hp → (List V → Hp → Prop) → Prop
/-- what is wanted behind a statement -/
structure Ends where
  nx : St → Hp → Prop
  rt : VK
  bk : St → Hp → Prop := fun _ _ => False
  ct : St → Hp → Prop := fun _ _ => False
abbrev TS := Ends → St → Hp → Prop

def EP (X : Cx) (pins : List (Addr × Obj)) (σ : St) (Q : VK) (u : Value) (s' : Shared) : Prop := ∃ v H', Inv X pins σ H' s' ∧ RelV v u ∧ Q v H'
def TP (X : Cx) (pins : List (Addr × Obj)) (σ : St) (Q : Bool → Hp → Prop) (b : Bool) (s' : Shared) : Prop := ∃ H', Inv X pins σ H' s' ∧ Q b H'
def AP (X : Cx) (pins : List (Addr × Obj)) (σ : St) (Q : List V → Hp → Prop) (us : List Value) (s' : Shared) : Prop := ∃ vs H', Inv X pins σ H' s' ∧ Vals vs us ∧ Q vs H'
def SP (X : Cx) (pins : List (Addr × Obj)) (D : Ends) (f : Flow) (s' : Shared) : Prop :=
  match f with
  | .next => ∃ σ' H', Inv X pins σ' H' s' ∧ D.nx σ' H'
  | .brk => ∃ σ' H', Inv X pins σ' H' s' ∧ D.bk σ' H'
  | .cont => ∃ σ' H', Inv X pins σ' H' s' ∧ D.ct σ' H'
  | .ret u => ∃ v σ' H', Inv X pins σ' H' s' ∧ RelV v u ∧ D.rt v H'

def PE (X : Cx) (e : Expr) (t : TE) : Prop :=
  ∀ (pins : List (Addr × Obj)) (s : Shared) (σ : St) (H : Hp) (Q : VK), Inv X pins σ H s → t σ H Q → wpAny (model X.prog X.w) X.A (eval e X.env) (EP X pins σ Q) X.xe s
def PT (X : Cx) (e : Expr) (t : TT) : Prop :=
  ∀ (pins : List (Addr × Obj)) (s : Shared) (σ : St) (H : Hp) (Q : Bool → Hp → Prop), Inv X pins σ H s → t σ H Q → wpAny (model X.prog X.w) X.A (isTrue e X.env (eval e X.env)) (TP X pins σ Q) X.xe s
/-- a test whatever its 'whole' is (and, or) -/
def PW (X : Cx) (e : Expr) (t : TT) : Prop :=
  ∀ (whole : Sem Value) (pins : List (Addr × Obj)) (s : Shared) (σ : St) (H : Hp) (Q : Bool → Hp → Prop), Inv X pins σ H s → t σ H Q → wpAny (model X.prog X.w) X.A (isTrue e X.env whole) (TP X pins σ Q) X.xe s
theorem PW.pt {X : Cx} {e : Expr} {t : TT} (h : PW X e t) : PT X e t := h _
/-- an argument list (no star), from the left -/
def PA (X : Cx) (es : List Expr) (t : TA) : Prop :=
  ∀ (pos : Pos) (pins : List (Addr × Obj)) (s : Shared) (σ : St) (H : Hp) (Q : List V → Hp → Prop), Inv X pins σ H s → t σ H Q → wpAny (model X.prog X.w) X.A (spliced (backTo pos (starEach es X.env))) (AP X pins σ Q) X.xe s
def PS (X : Cx) (st : Stmt) (t : TS) : Prop :=
  ∀ (pins : List (Addr × Obj)) (s : Shared) (σ : St) (H : Hp) (D : Ends), Inv X pins σ H s → t D σ H → wpAny (model X.prog X.w) X.A (exec st X.env) (SP X pins D) X.xe s
def PSs (X : Cx) (st : List Stmt) (t : TS) : Prop :=
  ∀ (pins : List (Addr × Obj)) (s : Shared) (σ : St) (H : Hp) (D : Ends), Inv X pins σ H s → t D σ H → wpAny (model X.prog X.w) X.A (execs st X.env) (SP X pins D) X.xe s
/-- weaken the end -/
theorem thn {α : Type} {t : Sem α} {Q Q' : α → Shared → Prop} {M : Model} {A : Around} {E : Value → Shared → Prop} {s : Shared} (h : wpAny M A t Q E s) (hQ : ∀ a s, Q a s → Q' a s) : wpAny M A t Q' E s := wpAny_mono h hQ fun _ _ x => x
end L2

namespace L2
open PySem PySem.Spec PyProof.Rows
section
variable {X : Cx}

/-- two expressions in a row -/
theorem bin {a b : Expr} {ta tb : TE} (ha : PE X a ta) (hb : PE X b tb) {pins : List (Addr × Obj)} {s : Shared} {σ : St} {H : Hp} {R : V → V → Hp → Prop} (I : Inv X pins σ H s) (h : ta σ H fun x H1 => tb σ H1 fun y H2 => R x y H2)
    {α : Type} {Q : α → Shared → Prop} {f : Value → Value → Sem α}
    (hf : ∀ v u s2 x y H2, Inv X pins σ H2 s2 → RelV x v → RelV y u → R x y H2 → wpAny (model X.prog X.w) X.A (f v u) Q X.xe s2) :
    wpAny (model X.prog X.w) X.A (eval a X.env) (fun v s₁ => wpAny (model X.prog X.w) X.A (eval b X.env) (fun u s₂ => wpAny (model X.prog X.w) X.A (f v u) Q X.xe s₂) X.xe s₁) X.xe s := by
  refine thn (ha pins s σ H _ I h) fun v s1 ⟨x, H1, I1, r1, q1⟩ => ?_
  refine thn (hb pins s1 σ H1 _ I1 q1) fun u s2 ⟨y, H2, I2, r2, q2⟩ => ?_
  exact hf v u s2 x y H2 I2 r1 r2 q2

/-! ### names and constants -/
def tVar (i : Nat) : TE := fun σ H Q => ∃ v, σ[i]? = some (some v) ∧ Q v H
def tC (v : V) : TE := fun _ H Q => Q v H
theorem pe_var {i : Nat} {x : Str} {pos : Pos} (hN : X.N[i]? = some x) (hv : Vis X.env.scope x) (hd : (x == ("__debug__" : Str)) = false := by decide) (hcd : (x == ("__classdict__" : Str)) = false := by decide) : PE X (.Name x pos) (tVar i) := by
  intro pins s σ H Q I h
  obtain ⟨v, e, h⟩ := h
  obtain ⟨m, hn, hl⟩ := I.loc
  obtain ⟨u, r, l⟩ := hl i x v hN e hv
  have fin : EP X pins σ Q u s := ⟨v, H, I, r, h⟩
  rcases l with ⟨hk, hm⟩ | ⟨hk, c, hc, hcell⟩
  · exact wpAny_Name (wpAny_loadName_local I.ok.kind hk hn hm fin) hd
  · rcases hk with hk | hk
    · exact wpAny_Name (wpAny_loadName_cell I.ok.kind hk hc hcell fin) hd
    · exact wpAny_Name (wpAny_loadName_free I.ok.kind hk hc hcell fin hcd) hd
theorem pe_int {i j pos} : PE X (.Constant (.int i) j pos) (tC (.int i)) := fun _ _ _ H _ I h => wpAny_Constant_int ⟨.int i, H, I.tok _, ⟨_, rfl⟩, h⟩
theorem pe_bl {b j pos} : PE X (.Constant (.bool b) j pos) (tC (.bl b)) := fun _ _ _ H _ I h => Constant_bool ⟨.bl b, H, I, rfl, h⟩
theorem pe_non {j pos} : PE X (.Constant .none j pos) (tC .non) := fun _ _ _ H _ I h => Constant_none ⟨.non, H, I, rfl, h⟩
theorem pe_str {x j pos} : PE X (.Constant (.str x) j pos) (tC (.str x)) := fun _ _ _ H _ I h => Calls.Constant_str ⟨.str x, H, I.tok _, ⟨_, rfl⟩, h⟩

/-- a global name of the def -/
def Gl (X : Cx) (x : Str) : Prop := X.env.kindOf x = some .globalImplicit
theorem ld_glob {E : Value → Shared → Prop} {pins : List (Addr × Obj)} {s : Shared} {σ : St} {H : Hp} {x : Str} {u : Value} {pos : Pos} {Q : Value → Shared → Prop} (I : Inv X pins σ H s) (hg : Gl X x) (hm : X.mg x = some u) (h : Q u s)
    (hd : (x == ("__debug__" : Str)) = false := by decide) : wpAny (model X.prog X.w) X.A (eval (.Name x pos) X.env) Q E s :=
  Calls.Name_function_global I.ok.kind hg (Calls.loadGlobal_global (by rw [I.ok.glob]; exact I.mod.glob.keeps I.bk) hm h) hd
theorem ld_blt {E : Value → Shared → Prop} {pins : List (Addr × Obj)} {s : Shared} {σ : St} {H : Hp} {x : Str} {u : Value} {pos : Pos} {Q : Value → Shared → Prop} (I : Inv X pins σ H s) (hg : Gl X x) (hm : X.mg x = none) (hv : bootBuiltins x = some u) (h : Q u s)
    (hn : x ≠ "__name__" := by decide) (hd : (x == ("__debug__" : Str)) = false := by decide) : wpAny (model X.prog X.w) X.A (eval (.Name x pos) X.env) Q E s := by
  obtain ⟨mb, h1, h2⟩ := I.mod.blt
  exact Calls.Name_function_global I.ok.kind hg (Calls.loadGlobal_builtin (by rw [I.ok.glob]; exact I.mod.glob.keeps I.bk) hm (by rw [I.ok.blt]; exact h1.keeps I.bk) ((h2 x hn).trans hv) h) hd
/-- a module's constant, a class, a function, as a value -/
theorem pe_glob {x : Str} {v : V} {u : Value} {pos : Pos} (hg : Gl X x) (hm : X.mg x = some u) (r : RelV v u) (hd : (x == ("__debug__" : Str)) = false := by decide) : PE X (.Name x pos) (tC v) :=
  fun _ _ _ H _ I h => ld_glob I hg hm ⟨v, H, I, r, h⟩ hd
theorem pe_bltn {x : Str} {v : V} {u : Value} {pos : Pos} (hg : Gl X x) (hm : X.mg x = none) (hv : bootBuiltins x = some u) (r : RelV v u) (hn : x ≠ "__name__" := by decide) (hd : (x == ("__debug__" : Str)) = false := by decide) : PE X (.Name x pos) (tC v) :=
  fun _ _ _ H _ I h => ld_blt I hg hm hv ⟨v, H, I, r, h⟩ hn hd

/-! ### arithmetic -/
/-- two ints -/
def t2I (ta tb : TE) (k : Int → Int → Hp → Prop) : St → Hp → Prop := fun σ H => ta σ H fun x H1 => tb σ H1 fun y H2 => ∃ i j, x = .int i ∧ y = .int j ∧ k i j H2
def tAdd (ta tb : TE) : TE := fun σ H Q => t2I ta tb (fun i j H2 => Q (.int (i + j)) H2) σ H
def tSub (ta tb : TE) : TE := fun σ H Q => t2I ta tb (fun i j H2 => Q (.int (i - j)) H2) σ H
/-- the left factor below 2^64 -/
def tMul (ta tb : TE) : TE := fun σ H Q => t2I ta tb (fun i j H2 => (-(2 ^ 64) < i ∧ i < 2 ^ 64) ∧ Q (.int (i * j)) H2) σ H
variable {a b : Expr} {ta tb : TE} {pos : Pos}
theorem pe_add (ha : PE X a ta) (hb : PE X b tb) : PE X (.BinOp a .Add b pos) (tAdd ta tb) := by
  intro pins s σ H Q I h
  refine wpAny_BinOp (bin ha hb I h fun v u s2 x y H2 I2 rx ry q => ?_)
  obtain ⟨i, j, rfl, rfl, q⟩ := q
  obtain ⟨t, rfl⟩ := rx
  obtain ⟨t', rfl⟩ := ry
  exact add_int ⟨.int _, H2, I2.tok _, ⟨_, rfl⟩, q⟩
theorem pe_sub (ha : PE X a ta) (hb : PE X b tb) : PE X (.BinOp a .Sub b pos) (tSub ta tb) := by
  intro pins s σ H Q I h
  refine wpAny_BinOp (bin ha hb I h fun v u s2 x y H2 I2 rx ry q => ?_)
  obtain ⟨i, j, rfl, rfl, q⟩ := q
  obtain ⟨t, rfl⟩ := rx
  obtain ⟨t', rfl⟩ := ry
  exact sub_int ⟨.int _, H2, I2.tok _, ⟨_, rfl⟩, q⟩
theorem pe_mul (ha : PE X a ta) (hb : PE X b tb) : PE X (.BinOp a .Mult b pos) (tMul ta tb) := by
  intro pins s σ H Q I h
  refine wpAny_BinOp (bin ha hb I h fun v u s2 x y H2 I2 rx ry q => ?_)
  obtain ⟨i, j, rfl, rfl, ⟨q1, q2⟩, q⟩ := q
  obtain ⟨t, rfl⟩ := rx
  obtain ⟨t', rfl⟩ := ry
  exact mul_int ⟨.int _, H2, I2.tok _, ⟨_, rfl⟩, q⟩ (.of_left (intBits_le_64 q1 q2))

/-! ### comparisons -/
def PC (X : Cx) (op : CmpOp) (a b : Expr) (t : TE) : Prop :=
  ∀ (pins : List (Addr × Obj)) (s : Shared) (σ : St) (H : Hp) (Q : VK), Inv X pins σ H s → t σ H Q →
    wpAny (model X.prog X.w) X.A (eval a X.env) (fun v s₁ => wpAny (model X.prog X.w) X.A (eval b X.env) (fun u s₂ => wpAny (model X.prog X.w) X.A (compareOp op v u) (EP X pins σ Q) X.xe s₂) X.xe s₁) X.xe s
theorem nobehind (b : Expr) {op : CmpOp} (h : op ≠ .In) (h2 : op ≠ .NotIn) : behindInMarks op b = false := by
  have e1 : (op == CmpOp.In) = false := by cases op <;> first | rfl | exact absurd rfl h
  have e2 : (op == CmpOp.NotIn) = false := by cases op <;> first | rfl | exact absurd rfl h2
  cases b <;> simp [behindInMarks, e1, e2]
def tCmp (p : Int → Int → Bool) (ta tb : TE) : TE := fun σ H Q => t2I ta tb (fun i j H2 => Q (.bl (p i j)) H2) σ H
abbrev tLt : TE → TE → TE := tCmp fun i j => decide (i < j)
abbrev tLe : TE → TE → TE := tCmp fun i j => decide (i ≤ j)
abbrev tGt : TE → TE → TE := tCmp fun i j => decide (j < i)
abbrev tGe : TE → TE → TE := tCmp fun i j => decide (j ≤ i)
abbrev tEqI : TE → TE → TE := tCmp fun i j => decide (i = j)
abbrev tNeI : TE → TE → TE := tCmp fun i j => !decide (i = j)
/-- a comparison of two ints, by its rule -/
theorem pc_int {op : CmpOp} {p : Int → Int → Bool} (ha : PE X a ta) (hb : PE X b tb)
    (rule : ∀ (i j : Int) (t u : Tok) (Q : Value → Shared → Prop) (s : Shared), Q (.bool (p i j)) s → wpAny (model X.prog X.w) X.A (compareOp op (.int i t) (.int j u)) Q X.xe s) : PC X op a b (tCmp p ta tb) := by
  intro pins s σ H Q I h
  refine bin ha hb I h fun v u s2 x y H2 I2 rx ry q => ?_
  obtain ⟨i, j, rfl, rfl, q⟩ := q
  obtain ⟨t, rfl⟩ := rx
  obtain ⟨t', rfl⟩ := ry
  exact rule i j t t' _ s2 ⟨.bl _, H2, I2, rfl, q⟩
theorem pc_lt (ha : PE X a ta) (hb : PE X b tb) : PC X .Lt a b (tLt ta tb) := pc_int ha hb fun _ _ _ _ _ _ h => lt_int h
theorem pc_le (ha : PE X a ta) (hb : PE X b tb) : PC X .LtE a b (tLe ta tb) := pc_int ha hb fun _ _ _ _ _ _ h => le_int h
theorem pc_gt (ha : PE X a ta) (hb : PE X b tb) : PC X .Gt a b (tGt ta tb) := pc_int ha hb fun _ _ _ _ _ _ h => gt_int h
theorem pc_ge (ha : PE X a ta) (hb : PE X b tb) : PC X .GtE a b (tGe ta tb) := pc_int ha hb fun _ _ _ _ _ _ h => ge_int h
theorem pc_eqI (ha : PE X a ta) (hb : PE X b tb) : PC X .Eq a b (tEqI ta tb) := pc_int ha hb fun _ _ _ _ _ _ h => eq_int (by rw [Bool.beq_eq_decide_eq]; exact h)
theorem pc_neI (ha : PE X a ta) (hb : PE X b tb) : PC X .NotEq a b (tNeI ta tb) := pc_int ha hb fun _ _ _ _ _ _ h => ne_int (by rw [bne, Bool.beq_eq_decide_eq]; exact h)
/-- is None -/
def tIsN (ta : TE) : TE := fun σ H Q => ta σ H fun x H1 => Q (.bl (decide (x = .non))) H1
def tNotN (ta : TE) : TE := fun σ H Q => ta σ H fun x H1 => Q (.bl (!decide (x = .non))) H1
theorem RelV.none_iff {x : V} {v : Value} (r : RelV x v) : (v == Value.none) = decide (x = .non) := by
  cases x with
  | non => cases r; rfl
  | bl _ => cases r; rfl
  | int _ => obtain ⟨t, rfl⟩ := r; rfl
  | str _ => obtain ⟨t, rfl⟩ := r; rfl
  | byt _ => obtain ⟨t, rfl⟩ := r; rfl
  | flt _ => obtain ⟨t, rfl⟩ := r; rfl
  | ref _ => cases r; rfl
  | ty _ => cases r; rfl
theorem pc_isN {j pos'} (ha : PE X a ta) : PC X .Is a (.Constant .none j pos') (tIsN ta) := by
  intro pins s σ H Q I h
  refine thn (ha pins s σ H _ I h) fun v s1 ⟨x, H1, I1, r1, q1⟩ => ?_
  exact Constant_none (is_none_gen ⟨.bl _, H1, I1, by rw [r1.none_iff]; rfl, q1⟩)
theorem pc_notN {j pos'} (ha : PE X a ta) : PC X .IsNot a (.Constant .none j pos') (tNotN ta) := by
  intro pins s σ H Q I h
  refine thn (ha pins s σ H _ I h) fun v s1 ⟨x, H1, I1, r1, q1⟩ => ?_
  exact Constant_none (isnot_none_gen ⟨.bl _, H1, I1, by rw [r1.none_iff]; rfl, q1⟩)
/-- a comparison as a value, as a test -/
def tB (t : TE) : TT := fun σ H Q => t σ H fun x H1 => ∃ c, x = .bl c ∧ Q c H1
theorem pe_cmp {op : CmpOp} {t : TE} (h : PC X op a b t) (h1 : behindInMarks op b = false := by first | exact nobehind _ (by decide) (by decide) | rfl) : PE X (.Compare a [op] [b] pos) t := fun pins s σ H Q I hw => wpAny_Compare1 (h pins s σ H Q I hw) h1
theorem pt_cmp {op : CmpOp} {t : TE} (h : PC X op a b t) (h1 : behindInMarks op b = false := by first | exact nobehind _ (by decide) (by decide) | rfl) : PT X (.Compare a [op] [b] pos) (tB t) := by
  intro pins s σ H Q I hw
  refine wpAny_isTrue_Compare1 (thn (h pins s σ H _ I hw) fun v s1 h1 => thn h1 fun u s2 h2 => thn h2 fun c s3 ⟨x, H1, I1, r1, q1⟩ => ?_) h1
  obtain ⟨d, rfl, q⟩ := q1
  cases r1
  exact wpAny_truthy_bool ⟨H1, I1, q⟩
/-- an expression whose value is a bool, as a test -/
theorem pt_val {e : Expr} {t : TE} (h : PE X e t) (he : ∀ whole, isTrue e X.env whole = (do let v ← whole; standAt e.pos; holding [v] (truthy v)) := by intro _; rfl) : PT X e (tB t) := by
  intro pins s σ H Q I hw
  refine isTrue_plain (thn (h pins s σ H _ I hw) fun v s1 ⟨x, H1, I1, r1, q1⟩ => ?_) (he _)
  obtain ⟨d, rfl, q⟩ := q1
  cases r1
  exact wpAny_truthy_bool ⟨H1, I1, q⟩

/-! ### and, or, not -/
variable {tA tB' : TT} {rest : List Expr}
def tAnd (t u : TT) : TT := fun σ H Q => t σ H fun c H1 => if c = true then u σ H1 Q else Q false H1
def tOr (t u : TT) : TT := fun σ H Q => t σ H fun c H1 => if c = true then Q true H1 else u σ H1 Q
def tNot (t : TT) : TT := fun σ H Q => t σ H fun c H1 => Q (!c) H1
theorem pw_and1 (ha : PT X a tA) : PW X (.BoolOp .And [a] pos) tA := by
  intro wh pins s σ H Q I h
  refine isTrue_and (thn (ha pins s σ H Q I h) fun c s1 e => ?_)
  cases c with
  | true => exact isTrue_and_nil e
  | false => exact e
theorem pw_or1 (ha : PT X a tA) : PW X (.BoolOp .Or [a] pos) tA := by
  intro wh pins s σ H Q I h
  refine isTrue_or (thn (ha pins s σ H Q I h) fun c s1 e => ?_)
  cases c with
  | false => exact isTrue_or_nil e
  | true => exact e
theorem pw_and (ha : PT X a tA) (hb : PW X (.BoolOp .And (b :: rest) pos) tB') : PW X (.BoolOp .And (a :: b :: rest) pos) (tAnd tA tB') := by
  intro wh pins s σ H Q I h
  refine isTrue_and (thn (ha pins s σ H _ I h) fun c s1 ⟨H1, I1, q1⟩ => ?_)
  cases c with
  | true => exact hb wh pins s1 σ H1 Q I1 q1
  | false => exact ⟨H1, I1, q1⟩
theorem pw_or (ha : PT X a tA) (hb : PW X (.BoolOp .Or (b :: rest) pos) tB') : PW X (.BoolOp .Or (a :: b :: rest) pos) (tOr tA tB') := by
  intro wh pins s σ H Q I h
  refine isTrue_or (thn (ha pins s σ H _ I h) fun c s1 ⟨H1, I1, q1⟩ => ?_)
  cases c with
  | true => exact ⟨H1, I1, q1⟩
  | false => exact hb wh pins s1 σ H1 Q I1 q1
theorem pt_not (ha : PT X a tA) : PT X (.UnaryOp .Not a pos) (tNot tA) := by
  intro pins s σ H Q I h
  exact isTrue_not (ha pins s σ H (fun c H1 => Q (!c) H1) I h)
/-- .. as values (bools) -/
def tAndV (ta tb : TE) : TE := fun σ H Q => ta σ H fun x H1 => ∃ c, x = .bl c ∧ if c = true then tb σ H1 Q else Q (.bl false) H1
def tOrV (ta tb : TE) : TE := fun σ H Q => ta σ H fun x H1 => ∃ c, x = .bl c ∧ if c = true then Q (.bl true) H1 else tb σ H1 Q
def tNotV (ta : TE) : TE := fun σ H Q => ta σ H fun x H1 => ∃ c, x = .bl c ∧ Q (.bl (!c)) H1
theorem pe_one {op} {t : TE} (h : PE X a t) : PE X (.BoolOp op [a] pos) t := fun pins s σ H Q I hw => BoolOp_one (h pins s σ H Q I hw)
theorem pe_and (ha : PE X a ta) (hb : PE X (.BoolOp .And (b :: rest) pos) tb) : PE X (.BoolOp .And (a :: b :: rest) pos) (tAndV ta tb) := by
  intro pins s σ H Q I h
  refine BoolOp_and (thn (ha pins s σ H _ I h) fun v s1 ⟨x, H1, I1, r1, q1⟩ => ?_)
  obtain ⟨c, rfl, q1⟩ := q1
  cases r1
  refine wpAny_truthy_bool ?_
  cases c with
  | true => exact hb pins s1 σ H1 Q I1 q1
  | false => exact ⟨.bl false, H1, I1, rfl, q1⟩
theorem pe_or (ha : PE X a ta) (hb : PE X (.BoolOp .Or (b :: rest) pos) tb) : PE X (.BoolOp .Or (a :: b :: rest) pos) (tOrV ta tb) := by
  intro pins s σ H Q I h
  refine BoolOp_or (thn (ha pins s σ H _ I h) fun v s1 ⟨x, H1, I1, r1, q1⟩ => ?_)
  obtain ⟨c, rfl, q1⟩ := q1
  cases r1
  refine wpAny_truthy_bool ?_
  cases c with
  | false => exact hb pins s1 σ H1 Q I1 q1
  | true => exact ⟨.bl true, H1, I1, rfl, q1⟩
theorem pe_not (ha : PE X a ta) : PE X (.UnaryOp .Not a pos) (tNotV ta) := by
  intro pins s σ H Q I h
  refine UnaryOp_ (thn (ha pins s σ H _ I h) fun v s1 ⟨x, H1, I1, r1, q1⟩ => ?_)
  obtain ⟨c, rfl, q1⟩ := q1
  cases r1
  exact not_of (wpAny_truthy_bool ⟨.bl (!c), H1, I1, rfl, q1⟩)
/-- a if t else b -/
def tIf (t : TT) (ta tb : TE) : TE := fun σ H Q => t σ H fun c H1 => if c = true then ta σ H1 Q else tb σ H1 Q
theorem pe_ifExp {c : Expr} (hc : PT X c tA) (ha : PE X a ta) (hb : PE X b tb) : PE X (.IfExp c a b pos) (tIf tA ta tb) := by
  intro pins s σ H Q I h
  refine wpAny_IfExp (thn (hc pins s σ H _ I h) fun d s1 ⟨H1, I1, q1⟩ => ?_)
  cases d with
  | true => exact ha pins s1 σ H1 Q I1 q1
  | false => exact hb pins s1 σ H1 Q I1 q1
end
end L2

namespace L2
open PySem PySem.Spec PyProof.Rows

/-! ### a list, a tuple that is read: tracked, frozen, or an object of the module -/
def SqL (K : PySem.W.Frag) (H : Hp) (a : Addr) (xs : List V) : Prop :=
  Rd H a (.lst xs) ∨
    ∃ (o : Obj) (its : Array Value) (n : Nat), K.lookup a = some o ∧ o.cls = .type "list" ∧ o.dict = none ∧ o.data = .seq its n ∧ its.size ≤ sizeLine ∧ Vals xs its.toList
def SqT (K : PySem.W.Frag) (H : Hp) (a : Addr) (xs : List V) : Prop :=
  Rd H a (.tup xs) ∨
    ∃ (o : Obj) (its : Array Value) (n : Nat), K.lookup a = some o ∧ o.cls = .type "tuple" ∧ o.data = .seq its n ∧ its.size ≤ sizeLine ∧ Vals xs its.toList
def absV : Value → Option V
  | .none => some .non
  | .bool b => some (.bl b)
  | .int i _ => some (.int i)
  | .str x _ => some (.str x)
  | .bytes b _ => some (.byt b)
  | .float b _ => some (.flt b)
  | .ref a => some (.ref a)
  | .type n => some (.ty n)
  | _ => none
theorem RelV.abs {x : V} {u : Value} (r : RelV x u) : absV u = some x := by
  cases x with
  | non => cases r; rfl
  | bl _ => cases r; rfl
  | int _ => obtain ⟨t, rfl⟩ := r; rfl
  | str _ => obtain ⟨t, rfl⟩ := r; rfl
  | byt _ => obtain ⟨t, rfl⟩ := r; rfl
  | flt _ => obtain ⟨t, rfl⟩ := r; rfl
  | ref _ => cases r; rfl
  | ty _ => cases r; rfl
theorem RelV.inj {x y : V} {u : Value} (r : RelV x u) (q : RelV y u) : x = y := Option.some.inj (r.abs.symm.trans q.abs)
theorem Vals.inj : ∀ {xs ys : List V} {us : List Value}, Vals xs us → Vals ys us → xs = ys
  | _, _, _, .nil, .nil => rfl
  | _, _, _, .cons r t, .cons r' t' => by rw [r.inj r', Vals.inj t t']
section
variable {X : Cx} {pins : List (Addr × Obj)} {σ : St} {H : Hp} {s : Shared} {a : Addr} {xs ys : List V}
theorem SqL.of {K : PySem.W.Frag} (h : H a = some (.lst xs)) : SqL K H a xs := .inl (.inl h)
theorem SqT.of {K : PySem.W.Frag} (h : H a = some (.tup xs)) : SqT K H a xs := .inl (.inl h)
theorem Inv.list (I : Inv X pins σ H s) (h : SqL X.K H a xs) : ∃ its : List Value, Vals xs its ∧ PlainL s.heap a its.toArray ∧ xs.length ≤ sizeLine := by
  rcases h with h | ⟨o, its, n, hk, hc, hd, hs, hz, r⟩
  · obtain ⟨z, its, n, r, e⟩ := h.ok I.hok
    exact ⟨its, r, ⟨_, n, e, rfl, rfl, rfl⟩, z⟩
  · refine ⟨its.toList, r, ⟨o, n, I.kIn a o hk, hc, hd, by simpa using hs⟩, ?_⟩
    have e := r.length
    simp only [Array.length_toList] at e
    omega
theorem Inv.tuple (I : Inv X pins σ H s) (h : SqT X.K H a xs) : ∃ its : List Value, Vals xs its ∧ IsTup s.heap a its.toArray ∧ xs.length ≤ sizeLine := by
  rcases h with h | ⟨o, its, n, hk, hc, hs, hz, r⟩
  · obtain ⟨z, its, r, p⟩ := h.ok I.hok
    exact ⟨its, r, p, z⟩
  · refine ⟨its.toList, r, ⟨o, I.kIn a o hk, hc, n, by simpa using hs⟩, ?_⟩
    have e := r.length
    simp only [Array.length_toList] at e
    omega
theorem Inv.list_inj (I : Inv X pins σ H s) (h : SqL X.K H a xs) (h' : SqL X.K H a ys) : xs = ys := by
  obtain ⟨its, r, ⟨o, n, e, _, _, d⟩, _⟩ := I.list h
  obtain ⟨its', r', ⟨o', n', e', _, _, d'⟩, _⟩ := I.list h'
  rw [e] at e'; cases e'
  rw [d] at d'
  injection d' with d1 _
  have : its = its' := by simpa using congrArg Array.toList d1
  subst this
  exact r.inj r'
theorem Inv.tuple_inj (I : Inv X pins σ H s) (h : SqT X.K H a xs) (h' : SqT X.K H a ys) : xs = ys := by
  obtain ⟨its, r, ⟨o, e, _, n, d⟩, _⟩ := I.tuple h
  obtain ⟨its', r', ⟨o', e', _, n', d'⟩, _⟩ := I.tuple h'
  rw [e] at e'; cases e'
  rw [d] at d'
  injection d' with d1 _
  have : its = its' := by simpa using congrArg Array.toList d1
  subst this
  exact r.inj r'
end

/-! ### another wish about exceptions -/
abbrev Cx.wish (X : Cx) (E : Value → Shared → Prop) : Cx := { X with xe := E }
/-- no exception leaves -/
abbrev Cx.nox (X : Cx) : Cx := X.wish fun _ _ => False
theorem Cx.Ok.wish {X : Cx} (ok : X.Ok) (E : Value → Shared → Prop) : (X.wish E).Ok :=
  ⟨ok.mod, ok.kind, ok.glob, ok.blt, ok.above, ok.inj, ok.has, ok.cab, ok.hd, ok.frames, ok.stk, ok.exf, ok.bs, ok.bsz, ok.noex, ok.exfs, ok.funs, ok.frf⟩
theorem Cx.Ok.unwish {X : Cx} {E : Value → Shared → Prop} (ok : (X.wish E).Ok) : X.Ok :=
  ⟨ok.mod, ok.kind, ok.glob, ok.blt, ok.above, ok.inj, ok.has, ok.cab, ok.hd, ok.frames, ok.stk, ok.exf, ok.bs, ok.bsz, ok.noex, ok.exfs, ok.funs, ok.frf⟩
section
variable {X : Cx} {pins : List (Addr × Obj)} {σ : St} {H : Hp} {s : Shared} {E : Value → Shared → Prop}
theorem Inv.wish (I : Inv X pins σ H s) (E : Value → Shared → Prop) : Inv (X.wish E) pins σ H s := ⟨I.ok.wish E, I.os, I.bare, I.base, I.loc, I.cell, I.free, I.freeC, I.pin, I.hok, I.len⟩
theorem Inv.unwish (I : Inv (X.wish E) pins σ H s) : Inv X pins σ H s := ⟨I.ok.unwish, I.os, I.bare, I.base, I.loc, I.cell, I.free, I.freeC, I.pin, I.hok, I.len⟩
theorem SP.unwish {D : Ends} {f : Flow} {s' : Shared} (h : SP (X.wish E) pins D f s') : SP X pins D f s' := by
  cases f with
  | next => obtain ⟨σ', H', I, q⟩ := h; exact ⟨σ', H', I.unwish, q⟩
  | brk => obtain ⟨σ', H', I, q⟩ := h; exact ⟨σ', H', I.unwish, q⟩
  | cont => obtain ⟨σ', H', I, q⟩ := h; exact ⟨σ', H', I.unwish, q⟩
  | ret u => obtain ⟨v, σ', H', I, r, q⟩ := h; exact ⟨v, σ', H', I.unwish, r, q⟩
theorem PE.nox {e : Expr} {t : TE} (h : PE X.nox e t) : PE X e t := fun pins s σ H Q I hw =>
  wpAny_mono (h pins s σ H Q (I.wish _) hw) (fun _ _ ⟨v, H', I', r, q⟩ => ⟨v, H', I'.unwish, r, q⟩) fun _ _ z => False.elim z
theorem PT.nox {e : Expr} {t : TT} (h : PT X.nox e t) : PT X e t := fun pins s σ H Q I hw =>
  wpAny_mono (h pins s σ H Q (I.wish _) hw) (fun _ _ ⟨H', I', q⟩ => ⟨H', I'.unwish, q⟩) fun _ _ z => False.elim z
theorem PSs.nox {st : List Stmt} {t : TS} (h : PSs X.nox st t) : PSs X st t := fun pins s σ H D I hw =>
  wpAny_mono (h pins s σ H D (I.wish _) hw) (fun _ _ q => q.unwish) fun _ _ z => False.elim z
end

/-! ### blocks and small statements -/
section
variable {X : Cx} {st : Stmt} {rest : List Stmt} {t u : TS} {e : Expr} {te : TE} {pos : Pos}
def tNext : TS := fun D σ H => D.nx σ H
def tSeq (t u : TS) : TS := fun D σ H => t { D with nx := u D } σ H
theorem pss_nil : PSs X [] tNext := fun _ _ σ H _ I h => wpAny_execs_nil ⟨σ, H, I, h⟩
theorem pss_cons (h1 : PS X st t) (h2 : PSs X rest u) : PSs X (st :: rest) (tSeq t u) := by
  intro pins s σ H D I h
  refine wpAny_execs_cons (thn (h1 pins s σ H { D with nx := u D } I h) fun f s1 q => ?_)
  cases f with
  | next =>
    obtain ⟨σ', H', I', q⟩ := q
    exact h2 pins s1 σ' H' D I' q
  | ret v => exact q
  | brk => exact q
  | cont => exact q
theorem pss_one (h1 : PS X st t) : PSs X [st] t := by
  intro pins s σ H D I h
  refine wpAny_execs_cons (thn (h1 pins s σ H D I h) fun f s1 q => ?_)
  cases f with
  | next => exact wpAny_execs_nil q
  | ret v => exact q
  | brk => exact q
  | cont => exact q
def tBreak : TS := fun D σ H => D.bk σ H
def tCont : TS := fun D σ H => D.ct σ H
theorem ps_pass : PS X (.Pass pos) tNext := fun _ _ σ H _ I h => wpAny_Pass ⟨σ, H, I, h⟩
theorem ps_break : PS X (.Break pos) tBreak := fun _ _ σ H _ I h => wpAny_Break ⟨σ, H, I, h⟩
theorem ps_continue : PS X (.Continue pos) tCont := fun _ _ σ H _ I h => wpAny_Continue ⟨σ, H, I, h⟩
/-- in a def's body nothing is shown -/
theorem Inv.quiet {pins : List (Addr × Obj)} {σ : St} {H : Hp} {s : Shared} (I : Inv X pins σ H s) : interactive X.env = false := by simp [interactive, I.ok.kind]
/-- a docstring -/
theorem ps_doc {x j pos pos'} : PS X (.Expr (.Constant (.str x) j pos) pos') tNext := fun _ s σ H _ I h => wpAny_Expr (Calls.Constant_str (show SP X _ _ .next { s with toks := s.toks + 1 } from ⟨σ, H, I.tok _, h⟩)) I.quiet
/-- an expression whose value is dropped -/
def tDrop (te : TE) : TS := fun D σ H => te σ H fun _ H1 => D.nx σ H1
theorem ps_expr (he : PE X e te) (hs : swapsWith e none pos.line X.env = pure false := by rfl) : PS X (.Expr e pos) (tDrop te) := by
  intro pins s σ H D I h
  exact wpAny_Expr_any (thn (he pins s σ H _ I h) fun v s1 ⟨x, H1, I1, r1, q1⟩ => ⟨σ, H1, I1, q1⟩) I.quiet hs
def tRet (te : TE) : TS := fun D σ H => te σ H D.rt
theorem ps_ret (he : PE X e te) : PS X (.Return (some e) pos) (tRet te) := by
  intro pins s σ H D I h
  exact wpAny_Return_some (thn (he pins s σ H _ I h) fun v s1 ⟨x, H1, I1, r1, q1⟩ => ⟨x, σ, H1, I1, r1, q1⟩)
def tRetN : TS := fun D _ H => D.rt .non H
theorem ps_retN : PS X (.Return none pos) tRetN := fun _ _ σ H _ I h => wpAny_Return_none ⟨.non, σ, H, I, rfl, h⟩
def tIfS (c : TT) (t u : TS) : TS := fun D σ H => c σ H fun b H1 => if b = true then t D σ H1 else u D σ H1
theorem ps_if {c : Expr} {a b : List Stmt} {tc : TT} (hc : PT X c tc) (ha : PSs X a t) (hb : PSs X b u) : PS X (.If c a b pos) (tIfS tc t u) := by
  intro pins s σ H D I h
  refine wpAny_If (thn (hc pins s σ H _ I h) fun d s1 ⟨H1, I1, q1⟩ => ?_)
  cases d with
  | true => exact ha pins s1 σ H1 D I1 q1
  | false => exact hb pins s1 σ H1 D I1 q1
/-- code that the proof never comes to -/
def tNever : TS := fun _ _ _ => False
theorem ps_never : PS X st tNever := fun _ _ _ _ _ _ h => h.elim
theorem pss_never {sts : List Stmt} : PSs X sts tNever := fun _ _ _ _ _ _ h => h.elim
end

/-! ### targets -/
abbrev TG := V → St → Hp → (St → Hp → Prop) → Prop
abbrev TGs := List V → St → Hp → (St → Hp → Prop) → Prop
def PG (X : Cx) (target : Expr) (t : TG) : Prop :=
  ∀ (pins : List (Addr × Obj)) (s : Shared) (σ : St) (H : Hp) (v : V) (u : Value) (Q : St → Hp → Prop), Inv X pins σ H s → RelV v u → t v σ H Q →
    wpAny (model X.prog X.w) X.A (assign target X.env u) (fun _ s' => ∃ σ' H', Inv X pins σ' H' s' ∧ Q σ' H') X.xe s
/-- several targets, one after another -/
def PGs (X : Cx) (ts : List Expr) (t : TGs) : Prop :=
  ∀ (pins : List (Addr × Obj)) (s : Shared) (σ : St) (H : Hp) (vs : List V) (us : List Value) (Q : St → Hp → Prop), Inv X pins σ H s → Vals vs us → t vs σ H Q →
    wpAny (model X.prog X.w) X.A (assignInOrder ((assignEach ts X.env).map (·.2)) us) (fun _ s' => ∃ σ' H', Inv X pins σ' H' s' ∧ Q σ' H') X.xe s
/-- o[i] = v, by values -/
abbrev TSet := V → V → V → Hp → (Hp → Prop) → Prop
def PSet (X : Cx) (t : TSet) : Prop :=
  ∀ (pins : List (Addr × Obj)) (s : Shared) (σ : St) (H : Hp) (o i v : V) (ov iv u : Value) (Q : Hp → Prop), Inv X pins σ H s → RelV o ov → RelV i iv → RelV v u → t o i v H Q →
    wpAny (model X.prog X.w) X.A (setItem ov iv u) (fun _ s' => ∃ H', Inv X pins σ H' s' ∧ Q H') X.xe s
/-- a op= b, by values -/
abbrev TIp := V → V → Hp → VK → Prop
def PIp (X : Cx) (op : Operator) (t : TIp) : Prop :=
  ∀ (pins : List (Addr × Obj)) (s : Shared) (σ : St) (H : Hp) (x y : V) (v u : Value) (Q : VK), Inv X pins σ H s → RelV x v → RelV y u → t x y H Q →
    wpAny (model X.prog X.w) X.A (inplaceOp op v u) (EP X pins σ Q) X.xe s
section
variable {X : Cx} {pos : Pos}
def gName (i : Nat) : TG := fun v σ H Q => Q (σ.set i (some v)) H
theorem pg_name {i : Nat} {x : Str} (hN : X.N.Nodup) (hi : X.N[i]? = some x) (hx : Loc X.env.scope x) (hf : X.fn x = true ∨ X.env.scope.names.lookup x = some .local := by first | exact .inl rfl | exact .inr rfl | assumption) : PG X (.Name x pos) (gName i) := by
  intro pins s σ H v u Q I r h
  exact wpAny_assign_Name (store_ok I hN hi hx r (fun s' I' => ⟨_, H, I', h⟩) hf)
def gNil : TGs := fun vs σ H Q => vs = [] ∧ Q σ H
def gCons (t : TG) (u : TGs) : TGs := fun vs σ H Q => ∃ v r, vs = v :: r ∧ t v σ H fun σ' H' => u r σ' H' Q
theorem pgs_nil : PGs X [] gNil := by
  intro pins s σ H vs us Q I r h
  obtain ⟨e, h⟩ := h
  subst e
  cases r
  exact assignInOrder_nil ⟨σ, H, I, h⟩
theorem pgs_cons {e : Expr} {es : List Expr} {t : TG} {u : TGs} (h1 : PG X e t) (h2 : PGs X es u)
    (hs : (assignEach (e :: es) X.env).map (·.2) = assign e X.env :: (assignEach es X.env).map (·.2) := by rfl) : PGs X (e :: es) (gCons t u) := by
  intro pins s σ H vs us Q I r h
  obtain ⟨v, vr, e1, h⟩ := h
  subst e1
  cases r with
  | cons r rr =>
    rw [hs]
    refine assignInOrder_cons (thn (h1 pins s σ H _ _ _ I r h) fun _ s1 ⟨σ1, H1, I1, q1⟩ => ?_)
    exact h2 pins s1 σ1 H1 _ _ Q I1 rr q1
/-- (a, b, ..) = a tuple of that length -/
def gTup (K : PySem.W.Frag) (n : Nat) (t : TGs) : TG := fun v σ H Q => ∃ a xs, v = .ref a ∧ SqT K H a xs ∧ xs.length = n ∧ t xs σ H Q
theorem pg_tup {es : List Expr} {k : Nat} {t : TGs} {n : Nat} (hc : X.calm = true) (h : PGs X es t)
    (hn : (assignEach es X.env).length = n := by rfl) (hst : (assignEach es X.env).findIdx? (·.1) = none := by rfl) : PG X (.Tuple es k pos) (gTup X.K n t) := by
  intro pins s σ H v u Q I r hw
  obtain ⟨a, xs, e1, hq, hl, hw⟩ := hw
  subst e1
  cases r
  obtain ⟨its, rv, ht, hz⟩ := I.tuple hq
  refine assign_Tuple_tuple (I.ok.hd hc) ht (by simp [hn, ← hl, rv.length]) hst fun h' hx => ?_
  have I1 : Inv X pins σ H { s with heap := h' } := I.kept (t' := s.toks) fun b o e => hx b o (Nat.ne_of_lt (Heap.lt_size e)) e
  exact h pins _ σ H xs _ Q I1 (by simpa using rv) hw
/-- o[i] = .. -/
def gSub (to ti : TE) (t : TSet) : TG := fun v σ H Q => to σ H fun o H1 => ti σ H1 fun i H2 => t o i v H2 fun H3 => Q σ H3
theorem pg_sub {o i : Expr} {to ti : TE} {t : TSet} (ho : PE X o to) (hi : PE X i ti) (hs : PSet X t)
    (ha : ∀ v, assign (.Subscript o i pos) X.env v = (do
      let ov ← holding [v] (eval o X.env)
      let iv ← holding [v, ov] (eval i X.env)
      standAt pos
      holding [v, ov, iv] (setItem ov iv v)
      release [v, ov, iv] []) := by intro _; rfl) : PG X (.Subscript o i pos) (gSub to ti t) := by
  intro pins s σ H v u Q I r h
  rw [ha]
  refine wpAny_bind (wpAny_holding (thn (ho pins s σ H _ I h) fun ov s1 ⟨x, H1, I1, r1, q1⟩ => ?_))
  refine wpAny_bind (wpAny_holding (thn (hi pins s1 σ H1 _ I1 q1) fun iv s2 ⟨y, H2, I2, r2, q2⟩ => ?_))
  refine wpAny_bind (wpAny_standAt (wpAny_bind (wpAny_holding (thn (hs pins s2 σ H2 x y v ov iv u _ I2 r1 r2 r q2) fun _ s3 ⟨H3, I3, q3⟩ => ?_))))
  exact wpAny_release ⟨σ, H3, I3, q3⟩
/-- target = value -/
def tAsg (te : TE) (g : TG) : TS := fun D σ H => te σ H fun x H1 => g x σ H1 D.nx
theorem ps_asg {tg e : Expr} {te : TE} {g : TG} (he : PE X e te) (hg : PG X tg g) (hs : swapsWithSole [tg] e pos.line X.env = pure false := by rfl) (hw : swappedStores [tg] e X.env = pure none := by rfl)
    (h1 : (assignEach [tg] X.env).map (·.2) = [assign tg X.env] := by rfl) : PS X (.Assign [tg] e pos) (tAsg te g) := by
  intro pins s σ H D I h
  refine wpAny_Assign_stores (thn (he pins s σ H _ I h) fun v s1 ⟨x, H1, I1, r1, q1⟩ => ?_) hs hw
  rw [h1]
  exact thn (hg pins s1 σ H1 x v _ I1 r1 q1) fun _ s2 q => q
/-- name = value -/
theorem ps_set {i : Nat} {x : Str} {e : Expr} {te : TE} {pos' : Pos} (hN : X.N.Nodup) (hi : X.N[i]? = some x) (hx : Loc X.env.scope x) (he : PE X e te) (hs : swapsWith e (some (.Name x pos')) pos.line X.env = pure false := by rfl) (hf : X.fn x = true ∨ X.env.scope.names.lookup x = some .local := by first | exact .inl rfl | exact .inr rfl | assumption) :
    PS X (.Assign [.Name x pos'] e pos) (tAsg te (gName i)) := by
  intro pins s σ H D I h
  refine wpAny_Assign_Name (thn (he pins s σ H _ I h) fun v s1 ⟨y, H1, I1, r1, q1⟩ => ?_) hs
  exact store_ok I1 hN hi hx r1 (fun s2 I2 => ⟨_, H1, I2, q1⟩) hf
/-- a, b = x, y with plain local names: stored from the right; the pair itself is not tracked (the opening rows as in PyProof/Rows/TupAssign.lean:23) -/
def tPar (i j : Nat) (ta : TA) : TS := fun D σ H => ta σ H fun vs H1 => ∃ v w, vs = [v, w] ∧ D.nx ((σ.set i (some v)).set j (some w)) H1
theorem ps_par {i j : Nat} {x y : Str} {a b : Expr} {ta : TA} {px py pt : Pos} {kt k2 pt2} (hc : X.calm = true) (hN : X.N.Nodup) (hi : X.N[i]? = some x) (hj : X.N[j]? = some y) (hij : i ≠ j)
    (hx : X.env.scope.names.lookup x = some .local) (hy : X.env.scope.names.lookup y = some .local) (ha : PA X [a, b] ta)
    (hw : swappedStores [.Tuple [.Name x px, .Name y py] kt pt] (.Tuple [a, b] k2 pt2) X.env = pure (some [x, y]))
    (hs : swapsWithSole [.Tuple [.Name x px, .Name y py] kt pt] (.Tuple [a, b] k2 pt2) pos.line X.env = pure false := by rfl) :
    PS X (.Assign [.Tuple [.Name x px, .Name y py] kt pt] (.Tuple [a, b] k2 pt2) pos) (tPar i j ta) := by
  intro pins s σ H D I h
  rw [exec_Assign_arm]
  refine wpAny_bind (wpAny_standAt ?_)
  rw [hs]
  refine wpAny_bind (wpAny_pure ?_)
  rw [if_neg (by decide)]
  refine wpAny_bind (Tuple_ (thn (ha _ pins s σ H _ I h) fun us s1 ⟨vs, H1, I1, r1, q1⟩ => ?_))
  obtain ⟨v, w, e1, q1⟩ := q1
  subst e1
  obtain ⟨u1, u2, rfl, rv, rw'⟩ : ∃ u1 u2, us = [u1, u2] ∧ RelV v u1 ∧ RelV w u2 := by
    cases r1 with
    | cons p q =>
      cases q with
      | cons p' q' =>
        cases q'
        exact ⟨_, _, rfl, p, p'⟩
  refine wpAny_newObj_type ?_ (by show 2 ≤ sizeLine; decide)
  have I2 : Inv X pins σ H1 { s1 with heap := s1.heap.push { cls := .type "tuple", data := .seq [u1, u2].toArray } } := I1.kept (t' := s1.toks) fun b o e => Heap.get?_push_of_some _ e
  rw [hw]
  refine wpAny_bind (wpAny_pure ?_)
  show wpAny (model X.prog X.w) X.A (do rule "assign.swapped-stores"; let items ← unpackItems (.ref s1.heap.objs.size) 2 none; assignInOrder [fun v => bindName X.env y v, fun v => bindName X.env x v] items.reverse; pure Flow.next) _ _ _
  refine wpAny_bind (wpAny_rule (wpAny_bind (unpackItems_tuple (items := #[u1, u2]) (I.ok.hd hc) (IsTup.new s1.heap _) fun h' hx' => ?_)))
  have I3 := I2.kept (h' := h') (t' := s1.toks) fun b o e => hx' b o (Nat.ne_of_lt (Heap.lt_size e)) e
  show wpAny _ _ (assignInOrder [fun v => bindName X.env y v, fun v => bindName X.env x v] [u2, u1] >>= fun _ => pure Flow.next) _ _ _
  refine wpAny_bind (assignInOrder_cons (wpAny_bindName (store_ok I3 hN hj (.inl hy) rw' (fun s2 I4 => ?_) (.inr hy))))
  refine assignInOrder_cons (wpAny_bindName (store_ok I4 hN hi (.inl hx) rv (fun s3 I5 => assignInOrder_nil (wpAny_pure ?_)) (.inr hx)))
  rw [List.set_comm _ _ (Ne.symm hij)] at I5
  exact ⟨_, H1, I5, q1⟩
/-- name op= e -/
def tAug (i : Nat) (te : TE) (ti : TIp) : TS := fun D σ H => ∃ x, σ[i]? = some (some x) ∧ te σ H fun y H1 => ti x y H1 fun z H2 => D.nx (σ.set i (some z)) H2
theorem ps_aug {i : Nat} {x : Str} {e : Expr} {te : TE} {op : Operator} {ti : TIp} {pos' : Pos} (hN : X.N.Nodup) (hi : X.N[i]? = some x) (hx : Loc X.env.scope x) (he : PE X e te) (ho : PIp X op ti) (hf : X.fn x = true ∨ X.env.scope.names.lookup x = some .local := by first | exact .inl rfl | exact .inr rfl | assumption) :
    PS X (.AugAssign (.Name x pos') op e pos) (tAug i te ti) := by
  intro pins s σ H D I h
  obtain ⟨v, e1, h⟩ := h
  obtain ⟨m, hn, hl⟩ := I.loc
  have vis : Vis X.env.scope x := by rcases hx with k | k; exact .inl k; exact .inr (.inl k)
  obtain ⟨u, r, l⟩ := hl i x v hi e1 vis
  refine wpAny_AugAssign_Name ?_
  have go : wpAny (model X.prog X.w) X.A (eval e X.env) (fun w s₂ => wpAny (model X.prog X.w) X.A (inplaceOp op u w) (fun r s₃ => wpAny (model X.prog X.w) X.A (storeName X.env x r) (fun _ => SP X pins D .next) X.xe s₃) X.xe s₂) X.xe s := by
    refine thn (he pins s σ H _ I h) fun w s1 ⟨y, H1, I1, r1, q1⟩ => ?_
    refine thn (ho pins s1 σ H1 v y u w _ I1 r r1 q1) fun z s2 ⟨zv, H2, I2, r2, q2⟩ => ?_
    exact store_ok I2 hN hi hx r2 (fun s3 I3 => ⟨_, H2, I3, q2⟩) hf
  rcases l with ⟨hk, hm⟩ | ⟨hk, c, hc, hcell⟩
  · exact wpAny_loadName_local I.ok.kind hk hn hm go
  · rcases hk with hk | hk
    · exact wpAny_loadName_cell I.ok.kind hk hc hcell go
    · rcases hx with k | k
      · have : X.env.scope.names.lookup x = some .free := hk
        rw [k] at this; cases this
      · have : X.env.scope.names.lookup x = some .free := hk
        rw [k] at this; cases this
/-- o[i] op= e -/
def tAugS (to ti te : TE) (tget : V → V → Hp → VK → Prop) (tip : TIp) (tset : TSet) : TS := fun D σ H => to σ H fun o H1 => ti σ H1 fun i H2 => tget o i H2 fun x H3 => te σ H3 fun y H4 => tip x y H4 fun z H5 => tset o i z H5 fun H6 => D.nx σ H6
/-- o[i], by values -/
def PGet (X : Cx) (t : V → V → Hp → VK → Prop) : Prop :=
  ∀ (pins : List (Addr × Obj)) (s : Shared) (σ : St) (H : Hp) (o i : V) (ov iv : Value) (Q : VK), Inv X pins σ H s → RelV o ov → RelV i iv → t o i H Q →
    wpAny (model X.prog X.w) X.A (getItem ov iv) (EP X pins σ Q) X.xe s
theorem ps_augS {o i e : Expr} {to ti te : TE} {tget : V → V → Hp → VK → Prop} {tip : TIp} {tset : TSet} {op : Operator} {tpos : Pos} (ho : PE X o to) (hi : PE X i ti) (hg : PGet X tget) (he : PE X e te) (hp : PIp X op tip) (hs : PSet X tset)
    (ha : ∀ ov iv new, augStore i ov iv new = (do holding [new, ov, iv] (setItem ov iv new); release [new, ov, iv] []; pure .next) := by intros; rfl) : PS X (.AugAssign (.Subscript o i tpos) op e pos) (tAugS to ti te tget tip tset) := by
  intro pins s σ H D I h
  refine wpAny_AugAssign_SubscriptAny (thn (ho pins s σ H _ I h) fun ov s1 ⟨x1, H1, I1, r1, q1⟩ => ?_) ha
  refine thn (hi pins s1 σ H1 _ I1 q1) fun iv s2 ⟨x2, H2, I2, r2, q2⟩ => ?_
  refine thn (hg pins s2 σ H2 x1 x2 ov iv _ I2 r1 r2 q2) fun old s3 ⟨x3, H3, I3, r3, q3⟩ => ?_
  refine thn (he pins s3 σ H3 _ I3 q3) fun v s4 ⟨x4, H4, I4, r4, q4⟩ => ?_
  refine thn (hp pins s4 σ H4 x3 x4 old v _ I4 r3 r4 q4) fun new s5 ⟨x5, H5, I5, r5, q5⟩ => ?_
  exact thn (hs pins s5 σ H5 x1 x2 x5 ov iv new _ I5 r1 r2 r5 q5) fun _ s6 ⟨H6, I6, q6⟩ => ⟨σ, H6, I6, q6⟩
/-- ints -/
def ipI (f : Int → Int → Int) : TIp := fun x y H Q => ∃ i j, x = .int i ∧ y = .int j ∧ Q (.int (f i j)) H
theorem ip_add : PIp X .Add (ipI fun i j => i + j) := by
  intro pins s σ H x y v u Q I r1 r2 h
  obtain ⟨i, j, e1, e2, q⟩ := h
  subst e1; subst e2
  obtain ⟨t, rfl⟩ := r1
  obtain ⟨t', rfl⟩ := r2
  exact iadd_int ⟨.int _, H, I.tok _, ⟨_, rfl⟩, q⟩
theorem ip_sub : PIp X .Sub (ipI fun i j => i - j) := by
  intro pins s σ H x y v u Q I r1 r2 h
  obtain ⟨i, j, e1, e2, q⟩ := h
  subst e1; subst e2
  obtain ⟨t, rfl⟩ := r1
  obtain ⟨t', rfl⟩ := r2
  exact isub_int ⟨.int _, H, I.tok _, ⟨_, rfl⟩, q⟩
end

/-! ### while -/
section
variable {X : Cx} {pos : Pos}
/-- the invariant W with its measure -/
def tWhile (c : TT) (tb : TS) : TS := fun D σ H => ∃ W : Nat → St → Hp → Prop, (∃ m, W m σ H) ∧ ∀ m σ H, W m σ H →
  c σ H fun b H1 => if b = true then ∃ N : St → Hp → Prop, (∀ σ' H', N σ' H' → ∃ m', m' < m ∧ W m' σ' H') ∧ tb { D with nx := N, ct := N, bk := D.nx } σ H1 else D.nx σ H1
theorem ps_while {c : Expr} {body : List Stmt} {tc : TT} {tb : TS} (hp : PassesOwn (model X.prog X.w) X.A X.env X.xe) (hc : PT X c tc) (hb : PSs X body tb) : PS X (.While c body [] pos) (tWhile tc tb) := by
  intro pins s σ H D I h
  obtain ⟨W, ⟨m0, w0⟩, turn⟩ := h
  refine wpAny_While (codeAny_whileLoop (fun n s' => ∃ σ' H', Inv X pins σ' H' s' ∧ W n σ' H') ?_ m0 ⟨σ, H, I, w0⟩)
  rintro n s1 ⟨σ1, H1, I1, w1⟩
  refine wpAny_passesOwn hp (thn (hc pins s1 σ1 H1 _ I1 (turn n σ1 H1 w1)) fun b s2 ⟨H2, I2, q2⟩ => ?_)
  cases b with
  | true =>
    obtain ⟨N, hN, q2⟩ := q2
    rw [if_pos rfl]
    refine wpAny_passesOwn hp (thn (hb pins s2 σ1 H2 _ I2 q2) fun f s3 q3 => ?_)
    cases f with
    | next =>
      obtain ⟨σ3, H3, I3, n3⟩ := q3
      obtain ⟨m', hm, w3⟩ := hN σ3 H3 n3
      exact ⟨m', hm, σ3, H3, I3, w3⟩
    | cont =>
      obtain ⟨σ3, H3, I3, n3⟩ := q3
      obtain ⟨m', hm, w3⟩ := hN σ3 H3 n3
      exact ⟨m', hm, σ3, H3, I3, w3⟩
    | brk => exact q3
    | ret v => exact q3
  | false =>
    rw [if_neg Bool.false_ne_true]
    exact wpAny_execs_nil ⟨σ1, H2, I2, q2⟩
end

/-! ### what a loop or a comprehension walks -/
/-- at turn i: it yields x (the heap may grow), or it stops -/
structure It where
  go : Nat → Hp → Prop
  yld : Nat → Hp → V → Hp → Prop
  stop : Nat → Hp → Prop
/-- the iterator's own objects may turn: they are not the frame's, not pinned, younger than the entry (or a comprehension's own) -/
def FpOk (X : Cx) (pins : List (Addr × Obj)) (H : Hp) (b : Addr) : Prop :=
  H b = none ∧ b ≠ X.env.locals ∧ b ∉ X.fs ∧ (b ∈ X.ex ∨ X.s₀.heap.objs.size ≤ b) ∧ (∀ x c, X.env.cells.lookup x = some c → c ≠ b) ∧ ∀ p ∈ X.pn ++ pins, p.1 ≠ b
theorem Inv.fpOk {X : Cx} {pins : List (Addr × Obj)} {σ : St} {H H' : Hp} {s : Shared} {b : Addr} (I : Inv X pins σ H s) (hb : s.heap.objs.size ≤ b) (hn : H' b = none) : FpOk X pins H' b := by
  refine ⟨hn, Nat.ne_of_gt (Nat.lt_of_lt_of_le I.lt hb), I.nofs hb, .inr (Nat.le_trans I.sz hb), fun x c e z => ?_, fun p hp z => ?_⟩
  · obtain ⟨v, q⟩ := I.cell x c e
    exact absurd (Nat.lt_of_lt_of_le q.lt (by rw [z]; exact hb)) (Nat.lt_irrefl _)
  · exact absurd (Nat.lt_of_lt_of_le (Heap.lt_size (I.pin p hp).1) (by rw [z]; exact hb)) (Nat.lt_irrefl _)
structure Turn (P : Program) (w : World) (K : PySem.W.Frag) (tg : Expr) (J : It) (fp : List Addr) (it : Addr) (tn : Nat → Heap → Prop) : Prop where
  mem : it ∈ fp
  obj : ∀ i h, tn i h → ∀ b ∈ fp, ∃ o, h.get? b = some o ∧ ∀ v, o.data ≠ .cell v
  keep : ∀ i h h', tn i h → (∀ b ∈ fp, ∀ o, h.get? b = some o → h'.get? b = some o) → tn i h'
  item : ∀ (X : Cx), X.prog = P → X.w = w → X.K = K → X.calm = true → ∀ (i : Nat) (pins : List (Addr × Obj)) (s : Shared) (σ : St) (H : Hp) (E : Value → Shared → Prop), Inv X pins σ H s → (∀ b ∈ fp, FpOk X pins H b) → tn i s.heap → J.go i H →
    wpAny (model P w) X.A (pyNext (.ref it)) (fun r s1 => ∃ u, r = some u ∧
      wpAny (model P w) X.A (letOwnedTupleGo tg (.ref it) u) (fun _ s2 => ∃ x H', Inv X pins σ H' s2 ∧ RelV x u ∧ J.yld i H x H' ∧ tn (i + 1) s2.heap ∧ ∀ b ∈ fp, H' b = none) E s1) E s
  done : ∀ (X : Cx), X.prog = P → X.w = w → X.K = K → X.calm = true → ∀ (i : Nat) (pins : List (Addr × Obj)) (s : Shared) (σ : St) (H : Hp) (E : Value → Shared → Prop), Inv X pins σ H s → (∀ b ∈ fp, FpOk X pins H b) → tn i s.heap → J.stop i H →
    wpAny (model P w) X.A (pyNext (.ref it)) (fun r s1 => r = none ∧ Inv X pins σ H s1) E s
  self : ∀ (A : Around) (i : Nat) (s : Shared) (Q : Value → Shared → Prop) (E : Value → Shared → Prop), tn i s.heap → Q (.ref it) s → wpAny (model P w) A (pyIter (.ref it)) Q E s
abbrev TI := St → Hp → (It → Hp → Prop) → Prop
/-- an iterator has come -/
def PIE (X : Cx) (pins : List (Addr × Obj)) (σ : St) (tg : Expr) (R : It → Hp → Prop) (itv : Value) (s2 : Shared) : Prop :=
  ∃ (it : Addr) (fp : List Addr) (tn : Nat → Heap → Prop) (J : It) (H' : Hp), itv = .ref it ∧ Inv X pins σ H' s2 ∧ Turn X.prog X.w X.K tg J fp it tn ∧ tn 0 s2.heap ∧ (∀ b ∈ fp, FpOk X pins H' b) ∧ R J H'
def PI (X : Cx) (tg iter : Expr) (wi : TI) : Prop :=
  ∀ (pins : List (Addr × Obj)) (s : Shared) (σ : St) (H : Hp) (R : It → Hp → Prop), Inv X pins σ H s → wi σ H R →
    wpAny (model X.prog X.w) X.A (eval iter X.env) (fun v s1 => wpAny (model X.prog X.w) X.A (pyIter v) (PIE X pins σ tg R) X.xe s1) X.xe s

/-- the step ahead of the store is nothing for an iterator that keeps no tuple -/
theorem go_of {M : Model} {A : Around} {E : Value → Shared → Prop} {s : Shared} {tg : Expr} {it : Addr} {u : Value} {o : Obj} {n : String} {vs : Array Value} {Q : Unit → Shared → Prop} (ho : s.heap.get? it = some o) (hc : o.cls = .type n) (hd : o.data = .fields vs)
    (hn : ["enumerate", "zip", "dict_itemiterator", "dict_reverseitemiterator", "odict_iterator", "itertools.zip_longest", "itertools.pairwise"].contains n = false) (hQ : Q () s) : wpAny M A (letOwnedTupleGo tg (.ref it) u) Q E s := by
  unfold letOwnedTupleGo
  cases tg <;> first
    | exact wpAny_pure hQ
    | (cases u <;> first
        | exact wpAny_pure hQ
        | (refine wpAny_bind (wpAny_load ho ?_)
           rw [hc, hd]
           show wpAny M A (if (["enumerate", "zip", "dict_itemiterator", "dict_reverseitemiterator", "odict_iterator", "itertools.zip_longest", "itertools.pairwise"].contains n && vs[0]? == some (rawInt _)) = true then _ else _) Q E s
           rw [if_neg (by intro h; rw [hn, Bool.false_and] at h; cases h)]
           exact wpAny_pure hQ))

/-- the list at a, as it stands at each turn (a loop may append to it) -/
def Itl (K : PySem.W.Frag) (a : Addr) : It :=
  ⟨fun i H => ∃ xs x, SqL K H a xs ∧ xs[i]? = some x, fun i H x H' => H' = H ∧ ∀ xs, SqL K H a xs → xs[i]? = some x, fun i H => ∃ xs, SqL K H a xs ∧ xs.length ≤ i⟩
def Itt (K : PySem.W.Frag) (a : Addr) : It :=
  ⟨fun i H => ∃ xs x, SqT K H a xs ∧ xs[i]? = some x, fun i H x H' => H' = H ∧ ∀ xs, SqT K H a xs → xs[i]? = some x, fun i H => ∃ xs, SqT K H a xs ∧ xs.length ≤ i⟩
/-- lo, lo + 1, .. (n of them) -/
def Itr (lo : Int) (n : Nat) : It := ⟨fun i _ => i < n, fun i H x H' => H' = H ∧ x = .int (lo + i), fun i _ => n ≤ i⟩
theorem turn_list {P : Program} {w : World} {K : PySem.W.Frag} {tg : Expr} (a it : Addr) : Turn P w K tg (Itl K a) [it] it (fun i h => h.IsListIter it a i) where
  mem := by simp
  obj := fun i h st b hb => by
    have e : b = it := by simpa using hb
    subst e
    obtain ⟨o, e, c, d⟩ := st
    exact ⟨o, e, fun v z => by rw [d] at z; cases z⟩
  keep := fun i h h' st k => st.at fun o e => k it (by simp) o e
  item := by
    intro X hP hw hK hc i pins s σ H E I hf st hg
    subst hP hw hK
    obtain ⟨xs, x, hq, hx⟩ := hg
    obtain ⟨its, rv, p, hz⟩ := I.list hq
    obtain ⟨u, hu, ru⟩ := rv.get hx
    obtain ⟨f0, f1, f2, f3, f4, f5⟩ := hf it (by simp)
    refine wpAny_pyNext_list_item st p.isList (x := u) (by simpa using hu) fun h' st' sb => ?_
    have I1 : Inv X pins σ H { s with heap := h' } := I.turned (t' := s.toks) (fun b o hb e => (sb.2 b hb).trans e) f0 f1 f3 f4 f5
    obtain ⟨o, e, c, d⟩ := id st'
    exact ⟨u, rfl, go_of (s := { s with heap := h' }) e c d (by decide) ⟨x, H, I1, ru, ⟨rfl, fun ys hy => by rw [I.list_inj hy hq]; exact hx⟩, st', fun b hb => (hf b hb).1⟩⟩
  done := by
    intro X hP hw hK hc i pins s σ H E I hf st hg
    subst hP hw hK
    obtain ⟨xs, hq, hx⟩ := hg
    obtain ⟨its, rv, p, hz⟩ := I.list hq
    obtain ⟨f0, f1, f2, f3, f4, f5⟩ := hf it (by simp)
    have hl := rv.length
    exact wpAny_pyNext_list_end (I.ok.hd hc) st p.isList (by simp; omega) fun h' eb => ⟨rfl, I.turned (t' := s.toks) (fun b o hb e => eb b o hb e) f0 f1 f3 f4 f5⟩
  self := fun _ _ _ _ _ st h => wpAny_pyIter_listiter st h
theorem turn_tuple {P : Program} {w : World} {K : PySem.W.Frag} {tg : Expr} (a it : Addr) : Turn P w K tg (Itt K a) [it] it (fun i h => h.IsTupleIter it a i) where
  mem := by simp
  obj := fun i h st b hb => by
    have e : b = it := by simpa using hb
    subst e
    obtain ⟨o, e, c, d⟩ := st
    exact ⟨o, e, fun v z => by rw [d] at z; cases z⟩
  keep := fun i h h' st k => st.at fun o e => k it (by simp) o e
  item := by
    intro X hP hw hK hc i pins s σ H E I hf st hg
    subst hP hw hK
    obtain ⟨xs, x, hq, hx⟩ := hg
    obtain ⟨its, rv, p, hz⟩ := I.tuple hq
    obtain ⟨u, hu, ru⟩ := rv.get hx
    obtain ⟨f0, f1, f2, f3, f4, f5⟩ := hf it (by simp)
    refine wpAny_pyNext_tuple_item st (show s.heap.IsTuple a its.toArray from p) (x := u) (by simpa using hu) fun h' st' sb => ?_
    have I1 : Inv X pins σ H { s with heap := h' } := I.turned (t' := s.toks) (fun b o hb e => (sb.2 b hb).trans e) f0 f1 f3 f4 f5
    obtain ⟨o, e, c, d⟩ := id st'
    exact ⟨u, rfl, go_of (s := { s with heap := h' }) e c d (by decide) ⟨x, H, I1, ru, ⟨rfl, fun ys hy => by rw [I.tuple_inj hy hq]; exact hx⟩, st', fun b hb => (hf b hb).1⟩⟩
  done := by
    intro X hP hw hK hc i pins s σ H E I hf st hg
    subst hP hw hK
    obtain ⟨xs, hq, hx⟩ := hg
    obtain ⟨its, rv, p, hz⟩ := I.tuple hq
    obtain ⟨f0, f1, f2, f3, f4, f5⟩ := hf it (by simp)
    have hl := rv.length
    exact wpAny_pyNext_tuple_end (I.ok.hd hc) st (show s.heap.IsTuple a its.toArray from p) (by simp; omega) fun h' eb => ⟨rfl, I.turned (t' := s.toks) (fun b o hb e => eb b o hb e) f0 f1 f3 f4 f5⟩
  self := fun _ _ _ _ _ st h => wpAny_pyIter_tupleiter st h
theorem turn_range {P : Program} {w : World} {K : PySem.W.Frag} {tg : Expr} (it : Addr) (lo : Int) (n : Nat) : Turn P w K tg (Itr lo n) [it] it (fun i h => IsRangeIter h it (lo + (i : Nat) * 1) ((n : Int) - (i : Nat)) 1) where
  mem := by simp
  obj := fun i h st b hb => by
    have e : b = it := by simpa using hb
    subst e
    exact ⟨_, st, fun v z => by
      have z' : Data.fields _ = Data.cell v := z
      cases z'⟩
  keep := fun i h h' st k => k it (by simp) _ st
  item := by
    intro X hP hw hK hc i pins s σ H E I hf st hg
    subst hP hw hK
    obtain ⟨f0, f1, f2, f3, f4, f5⟩ := hf it (by simp)
    have W := Walks.range (prog := X.prog) (w := X.w) (I.ok.hd hc) it lo 1 n
    refine W.item i s _ _ hg st fun v h' tk hv st' kk => ?_
    obtain ⟨t, rfl⟩ := hv
    have I1 : Inv X pins σ H { s with heap := h', toks := tk } := I.turned (fun b o hb e => kk b o (by simpa using hb) e) f0 f1 f3 f4 f5
    refine ⟨_, rfl, go_of (s := { s with heap := h', toks := tk }) (n := "range_iterator") st' rfl rfl (by decide) ⟨.int (lo + i), H, I1, ⟨t, ?_⟩, ⟨rfl, rfl⟩, st', fun b hb => (hf b hb).1⟩⟩
    rw [Int.mul_one]
  done := by
    intro X hP hw hK hc i pins s σ H E I hf st hg
    subst hP hw hK
    obtain ⟨f0, f1, f2, f3, f4, f5⟩ := hf it (by simp)
    exact wpAny_pyNext_range_end (I.ok.hd hc) st (by have : n ≤ i := hg; omega) fun h' eb => ⟨rfl, I.turned (t' := s.toks) (fun b o hb e => eb b o hb e) f0 f1 f3 f4 f5⟩
  self := fun _ _ _ _ _ st h => wpAny_pyIter_rangeiter st h
end L2

namespace L2
open PySem PySem.Spec PyProof.Rows
section
variable {X : Cx} {tg : Expr}
def iList (K : PySem.W.Frag) (tl : TE) : TI := fun σ H R => tl σ H fun x H1 => ∃ a, x = .ref a ∧ (∃ xs, SqL K H1 a xs) ∧ R (Itl K a) H1
def iTup (K : PySem.W.Frag) (tl : TE) : TI := fun σ H R => tl σ H fun x H1 => ∃ a, x = .ref a ∧ (∃ xs, SqT K H1 a xs) ∧ R (Itt K a) H1
theorem pi_list {l : Expr} {tl : TE} (hl : PE X l tl) : PI X tg l (iList X.K tl) := by
  intro pins s σ H R I h
  refine thn (hl pins s σ H _ I h) fun v s1 ⟨x, H1, I1, r1, q1⟩ => ?_
  obtain ⟨a, e, ⟨xs, hq⟩, q⟩ := q1
  subst e
  cases r1
  obtain ⟨its, rv, p, hz⟩ := I1.list hq
  refine wpAny_pyIter_list p.isList ?_
  refine ⟨s1.heap.objs.size, [s1.heap.objs.size], _, _, H1, rfl, I1.kept (t' := s1.toks) fun b o e => Heap.get?_push_of_some _ e, turn_list a _, ⟨_, Heap.get?_push_size _ rfl, rfl, rfl⟩, fun b hb => ?_, q⟩
  have e : b = s1.heap.objs.size := by simpa using hb
  subst e
  exact I1.fpOk (Nat.le_refl _) (I1.hok.fresh (Nat.le_refl _))
theorem pi_tup {l : Expr} {tl : TE} (hl : PE X l tl) : PI X tg l (iTup X.K tl) := by
  intro pins s σ H R I h
  refine thn (hl pins s σ H _ I h) fun v s1 ⟨x, H1, I1, r1, q1⟩ => ?_
  obtain ⟨a, e, ⟨xs, hq⟩, q⟩ := q1
  subst e
  cases r1
  obtain ⟨its, rv, p, hz⟩ := I1.tuple hq
  refine wpAny_pyIter_tuple (show s1.heap.IsTuple a its.toArray from p) ?_
  refine ⟨s1.heap.objs.size, [s1.heap.objs.size], _, _, H1, rfl, I1.kept (t' := s1.toks) fun b o e => Heap.get?_push_of_some _ e, turn_tuple a _, ⟨_, Heap.get?_push_size _ rfl, rfl, rfl⟩, fun b hb => ?_, q⟩
  have e : b = s1.heap.objs.size := by simpa using hb
  subst e
  exact I1.fpOk (Nat.le_refl _) (I1.hok.fresh (Nat.le_refl _))
/-- a range object just made, walked -/
theorem range_it {pins : List (Addr × Obj)} {σ : St} {H : Hp} {s : Shared} {R : It → Hp → Prop} {E : Value → Shared → Prop} {lo hi : Int} {t u v : Tok} {tk : Nat} (I : Inv X pins σ H s) (h1 : -(2 ^ 62) ≤ lo) (h2 : lo < 2 ^ 62) (h3 : -(2 ^ 62) ≤ hi) (h4 : hi < 2 ^ 62)
    (q : R (Itr lo (hi - lo).toNat) H) : wpAny (model X.prog X.w) X.A (pyIter (.ref s.heap.objs.size)) (PIE X pins σ tg R) E { s with heap := s.heap.push { cls := .type "range", data := .fields #[.int lo t, .int hi u, .int 1 v] }, toks := tk } := by
  refine wpAny_pyIter_range (IsRange.new ..) (small_one h1 h2 h3 h4) ?_
  have I1 : Inv X pins σ H { s with heap := s.heap.push { cls := .type "range", data := .fields #[.int lo t, .int hi u, .int 1 v] }, toks := tk } := I.kept fun b o e => Heap.get?_push_of_some _ e
  refine ⟨(s.heap.push { cls := .type "range", data := .fields #[.int lo t, .int hi u, .int 1 v] }).objs.size, [(s.heap.push { cls := .type "range", data := .fields #[.int lo t, .int hi u, .int 1 v] }).objs.size], _, _, H, rfl,
    I1.kept (t' := tk) fun b o e => Heap.get?_push_of_some _ e, turn_range _ lo (hi - lo).toNat, ?_, fun b hb => ?_, q⟩
  · have e1 : lo + ((0 : Nat) : Int) * 1 = lo := by simp
    have e2 : (((hi - lo).toNat : Nat) : Int) - ((0 : Nat) : Int) = Builtin.Range.rangeSize lo hi 1 := by rw [rangeSize_one]; split <;> omega
    show IsRangeIter _ _ (lo + ((0 : Nat) : Int) * 1) ((((hi - lo).toNat : Nat) : Int) - ((0 : Nat) : Int)) 1
    rw [e1, e2]
    exact Heap.get?_push_size _ rfl
  · have e : b = (s.heap.push { cls := .type "range", data := .fields #[.int lo t, .int hi u, .int 1 v] }).objs.size := by simpa using hb
    subst e
    exact I1.fpOk (Nat.le_refl _) (I1.hok.fresh (Nat.le_refl _))
def iRng1 (ta : TA) : TI := fun σ H R => ta σ H fun vs H1 => ∃ j : Int, vs = [.int j] ∧ -(2 ^ 62) ≤ j ∧ j < 2 ^ 62 ∧ R (Itr 0 j.toNat) H1
def iRng2 (ta : TA) : TI := fun σ H R => ta σ H fun vs H1 => ∃ i j : Int, vs = [.int i, .int j] ∧ (-(2 ^ 62) ≤ i ∧ i < 2 ^ 62 ∧ -(2 ^ 62) ≤ j ∧ j < 2 ^ 62) ∧ R (Itr i (j - i).toNat) H1
theorem pi_range1 {a : Expr} {ta : TA} {p pos : Pos} (hg : Gl X "range") (hm : X.mg "range" = none) (ha : PA X [a] ta) (hs : starEach [a] X.env = [(false, eval a X.env)] := by rfl) : PI X tg (.Call (.Name "range" p) [a] [] pos) (iRng1 ta) := by
  intro pins s σ H R I h
  refine Call_ (ld_blt I hg hm boot_range (PyProof.Rows.callWith_type1 (thn (ha pos pins s σ H _ I h) fun us s1 ⟨vs, H1, I1, r1, q1⟩ => ?_) hs rfl))
  obtain ⟨j, e, q1, q2, q⟩ := q1
  subst e
  cases r1 with
  | cons r rr =>
    cases rr
    obtain ⟨t, rfl⟩ := r
    exact call_range_1 (range_it I1 (by omega) (by omega) q1 q2 (by simpa using q))
theorem pi_range2 {a b : Expr} {ta : TA} {p pos : Pos} (hg : Gl X "range") (hm : X.mg "range" = none) (ha : PA X [a, b] ta) (hs : starEach [a, b] X.env = [(false, eval a X.env), (false, eval b X.env)] := by rfl) (hs2 : starEach [b] X.env = [(false, eval b X.env)] := by rfl) :
    PI X tg (.Call (.Name "range" p) [a, b] [] pos) (iRng2 ta) := by
  intro pins s σ H R I h
  refine Call_ (ld_blt I hg hm boot_range (PyProof.Rows.callWith_type1 (thn (ha pos pins s σ H _ I h) fun us s1 ⟨vs, H1, I1, r1, q1⟩ => ?_) (by rw [hs, hs2]) (by rw [hs2]; rfl)))
  obtain ⟨i, j, e, ⟨q1, q2, q3, q4⟩, q⟩ := q1
  subst e
  cases r1 with
  | cons r rr =>
    cases rr with
    | cons r' rr =>
      cases rr
      obtain ⟨t, rfl⟩ := r
      obtain ⟨t', rfl⟩ := r'
      exact call_range_2 (range_it I1 q1 q2 q3 q4 q)

/-! ### for -/
/-- W: the invariant by the turn and a measure; N: what the body is to reach -/
def tFor (wi : TI) (g : TG) (tb : TS) : TS := fun D σ H => wi σ H fun J H1 => ∃ W : Nat → Nat → St → Hp → Prop, (∃ m, W 0 m σ H1) ∧ ∀ i m σ H, W i m σ H →
  (J.stop i H ∧ D.nx σ H) ∨ (J.go i H ∧ ∃ N : St → Hp → Prop, (∀ σ' H', N σ' H' → ∃ m', m' < m ∧ W (i + 1) m' σ' H') ∧ ∀ x H', J.yld i H x H' → g x σ H' fun σ2 H2 => tb { D with nx := N, ct := N, bk := D.nx } σ2 H2)
/-- the records at fp as they stand -/
def pinsAt (fp : List Addr) (h : Heap) : List (Addr × Obj) := fp.filterMap fun b => (h.get? b).map fun o => (b, o)
theorem mem_pinsAt {fp : List Addr} {h : Heap} {b : Addr} {o : Obj} (hb : b ∈ fp) (e : h.get? b = some o) : (b, o) ∈ pinsAt fp h := List.mem_filterMap.mpr ⟨b, hb, by rw [e]; rfl⟩
theorem of_pinsAt {fp : List Addr} {h : Heap} {p : Addr × Obj} (hp : p ∈ pinsAt fp h) : p.1 ∈ fp ∧ h.get? p.1 = some p.2 := by
  obtain ⟨b, hb, e⟩ := List.mem_filterMap.mp hp
  cases q : h.get? b with
  | none => rw [q] at e; cases e
  | some o =>
    rw [q] at e
    have e' : (b, o) = p := Option.some.inj e
    subst e'
    exact ⟨hb, q⟩
theorem Inv.pinned {pins : List (Addr × Obj)} {σ : St} {H : Hp} {s : Shared} {fp : List Addr} (I : Inv X pins σ H s) (hf : ∀ b ∈ fp, FpOk X pins H b) (ho : ∀ b ∈ fp, ∃ o, s.heap.get? b = some o ∧ ∀ v, o.data ≠ .cell v) : Inv X (pins ++ pinsAt fp s.heap) σ H s :=
  I.pins_of fun p hp => (List.mem_append.mp hp).elim (fun z => I.pin p (List.mem_append_right _ z)) fun z => by
    obtain ⟨hb, e⟩ := of_pinsAt z
    obtain ⟨f0, f1, f2, _⟩ := hf p.1 hb
    obtain ⟨o, e', d⟩ := ho p.1 hb
    rw [e] at e'; cases e'
    exact ⟨e, f0, f1, f2, d⟩
theorem Inv.unpinned {pins pl : List (Addr × Obj)} {σ : St} {H : Hp} {s : Shared} (I : Inv X (pins ++ pl) σ H s) : Inv X pins σ H s := I.pins_of fun p hp => I.pin p (List.mem_append_right _ (List.mem_append_left _ hp))
theorem ps_for {iter : Expr} {body : List Stmt} {wi : TI} {g : TG} {tb : TS} {pos : Pos} (hp : PassesOwn (model X.prog X.w) X.A X.env X.xe) (hc : X.calm = true) (hi : PI X tg iter wi) (hg : PG X tg g) (hb : PSs X body tb)
    (hs : ∀ x, foldedSetIterable iter X.env x = pure x := by intro _; rfl) : PS X (.For tg iter body [] pos) (tFor wi g tb) := by
  intro pins s σ H D I h
  refine wpAny_For (thn (hi pins s σ H _ I h) fun v s1 h1 => thn h1 fun itv s2 h2 => ?_) hs
  obtain ⟨it, fp, tn, J, H2, e, I2, T, st2, f2, W, ⟨m0, w0⟩, turn⟩ := h2
  subst e
  -- what stays true of the iterator's objects through the loop
  have stat : ∀ {H' : Hp}, (∀ b ∈ fp, H' b = none) → ∀ b ∈ fp, FpOk X pins H' b := fun hn b hb => ⟨hn b hb, (f2 b hb).2⟩
  refine codeAny_forLoop_any (fun n s' => ∃ i σ' H', Inv X pins σ' H' s' ∧ tn i s'.heap ∧ (∀ b ∈ fp, H' b = none) ∧ W i n σ' H') ?_ m0 ⟨0, σ, H2, I2, st2, fun b hb => (f2 b hb).1, w0⟩
  rintro n s3 ⟨i, σ3, H3, I3, st3, fr3, w3⟩
  rcases turn i n σ3 H3 w3 with ⟨stop, qn⟩ | ⟨go, N, hN, step⟩
  · refine wpAny_passesOwn hp (thn (T.done X rfl rfl rfl hc i pins s3 σ3 H3 X.xe I3 (stat fr3) st3 stop) fun r s4 ⟨hr, I4⟩ => ?_)
    subst hr
    exact wpAny_execs_nil ⟨σ3, H3, I4, qn⟩
  · refine wpAny_passesOwn hp (thn (T.item X rfl rfl rfl hc i pins s3 σ3 H3 X.xe I3 (stat fr3) st3 go) fun r s4 ⟨u, hr, h4⟩ => ?_)
    subst hr
    refine wpAny_passesOwn hp (thn h4 fun _ s5 ⟨x, H5, I5, r5, y5, st5, fr5⟩ => ?_)
    have I5' := I5.pinned (stat fr5) (T.obj _ _ st5)
    refine wpAny_passesOwn hp (thn (hg _ s5 σ3 H5 x u _ I5' r5 (step x H5 y5)) fun _ s6 ⟨σ6, H6, I6, q6⟩ => ?_)
    refine wpAny_passesOwn hp (thn (hb _ s6 σ6 H6 _ I6 q6) fun f s7 q7 => ?_)
    have again : ∀ {σ7 : St} {H7 : Hp}, Inv X (pins ++ pinsAt fp s5.heap) σ7 H7 s7 → N σ7 H7 → ∃ m, m < n ∧ ∃ i σ' H', Inv X pins σ' H' s7 ∧ tn i s7.heap ∧ (∀ b ∈ fp, H' b = none) ∧ W i m σ' H' := fun {σ7 H7} I7 n7 => by
      obtain ⟨m', hm, w7⟩ := hN σ7 H7 n7
      refine ⟨m', hm, i + 1, σ7, H7, I7.unpinned, T.keep _ _ _ st5 fun b hb o e => (I7.pin (b, o) (List.mem_append_right _ (List.mem_append_right _ (mem_pinsAt hb e)))).1, fun b hb => ?_, w7⟩
      obtain ⟨o, e, d⟩ := T.obj _ _ st5 b hb
      exact (I7.pin (b, o) (List.mem_append_right _ (List.mem_append_right _ (mem_pinsAt hb e)))).2.1
    cases f with
    | next => obtain ⟨σ7, H7, I7, n7⟩ := q7; exact again I7 n7
    | cont => obtain ⟨σ7, H7, I7, n7⟩ := q7; exact again I7 n7
    | brk => obtain ⟨σ7, H7, I7, q7⟩ := q7; exact ⟨σ7, H7, I7.unpinned, q7⟩
    | ret v => obtain ⟨x7, σ7, H7, I7, r7, q7⟩ := q7; exact ⟨x7, σ7, H7, I7.unpinned, r7, q7⟩
end

/-! ### the forms one uses -/
/-- over a list that the body leaves as it is -/
theorem for_list {K : PySem.W.Frag} {a : Addr} {xs : List V} {g : TG} {tb : TS} {D : Ends} {σ : St} {H : Hp} (Pv : Nat → St → Hp → Prop) (h0 : Pv 0 σ H) (hl : ∀ i σ H, i ≤ xs.length → Pv i σ H → SqL K H a xs)
    (hs : ∀ i x σ H, xs[i]? = some x → Pv i σ H → g x σ H fun σ2 H2 => tb { D with nx := Pv (i + 1), ct := Pv (i + 1), bk := D.nx } σ2 H2) (hd : ∀ σ H, Pv xs.length σ H → D.nx σ H) :
    ∃ W : Nat → Nat → St → Hp → Prop, (∃ m, W 0 m σ H) ∧ ∀ i m σ H, W i m σ H →
      ((Itl K a).stop i H ∧ D.nx σ H) ∨ ((Itl K a).go i H ∧ ∃ N : St → Hp → Prop, (∀ σ' H', N σ' H' → ∃ m', m' < m ∧ W (i + 1) m' σ' H') ∧ ∀ x H', (Itl K a).yld i H x H' → g x σ H' fun σ2 H2 => tb { D with nx := N, ct := N, bk := D.nx } σ2 H2) := by
  refine ⟨fun i m σ H => m = xs.length - i ∧ i ≤ xs.length ∧ Pv i σ H, ⟨xs.length, by simp, Nat.zero_le _, h0⟩, ?_⟩
  rintro i m σ H ⟨rfl, hi, p⟩
  have q := hl i σ H hi p
  by_cases hlt : i < xs.length
  · refine .inr ⟨⟨xs, xs[i], q, by simp [hlt]⟩, Pv (i + 1), fun σ' H' p' => ⟨xs.length - (i + 1), by omega, rfl, hlt, p'⟩, fun x H' y => ?_⟩
    obtain ⟨e, y⟩ := y
    subst e
    exact hs i x σ _ (y xs q) p
  · have e : i = xs.length := by omega
    subst e
    exact .inl ⟨⟨xs, q, Nat.le_refl _⟩, hd σ H p⟩
theorem for_tup {K : PySem.W.Frag} {a : Addr} {xs : List V} {g : TG} {tb : TS} {D : Ends} {σ : St} {H : Hp} (Pv : Nat → St → Hp → Prop) (h0 : Pv 0 σ H) (hl : ∀ i σ H, i ≤ xs.length → Pv i σ H → SqT K H a xs)
    (hs : ∀ i x σ H, xs[i]? = some x → Pv i σ H → g x σ H fun σ2 H2 => tb { D with nx := Pv (i + 1), ct := Pv (i + 1), bk := D.nx } σ2 H2) (hd : ∀ σ H, Pv xs.length σ H → D.nx σ H) :
    ∃ W : Nat → Nat → St → Hp → Prop, (∃ m, W 0 m σ H) ∧ ∀ i m σ H, W i m σ H →
      ((Itt K a).stop i H ∧ D.nx σ H) ∨ ((Itt K a).go i H ∧ ∃ N : St → Hp → Prop, (∀ σ' H', N σ' H' → ∃ m', m' < m ∧ W (i + 1) m' σ' H') ∧ ∀ x H', (Itt K a).yld i H x H' → g x σ H' fun σ2 H2 => tb { D with nx := N, ct := N, bk := D.nx } σ2 H2) := by
  refine ⟨fun i m σ H => m = xs.length - i ∧ i ≤ xs.length ∧ Pv i σ H, ⟨xs.length, by simp, Nat.zero_le _, h0⟩, ?_⟩
  rintro i m σ H ⟨rfl, hi, p⟩
  have q := hl i σ H hi p
  by_cases hlt : i < xs.length
  · refine .inr ⟨⟨xs, xs[i], q, by simp [hlt]⟩, Pv (i + 1), fun σ' H' p' => ⟨xs.length - (i + 1), by omega, rfl, hlt, p'⟩, fun x H' y => ?_⟩
    obtain ⟨e, y⟩ := y
    subst e
    exact hs i x σ _ (y xs q) p
  · have e : i = xs.length := by omega
    subst e
    exact .inl ⟨⟨xs, q, Nat.le_refl _⟩, hd σ H p⟩
theorem for_range {lo : Int} {n : Nat} {g : TG} {tb : TS} {D : Ends} {σ : St} {H : Hp} (Pv : Nat → St → Hp → Prop) (h0 : Pv 0 σ H)
    (hs : ∀ i σ H, i < n → Pv i σ H → g (.int (lo + i)) σ H fun σ2 H2 => tb { D with nx := Pv (i + 1), ct := Pv (i + 1), bk := D.nx } σ2 H2) (hd : ∀ σ H, Pv n σ H → D.nx σ H) :
    ∃ W : Nat → Nat → St → Hp → Prop, (∃ m, W 0 m σ H) ∧ ∀ i m σ H, W i m σ H →
      ((Itr lo n).stop i H ∧ D.nx σ H) ∨ ((Itr lo n).go i H ∧ ∃ N : St → Hp → Prop, (∀ σ' H', N σ' H' → ∃ m', m' < m ∧ W (i + 1) m' σ' H') ∧ ∀ x H', (Itr lo n).yld i H x H' → g x σ H' fun σ2 H2 => tb { D with nx := N, ct := N, bk := D.nx } σ2 H2) := by
  refine ⟨fun i m σ H => m = n - i ∧ i ≤ n ∧ Pv i σ H, ⟨n, by simp, Nat.zero_le _, h0⟩, ?_⟩
  rintro i m σ H ⟨rfl, hi, p⟩
  by_cases hlt : i < n
  · refine .inr ⟨hlt, Pv (i + 1), fun σ' H' p' => ⟨n - (i + 1), by omega, rfl, hlt, p'⟩, fun x H' y => ?_⟩
    obtain ⟨e, y⟩ := y
    subst e y
    exact hs i σ _ hlt p
  · have e : i = n := by omega
    subst e
    exact .inl ⟨Nat.le_refl _, hd σ H p⟩
/-- while, by a word and a measure of the state -/
theorem while_by {c : TT} {tb : TS} {D : Ends} {σ : St} {H : Hp} (Pv : St → Hp → Prop) (μ : St → Hp → Nat) (h0 : Pv σ H)
    (hs : ∀ σ H, Pv σ H → c σ H fun b H1 => if b = true then tb { D with nx := fun σ' H' => Pv σ' H' ∧ μ σ' H' < μ σ H, ct := fun σ' H' => Pv σ' H' ∧ μ σ' H' < μ σ H, bk := D.nx } σ H1 else D.nx σ H1)
    (mono : ∀ σ H Q Q', (∀ b H1, Q b H1 → Q' b H1) → c σ H Q → c σ H Q') : tWhile c tb D σ H := by
  refine ⟨fun m σ H => m = μ σ H ∧ Pv σ H, ⟨_, rfl, h0⟩, ?_⟩
  rintro m σ H ⟨rfl, p⟩
  refine mono σ H _ _ (fun b H1 q => ?_) (hs σ H p)
  cases b with
  | true => exact ⟨_, fun σ' H' ⟨p', l⟩ => ⟨_, l, rfl, p'⟩, q⟩
  | false => exact q
end L2

namespace L2
open PySem PySem.Spec PyProof.Rows

abbrev R2 := V → V → Hp → VK → Prop
/-- a two-place operation on values: f is binaryOp op, inplaceOp op or compareOp op -/
def OpR (X : Cx) (f : Value → Value → Sem Value) (r : R2) : Prop :=
  ∀ (pins : List (Addr × Obj)) (s : Shared) (σ : St) (H : Hp) (x y : V) (v u : Value) (Q : VK), Inv X pins σ H s → RelV x v → RelV y u → r x y H Q →
    wpAny (model X.prog X.w) X.A (f v u) (EP X pins σ Q) X.xe s
/-- a one-place operation -/
def UnR (X : Cx) (f : Value → Sem Value) (r : V → Hp → VK → Prop) : Prop :=
  ∀ (pins : List (Addr × Obj)) (s : Shared) (σ : St) (H : Hp) (x : V) (v : Value) (Q : VK), Inv X pins σ H s → RelV x v → r x H Q →
    wpAny (model X.prog X.w) X.A (f v) (EP X pins σ Q) X.xe s
/-- a call of a value that is known (a builtin, a type) with values -/
def CallR (X : Cx) (f : Value) (r : List V → Hp → VK → Prop) : Prop :=
  ∀ (pins : List (Addr × Obj)) (s : Shared) (σ : St) (H : Hp) (xs : List V) (us : List Value) (Q : VK), Inv X pins σ H s → Vals xs us → r xs H Q →
    wpAny (model X.prog X.w) X.A (call f us) (EP X pins σ Q) X.xe s
/-- a value's truth -/
def TruR (X : Cx) (r : V → Hp → (Bool → Hp → Prop) → Prop) : Prop :=
  ∀ (pins : List (Addr × Obj)) (s : Shared) (σ : St) (H : Hp) (x : V) (v : Value) (Q : Bool → Hp → Prop), Inv X pins σ H s → RelV x v → r x H Q →
    wpAny (model X.prog X.w) X.A (truthy v) (TP X pins σ Q) X.xe s

def tOp (r : R2) (ta tb : TE) : TE := fun σ H Q => ta σ H fun x H1 => tb σ H1 fun y H2 => r x y H2 Q
def tUn (r : V → Hp → VK → Prop) (ta : TE) : TE := fun σ H Q => ta σ H fun x H1 => r x H1 Q
/-- ints in, under C, and a value out -/
def rI (C : Int → Int → Prop) (g : Int → Int → V) : R2 := fun x y H Q => ∃ i j, x = .int i ∧ y = .int j ∧ C i j ∧ Q (g i j) H
def rI0 (g : Int → Int → V) : R2 := fun x y H Q => ∃ i j, x = .int i ∧ y = .int j ∧ Q (g i j) H
def rU (g : Int → V) : V → Hp → VK → Prop := fun x H Q => ∃ i, x = .int i ∧ Q (g i) H

section
variable {X : Cx} {a b c : Expr} {ta tb tc : TE} {pos : Pos}

theorem binT (ha : PE X a ta) (hb : PE X b tb) {pins : List (Addr × Obj)} {s : Shared} {σ : St} {H : Hp} {R : V → V → Hp → Prop} (I : Inv X pins σ H s)
    (h : ta σ H fun x H1 => tb σ H1 fun y H2 => R x y H2) {Q : Value → Shared → Prop} {f : Value → Value → Sem Value}
    (hf : ∀ v u s2 x y H2, Inv X pins σ H2 s2 → RelV x v → RelV y u → R x y H2 → wpAny (model X.prog X.w) X.A (f v u) Q X.xe s2) :
    wpAny (model X.prog X.w) X.A (eval a X.env) (fun v s₁ => wpAny (model X.prog X.w) X.A (eval b X.env) (fun u s₂ => wpAny (model X.prog X.w) X.A (f v u) Q X.xe s₂) X.xe s₁) X.xe s := by
  refine thn (ha pins s σ H _ I h) fun v s1 ⟨x, H1, I1, r1, q1⟩ => ?_
  refine thn (hb pins s1 σ H1 _ I1 q1) fun u s2 ⟨y, H2, I2, r2, q2⟩ => ?_
  exact hf v u s2 x y H2 I2 r1 r2 q2

theorem pe_op {op : Operator} {r : R2} (ho : OpR X (binaryOp op) r) (ha : PE X a ta) (hb : PE X b tb) : PE X (.BinOp a op b pos) (tOp r ta tb) := by
  intro pins s σ H Q I h
  exact wpAny_BinOp (binT ha hb I h fun v u s2 x y H2 I2 rx ry q => ho pins s2 σ H2 x y v u Q I2 rx ry q)
theorem pe_un {op : UnaryOp} {r : V → Hp → VK → Prop} (ho : UnR X (unaryOp op) r) (ha : PE X a ta) : PE X (.UnaryOp op a pos) (tUn r ta) := by
  intro pins s σ H Q I h
  exact UnaryOp_ (thn (ha pins s σ H _ I h) fun v s1 ⟨x, H1, I1, r1, q1⟩ => ho pins s1 σ H1 x v Q I1 r1 q1)
/-- a op= e at a name: the name's slot i -/
theorem augR {op : Operator} {r : R2} (ho : OpR X (inplaceOp op) r) {pins : List (Addr × Obj)} {s : Shared} {σ : St} {H : Hp} {x y : V} {v u : Value} {Q : VK} (I : Inv X pins σ H s)
    (rx : RelV x v) (ry : RelV y u) (q : r x y H Q) : wpAny (model X.prog X.w) X.A (inplaceOp op v u) (EP X pins σ Q) X.xe s := ho pins s σ H x y v u Q I rx ry q

/-! ### ints -/
theorem opI {f : Value → Value → Sem Value} {C : Int → Int → Prop} {g : Int → Int → Int}
    (rule : ∀ (i j : Int) (t u : Tok) (s : Shared) (Q : Value → Shared → Prop) (E : Value → Shared → Prop), C i j → Q (.int (g i j) s.toks) { s with toks := s.toks + 1 } → wpAny (model X.prog X.w) X.A (f (.int i t) (.int j u)) Q E s) :
    OpR X f (rI C fun i j => .int (g i j)) := by
  intro pins s σ H x y v u Q I rx ry h
  obtain ⟨i, j, rfl, rfl, hc, q⟩ := h
  obtain ⟨t, rfl⟩ := rx
  obtain ⟨t', rfl⟩ := ry
  exact rule i j t t' s _ _ hc ⟨.int (g i j), H, I.tok _, ⟨_, rfl⟩, q⟩
theorem opI0 {f : Value → Value → Sem Value} {g : Int → Int → Int}
    (rule : ∀ (i j : Int) (t u : Tok) (s : Shared) (Q : Value → Shared → Prop) (E : Value → Shared → Prop), Q (.int (g i j) s.toks) { s with toks := s.toks + 1 } → wpAny (model X.prog X.w) X.A (f (.int i t) (.int j u)) Q E s) :
    OpR X f (rI0 fun i j => .int (g i j)) := by
  intro pins s σ H x y v u Q I rx ry h
  obtain ⟨i, j, rfl, rfl, q⟩ := h
  obtain ⟨t, rfl⟩ := rx
  obtain ⟨t', rfl⟩ := ry
  exact rule i j t t' s _ _ ⟨.int (g i j), H, I.tok _, ⟨_, rfl⟩, q⟩
theorem opB0 {f : Value → Value → Sem Value} {g : Int → Int → Bool}
    (rule : ∀ (i j : Int) (t u : Tok) (s : Shared) (Q : Value → Shared → Prop) (E : Value → Shared → Prop), Q (.bool (g i j)) s → wpAny (model X.prog X.w) X.A (f (.int i t) (.int j u)) Q E s) :
    OpR X f (rI0 fun i j => .bl (g i j)) := by
  intro pins s σ H x y v u Q I rx ry h
  obtain ⟨i, j, rfl, rfl, q⟩ := h
  obtain ⟨t, rfl⟩ := rx
  obtain ⟨t', rfl⟩ := ry
  exact rule i j t t' s _ _ ⟨.bl (g i j), H, I, rfl, q⟩

def CDiv (i j : Int) : Prop := 0 < j ∧ j < 1073741824
def CDivN (i j : Int) : Prop := j ≠ 0 ∧ j.natAbs < 1073741824
def CPow (i j : Int) : Prop := 0 ≤ j ∧ j ≤ 1000000 ∧ i.natAbs < 2 ^ 64
def CMul (i j : Int) : Prop := (-(2 ^ 64) < i ∧ i < 2 ^ 64) ∨ (-(2 ^ 64) < j ∧ j < 2 ^ 64)
theorem CMul.ok {i j : Int} (h : CMul i j) : IntMulOk i j := by
  rcases h with ⟨h1, h2⟩ | ⟨h1, h2⟩
  · exact .of_left (intBits_le_64 h1 h2)
  · exact .of_right (intBits_le_64 h1 h2)
theorem two_pow_nn (k : Nat) : (0 : Int) ≤ 2 ^ k := by
  rw [two_pow_cast]
  exact Int.natCast_nonneg _

theorem op_add : OpR X (binaryOp .Add) (rI0 fun i j => .int (i + j)) := opI0 fun _ _ _ _ _ _ _ q => add_int q
theorem op_sub : OpR X (binaryOp .Sub) (rI0 fun i j => .int (i - j)) := opI0 fun _ _ _ _ _ _ _ q => sub_int q
theorem op_mul : OpR X (binaryOp .Mult) (rI CMul fun i j => .int (i * j)) := opI fun _ _ _ _ _ _ _ hc q => mul_int q hc.ok
/-- // by a positive divisor -/
theorem op_fdiv : OpR X (binaryOp .FloorDiv) (rI CDiv fun i j => .int (i / j)) := opI fun i j _ _ _ _ _ hc q => by
  have h1 : (0 : Int) < j := hc.1
  have h2 : j < 1073741824 := hc.2
  exact floordiv_int (by omega) (by rw [Int.fdiv_eq_ediv_of_nonneg i (by omega)]; exact q) (.inl (PyProof.noPylong_small (by omega)))
theorem op_fdivN : OpR X (binaryOp .FloorDiv) (rI CDivN fun i j => .int (i.fdiv j)) := opI fun _ _ _ _ _ _ _ hc q => floordiv_int hc.1 q (.inl (PyProof.noPylong_small hc.2))
/-- % by a positive divisor of any size -/
theorem op_mod : OpR X (binaryOp .Mod) (rI (fun _ j => 0 < j) fun i j => .int (i % j)) := opI fun i j _ _ _ _ _ hc q => by
  have h1 : (0 : Int) < j := hc
  exact mod_int' (by omega) (by rw [Int.fmod_eq_emod_of_nonneg i (by omega)]; exact q)
theorem op_modN : OpR X (binaryOp .Mod) (rI (fun _ j => j ≠ 0) fun i j => .int (i.fmod j)) := opI fun _ _ _ _ _ _ _ hc q => mod_int' hc q
theorem op_pow : OpR X (binaryOp .Pow) (rI CPow fun i j => .int (i ^ j.toNat)) := opI fun _ _ _ _ _ _ _ hc q => pow_int_small hc.1 hc.2.1 hc.2.2 q
theorem op_shl : OpR X (binaryOp .LShift) (rI CPow fun i j => .int (i * 2 ^ j.toNat)) := opI fun _ _ _ _ _ _ _ hc q => lshift_int_small hc.1 hc.2.1 hc.2.2 q
theorem op_shr : OpR X (binaryOp .RShift) (rI (fun _ j => 0 ≤ j) fun i j => .int (i / 2 ^ j.toNat)) := opI fun i j _ _ _ _ _ hc q =>
  rshift_int hc (by rw [Int.fdiv_eq_ediv_of_nonneg i (two_pow_nn _)]; exact q)
theorem op_and : OpR X (binaryOp .BitAnd) (rI0 fun i j => .int (Builtin.bitAnd i j)) := opI0 fun _ _ _ _ _ _ _ q => and_int q
theorem op_or : OpR X (binaryOp .BitOr) (rI0 fun i j => .int (Builtin.bitOr i j)) := opI0 fun _ _ _ _ _ _ _ q => or_int q
theorem op_xor : OpR X (binaryOp .BitXor) (rI0 fun i j => .int (Builtin.bitXor i j)) := opI0 fun _ _ _ _ _ _ _ q => xor_int q

theorem iop_add : OpR X (inplaceOp .Add) (rI0 fun i j => .int (i + j)) := opI0 fun _ _ _ _ _ _ _ q => iadd_int q
theorem iop_sub : OpR X (inplaceOp .Sub) (rI0 fun i j => .int (i - j)) := opI0 fun _ _ _ _ _ _ _ q => isub_int q
theorem iop_mul : OpR X (inplaceOp .Mult) (rI CMul fun i j => .int (i * j)) := opI fun _ _ _ _ _ _ _ hc q => imul_int q hc.ok
theorem iop_fdiv : OpR X (inplaceOp .FloorDiv) (rI CDiv fun i j => .int (i / j)) := opI fun i j _ _ _ _ _ hc q => by
  have h1 : (0 : Int) < j := hc.1
  have h2 : j < 1073741824 := hc.2
  exact ifloordiv_int (by omega) (by rw [Int.fdiv_eq_ediv_of_nonneg i (by omega)]; exact q) (.inl (PyProof.noPylong_small (by omega)))
theorem iop_mod : OpR X (inplaceOp .Mod) (rI (fun _ j => 0 < j) fun i j => .int (i % j)) := opI fun i j _ _ _ _ _ hc q => by
  have h1 : (0 : Int) < j := hc
  exact imod_int (by omega) (by rw [Int.fmod_eq_emod_of_nonneg i (by omega)]; exact q)
theorem iop_shl : OpR X (inplaceOp .LShift) (rI CPow fun i j => .int (i * 2 ^ j.toNat)) := opI fun _ _ _ _ _ _ _ hc q => ilshift_int_small hc.1 hc.2.1 hc.2.2 q
theorem iop_shr : OpR X (inplaceOp .RShift) (rI (fun _ j => 0 ≤ j) fun i j => .int (i / 2 ^ j.toNat)) := opI fun i j _ _ _ _ _ hc q =>
  irshift_int hc (by rw [Int.fdiv_eq_ediv_of_nonneg i (two_pow_nn _)]; exact q)
theorem iop_and : OpR X (inplaceOp .BitAnd) (rI0 fun i j => .int (Builtin.bitAnd i j)) := opI0 fun _ _ _ _ _ _ _ q => iand_int q
theorem iop_or : OpR X (inplaceOp .BitOr) (rI0 fun i j => .int (Builtin.bitOr i j)) := opI0 fun _ _ _ _ _ _ _ q => ior_int q
theorem iop_xor : OpR X (inplaceOp .BitXor) (rI0 fun i j => .int (Builtin.bitXor i j)) := opI0 fun _ _ _ _ _ _ _ q => ixor_int q

theorem unI {f : Value → Sem Value} {g : Int → Int}
    (rule : ∀ (i : Int) (t : Tok) (s : Shared) (Q : Value → Shared → Prop) (E : Value → Shared → Prop), Q (.int (g i) s.toks) { s with toks := s.toks + 1 } → wpAny (model X.prog X.w) X.A (f (.int i t)) Q E s) :
    UnR X f (rU fun i => .int (g i)) := by
  intro pins s σ H x v Q I rx h
  obtain ⟨i, rfl, q⟩ := h
  obtain ⟨t, rfl⟩ := rx
  exact rule i t s _ _ ⟨.int (g i), H, I.tok _, ⟨_, rfl⟩, q⟩
theorem un_neg : UnR X (unaryOp .USub) (rU fun i => .int (-i)) := unI fun _ _ _ _ _ q => neg_int q
theorem un_inv : UnR X (unaryOp .Invert) (rU fun i => .int (Builtin.bitNot i)) := unI fun _ _ _ _ _ q => invert_int q

/-! ### bools among ints: n += (a < b) -/
theorem op_add_ib : OpR X (binaryOp .Add) (fun x y H Q => ∃ i k, x = .int i ∧ y = .bl k ∧ Q (.int (i + b2i k)) H) := by
  intro pins s σ H x y v u Q I rx ry h
  obtain ⟨i, k, rfl, rfl, q⟩ := h
  obtain ⟨t, rfl⟩ := rx
  cases ry
  exact add_int_bool ⟨.int (i + b2i k), H, I.tok _, ⟨_, rfl⟩, q⟩
end

/-! ### comparisons -/
/-- the scalars that == tells apart as data does -/
def scal : V → V → Bool
  | .non, .non => true | .non, .int _ => true | .int _, .non => true | .non, .bl _ => true | .bl _, .non => true | .non, .str _ => true | .str _, .non => true
  | .int _, .int _ => true | .bl _, .bl _ => true | .str _, .str _ => true | .byt _, .byt _ => true
  | .int _, .str _ => true | .str _, .int _ => true | .bl _, .str _ => true | .str _, .bl _ => true
  | _, _ => false
def rEq : R2 := fun x y H Q => scal x y = true ∧ Q (.bl (decide (x = y))) H
def rNe : R2 := fun x y H Q => scal x y = true ∧ Q (.bl (!decide (x = y))) H

theorem dec_int {i j : Int} : decide (V.int i = V.int j) = (i == j) := by
  rw [Bool.eq_iff_iff]
  simp
theorem dec_bl {i j : Bool} : decide (V.bl i = V.bl j) = (i == j) := by
  rw [Bool.eq_iff_iff]
  simp
theorem dec_str {i j : Str} : decide (V.str i = V.str j) = (i == j) := by
  rw [Bool.eq_iff_iff]
  simp
theorem dec_byt {i j : Array UInt8} : decide (V.byt i = V.byt j) = (i.toList == j.toList) := by
  rw [Bool.eq_iff_iff]
  cases i
  cases j
  simp

section
variable {X : Cx} {a b c : Expr} {ta tb tc : TE} {pos : Pos}
theorem fin_bl {pins : List (Addr × Obj)} {σ : St} {H : Hp} {s : Shared} {Q : VK} {k k' : Bool} (I : Inv X pins σ H s) (q : Q (.bl k) H) (e : k = k') : EP X pins σ Q (.bool k') s := by
  subst e
  exact ⟨.bl k, H, I, rfl, q⟩
theorem op_eq : OpR X (compareOp .Eq) rEq := by
  intro pins s σ H x y v u Q I rx ry h
  obtain ⟨hs, q⟩ := h
  cases x with
  | non =>
    cases rx
    cases y with
    | non => cases ry; exact PySem.EqNone.eq_none_none (fin_bl I q (by simp))
    | bl j => cases ry; exact PySem.EqNone.eq_none_bool (fin_bl I q (by simp))
    | int j => obtain ⟨t', rfl⟩ := ry; exact PySem.EqNone.eq_none_int (fin_bl I q (by simp))
    | str j => obtain ⟨t', rfl⟩ := ry; exact PySem.EqNone.eq_none_str (fin_bl I q (by simp))
    | _ => exact absurd (show false = true from hs) Bool.false_ne_true
  | bl i =>
    cases rx
    cases y with
    | non => cases ry; exact PySem.EqNone.eq_bool_none (fin_bl I q (by simp))
    | bl j => cases ry; exact eq_bool (fin_bl I q dec_bl)
    | str j => obtain ⟨t', rfl⟩ := ry; exact PySem.EqMixed.eq_bool_str (fin_bl I q (by simp))
    | _ => exact absurd (show false = true from hs) Bool.false_ne_true
  | int i =>
    obtain ⟨t, rfl⟩ := rx
    cases y with
    | non => cases ry; exact PySem.EqNone.eq_int_none (fin_bl I q (by simp))
    | int j => obtain ⟨t', rfl⟩ := ry; exact eq_int (fin_bl I q dec_int)
    | str j => obtain ⟨t', rfl⟩ := ry; exact PySem.EqMixed.eq_int_str (fin_bl I q (by simp))
    | _ => exact absurd (show false = true from hs) Bool.false_ne_true
  | str i =>
    obtain ⟨t, rfl⟩ := rx
    cases y with
    | non => cases ry; exact PySem.EqNone.eq_str_none (fin_bl I q (by simp))
    | bl j => cases ry; exact PySem.EqMixed.eq_str_bool (fin_bl I q (by simp))
    | int j => obtain ⟨t', rfl⟩ := ry; exact PySem.EqMixed.eq_str_int (fin_bl I q (by simp))
    | str j => obtain ⟨t', rfl⟩ := ry; exact eq_str (fin_bl I q dec_str)
    | _ => exact absurd (show false = true from hs) Bool.false_ne_true
  | byt i =>
    obtain ⟨t, rfl⟩ := rx
    cases y with
    | byt j => obtain ⟨t', rfl⟩ := ry; exact PySem.W.eq_bytes (fin_bl I q dec_byt)
    | _ => exact absurd (show false = true from hs) Bool.false_ne_true
  | _ => cases y <;> exact absurd (show false = true from hs) Bool.false_ne_true
theorem op_ne : OpR X (compareOp .NotEq) rNe := by
  intro pins s σ H x y v u Q I rx ry h
  obtain ⟨hs, q⟩ := h
  cases x with
  | non =>
    cases rx
    cases y with
    | non => cases ry; exact PySem.EqNone.ne_none_none (fin_bl I q (by simp))
    | bl j => cases ry; exact PySem.EqNone.ne_none_bool (fin_bl I q (by simp))
    | int j => obtain ⟨t', rfl⟩ := ry; exact PySem.EqNone.ne_none_int (fin_bl I q (by simp))
    | str j => obtain ⟨t', rfl⟩ := ry; exact PySem.EqNone.ne_none_str (fin_bl I q (by simp))
    | _ => exact absurd (show false = true from hs) Bool.false_ne_true
  | bl i =>
    cases rx
    cases y with
    | non => cases ry; exact PySem.EqNone.ne_bool_none (fin_bl I q (by simp))
    | bl j => cases ry; exact ne_bool (fin_bl I q (congrArg not dec_bl))
    | str j => obtain ⟨t', rfl⟩ := ry; exact PySem.EqMixed.ne_bool_str (fin_bl I q (by simp))
    | _ => exact absurd (show false = true from hs) Bool.false_ne_true
  | int i =>
    obtain ⟨t, rfl⟩ := rx
    cases y with
    | non => cases ry; exact PySem.EqNone.ne_int_none (fin_bl I q (by simp))
    | int j => obtain ⟨t', rfl⟩ := ry; exact ne_int (fin_bl I q (congrArg not dec_int))
    | str j => obtain ⟨t', rfl⟩ := ry; exact PySem.EqMixed.ne_int_str (fin_bl I q (by simp))
    | _ => exact absurd (show false = true from hs) Bool.false_ne_true
  | str i =>
    obtain ⟨t, rfl⟩ := rx
    cases y with
    | non => cases ry; exact PySem.EqNone.ne_str_none (fin_bl I q (by simp))
    | bl j => cases ry; exact PySem.EqMixed.ne_str_bool (fin_bl I q (by simp))
    | int j => obtain ⟨t', rfl⟩ := ry; exact PySem.EqMixed.ne_str_int (fin_bl I q (by simp))
    | str j => obtain ⟨t', rfl⟩ := ry; exact ne_str (fin_bl I q (congrArg not dec_str))
    | _ => exact absurd (show false = true from hs) Bool.false_ne_true
  | byt i =>
    obtain ⟨t, rfl⟩ := rx
    cases y with
    | byt j => obtain ⟨t', rfl⟩ := ry; exact PySem.W.ne_bytes (fin_bl I q (congrArg not dec_byt))
    | _ => exact absurd (show false = true from hs) Bool.false_ne_true
  | _ => cases y <;> exact absurd (show false = true from hs) Bool.false_ne_true

theorem op_lt : OpR X (compareOp .Lt) (rI0 fun i j => .bl (decide (i < j))) := opB0 fun _ _ _ _ _ _ _ q => lt_int q
theorem op_le : OpR X (compareOp .LtE) (rI0 fun i j => .bl (decide (i ≤ j))) := opB0 fun _ _ _ _ _ _ _ q => le_int q
theorem op_gt : OpR X (compareOp .Gt) (rI0 fun i j => .bl (decide (j < i))) := opB0 fun _ _ _ _ _ _ _ q => gt_int q
theorem op_ge : OpR X (compareOp .GtE) (rI0 fun i j => .bl (decide (j ≤ i))) := opB0 fun _ _ _ _ _ _ _ q => ge_int q
theorem op_lt_str : OpR X (compareOp .Lt) (fun x y H Q => ∃ i j, x = .str i ∧ y = .str j ∧ Q (.bl (decide (i.cps.toList < j.cps.toList))) H) := by
  intro pins s σ H x y v u Q I rx ry h
  obtain ⟨i, j, rfl, rfl, q⟩ := h
  obtain ⟨t, rfl⟩ := rx
  obtain ⟨t', rfl⟩ := ry
  exact lt_str (fin_bl I q rfl)
/-- the one string within the other -/
theorem op_in_str : OpR X (compareOp .In) (fun x y H Q => ∃ i j, x = .str i ∧ y = .str j ∧ Q (.bl (!(Builtin.Str.occurrences j i 0 j.length 1).isEmpty)) H) := by
  intro pins s σ H x y v u Q I rx ry h
  obtain ⟨i, j, rfl, rfl, q⟩ := h
  obtain ⟨t, rfl⟩ := rx
  obtain ⟨t', rfl⟩ := ry
  exact in_str (fin_bl I q rfl)

/-- is None, is not None: the right side a value none -/
theorem op_isN : OpR X (compareOp .Is) (fun x y H Q => y = .non ∧ Q (.bl (decide (x = .non))) H) := by
  intro pins s σ H x y v u Q I rx ry h
  obtain ⟨rfl, q⟩ := h
  cases ry
  refine is_none_gen (fin_bl I q ?_)
  cases x <;> first
    | (cases rx; rfl)
    | (obtain ⟨t, rfl⟩ := rx; rfl)
theorem op_notN : OpR X (compareOp .IsNot) (fun x y H Q => y = .non ∧ Q (.bl (!decide (x = .non))) H) := by
  intro pins s σ H x y v u Q I rx ry h
  obtain ⟨rfl, q⟩ := h
  cases ry
  refine isnot_none_gen (fin_bl I q ?_)
  cases x <;> first
    | (cases rx; rfl)
    | (obtain ⟨t, rfl⟩ := rx; rfl)

theorem op_notin_str : OpR X (compareOp .NotIn) (fun x y H Q => ∃ i j, x = .str i ∧ y = .str j ∧ Q (.bl (!(!(Builtin.Str.occurrences j i 0 j.length 1).isEmpty))) H) := by
  intro pins s σ H x y v u Q I rx ry h
  obtain ⟨i, j, rfl, rfl, q⟩ := h
  obtain ⟨t, rfl⟩ := rx
  obtain ⟨t', rfl⟩ := ry
  exact notIn_str (fin_bl I q rfl)
/-- is, is not of two objects that are tracked lists or instances -/
def isObj : HO → Bool
  | .lst _ => true
  | .ins _ _ _ => true
  | _ => false
theorem obj_there {pins : List (Addr × Obj)} {s : Shared} {σ : St} {H : Hp} {a : Addr} {o : HO} (I : Inv X pins σ H s) (h : H a = some o) (p : isObj o = true) : ∃ ob, s.heap.get? a = some ob ∧ ob.cls ≠ .type "tuple" := by
  cases o with
  | lst xs =>
    obtain ⟨_, its, n, _, e⟩ : xs.length ≤ sizeLine ∧ ∃ (its : List Value) (n : Nat), Vals xs its ∧ s.heap.get? a = some { cls := .type "list", data := .seq its.toArray n } := I.hok a _ h
    exact ⟨_, e, (by show Value.type "list" ≠ .type "tuple"; decide +kernel)⟩
  | ins C dx fs =>
    have x := I.hok a _ h
    obtain ⟨_, _, _, e, _⟩ := x
    exact ⟨_, e, (by show Value.ref C ≠ .type "tuple"; exact fun z => by cases z)⟩
  | _ => exact absurd (show false = true from p) Bool.false_ne_true
theorem op_is_ref : OpR X (compareOp .Is) (fun x y H Q => ∃ a b oa ob, x = .ref a ∧ y = .ref b ∧ H a = some oa ∧ isObj oa = true ∧ H b = some ob ∧ isObj ob = true ∧ Q (.bl (decide (a = b))) H) := by
  intro pins s σ H x y v u Q I rx ry h
  obtain ⟨a, b, oa, ob, rfl, rfl, ha, pa, hb, pb, q⟩ := h
  cases rx
  cases ry
  obtain ⟨o1, e1, n1⟩ := obj_there I ha pa
  obtain ⟨o2, e2, _⟩ := obj_there I hb pb
  by_cases z : a = b
  · subst z
    exact wpAny_is_ref_self (fin_bl I q (by simp))
  · exact wpAny_is_ref_other z e1 e2 n1 (fin_bl I q (by simp [z]))
theorem op_isnot_ref : OpR X (compareOp .IsNot) (fun x y H Q => ∃ a b oa ob, x = .ref a ∧ y = .ref b ∧ H a = some oa ∧ isObj oa = true ∧ H b = some ob ∧ isObj ob = true ∧ Q (.bl (!decide (a = b))) H) := by
  intro pins s σ H x y v u Q I rx ry h
  obtain ⟨a, b, oa, ob, rfl, rfl, ha, pa, hb, pb, q⟩ := h
  cases rx
  cases ry
  obtain ⟨o1, e1, n1⟩ := obj_there I ha pa
  obtain ⟨o2, e2, _⟩ := obj_there I hb pb
  by_cases z : a = b
  · subst z
    exact wpAny_isNot_ref_self (fin_bl I q (by simp))
  · exact wpAny_isNot_ref_other z e1 e2 n1 (fin_bl I q (by simp [z]))

/-- two rules for one operation: by cases -/
theorem OpR.or {f : Value → Value → Sem Value} {r r' : R2} (h : OpR X f r) (h' : OpR X f r') : OpR X f (fun x y H Q => r x y H Q ∨ r' x y H Q) := by
  intro pins s σ H x y v u Q I rx ry q
  rcases q with q | q
  · exact h pins s σ H x y v u Q I rx ry q
  · exact h' pins s σ H x y v u Q I rx ry q

theorem nomark (b : Expr) {op : CmpOp} (h : op ≠ .In := by decide) (h2 : op ≠ .NotIn := by decide) : behindInMarks op b = false := by
  have e1 : (op == CmpOp.In) = false := by cases op <;> first | rfl | exact absurd rfl h
  have e2 : (op == CmpOp.NotIn) = false := by cases op <;> first | rfl | exact absurd rfl h2
  cases b <;> simp [behindInMarks, e1, e2]
/-- a comparison as a value; hm: nomark b, or (for in, not in) by with_unfolding_all rfl -/
theorem pe_cmpR {op : CmpOp} {r : R2} (ho : OpR X (compareOp op) r) (ha : PE X a ta) (hb : PE X b tb) (hm : behindInMarks op b = false) : PE X (.Compare a [op] [b] pos) (tOp r ta tb) := by
  intro pins s σ H Q I h
  exact wpAny_Compare1 (binT ha hb I h fun v u s2 x y H2 I2 rx ry q => ho pins s2 σ H2 x y v u Q I2 rx ry q) hm
/-- a reading of a value as a test -/
def tTest (t : TE) : TT := fun σ H Q => t σ H fun x H' => ∃ k, x = .bl k ∧ Q k H'
theorem pt_cmpR {op : CmpOp} {r : R2} (ho : OpR X (compareOp op) r) (ha : PE X a ta) (hb : PE X b tb) (hm : behindInMarks op b = false) : PT X (.Compare a [op] [b] pos) (tTest (tOp r ta tb)) := by
  intro pins s σ H Q I h
  refine wpAny_isTrue_Compare1 (thn (ha pins s σ H _ I h) fun v s1 ⟨x, H1, I1, r1, q1⟩ => thn (hb pins s1 σ H1 _ I1 q1) fun u s2 ⟨y, H2, I2, r2, q2⟩ =>
    thn (ho pins s2 σ H2 x y v u _ I2 r1 r2 q2) fun c s3 ⟨z, H3, I3, r3, k, e, q3⟩ => ?_) hm
  subst e
  cases r3
  exact wpAny_truthy_bool ⟨H3, I3, q3⟩
/-- a op1 b op2 c -/
def tChain (r r' : R2) (ta tb tc : TE) : TE := fun σ H Q => ta σ H fun x H1 => tb σ H1 fun y H2 => r x y H2 fun z H3 => ∃ k, z = .bl k ∧
  (if k = true then tc σ H3 fun w' H4 => r' y w' H4 Q else Q (.bl false) H3)
theorem pe_chain {op op' : CmpOp} {r r' : R2} (ho : OpR X (compareOp op) r) (ho' : OpR X (compareOp op') r') (ha : PE X a ta) (hb : PE X b tb) (hc : PE X c tc)
    (hm : lastMarks [op, op'] [b, c] = false := by with_unfolding_all rfl) : PE X (.Compare a [op, op'] [b, c] pos) (tChain r r' ta tb tc) := by
  intro pins s σ H Q I h
  refine Compare_chain (thn (ha pins s σ H _ I h) fun v s1 ⟨x, H1, I1, r1, q1⟩ => chain_link (thn (hb pins s1 σ H1 _ I1 q1) fun u s2 ⟨y, H2, I2, r2, q2⟩ =>
    thn (ho pins s2 σ H2 x y v u _ I2 r1 r2 q2) fun d s3 ⟨z, H3, I3, r3, k, e, q3⟩ => ?_)) hm
  subst e
  cases r3
  refine wpAny_truthy_bool ?_
  cases k with
  | false => exact ite_ff ⟨.bl false, H3, I3, rfl, q3⟩
  | true => exact ite_tt (chain_last (thn (hc pins s3 σ H3 _ I3 q3) fun w' s4 ⟨z', H4, I4, r4, q4⟩ => ho' pins s4 σ H4 y z' u w' Q I4 r2 r4 q4))
theorem pt_chain {op op' : CmpOp} {r r' : R2} (ho : OpR X (compareOp op) r) (ho' : OpR X (compareOp op') r') (ha : PE X a ta) (hb : PE X b tb) (hc : PE X c tc)
    (hm : lastMarks [op, op'] [b, c] = false := by with_unfolding_all rfl) : PT X (.Compare a [op, op'] [b, c] pos) (tTest (tChain r r' ta tb tc)) := by
  intro pins s σ H Q I h
  refine isTrue_chain (thn (ha pins s σ H _ I h) fun v s1 ⟨x, H1, I1, r1, q1⟩ => test_link (thn (hb pins s1 σ H1 _ I1 q1) fun u s2 ⟨y, H2, I2, r2, q2⟩ =>
    thn (ho pins s2 σ H2 x y v u _ I2 r1 r2 q2) fun d s3 ⟨z, H3, I3, r3, k, e, q3⟩ => ?_)) hm
  subst e
  cases r3
  refine wpAny_truthy_bool ?_
  cases k with
  | false =>
    obtain ⟨k', e', q'⟩ := q3
    cases e'
    exact ite_ff ⟨H3, I3, q'⟩
  | true =>
    refine ite_tt (test_last (thn (hc pins s3 σ H3 _ I3 q3) fun w' s4 ⟨z', H4, I4, r4, q4⟩ => thn (ho' pins s4 σ H4 y z' u w' _ I4 r2 r4 q4) fun d' s5 ⟨z2, H5, I5, r5, k2, e2, q5⟩ => ?_))
    subst e2
    cases r5
    exact wpAny_truthy_bool ⟨H5, I5, q5⟩

/-! ### truth -/
/-- a value's truth by the abstract heap -/
def TruV (K : PySem.W.Frag) (x : V) (H : Hp) (k : Bool) : Prop :=
  match x with
  | .non => k = false
  | .bl b => k = b
  | .int i => k = (i != 0)
  | .str y => y.length ≤ sizeLine ∧ k = ((y.length : Int) != 0)
  | .byt y => y.size ≤ sizeLine ∧ k = ((y.size : Int) != 0)
  | .ref p => (∃ xs, SqL K H p xs ∧ k = !xs.isEmpty) ∨ (∃ xs, SqT K H p xs ∧ k = !xs.isEmpty) ∨ ∃ kvs, H p = some (.dK kvs) ∧ k = !kvs.isEmpty
  | _ => False
theorem isEmpty_kv {κ : Type} {kvs : List (κ × V)} {vs : List (κ × Value)} (r : KV kvs vs) : (!vs.isEmpty) = !kvs.isEmpty := by
  cases r <;> rfl
theorem isEmpty_of {xs : List V} {its : List Value} (r : Vals xs its) : (!its.toArray.isEmpty) = !xs.isEmpty := by
  cases r <;> simp
theorem line63 : (sizeLine : Nat) < 2 ^ 63 := by rw [sizeLine_eq]; decide
theorem tru_ok : TruR X (fun x H Q => ∃ k, TruV X.K x H k ∧ Q k H) := by
  intro pins s σ H x v Q I rx h
  obtain ⟨k, e, q⟩ := h
  have hl := line63
  have hs : sizeLine = 16777216 := sizeLine_eq
  cases x with
  | non =>
    cases rx
    have e' : k = false := e
    subst e'
    exact truthy_none ⟨H, I, q⟩
  | bl b =>
    cases rx
    have e' : k = b := e
    subst e'
    exact wpAny_truthy_bool ⟨H, I, q⟩
  | int i =>
    obtain ⟨t, rfl⟩ := rx
    have e' : k = (i != 0) := e
    subst e'
    exact PySem.P.truthy_int ⟨H, I, q⟩
  | str y =>
    obtain ⟨t, rfl⟩ := rx
    obtain ⟨hy, e'⟩ : y.length ≤ sizeLine ∧ k = ((y.length : Int) != 0) := e
    subst e'
    exact PySem.P.truthy_str (by omega) ⟨H, I.tok _, q⟩
  | byt y =>
    obtain ⟨t, rfl⟩ := rx
    obtain ⟨hy, e'⟩ : y.size ≤ sizeLine ∧ k = ((y.size : Int) != 0) := e
    subst e'
    exact PySem.W.truthy_bytes (by omega) ⟨H, I.tok _, q⟩
  | ref p =>
    cases rx
    have e' : (∃ xs, SqL X.K H p xs ∧ k = !xs.isEmpty) ∨ (∃ xs, SqT X.K H p xs ∧ k = !xs.isEmpty) ∨ ∃ kvs, H p = some (.dK kvs) ∧ k = !kvs.isEmpty := e
    rcases e' with ⟨xs, hx, e'⟩ | ⟨xs, hx, e'⟩ | ⟨kvs, hx, e'⟩
    · subst e'
      obtain ⟨its, r, pl, hz⟩ := I.list hx
      have hlen := r.length
      exact wpAny_truthy_list pl.isList (by simp only [List.size_toArray]; omega) ⟨H, I.tok _, by rw [isEmpty_of r]; exact q⟩
    · subst e'
      obtain ⟨its, r, pl, hz⟩ := I.tuple hx
      have hlen := r.length
      exact truthy_tuple pl (by simp only [List.size_toArray]; omega) ⟨H, I.tok _, by rw [isEmpty_of r]; exact q⟩
    · subst e'
      obtain ⟨hz, hS, vs, r, m⟩ : kvs.length ≤ sizeLine ∧ (p == sysModules) = false ∧ ∃ vs, KV kvs vs ∧ s.heap.DictOf (mixKind X.prog X.w) p vs := I.hok p _ hx
      have hlen : kvs.length = vs.length := Paired.length r
      exact wpAny_truthy_dict hS m (by omega) ⟨H, I.tok _, by rw [isEmpty_kv r]; exact q⟩
  | _ => exact (show False from e).elim
/-- any expression whose test is its value's truth (a name, a call, a subscript, a field ..: he by fun _ => rfl) -/
theorem pt_truth (ha : PE X a ta) (he : ∀ whole, isTrue a X.env whole = (do let v ← whole; standAt a.pos; holding [v] (truthy v))) :
    PT X a (fun σ H Q => ta σ H fun x H' => ∃ k, TruV X.K x H' k ∧ Q k H') := by
  intro pins s σ H Q I h
  exact isTrue_plain (thn (ha pins s σ H _ I h) fun v s1 ⟨x, H1, I1, r1, q1⟩ => tru_ok pins s1 σ H1 x v Q I1 r1 q1) (he _)

/-! ### strs and bytes -/
theorem pe_byt {x : List UInt8} {k : Nat} : PE X (.Constant (.bytes x) k pos) (fun _ H Q => Q (.byt x.toArray) H) := fun _ _ _ H _ I h => PySem.W.Constant_bytes ⟨.byt x.toArray, H, I.tok _, ⟨_, rfl⟩, h⟩
theorem op_add_str : OpR X (binaryOp .Add) (fun x y H Q => ∃ i j, x = .str i ∧ y = .str j ∧ i.length + j.length ≤ sizeLine ∧ Q (.str (i ++ j)) H) := by
  intro pins s σ H x y v u Q I rx ry h
  obtain ⟨i, j, rfl, rfl, hz, q⟩ := h
  obtain ⟨t, rfl⟩ := rx
  obtain ⟨t', rfl⟩ := ry
  exact add_str (fun t' tk => ⟨.str (i ++ j), H, I.tok _, ⟨_, rfl⟩, q⟩) hz
theorem iop_add_str : OpR X (inplaceOp .Add) (fun x y H Q => ∃ i j, x = .str i ∧ y = .str j ∧ i.length + j.length ≤ sizeLine ∧ Q (.str (i ++ j)) H) := by
  intro pins s σ H x y v u Q I rx ry h
  obtain ⟨i, j, rfl, rfl, hz, q⟩ := h
  obtain ⟨t, rfl⟩ := rx
  obtain ⟨t', rfl⟩ := ry
  exact iadd_str (fun t' tk => ⟨.str (i ++ j), H, I.tok _, ⟨_, rfl⟩, q⟩) hz
theorem op_add_byt : OpR X (binaryOp .Add) (fun x y H Q => ∃ i j, x = .byt i ∧ y = .byt j ∧ i.size + j.size ≤ 16777216 ∧ Q (.byt (i ++ j)) H) := by
  intro pins s σ H x y v u Q I rx ry h
  obtain ⟨i, j, rfl, rfl, hz, q⟩ := h
  obtain ⟨t, rfl⟩ := rx
  obtain ⟨t', rfl⟩ := ry
  exact PySem.W.KBy.add_bytes hz (fun t' tk => ⟨.byt (i ++ j), H, I.tok _, ⟨_, rfl⟩, q⟩)

def PlainIxT (b : Expr) : Prop := ∀ o i, subscripted b false o i = operate [o, i] (getItem o i)
/-- s[i], 0 ≤ i < len -/
theorem pe_item_str (ha : PE X a ta) (hb : PE X b tb) (hs : PlainIxT b) :
    PE X (.Subscript a b pos) (tOp (fun x y H Q => ∃ z i c, x = .str z ∧ y = .int i ∧ 0 ≤ i ∧ i < 2 ^ 63 ∧ i < z.length ∧ z.cps[i.toNat]? = some c ∧ Q (.str ⟨#[c]⟩) H) ta tb) := by
  intro pins s σ H Q I h
  refine Subscript_ (binT ha hb I h fun v u s2 x y H2 I2 rx ry q => ?_)
  obtain ⟨z, i, c, rfl, rfl, h0, h63, h1, hc, q⟩ := q
  obtain ⟨t, rfl⟩ := rx
  obtain ⟨t', rfl⟩ := ry
  have e : seqIndex? i z.length = some i.toNat := PySem.StrLaws.seqIndex_nonneg h0 h1
  exact tail_any (typeIs_str s2 z t) slot_str_getitem.lookup (getItem_str (c := c) (by
    have e1 : decide (i < -(2 ^ 63 : Int)) = false := decide_eq_false (by omega)
    have e2 : decide (i ≥ 2 ^ 63) = false := decide_eq_false (by omega)
    rw [e1, e2] <;> rfl) (by rw [e]; exact hc) ⟨.str ⟨#[c]⟩, H2, I2.tok _, ⟨_, rfl⟩, q⟩) (hs _ _)
/-- b[i], 0 ≤ i < len -/
theorem pe_item_byt (ha : PE X a ta) (hb : PE X b tb) (hs : PlainIxT b) :
    PE X (.Subscript a b pos) (tOp (fun x y H Q => ∃ (z : List UInt8) (i : Int), x = .byt z.toArray ∧ y = .int i ∧ z.length ≤ sizeLine ∧ 0 ≤ i ∧ i < z.length ∧ Q (.int ((z.getD i.toNat 0).toNat : Nat)) H) ta tb) := by
  intro pins s σ H Q I h
  refine Subscript_ (binT ha hb I h fun v u s2 x y H2 I2 rx ry q => ?_)
  obtain ⟨z, i, rfl, rfl, hz, h0, h1, q⟩ := q
  obtain ⟨t, rfl⟩ := rx
  obtain ⟨t', rfl⟩ := ry
  have hl : sizeLine = 16777216 := sizeLine_eq
  exact tail_any (PySem.W.typeIs_bytes s2 z.toArray t) PySem.W.FB.slot_bytes_getitem.lookup (PySem.W.getItem_bytes (by omega) h0 h1 ⟨.int ((z.getD i.toNat 0).toNat : Nat), H2, I2.tok _, ⟨_, rfl⟩, q⟩) (hs _ _)

/-! ### scalar builtins, by CallR -/
theorem vals1 {x : V} {us : List Value} (r : Vals [x] us) : ∃ u, us = [u] ∧ RelV x u := by
  cases r with
  | cons r1 r2 => cases r2; exact ⟨_, rfl, r1⟩
theorem vals2 {x y : V} {us : List Value} (r : Vals [x, y] us) : ∃ u w', us = [u, w'] ∧ RelV x u ∧ RelV y w' := by
  cases r with
  | cons r1 r2 =>
    cases r2 with
    | cons r3 r4 => cases r4; exact ⟨_, _, rfl, r1, r3⟩
theorem call_abs : CallR X (.builtin "abs") (fun xs H Q => ∃ i, xs = [.int i] ∧ Q (.int (if i < 0 then -i else i)) H) := by
  intro pins s σ H xs us Q I r h
  obtain ⟨i, rfl, q⟩ := h
  obtain ⟨u, rfl, t, rfl⟩ := vals1 r
  exact call_abs_int fun u tk => ⟨.int (if i < 0 then -i else i), H, I.tok _, ⟨_, rfl⟩, q⟩
theorem call_max2 (hc : X.calm = true) : CallR X (.builtin "max") (fun xs H Q => ∃ i j, xs = [.int i, .int j] ∧ Q (.int (if j > i then j else i)) H) := by
  intro pins s σ H xs us Q I r h
  obtain ⟨i, j, rfl, q⟩ := h
  obtain ⟨u, w', rfl, ⟨t, rfl⟩, ⟨t', rfl⟩⟩ := vals2 r
  refine max_two_ints (I.ok.hd hc) fun h' tk k => ⟨_, H, I.kept k, ?_, q⟩
  by_cases hj : j > i
  · rw [if_pos hj, if_pos hj]; exact ⟨_, rfl⟩
  · rw [if_neg hj, if_neg hj]; exact ⟨_, rfl⟩
theorem call_min2 (hc : X.calm = true) : CallR X (.builtin "min") (fun xs H Q => ∃ i j, xs = [.int i, .int j] ∧ Q (.int (if j < i then j else i)) H) := by
  intro pins s σ H xs us Q I r h
  obtain ⟨i, j, rfl, q⟩ := h
  obtain ⟨u, w', rfl, ⟨t, rfl⟩, ⟨t', rfl⟩⟩ := vals2 r
  refine min_two_ints (I.ok.hd hc) fun h' tk k => ⟨_, H, I.kept k, ?_, q⟩
  by_cases hj : j < i
  · rw [if_pos hj, if_pos hj]; exact ⟨_, rfl⟩
  · rw [if_neg hj, if_neg hj]; exact ⟨_, rfl⟩
theorem call_int1 : CallR X (.type "int") (fun xs H Q => (∃ i, xs = [.int i] ∧ Q (.int i) H) ∨ ∃ k, xs = [.bl k] ∧ Q (.int (if k then 1 else 0)) H) := by
  intro pins s σ H xs us Q I r h
  rcases h with ⟨i, rfl, q⟩ | ⟨k, rfl, q⟩
  · obtain ⟨u, rfl, t, rfl⟩ := vals1 r
    exact call_int_int ⟨.int i, H, I, ⟨_, rfl⟩, q⟩
  · obtain ⟨u, rfl, r1⟩ := vals1 r
    cases r1
    exact call_int_bool ⟨.int (if k then 1 else 0), H, I.tok _, ⟨_, rfl⟩, q⟩
theorem call_bool1 : CallR X (.type "bool") (fun xs H Q => (∃ i, xs = [.int i] ∧ Q (.bl (i != 0)) H) ∨ ∃ k, xs = [.bl k] ∧ Q (.bl k) H) := by
  intro pins s σ H xs us Q I r h
  rcases h with ⟨i, rfl, q⟩ | ⟨k, rfl, q⟩
  · obtain ⟨u, rfl, t, rfl⟩ := vals1 r
    exact call_bool_int ⟨.bl (i != 0), H, I, rfl, q⟩
  · obtain ⟨u, rfl, r1⟩ := vals1 r
    cases r1
    exact call_bool_bool ⟨.bl k, H, I, rfl, q⟩
theorem call_str_int : CallR X (.type "str") (fun xs H Q => ∃ i, xs = [.int i] ∧ i.natAbs.log2 < 1920 ∧ Q (.str (toString i)) H) := by
  intro pins s σ H xs us Q I r h
  obtain ⟨i, rfl, hz, q⟩ := h
  obtain ⟨u, rfl, t, rfl⟩ := vals1 r
  exact PySem.P.str_of_int hz ⟨.str _, H, I.tok _, ⟨_, rfl⟩, q⟩
theorem call_ord : CallR X (.builtin "ord") (fun xs H Q => ∃ x, xs = [.str x] ∧ x.length = 1 ∧ Q (.int (x.cps.getD 0 0 : Nat)) H) := by
  intro pins s σ H xs us Q I r h
  obtain ⟨x, rfl, hz, q⟩ := h
  obtain ⟨u, rfl, t, rfl⟩ := vals1 r
  exact ord_of_one hz ⟨.int _, H, I.tok _, ⟨_, rfl⟩, q⟩
theorem call_chr : CallR X (.builtin "chr") (fun xs H Q => ∃ i, xs = [.int i] ∧ 0 ≤ i ∧ i ≤ 1114111 ∧ Q (.str ⟨#[i.toNat]⟩) H) := by
  intro pins s σ H xs us Q I r h
  obtain ⟨i, rfl, h0, h1, q⟩ := h
  obtain ⟨u, rfl, t, rfl⟩ := vals1 r
  exact chr_of_range h0 h1 ⟨.str _, H, I.tok _, ⟨_, rfl⟩, q⟩
/-- len of a str, a bytes, a list, a tuple -/
def LenV (K : PySem.W.Frag) (x : V) (H : Hp) (n : Nat) : Prop :=
  match x with
  | .str y => y.length ≤ sizeLine ∧ n = y.length
  | .byt y => y.size ≤ sizeLine ∧ n = y.size
  | .ref p => (∃ xs, SqL K H p xs ∧ n = xs.length) ∨ ∃ xs, SqT K H p xs ∧ n = xs.length
  | _ => False
theorem call_len : CallR X (.builtin "len") (fun xs H Q => ∃ x n, xs = [x] ∧ LenV X.K x H n ∧ Q (.int n) H) := by
  intro pins s σ H xs us Q I r h
  obtain ⟨x, n, rfl, e, q⟩ := h
  obtain ⟨u, rfl, rx⟩ := vals1 r
  have hl := line63
  have hs : sizeLine = 16777216 := sizeLine_eq
  cases x with
  | str y =>
    obtain ⟨t, rfl⟩ := rx
    obtain ⟨hy, e'⟩ : y.length ≤ sizeLine ∧ n = y.length := e
    subst e'
    exact len_str (by omega) ⟨.int _, H, I.tok _, ⟨_, rfl⟩, q⟩
  | byt y =>
    obtain ⟨t, rfl⟩ := rx
    obtain ⟨hy, e'⟩ : y.size ≤ sizeLine ∧ n = y.size := e
    subst e'
    exact PySem.W.len_bytes (by omega) ⟨.int _, H, I.tok _, ⟨_, rfl⟩, q⟩
  | ref p =>
    cases rx
    have e' : (∃ xs, SqL X.K H p xs ∧ n = xs.length) ∨ ∃ xs, SqT X.K H p xs ∧ n = xs.length := e
    rcases e' with ⟨xs, hx, e'⟩ | ⟨xs, hx, e'⟩
    · subst e'
      obtain ⟨its, r', pl, hz⟩ := I.list hx
      have hlen := r'.length
      exact Calls.call_len_list pl.isList (by simp only [List.size_toArray]; omega) ⟨.int xs.length, H, I.tok _, ⟨_, by simp only [List.size_toArray]; rw [hlen]⟩, q⟩
    · subst e'
      obtain ⟨its, r', pl, hz⟩ := I.tuple hx
      have hlen := r'.length
      exact len_tuple pl (by simp only [List.size_toArray]; omega) ⟨.int xs.length, H, I.tok _, ⟨_, by simp only [List.size_toArray]; rw [hlen]⟩, q⟩
  | _ => exact (show False from e).elim
/-- divmod: a new tuple -/
theorem call_divmod : CallR X (.builtin "divmod") (fun xs H Q => ∃ i j, xs = [.int i, .int j] ∧ CDiv i j ∧ ∀ p, H p = none → Q (.ref p) (upd H p (.tup [.int (i / j), .int (i % j)]))) := by
  intro pins s σ H xs us Q I r h
  obtain ⟨i, j, rfl, ⟨h1, h2⟩, q⟩ := h
  obtain ⟨u, w', rfl, ⟨t, rfl⟩, ⟨t', rfl⟩⟩ := vals2 r
  refine divmod_int (by omega) ?_ (.inl (PyProof.noPylong_small (by omega)))
  rw [Int.fdiv_eq_ediv_of_nonneg i (by omega), Int.fmod_eq_emod_of_nonneg i (by omega)]
  have hn : H s.heap.objs.size = none := I.hok.fresh (Nat.le_refl _)
  refine ⟨.ref s.heap.objs.size, _, ?_, rfl, q _ hn⟩
  refine I.laid (fun b o e => Heap.get?_push_of_some _ e) (Nat.le_refl _) ⟨by simp only [List.length_cons, List.length_nil]; rw [sizeLine_eq]; decide, [.int (i / j) s.toks, .int (i % j) (s.toks + 1)], .cons ⟨_, rfl⟩ (.cons ⟨_, rfl⟩ .nil), ?_⟩
  exact ⟨_, Heap.get?_push_size s.heap rfl, rfl, 0, rfl⟩
end
end L2

namespace L2
open PySem PySem.Spec PyProof.Rows

/-! ### an instance, its attributes a map -/
structure ObjM (h : Heap) (x dx C : Addr) (mA : Str → Option Value) : Prop where
  obj : h.get? x = some (PySem.W.instObj C dx)
  ns : h.Ns1 dx mA
  ne : dx ≠ x

theorem lookIn_ns {h : Heap} {dx : Addr} {mA : Str → Option Value} (n : h.Ns1 dx mA) : ∃ od, h.get? dx = some od ∧ ∀ name, PySem.W.lookIn name od = some (mA name) := by
  obtain ⟨o, es, ep, ho, hd, hk, _, hm⟩ := n
  refine ⟨o, ho, fun name => ?_⟩
  have e := hm name
  unfold nsFind findBy at e
  rw [← Array.find?_toList] at e
  unfold PySem.W.lookIn
  rw [hd]
  dsimp only
  split
  · rename_i y q
    rw [q] at e
    exact congrArg some e
  · rename_i q
    rw [q] at e
    have a : es.toList.any (·.refKey) = false := by
      rw [List.any_eq_false]
      intro y hy
      obtain ⟨z, t, hkey⟩ := hk y (Array.mem_toList_iff.mp hy)
      simp [DictEntry.refKey, hkey]
    have a' : ¬ es.toList.any (·.refKey) = true := by rw [a]; exact Bool.false_ne_true
    rw [if_neg a']
    exact congrArg some e

theorem ObjM.look {h : Heap} {x dx C : Addr} {mA : Str → Option Value} (I : ObjM h x dx C mA) : ∃ od, PySem.W.InstAt h x (PySem.W.instObj C dx) C (some od) ∧ ∀ name, PySem.W.lookIn name od = some (mA name) :=
  let ⟨od, ho, hl⟩ := lookIn_ns I.ns
  ⟨od, ⟨I.obj, rfl, rfl, ho⟩, hl⟩

section
variable {prog : Program} {w : World} {A : Around} {E : Value → Shared → Prop} {s : Shared} {K : PySem.W.Frag} {x dx C f : Addr} {mA : Str → Option Value} {name : Str} {v : Value}

theorem get_map {expr : Bool} {Q : Value → Shared → Prop} (X : K.In s.heap) (I : ObjM s.heap x dx C mA) (hg : PySem.W.plainGet K C name = true) (hh : PySem.W.hasDictIn K C = true)
    (ha : PySem.W.findIn K (.ref C) name = some none) (hv : mA name = some v) (hv' : PySem.W.handedIn v = true) (h : Q v { s with toks := s.toks + 1 }) :
    wpAny (model prog w) A (getAttr (.ref x) name expr) Q E s := by
  obtain ⟨od, J, hl⟩ := I.look
  exact PySem.W.get_value X J (PySem.W.plainGet_of hg).1 (PySem.W.findObj_own hh ha rfl (by rw [hl, hv])) hv' h

theorem get_const {expr : Bool} {a : Value} {Q : Value → Shared → Prop} (X : K.In s.heap) (I : ObjM s.heap x dx C mA) (hg : PySem.W.plainGet K C name = true) (hh : PySem.W.hasDictIn K C = true)
    (ha : PySem.W.findIn K (.ref C) name = some (some a)) (hn : PySem.W.specialIn K a "__get__" = some none) (hc : PySem.W.copiedNames.contains name = false) (hv : mA name = none) (hv' : PySem.W.handedIn a = true)
    (h : Q a { s with toks := s.toks + 1 }) : wpAny (model prog w) A (getAttr (.ref x) name expr) Q E s := by
  obtain ⟨od, J, hl⟩ := I.look
  exact PySem.W.get_value X J (PySem.W.plainGet_of hg).1 (PySem.W.findObj_cls hh ha hn hv' hc (by rw [hl, hv])) hv' h

theorem get_meth {pl : Sem Bool} {Q : Value × List Value → Shared → Prop} (X : K.In s.heap) (I : ObjM s.heap x dx C mA) (hg : PySem.W.plainGet K C name = true)
    (hf : PySem.W.findIn K (.ref C) name = some (some (.ref f))) (ht : PySem.W.isFn K (.ref f) = true) (hv : mA name = none) (h : Q (.ref f, [.ref x]) s) :
    wpAny (model prog w) A (getMethod (.ref x) name pl) Q E s := by
  obtain ⟨od, J, hl⟩ := I.look
  exact PySem.W.method_fn X J (PySem.W.plainGet_of hg).1 (PySem.W.plainGet_of hg).2 hf (beq_iff_eq.mp ht) (by show (PySem.W.lookIn name od).map (·.isSome) = some false; rw [hl, hv]; rfl) h

theorem set_map {ns : List Str} {Q : Unit → Shared → Prop} (X : K.In s.heap) (I : ObjM s.heap x dx C mA)
    (hs : PySem.W.findIn K (.ref C) "__setattr__" = some (some (.builtin "object.__setattr__"))) (hp : PySem.W.plainOver K C = true) (ht : PySem.W.takerIn K C name = some none) (hh : PySem.W.hasDictIn K C = true)
    (hw : PySem.Within mA ns) (hsz : ns.length ≤ sizeLine)
    (h : ∀ h', ObjM h' x dx C (fun y => if y = name then some v else mA y) → Heap.SameBut dx s.heap h' → Q () { s with heap := h', toks := s.toks + 2 }) :
    wpAny (model prog w) A (setAttr (.ref x) name v) Q E s := by
  obtain ⟨od, J, hl⟩ := I.look
  refine PySem.W.set_plain X J hs (PySem.W.osa_open (s := { s with toks := s.toks + 1 }) (r := none) X J hp ht fun b => ?_)
  obtain ⟨cd, hc, hd'⟩ := PySem.W.any_some hh
  have hx : s.heap.get? x = some ⟨.ref C, some dx, .plain, #[]⟩ := I.obj
  refine wpAny_bind (wpAny_pure (wpAny_bind (wpAny_bind (wpAny_loadPart hx (wpAny_bind (PySem.W.Looks.here (s := { s with toks := s.toks + 1 }) (PySem.W.looks_clsIn X hc) ?_))))))
  rw [hd']
  refine wpAny_pure (a := some dx) (wpAny_bind (wpAny_pure (wpAny_bind ?_)))
  refine wpAny_nsSet1 (s := { s with toks := s.toks + 1 }) I.ns fun h' hn2 hs2 => ?_
  obtain ⟨oD, esD, epD, hoD, hdD, hcD⟩ := hn2.count (PySem.Within.cons name v hw)
  refine wpAny_bind (wpAny_lookBehind hoD (by rw [hdD]; exact pastItsLine_dict (Nat.le_trans hcD (by rw [List.length_cons]; omega))) ?_)
  exact wpAny_pure (h _ ⟨(hs2.2 _ (Ne.symm I.ne)).trans I.obj, hn2, I.ne⟩ hs2)

/-- C(..): the dict at the heap's end, the instance behind it; then its __init__ -/
theorem make_map {R : Result → Shared → Prop} {vs : List Value} {kw : List (Str × Value)} (X : K.In s.heap) (hm : PySem.W.makesIn K C = true)
    (hi : PySem.W.findIn K (.ref C) "__init__" = some (some (.ref f))) (hf : PySem.W.typeIn K (.ref f) = some (.type "function"))
    (h : codeAny (model prog w) (A.under (.builtin "type.__call__" ⟨.ref C :: vs, kw⟩)) (.call (.ref f) ⟨.ref (s.heap.objs.size + 1) :: vs, kw⟩) (PySem.W.InitBack (s.heap.objs.size + 1) R)
      { s with heap := (s.heap.push PySem.W.emptyDict).push (PySem.W.instObj C s.heap.objs.size) }) :
    codeAny (model prog w) A (.call (.ref C) ⟨vs, kw⟩) R s := by
  obtain ⟨hh, g, d, t, os⟩ := s
  exact PySem.W.make_core (PySem.W.makes_of X hm) (PySem.W.looks_findIn X hi) (fun self => PySem.W.bind_fn X self hf) (.inl rfl) h
/-- C() where there is no __init__ but object's -/
theorem make_map0 {R : Result → Shared → Prop} (X : K.In s.heap) (hm : PySem.W.makesIn K C = true)
    (hi : PySem.W.findIn K (.ref C) "__init__" = some (some (.builtin "object.__init__")))
    (hb : ∀ self, PySem.W.Looks (model prog w) s.heap (bindSpecial (.builtin "object.__init__") self) (.builtin "object.__init__", [self]))
    (h : codeAny (model prog w) (A.under (.builtin "type.__call__" ⟨[.ref C], []⟩)) (.call (.builtin "object.__init__") ⟨[.ref (s.heap.objs.size + 1)], []⟩) (PySem.W.InitBack (s.heap.objs.size + 1) R)
      { s with heap := (s.heap.push PySem.W.emptyDict).push (PySem.W.instObj C s.heap.objs.size) }) :
    codeAny (model prog w) A (.call (.ref C) ⟨[], []⟩) R s := by
  obtain ⟨hh, g, d, t, os⟩ := s
  exact PySem.W.make_core (PySem.W.makes_of X hm) (PySem.W.looks_findIn X hi) hb (.inr ⟨rfl, rfl⟩) h
end

/-! ### the attributes as a list of pairs -/
def putF (f : Str) (v : V) : List (Str × V) → List (Str × V)
  | [] => [(f, v)]
  | (g, x) :: r => if g = f then (g, v) :: r else (g, x) :: putF f v r
theorem lookup_putF (f g : Str) (v : V) : ∀ fs : List (Str × V), (putF f v fs).lookup g = if g = f then some v else fs.lookup g
  | [] => by
    show List.lookup g [(f, v)] = _
    by_cases h : g = f
    · have hb : (g == f) = true := beq_iff_eq.mpr h
      simp only [List.lookup, hb, if_pos h]
    · have hb : (g == f) = false := beq_eq_false_iff_ne.mpr h
      simp only [List.lookup, hb, if_neg h]
  | (k, x) :: r => by
    have ih := lookup_putF f g v r
    rw [show putF f v ((k, x) :: r) = (if k = f then (k, v) :: r else (k, x) :: putF f v r) from rfl]
    by_cases hk : k = f
    · rw [if_pos hk]
      by_cases h : g = k
      · have hb : (g == k) = true := beq_iff_eq.mpr h
        simp only [List.lookup, hb, if_pos (h.trans hk)]
      · have hb : (g == k) = false := beq_eq_false_iff_ne.mpr h
        simp only [List.lookup, hb, if_neg (fun e : g = f => h (e.trans hk.symm))]
    · rw [if_neg hk]
      by_cases h : g = k
      · have hb : (g == k) = true := beq_iff_eq.mpr h
        simp only [List.lookup, hb, if_neg (fun e : g = f => hk (h.symm.trans e))]
      · have hb : (g == k) = false := beq_eq_false_iff_ne.mpr h
        simp only [List.lookup, hb]
        exact ih
theorem keys_putF (f : Str) (v : V) : ∀ fs : List (Str × V), f ∈ (putF f v fs).map (·.1) ∧ ∀ g, g ∈ fs.map (·.1) → g ∈ (putF f v fs).map (·.1)
  | [] => ⟨by simp [putF], fun g h => by simp at h⟩
  | (k, x) :: r => by
    obtain ⟨i1, i2⟩ := keys_putF f v r
    rw [show putF f v ((k, x) :: r) = (if k = f then (k, v) :: r else (k, x) :: putF f v r) from rfl]
    by_cases hk : k = f
    · rw [if_pos hk]
      subst hk
      exact ⟨by simp, fun g h => by simpa using h⟩
    · rw [if_neg hk]
      refine ⟨?_, fun g h => ?_⟩
      · rw [List.map_cons]
        exact List.mem_cons_of_mem _ i1
      · rw [List.map_cons] at h ⊢
        rcases List.mem_cons.mp h with e | e
        · exact List.mem_cons.mpr (.inl e)
        · exact List.mem_cons_of_mem _ (i2 g e)
theorem length_putF (f : Str) (v : V) : ∀ fs : List (Str × V), (putF f v fs).length ≤ fs.length + 1
  | [] => by simp [putF]
  | (k, x) :: r => by
    have ih := length_putF f v r
    rw [show putF f v ((k, x) :: r) = (if k = f then (k, v) :: r else (k, x) :: putF f v r) from rfl]
    by_cases hk : k = f
    · rw [if_pos hk, List.length_cons, List.length_cons]; omega
    · rw [if_neg hk, List.length_cons, List.length_cons]; omega

theorem RelO.some_of {v : V} {o : Option Value} (r : RelO (some v) o) : ∃ u, o = some u ∧ RelV v u := by
  cases o with
  | none => exact (show False from r).elim
  | some u => exact ⟨u, rfl, r⟩
theorem RelO.none_of {o : Option Value} (r : RelO none o) : o = none := by
  cases o with
  | none => rfl
  | some u => exact (show False from r).elim
theorem handed_of {v : V} {u : Value} (r : RelV v u) : PySem.W.handedIn u = true := by
  cases v with
  | non => cases (show u = Value.none from r); rfl
  | bl b => cases (show u = Value.bool b from r); rfl
  | int i => obtain ⟨t, e⟩ := (show ∃ t, u = Value.int i t from r); cases e; rfl
  | str x => obtain ⟨t, e⟩ := (show ∃ t, u = Value.str x t from r); cases e; rfl
  | byt b => obtain ⟨t, e⟩ := (show ∃ t, u = Value.bytes b t from r); cases e; rfl
  | flt b => obtain ⟨t, e⟩ := (show ∃ t, u = Value.float b t from r); cases e; rfl
  | ref a => cases (show u = Value.ref a from r); rfl
  | ty n => cases (show u = Value.type n from r); rfl

section
variable {P : Program} {w : World} {H H' : Hp} {h h' : Heap} {a C dx : Addr} {fs fs' : List (Str × V)}
theorem ins_get (hok : HOk P w H h) (e : H a = some (.ins C dx fs)) : ∃ mA, ObjM h a dx C mA ∧ (∀ f, RelO (fs.lookup f) (mA f)) ∧ PySem.Within mA (fs.map (·.1)) ∧ fs.length ≤ 1000 ∧ H dx = some (.own a) := by
  obtain ⟨d, z, ne, ob, mA, n, r, q⟩ := (show ObjOk P w H h a (.ins C dx fs) from hok a _ e)
  exact ⟨mA, ⟨ob, n, ne⟩, r, q, z, d⟩
end

/-! ### what of the text a class must have -/
structure Cls (K : PySem.W.Frag) (C : Addr) : Prop where
  pg : PySem.W.plainGet K C Str.empty = true
  hd : PySem.W.hasDictIn K C = true
  po : PySem.W.plainOver K C = true
  sa : PySem.W.findIn K (.ref C) "__setattr__" = some (some (.builtin "object.__setattr__"))
theorem Cls.get {K : PySem.W.Frag} {C : Addr} (c : Cls K C) (f : Str) : PySem.W.plainGet K C f = true := c.pg
/-- no class of it has the name -/
def NoAttr (K : PySem.W.Frag) (C : Addr) (f : Str) : Prop := PySem.W.findIn K (.ref C) f = some none
theorem NoAttr.taker {K : PySem.W.Frag} {C : Addr} {f : Str} (n : NoAttr K C f) : PySem.W.takerIn K C f = some none := by
  unfold PySem.W.takerIn
  rw [show PySem.W.findIn K (.ref C) f = some none from n]
  rfl
/-- a constant of the class -/
structure Con (K : PySem.W.Frag) (C : Addr) (f : Str) (v : V) (u : Value) : Prop where
  at_ : PySem.W.findIn K (.ref C) f = some (some u)
  rel : RelV v u
  get : PySem.W.specialIn K u "__get__" = some none
  cp : PySem.W.copiedNames.contains f = false
/-- a method: a plain def of the class or of one above it -/
structure Meth (K : PySem.W.Frag) (C : Addr) (m : Str) (f : Addr) : Prop where
  at_ : PySem.W.findIn K (.ref C) m = some (some (.ref f))
  fn : PySem.W.isFn K (.ref f) = true
  kp : PySem.W.keepIn K (.ref f) = true

section
variable {X : Cx} {pins : List (Addr × Obj)} {σ : St} {H : Hp} {s : Shared} {a C dx : Addr} {fs : List (Str × V)} {f : Str} {v : V} {A : Around} {E : Value → Shared → Prop}

theorem getattr_ok {b : Bool} {Q : Value → Shared → Prop} (I : Inv X pins σ H s) (e : H a = some (.ins C dx fs)) (c : Cls X.K C) (n : NoAttr X.K C f) (l : fs.lookup f = some v)
    (h : ∀ u s', Inv X pins σ H s' → RelV v u → Q u s') : wpAny (model X.prog X.w) A (getAttr (.ref a) f b) Q E s := by
  obtain ⟨mA, O, r, _, _, _⟩ := ins_get I.hok e
  obtain ⟨u, hu, ru⟩ := RelO.some_of (v := v) (o := mA f) (by rw [← l]; exact r f)
  exact get_map I.kIn O (c.get f) c.hd n hu (handed_of ru) (h u _ (I.tok _) ru)

theorem getcon_ok {b : Bool} {u : Value} {Q : Value → Shared → Prop} (I : Inv X pins σ H s) (e : H a = some (.ins C dx fs)) (c : Cls X.K C) (k : Con X.K C f v u) (l : fs.lookup f = none)
    (h : ∀ s', Inv X pins σ H s' → Q u s') : wpAny (model X.prog X.w) A (getAttr (.ref a) f b) Q E s := by
  obtain ⟨mA, O, r, _, _, _⟩ := ins_get I.hok e
  have hn : mA f = none := RelO.none_of (by rw [← l]; exact r f)
  exact get_const I.kIn O (c.get f) c.hd k.at_ k.get k.cp hn (handed_of k.rel) (h _ (I.tok _))

theorem getmeth_ok {m : Str} {g : Addr} {pl : Sem Bool} {Q : Value × List Value → Shared → Prop} (I : Inv X pins σ H s) (e : H a = some (.ins C dx fs)) (c : Cls X.K C) (k : Meth X.K C m g) (l : fs.lookup m = none)
    (h : Q (.ref g, [.ref a]) s) : wpAny (model X.prog X.w) A (getMethod (.ref a) m pl) Q E s := by
  obtain ⟨mA, O, r, _, _, _⟩ := ins_get I.hok e
  have hn : mA m = none := RelO.none_of (by rw [← l]; exact r m)
  exact get_meth I.kIn O (c.get m) k.at_ k.fn hn h

theorem setattr_ok {y : V} {u : Value} {Q : Unit → Shared → Prop} (I : Inv X pins σ H s) (e : H a = some (.ins C dx fs)) (c : Cls X.K C) (n : NoAttr X.K C f) (hl : fs.length < 1000) (ry : RelV y u)
    (h : ∀ s', Inv X pins σ (upd H a (.ins C dx (putF f y fs))) s' → Q () s') : wpAny (model X.prog X.w) A (setAttr (.ref a) f u) Q E s := by
  obtain ⟨mA, O, r, wi, _, ho⟩ := ins_get I.hok e
  have hz : (fs.map (·.1)).length ≤ sizeLine := by rw [List.length_map, sizeLine_eq]; omega
  refine set_map I.kIn O c.sa c.po n.taker c.hd wi hz fun h' O' sb => h _ ?_
  have hd : ∃ o, h'.get? dx = some o := let ⟨o, _, _, e', _⟩ := O'.ns; ⟨o, e'⟩
  refine I.write (x := a) (e := dx) (by rw [e]; exact True.intro) (.inr ho) (fun b q hb z => (sb.2 b hb).trans z) hd ?_
  refine ⟨by rw [upd_ne O.ne]; exact ho, ?_, O.ne, O'.obj, _, O'.ns, fun g => ?_, fun g hg => ?_⟩
  · have := length_putF f y fs; omega
  · show RelO ((putF f y fs).lookup g) (if g = f then some u else mA g)
    rw [lookup_putF]
    by_cases q : g = f
    · rw [if_pos q, if_pos q]; exact ry
    · rw [if_neg q, if_neg q]; exact r g
  · by_cases q : g = f
    · rw [q]; exact (keys_putF f y fs).1
    · refine (keys_putF f y fs).2 g (wi g fun z => hg ?_)
      show (if g = f then some u else mA g) = none
      rw [if_neg q]; exact z

/-- a new instance, tracked, without attributes -/
theorem Inv.made (I : Inv X pins σ H s) : Inv X pins σ (upd (upd H s.heap.objs.size (.own (s.heap.objs.size + 1))) (s.heap.objs.size + 1) (.ins C s.heap.objs.size []))
    { s with heap := (s.heap.push PySem.W.emptyDict).push (PySem.W.instObj C s.heap.objs.size) } := by
  have e1 : (s.heap.push PySem.W.emptyDict).get? s.heap.objs.size = some PySem.W.emptyDict := Heap.get?_push_size s.heap rfl
  have e2 : ((s.heap.push PySem.W.emptyDict).push (PySem.W.instObj C s.heap.objs.size)).get? (s.heap.objs.size + 1) = some (PySem.W.instObj C s.heap.objs.size) := by
    have := Heap.get?_push_size (s.heap.push PySem.W.emptyDict) (o := PySem.W.instObj C s.heap.objs.size) rfl
    rwa [Heap.size_push] at this
  have e3 : (s.heap.push PySem.W.emptyDict).Ns s.heap.objs.size (fun _ => none) := ⟨PySem.W.emptyDict, #[], _, e1, rfl, (fun e he => absurd he (by simp)), fun _ => rfl⟩
  have I1 := I.laid (a := s.heap.objs.size) (o := .own (s.heap.objs.size + 1)) (h' := s.heap.push PySem.W.emptyDict) (t' := s.toks) (fun b u q => Heap.get?_push_of_some _ q) (Nat.le_refl _) ⟨_, e1⟩
  refine I1.laid (a := s.heap.objs.size + 1) (o := .ins C s.heap.objs.size []) (t' := s.toks) (fun b u q => Heap.get?_push_of_some _ q) (Nat.le_of_eq (Heap.size_push _ _)) ?_
  have ne : s.heap.objs.size ≠ s.heap.objs.size + 1 := Nat.ne_of_lt (Nat.lt_succ_self _)
  refine ⟨by rw [upd_ne ne, upd_same], Nat.zero_le _, ne, e2, fun _ => none, (Heap.Ns1.of_empty e3).at fun o q => Heap.get?_push_of_some _ q, fun _ => True.intro, fun y hy => absurd rfl hy⟩

/-- e.f where nothing but the object is asked: through attributeBase (super) and the last hold -/
theorem attr_of {prog : Program} {w : World} {env : Env} {e : Expr} {f : Str} {pos : Pos} {s : Shared} {Q : Value → Shared → Prop} (hb : attributeBase e f env (eval e env) = eval e env)
    (h : wpAny (model prog w) A (eval e env) (fun o s₁ => wpAny (model prog w) A (getAttr o f true) Q E s₁) E s) : wpAny (model prog w) A (eval (.Attribute e f pos) env) Q E s :=
  Attribute_any_ h (by rw [arm_eval_Attribute, hb])
end

/-! ### readings and rules -/
/-- e.f, an attribute of the instance -/
def tFld (K : PySem.W.Frag) (ta : TE) (f : Str) : TE := fun σ H Q => ta σ H fun x H1 => ∃ a C dx fs v, x = .ref a ∧ H1 a = some (.ins C dx fs) ∧ Cls K C ∧ NoAttr K C f ∧ fs.lookup f = some v ∧ Q v H1
/-- e.f, a constant of the class -/
def tCon (K : PySem.W.Frag) (ta : TE) (f : Str) : TE := fun σ H Q => ta σ H fun x H1 => ∃ a C dx fs v u, x = .ref a ∧ H1 a = some (.ins C dx fs) ∧ Cls K C ∧ Con K C f v u ∧ fs.lookup f = none ∧ Q v H1
/-- e.f = value -/
def sFld (K : PySem.W.Frag) (ta tv : TE) (f : Str) : TS := fun D σ H => tv σ H fun y H1 => ta σ H1 fun x H2 => ∃ a C dx fs, x = .ref a ∧ H2 a = some (.ins C dx fs) ∧ Cls K C ∧ NoAttr K C f ∧ fs.length < 1000 ∧
  D.nx σ (upd H2 a (.ins C dx (putF f y fs)))
/-- an augmented operator on two values -/
def InOp (X : Cx) (op : Operator) (rd : V → V → Hp → VK → Prop) : Prop :=
  ∀ (pins : List (Addr × Obj)) (s : Shared) (σ : St) (H : Hp) (x y : V) (u v : Value) (Q : VK), Inv X pins σ H s → RelV x u → RelV y v → rd x y H Q → wpAny (model X.prog X.w) X.A (inplaceOp op u v) (EP X pins σ Q) X.xe s
/-- e.f op= value -/
def sFldAug (K : PySem.W.Frag) (ta tv : TE) (rd : V → V → Hp → VK → Prop) (f : Str) : TS := fun D σ H => ta σ H fun x H1 => ∃ a C dx fs v, x = .ref a ∧ H1 a = some (.ins C dx fs) ∧ Cls K C ∧ NoAttr K C f ∧ fs.lookup f = some v ∧
  tv σ H1 fun y H2 => rd v y H2 fun z H3 => ∃ dx' fs', H3 a = some (.ins C dx' fs') ∧ fs'.length < 1000 ∧ D.nx σ (upd H3 a (.ins C dx' (putF f z fs')))

section
variable {X : Cx} {o e value : Expr} {f : Str} {pos pos' tpos : Pos} {ta tv : TE}
theorem pe_fld (he : PE X e ta) (hb : attributeBase e f X.env (eval e X.env) = eval e X.env) : PE X (.Attribute e f pos) (tFld X.K ta f) := by
  intro pins s σ H Q I h
  refine attr_of hb (thn (he pins s σ H _ I h) fun u s1 ⟨x, H1, I1, rx, a, C, dx, fs, v, ex, ea, c, n, l, q⟩ => ?_)
  subst ex
  obtain rfl : u = Value.ref a := rx
  exact getattr_ok I1 ea c n l fun u' s2 I2 ru => ⟨v, H1, I2, ru, q⟩
theorem pe_con (he : PE X e ta) (hb : attributeBase e f X.env (eval e X.env) = eval e X.env) : PE X (.Attribute e f pos) (tCon X.K ta f) := by
  intro pins s σ H Q I h
  refine attr_of hb (thn (he pins s σ H _ I h) fun u s1 ⟨x, H1, I1, rx, a, C, dx, fs, v, u0, ex, ea, c, k, l, q⟩ => ?_)
  subst ex
  obtain rfl : u = Value.ref a := rx
  exact getcon_ok I1 ea c k l fun s2 I2 => ⟨v, H1, I2, k.rel, q⟩
theorem ps_fld (ha : PE X o ta) (hv : PE X value tv) (hs : swapsWith value (some (.Attribute o f pos')) pos.line X.env = pure false) : PS X (.Assign [.Attribute o f pos'] value pos) (sFld X.K ta tv f) := by
  intro pins s σ H D I h
  refine plainObj_wpAny_Assign_Attribute (thn (hv pins s σ H _ I h) fun u s1 ⟨y, H1, I1, ry, q⟩ => thn (ha pins s1 σ H1 _ I1 q) fun ov s2 ⟨x, H2, I2, rx, a, C, dx, fs, ex, ea, c, n, l, q2⟩ => ?_) hs
  subst ex
  obtain rfl : ov = Value.ref a := rx
  exact setattr_ok I2 ea c n l ry fun s3 I3 => ⟨σ, _, I3, q2⟩
theorem ps_fldaug {op : Operator} {rd : V → V → Hp → VK → Prop} (ha : PE X o ta) (hv : PE X value tv) (hop : InOp X op rd) : PS X (.AugAssign (.Attribute o f tpos) op value pos) (sFldAug X.K ta tv rd f) := by
  intro pins s σ H D I h
  refine wpAny_AugAssign_AttributeAny (thn (ha pins s σ H _ I h) fun ov s1 ⟨x, H1, I1, rx, a, C, dx, fs, v, ex, ea, c, n, l, q⟩ => ?_)
  subst ex
  obtain rfl : ov = Value.ref a := rx
  refine getattr_ok I1 ea c n l fun u s2 I2 ru => thn (hv pins s2 σ H1 _ I2 q) fun w3 s3 ⟨y, H2, I3, ry, q3⟩ => thn (hop pins s3 σ H2 v y u w3 _ I3 ru ry q3) fun w4 s4 ⟨z, H3, I4, rz, dx', fs', ea', l', q4⟩ => ?_
  exact setattr_ok I4 ea' c n l' rz fun s5 I5 => ⟨σ, _, I5, q4⟩
def rAdd : V → V → Hp → VK → Prop := fun x y H Q => ∃ i j, x = .int i ∧ y = .int j ∧ Q (.int (i + j)) H
def rSub : V → V → Hp → VK → Prop := fun x y H Q => ∃ i j, x = .int i ∧ y = .int j ∧ Q (.int (i - j)) H
theorem in_add : InOp X .Add rAdd := by
  rintro pins s σ H x y u v Q I rx ry ⟨i, j, rfl, rfl, q⟩
  obtain ⟨t, rfl⟩ := (show ∃ t, u = Value.int i t from rx)
  obtain ⟨t', rfl⟩ := (show ∃ t', v = Value.int j t' from ry)
  exact PyProof.Rows.iadd_int ⟨.int (i + j), H, I.tok _, ⟨_, rfl⟩, q⟩
theorem in_sub : InOp X .Sub rSub := by
  rintro pins s σ H x y u v Q I rx ry ⟨i, j, rfl, rfl, q⟩
  obtain ⟨t, rfl⟩ := (show ∃ t, u = Value.int i t from rx)
  obtain ⟨t', rfl⟩ := (show ∃ t', v = Value.int j t' from ry)
  exact PyProof.Rows.isub_int ⟨.int (i - j), H, I.tok _, ⟨_, rfl⟩, q⟩

/-- what is between an instance and its method: the tree of a method call -/
theorem methcall_of {pl : Sem Bool} {m : Str} {apos : Pos} {args : List Expr} {pins : List (Addr × Obj)} {s : Shared} {σ : St} {H : Hp} {Q : Value → Shared → Prop} {te : TE} (he : PE X e te) (I : Inv X pins σ H s)
    (h : te σ H fun x H1 => ∃ a C dx fs g, x = .ref a ∧ H1 a = some (.ins C dx fs) ∧ Cls X.K C ∧ Meth X.K C m g ∧ fs.lookup m = none ∧
      ∀ s1, Inv X pins σ H1 s1 → wpAny (model X.prog X.w) X.A (callWith pos (.ref g) [.ref a] (backTo pos (starEach args X.env)) (backToKw pos (keywordEach [] X.env))) Q X.xe s1)
    (ht : eval (.Call (.Attribute e m apos) args [] pos) X.env = (do
      let ov ← eval e X.env
      standAt apos.atName
      let (f, first) ← holding [ov] (getMethod ov m pl)
      callWith pos f first (backTo pos (starEach args X.env)) (backToKw pos (keywordEach [] X.env)))) :
    wpAny (model X.prog X.w) X.A (eval (.Call (.Attribute e m apos) args [] pos) X.env) Q X.xe s := by
  refine PySem.W.methodCall_KW (pl := pl) (thn (he pins s σ H _ I h) fun u s1 ⟨x, H1, I1, rx, a, C, dx, fs, g, ex, ea, c, k, l, q⟩ => ?_) ht
  subst ex
  obtain rfl : u = Value.ref a := rx
  exact getmeth_ok I1 ea c k l (q s1 I1)
end

/-! ### isinstance -/
section
variable {X : Cx} {pins : List (Addr × Obj)} {σ : St} {H : Hp} {s : Shared} {A : Around} {E : Value → Shared → Prop} {Q : Value → Shared → Prop} {c : Value} {b : Bool}
/-- the type of a value, as the fragment's deciders take it; for an instance its class -/
inductive TyOf (K : PySem.W.Frag) (H : Hp) : V → Value → Prop where
  | non : TyOf K H .non (.type "NoneType")
  | bl (x : Bool) : TyOf K H (.bl x) (.type "bool")
  | int (i : Int) : TyOf K H (.int i) (.type "int")
  | str (x : Str) : TyOf K H (.str x) (.type "str")
  | flt (x : UInt64) : TyOf K H (.flt x) (.type "float")
  | lst {a : Addr} {xs : List V} (e : H a = some (.lst xs)) : TyOf K H (.ref a) (.type "list")
  | frz {a : Addr} {o : Obj} {xs : List V} (e : H a = some (.frz o (.lst xs))) : TyOf K H (.ref a) (.type "list")
  | tup {a : Addr} {xs : List V} (e : H a = some (.tup xs)) : TyOf K H (.ref a) (.type "tuple")
  | dK {a : Addr} {kvs : List (Key × V)} (e : H a = some (.dK kvs)) : TyOf K H (.ref a) (.type "dict")
  | dT {a : Addr} {kvs : List (List Key × V)} (e : H a = some (.dT kvs)) : TyOf K H (.ref a) (.type "dict")
  | ins {a C dx : Addr} {fs : List (Str × V)} (e : H a = some (.ins C dx fs)) (cl : Cls K C) (ha : PySem.W.findIn K (.ref C) "__class__" = some (some (.builtin "object.__class__")))
      (hn : PySem.W.specialIn K (.builtin "object.__class__") "__get__" = some (some (.builtin "getset_descriptor.__get__"))) (htk : PySem.W.takesIn K (.builtin "object.__class__") = some true)
      (hm : PySem.W.mroIn K C (.type "object") = some true) : TyOf K H (.ref a) (.ref C)
/-- isinstance(x, c) for one class c, a built-in or an own one: kitOne's answer -/
theorem isinst_ok {x : V} {u t : Value} (I : Inv X pins σ H s) (rx : RelV x u) (ty : TyOf X.K H x t) (e : PySem.W.kitOne X.K t c = some b) (h : ∀ tk, Q (.bool b) { s with toks := tk }) :
    wpAny (model X.prog X.w) A (call (.builtin "isinstance") [u, c]) Q E s := by
  cases ty with
  | non => cases (show u = Value.none from rx); exact PySem.W.kia_one PySem.W.kitx_none I.kIn True.intro e (fun z => nomatch z) h
  | bl y => cases (show u = Value.bool y from rx); exact PySem.W.kia_one PySem.W.kitx_bool I.kIn True.intro e (fun z => nomatch z) h
  | int i => obtain ⟨t, q⟩ := (show ∃ t, u = Value.int i t from rx); cases q; exact PySem.W.kia_one PySem.W.kitx_int I.kIn True.intro e (fun z => nomatch z) h
  | str y => obtain ⟨t, q⟩ := (show ∃ t, u = Value.str y t from rx); cases q; exact PySem.W.kia_one PySem.W.kitx_str I.kIn True.intro e (fun z => nomatch z) h
  | flt y => obtain ⟨t, q⟩ := (show ∃ t, u = Value.float y t from rx); cases q; exact PySem.W.kia_one PySem.W.kitx_float I.kIn True.intro e (fun z => nomatch z) h
  | @lst a xs ea =>
    cases (show u = Value.ref a from rx)
    obtain ⟨_, _, n, _, h1⟩ := (show ObjOk X.prog X.w H s.heap a (.lst xs) from I.hok a _ ea)
    exact PySem.W.kia_one PySem.W.kitx_list I.kIn ⟨_, h1, rfl⟩ e (fun z => nomatch z) h
  | @frz a ob xs ea =>
    cases (show u = Value.ref a from rx)
    obtain ⟨_, _, _, n, _, h1⟩ := (show ObjOk X.prog X.w H s.heap a (.frz ob (.lst xs)) from I.hok a _ ea)
    exact PySem.W.kia_one PySem.W.kitx_list I.kIn ⟨_, h1, rfl⟩ e (fun z => nomatch z) h
  | @tup a xs ea =>
    cases (show u = Value.ref a from rx)
    obtain ⟨_, _, _, p⟩ := (show ObjOk X.prog X.w H s.heap a (.tup xs) from I.hok a _ ea)
    obtain ⟨o, h1, h2, _⟩ := p
    exact PySem.W.kia_one PySem.W.kitx_tuple I.kIn ⟨o, h1, h2⟩ e (fun z => nomatch z) h
  | @dK a kvs ea =>
    cases (show u = Value.ref a from rx)
    obtain ⟨_, _, vs, _, p⟩ := (show ObjOk X.prog X.w H s.heap a (.dK kvs) from I.hok a _ ea)
    obtain ⟨o, es, ep, h1, h2, _⟩ := p
    exact PySem.W.kia_one PySem.W.kitx_dict I.kIn ⟨o, h1, h2.1⟩ e (fun z => nomatch z) h
  | @dT a kvs ea =>
    cases (show u = Value.ref a from rx)
    obtain ⟨_, _, xs, _, o, es, ep, h1, h2, _⟩ := (show ObjOk X.prog X.w H s.heap a (.dT kvs) from I.hok a _ ea)
    exact PySem.W.kia_one PySem.W.kitx_dict I.kIn ⟨o, h1, h2.1⟩ e (fun z => nomatch z) h
  | @ins a C dx fs ea cl ha hn htk hm =>
    cases (show u = Value.ref a from rx)
    obtain ⟨mA, O, _⟩ := ins_get I.hok ea
    obtain ⟨od, J, _⟩ := O.look
    exact PySem.W.kia_one (PySem.W.kitx_own (cl.get _) cl.hd ha hn htk hm) I.kIn J e (fun z => nomatch z) h
end
end L2

namespace L2
open PySem PySem.Spec PyProof.Rows

/-! ### room -/
structure Room (k : Nat) (A : Around) : Prop where
  hd : A.handled = none
  dp : A.depth + 3 * k + 5 < recursionLimit
  un : A.units + 16 * k + 200 < cLine
theorem Room.mono {j k : Nat} {A : Around} (r : Room k A) (h : j ≤ k) : Room j A := ⟨r.hd, by have := r.dp; omega, by have := r.un; omega⟩
theorem Room.deeper {k : Nat} {A : Around} (r : Room (k + 1) A) (env : Env) : Room k (A.deeper env) :=
  ⟨r.hd, by have := r.dp; show A.depth + 1 + 3 * k + 5 < _; omega, by have := r.un; show A.units + 3 + 16 * k + 200 < _; omega⟩
theorem Room.in1 {k : Nat} {A : Around} (r : Room (k + 1) A) : Room k A.in1 :=
  ⟨r.hd, by have := r.dp; show A.depth + 3 * k + 5 < _; omega, by have := r.un; show A.units + 1 + 16 * k + 200 < _; omega⟩
theorem make_depth {A : Around} {C : Addr} {us : List Value} {kw : List (Str × Value)} : (A.under (.builtin "type.__call__" ⟨.ref C :: us, kw⟩)).depth = A.depth + 1 := by
  first | rfl | simp [Around.under, Code.weight, Code.isCreation, Code.isGuard, Code.isCaller, Code.frames, Code.isFrame, guardIds]
theorem make_units {A : Around} {C : Addr} {us : List Value} {kw : List (Str × Value)} : (A.under (.builtin "type.__call__" ⟨.ref C :: us, kw⟩)).units = A.units + 1 := by
  first | rfl | simp [Around.under, Code.cUnits, Code.frames, Code.isFrame]
theorem Room.make {k : Nat} {A : Around} (r : Room (k + 1) A) (C : Addr) (us : List Value) (kw : List (Str × Value)) : Room k (A.under (.builtin "type.__call__" ⟨.ref C :: us, kw⟩)) :=
  ⟨r.hd, by have := r.dp; rw [make_depth]; omega, by have := r.un; rw [make_units]; omega⟩
theorem Room.depth {k : Nat} {A : Around} (r : Room k A) : A.depth < recursionLimit := by have := r.dp; omega
theorem Room.units {k : Nat} {A : Around} (r : Room k A) : A.units + 64 < cLine := by have := r.un; omega
theorem Room.units0 {k : Nat} {A : Around} (r : Room k A) : A.units < cLine := by have := r.un; omega

/-! ### argument lists and displays -/
def tNil : TA := fun _ H Q => Q [] H
def tCons (ta : TE) (tr : TA) : TA := fun σ H Q => ta σ H fun x H1 => tr σ H1 fun xs H2 => Q (x :: xs) H2
section
variable {X : Cx} {e : Expr} {es : List Expr} {te : TE} {t : TA} {pos : Pos}
theorem pa_nil : PA X [] tNil := fun _ _ _ _ H Q I h => Calls.spliced_nil ⟨[], H, I, .nil, h⟩
theorem pa_cons (ha : PE X e te) (hr : PA X es t) (hs : starEach (e :: es) X.env = (false, eval e X.env) :: starEach es X.env := by rfl) : PA X (e :: es) (tCons te t) := by
  intro pos pins s σ H Q I h
  rw [hs]
  show wpAny _ _ (spliced ((false, eval e X.env) :: backTo pos (starEach es X.env))) _ _ s
  refine Calls.spliced_cons (thn (ha pins s σ H _ I h) fun u s1 ⟨x, H1, I1, r1, q1⟩ => ?_)
  exact thn (hr pos pins s1 σ H1 _ I1 q1) fun us s2 ⟨xs, H2, I2, r2, q2⟩ => ⟨x :: xs, H2, I2, .cons r1 r2, q2⟩

/-- a tuple, a list of written items -/
def tTup (t : TA) : TE := fun σ H Q => t σ H fun xs H1 => xs.length ≤ sizeLine ∧ ∀ p, H1 p = none → Q (.ref p) (upd H1 p (.tup xs))
def tLst (t : TA) : TE := fun σ H Q => t σ H fun xs H1 => xs.length ≤ sizeLine ∧ ∀ p, H1 p = none → Q (.ref p) (upd H1 p (.lst xs))
theorem pe_tup {x1} (h : PA X es t) : PE X (.Tuple es x1 pos) (tTup t) := by
  intro pins s σ H Q I hq
  refine wpAny_Tuple_spliced (thn (h pos pins s σ H _ I hq) fun us s1 ⟨xs, H1, I1, r, z, q⟩ => ⟨by rw [← r.length]; exact z, ?_⟩)
  have hf : H1 s1.heap.objs.size = none := I1.hok.fresh (Nat.le_refl _)
  refine ⟨.ref s1.heap.objs.size, upd H1 s1.heap.objs.size (.tup xs), I1.laid (t' := s1.toks) (fun b u e => Heap.get?_push_of_some _ e) (Nat.le_refl _) ?_, rfl, q _ hf⟩
  exact ⟨z, us, r, ⟨_, Heap.get?_push_size _ rfl, rfl, _, rfl⟩⟩
theorem pe_lst (h : PA X es t) : PE X (.List es pos) (tLst t) := by
  intro pins s σ H Q I hq
  refine wpAny_List_spliced (thn (h pos pins s σ H _ I hq) fun us s1 ⟨xs, H1, I1, r, z, q⟩ => ⟨by rw [← r.length]; exact z, ?_⟩)
  have hf : H1 s1.heap.objs.size = none := I1.hok.fresh (Nat.le_refl _)
  refine ⟨.ref s1.heap.objs.size, upd H1 s1.heap.objs.size (.lst xs), I1.laid (t' := s1.toks) (fun b u e => Heap.get?_push_of_some _ e) (Nat.le_refl _) ?_, rfl, q _ hf⟩
  exact ⟨z, us, 0, r, Heap.get?_push_size _ rfl⟩
end

/-! ### what a def promises -/
/-- a def's promise: the bound arguments in the parameters' order, the heap, the wanted end, the wanted exception -/
abbrev Sp := List V → Hp → VK → XK → Prop
/-- how an exception lies behind a call (file 08 gives it): the callers' frames, abstract heap and state ahead of the call, the wish, the exception, the state -/
abbrev CXT := List Env → Hp → Shared → XK → Value → Shared → Prop

/-- the state at a call -/
structure Env0 (P : Program) (w : World) (K : PySem.W.Frag) (mg : Str → Option Value) (base : Heap) (A : Around) (outer : List Env) (s : Shared) (H : Hp) : Prop where
  frames : A.frames = some outer
  mod : Mod K mg base
  bs : ∀ b o, base.get? b = some o → s.heap.get? b = some o ∧ H b = none
  bsz : base.objs.size ≤ s.heap.objs.size
  funs : s.heap.FunFrames base outer
  frf : ∀ b ∈ frs outer, H b = none
  hok : HOk P w H s.heap
  bare : AllBare s.gens
/-- a call's end -/
def CE (outer : List Env) (P : Program) (w : World) (H : Hp) (s : Shared) (Q : VK) (u : Value) (s' : Shared) : Prop :=
  ∃ v H', s'.os = s.os ∧ AllBare s'.gens ∧ Un (frs outer) [] H H' s.heap s'.heap ∧ HOk P w H' s'.heap ∧ RelV v u ∧ Q v H'
def CR (CX : CXT) (outer : List Env) (P : Program) (w : World) (H : Hp) (s : Shared) (Q : VK) (E : XK) (r : Result) (s' : Shared) : Prop :=
  match r with
  | .ok (.ret u) => CE outer P w H s Q u s'
  | .ok _ => False
  | .error e => CX outer H s E e s'
structure FnOk (P : Program) (w : World) (K : PySem.W.Frag) (mg : Str → Option Value) (base : Heap) (CX : CXT) (k : Nat) (f : Addr) (fd : FuncData) (ps : List Str) (sp : Sp) : Prop where
  len : ∀ vs H Q E, sp vs H Q E → vs.length = ps.length
  run : ∀ (A : Around) (outer : List Env) (s : Shared) (H : Hp) (args : Args) (us : List Value) (vs : List V) (Q : VK) (E : XK), Room k A → Env0 P w K mg base A outer s H → BindsTo s fd args (ps.zip us) → Vals vs us → sp vs H Q E →
    codeAny (model P w) A (.call (.ref f) args) (CR CX outer P w H s Q E) s
theorem FnOk.mono {P : Program} {w : World} {K : PySem.W.Frag} {mg : Str → Option Value} {base : Heap} {CX : CXT} {j k : Nat} {f : Addr} {fd : FuncData} {ps : List Str} {sp : Sp} (F : FnOk P w K mg base CX j f fd ps sp) (h : j ≤ k) :
    FnOk P w K mg base CX k f fd ps sp := ⟨F.len, fun A outer s H args us vs Q E hr => F.run A outer s H args us vs Q E (hr.mono h)⟩
/-- a weaker promise -/
theorem FnOk.imp {P : Program} {w : World} {K : PySem.W.Frag} {mg : Str → Option Value} {base : Heap} {CX : CXT} {k : Nat} {f : Addr} {fd : FuncData} {ps : List Str} {sp sp' : Sp} (F : FnOk P w K mg base CX k f fd ps sp)
    (h : ∀ vs H Q E, sp' vs H Q E → sp vs H Q E) : FnOk P w K mg base CX k f fd ps sp' :=
  ⟨fun vs H Q E q => F.len vs H Q E (h _ _ _ _ q), fun A outer s H args us vs Q E hr he hb hv hs => F.run A outer s H args us vs Q E hr he hb hv (h _ _ _ _ hs)⟩

theorem Env0.make {P : Program} {w : World} {K : PySem.W.Frag} {mg : Str → Option Value} {base : Heap} {A : Around} {outer : List Env} {s : Shared} {H : Hp} (e : Env0 P w K mg base A outer s H) (C : Addr) (us : List Value) (kw : List (Str × Value)) :
    Env0 P w K mg base (A.under (.builtin "type.__call__" ⟨.ref C :: us, kw⟩)) outer s H := ⟨by first | exact e.frames | (simpa [Around.under, Code.envs, Code.isFrame, pushEnvs] using e.frames), e.mod, e.bs, e.bsz, e.funs, e.frf, e.hok, e.bare⟩
theorem Env0.in1 {P : Program} {w : World} {K : PySem.W.Frag} {mg : Str → Option Value} {base : Heap} {A : Around} {outer : List Env} {s : Shared} {H : Hp} (e : Env0 P w K mg base A outer s H) :
    Env0 P w K mg base A.in1 outer s H := ⟨e.frames, e.mod, e.bs, e.bsz, e.funs, e.frf, e.hok, e.bare⟩

section
variable {X : Cx} {pins : List (Addr × Obj)} {σ : St} {H : Hp} {s s' : Shared}
/-- from a body: what a callee wants -/
theorem Inv.env0 (I : Inv X pins σ H s) : Env0 X.prog X.w X.K X.mg X.base X.A X.stack s H :=
  ⟨I.ok.frames, I.ok.mod, I.bs, Nat.le_trans I.ok.bsz I.sz, I.stack, I.stkFree, I.hok, I.bare⟩
/-- behind a call -/
theorem Inv.after {Q : VK} {u : Value} (I : Inv X pins σ H s) (h : CE X.stack X.prog X.w H s Q u s') : EP X pins σ Q u s' := by
  obtain ⟨v, H', os, bare, un, hok, r, q⟩ := h
  obtain ⟨hh, g, d, t, os'⟩ := s'
  obtain rfl : os' = s.os := os
  exact ⟨v, H', I.call (h' := hh) (g' := g) (d' := d) (t' := t) (ch := []) un hok bare (fun b z => absurd z (by simp)), r, q⟩
end

/-! ### calls -/
/-- f(..): the written arguments, then the defaults dvs; E: what is wanted of an exception -/
def tCall (sp : Sp) (dvs : List V) (E : XK) (t : TA) : TE := fun σ H Q => t σ H fun vs H1 => sp (vs ++ dvs) H1 Q E
/-- o.m(..) of an instance of the class at C -/
def tMeth (C : Addr) (m : Str) (sp : Sp) (dvs : List V) (E : XK) (ta : TE) (t : TA) : TE := fun σ H Q => ta σ H fun x H1 => ∃ a dx fs, x = .ref a ∧ H1 a = some (.ins C dx fs) ∧ fs.lookup m = none ∧
  t σ H1 fun vs H2 => sp (x :: (vs ++ dvs)) H2 Q E
/-- C(..): a new instance and its dict, then __init__ -/
def tMake (C : Addr) (sp : Sp) (dvs : List V) (E : XK) (t : TA) : TE := fun σ H Q => t σ H fun vs H1 => ∀ x dx, H1 x = none → H1 dx = none → dx ≠ x →
  sp (.ref x :: (vs ++ dvs)) (upd (upd H1 dx (.own x)) x (.ins C dx [])) (fun v H2 => v = .non ∧ Q (.ref x) H2) E

/-- how the parameters are bound: us the positional arguments, kw the keywords' values by name, ds the defaults that fill up -/
def Binds (K : PySem.W.Frag) (fd : FuncData) (ps : List Str) (ds : List Value) : Prop :=
  ∀ (s : Shared) (us : List Value), K.In s.heap → (us ++ ds).length = ps.length → BindsTo s fd ⟨us, []⟩ (ps.zip (us ++ ds))
/-- every parameter is given -/
theorem Binds.all {K : PySem.W.Frag} {fd : FuncData} {ps : List Str} (h : ∀ us : List Value, us.length = ps.length → bindArgs fd ⟨us, []⟩ = pure (ps.zip us)) : Binds K fd ps [] := fun s us _ hl => by
  rw [List.append_nil] at hl ⊢
  exact .of_eq (h us hl)

/-- an exception of a callee reaches what this body wants of exceptions -/
def Passes (CX : CXT) (X : Cx) (E : XK) : Prop := ∀ (pins : List (Addr × Obj)) (σ : St) (H : Hp) (s : Shared) (e : Value) (s' : Shared), Inv X pins σ H s → CX X.stack H s E e s' → X.xe e s'

section
variable {X : Cx} {CX : CXT} {k : Nat} {f C : Addr} {fd : FuncData} {ps : List Str} {sp : Sp} {dvs : List V} {ds : List Value} {E : XK} {x m : Str} {p pos apos : Pos} {e o : Expr} {es : List Expr} {ta : TE} {t : TA}

/-- the callee runs -/
theorem run_fn {pins : List (Addr × Obj)} {σ : St} {H : Hp} {s : Shared} {Q : VK} {us : List Value} {vs : List V} (F : FnOk X.prog X.w X.K X.mg X.base CX k f fd ps sp) (hr : Room k X.A) (hb : Binds X.K fd ps ds) (hd : Vals dvs ds) (hx : Passes CX X E)
    (I : Inv X pins σ H s) (r : Vals vs us) (h : sp (vs ++ dvs) H Q E) : wpAny (model X.prog X.w) X.A (call (.ref f) us) (EP X pins σ Q) X.xe s := by
  have r2 : Vals (vs ++ dvs) (us ++ ds) := r.append hd
  have hl : (us ++ ds).length = ps.length := by rw [← r2.length]; exact F.len _ _ _ _ h
  refine wpAny_call (codeAny_mono (F.run X.A X.stack s H ⟨us, []⟩ (us ++ ds) (vs ++ dvs) Q E hr I.env0 (hb s us I.kIn hl) r2 h) fun r s' hq => ?_)
  cases r with
  | error e => exact hx pins σ H s e s' I hq
  | ok fl =>
    cases fl with
    | ret u => exact I.after hq
    | next => exact False.elim hq
    | brk => exact False.elim hq
    | cont => exact False.elim hq

theorem pe_call (F : FnOk X.prog X.w X.K X.mg X.base CX k f fd ps sp) (hr : Room k X.A) (hg : Gl X x) (hm : X.mg x = some (.ref f)) (hk : PySem.W.keepIn X.K (.ref f) = true) (hb : Binds X.K fd ps ds) (hd : Vals dvs ds) (hx : Passes CX X E)
    (ha : PA X (e :: es) t) (hdb : (x == ("__debug__" : Str)) = false := by decide) (he : starEach (e :: es) X.env = (false, eval e X.env) :: starEach es X.env := by rfl) (hpl : (backTo pos (starEach es X.env)).any (·.1) = false := by rfl) :
    PE X (.Call (.Name x p) (e :: es) [] pos) (tCall sp dvs E t) := by
  intro pins s σ H Q I h
  refine wpAny_Call_Name_kw (ld_glob I hg hm ?_ hdb)
  refine PySem.W.callWith_K (h₀ := X.base) I.ok.mod.kin hk (thn (ha pos pins s σ H _ I h) fun us s1 ⟨vs, H1, I1, r, q⟩ => ⟨I1.kIn, ?_⟩) he hpl
  exact run_fn F hr hb hd hx I1 r q
theorem pe_call0 (F : FnOk X.prog X.w X.K X.mg X.base CX k f fd ps sp) (hr : Room k X.A) (hg : Gl X x) (hm : X.mg x = some (.ref f)) (hk : PySem.W.keepIn X.K (.ref f) = true) (hb : Binds X.K fd ps ds) (hd : Vals dvs ds) (hx : Passes CX X E)
    (hdb : (x == ("__debug__" : Str)) = false := by decide) : PE X (.Call (.Name x p) [] [] pos) (tCall sp dvs E tNil) := by
  intro pins s σ H Q I h
  refine wpAny_Call_Name_kw (ld_glob I hg hm ?_ hdb)
  exact PySem.W.callWith_K0 I.kIn hk (run_fn (us := []) F hr hb hd hx I .nil h)

/-- o.m(e, ..) -/
theorem pe_meth {pl : Sem Bool} (he : PE X o ta) (c : Cls X.K C) (hm : Meth X.K C m f) (F : FnOk X.prog X.w X.K X.mg X.base CX k f fd ps sp) (hr : Room k X.A) (hb : Binds X.K fd ps ds) (hd : Vals dvs ds) (hx : Passes CX X E) (ha : PA X (e :: es) t)
    (hst : starEach (e :: es) X.env = (false, eval e X.env) :: starEach es X.env := by rfl) (hpl : (backTo pos (starEach es X.env)).any (·.1) = false := by rfl)
    (ht : eval (.Call (.Attribute o m apos) (e :: es) [] pos) X.env = (do
      let ov ← eval o X.env
      standAt apos.atName
      let (f, first) ← holding [ov] (getMethod ov m pl)
      callWith pos f first (backTo pos (starEach (e :: es) X.env)) (backToKw pos (keywordEach [] X.env))) := by rfl) :
    PE X (.Call (.Attribute o m apos) (e :: es) [] pos) (tMeth C m sp dvs E ta t) := by
  intro pins s σ H Q I h
  refine PySem.W.methodCall_KW (pl := pl) (thn (he pins s σ H _ I h) fun u s1 ⟨x, H1, I1, rx, a, dx, fs, ex, ea, l, q⟩ => ?_) ht
  subst ex
  obtain rfl : u = Value.ref a := rx
  refine getmeth_ok I1 ea c hm l ?_
  refine PySem.W.callWith_K (first := [.ref a]) (h₀ := X.base) I.ok.mod.kin hm.kp (thn (ha pos pins s1 σ H1 _ I1 q) fun us s2 ⟨vs, H2, I2, r, q2⟩ => ⟨I2.kIn, ?_⟩) hst hpl
  exact run_fn (us := .ref a :: us) (vs := .ref a :: vs) F hr hb hd hx I2 (.cons rfl r) q2
/-- o.m() -/
theorem pe_meth0 {pl : Sem Bool} (he : PE X o ta) (c : Cls X.K C) (hm : Meth X.K C m f) (F : FnOk X.prog X.w X.K X.mg X.base CX k f fd ps sp) (hr : Room k X.A) (hb : Binds X.K fd ps ds) (hd : Vals dvs ds) (hx : Passes CX X E)
    (ht : eval (.Call (.Attribute o m apos) [] [] pos) X.env = (do
      let ov ← eval o X.env
      standAt apos.atName
      let (f, first) ← holding [ov] (getMethod ov m pl)
      callWith pos f first (backTo pos (starEach [] X.env)) (backToKw pos (keywordEach [] X.env))) := by rfl) :
    PE X (.Call (.Attribute o m apos) [] [] pos) (tMeth C m sp dvs E ta tNil) := by
  intro pins s σ H Q I h
  refine PySem.W.methodCall_KW (pl := pl) (thn (he pins s σ H _ I h) fun u s1 ⟨x, H1, I1, rx, a, dx, fs, ex, ea, l, q⟩ => ?_) ht
  subst ex
  obtain rfl : u = Value.ref a := rx
  refine getmeth_ok I1 ea c hm l ?_
  exact PySem.W.callWith_K0 (first := [.ref a]) I1.kIn hm.kp (run_fn (us := [.ref a]) (vs := [.ref a]) F hr hb hd hx I1 (.cons rfl .nil) q)

/-- what a class must have to be made -/
structure Mk (K : PySem.W.Frag) (C f : Addr) : Prop where
  makes : PySem.W.makesIn K C = true
  init : PySem.W.findIn K (.ref C) "__init__" = some (some (.ref f))
  fn : PySem.W.isFn K (.ref f) = true
  kp : PySem.W.keepIn K (.ref C) = true

theorem run_make {pins : List (Addr × Obj)} {σ : St} {H : Hp} {s : Shared} {Q : VK} {us : List Value} {vs : List V} (M : Mk X.K C f) (F : FnOk X.prog X.w X.K X.mg X.base CX k f fd ps sp) (hr : Room (k + 1) X.A) (hb : Binds X.K fd ps ds) (hd : Vals dvs ds)
    (hx : Passes CX X E) (I : Inv X pins σ H s) (r : Vals vs us)
    (h : ∀ x dx, H x = none → H dx = none → dx ≠ x → sp (.ref x :: (vs ++ dvs)) (upd (upd H dx (.own x)) x (.ins C dx [])) (fun v H2 => v = .non ∧ Q (.ref x) H2) E) :
    wpAny (model X.prog X.w) X.A (call (.ref C) us) (EP X pins σ Q) X.xe s := by
  have hq := h (s.heap.objs.size + 1) s.heap.objs.size (I.hok.fresh (Nat.le_succ _)) (I.hok.fresh (Nat.le_refl _)) (Nat.ne_of_lt (Nat.lt_succ_self _))
  have I2 := Inv.made (C := C) I
  have r2 : Vals (V.ref (s.heap.objs.size + 1) :: (vs ++ dvs)) (Value.ref (s.heap.objs.size + 1) :: (us ++ ds)) := .cons rfl (r.append hd)
  have hl : (Value.ref (s.heap.objs.size + 1) :: us ++ ds).length = ps.length := by
    have e := r2.length
    rw [F.len _ _ _ _ hq] at e
    exact e.symm
  refine wpAny_call (make_map (f := f) I.kIn M.makes M.init (beq_iff_eq.mp M.fn) (codeAny_mono (F.run _ X.stack _ _ ⟨Value.ref (s.heap.objs.size + 1) :: us, []⟩ (Value.ref (s.heap.objs.size + 1) :: (us ++ ds)) _ _ E (hr.make C us [])
    (I2.env0.make C us []) (hb _ (Value.ref (s.heap.objs.size + 1) :: us) I2.kIn hl) r2 hq) fun r s' hq' => ?_))
  cases r with
  | error e => exact hx pins σ _ _ e s' I2 hq'
  | ok fl =>
    cases fl with
    | ret u =>
      obtain ⟨v, H', I3, rv, ev, q3⟩ := I2.after hq'
      subst ev
      exact ⟨rv, ⟨V.ref (s.heap.objs.size + 1), H', I3, rfl, q3⟩⟩
    | next => exact False.elim hq'
    | brk => exact False.elim hq'
    | cont => exact False.elim hq'
theorem pe_make (M : Mk X.K C f) (F : FnOk X.prog X.w X.K X.mg X.base CX k f fd ps sp) (hr : Room (k + 1) X.A) (hg : Gl X x) (hm : X.mg x = some (.ref C)) (hb : Binds X.K fd ps ds) (hd : Vals dvs ds) (hx : Passes CX X E)
    (ha : PA X (e :: es) t) (hdb : (x == ("__debug__" : Str)) = false := by decide) (he : starEach (e :: es) X.env = (false, eval e X.env) :: starEach es X.env := by rfl) (hpl : (backTo pos (starEach es X.env)).any (·.1) = false := by rfl) :
    PE X (.Call (.Name x p) (e :: es) [] pos) (tMake C sp dvs E t) := by
  intro pins s σ H Q I h
  refine wpAny_Call_Name_kw (ld_glob I hg hm ?_ hdb)
  refine PySem.W.callWith_K (h₀ := X.base) I.ok.mod.kin M.kp (thn (ha pos pins s σ H _ I h) fun us s1 ⟨vs, H1, I1, r, q⟩ => ⟨I1.kIn, ?_⟩) he hpl
  exact run_make M F hr hb hd hx I1 r q
theorem pe_make0 (M : Mk X.K C f) (F : FnOk X.prog X.w X.K X.mg X.base CX k f fd ps sp) (hr : Room (k + 1) X.A) (hg : Gl X x) (hm : X.mg x = some (.ref C)) (hb : Binds X.K fd ps ds) (hd : Vals dvs ds) (hx : Passes CX X E)
    (hdb : (x == ("__debug__" : Str)) = false := by decide) : PE X (.Call (.Name x p) [] [] pos) (tMake C sp dvs E tNil) := by
  intro pins s σ H Q I h
  refine wpAny_Call_Name_kw (ld_glob I hg hm ?_ hdb)
  exact PySem.W.callWith_K0 I.kIn M.kp (run_make (us := []) M F hr hb hd hx I .nil h)
end

/-! ### keywords -/
/-- the values of the keywords, from the left -/
def PK (X : Cx) (kws : List Keyword) (t : TA) : Prop :=
  ∀ (pos : Pos) (pins : List (Addr × Obj)) (s : Shared) (σ : St) (H : Hp) (Q : List V → Hp → Prop), Inv X pins σ H s → t σ H Q → wpAny (model X.prog X.w) X.A (evalAll ((backToKw pos (keywordEach kws X.env)).map (·.2))) (AP X pins σ Q) X.xe s
section
variable {X : Cx} {CX : CXT} {k : Nat} {f C : Addr} {fd : FuncData} {ps ks : List Str} {sp : Sp} {E : XK} {x m : Str} {p pos apos kpos : Pos} {e o : Expr} {es : List Expr} {kws : List Keyword} {te ta : TE} {t tk : TA} {nm : Option Str}
theorem pk_nil : PK X [] tNil := fun _ _ _ _ H Q I h => wpAny_evalAll_nil ⟨[], H, I, .nil, h⟩
theorem pk_cons (ha : PE X e te) (hr : PK X kws t) : PK X (⟨nm, e, kpos⟩ :: kws) (tCons te t) := by
  intro pos pins s σ H Q I h
  show wpAny _ _ (evalAll ((do let v ← eval e X.env; standAt pos; pure v) :: (backToKw pos (keywordEach kws X.env)).map (·.2))) _ _ s
  refine wpAny_evalAll_cons (wpAny_bind (thn (ha pins s σ H _ I h) fun u s1 ⟨x, H1, I1, r1, q1⟩ => wpAny_bind (wpAny_standAt (wpAny_pure ?_))))
  exact thn (hr pos pins s1 σ H1 _ I1 q1) fun us s2 ⟨xs, H2, I2, r2, q2⟩ => ⟨x :: xs, H2, I2, .cons r1 r2, q2⟩

/-- how a call with keywords binds: g puts the positional values us and the keywords' values ws (names ks) in the parameters' order, defaults among them -/
structure KBinds (K : PySem.W.Frag) (fd : FuncData) (ps ks : List Str) (g : List Value → List Value → List Value) (gV : List V → List V → List V) : Prop where
  to : ∀ (s : Shared) (us ws : List Value), K.In s.heap → (g us ws).length = ps.length → BindsTo s fd ⟨us, ks.zip ws⟩ (ps.zip (g us ws))
  rel : ∀ {vs : List V} {us : List Value} {zs : List V} {ws : List Value}, Vals vs us → Vals zs ws → Vals (gV vs zs) (g us ws)
def tCallK (sp : Sp) (gV : List V → List V → List V) (E : XK) (t tk : TA) : TE := fun σ H Q => t σ H fun vs H1 => tk σ H1 fun zs H2 => sp (gV vs zs) H2 Q E
variable {g : List Value → List Value → List Value} {gV : List V → List V → List V}
theorem run_fnk {pins : List (Addr × Obj)} {σ : St} {H : Hp} {s : Shared} {Q : VK} {us ws : List Value} {vs zs : List V} (F : FnOk X.prog X.w X.K X.mg X.base CX k f fd ps sp) (hr : Room k X.A) (hb : KBinds X.K fd ps ks g gV) (hx : Passes CX X E)
    (I : Inv X pins σ H s) (r : Vals vs us) (rz : Vals zs ws) (h : sp (gV vs zs) H Q E) : wpAny (model X.prog X.w) X.A (call (.ref f) us (ks.zip ws)) (EP X pins σ Q) X.xe s := by
  have r2 := hb.rel r rz
  have hl : (g us ws).length = ps.length := by rw [← r2.length]; exact F.len _ _ _ _ h
  refine wpAny_call (codeAny_mono (F.run X.A X.stack s H ⟨us, ks.zip ws⟩ (g us ws) (gV vs zs) Q E hr I.env0 (hb.to s us ws I.kIn hl) r2 h) fun r s' hq => ?_)
  cases r with
  | error e => exact hx pins σ H s e s' I hq
  | ok fl =>
    cases fl with
    | ret u => exact I.after hq
    | next => exact False.elim hq
    | brk => exact False.elim hq
    | cont => exact False.elim hq
/-- f(e, .., k = v, ..) -/
theorem pe_callK (F : FnOk X.prog X.w X.K X.mg X.base CX k f fd ps sp) (hr : Room k X.A) (hg : Gl X x) (hm : X.mg x = some (.ref f)) (hk : PySem.W.keepIn X.K (.ref f) = true) (hb : KBinds X.K fd ps ks g gV) (hx : Passes CX X E)
    (ha : PA X (e :: es) t) (hkw : PK X kws tk) (hall : (backToKw pos (keywordEach kws X.env)).all (·.1.isSome) = true := by rfl) (hks : (backToKw pos (keywordEach kws X.env)).filterMap (·.1) = ks := by rfl)
    (hdb : (x == ("__debug__" : Str)) = false := by decide) (he : starEach (e :: es) X.env = (false, eval e X.env) :: starEach es X.env := by rfl)
    (hpl : ((backTo pos (starEach (e :: es) X.env)).any (·.1) || (backToKw pos (keywordEach kws X.env)).any (·.1.isNone)) = false := by rfl) :
    PE X (.Call (.Name x p) (e :: es) kws pos) (tCallK sp gV E t tk) := by
  intro pins s σ H Q I h
  refine wpAny_Call_Name_kw (ld_glob I hg hm ?_ hdb)
  refine PySem.W.callWith_KW (h₀ := X.base) I.ok.mod.kin hk hall (thn (ha pos pins s σ H _ I h) fun us s1 ⟨vs, H1, I1, r, q⟩ => ?_) hpl he
  refine thn (hkw pos pins s1 σ H1 _ I1 q) fun ws s2 ⟨zs, H2, I2, rz, q2⟩ => ⟨I2.kIn, ?_⟩
  rw [hks]
  exact run_fnk F hr hb hx I2 r rz q2
end

/-! ### a def's body keeps its promise -/
/-- names: the parameters first -/
structure FnScope (N P : List Str) (sc : Scope) : Prop where
  kind : sc.kind = .function
  co : sc.isCoroutine = false
  gen : sc.isGenerator = false
  nd : N.Nodup
  pre : N.take P.length = P
  par : ∀ x ∈ P, sc.names.lookup x = some .local ∨ sc.names.lookup x = some .cell
  nofree : ∀ y ∈ sc.names, y.2 ≠ .free

theorem bindL_out {kindOf : Str → Option NameKind} {x : Str} : ∀ {binds : List (Str × Value)} {m : Str → Option Value}, (∀ v, (x, v) ∉ binds) → bindL kindOf binds m x = m x
  | [], _, _ => rfl
  | (n, v) :: r, m, h => by
    unfold bindL
    rw [bindL_out fun w hw => h w (List.mem_cons_of_mem _ hw)]
    split
    · have : x ≠ n := by rintro rfl; exact h v List.mem_cons_self
      simp [this]
    · rfl
theorem bindC_out {kindOf : Str → Option NameKind} {x : Str} : ∀ {binds : List (Str × Value)} {m : Str → Option Value}, (∀ v, (x, v) ∉ binds) → bindC kindOf binds m x = m x
  | [], _, _ => rfl
  | (n, v) :: r, m, h => by
    unfold bindC
    rw [bindC_out fun w hw => h w (List.mem_cons_of_mem _ hw)]
    split
    · rfl
    · have : x ≠ n := by rintro rfl; exact h v List.mem_cons_self
      simp [this]
theorem bindL_get {kindOf : Str → Option NameKind} {x : Str} {v : Value} : ∀ {P : List Str} {vs : List Value} {i : Nat} {m : Str → Option Value}, P.Nodup → P[i]? = some x → vs[i]? = some v → kindOf x = some .local →
    bindL kindOf (P.zip vs) m x = some v
  | [], _, _, _, _, h, _, _ => by simp at h
  | _ :: _, [], _, _, _, _, h, _ => by simp at h
  | p :: P, w :: vs, 0, m, nd, h1, h2, hk => by
    simp at h1 h2; subst h1; subst h2
    show bindL kindOf ((p, w) :: P.zip vs) m p = _
    unfold bindL
    rw [bindL_out fun v hv => (List.nodup_cons.mp nd).1 (List.of_mem_zip hv).1, if_pos hk]
    simp
  | p :: P, w :: vs, i + 1, m, nd, h1, h2, hk => by
    show bindL kindOf ((p, w) :: P.zip vs) m x = _
    unfold bindL
    exact bindL_get (i := i) (List.nodup_cons.mp nd).2 (by simpa using h1) (by simpa using h2) hk
theorem bindC_get {kindOf : Str → Option NameKind} {x : Str} {v : Value} : ∀ {P : List Str} {vs : List Value} {i : Nat} {m : Str → Option Value}, P.Nodup → P[i]? = some x → vs[i]? = some v → kindOf x ≠ some .local →
    bindC kindOf (P.zip vs) m x = some v
  | [], _, _, _, _, h, _, _ => by simp at h
  | _ :: _, [], _, _, _, _, h, _ => by simp at h
  | p :: P, w :: vs, 0, m, nd, h1, h2, hk => by
    simp at h1 h2; subst h1; subst h2
    show bindC kindOf ((p, w) :: P.zip vs) m p = _
    unfold bindC
    rw [bindC_out fun v hv => (List.nodup_cons.mp nd).1 (List.of_mem_zip hv).1, if_neg hk]
    simp
  | p :: P, w :: vs, i + 1, m, nd, h1, h2, hk => by
    show bindC kindOf ((p, w) :: P.zip vs) m x = _
    unfold bindC
    exact bindC_get (i := i) (List.nodup_cons.mp nd).2 (by simpa using h1) (by simpa using h2) hk

/-- the names' values at the entry -/
def start (N : List Str) (vs : List V) : St := vs.map some ++ List.replicate (N.length - vs.length) none

/-- the context of a def's body, at its entry; an exception leaves the frame, then lies as CX says -/
def cxOf (CX : CXT) (P : Program) (w : World) (K : PySem.W.Frag) (mg : Str → Option Value) (base : Heap) (N : List Str) (qual : Str) (scope : Scope) (f : Addr) (cd : Value) (A : Around) (outer : List Env) (s : Shared) (H : Hp) (E : XK) : Cx where
  prog := P
  w := w
  K := K
  mg := mg
  base := base
  A := A.deeper (envOfC qual scope s.heap.objs.size f cd)
  N := N
  s₀ := s
  H₀ := H
  env := envOfC qual scope s.heap.objs.size f cd
  outer := outer
  stack := envOfC qual scope s.heap.objs.size f cd :: outer
  ex := []
  calm := true
  fn := fun _ => true
  pn := []
  xe := fun e s' => wpAny (model P w) (A.deeper (envOfC qual scope s.heap.objs.size f cd)) (leaving (envOfC qual scope s.heap.objs.size f cd) e) (fun _ s'' => CX outer H s E e s'') (fun e' s'' => CX outer H s E e' s'') s'

theorem cell_has {sc : Scope} {n : Nat} {x : Str} (h : sc.names.lookup x = some .cell) : ∃ c, (cellsFrom n sc.names []).lookup x = some c := by
  have q := PySem.W.cellsFrom_some sc.names n [] (.inl h)
  exact Option.isSome_iff_exists.mp q

theorem inv_start {CX : CXT} {P : Program} {w : World} {K : PySem.W.Frag} {mg : Str → Option Value} {base : Heap} {N ps : List Str} {qual : Str} {scope : Scope} {f : Addr} {cd : Value} {A : Around} {outer : List Env} {s s1 : Shared} {H : Hp} {E : XK} {us : List Value} {vs : List V}
    (S : FnScope N ps scope) (hd : A.handled = none) (e0 : Env0 P w K mg base A outer s H) (hl : vs.length = ps.length) (r : Vals vs us)
    (x : InCallC s s.heap.objs.size (bindL (envOfC qual scope s.heap.objs.size f cd).kindOf (ps.zip us) fun _ => none) (cellsFrom (s.heap.objs.size + 1) scope.names []) (bindC (envOfC qual scope s.heap.objs.size f cd).kindOf (ps.zip us) fun _ => none) s1) :
    Inv (cxOf CX P w K mg base N qual scope f cd A outer s H E) [] (start N vs) H s1 := by
  have hpl : ps.length ≤ N.length := by have := congrArg List.length S.pre; rw [List.length_take] at this; omega
  obtain ⟨h1, tk, rfl, hk⟩ := x.done
  have noA : ∀ b : Addr, b ∉ (cxOf CX P w K mg base N qual scope f cd A outer s H E).ex := fun b z => absurd (show b ∈ ([] : List Addr) from z) (by simp)
  refine ⟨⟨e0.mod, S.kind, rfl, rfl, Nat.le_refl _, fun y z c h1 h2 => ?_, fun y hy => ?_, fun y c _ h => ?_, fun _ => hd, Around.frames_deeper e0.frames, .inr ⟨rfl, rfl⟩, fun b z => absurd z (noA b), e0.bs, e0.bsz, fun b _ _ => noA b, fun b z => absurd z (noA b), e0.funs, e0.frf⟩,
    rfl, e0.bare, Un.kept hk, ⟨_, x.toInCall.ns, fun i y v h1 h2 h3 => ?_⟩, fun y c h => ⟨_, x.cell y c h⟩, e0.hok.fresh (Nat.le_refl _), fun y c h => ?_, fun p hp => absurd (show p ∈ ([] : List (Addr × Obj)) from hp) (by simp), e0.hok.kept hk, ?_⟩
  · exact name_of_addr x.apart (PySem.mem_of_lookup h1) (PySem.mem_of_lookup h2)
  · have hy : scope.names.lookup y = some .cell ∨ scope.names.lookup y = some .free := hy
    rcases hy with hy | hy
    · exact cell_has hy
    · exact absurd rfl (S.nofree _ (PySem.mem_of_lookup hy))
  · exact Nat.le_of_lt (x.above y c (PySem.mem_of_lookup h))
  · have hi : i < vs.length := by
      unfold start at h2
      by_cases hi : i < vs.length
      · exact hi
      · rw [List.getElem?_append_right (by simpa using hi)] at h2
        rw [List.getElem?_replicate] at h2
        split at h2 <;> cases h2
    have ha : vs[i]? = some v := by
      unfold start at h2
      rw [List.getElem?_append_left (by simpa using hi), List.getElem?_map] at h2
      cases e : vs[i]? with
      | none => rw [e] at h2; cases h2
      | some a => rw [e] at h2; cases h2; rfl
    obtain ⟨u, hu, rv⟩ := r.get ha
    have hp : ps[i]? = some y := by
      rw [← S.pre, List.getElem?_take_of_lt (by omega)]; exact h1
    have ndP : ps.Nodup := by rw [← S.pre]; exact S.nd.sublist (List.take_sublist _ _)
    refine ⟨u, rv, ?_⟩
    rcases S.par y (List.mem_of_getElem? hp) with k | k
    · exact .inl ⟨k, bindL_get ndP hp hu k⟩
    · obtain ⟨c, e⟩ := cell_has (n := s.heap.objs.size + 1) k
      refine .inr ⟨.inl k, c, e, ?_⟩
      have q := x.cell y c e
      rw [bindC_get ndP hp hu (by show scope.names.lookup y ≠ _; rw [k]; decide)] at q
      exact q
  · exact e0.hok.fresh (Nat.le_of_lt (x.above y c (PySem.mem_of_lookup h)))
  · unfold start
    show _ = N.length
    rw [List.length_append, List.length_map, List.length_replicate]
    omega

/-- THE RULE: a def (or a method) of the text, by its body. The body's reading t is chosen for each entry; it is run at the parameters' values -/
theorem fn_of {CX : CXT} {P : Program} {w : World} {K : PySem.W.Frag} {mg : Str → Option Value} {base : Heap} {k : Nat} {f : Addr} {name qual : Str} {params : Arguments} {body : List Stmt} {scope : Scope} {dV kV doc pm cdv ct oc : Value} {an od : Option Addr}
    {osl : Array (Option Value)} {N ps : List Str} {sp : Sp} (lk : K.lookup f = some ⟨oc, od, .func (PySem.W.fnOf name qual params body scope dV kV doc pm an cdv ct), osl⟩) (hcd : PySem.W.codeIn K cdv qual = true) (S : FnScope N ps scope)
    (len : ∀ vs H Q E, sp vs H Q E → vs.length = ps.length)
    (hbody : ∀ (A : Around) (outer : List Env) (s : Shared) (H : Hp) (vs : List V) (Q : VK) (E : XK), Room k (A.deeper (envOfC qual scope s.heap.objs.size f cdv)) → sp vs H Q E →
      ∃ t, PSs (cxOf CX P w K mg base N qual scope f cdv A outer s H E) body t ∧ t { nx := fun _ H' => Q .non H', rt := Q } (start N vs) H) :
    FnOk P w K mg base CX (k + 1) f (PySem.W.fnOf name qual params body scope dV kV doc pm an cdv ct) ps sp := by
  refine ⟨len, fun A outer s H args us vs Q E hr e0 hb r hsp => ?_⟩
  have hl := len _ _ _ _ hsp
  have KX : K.In s.heap := e0.mod.kin.keeps fun b o e => (e0.bs b o e).1
  have lim : s.heap.NoLimit := e0.mod.nolimit.keeps fun b o e => (e0.bs b o e).1
  have hkind : ∀ y ∈ ps.zip us, scope.names.lookup y.1 = some .local ∨ (scope.names.lookup y.1 = some .cell ∧ ((cellsFrom (s.heap.objs.size + 1) scope.names []).lookup y.1).isSome = true) := fun ⟨n, v⟩ hy => by
    rcases S.par n (List.of_mem_zip hy).1 with q | q
    · exact .inl q
    · exact .inr ⟨q, PySem.W.cellsFrom_some _ _ _ (.inl q)⟩
  refine codeAny_call_function hr.depth (KX _ _ lk) rfl S.co S.gen rfl (PySem.W.codeRec_of KX hcd) (hb _ _ _ _ ?_)
  refine wpAny_newFunctionEnv_cells S.kind hkind fun env he s1 x => ?_
  subst he
  refine ⟨lim.keeps x.toInCall.keep, codeAny_func ?_⟩
  obtain ⟨t, ht, hq⟩ := hbody A outer s H vs Q E (hr.deeper _) hsp
  have I : Inv (cxOf CX P w K mg base N qual scope f cdv A outer s H E) [] (start N vs) H s1 := inv_start S hr.hd e0 hl r x
  refine wpAny_mono (ht [] s1 (start N vs) H _ I hq) (fun fl s' hs => ?_) fun e s' hs => hs
  have fin : ∀ {σ' : St} {H' : Hp} {v : V} {u : Value}, Inv (cxOf CX P w K mg base N qual scope f cdv A outer s H E) [] σ' H' s' → RelV v u → Q v H' → CE outer P w H s Q u s' :=
    fun {σ' H' v u} J rv q => ⟨v, H', J.os, J.bare, J.base, J.hok, rv, q⟩
  cases fl with
  | ret u =>
    obtain ⟨v, σ', H', J, rv, q⟩ := hs
    exact fin J rv q
  | next =>
    obtain ⟨σ', H', J, q⟩ := hs
    exact fin (v := V.non) (u := Value.none) J rfl q
  | brk =>
    obtain ⟨_, _, _, q⟩ := hs
    exact False.elim q
  | cont =>
    obtain ⟨_, _, _, q⟩ := hs
    exact False.elim q
end L2

namespace L2
open PySem PySem.Spec PyProof.Rows
section
variable {X : Cx} {x : Str} {p pos : Pos} {e : Expr} {es : List Expr} {t : TA} {id T : String} {r : List V → Hp → VK → Prop}

def tCB (r : List V → Hp → VK → Prop) (t : TA) : TE := fun σ H Q => t σ H fun vs H1 => r vs H1 Q
/-- f(e, ..), f a built-in function -/
theorem pe_callB (hc : CallR X (.builtin id) r) (hg : Gl X x) (hm : X.mg x = none) (hv : bootBuiltins x = some (.builtin id)) (ha : PA X (e :: es) t) (hn : x ≠ "__name__" := by decide) (hdb : (x == ("__debug__" : Str)) = false := by decide)
    (he : starEach (e :: es) X.env = (false, eval e X.env) :: starEach es X.env := by rfl) (hpl : (backTo pos (starEach es X.env)).any (·.1) = false := by rfl) : PE X (.Call (.Name x p) (e :: es) [] pos) (tCB r t) := by
  intro pins s σ H Q I h
  refine wpAny_Call_Name_kw (ld_blt I hg hm hv ?_ hn hdb)
  exact PyProof.Rows.callWith_builtin1 (thn (ha pos pins s σ H _ I h) fun us s1 ⟨vs, H1, I1, r1, q1⟩ => hc pins s1 σ H1 vs us Q I1 r1 q1) he hpl
/-- T(e, ..), T a built-in type -/
theorem pe_callTy (hc : CallR X (.type T) r) (hg : Gl X x) (hm : X.mg x = none) (hv : bootBuiltins x = some (.type T)) (ha : PA X (e :: es) t) (hn : x ≠ "__name__" := by decide) (hdb : (x == ("__debug__" : Str)) = false := by decide)
    (he : starEach (e :: es) X.env = (false, eval e X.env) :: starEach es X.env := by rfl) (hpl : (backTo pos (starEach es X.env)).any (·.1) = false := by rfl) : PE X (.Call (.Name x p) (e :: es) [] pos) (tCB r t) := by
  intro pins s σ H Q I h
  refine wpAny_Call_Name_kw (ld_blt I hg hm hv ?_ hn hdb)
  exact PyProof.Rows.callWith_type1 (thn (ha pos pins s σ H _ I h) fun us s1 ⟨vs, H1, I1, r1, q1⟩ => hc pins s1 σ H1 vs us Q I1 r1 q1) he hpl
/-- T() -/
theorem pe_callTy0 (hc : CallR X (.type T) r) (hg : Gl X x) (hm : X.mg x = none) (hv : bootBuiltins x = some (.type T)) (hn : x ≠ "__name__" := by decide) (hdb : (x == ("__debug__" : Str)) = false := by decide) :
    PE X (.Call (.Name x p) [] [] pos) (tCB r tNil) := by
  intro pins s σ H Q I h
  refine wpAny_Call_Name_kw (ld_blt I hg hm hv ?_ hn hdb)
  exact PyProof.Rows.callWith_type0 (hc pins s σ H [] [] Q I .nil h)
end
end L2

namespace HT
open PySem PyProof.Rows

/-- t < u of tuples of ints -/
def lexLt : List Int → List Int → Bool
  | [], [] => false
  | [], _ :: _ => true
  | _ :: _, [] => false
  | x :: xs, y :: ys => if x = y then lexLt xs ys else decide (x < y)
theorem lexLt_cons (x y : Int) (xs ys : List Int) : lexLt (x :: xs) (y :: ys) = if x = y then lexLt xs ys else decide (x < y) := rfl
theorem lexLt_nil_nil : lexLt [] [] = false := rfl
theorem lexLt_nil_cons (y : Int) (ys : List Int) : lexLt [] (y :: ys) = true := rfl
theorem lexLt_cons_nil (x : Int) (xs : List Int) : lexLt (x :: xs) [] = false := rfl

theorem eqAt_int (A : Around) (s : Shared) (a : Int) (t : Tok) (c : Int) (u : Tok) : ∃ e, SeqAt.EqAt A s (.int a t) (.int c u) e ∧ (e = true ↔ a = c) :=
  ⟨(a == c), SeqAt.EqAt.int_int a t c u, by simp⟩
theorem rcLt_int (A : Around) (s : Shared) (a : Int) (t : Tok) (c : Int) (u : Tok) (prog : Program) (w : World) (E : Value → Shared → Prop) (Q : Value → Shared → Prop) (h : Q (.bool (decide (a < c))) s) :
    wpAny (model prog w) A (richCompare .Lt (.int a t) (.int c u)) Q E s :=
  (PyProof.Rows.lt_int h : wpAny (model prog w) A (compareOp .Lt (.int a t) (.int c u)) Q E s)

section
open PySem.SeqAt
open PySem.AutoSeq1 (wpAny_loadPart')
open PySem.MeetsSeq PySem.MeetsSeq2 PySem.MeetsSeq3

theorem tuple_lt_ints (l b : Addr) (items items2 : Array Value) (n n2 : Nat) (dd dd2 : Option Addr) (sl sl2 : Array (Option Value)) (ns ms : List Int) (hi : IntsAre items.toList ns) (hj : IntsAre items2.toList ms) :
    Meets (Builtin.«tuple.__lt__» ⟨[.ref l, .ref b], []⟩)
      (fun _ R s => s.heap.get? l = some { cls := .type "tuple", dict := dd, data := .seq items n, slots := sl } ∧ s.heap.get? b = some { cls := .type "tuple", dict := dd2, data := .seq items2 n2, slots := sl2 } ∧
        R (.ok (.ret (.bool (lexLt ns ms)))) s) :=
  .of_wp fun prog w A R s h => by
    obtain ⟨hp, g, d, tk, os⟩ := s; obtain ⟨hl, hb, h⟩ := h
    have f2 := AutoSeq1.sub_tuple_tuple
    have z1 : items.size = ns.length := by rw [← hi.length]; simp
    have z2 : items2.size = ms.length := by rw [← hj.length]; simp
    wp_walk using wpAny_loadPart' hl, wpAny_loadPart' hb, wpAny_forIn_list _ (fun rest b s' => b.1 = none ∧ s' = ⟨hp, g, d, tk, os⟩ ∧ ∃ (vs ws : List Value) (ns' ms' : List Int), rest = vs.zip ws ∧
      IntsAre vs ns' ∧ IntsAre ws ms' ∧ ns'.length + items2.size = ms'.length + items.size ∧ R (.ok (.ret (.bool (lexLt ns' ms')))) ⟨hp, g, d, tk, os⟩) _
    case turn =>
      rintro ⟨y, x⟩ rest b s' ⟨hb', rfl, vs, ws, ns', ms', hz, hvi, hwi, hlen, hR⟩
      cases hvi with
      | nil => rw [List.zip_nil_left] at hz; cases hz
      | cons a t hvi' =>
        cases hwi with
        | nil => rw [List.zip_nil_right] at hz; cases hz
        | cons c u hwi' =>
          rw [List.zip_cons_cons] at hz
          injection hz with hyx hrest
          injection hyx with hy hx
          subst hy hx
          rw [lexLt_cons] at hR
          simp only [List.length_cons] at hlen
          obtain ⟨e, he, hiff⟩ := eqAt_int A.in1 ⟨hp, g, d, tk, os⟩ a t c u
          refine wpAny_bind (he prog w _ _ ?_)
          cases e with
          | true =>
            rw [if_pos (hiff.mp rfl)] at hR
            wp_walk
            exact ⟨rfl, rfl, _, _, _, _, hrest, hvi', hwi', by omega, hR⟩
          | false =>
            rw [if_neg (fun q => absurd (hiff.mpr q) Bool.false_ne_true)] at hR
            have hri := rcLt_int A.in1 ⟨hp, g, d, tk, os⟩ a t c u prog w
            wp_walk using hri
            exact ⟨_, rfl, by simpa using hR⟩
    case fin =>
      rintro ⟨b1, b2⟩ s' ⟨hb', rfl, vs, ws, ns', ms', hz, hvi, hwi, hlen, hR⟩
      simp only at hb'
      subst hb'
      have hv : lexLt ns' ms' = decide (items.size < items2.size) := by
        cases hvi with
        | nil =>
          cases hwi with
          | nil =>
            simp only [List.length_nil] at hlen
            rw [lexLt_nil_nil]
            exact (decide_eq_false (by omega)).symm
          | cons c u hw =>
            simp only [List.length_nil, List.length_cons] at hlen
            rw [lexLt_nil_cons]
            exact (decide_eq_true (by omega)).symm
        | cons a t hv =>
          cases hwi with
          | nil =>
            simp only [List.length_nil, List.length_cons] at hlen
            rw [lexLt_cons_nil]
            exact (decide_eq_false (by omega)).symm
          | cons c u hw =>
            rw [List.zip_cons_cons] at hz
            cases hz
      rw [hv] at hR
      wp_walk
      exact ⟨_, rfl, by simpa [Builtin.Tuple.tupleCompareSizes] using hR⟩
    case h =>
      exact ⟨rfl, rfl, items.toList, items2.toList, ns, ms, rfl, hi, hj, by omega, h⟩
end

section
variable {prog : Program} {w : World} {A : Around} {E : Value → Shared → Prop} {s : Shared}

theorem lt_tupInts {l b : Addr} {items items2 : Array Value} {ns ms : List Int} {Q : Value → Shared → Prop} (hl : IsTup s.heap l items) (hb : IsTup s.heap b items2) (hi : IntsAre items.toList ns) (hj : IntsAre items2.toList ms)
    (hu : A.units < cLine) (h : Q (.bool (lexLt ns ms)) s) : wpAny (model prog w) A (compareOp .Lt (.ref l) (.ref b)) Q E s := by
  obtain ⟨⟨cls, dd, data, sl⟩, ho, hc, n, hd⟩ := id hl
  obtain ⟨⟨cls2, dd2, data2, sl2⟩, ho2, hc2, n2, hd2⟩ := id hb
  simp only at hc hd hc2 hd2
  subst hc hd hc2 hd2
  exact richCompare_meets_room (op := .Lt) ⟨_, ho, rfl⟩ ⟨_, ho2, rfl⟩ PySem.F.slot_tuple_lt PySem.F.entry_tuple_lt (PySem.F.args_tuple_lt_2 _ _) (tuple_lt_ints l b items items2 n n2 dd dd2 sl sl2 ns ms hi hj)
    ⟨ho, ho2, show Value.bool (lexLt ns ms) ≠ Value.notImplemented ∧ Q (.bool (lexLt ns ms)) s from ⟨(fun x => nomatch x), h⟩⟩ hu

/-- t + u, t not empty -/
theorem cat_tup {t b : Addr} {vs ws : List Value} {Q : Value → Shared → Prop} (ht : IsTup s.heap t vs.toArray) (hb : IsTup s.heap b ws.toArray) (hv : vs ≠ [])
    (h1 : ws = [] → Q (.ref t) s) (h2 : ws ≠ [] → Q (.ref s.heap.objs.size) { s with heap := s.heap.push { cls := .type "tuple", data := .seq (vs ++ ws).toArray } })
    (hsz : vs.length + ws.length ≤ sizeLine) : wpAny (model prog w) A (binaryOp .Add (.ref t) (.ref b)) Q E s := by
  obtain ⟨⟨cls, dd, data, sl⟩, ho, hc, n, hd⟩ := id ht
  obtain ⟨⟨cls2, dd2, data2, sl2⟩, ho2, hc2, n2, hd2⟩ := id hb
  simp only at hc hd hc2 hd2
  subst hc hd hc2 hd2
  have e : vs.toArray ++ ws.toArray = (vs ++ ws).toArray := by simp
  by_cases hw : ws = []
  · exact concat_meets ⟨_, ho, rfl⟩ ⟨_, ho2, rfl⟩ noFill_tuple_add seq_tuple_add PySem.F.slot_tuple_add PySem.F.entry_tuple_add (PySem.F.args_tuple_add_2 _ _)
      (tuple_addW1 t b vs.toArray ws.toArray n n2 dd dd2 sl sl2 (by simpa using hv) (by simp [hw])) ⟨ho, ho2, h1 hw⟩
  · refine concat_meets ⟨_, ho, rfl⟩ ⟨_, ho2, rfl⟩ noFill_tuple_add seq_tuple_add PySem.F.slot_tuple_add PySem.F.entry_tuple_add (PySem.F.args_tuple_add_2 _ _)
      (tuple_addW2 t b vs.toArray ws.toArray n n2 dd dd2 sl sl2 (by simpa using hv) (by simpa using hw) (by rw [List.size_toArray, List.size_toArray]; exact hsz)) ⟨ho, ho2, ?_⟩
    rw [e]
    exact h2 hw

/-! ### t[a:b], not the whole -/
/-- a slice's bound as a place among n (d where it is left out) -/
def sIx (n d : Nat) : Option Int → Nat
  | none => d
  | some v => if v < 0 then (v + (n : Int)).toNat else min v.toNat n
theorem sIx_none (n d : Nat) : sIx n d none = d := rfl
theorem sIx_nat (n d k : Nat) : sIx n d (some (k : Int)) = min k n := by
  show (if (k : Int) < 0 then ((k : Int) + (n : Int)).toNat else min (k : Int).toNat n) = min k n
  rw [if_neg (by omega), Int.toNat_natCast]
theorem sIx_le (n d : Nat) (hd : d ≤ n) (o : Option Int) : sIx n d o ≤ n := by
  cases o with
  | none => exact hd
  | some v =>
    show (if v < 0 then (v + (n : Int)).toNat else min v.toNat n) ≤ n
    by_cases hv : v < 0
    · rw [if_pos hv]; omega
    · rw [if_neg hv]; exact Nat.min_le_right _ _
theorem clip_eq (v : Int) (n d : Nat) : (if v < 0 then max (v + (n : Int)) 0 else min v (n : Int)) = ((sIx n d (some v) : Nat) : Int) := by
  show (if v < 0 then max (v + (n : Int)) 0 else min v (n : Int)) = (((if v < 0 then (v + (n : Int)).toNat else min v.toNat n) : Nat) : Int)
  by_cases hv : v < 0
  · simp only [if_pos hv]; omega
  · simp only [if_neg hv]; omega
theorem adjust_gen (lo hi : Option Int) (n : Nat) : Builtin.Slice.sliceAdjust lo hi 1 (n : Int) = (((sIx n 0 lo : Nat) : Int), ((sIx n n hi : Nat) : Int)) := by
  have h1 : ¬ ((1 : Int) < 0) := by omega
  unfold Builtin.Slice.sliceAdjust
  simp only [h1, if_false]
  refine Prod.ext ?_ ?_
  · cases lo with
    | none => rfl
    | some v => exact clip_eq v n 0
  · cases hi with
    | none => rfl
    | some v => exact clip_eq v n n
theorem places_gen (i j : Nat) : Builtin.Slice.slicePlaces (i : Int) (j : Int) 1 = j - i := by
  unfold Builtin.Slice.slicePlaces
  have h1 : (1 : Int) > 0 := by omega
  simp only [h1, if_true, Int.ediv_one]
  split <;> omega
theorem slicePart_ {v : Value} {o : Option Int} {Q : Option Int → Shared → Prop} (p : IsPart v o) (h : Q o s) : wpAny (model prog w) A (Builtin.Slice.slicePartIndex v) Q E s := by
  cases p with
  | none => exact slicePart_none h
  | int i t => exact slicePart_int h
theorem sliceApplied_gen {sl : Addr} {vl vu : Value} {lo hi : Option Int} {n : Nat} {Q : Int × Int × Nat → Shared → Prop} (hs : s.heap.IsSliceOf sl vl vu .none) (pl : IsPart vl lo) (pu : IsPart vu hi)
    (h : Q (((sIx n 0 lo : Nat) : Int), 1, sIx n n hi - sIx n 0 lo) s) : wpAny (model prog w) A (Builtin.Slice.sliceApplied (.ref sl) (pure (n : Int))) Q E s := by
  obtain ⟨os, hos, hcs, hds⟩ := id hs
  unfold Builtin.Slice.sliceApplied Builtin.Slice.sliceFields
  refine wpAny_bind (wpAny_bind (wpAny_field hos hds (x := vl) rfl (wpAny_bind (wpAny_field hos hds (x := vu) rfl (wpAny_bind (wpAny_field hos hds (x := .none) rfl (wpAny_pure ?_)))))))
  refine wpAny_bind (slicePart_none ?_)
  show wpAny _ _ (if ((1 : Int) == 0) = true then _ else _) _ _ s
  rw [if_neg (by decide)]
  refine wpAny_bind (slicePart_ pl (wpAny_bind (slicePart_ pu (wpAny_bind (wpAny_pure ?_)))))
  show wpAny _ _ (match Builtin.Slice.sliceAdjust lo hi 1 (n : Int) with | (lo, hi) => pure (lo, (1 : Int), Builtin.Slice.slicePlaces lo hi 1)) _ _ s
  rw [adjust_gen lo hi n]
  show wpAny _ _ (pure (((sIx n 0 lo : Nat) : Int), (1 : Int), Builtin.Slice.slicePlaces ((sIx n 0 lo : Nat) : Int) ((sIx n n hi : Nat) : Int) 1)) _ _ s
  rw [places_gen]
  exact wpAny_pure h
theorem pick_gen (xs : Array Value) (i k : Nat) : ((List.range k).filterMap fun (m : Nat) => xs[((i : Int) + (m : Int) * 1).toNat]?).toArray = ((xs.toList.drop i).take k).toArray := by
  have e : (fun (m : Nat) => xs[((i : Int) + (m : Int) * 1).toNat]?) = fun m => xs[i + m]? := by
    funext m
    have : ((i : Int) + (m : Int) * 1).toNat = i + m := by omega
    rw [this]
  rw [e]
  have := pick_run xs i k
  rw [List.filterMap_map] at this
  have e2 : ((fun x => xs[x]?) ∘ fun x => i + x) = fun m => xs[i + m]? := rfl
  rw [e2] at this
  rw [this]

theorem getItem_tuple_cut {t sl : Addr} {items : Array Value} {vl vu : Value} {lo hi : Option Int} {Q : Value → Shared → Prop} (ht : IsTup s.heap t items) (hs : s.heap.IsSliceOf sl vl vu .none) (pl : IsPart vl lo) (pu : IsPart vu hi)
    (hw : ¬ (sIx items.size 0 lo = 0 ∧ sIx items.size items.size hi = items.size))
    (h : Q (.ref s.heap.objs.size) { s with heap := s.heap.push { cls := .type "tuple", data := .seq ((items.toList.drop (sIx items.size 0 lo)).take (sIx items.size items.size hi - sIx items.size 0 lo)).toArray } })
    (hsz : items.size ≤ sizeLine) : wpAny (model prog w) A (getItem (.ref t) (.ref sl)) Q E s := by
  have htake : sizeOk (.seq ((items.toList.drop (sIx items.size 0 lo)).take (sIx items.size items.size hi - sIx items.size 0 lo)).toArray) := by
    show ((items.toList.drop (sIx items.size 0 lo)).take (sIx items.size items.size hi - sIx items.size 0 lo)).toArray.size ≤ sizeLine
    rw [List.size_toArray, List.length_take, List.length_drop, Array.length_toList]
    omega
  have hj : sIx items.size items.size hi ≤ items.size := sIx_le _ _ (Nat.le_refl _) hi
  obtain ⟨os, hos, hcs, hds⟩ := id hs
  have hTs : s.TypeIs (.ref sl) "slice" := ⟨os, hos, hcs⟩
  unfold getItem
  try with_reducible refine wpAny_holding ?_
  first | refine wpAny_bind (wpAny_pure ?_) | skip
  refine wpAny_bind (wpAny_sequenceKey ht.typeIs (by decide) ?_)
  refine wpAny_bind (wpAny_callSpecial?_slot (name := Str.ofString "__getitem__") ht.typeIs PyProof.Rows.slot_tuple_getitem
    (wpAny_call_entry PyProof.Rows.slot_tuple_getitem ht.typeIs entry_tuple_getitem ?_ (args_tuple_getitem _ _)))
  show wpAny _ _ (Builtin.Tuple.tupleItemsOf (.ref t) >>= _) _ _ s
  refine wpAny_bind (tupleItemsOf_ ht ?_)
  refine wpAny_bind (wpAny_typeOf hTs ?_)
  rw [if_pos (by decide)]
  refine wpAny_bind (sliceApplied_gen hs pl pu ?_)
  have hno : ¬ ((((sIx items.size 0 lo : Nat) : Int) == 0 && (1 : Int) == 1 && (sIx items.size items.size hi - sIx items.size 0 lo) == items.size) = true) := by
    intro q
    rw [Bool.and_eq_true, Bool.and_eq_true] at q
    have q1 : ((sIx items.size 0 lo : Nat) : Int) = 0 := eq_of_beq q.1.1
    have q2 : sIx items.size items.size hi - sIx items.size 0 lo = items.size := eq_of_beq q.2
    exact hw ⟨by omega, by omega⟩
  show wpAny _ _ (if (((sIx items.size 0 lo : Nat) : Int) == 0 && (1 : Int) == 1 && (sIx items.size items.size hi - sIx items.size 0 lo) == items.size) = true then _ else _) _ _ s
  rw [if_neg hno, pick_gen]
  first
    | exact wpAny_bind (m := Builtin.Tuple.tupleExact _) (wpAny_newObj_type (wpAny_pure ⟨_, rfl, wpAny_pure h⟩) htake)
    | exact wpAny_bind (m := Builtin.Tuple.tupleExact _) (wpAny_newObj_type (wpAny_bind (wpAny_pure (wpAny_pure ⟨_, rfl, wpAny_pure h⟩))) htake)
    | exact wpAny_bind (wpAny_bind (m := Builtin.Tuple.tupleExact _) (wpAny_newObj_type (wpAny_pure (wpAny_pure ⟨_, rfl, wpAny_pure h⟩)) htake))
    | exact wpAny_bind (wpAny_bind (m := Builtin.Tuple.tupleExact _) (wpAny_newObj_type (wpAny_pure ⟨_, rfl, wpAny_pure h⟩) htake))
end
end HT

namespace L2
open PySem PySem.Spec PyProof.Rows

/-! ### the parts of a slice -/
abbrev TO := St → Hp → (Option Int → Hp → Prop) → Prop
/-- a slice's part (left out, or an int) -/
def PO (X : Cx) (e : Option Expr) (t : TO) : Prop :=
  ∀ (pins : List (Addr × Obj)) (s : Shared) (σ : St) (H : Hp) (Q : Option Int → Hp → Prop), Inv X pins σ H s → t σ H Q →
    wpAny (model X.prog X.w) X.A (evalPart e X.env) (fun u s' => ∃ o H', Inv X pins σ H' s' ∧ IsPart u o ∧ Q o H') X.xe s
def tNoPart : TO := fun _ H Q => Q none H
def tPart (t : TE) : TO := fun σ H Q => t σ H fun x H1 => ∃ i, x = .int i ∧ Q (some i) H1

theorem intsAre_of {ns : List Int} : ∀ {us : List Value}, Vals (ns.map V.int) us → IntsAre us ns := by
  induction ns with
  | nil => intro us r; rw [List.map_nil] at r; cases r; exact .nil
  | cons n ns ih =>
    intro us r
    rw [List.map_cons] at r
    cases r with
    | cons r1 r2 =>
      obtain ⟨t, e⟩ := r1
      subst e
      exact .cons n t (ih r2)

section
variable {X : Cx} {e : Expr} {te : TE} {lo hi : Option Expr} {tl th : TO} {pos p2 : Pos}

theorem po_none : PO X none tNoPart := by
  intro pins s σ H Q I h
  rw [evalPart_none]
  exact wpAny_pure ⟨none, H, I, .none, h⟩
theorem po_some (h : PE X e te) : PO X (some e) (tPart te) := by
  intro pins s σ H Q I hw
  rw [evalPart_some]
  refine thn (h pins s σ H _ I hw) fun u s1 ⟨x, H1, I1, r1, q1⟩ => ?_
  obtain ⟨i, rfl, q⟩ := q1
  obtain ⟨t, rfl⟩ := r1
  exact ⟨some i, H1, I1, .int i t, q⟩

/-- what a slice of a value is, by values: the slice object stands at sl -/
def SlR (X : Cx) (r : V → Option Int → Option Int → Hp → VK → Prop) : Prop :=
  ∀ (pins : List (Addr × Obj)) (s : Shared) (σ : St) (H : Hp) (x : V) (v vl vu : Value) (lo hi : Option Int) (sl : Addr) (Q : VK), Inv X pins σ H s → RelV x v → s.heap.IsSliceOf sl vl vu .none → IsPart vl lo → IsPart vu hi → r x lo hi H Q →
    ∃ T id, typeLookup (.type T) "__getitem__" = pure (some (.builtin id)) ∧ s.TypeIs v T ∧ wpAny (model X.prog X.w) X.A (getItem v (.ref sl)) (EP X pins σ Q) X.xe s
theorem SlR.or {r r' : V → Option Int → Option Int → Hp → VK → Prop} (h : SlR X r) (h' : SlR X r') : SlR X (fun x lo hi H Q => r x lo hi H Q ∨ r' x lo hi H Q) := by
  intro pins s σ H x v vl vu lo hi sl Q I rx hs pl pu q
  rcases q with q | q
  · exact h pins s σ H x v vl vu lo hi sl Q I rx hs pl pu q
  · exact h' pins s σ H x v vl vu lo hi sl Q I rx hs pl pu q
def tSl (r : V → Option Int → Option Int → Hp → VK → Prop) (te : TE) (tl th : TO) : TE := fun σ H Q => te σ H fun x H1 => tl σ H1 fun l H2 => th σ H2 fun u H3 => r x l u H3 Q
/-- a[lo:hi], any a -/
theorem pe_slice {r : V → Option Int → Option Int → Hp → VK → Prop} (hr : SlR X r) (he : PE X e te) (hl : PO X lo tl) (hu : PO X hi th) : PE X (.Subscript e (.Slice lo hi none p2) pos) (tSl r te tl th) := by
  intro pins s σ H Q I h
  refine Subscript_ (thn (he pins s σ H _ I h) fun v s1 ⟨x, H1, I1, r1, q1⟩ => ?_)
  refine wpAny_Slice (thn (hl pins s1 σ H1 _ I1 q1) fun vl s2 ⟨l, H2, I2, pl, q2⟩ => thn (hu pins s2 σ H2 _ I2 q2) fun vu s3 ⟨u, H3, I3, pu, q3⟩ => ?_)
  rw [evalPart_none]
  refine wpAny_pure ?_
  have I4 : Inv X pins σ H3 { s3 with heap := s3.heap.push { cls := .type "slice", data := .fields #[vl, vu, .none] } } := I3.kept (t' := s3.toks) fun b ob q => Heap.get?_push_of_some _ q
  obtain ⟨T, id, hT, ht, hg⟩ := hr pins { s3 with heap := s3.heap.push { cls := .type "slice", data := .fields #[vl, vu, .none] } } σ H3 x v vl vu l u s3.heap.objs.size Q I4 r1 (Heap.IsSliceOf.new ..) pl pu q3
  show wpAny (model X.prog X.w) X.A (subscriptTail e (.Slice lo hi none p2) v (.ref s3.heap.objs.size)) (EP X pins σ Q) X.xe { s3 with heap := s3.heap.push { cls := .type "slice", data := .fields #[vl, vu, .none] } }
  exact tail_any (ops := [.ref s3.heap.objs.size, v]) ht hT hg (by with_unfolding_all rfl)

/-- the items of xs[lo:hi] -/
def cutV (xs : List V) (lo hi : Option Int) : List V := (xs.drop (HT.sIx xs.length 0 lo)).take (HT.sIx xs.length xs.length hi - HT.sIx xs.length 0 lo)
theorem cutV_length (xs : List V) (lo hi : Option Int) : (cutV xs lo hi).length ≤ xs.length := by
  unfold cutV
  rw [List.length_take, List.length_drop]
  omega
/-- t[lo:hi], not the whole of it (the whole would be t itself) -/
def rSlT (K : PySem.W.Frag) : V → Option Int → Option Int → Hp → VK → Prop := fun x lo hi H Q => ∃ a xs, x = .ref a ∧ SqT K H a xs ∧
  ¬ (HT.sIx xs.length 0 lo = 0 ∧ HT.sIx xs.length xs.length hi = xs.length) ∧ ∀ p, H p = none → Q (.ref p) (upd H p (.tup (cutV xs lo hi)))
theorem sl_tup : SlR X (rSlT X.K) := by
  intro pins s σ H x v vl vu lo hi sl Q I rx hs pl pu h
  obtain ⟨a, xs, rfl, hx, hw, q⟩ := h
  cases rx
  obtain ⟨its, r, ht, hz⟩ := I.tuple hx
  have hlen : its.toArray.size = xs.length := by rw [List.size_toArray]; exact r.length.symm
  refine ⟨"tuple", _, PyProof.Rows.slot_tuple_getitem.lookup, ht.typeIs, ?_⟩
  refine HT.getItem_tuple_cut ht hs pl pu (by rw [hlen]; exact hw) ?_ (by rw [hlen]; exact hz)
  rw [hlen]
  refine ⟨.ref s.heap.objs.size, _, I.laid (t' := s.toks) (o := .tup (cutV xs lo hi)) (fun b ob q => Heap.get?_push_of_some _ q) (Nat.le_refl _) ?_, rfl, q _ (I.hok.fresh (Nat.le_refl _))⟩
  exact ⟨Nat.le_trans (cutV_length xs lo hi) hz, _, (r.drop (HT.sIx xs.length 0 lo)).take (HT.sIx xs.length xs.length hi - HT.sIx xs.length 0 lo), IsTup.new _ _⟩

/-! ### t < u, t + u -/
def rLtT (K : PySem.W.Frag) : R2 := fun x y H Q => ∃ a b ns ms, x = .ref a ∧ y = .ref b ∧ SqT K H a (ns.map V.int) ∧ SqT K H b (ms.map V.int) ∧ Q (.bl (HT.lexLt ns ms)) H
theorem op_ltT (hu : X.A.units < cLine) : OpR X (compareOp .Lt) (rLtT X.K) := by
  intro pins s σ H x y v u Q I rx ry h
  obtain ⟨a, b, ns, ms, rfl, rfl, ha, hb, q⟩ := h
  cases rx
  cases ry
  obtain ⟨its, r1, p1, _⟩ := I.tuple ha
  obtain ⟨its2, r2, p2, _⟩ := I.tuple hb
  have i1 : IntsAre its.toArray.toList ns := intsAre_of r1
  have i2 : IntsAre its2.toArray.toList ms := intsAre_of r2
  exact HT.lt_tupInts p1 p2 i1 i2 hu ⟨.bl (HT.lexLt ns ms), H, I, rfl, q⟩
/-- t + u, t not empty: u empty gives t itself -/
def rCatT (K : PySem.W.Frag) : R2 := fun x y H Q => ∃ a b xs ys, x = .ref a ∧ y = .ref b ∧ SqT K H a xs ∧ SqT K H b ys ∧ xs ≠ [] ∧ xs.length + ys.length ≤ sizeLine ∧
  (ys = [] → Q (.ref a) H) ∧ (ys ≠ [] → ∀ p, H p = none → Q (.ref p) (upd H p (.tup (xs ++ ys))))
theorem Vals.nil_iff {xs : List V} {us : List Value} (r : Vals xs us) : us = [] ↔ xs = [] := by
  cases r with
  | nil => simp
  | cons _ _ => simp
theorem op_catT : OpR X (binaryOp .Add) (rCatT X.K) := by
  intro pins s σ H x y v u Q I rx ry h
  obtain ⟨a, b, xs, ys, rfl, rfl, ha, hb, hx, hz, q1, q2⟩ := h
  cases rx
  cases ry
  obtain ⟨its, r1, p1, _⟩ := I.tuple ha
  obtain ⟨its2, r2, p2, _⟩ := I.tuple hb
  refine HT.cat_tup p1 p2 (fun z => hx (r1.nil_iff.mp z)) (fun z => ⟨.ref a, H, I, rfl, q1 (r2.nil_iff.mp z)⟩) (fun z => ?_) (by rw [← r1.length, ← r2.length]; exact hz)
  refine ⟨.ref s.heap.objs.size, _, I.laid (t' := s.toks) (o := .tup (xs ++ ys)) (fun b ob q => Heap.get?_push_of_some _ q) (Nat.le_refl _) ?_, rfl, q2 (fun w => z (r2.nil_iff.mpr w)) _ (I.hok.fresh (Nat.le_refl _))⟩
  exact ⟨by rw [List.length_append]; exact hz, _, r1.append r2, IsTup.new _ _⟩
/-- tuple(t) -/
theorem call_tupleT : CallR X (.type "tuple") (fun xs H Q => ∃ a ys, xs = [.ref a] ∧ SqT X.K H a ys ∧ Q (.ref a) H) := by
  intro pins s σ H xs us Q I r h
  obtain ⟨a, ys, rfl, ha, q⟩ := h
  obtain ⟨u, rfl, ru⟩ := vals1 r
  cases ru
  obtain ⟨its, _, p1, _⟩ := I.tuple ha
  exact call_tuple_same (items := its.toArray) p1 ⟨.ref a, H, I, rfl, q⟩
end
end L2

namespace L2
open PySem PySem.Spec PyProof.Rows

/-! ### places -/
/-- the place that an index of any sign means -/
def ixN (n : Nat) (i : Int) : Option Nat := if 0 ≤ i then (if i < n then some i.toNat else none) else if -(n : Int) ≤ i then some (i + n).toNat else none
def atI {α : Type} (xs : List α) (i : Int) : Option α := (ixN xs.length i).bind fun j => xs[j]?
theorem ixN_seq {n : Nat} {i : Int} {j : Nat} (h : ixN n i = some j) : seqIndex? i n = some j ∧ j < n ∧ -(n : Int) ≤ i ∧ i < n := by
  unfold ixN at h
  by_cases h0 : 0 ≤ i
  · rw [if_pos h0] at h
    by_cases h1 : i < n
    · rw [if_pos h1] at h
      have e : i.toNat = j := Option.some.inj h
      exact ⟨by rw [seqIndex_of h0 h1, e], by omega, by omega, h1⟩
    · rw [if_neg h1] at h; cases h
  · rw [if_neg h0] at h
    by_cases h1 : -(n : Int) ≤ i
    · rw [if_pos h1] at h
      have e : (i + n).toNat = j := Option.some.inj h
      exact ⟨by rw [seqIndex_neg (by omega) h1, e], by omega, h1, by omega⟩
    · rw [if_neg h1] at h; cases h
theorem atI_get {α : Type} {xs : List α} {i : Int} {v : α} (h : atI xs i = some v) : ∃ j, seqIndex? i xs.length = some j ∧ xs[j]? = some v ∧ j < xs.length ∧ -(xs.length : Int) ≤ i ∧ i < xs.length := by
  unfold atI at h
  cases e : ixN xs.length i with
  | none => rw [e] at h; cases h
  | some j =>
    rw [e] at h
    obtain ⟨h1, h2, h3, h4⟩ := ixN_seq e
    exact ⟨j, h1, h, h2, h3, h4⟩
theorem atI_nat {α : Type} {xs : List α} {j : Nat} {v : α} (h : xs[j]? = some v) : atI xs (j : Int) = some v := by
  have hj : j < xs.length := (List.getElem?_eq_some_iff.mp h).1
  have e : ixN xs.length (j : Int) = some j := by
    unfold ixN
    rw [if_pos (by omega), if_pos (by omega)]; simp
  unfold atI; rw [e]; exact h
theorem atI_last {α : Type} (xs : List α) (v : α) : atI (xs ++ [v]) (-1) = some v := by
  have hl : (xs ++ [v]).length = xs.length + 1 := by simp
  have e : ixN (xs ++ [v]).length (-1) = some xs.length := by
    unfold ixN
    rw [hl, if_neg (by decide), if_pos (by omega)]
    congr 1
    omega
  unfold atI
  rw [e]
  show (xs ++ [v])[xs.length]? = some v
  simp

/-! ### what may be subscripted -/
/-- what stands as an index of a plain subscript -/
def PlainIx (b : Expr) : Prop := ∀ o i, subscripted b false o i = operate [o, i] (getItem o i)
/-- a subscript by values -/
def IxR (X : Cx) (r : R2) : Prop :=
  ∀ (value slice : Expr) (pins : List (Addr × Obj)) (s : Shared) (σ : St) (H : Hp) (x y : V) (v u : Value) (Q : VK), Inv X pins σ H s → RelV x v → RelV y u → r x y H Q →
    subscripted slice false v u = operate [v, u] (getItem v u) → wpAny (model X.prog X.w) X.A (subscriptTail value slice v u) (EP X pins σ Q) X.xe s
/-- a call of a builtin's method by values: the receiver, the arguments -/
def MtR (X : Cx) (id : String) (r : V → List V → Hp → VK → Prop) : Prop :=
  ∀ (pins : List (Addr × Obj)) (s : Shared) (σ : St) (H : Hp) (x : V) (xs : List V) (v : Value) (us : List Value) (Q : VK), Inv X pins σ H s → RelV x v → Vals xs us → r x xs H Q →
    wpAny (model X.prog X.w) X.A (call (.builtin id) (v :: us)) (EP X pins σ Q) X.xe s
section
variable {X : Cx} {a b : Expr} {ta tb : TE} {pos : Pos}
theorem IxR.or {r r' : R2} (h : IxR X r) (h' : IxR X r') : IxR X (fun x y H Q => r x y H Q ∨ r' x y H Q) := by
  intro value slice pins s σ H x y v u Q I rx ry q hs
  rcases q with q | q
  · exact h value slice pins s σ H x y v u Q I rx ry q hs
  · exact h' value slice pins s σ H x y v u Q I rx ry q hs
theorem MtR.or {id : String} {r r' : V → List V → Hp → VK → Prop} (h : MtR X id r) (h' : MtR X id r') : MtR X id (fun x xs H Q => r x xs H Q ∨ r' x xs H Q) := by
  intro pins s σ H x xs v us Q I rx rs q
  rcases q with q | q
  · exact h pins s σ H x xs v us Q I rx rs q
  · exact h' pins s σ H x xs v us Q I rx rs q
/-- a[b] -/
theorem pe_ix {r : R2} (hr : IxR X r) (ha : PE X a ta) (hb : PE X b tb) (hs : PlainIx b) : PE X (.Subscript a b pos) (tOp r ta tb) := by
  intro pins s σ H Q I h
  exact Subscript_ (binT ha hb I h fun v u s2 x y H2 I2 rx ry q => hr a b pins s2 σ H2 x y v u Q I2 rx ry q (hs _ _))

def rIxL (K : PySem.W.Frag) : R2 := fun x y H Q => ∃ p xs i v, x = .ref p ∧ y = .int i ∧ SqL K H p xs ∧ atI xs i = some v ∧ Q v H
def rIxT (K : PySem.W.Frag) : R2 := fun x y H Q => ∃ p xs i v, x = .ref p ∧ y = .int i ∧ SqT K H p xs ∧ atI xs i = some v ∧ Q v H
def rIxS : R2 := fun x y H Q => ∃ z i c, x = .str z ∧ y = .int i ∧ z.length ≤ sizeLine ∧ atI z.cps.toList i = some c ∧ Q (.str ⟨#[c]⟩) H
theorem ix_list : IxR X (rIxL X.K) := by
  intro value slice pins s σ H x y v u Q I rx ry h hs
  obtain ⟨p, xs, i, z, rfl, rfl, hq, he, q⟩ := h
  cases rx
  obtain ⟨t, rfl⟩ := ry
  obtain ⟨its, r, pl, hz⟩ := I.list hq
  obtain ⟨j, h1, h2, h3, h4, h5⟩ := atI_get he
  obtain ⟨w, ew, rw'⟩ := r.get h2
  have hl := r.length
  have hn := line63
  have fin : EP X pins σ Q w s := ⟨z, H, I, rw', q⟩
  by_cases h0 : 0 ≤ i
  · have hj : i.toNat = j := by
      rw [seqIndex_of h0 h5] at h1
      exact Option.some.inj h1
    exact item_listR pl.isList h0 (by omega) (by rw [hj]; simpa using ew) fin hs
  · have hj : (i + (its.toArray.size : Int)).toNat = j := by
      rw [seqIndex_neg (by omega) h4] at h1
      rw [List.size_toArray, ← hl]
      exact Option.some.inj h1
    exact subscriptTail_builtinR (x := w) pl.isList.typeIs slot_list_getitem.lookup
      (wpAny_getItem_list_neg (Q := fun r s' => r = w ∧ EP X pins σ Q r s') pl.isList (by omega) (by rw [List.size_toArray] <;> omega) (by omega) (by rw [hj]; simpa using ew) ⟨rfl, fin⟩) hs
theorem ix_tup : IxR X (rIxT X.K) := by
  intro value slice pins s σ H x y v u Q I rx ry h hs
  obtain ⟨p, xs, i, z, rfl, rfl, hq, he, q⟩ := h
  cases rx
  obtain ⟨t, rfl⟩ := ry
  obtain ⟨its, r, pl, hz⟩ := I.tuple hq
  obtain ⟨j, h1, h2, h3, h4, h5⟩ := atI_get he
  obtain ⟨w, ew, rw'⟩ := r.get h2
  have hl := r.length
  have hn := line63
  have fin : EP X pins σ Q w s := ⟨z, H, I, rw', q⟩
  exact subscriptTail_builtinR (x := w) pl.typeIs slot_tuple_getitem.lookup
    (getItem_tuple (j := j) (Q := fun r s' => r = w ∧ EP X pins σ Q r s') pl (by omega) (by omega) (by rw [List.size_toArray, ← hl]; exact h1) (by simpa using ew) ⟨rfl, fin⟩) hs
theorem ix_str : IxR X rIxS := by
  intro value slice pins s σ H x y v u Q I rx ry h hs
  obtain ⟨z, i, c, rfl, rfl, hz, he, q⟩ := h
  obtain ⟨t, rfl⟩ := rx
  obtain ⟨t', rfl⟩ := ry
  obtain ⟨j, h1, h2, h3, h4, h5⟩ := atI_get he
  have hl : z.cps.toList.length = z.length := by simp [Str.length]
  rw [hl] at h1 h4 h5
  have hn := line63
  exact tail_any (typeIs_str s z t) slot_str_getitem.lookup (getItem_str (c := c) (by
    have e1 : decide (i < -(2 ^ 63 : Int)) = false := decide_eq_false (by omega)
    have e2 : decide (i ≥ 2 ^ 63) = false := decide_eq_false (by omega)
    rw [e1, e2, Bool.or_false]) (by rw [h1]; simpa using h2) ⟨.str ⟨#[c]⟩, H, I.tok _, ⟨_, rfl⟩, q⟩) hs
/-- list, tuple or str -/
def rIx (K : PySem.W.Frag) : R2 := fun x y H Q => rIxL K x y H Q ∨ rIxT K x y H Q ∨ rIxS x y H Q
theorem ix_seq : IxR X (rIx X.K) := ix_list.or (ix_tup.or ix_str)

/-! ### xs[i] = v, any sign -/
/-- the list's object behind a store -/
theorem mapSeq_set (its : List Value) (n j : Nat) (u : Value) : Obj.mapSeq (·.setIfInBounds j u) { cls := .type "list", data := .seq its.toArray n } = { cls := .type "list", data := .seq (its.set j u).toArray n } := by
  simp [Obj.mapSeq]
theorem Inv.lst {pins : List (Addr × Obj)} {σ : St} {H : Hp} {s : Shared} {p : Addr} {xs : List V} (I : Inv X pins σ H s) (h : H p = some (.lst xs)) :
    ∃ (its : List Value) (n : Nat), Vals xs its ∧ s.heap.get? p = some { cls := .type "list", data := .seq its.toArray n } ∧ xs.length ≤ sizeLine := by
  obtain ⟨z, its, n, r, e⟩ := I.hok p _ h
  exact ⟨its, n, r, e, z⟩
/-- the list at p is written by an update of its object -/
theorem Inv.lstUpd {pins : List (Addr × Obj)} {σ : St} {H : Hp} {s : Shared} {p : Addr} {xs ys : List V} {its its' : List Value} {n n' : Nat} {f : Obj → Obj} (I : Inv X pins σ H s) (h : H p = some (.lst xs))
    (ho : s.heap.get? p = some { cls := .type "list", data := .seq its.toArray n }) (hf : f { cls := .type "list", data := .seq its.toArray n } = { cls := .type "list", data := .seq its'.toArray n' }) (r : Vals ys its') (hz : ys.length ≤ sizeLine) (t : Nat) :
    Inv X pins σ (upd H p (.lst ys)) { s with heap := s.heap.update p f, toks := t } := by
  have e : (s.heap.update p f).get? p = some { cls := .type "list", data := .seq its'.toArray n' } := by
    rw [Heap.get?_update_self f ho (by rw [hf] <;> rfl), hf]
  refine I.write (x := p) (e := p) (by rw [h]; trivial) (.inl rfl) (fun b u hb q => (Heap.get?_update_other _ _ (Ne.symm hb)).trans q) ⟨_, e⟩ ?_
  exact ⟨hz, its', n', r, e⟩
def rSetL : V → V → V → Hp → (Hp → Prop) → Prop := fun o i v H Q => ∃ p xs k j, o = .ref p ∧ i = .int k ∧ H p = some (.lst xs) ∧ ixN xs.length k = some j ∧ Q (upd H p (.lst (xs.set j v)))
theorem set_list : PSet X rSetL := by
  intro pins s σ H o i v ov iv u Q I ro ri rv h
  obtain ⟨p, xs, k, j, rfl, rfl, hp, hj, q⟩ := h
  cases ro
  obtain ⟨t, rfl⟩ := ri
  obtain ⟨its, n, r, ho, hz⟩ := I.lst hp
  obtain ⟨h1, h2, h3, h4⟩ := ixN_seq hj
  have hl := r.length
  have hn := line63
  have I' : Inv X pins σ (upd H p (.lst (xs.set j v))) { s with heap := s.heap.update p (Obj.mapSeq (·.setIfInBounds j u)) } :=
    I.lstUpd hp ho (mapSeq_set its n j u) (r.set rv j) (by rw [List.length_set]; exact hz) s.toks
  by_cases h0 : 0 ≤ k
  · have hk : k.toNat = j := by
      rw [seqIndex_of h0 h4] at h1
      exact Option.some.inj h1
    exact PySem.W.ki_setAt ho h0 (by omega) (by rw [List.size_toArray, ← hl]; exact h4) (by rw [hk]; exact ⟨_, I', q⟩)
  · have hk : (k + (its.toArray.size : Int)).toNat = j := by
      rw [seqIndex_neg (by omega) h3] at h1
      rw [List.size_toArray, ← hl]
      exact Option.some.inj h1
    exact PySem.W.ki_setBack ho (by omega) (by rw [List.size_toArray, ← hl]; exact h3) (by omega) (by rw [hk]; exact ⟨_, I', q⟩)

/-! ### slices -/
theorem slice_bounds (lo hi : Option Int) (n : Nat) : (sliceBounds lo hi none n).1 = ((HT.sIx n 0 lo : Nat) : Int) ∧ (sliceBounds lo hi none n).2.1 = ((HT.sIx n n hi : Nat) : Int) ∧ (sliceBounds lo hi none n).2.2 = 1 := by
  refine ⟨?_, ?_, rfl⟩
  · cases lo with
    | none => simp [sliceBounds, HT.sIx]
    | some i =>
      simp only [sliceBounds, HT.sIx, Option.getD_none, show (1 : Int) > 0 by decide, if_true]
      by_cases h : i < 0
      · simp only [h, if_true] <;> omega
      · simp only [h, if_false] <;> omega
  · cases hi with
    | none => simp [sliceBounds, HT.sIx]
    | some i =>
      simp only [sliceBounds, HT.sIx, Option.getD_none, show (1 : Int) > 0 by decide, if_true]
      by_cases h : i < 0
      · simp only [h, if_true] <;> omega
      · simp only [h, if_false] <;> omega
theorem slicePick_cut (its : List Value) (lo hi : Option Int) : slicePick its.toArray lo hi none = ((its.drop (HT.sIx its.length 0 lo)).take (HT.sIx its.length its.length hi - HT.sIx its.length 0 lo)).toArray := by
  obtain ⟨h1, h2, h3⟩ := slice_bounds lo hi its.toArray.size
  unfold slicePick
  rw [h1, h2, h3]
  simp only [sliceRange_one, pick_run, List.size_toArray] <;> rfl
/-- xs[lo:hi] of a list: a new list -/
def rSlL (K : PySem.W.Frag) : V → Option Int → Option Int → Hp → VK → Prop := fun x lo hi H Q => ∃ a xs, x = .ref a ∧ SqL K H a xs ∧ ∀ p, H p = none → Q (.ref p) (upd H p (.lst (cutV xs lo hi)))
theorem sl_list : SlR X (rSlL X.K) := by
  intro pins s σ H x v vl vu lo hi sl Q I rx hs pl pu h
  obtain ⟨a, xs, rfl, hx, q⟩ := h
  cases rx
  obtain ⟨its, r, ht, hz⟩ := I.list hx
  have hlen := r.length
  refine ⟨"list", _, slot_list_getitem.lookup, ht.isList.typeIs, ?_⟩
  refine wpAny_getItem_list_slice ht.isList hs pl pu .none (by simp) ?_ (by rw [List.size_toArray] <;> omega)
  rw [slicePick_cut, ← hlen]
  refine ⟨.ref s.heap.objs.size, _, I.laid (t' := s.toks) (o := .lst (cutV xs lo hi)) (fun b ob q => Heap.get?_push_of_some _ q) (Nat.le_refl _) ?_, rfl, q _ (I.hok.fresh (Nat.le_refl _))⟩
  exact ⟨Nat.le_trans (cutV_length xs lo hi) hz, _, 0, (r.drop (HT.sIx xs.length 0 lo)).take (HT.sIx xs.length xs.length hi - HT.sIx xs.length 0 lo), Heap.get?_push_size _ rfl⟩

/-! ### in, not in: flat items -/
def flatV : V → Bool
  | .non => true
  | .bl _ => true
  | .int _ => true
  | .str _ => true
  | _ => false
/-- == of flat values -/
def eqV : V → V → Bool
  | .non, .non => true
  | .bl a, .bl b => a == b
  | .bl a, .int b => (if a then 1 else 0) == b
  | .int a, .bl b => a == (if b then 1 else 0)
  | .int a, .int b => a == b
  | .str a, .str b => a == b
  | _, _ => false
theorem eqAt_V {A : Around} {s : Shared} {y x : V} {u v : Value} (ry : RelV y u) (rx : RelV x v) (fy : flatV y = true) (fx : flatV x = true) : SeqAt.EqAt A s u v (eqV y x) := by
  cases y with
  | non =>
    cases ry
    cases x with
    | non => cases rx; exact SeqAt.EqAt.same _
    | bl b => cases rx; exact SeqAt.EqAt.none_bool b
    | int b => obtain ⟨t, rfl⟩ := rx; exact SeqAt.EqAt.none_int b t
    | str b => obtain ⟨t, rfl⟩ := rx; exact SeqAt.EqAt.none_str b t
    | _ => exact absurd (show false = true from fx) Bool.false_ne_true
  | bl a =>
    cases ry
    cases x with
    | non => cases rx; exact SeqAt.EqAt.bool_none a
    | bl b => cases rx; exact SeqAt.EqAt.bool_bool a b
    | int b => obtain ⟨t, rfl⟩ := rx; exact SeqAt.EqAt.bool_int a b t
    | str b => obtain ⟨t, rfl⟩ := rx; exact SeqAt.EqAt.bool_str a b t
    | _ => exact absurd (show false = true from fx) Bool.false_ne_true
  | int a =>
    obtain ⟨t', rfl⟩ := ry
    cases x with
    | non => cases rx; exact SeqAt.EqAt.int_none a t'
    | bl b => cases rx; exact SeqAt.EqAt.int_bool a t' b
    | int b => obtain ⟨t, rfl⟩ := rx; exact SeqAt.EqAt.int_int a t' b t
    | str b => obtain ⟨t, rfl⟩ := rx; exact SeqAt.EqAt.int_str a t' b t
    | _ => exact absurd (show false = true from fx) Bool.false_ne_true
  | str a =>
    obtain ⟨t', rfl⟩ := ry
    cases x with
    | non => cases rx; exact SeqAt.EqAt.str_none a t'
    | bl b => cases rx; exact SeqAt.EqAt.str_bool a t' b
    | int b => obtain ⟨t, rfl⟩ := rx; exact SeqAt.EqAt.str_int a t' b t
    | str b => obtain ⟨t, rfl⟩ := rx; exact SeqAt.EqAt.str_str a t' b t
    | _ => exact absurd (show false = true from fx) Bool.false_ne_true
  | _ => exact absurd (show false = true from fy) Bool.false_ne_true
/-- the items' answers, read off the values (a value's own answer does not lean on its token) -/
def eqU (x : V) (u : Value) : Bool := match u with
  | .none => eqV .non x
  | .bool b => eqV (.bl b) x
  | .int i _ => eqV (.int i) x
  | .str z _ => eqV (.str z) x
  | _ => false
theorem eqU_of {x y : V} {u : Value} (r : RelV y u) (f : flatV y = true) : eqU x u = eqV y x := by
  cases y with
  | non => cases r; rfl
  | bl b => cases r; rfl
  | int i => obtain ⟨t, rfl⟩ := r; rfl
  | str z => obtain ⟨t, rfl⟩ := r; rfl
  | _ => exact absurd (show false = true from f) Bool.false_ne_true
theorem any_eqU {x : V} : ∀ {xs : List V} {us : List Value}, Vals xs us → xs.all flatV = true → us.any (eqU x) = xs.any fun y => eqV y x
  | _, _, .nil, _ => rfl
  | y :: xs, u :: us, .cons r t, f => by
    rw [List.all_cons, Bool.and_eq_true] at f
    rw [List.any_cons, List.any_cons, eqU_of r f.1, any_eqU t f.2]
theorem mem_eqAt {A : Around} {s : Shared} {x : V} {v : Value} (rx : RelV x v) (fx : flatV x = true) : ∀ {xs : List V} {us : List Value}, Vals xs us → xs.all flatV = true → ∀ u ∈ us, SeqAt.EqAt A s u v (eqU x u)
  | _, _, .nil, _ => fun u hu => by cases hu
  | y :: xs, u :: us, .cons r t, f => fun u' hu => by
    rw [List.all_cons, Bool.and_eq_true] at f
    rcases List.mem_cons.mp hu with rfl | hu
    · rw [eqU_of r f.1]; exact eqAt_V r rx f.1 fx
    · exact mem_eqAt rx fx t f.2 u' hu
def inV (x : V) (xs : List V) : Bool := xs.any fun y => eqV y x
/-- x in a list or tuple of flat items -/
def rIn (K : PySem.W.Frag) (neg : Bool) : R2 := fun x y H Q => ∃ p xs, y = .ref p ∧ (SqL K H p xs ∨ SqT K H p xs) ∧ flatV x = true ∧ xs.all flatV = true ∧ Q (.bl (if neg then !inV x xs else inV x xs)) H
theorem op_in_seq : OpR X (compareOp .In) (rIn X.K false) := by
  intro pins s σ H x y v u Q I rx ry h
  obtain ⟨p, xs, rfl, hq, fx, fs, q⟩ := h
  cases ry
  rcases hq with hq | hq
  · obtain ⟨its, r, pl, hz⟩ := I.list hq
    refine SeqAt.in_listAt (eqU x) pl.isList (fun w hw => mem_eqAt rx fx r fs w (by simpa using hw)) ⟨.bl _, H, I, rfl, ?_⟩
    rw [show its.toArray.any (eqU x) = its.any (eqU x) by simp, any_eqU r fs]
    exact q
  · obtain ⟨its, r, pl, hz⟩ := I.tuple hq
    refine SeqAt.in_tupleAt (eqU x) pl (fun w hw => mem_eqAt rx fx r fs w (by simpa using hw)) ⟨.bl _, H, I, rfl, ?_⟩
    rw [show its.toArray.any (eqU x) = its.any (eqU x) by simp, any_eqU r fs]
    exact q
theorem op_notIn_seq : OpR X (compareOp .NotIn) (rIn X.K true) := by
  intro pins s σ H x y v u Q I rx ry h
  obtain ⟨p, xs, rfl, hq, fx, fs, q⟩ := h
  cases ry
  rcases hq with hq | hq
  · obtain ⟨its, r, pl, hz⟩ := I.list hq
    refine SeqAt.notIn_listAt (eqU x) pl.isList (fun w hw => mem_eqAt rx fx r fs w (by simpa using hw)) ⟨.bl _, H, I, rfl, ?_⟩
    rw [show its.toArray.any (eqU x) = its.any (eqU x) by simp, any_eqU r fs]
    exact q
  · obtain ⟨its, r, pl, hz⟩ := I.tuple hq
    refine SeqAt.notIn_tupleAt (eqU x) pl (fun w hw => mem_eqAt rx fx r fs w (by simpa using hw)) ⟨.bl _, H, I, rfl, ?_⟩
    rw [show its.toArray.any (eqU x) = its.any (eqU x) by simp, any_eqU r fs]
    exact q
theorem op_notIn_str : OpR X (compareOp .NotIn) (fun x y H Q => ∃ i j, x = .str i ∧ y = .str j ∧ Q (.bl (!(!(Builtin.Str.occurrences j i 0 j.length 1).isEmpty))) H) := by
  intro pins s σ H x y v u Q I rx ry h
  obtain ⟨i, j, rfl, rfl, q⟩ := h
  obtain ⟨t, rfl⟩ := rx
  obtain ⟨t', rfl⟩ := ry
  exact notIn_str ⟨.bl _, H, I, rfl, q⟩

/-! ### len, list(x), tuple(x) of any list or tuple that is read -/
theorem call_len_seq : CallR X (.builtin "len") (fun xs H Q => ∃ p ys, xs = [.ref p] ∧ (SqL X.K H p ys ∨ SqT X.K H p ys) ∧ Q (.int ys.length) H) := by
  intro pins s σ H xs us Q I r h
  obtain ⟨p, ys, rfl, hq, q⟩ := h
  obtain ⟨u, rfl, rx⟩ := vals1 r
  cases rx
  have hn := line63
  rcases hq with hq | hq
  · obtain ⟨its, r', pl, hz⟩ := I.list hq
    have hlen := r'.length
    exact Calls.call_len_list pl.isList (by simp only [List.size_toArray] <;> omega) ⟨.int ys.length, H, I.tok _, ⟨s.toks + 1, by rw [List.size_toArray, hlen]⟩, q⟩
  · obtain ⟨its, r', pl, hz⟩ := I.tuple hq
    have hlen := r'.length
    exact len_tuple pl (by simp only [List.size_toArray] <;> omega) ⟨.int ys.length, H, I.tok _, ⟨s.toks + 1, by rw [List.size_toArray, hlen]⟩, q⟩
theorem call_len_str : CallR X (.builtin "len") (fun xs H Q => ∃ z, xs = [.str z] ∧ z.length ≤ sizeLine ∧ Q (.int z.length) H) := by
  intro pins s σ H xs us Q I r h
  obtain ⟨z, rfl, hz, q⟩ := h
  obtain ⟨u, rfl, t, rfl⟩ := vals1 r
  have hn := line63
  exact len_str (by omega) ⟨.int z.length, H, I.tok _, ⟨_, rfl⟩, q⟩
theorem CallR.or {f : Value} {r r' : List V → Hp → VK → Prop} (h : CallR X f r) (h' : CallR X f r') : CallR X f (fun xs H Q => r xs H Q ∨ r' xs H Q) := by
  intro pins s σ H xs us Q I rs q
  rcases q with q | q
  · exact h pins s σ H xs us Q I rs q
  · exact h' pins s σ H xs us Q I rs q
theorem call_list_of : CallR X (.type "list") (fun xs H Q => ∃ p ys, xs = [.ref p] ∧ (SqL X.K H p ys ∨ SqT X.K H p ys) ∧ ∀ l, H l = none → Q (.ref l) (upd H l (.lst ys))) := by
  intro pins s σ H xs us Q I r h
  obtain ⟨p, ys, rfl, hq, q⟩ := h
  obtain ⟨u, rfl, rx⟩ := vals1 r
  cases rx
  have fin : ∀ (its : List Value), Vals ys its → ys.length ≤ sizeLine → ∀ (h' : Heap) (c' : Nat), (∀ b o', s.heap.get? b = some o' → h'.get? b = some o') →
      h'.get? s.heap.objs.size = some { cls := .type "list", dict := none, data := .seq its.toArray c', slots := #[] } → EP X pins σ Q (.ref s.heap.objs.size) { s with heap := h' } := fun its r' hz h' c' kp e =>
    ⟨.ref s.heap.objs.size, _, I.laid (t' := s.toks) kp (Nat.le_refl _) (show ObjOk X.prog X.w _ h' _ (.lst ys) from ⟨hz, its, c', r', e⟩), rfl, q _ (I.hok.fresh (Nat.le_refl _))⟩
  rcases hq with hq | hq
  · obtain ⟨its, r', pl, hz⟩ := I.list hq
    have hlen := r'.length
    obtain ⟨o, ho, hc, n, hd⟩ := pl.isList
    exact call_list_seq p (.inl rfl) ho hc hd (fun h' c' kp e => fin its r' hz h' c' kp e) (by simp only [List.size_toArray] <;> omega)
  · obtain ⟨its, r', pl, hz⟩ := I.tuple hq
    have hlen := r'.length
    obtain ⟨o, ho, hc, n, hd⟩ := pl
    exact call_list_seq p (.inr rfl) ho hc hd (fun h' c' kp e => fin its r' hz h' c' kp e) (by simp only [List.size_toArray] <;> omega)
theorem call_tuple_of : CallR X (.type "tuple") (fun xs H Q => ∃ p ys, xs = [.ref p] ∧ ((SqL X.K H p ys ∧ ∀ l, H l = none → Q (.ref l) (upd H l (.tup ys))) ∨ (SqT X.K H p ys ∧ Q (.ref p) H))) := by
  intro pins s σ H xs us Q I r h
  obtain ⟨p, ys, rfl, h⟩ := h
  obtain ⟨u, rfl, rx⟩ := vals1 r
  cases rx
  rcases h with ⟨hq, q⟩ | ⟨hq, q⟩
  · obtain ⟨its, r', pl, hz⟩ := I.list hq
    have hlen := r'.length
    refine call_tuple_list pl.isList (fun h' kp => ?_) (by simp only [List.size_toArray] <;> omega)
    have I1 : Inv X pins σ H { s with heap := h' } := I.kept (t' := s.toks) kp
    have I2 : Inv X pins σ (upd H h'.objs.size (.tup ys)) { s with heap := h'.push { cls := .type "tuple", data := .seq its.toArray } } :=
      I1.laid (t' := s.toks) (fun b o e => Heap.get?_push_of_some _ e) (Nat.le_refl _) (show ObjOk X.prog X.w _ _ _ (.tup ys) from ⟨hz, its, r', IsTup.new _ _⟩)
    exact ⟨.ref h'.objs.size, _, I2, rfl, q _ (I1.hok.fresh (Nat.le_refl _))⟩
  · obtain ⟨its, r', pl, hz⟩ := I.tuple hq
    exact call_tuple_same pl ⟨.ref p, H, I, rfl, q⟩

/-! ### the call of a builtin's method: o.m(..) -/
/-- the value is of that builtin type -/
def tyV (K : PySem.W.Frag) (T : String) (x : V) (H : Hp) : Prop := match x with
  | .str _ => T = "str"
  | .int _ => T = "int"
  | .ref p => (T = "list" ∧ ∃ xs, SqL K H p xs) ∨ (T = "tuple" ∧ ∃ o, K.lookup p = some o ∧ o.cls = .type "tuple" ∧ o.dict = none) ∨
      (T = "dict" ∧ ((∃ kvs, H p = some (.dK kvs)) ∨ ∃ kvs, H p = some (.dT kvs))) ∨ (T = "set" ∧ ∃ S n, H p = some (.set S n))
  | _ => False
theorem tyV_is {pins : List (Addr × Obj)} {σ : St} {H : Hp} {s : Shared} {T : String} {x : V} {v : Value} (I : Inv X pins σ H s) (r : RelV x v) (ty : tyV X.K T x H) :
    s.TypeIs v T ∧ ∀ a, v = .ref a → ∃ ob, s.heap.get? a = some ob ∧ ob.dict = none := by
  cases x with
  | str z =>
    obtain ⟨t, rfl⟩ := r
    cases (show T = "str" from ty)
    exact ⟨typeIs_str s z t, fun _ e => nomatch e⟩
  | int i =>
    obtain ⟨t, rfl⟩ := r
    cases (show T = "int" from ty)
    exact ⟨typeIs_int s i t, fun _ e => nomatch e⟩
  | ref p =>
    cases r
    rcases ty with ⟨rfl, xs, hq⟩ | ⟨rfl, o, hk, hc, hd⟩ | ⟨rfl, hk⟩ | ⟨rfl, S, n, hk⟩
    · obtain ⟨its, _, pl, _⟩ := I.list hq
      refine ⟨pl.isList.typeIs, fun a e => ?_⟩
      cases e
      obtain ⟨o, n, e, c, hd, _⟩ := pl
      exact ⟨o, e, hd⟩
    · refine ⟨⟨o, I.kIn p o hk, hc⟩, fun a e => ?_⟩
      cases e
      exact ⟨o, I.kIn _ o hk, hd⟩
    · have z : ∃ o, s.heap.get? p = some o ∧ o.ExactDict := by
        rcases hk with ⟨kvs, hk⟩ | ⟨kvs, hk⟩
        · obtain ⟨_, _, _, _, o, _, _, e, ex, _⟩ := I.hok p _ hk
          exact ⟨o, e, ex⟩
        · obtain ⟨_, _, _, _, o, _, _, e, ex, _⟩ := I.hok p _ hk
          exact ⟨o, e, ex⟩
      obtain ⟨o, e, ex⟩ := z
      refine ⟨⟨o, e, ex.1⟩, fun a e2 => ?_⟩
      cases e2
      exact ⟨o, e, ex.2.1⟩
    · obtain ⟨o, _, _, _, e, ex, _⟩ := I.hok p _ hk
      refine ⟨⟨o, e, ex.1⟩, fun a e2 => ?_⟩
      cases e2
      exact ⟨o, e, ex.2.1⟩
  | _ => exact False.elim ty
def tBM0 (K : PySem.W.Frag) (T : String) (r : V → List V → Hp → VK → Prop) (to : TE) : TE := fun σ H Q => to σ H fun x H1 => tyV K T x H1 ∧ r x [] H1 Q
def tBM (K : PySem.W.Frag) (T : String) (r : V → List V → Hp → VK → Prop) (to : TE) (t : TA) : TE := fun σ H Q => to σ H fun x H1 => tyV K T x H1 ∧ t σ H1 fun xs H2 => r x xs H2 Q
variable {o e : Expr} {es : List Expr} {to : TE} {t : TA} {name : Str} {apos cpos : Pos} {T id : String} {r : V → List V → Hp → VK → Prop}
theorem pe_bm0 (pa : PlainAttrs T) (slot : Slot T name id) (hty : typeOf (.builtin id) = pure (.type "method_descriptor")) (hm : MtR X id r) (ho : PE X o to)
    (hbase : attributeBase o name X.env (eval o X.env) = eval o X.env := by rfl) (hline : (apos.endLine == cpos.line) = true := by rfl) : PE X (.Call (.Attribute o name apos) [] [] cpos) (tBM0 X.K T r to) := by
  intro pins s σ H Q I h
  refine wpAny_Call_method0_late hbase hline (thn (ho pins s σ H _ I h) fun v s1 ⟨x, H1, I1, r1, ty, q1⟩ => ?_)
  obtain ⟨h1, h2⟩ := tyV_is I1 r1 ty
  exact ⟨T, id, pa, slot, hty, h1, h2, Calls.callWith_builtin rfl (PySem.evalArgs_none (hm pins s1 σ H1 x [] v [] Q I1 r1 .nil q1))⟩
theorem pe_bm (pa : PlainAttrs T) (slot : Slot T name id) (hty : typeOf (.builtin id) = pure (.type "method_descriptor")) (hm : MtR X id r) (ho : PE X o to) (ha : PA X (e :: es) t)
    (hbase : attributeBase o name X.env (eval o X.env) = eval o X.env := by rfl)
    (hfew : ((backTo cpos (starEach (e :: es) X.env)).all (fun x => !x.1) && (backToKw cpos (keywordEach [] X.env)).all (fun x => x.1.isSome)
      && decide ((e :: es).length + ([] : List Keyword).length + (if ([] : List Keyword).isEmpty then 0 else 1) < 30)) = true := by rfl)
    (hline : (apos.endLine == cpos.line) = true := by rfl) (hs : starEach (e :: es) X.env = (false, eval e X.env) :: starEach es X.env := by rfl) (hplain : (backTo cpos (starEach es X.env)).any (·.1) = false := by rfl) :
    PE X (.Call (.Attribute o name apos) (e :: es) [] cpos) (tBM X.K T r to t) := by
  intro pins s σ H Q I h
  refine wpAny_Call_method_late hbase hfew hline rfl (thn (ho pins s σ H _ I h) fun v s1 ⟨x, H1, I1, r1, ty, q1⟩ => ?_)
  obtain ⟨h1, h2⟩ := tyV_is I1 r1 ty
  refine ⟨T, id, pa, slot, hty, h1, h2, ?_⟩
  have hA := ha cpos pins s1 σ H1 _ I1 q1
  rw [hs] at hA ⊢
  refine Calls.callWith_builtin (by show (false || (backTo cpos (starEach es X.env)).any (·.1)) = false; rw [hplain] <;> rfl) (Calls.evalArgs_plain ?_)
  exact thn hA fun us s2 ⟨vs, H2, I2, r2, q2⟩ => hm pins s2 σ H2 x vs v us Q I2 r1 r2 q2
/- xs.append(e), list.index on a module's tuple .. are MtR facts of 06m -/
end
end L2

namespace L2
open PySem PySem.Spec PyProof.Rows

def MtM (X : Cx) (id : String) (r : V → List V → Hp → VK → Prop) : Prop :=
  ∀ (pins : List (Addr × Obj)) (s : Shared) (σ : St) (H : Hp) (x : V) (xs : List V) (v : Value) (us : List Value) (Q : VK), Inv X pins σ H s → RelV x v → Vals xs us → r x xs H Q →
    wpAny (model X.prog X.w) X.A (call (.builtin id) (v :: us)) (EP X pins σ Q) X.xe s

/-! ### lists of values -/
theorem Vals.one : ∀ {x : V} {us : List Value}, Vals [x] us → ∃ u, us = [u] ∧ RelV x u
  | _, _, .cons r .nil => ⟨_, rfl, r⟩
theorem Vals.two : ∀ {x y : V} {us : List Value}, Vals [x, y] us → ∃ u v, us = [u, v] ∧ RelV x u ∧ RelV y v
  | _, _, _, .cons r (.cons q .nil) => ⟨_, _, rfl, r, q⟩
theorem Vals.zero : ∀ {us : List Value}, Vals [] us → us = []
  | _, .nil => rfl
theorem Vals.dropLast {xs : List V} {us : List Value} (h : Vals xs us) : Vals xs.dropLast us.dropLast := by
  induction h with
  | nil => exact .nil
  | cons r t ih =>
    cases t with
    | nil => exact .nil
    | cons q t' => exact .cons r ih
theorem Vals.eraseIdx : ∀ {xs : List V} {us : List Value} (i : Nat), Vals xs us → Vals (xs.eraseIdx i) (us.eraseIdx i)
  | _, _, _, .nil => .nil
  | _, _, 0, .cons _ t => t
  | _, _, i + 1, .cons r t => .cons r (Vals.eraseIdx i t)
theorem Vals.reverse {xs : List V} {us : List Value} (h : Vals xs us) : Vals xs.reverse us.reverse := by
  induction h with
  | nil => exact .nil
  | cons r t ih => rw [List.reverse_cons, List.reverse_cons]; exact Vals.append ih (.cons r .nil)
theorem Vals.rep {xs : List V} {us : List Value} (h : Vals xs us) : ∀ k : Nat, Vals (List.replicate k xs).flatten (List.replicate k us).flatten
  | 0 => .nil
  | k + 1 => by
    rw [List.replicate_succ, List.replicate_succ, List.flatten_cons, List.flatten_cons]
    exact Vals.append h (Vals.rep h k)
theorem erase_last {α : Type} (l : List α) : l.eraseIdx (l.length - 1) = l.dropLast := by
  induction l with
  | nil => rfl
  | cons a r ih =>
    cases r with
    | nil => rfl
    | cons b r =>
      have e : (a :: b :: r).length - 1 = ((b :: r).length - 1) + 1 := by
        have h1 : (a :: b :: r).length = r.length + 2 := rfl
        have h2 : (b :: r).length = r.length + 1 := rfl
        omega
      rw [e, List.eraseIdx_cons_succ, ih]
      all_goals rfl
theorem len_erase {α : Type} : ∀ (l : List α) (i : Nat), (l.eraseIdx i).length ≤ l.length
  | [], _ => Nat.le_refl _
  | _ :: _, 0 => Nat.le_succ _
  | _ :: r, i + 1 => Nat.succ_le_succ (len_erase r i)
theorem foldl_rep (its : List Value) : ∀ (k : Nat) (acc : List Value),
    List.foldl (fun x1 x2 => x1 ++ x2) acc.toArray (List.replicate k its.toArray) = (acc ++ (List.replicate k its).flatten).toArray
  | 0, acc => by simp
  | k + 1, acc => by
    have e : acc.toArray ++ its.toArray = (acc ++ its).toArray := by simp
    have e2 : (acc ++ its) ++ (List.replicate k its).flatten = acc ++ (List.replicate (k + 1) its).flatten := by
      rw [List.replicate_succ, List.flatten_cons, List.append_assoc]
    rw [← e2, ← foldl_rep its k (acc ++ its), ← e, List.replicate_succ, List.foldl_cons]

section
variable {X : Cx} {pins : List (Addr × Obj)} {σ : St} {H : Hp} {s : Shared} {l b : Addr} {xs ys zs : List V}

/-! ### the two steps: a tracked list is rewritten, a new list is laid -/
theorem Inv.lset {its its' : List Value} {n : Nat} {f : Array Value → Array Value} {t' : Nat} (I : Inv X pins σ H s) (hH : H l = some (.lst xs))
    (e : s.heap.get? l = some { cls := .type "list", data := .seq its.toArray n }) (hf : f its.toArray = its'.toArray) (hv : Vals ys its') (hz : ys.length ≤ sizeLine) :
    Inv X pins σ (upd H l (.lst ys)) { s with heap := s.heap.update l (Obj.mapSeq f), toks := t' } := by
  have q := PySem.IsL.update e f
  rw [hf] at q
  refine I.write (x := l) (e := l) (by rw [hH]; exact trivial) (.inl rfl) (fun b' u hb hu => (Heap.get?_update_other s.heap (Obj.mapSeq f) (Ne.symm hb)).trans hu) ⟨_, q⟩ ?_
  exact ⟨hz, its', _, hv, q⟩
theorem Inv.lnew {its : List Value} {t' : Nat} (I : Inv X pins σ H s) (hv : Vals ys its) (hz : ys.length ≤ sizeLine) :
    Inv X pins σ (upd H s.heap.objs.size (.lst ys)) { s with heap := s.heap.push { cls := .type "list", data := .seq its.toArray }, toks := t' } :=
  I.laid (fun _ _ q => Heap.get?_push_of_some _ q) (Nat.le_refl _) ⟨hz, its, 0, hv, Heap.get?_push_size _ rfl⟩
theorem Inv.fresh (I : Inv X pins σ H s) : H s.heap.objs.size = none := I.hok.fresh (Nat.le_refl _)
theorem Inv.lstM (I : Inv X pins σ H s) (hH : H l = some (.lst xs)) : xs.length ≤ sizeLine ∧ ∃ (its : List Value) (n : Nat), Vals xs its ∧ xs.length = its.length ∧ s.heap.get? l = some { cls := .type "list", data := .seq its.toArray n } := by
  obtain ⟨z, its, n, r, e⟩ := I.hok l _ hH
  exact ⟨z, its, n, r, r.length, e⟩

theorem notLongL {n : Nat} (h : n ≤ sizeLine) : Builtin.List.listTooLong n = false := by
  unfold Builtin.List.listTooLong
  exact decide_eq_false (by omega)
end

section
variable {X : Cx}

/-! ### methods -/
def rAppend : V → List V → Hp → VK → Prop := fun x vs H Q => ∃ l xs y, x = .ref l ∧ vs = [y] ∧ H l = some (.lst xs) ∧ xs.length < sizeLine ∧ Q .non (upd H l (.lst (xs ++ [y])))
theorem mt_append : MtM X "list.append" rAppend := by
  intro pins s σ H x vs v us Q I rx rv h
  obtain ⟨l, xs, y, rfl, rfl, hH, hz, q⟩ := h
  cases rx
  obtain ⟨u, rfl, ru⟩ := rv.one
  obtain ⟨z, its, n, r, hl, e⟩ := I.lstM hH
  refine call_meets F.slot_list_append ⟨_, e, rfl⟩ F.entry_list_append (F.args_list_append_2 _ _) (PySem.list_append l its.toArray n u (by rw [List.size_toArray]; omega)) ⟨e, ?_⟩
  refine ⟨.non, _, I.lset (its' := its ++ [u]) hH e (by simp) (r.append (.cons ru .nil)) ?_, rfl, q⟩
  rw [List.length_append, List.length_singleton]
  omega

def rExtend : V → List V → Hp → VK → Prop := fun x vs H Q => ∃ l b xs zs, x = .ref l ∧ vs = [.ref b] ∧ H l = some (.lst xs) ∧ H b = some (.lst zs) ∧ xs.length + zs.length ≤ sizeLine ∧ Q .non (upd H l (.lst (xs ++ zs)))
theorem mt_extend : MtM X "list.extend" rExtend := by
  intro pins s σ H x vs v us Q I rx rv h
  obtain ⟨l, b, xs, zs, rfl, rfl, hH, hB, hz, q⟩ := h
  cases rx
  obtain ⟨u, rfl, ru⟩ := rv.one
  cases ru
  obtain ⟨z, its, n, r, hl, e⟩ := I.lstM hH
  obtain ⟨z2, its2, n2, r2, hl2, e2⟩ := I.lstM hB
  have hsz : its.toArray.size + its2.toArray.size ≤ sizeLine := by rw [List.size_toArray, List.size_toArray]; omega
  have hlong : ¬ (!its.toArray.isEmpty && Builtin.List.listTooLong (its.toArray.size + its2.toArray.size)) = true := by
    rw [notLongL hsz, Bool.and_false]
    exact Bool.false_ne_true
  refine call_meets F.slot_list_extend ⟨_, e, rfl⟩ F.entry_list_extend (F.args_list_extend_2 _ _)
    (AutoSeq1.list_extend_list_list_0 l its.toArray n b its2.toArray n2 hlong (by rw [List.size_toArray]; omega) (by omega)) ⟨e, e2, ?_⟩
  refine ⟨.non, _, I.lset (its' := its ++ its2) hH e (by simp) (r.append r2) ?_, rfl, q⟩
  rw [List.length_append]
  omega

def rPop : V → List V → Hp → VK → Prop := fun x vs H Q => ∃ l xs y, x = .ref l ∧ vs = [] ∧ H l = some (.lst xs) ∧ xs[xs.length - 1]? = some y ∧ Q y (upd H l (.lst xs.dropLast))
theorem mt_pop : MtM X "list.pop" rPop := by
  intro pins s σ H x vs v us Q I rx rv h
  obtain ⟨l, xs, y, rfl, rfl, hH, hy, q⟩ := h
  cases rx
  have hus := rv.zero
  subst hus
  obtain ⟨z, its, n, r, hl, e⟩ := I.lstM hH
  obtain ⟨u, hu, ru⟩ := r.get hy
  have hy' : its.toArray[its.toArray.size - 1]? = some u := by
    show its.toArray[its.length - 1]? = some u
    rw [← Array.getElem?_toList, ← hl]
    exact hu
  refine call_meets F.slot_list_pop ⟨_, e, rfl⟩ F.entry_list_pop (F.args_list_pop_1 _) (MeetsSeq.list_pop_last l its.toArray n u hy' (by rw [List.size_toArray]; omega)) ⟨e, ?_⟩
  refine ⟨y, _, I.lset (its' := its.dropLast) hH e ?_ r.dropLast ?_, ru, q⟩
  · show its.toArray.eraseIdxIfInBounds (its.toArray.size - 1) = its.dropLast.toArray
    rw [List.size_toArray, List.eraseIdxIfInBounds_toArray, erase_last]
  · rw [List.length_dropLast]
    omega

def rPopAt : V → List V → Hp → VK → Prop := fun x vs H Q => ∃ l xs i k y, x = .ref l ∧ vs = [.int i] ∧ H l = some (.lst xs) ∧ -(2 ^ 63) ≤ i ∧ i < 2 ^ 63 ∧ seqIndex? i xs.length = some k ∧ xs[k]? = some y ∧ Q y (upd H l (.lst (xs.eraseIdx k)))
theorem mt_popAt : MtM X "list.pop" rPopAt := by
  intro pins s σ H x vs v us Q I rx rv h
  obtain ⟨l, xs, i, k, y, rfl, rfl, hH, h1, h2, hk, hy, q⟩ := h
  cases rx
  obtain ⟨u, rfl, ru⟩ := rv.one
  obtain ⟨t, rfl⟩ := ru
  obtain ⟨z, its, n, r, hl, e⟩ := I.lstM hH
  obtain ⟨w, hw, rw'⟩ := r.get hy
  refine call_meets F.slot_list_pop ⟨_, e, rfl⟩ F.entry_list_pop (F.args_list_pop_2 _ _)
    (MeetsSeq.list_pop_at l its.toArray n i t k w (fitsIndex_both h1 h2) (by rw [List.size_toArray, ← hl]; exact hk) (by rw [← Array.getElem?_toList]; exact hw) (by rw [List.size_toArray]; omega)) ⟨e, ?_⟩
  refine ⟨y, _, I.lset (its' := its.eraseIdx k) hH e ?_ (r.eraseIdx k) ?_, rw', q⟩
  · show its.toArray.eraseIdxIfInBounds k = (its.eraseIdx k).toArray
    rw [List.eraseIdxIfInBounds_toArray]
  · have := len_erase xs k
    omega

def rReverse : V → List V → Hp → VK → Prop := fun x vs H Q => ∃ l xs, x = .ref l ∧ vs = [] ∧ H l = some (.lst xs) ∧ Q .non (upd H l (.lst xs.reverse))
theorem mt_reverse : MtM X "list.reverse" rReverse := by
  intro pins s σ H x vs v us Q I rx rv h
  obtain ⟨l, xs, rfl, rfl, hH, q⟩ := h
  cases rx
  have hus := rv.zero
  subst hus
  obtain ⟨z, its, n, r, hl, e⟩ := I.lstM hH
  refine call_meets F.slot_list_reverse ⟨_, e, rfl⟩ F.entry_list_reverse (F.args_list_reverse_1 _) (AutoSeq1.list_reverse_list_0 l its.toArray n (by rw [List.size_toArray]; omega)) ⟨e, ?_⟩
  refine ⟨.non, _, I.lset (its' := its.reverse) hH e (by simp) r.reverse ?_, rfl, q⟩
  rw [List.length_reverse]
  omega

def rClear : V → List V → Hp → VK → Prop := fun x vs H Q => ∃ l xs, x = .ref l ∧ vs = [] ∧ H l = some (.lst xs) ∧ Q .non (upd H l (.lst []))
theorem mt_clear : MtM X "list.clear" rClear := by
  intro pins s σ H x vs v us Q I rx rv h
  obtain ⟨l, xs, rfl, rfl, hH, q⟩ := h
  cases rx
  have hus := rv.zero
  subst hus
  obtain ⟨z, its, n, r, hl, e⟩ := I.lstM hH
  refine call_meets F.slot_list_clear ⟨_, e, rfl⟩ F.entry_list_clear (F.args_list_clear_1 _) (AutoSeq1.list_clear_list_0 l its.toArray n (by rw [List.size_toArray]; omega)) ⟨e, ?_⟩
  exact ⟨.non, _, I.lset (its' := []) (ys := []) hH e rfl .nil (Nat.zero_le _), rfl, q⟩

/-! ### list + list, list += list, list * int -/
def rCat : R2 := fun x y H Q => ∃ l b xs zs, x = .ref l ∧ y = .ref b ∧ H l = some (.lst xs) ∧ H b = some (.lst zs) ∧ xs.length + zs.length ≤ sizeLine ∧ ∀ p, H p = none → Q (.ref p) (upd H p (.lst (xs ++ zs)))
theorem op_cat : OpR X (binaryOp .Add) rCat := by
  intro pins s σ H x y v u Q I rx ry h
  obtain ⟨l, b, xs, zs, rfl, rfl, hH, hB, hz, q⟩ := h
  cases rx
  cases ry
  obtain ⟨z, its, n, r, hl, e⟩ := I.lstM hH
  obtain ⟨z2, its2, n2, r2, hl2, e2⟩ := I.lstM hB
  refine PySem.P.add_list e e2 ?_ (by rw [List.size_toArray, List.size_toArray]; omega)
  have ea : its.toArray ++ its2.toArray = (its ++ its2).toArray := by simp
  rw [ea]
  exact ⟨.ref _, _, I.lnew (t' := s.toks) (r.append r2) (by rw [List.length_append]; omega), rfl, q _ I.fresh⟩
/-- a list times an int (a negative one is nothing) -/
def rRep : R2 := fun x y H Q => ∃ l k xs, x = .ref l ∧ y = .int k ∧ H l = some (.lst xs) ∧ -(2 ^ 63) ≤ k ∧ k < 2 ^ 63 ∧ xs.length * k.toNat ≤ sizeLine ∧
  ∀ p, H p = none → Q (.ref p) (upd H p (.lst (List.replicate k.toNat xs).flatten))
theorem len_rep {α : Type} (xs : List α) (k : Nat) : (List.replicate k xs).flatten.length = k * xs.length := by
  induction k with
  | zero => simp
  | succ k ih => rw [List.replicate_succ, List.flatten_cons, List.length_append, ih, Nat.succ_mul, Nat.add_comm]
theorem op_rep : OpR X (binaryOp .Mult) rRep := by
  intro pins s σ H x y v u Q I rx ry h
  obtain ⟨l, k, xs, rfl, rfl, hH, h1, h2, hz, q⟩ := h
  cases rx
  obtain ⟨t, rfl⟩ := ry
  obtain ⟨z, its, n, r, hl, e⟩ := I.lstM hH
  have hlen : its.toArray.size * k.toNat ≤ sizeLine := by rw [List.size_toArray, ← hl]; exact hz
  have hcap : ¬ its.toArray.size * k.toNat > (2 ^ 63 - 1) / 8 := by
    have : (sizeLine : Nat) ≤ (2 ^ 63 - 1) / 8 := by decide
    omega
  have hfit : ¬ (!Builtin.List.listFitsIndex k) = true := by
    rw [fitsIndex_both h1 h2]
    exact Bool.false_ne_true
  have hlong : ¬ Builtin.List.listTooLong (its.toArray.size * k.toNat) = true := by
    rw [notLongL hlen]
    exact Bool.false_ne_true
  have hnew : List.foldl (fun x1 x2 => x1 ++ x2) #[] (List.replicate (if its.toArray.isEmpty = true then 0 else k.toNat) its.toArray) = (List.replicate k.toNat its).flatten.toArray := by
    have f0 : ∀ m : Nat, List.foldl (fun x1 x2 => x1 ++ x2) #[] (List.replicate m its.toArray) = (List.replicate m its).flatten.toArray := fun m => by
      have := foldl_rep its m []
      rw [List.nil_append] at this
      exact this
    rw [f0]
    cases its with
    | nil => simp
    | cons a r' => rw [if_neg (by simp)]
  refine wpAny_binaryOp_repeat_ref (T := "list") (U := "int") (by decide) ⟨_, e, rfl⟩ (fun s' => typeIs_int s' k t) noFill_list_mul F.fills_int_mul F.slot_int_rmul repeat_list F.slot_int_index.lookup
    (call_meets F.slot_int_rmul (typeIs_int s k t) F.entry_int_rmul (F.args_int_rmul_2 _ _) (int___rmul___int_list k t l its.toArray n)
      ⟨e, rfl, ⟨_, e, rfl⟩, call_meets F.slot_list_mul ⟨_, e, rfl⟩ F.entry_list_mul (F.args_list_mul_2 _ _) (AutoListH.list___mul___list_int_3 l its.toArray n k t hfit hcap hlong) ⟨e, ?_⟩⟩)
  rw [hnew]
  exact ⟨.ref _, _, I.lnew (t' := s.toks) (r.rep k.toNat) (by rw [len_rep, Nat.mul_comm]; exact hz), rfl, q _ I.fresh⟩

/-! ### del xs[i] -/
theorem del_list {pins : List (Addr × Obj)} {s : Shared} {σ : St} {H : Hp} {l : Addr} {xs : List V} {i : Int} {t : Tok} {k : Nat} {Q : Unit → Shared → Prop} (I : Inv X pins σ H s) (hH : H l = some (.lst xs))
    (h1 : -(2 ^ 63) ≤ i) (h2 : i < 2 ^ 63) (hk : seqIndex? i xs.length = some k) (h : ∀ s', Inv X pins σ (upd H l (.lst (xs.eraseIdx k))) s' → Q () s') :
    wpAny (model X.prog X.w) X.A (delItem (.ref l) (.int i t)) Q X.xe s := by
  obtain ⟨z, its, n, r, hl, e⟩ := I.lstM hH
  refine PySem.P.delItem_list (k := k) e (fitsIndex_both h1 h2) (by rw [List.size_toArray, ← hl]; exact hk) (h _ ?_) (by rw [List.size_toArray]; omega)
  refine I.lset (its' := its.eraseIdx k) (t' := s.toks) hH e ?_ (r.eraseIdx k) ?_
  · show its.toArray.eraseIdxIfInBounds k = (its.eraseIdx k).toArray
    rw [List.eraseIdxIfInBounds_toArray]
  · have := len_erase xs k
    omega
end

/-! ### xs[a:b] = ys -/
section
variable {prog : Program} {w : World} {A : Around} {E : Value → Shared → Prop} {s : Shared}
theorem splice_eq (its its2 : List Value) (a c : Nat) : its.toArray.extract 0 a ++ its2.toArray ++ its.toArray.extract c its.toArray.size = (its.take a ++ its2 ++ its.drop c).toArray := by
  apply Array.toList_inj.mp
  first
    | (simp
       exact List.take_of_length_le (by simp))
    | simp [List.take_of_length_le]
    | simp
theorem bounds_run {a c n : Nat} (hac : a ≤ c) (hc : c ≤ n) : sliceBounds (some (a : Int)) (some (c : Int)) none n = ((a : Int), (c : Int), 1) := by
  simp only [sliceBounds, Option.getD_none]
  have h1 : ¬ ((a : Int) < 0) := by omega
  have h2 : ¬ ((c : Int) < 0) := by omega
  simp only [h1, h2, if_false, show (1 : Int) > 0 by decide, if_true]
  congr 1
  · omega
  · congr 1; omega
set_option maxRecDepth 100000 in
/-- list.__setitem__ with a slice of step one and another list -/
theorem setItem_slice {l b sl : Addr} {items new : Array Value} {n n2 : Nat} {vl vu : Value} {a c : Nat} {Q : Unit → Shared → Prop}
    (e : s.heap.get? l = some { cls := .type "list", data := .seq items n }) (e2 : s.heap.get? b = some { cls := .type "list", data := .seq new n2 }) (hne : l ≠ b)
    (hs : s.heap.IsSliceOf sl vl vu .none) (pl : IsPart vl (some (a : Int))) (pu : IsPart vu (some (c : Int))) (hac : a ≤ c) (hc : c ≤ items.size)
    (hsz : items.size + new.size ≤ sizeLine) (h : Q () { s with heap := s.heap.update l (Obj.mapSeq fun xs => xs.extract 0 a ++ new ++ xs.extract c xs.size) }) :
    wpAny (model prog w) A (setItem (.ref l) (.ref sl) (.ref b)) Q E s := by
  have hl : s.heap.IsList l items := PySem.IsL.isList e
  have hb : s.heap.IsList b new := PySem.IsL.isList e2
  obtain ⟨os, hos, hcs, hds⟩ := id hs
  have hTs : s.TypeIs (.ref sl) "slice" := ⟨os, hos, hcs⟩
  have hstep : ¬ ((rawPart none == rawInt 0) = true) := Bool.false_ne_true
  have hsame : Builtin.List.listSameRef (.ref l) (.ref b) = false := by
    unfold Builtin.List.listSameRef
    exact beq_eq_false_iff_ne.mpr hne
  have hmax : (max (a : Int) (c : Int)).toNat = c := by omega
  have hz' : ((fun xs : Array Value => xs.extract 0 a ++ new ++ xs.extract c xs.size) items).size ≤ sizeLine + 1 := by
    simp only [Array.size_append, Array.size_extract]
    omega
  unfold setItem
  try with_reducible refine wpAny_holding ?_
  first | refine wpAny_bind (wpAny_pure ?_) | skip
  refine wpAny_bind (wpAny_sequenceKey hl.typeIs (by decide) ?_)
  refine wpAny_bind (wpAny_callSpecial?_slot (name := Str.ofString "__setitem__") hl.typeIs slot_list_setitem
    (wpAny_call_entry slot_list_setitem hl.typeIs entry_list_setitem ?_ (args_list_setitem _ _ _)))
  show wpAny _ _ (Builtin.List.listSubscript? (.ref sl) >>= _) _ _ s
  refine wpAny_bind ?_
  unfold Builtin.List.listSubscript?
  refine wpAny_bind (wpAny_specialOf hTs slice_no_index ?_)
  simp only [Option.isNone_none, if_true]
  refine wpAny_pure ?_
  show wpAny _ _ (typeOf (.ref sl) >>= _) _ _ s
  refine wpAny_bind (wpAny_typeOf hTs ?_)
  first
    | rw [if_neg (by decide)]
    | refine PySem.W.KFB.if_not (by decide) ?_
  rw [listSliceParts_eq]
  refine wpAny_bind (wpAny_bind (wpAny_field hos hds (x := .none) rfl (wpAny_bind (wpAny_listPart .none ?_))))
  rw [if_neg hstep]
  refine wpAny_bind (wpAny_field hos hds (x := vl) rfl (wpAny_bind (wpAny_listPart pl ?_)))
  refine wpAny_bind (wpAny_field hos hds (x := vu) rfl (wpAny_bind (wpAny_listPart pu (wpAny_pure ?_))))
  first
    | simp only [hsame, Bool.false_eq_true, if_false]
    | refine PySem.W.KFB.if_not hsame ?_
    | (dsimp only
       rw [if_neg (by rw [hsame]; exact Bool.false_ne_true)])
  refine wpAny_bind (m := Builtin.List.listAllItems (.ref b) "must assign iterable to extended slice") ?_
  unfold Builtin.List.listAllItems
  refine wpAny_bind (wpAny_typeOf hb.typeIs ?_)
  first
    | refine PySem.W.KFB.if_so (by decide) ?_
    | rw [if_pos (by decide)]
    | simp only [beq_self_eq_true, Bool.true_or, if_true]
  unfold Builtin.List.listItems
  refine wpAny_bind (wpAny_seqItems e2 rfl (wpAny_pure ?_))
  refine wpAny_bind (wpAny_bind (wpAny_seqItems e rfl (wpAny_pure ?_)))
  refine wpAny_bind (wpAny_of_eq ((sliceIndices_raw (some (a : Int)) (some (c : Int)) none items.size (by simp)).trans (congrArg (pure : Int × Int × Int → Sem (Int × Int × Int)) (bounds_run hac hc))) ?_)
  show wpAny _ _ (if ((1 : Int) == 1) = true then _ else _) _ _ s
  rw [if_pos (by decide)]
  refine wpAny_bind (wpAny_rule ?_)
  first
    | simp only [notLongL hsz, Bool.false_eq_true, if_false]
    | refine PySem.W.KFB.if_not (notLongL hsz) ?_
  first | refine wpAny_bind (wpAny_pure ?_) | skip
  show wpAny _ _ (updateSeq l (fun xs => xs.extract 0 ((a : Int)).toNat ++ new ++ xs.extract (max (a : Int) (c : Int)).toNat xs.size) >>= _) _ _ s
  rw [hmax, Int.toNat_natCast]
  refine wpAny_bind (wpAny_updateSeq (hz := Nat.le_trans (Nat.le_add_right _ _) hsz) (_hz' := hz') e rfl ?_)
  refine wpAny_bind (wpAny_letGo ?_)
  first
    | exact wpAny_bind (wpAny_pure (wpAny_pure ⟨.none, rfl, wpAny_pure h⟩))
    | exact wpAny_pure ⟨.none, rfl, wpAny_pure h⟩
end

section
variable {X : Cx}
/-- xs[a:c] = ys of another list, at the value level: sl is the slice object that was just made -/
theorem set_slice {pins : List (Addr × Obj)} {s : Shared} {σ : St} {H : Hp} {l b sl : Addr} {xs ys : List V} {a c : Int} {vl vu : Value} {Q : Unit → Shared → Prop} (I : Inv X pins σ H s)
    (hH : H l = some (.lst xs)) (hB : H b = some (.lst ys)) (hne : l ≠ b) (hs : s.heap.IsSliceOf sl vl vu .none) (ra : RelV (.int a) vl) (rc : RelV (.int c) vu) (h0 : 0 ≤ a) (hac : a ≤ c) (hc : c ≤ xs.length)
    (hz : xs.length + ys.length ≤ sizeLine) (h : ∀ s', Inv X pins σ (upd H l (.lst (xs.take a.toNat ++ ys ++ xs.drop c.toNat))) s' → Q () s') :
    wpAny (model X.prog X.w) X.A (setItem (.ref l) (.ref sl) (.ref b)) Q X.xe s := by
  obtain ⟨ta, rfl⟩ := ra
  obtain ⟨tc, rfl⟩ := rc
  obtain ⟨z, its, n, r, hl, e⟩ := I.lstM hH
  obtain ⟨z2, its2, n2, r2, hl2, e2⟩ := I.lstM hB
  obtain ⟨a', rfl⟩ := Int.eq_ofNat_of_zero_le h0
  obtain ⟨c', rfl⟩ := Int.eq_ofNat_of_zero_le (Int.le_trans h0 hac)
  simp only [Int.toNat_natCast] at h
  refine setItem_slice (a := a') (c := c') e e2 hne hs (.int _ _) (.int _ _) (by omega) (by rw [List.size_toArray]; omega) (by rw [List.size_toArray, List.size_toArray]; omega) (h _ ?_)
  refine I.lset (its' := its.take a' ++ its2 ++ its.drop c') (t' := s.toks) hH e ?_ (Vals.append (Vals.append (r.take _) r2) (r.drop _)) ?_
  · exact splice_eq its its2 a' c'
  · rw [List.length_append, List.length_append, List.length_take, List.length_drop]
    omega
end
end L2

namespace Att
open PySem PySem.W PySem.Calls PyProof.Rows

/-! ### the script -/
theorem ints_of_wellAll {P : Params} {h : Heap} : ∀ (ns : List Int) (vs : List Value), WellAll P h vs (ns.map WData.int) → IntsAre vs ns := by
  intro ns
  induction ns with
  | nil =>
    intro vs w
    rw [List.map_nil] at w
    cases w
    exact .nil
  | cons n ns ih =>
    intro vs w
    rw [List.map_cons] at w
    cases w with
    | cons a b =>
      cases a
      exact .cons _ _ (ih _ b)

theorem script_of {l : OpenLaw} {n : Nat} (hn : l.most = some n) {P : Params} {h : Heap} {args : List WData} {vals : List Value}
    (hpre : l.row.toRowW.claim.pre args = true) (hwl : WellAll P h vals args) :
    ∃ a vs ns, vals = [Value.ref a] ∧ args = [WData.list (ns.map WData.int)] ∧ h.get? a = some { cls := .type "list", data := .seq vs.toArray } ∧ IntsAre vs ns ∧ ns.length ≤ n := by
  have hsh : WShape.hasAll [] args [.list .int] = true := (pre_splitW hpre).1
  have hc : l.pre.holds [] { args := args } = true := (pre_splitW hpre).2
  obtain ⟨d, r, rfl, h1, h2⟩ := hasAllW_cons hsh
  obtain rfl := hasAllW_nil h2
  obtain ⟨xs, rfl, h3⟩ := hasW_list h1
  obtain ⟨ns, rfl⟩ := items_int h3
  have hlen : ns.length ≤ n := by
    unfold OpenLaw.pre at hc
    have h4 : (WTm.not (.lt (.lit (.int (n : Int))) (.len (.arg 0)))).holds [] { args := [.list (ns.map .int)] } = true := by
      have h4 := (holds_andW hc).1
      rw [hn] at h4
      exact h4
    have h5 := condW_of h4 (w_not (w_lt w_lit (w_len_list (w_arg rfl))))
    rw [List.length_map] at h5
    refine Nat.le_of_not_lt fun q => ?_
    have q' : (n : Int) < ((ns.length : Nat) : Int) := by omega
    first
      | (rw [decide_eq_true q'] at h5; exact absurd h5 (by decide))
      | (simp at h5; omega)
  cases hwl with
  | cons w1 w2 =>
    cases w2
    cases w1 with
    | list ho hall => exact ⟨_, _, ns, rfl, rfl, ho, ints_of_wellAll ns _ hall, hlen⟩

theorem post_true (l : OpenLaw) (args : List WData) : l.row.toRowW.claim.post args (.bool true) args = true :=
  postW_of (r := l.row.toRowW) (X := (true == true))
    (show WShape.has [] (.bool true) .bool = true by first | rfl | decide | simp [WShape.has, WShape.arms, WShape.armsAll])
    (show (WTm.eq .res (.lit (.bool true))).value [] { args := args, res := some (.bool true), after := args } = some (.bool (true == true)) from w_eq_bool (w_res rfl) w_lit) rfl

/-! ### the attachment: holds_open's last premise (the goal 'hc' behind k_head) from a wpAny of the law's body -/
theorem attach {l : OpenLaw} {n : Nat} {q : Program} {loose : List Str} {XP : (Str → Option Value) → Heap → Prop} {YP : World → Heap → Prop} {d : DefRec} {x : Str}
    (hn : l.most = some n) (hdf : d.params.defaults = [])
    (hbind : ∀ pm cd doc v : Value, bindArgs (docDef d.name d.params d.body d.scope pm cd doc) ⟨[v], []⟩ = pure [(x, v)])
    (hx : d.scope.names.lookup x = some .local ∨ d.scope.names.lookup x = some .cell)
    (hk : d.scope.kind = .function) (hco : d.scope.isCoroutine = false) (hgen : d.scope.isGenerator = false)
    (body : ∀ (w : World) (s₀ s₁ s : Shared) (mg mb : Str → Option Value) (fa : Addr) (o : Obj) (pm cd doc : Value) (a : Addr) (vs : List Value) (ns : List Int),
      Ground q loose [] XP w s₀ mg mb s₁.heap → YP w s₁.heap →
      s₁.heap.get? fa = some o → o.data = .func (docDef d.name d.params d.body d.scope pm cd doc) → s₁.heap.CodeRec cd d.name → mg d.name = some (.ref fa) →
      s₁.heap.get? a = some { cls := .type "list", data := .seq vs.toArray } → IntsAre vs ns → ns.length ≤ n →
      s.gens = #[] → s.os = s₁.os →
      Fr s₁.heap s₁.heap.objs.size s.heap (bindL (envOfC d.name d.scope s₁.heap.objs.size fa cd).kindOf [(x, .ref a)] fun _ => none) →
      Cl s₁.heap.objs.size (cellsFrom (s₁.heap.objs.size + 1) d.scope.names []) s.heap (bindC (envOfC d.name d.scope s₁.heap.objs.size fa cd).kindOf [(x, .ref a)] fun _ => none) →
      wpAny (model l.prog w) (callerA.deeper (envOfC d.name d.scope s₁.heap.objs.size fa cd)) (execs d.body (envOfC d.name d.scope s₁.heap.objs.size fa cd))
        (fun f s' => f = .ret (.bool true) ∧ OldK s₁.heap s'.heap ∧ s'.os = s₁.os ∧ AllBare s'.gens) (fun _ _ => False) s) :
    WalkO q loose XP YP l.row.toRowW d [] (fun f vs => PySem.call f vs) := by
  intro w s₀ s₁ mg mb G Y fa o pm cd doc dV kV ho hd hcd hD hmg hg args vals as hpre hlay hrd hwl hlo
  obtain rfl : dV = .none := Dflts.none hD hdf
  obtain rfl : kV = .none := Dflts.noKw hD
  obtain ⟨a, vs, ns, rfl, rfl, hobj, hints, hlen⟩ := script_of hn hpre hwl
  refine enter_call ?_
  refine call_cells_ret (o := o) (by rw [depth_caller]; decide) ho (fd_plain hd) G.T.nolimit hcd (hbind pm cd doc (.ref a)) (fun y hy => ?_) (fun h₁ tk F X => ?_) hco hgen hk
  · obtain rfl : y = (x, Value.ref a) := List.mem_singleton.mp hy
    rcases hx with e | e
    · exact .inl e
    · exact .inr ⟨e, cellsFrom_some _ _ _ (.inl e)⟩
  · refine wpAny_mono (body w s₀ s₁ { s₁ with heap := h₁, toks := tk } mg mb fa o pm cd doc a vs ns G Y ho (fd_plain hd) hcd hmg hobj hints hlen hg rfl F X) (fun f s' hq => ?_) (fun _ _ hq => hq)
    obtain ⟨rfl, h2, h3, h4⟩ := hq
    exact ⟨.inl ⟨.bool true, .bool true, [], rfl, fun _ => rfl, .bool true, post_true l _, fun _ => ⟨List.Pairwise.nil, fun _ hm => (nomatch hm)⟩⟩, h2, h3, h4⟩

/-- the same from a codeAny of the CALL (for a layer whose function contracts speak of calls) -/
theorem attach_call {l : OpenLaw} {n : Nat} {q : Program} {loose : List Str} {XP : (Str → Option Value) → Heap → Prop} {YP : World → Heap → Prop} {d : DefRec}
    (hn : l.most = some n) (hdf : d.params.defaults = [])
    (call : ∀ (w : World) (s₀ s₁ : Shared) (mg mb : Str → Option Value) (fa : Addr) (o : Obj) (pm cd doc : Value) (a : Addr) (vs : List Value) (ns : List Int),
      Ground q loose [] XP w s₀ mg mb s₁.heap → YP w s₁.heap →
      s₁.heap.get? fa = some o → o.data = .func (docDef d.name d.params d.body d.scope pm cd doc) → s₁.heap.CodeRec cd d.name → mg d.name = some (.ref fa) →
      s₁.heap.get? a = some { cls := .type "list", data := .seq vs.toArray } → IntsAre vs ns → ns.length ≤ n → s₁.gens = #[] →
      codeAny (model l.prog w) callerA (.call (.ref fa) ⟨[.ref a], []⟩) (fun r s' => r = .ok (.ret (.bool true)) ∧ OldK s₁.heap s'.heap ∧ s'.os = s₁.os ∧ AllBare s'.gens) s₁) :
    WalkO q loose XP YP l.row.toRowW d [] (fun f vs => PySem.call f vs) := by
  intro w s₀ s₁ mg mb G Y fa o pm cd doc dV kV ho hd hcd hD hmg hg args vals as hpre hlay hrd hwl hlo
  obtain rfl : dV = .none := Dflts.none hD hdf
  obtain rfl : kV = .none := Dflts.noKw hD
  obtain ⟨a, vs, ns, rfl, rfl, hobj, hints, hlen⟩ := script_of hn hpre hwl
  refine enter_call (codeAny_mono (call w s₀ s₁ mg mb fa o pm cd doc a vs ns G Y ho (fd_plain hd) hcd hmg hobj hints hlen hg) fun r s' hq => ?_)
  obtain ⟨rfl, h2, h3, h4⟩ := hq
  exact ⟨.inl ⟨.bool true, .bool true, [], rfl, fun _ => rfl, .bool true, post_true l _, fun _ => ⟨List.Pairwise.nil, fun _ hm => (nomatch hm)⟩⟩, h2, h3, h4⟩

/-- the same where the top left finished generators (o_head chose holds_openN): nothing may have changed at all and no generator may be left -/
theorem attachN {l : OpenLaw} {n : Nat} {q : Program} {loose : List Str} {XP : (Str → Option Value) → Heap → Prop} {YP : World → Heap → Prop} {d : DefRec} {x : Str}
    (hn : l.most = some n) (hdf : d.params.defaults = [])
    (hbind : ∀ pm cd doc v : Value, bindArgs (docDef d.name d.params d.body d.scope pm cd doc) ⟨[v], []⟩ = pure [(x, v)])
    (hx : d.scope.names.lookup x = some .local ∨ d.scope.names.lookup x = some .cell)
    (hk : d.scope.kind = .function) (hco : d.scope.isCoroutine = false) (hgen : d.scope.isGenerator = false)
    (body : ∀ (w : World) (s₀ s₁ s : Shared) (mg mb : Str → Option Value) (fa : Addr) (o : Obj) (pm cd doc : Value) (a : Addr) (vs : List Value) (ns : List Int),
      Ground q loose [] XP w s₀ mg mb s₁.heap → YP w s₁.heap →
      s₁.heap.get? fa = some o → o.data = .func (docDef d.name d.params d.body d.scope pm cd doc) → s₁.heap.CodeRec cd d.name → mg d.name = some (.ref fa) →
      s₁.heap.get? a = some { cls := .type "list", data := .seq vs.toArray } → IntsAre vs ns → ns.length ≤ n →
      s.gens = #[] → s.os = s₁.os →
      Fr s₁.heap s₁.heap.objs.size s.heap (bindL (envOfC d.name d.scope s₁.heap.objs.size fa cd).kindOf [(x, .ref a)] fun _ => none) →
      Cl s₁.heap.objs.size (cellsFrom (s₁.heap.objs.size + 1) d.scope.names []) s.heap (bindC (envOfC d.name d.scope s₁.heap.objs.size fa cd).kindOf [(x, .ref a)] fun _ => none) →
      wpAny (model l.prog w) (callerA.deeper (envOfC d.name d.scope s₁.heap.objs.size fa cd)) (execs d.body (envOfC d.name d.scope s₁.heap.objs.size fa cd))
        (fun f s' => f = .ret (.bool true) ∧ (∀ b o, s₁.heap.get? b = some o → s'.heap.get? b = some o) ∧ s'.os = s₁.os ∧ s'.gens = #[]) (fun _ _ => False) s) :
    WalkN q loose XP YP l.row.toRowW d [] (fun f vs => PySem.call f vs) := by
  intro w s₀ s₁ mg mb G Y fa o pm cd doc dV kV ho hd hcd hD hmg hg args vals as hpre hlay hrd hwl hlo
  obtain rfl : dV = .none := Dflts.none hD hdf
  obtain rfl : kV = .none := Dflts.noKw hD
  obtain ⟨a, vs, ns, rfl, rfl, hobj, hints, hlen⟩ := script_of hn hpre hwl
  refine enter_callW ?_
  refine call_cells_ret (o := o) (by rw [depth_caller]; decide) ho (fd_plain hd) G.T.nolimit hcd (hbind pm cd doc (.ref a)) (fun y hy => ?_) (fun h₁ tk F X => ?_) hco hgen hk
  · obtain rfl : y = (x, Value.ref a) := List.mem_singleton.mp hy
    rcases hx with e | e
    · exact .inl e
    · exact .inr ⟨e, cellsFrom_some _ _ _ (.inl e)⟩
  · refine wpAny_mono (body w s₀ s₁ { s₁ with heap := h₁, toks := tk } mg mb fa o pm cd doc a vs ns G Y ho (fd_plain hd) hcd hmg hobj hints hlen hg rfl F X) (fun f s' hq => ?_) (fun _ _ hq => hq)
    obtain ⟨rfl, h2, h3, h4⟩ := hq
    exact ⟨.inl ⟨.bool true, .bool true, [], rfl, fun _ => rfl, .bool true, post_true l _, fun _ => ⟨List.Pairwise.nil, fun _ hm => (nomatch hm)⟩⟩, h2, h3, h4⟩

/-! ### rules over ANY heap (no ledger) from facts about the written part K: the library's own take a ledger (News) for what they write -/
section
variable {prog : Program} {w : World} {A : Around} {E : Value → Shared → Prop} {s : Shared} {K : Frag}

/-- a def of the module, or a method (qual 'C.m'), entered: the frame is the next address; cells behind it -/
theorem call_fn {R : Result → Shared → Prop} {name qual : Str} {params : Arguments} {body : List Stmt} {scope : Scope} {dV kV doc pm cdv ct oc : Value} {an od : Option Addr} {osl : Array (Option Value)} {f : Addr} {args : Args} {binds : List (Str × Value)}
    (X : K.In s.heap) (hlim : s.heap.NoLimit) (ho : K.lookup f = some ⟨oc, od, .func (fnOf name qual params body scope dV kV doc pm an cdv ct), osl⟩) (hcd : codeIn K cdv qual = true) (hroom : A.depth < recursionLimit)
    (hbind : BindsTo s (fnOf name qual params body scope dV kV doc pm an cdv ct) args binds)
    (hkind : (binds.all fun y => scope.names.lookup y.1 == some .local || scope.names.lookup y.1 == some .cell) = true)
    (h : ∀ s₁, InCallC s s.heap.objs.size (bindL (envOfC qual scope s.heap.objs.size f cdv).kindOf binds fun _ => none) (cellsFrom (s.heap.objs.size + 1) scope.names [])
        (bindC (envOfC qual scope s.heap.objs.size f cdv).kindOf binds fun _ => none) s₁ →
      wpAny (model prog w) (A.deeper (envOfC qual scope s.heap.objs.size f cdv)) (execs body (envOfC qual scope s.heap.objs.size f cdv))
        (fun fl s' => R (.ok (.ret (match fl with | .ret v => v | _ => .none))) s')
        (fun e s' => wpAny (model prog w) (A.deeper (envOfC qual scope s.heap.objs.size f cdv)) (leaving (envOfC qual scope s.heap.objs.size f cdv) e) (fun _ s'' => R (.error e) s'') (fun e' s'' => R (.error e') s'') s') s₁)
    (hco : scope.isCoroutine = false) (hgen : scope.isGenerator = false) (hk : scope.kind = .function) : codeAny (model prog w) A (.call (.ref f) args) R s := by
  refine codeAny_call_function hroom (X _ _ ho) rfl hco hgen rfl (codeRec_of X hcd) (hbind _ _ _ _ ?_)
  refine wpAny_newFunctionEnv_cells hk (kindsX hkind _) fun env he s₁ x => ?_
  subst he
  exact ⟨hlim.keeps x.toInCall.keep, codeAny_func (h s₁ x)⟩

/-- C(..): dict at size, instance at size + 1, then __init__ -/
theorem make_obj {R : Result → Shared → Prop} {C fI : Addr} {rest : List Value} {kw : List (Str × Value)}
    (X : K.In s.heap) (hm : makesIn K C = true) (hi : findIn K (.ref C) "__init__" = some (some (.ref fI))) (hf : isFn K (.ref fI) = true)
    (h : codeAny (model prog w) (A.under (.builtin "type.__call__" ⟨.ref C :: rest, kw⟩)) (.call (.ref fI) ⟨.ref (s.heap.objs.size + 1) :: rest, kw⟩) (InitBack (s.heap.objs.size + 1) R)
      { s with heap := (s.heap.push emptyDict).push (instObj C s.heap.objs.size) }) : codeAny (model prog w) A (.call (.ref C) ⟨rest, kw⟩) R s := by
  obtain ⟨hh, g, d, t, os⟩ := s
  exact make_core (makes_of X hm) (looks_findIn X hi) (fun self => bind_fn X self (beq_iff_eq.mp hf)) (.inl rfl) h

/-- x.name where the instance's dict holds the name and the class does not -/
theorem get_field {x C : Addr} {ox : Obj} {es : List DictEntry} {n : Nat} {name : Str} {expr : Bool} {v : Value} {Q : Value → Shared → Prop}
    (X : K.In s.heap) (I : PySem.W.InstAt s.heap x ox C (some (dictOf es n))) (hg : plainGet K C name = true) (hh : hasDictIn K C = true) (ha : findIn K (.ref C) name = some none)
    (hl : getL name es = some (some v)) (hv : handedIn v = true) (h : Q v { s with toks := s.toks + 1 }) : wpAny (model prog w) A (getAttr (.ref x) name expr) Q E s :=
  get_value X I (plainGet_of hg).1 (findObj_own hh ha rfl hl) hv h

/-- x.m(..): the method found in the class -/
theorem get_method {x C f : Addr} {ox : Obj} {es : List DictEntry} {n : Nat} {name : Str} {pl : Sem Bool} {Q : Value × List Value → Shared → Prop}
    (X : K.In s.heap) (I : PySem.W.InstAt s.heap x ox C (some (dictOf es n))) (hg : plainGet K C name = true) (hf : findIn K (.ref C) name = some (some (.ref f))) (ht : isFn K (.ref f) = true)
    (hl : getL name es = some none) (h : Q (.ref f, [.ref x]) s) : wpAny (model prog w) A (getMethod (.ref x) name pl) Q E s :=
  method_fn X I (plainGet_of hg).1 (plainGet_of hg).2 hf (beq_iff_eq.mp ht) (by show (lookIn name (dictOf es n)).map _ = _; rw [lookIn_dict, hl]; rfl) h

/-! the whole heap as the ledger: makes every rule that writes through a ledger a rule over any heap -/
def noObjs (h : Heap) : Heap := { h with objs := #[] }
theorem noObjs_get (h : Heap) (b : Addr) : (noObjs h).get? b = none := by
  cases e : (noObjs h).get? b with
  | none => rfl
  | some o => exact absurd (Heap.lt_size e) (Nat.not_lt_zero _)
def ledger (h : Heap) (L d : Addr) : List (Addr × Obj) := (List.range h.objs.size).filterMap fun a => if a = L ∨ a = d then none else (h.get? a).map fun o => (a, o)
theorem mem_ledger {h : Heap} {L d a : Addr} {o : Obj} : (a, o) ∈ ledger h L d ↔ a ≠ L ∧ a ≠ d ∧ h.get? a = some o := by
  unfold ledger
  rw [List.mem_filterMap]
  constructor
  · rintro ⟨b, _, e⟩
    split at e
    · cases e
    · rename_i hb
      obtain ⟨o', ho, e'⟩ := Option.map_eq_some_iff.mp e
      cases e'
      exact ⟨fun q => hb (.inl q), fun q => hb (.inr q), ho⟩
  · rintro ⟨n1, n2, ho⟩
    refine ⟨a, List.mem_range.mpr (Heap.lt_size ho), ?_⟩
    rw [if_neg (show ¬ (a = L ∨ a = d) from fun q => q.elim n1 n2), ho] <;> rfl
theorem news_ledger {h : Heap} {L d : Addr} {od : Obj} (hne : d ≠ L) (ho : h.get? d = some od) : News (noObjs h) L h ([] ++ (d, od) :: ledger h L d) := by
  rintro ⟨a, o⟩ hp
  rcases List.mem_cons.mp hp with e | hp
  · cases e
    exact ⟨ho, hne, noObjs_get _ _⟩
  · obtain ⟨n1, n2, e⟩ := mem_ledger.mp hp
    exact ⟨e, n1, noObjs_get _ _⟩
theorem fr_all {h : Heap} {L : Addr} {m : Str → Option Value} (n : h.Ns L m) : Fr (noObjs h) L h m :=
  ⟨n, fun b o e => (by rw [noObjs_get] at e; cases e), Nat.zero_le _⟩
/-- Upd of the head entry (for append_K, setItem_K ..) -/
theorem upd_ledger {h : Heap} {L d : Addr} {o o' : Obj} : Upd d o o' ((d, o) :: ledger h L d) ((d, o') :: ledger h L d) :=
  .head fun ⟨_, _⟩ hp => (mem_ledger.mp hp).2.1

/-- x.name = v over any heap: L is any namespace of the heap (the frame's, say): its map stays, its object is not told; all else but the dict stays -/
theorem set_field {x C dx L : Addr} {ox : Obj} {m : Str → Option Value} {es es' : List DictEntry} {n n' : Nat} {name : Str} {v : Value} {Q : Unit → Shared → Prop}
    (X : K.In s.heap) (I : PySem.W.InstAt s.heap x ox C (some (dictOf es n))) (hd : ox.dict = some dx) (hL : s.heap.Ns L m) (hne : dx ≠ L)
    (hs : findIn K (.ref C) "__setattr__" = some (some (.builtin "object.__setattr__"))) (hp : plainOver K C = true) (ht : takerIn K C name = some none) (hh : hasDictIn K C = true) (hl : (getL name es).isSome = true)
    (e : (putL name (PyData.keyHash w.params name) (.str name (s.toks + 1)) v es, putN name es n) = (es', n')) (hz : es'.length ≤ 1000)
    (h : ∀ h' : Heap, h'.Ns L m → h'.get? dx = some (dictOf es' n') → (∀ b o, b ≠ dx → b ≠ L → s.heap.get? b = some o → h'.get? b = some o) → Q () { s with heap := h', toks := s.toks + 2 }) :
    wpAny (model prog w) A (setAttr (.ref x) name v) Q E s := by
  obtain ⟨e1, e2⟩ := Prod.mk.inj e
  have hdx : s.heap.get? dx = some (dictOf es n) := by
    have := I.dict
    rw [hd] at this
    exact this
  refine set_plain X I hs (osa_dict (s := { s with toks := s.toks + 1 }) (h₀ := noObjs s.heap) (L := L) (m := m) (od := dictOf es n) (od' := dictOf es' n') (es := es') (n := n') (pre := []) (post := ledger s.heap L dx)
    (fr_all hL) (news_ledger hne hdx) X I hd hp ht hh hl (fun _ q => nomatch q) (fun ⟨_, _⟩ q => (mem_ledger.mp q).2.1) (by rw [putName_dict, e1, e2]) rfl hz fun h' F' N' => ?_)
  exact h h' F'.ns (N'.get (List.Mem.head _)) fun b o n1 n2 ho => N'.get (List.Mem.tail _ (mem_ledger.mpr ⟨n2, n1, ho⟩))
end
end Att

namespace L2
open PySem PySem.Spec PyProof.Rows

theorem vals_ints : ∀ {vs : List Value} {ns : List Int}, IntsAre vs ns → Vals (ns.map V.int) vs
  | _, _, .nil => .nil
  | _, _, .cons n t h => .cons ⟨t, rfl⟩ (vals_ints h)

/-- nothing is tracked but the script, known to the object (or it is an object of the module) -/
def Only (H : Hp) : Prop := ∀ b, H b = none ∨ ∃ o xs, H b = some (.frz o (.lst xs))

/-- THE HEAD: the law's promise, at the heap behind the top. F, the promise of the law's def, may use that base is part of the heap (so K.In base, base.Ns mainGlobals mg stand in Mod) -/
theorem law_call {P : Program} {w : World} {K : PySem.W.Frag} {mg mb : Str → Option Value} {CX : CXT} {k : Nat} {fa a : Addr} {fd : FuncData} {x : Str} {sp : Sp} {s₁ : Shared} {vs : List Value} {ns : List Int}
    (KX : K.In s₁.heap) (hns : s₁.heap.Ns mainGlobals mg) (hb : s₁.heap.Ns builtinsNs mb) (hbb : ∀ x : Str, x ≠ "__name__" → mb x = bootBuiltins x) (hlim : s₁.heap.NoLimit) (hg : s₁.gens = #[])
    (ha : s₁.heap.get? a = some { cls := .type "list", data := .seq vs.toArray }) (hi : IntsAre vs ns) (hl : ns.length ≤ sizeLine) (hr : Room k callerA)
    (F : ∀ base : Heap, K.In base → base.Ns mainGlobals mg → FnOk P w K mg base CX k fa fd [x] sp) (hbind : ∀ (s : Shared) (u : Value), BindsTo s fd ⟨[u], []⟩ [(x, u)])
    (hsp : ∀ H : Hp, Only H → SqL K H a (ns.map V.int) → sp [.ref a] H (fun v _ => v = .bl true) fun _ _ _ => False)
    (hCX : ∀ H e s', CX [] H s₁ (fun _ _ _ => False) e s' → False) :
    codeAny (model P w) callerA (.call (.ref fa) ⟨[.ref a], []⟩) (fun r s' => r = .ok (.ret (.bool true)) ∧ OldK s₁.heap s'.heap ∧ s'.os = s₁.os ∧ AllBare s'.gens) s₁ := by
  have rv := vals_ints hi
  have lenV := hi.length
  -- from an abstract heap in which nothing but the script may be tracked
  have core : ∀ H : Hp, Only H → SqL K H a (ns.map V.int) → HOk P w H s₁.heap → (∀ b, H b ≠ none → b = a) → (H a ≠ none → K.lookup a = none) →
      codeAny (model P w) callerA (.call (.ref fa) ⟨[.ref a], []⟩) (fun r s' => r = .ok (.ret (.bool true)) ∧ OldK s₁.heap s'.heap ∧ s'.os = s₁.os ∧ AllBare s'.gens) s₁ := by
    intro H hO hS hok hA hK
    have base_of : ∀ {b : Addr} {o : Obj}, s₁.heap.get? b = some o → H b = none → (hidT s₁.heap H).get? b = some o := fun e n => hidT_get e n
    have noA : ∀ {b : Addr} {o : Obj} {es : Array DictEntry} {ep : Nat}, s₁.heap.get? b = some o → o.data = .dict es ep → H b = none := fun {b o es ep} e d => by
      cases q : H b with
      | none => rfl
      | some u =>
        have e' : b = a := hA b (by rw [q]; simp)
        subst e'
        rw [ha] at e; cases e
        have d' : Data.seq vs.toArray _ = Data.dict es ep := d
        cases d'
    have nsK : ∀ {b : Addr} {m : Str → Option Value}, s₁.heap.Ns b m → (hidT s₁.heap H).Ns b m := fun {b m} ⟨o, es, ep, e, d, r⟩ => ⟨o, es, ep, base_of e (noA e d), d, r⟩
    have hKb : K.In (hidT s₁.heap H) := fun b o e => base_of (KX b o e) (by
      cases q : H b with
      | none => rfl
      | some u =>
        have e' : b = a := hA b (by rw [q]; simp)
        subst e'
        rw [hK (by rw [q]; simp)] at e; cases e)
    have hM : Mod K mg (hidT s₁.heap H) := ⟨hKb, nsK hns, ⟨mb, nsK hb, hbb⟩, let ⟨mc, h1, h2⟩ := hlim; ⟨mc, nsK h1, h2⟩⟩
    have e0 : Env0 P w K mg (hidT s₁.heap H) callerA [] s₁ H := ⟨rfl, hM, fun b o e => of_hidT e, Nat.le_of_eq (hidT_size _ _), trivial, fun b hb => absurd (show b ∈ ([] : List Addr) from hb) (by simp), hok, .of_eq hg⟩
    refine codeAny_mono ((F _ hKb (nsK hns)).run callerA [] s₁ H ⟨[.ref a], []⟩ [.ref a] [.ref a] _ _ hr e0 (hbind s₁ (.ref a)) (.cons rfl .nil) (hsp H hO hS)) fun r s' h => ?_
    cases r with
    | error e => exact (hCX H e s' h).elim
    | ok fl =>
      cases fl with
      | next => exact False.elim h
      | brk => exact False.elim h
      | cont => exact False.elim h
      | ret u =>
        obtain ⟨v, H', os, bare, un, hok', r', q⟩ := h
        have q' : v = .bl true := q
        subst q'
        obtain rfl : u = Value.bool true := r'
        refine ⟨rfl, OldK.of_keep fun b o e => ?_, os, bare⟩
        cases q : H b with
        | none => exact un.keep b o e q (by intro z; exact absurd (show b ∈ ([] : List Addr) from z) (by simp)) (by simp)
        | some u =>
          rcases hO b with z | ⟨ob, xs, z⟩
          · rw [q] at z; cases z
          · have z2 := un.frzs b ob _ z
            obtain ⟨e1, _⟩ := hok b _ z
            obtain ⟨e2, _⟩ := hok' b _ z2
            rw [e] at e1; cases e1
            exact e2
  cases hk : K.lookup a with
  | some o =>
    -- the script is one of the module's own objects
    have e := KX a o hk
    rw [ha] at e
    cases e
    refine core (fun _ => none) (fun _ => .inl rfl) (.inr ⟨_, vs.toArray, _, hk, rfl, rfl, rfl, by rw [List.size_toArray, lenV]; exact hl, by simpa using rv⟩) (fun b u z => by have z' : (none : Option HO) = some u := z; cases z') (fun b z => absurd rfl z) fun z => absurd rfl z
  | none =>
    refine core (fun b => if b = a then some (.frz { cls := .type "list", data := .seq vs.toArray } (.lst (ns.map V.int))) else none) (fun b => ?_) (.inl (.inr ⟨{ cls := .type "list", data := .seq vs.toArray }, if_pos rfl⟩)) (fun b u z => ?_) (fun b z => ?_) fun _ => hk
    · by_cases hb : b = a
      · exact .inr ⟨_, _, if_pos hb⟩
      · exact .inl (if_neg hb)
    · by_cases hb : b = a
      · have z' := (if_pos hb).symm.trans z
        cases z'
        subst hb
        exact ⟨ha, by rw [List.length_map]; exact hl, vs, _, rv, ha⟩
      · have z' := (if_neg hb).symm.trans z
        cases z'
    · by_cases hb : b = a
      · exact hb
      · exact absurd (if_neg hb) z
end L2

namespace L2
open PySem PySem.Spec PyProof.Rows

abbrev KOf {K : PySem.W.Frag} {h : Heap} (_ : K.In h) : PySem.W.Frag := K

/-- the goal that k_head leaves (case hc), from the law's promise. F gives the function object fd (K's own) once, then the promise over every base -/
theorem walk_of {l : PySem.W.OpenLaw} {n k : Nat} {q : Program} {loose : List Str} {XP : (Str → Option Value) → Heap → Prop} {YP : World → Heap → Prop} {d : DefRec} {K : Params → PySem.W.Frag} {CX : World → CXT} {sp : World → Sp} {x : Str}
    (hn : l.most = some n) (hn2 : n ≤ sizeLine) (hdf : d.params.defaults = []) (hr : Room k callerA)
    (hY : ∀ (w : World) (h : Heap), YP w h → (K w.params).In h)
    (F : ∀ (w : World) (mg : Str → Option Value) (fa : Addr) (h : Heap), (K w.params).In h → h.Ns mainGlobals mg → mg d.name = some (.ref fa) →
      ∃ fd : FuncData, (∀ (s : Shared) (u : Value), BindsTo s fd ⟨[u], []⟩ [(x, u)]) ∧
        ∀ base : Heap, (K w.params).In base → base.Ns mainGlobals mg → FnOk l.prog w (K w.params) mg base (CX w) k fa fd [x] (sp w))
    (hsp : ∀ (w : World) (H : Hp) (a : Addr) (ns : List Int), ns.length ≤ n → Only H → SqL (K w.params) H a (ns.map V.int) → sp w [.ref a] H (fun v _ => v = .bl true) fun _ _ _ => False)
    (hCX : ∀ (w : World) (H : Hp) (s : Shared) (e : Value) (s' : Shared), CX w [] H s (fun _ _ _ => False) e s' → False) :
    PySem.W.WalkO q loose XP YP l.row.toRowW d [] (fun f vs => PySem.call f vs) := by
  refine Att.attach_call hn hdf fun w s₀ s₁ mg mb fa o pm cd doc a vs ns G Y ho hd hcd hmg hobj hints hlen hg => ?_
  have KX := hY w _ Y
  obtain ⟨fd, hb, hF⟩ := F w mg fa _ KX G.T.g hmg
  exact law_call KX G.T.g G.T.b G.T.builtins G.T.nolimit hg hobj hints (Nat.le_trans hlen hn2) hr hF hb (fun H hO hS => hsp w H a ns hlen hO hS) fun H e s' => hCX w H s₁ e s'
/-- the same where the promise hangs on the written part alone: (sp := My.sp_law), no hole under a binder -/
theorem walk_ofK {l : PySem.W.OpenLaw} {n k : Nat} {q : Program} {loose : List Str} {XP : (Str → Option Value) → Heap → Prop} {YP : World → Heap → Prop} {d : DefRec} {K : Params → PySem.W.Frag} {CX : CXT} {sp : PySem.W.Frag → Sp} {x : Str}
    (hn : l.most = some n) (hn2 : n ≤ sizeLine) (hdf : d.params.defaults = []) (hr : Room k callerA)
    (hY : ∀ (w : World) (h : Heap), YP w h → (K w.params).In h)
    (F : ∀ (w : World) (mg : Str → Option Value) (fa : Addr) (h : Heap), (K w.params).In h → h.Ns mainGlobals mg → mg d.name = some (.ref fa) →
      ∃ fd : FuncData, (∀ (s : Shared) (u : Value), BindsTo s fd ⟨[u], []⟩ [(x, u)]) ∧
        ∀ base : Heap, (K w.params).In base → base.Ns mainGlobals mg → FnOk l.prog w (K w.params) mg base CX k fa fd [x] (sp (K w.params)))
    (hsp : ∀ (K : PySem.W.Frag) (H : Hp) (a : Addr) (ns : List Int), ns.length ≤ n → Only H → SqL K H a (ns.map V.int) → sp K [.ref a] H (fun v _ => v = .bl true) fun _ _ _ => False)
    (hCX : ∀ (H : Hp) (s : Shared) (e : Value) (s' : Shared), CX [] H s (fun _ _ _ => False) e s' → False) :
    PySem.W.WalkO q loose XP YP l.row.toRowW d [] (fun f vs => PySem.call f vs) :=
  walk_of (K := K) (CX := fun _ => CX) (sp := fun w => sp (K w.params)) hn hn2 hdf hr hY F (fun w H a ns h1 h2 h3 => hsp (K w.params) H a ns h1 h2 h3) fun _ H s e s' => hCX H s e s'
end L2

/- THE LAST THEOREM (shape; LID, My.* are yours):
   My.Adr: a structure of the addresses that your layer names (classes, functions); My.Txt K t: a structure (Prop) of the equations over K;
   My.txt_mk : {K} {implicit addresses ..} (e1 : nsIn K mainGlobals "law" = some (some (.ref f))) (e2 : K.lookup f = some ⟨oc, od, .func (fnOf "law" "law" params body scope dV kV doc pm an cdv ct), sl⟩) (e3 : codeIn K cdv "law" = true) .. : ∃ t, My.Txt K t

set_option maxRecDepth 100000 in
set_option maxHeartbeats 0 in
theorem PySem.Challenge.cw_LID_holds : PySem.Challenge.rw_LID.Holds := by
  w_on; o_law; k_head; (case hw => w_witness2)
  k_fill
  refine L2.walk_of (l := PySem.Challenge.rw_LID) (n := 63) (k := 40) (x := "script") (CX := fun w => ..) (sp := fun _ => My.sp_law) rfl (by decide) rfl ⟨rfl, by decide, by decide⟩ (fun w h Y => PySem.W.kIn_of Y) ?F ?S ?C
  case F =>
    intro w mg fa h KX G hmg
    have T : ∃ t, My.Txt (L2.KOf KX) t := by
      dsimp only [L2.KOf]                          -- K must stand as «<heap const> w.params» for k_is
      refine' My.txt_mk ?e1 ?e2 ?e3 ..
      (case e1 => PySem.W.k_is)                    -- in the order: a name -> its address -> its object -> its parts
      (case e2 => PySem.W.k_is)
      ..
    obtain ⟨t, T⟩ := T
    have e0 := hmg.symm.trans (PySem.W.mg_of KX G T.law)
    cases e0                                       -- fa is the law's own address
    exact ⟨_, fun s u => .of_eq rfl, fun base kb nb => My.law_fn T kb nb⟩     -- if «.of_eq rfl» comes too early: refine' ⟨_, ?b, fun base kb nb => My.law_fn T kb nb⟩; exact fun s u => .of_eq rfl
  case S => exact fun w H a ns hl hO hS => ..
  case C => exact ..
(the tactic k_is has no namespace: write k_is) -/

/-! SHORT WORDS over the layer: a def of the text, its body, what a loop and a test want. -/
namespace L2
open PySem PySem.Spec PyProof.Rows

/-! ### the text by places -/
/-- the j-th statement of a class's body -/
def inClass (s : Stmt) (j : Nat) : Stmt := match s with
  | .ClassDef _ _ _ body _ _ _ _ _ _ _ => body.getD j (.Pass ⟨0, 0, 0, 0⟩)
  | _ => .Pass ⟨0, 0, 0, 0⟩
def defArgs (s : Stmt) : Arguments := match s with
  | .FunctionDef _ a _ _ _ _ _ _ _ _ => a
  | _ => { posonlyargs := [], args := [], vararg := none, kwonlyargs := [], kw_defaults := [], kwarg := none, defaults := [] }
def defBody (s : Stmt) : List Stmt := match s with
  | .FunctionDef _ _ b _ _ _ _ _ _ _ => b
  | _ => []
def defScope (s : Stmt) : Scope := match s with
  | .FunctionDef _ _ _ _ _ _ sc _ _ _ => sc
  | _ => { kind := .function, names := [], isGenerator := false, isCoroutine := false }

/-! ### no exception leaves a def -/
abbrev CX0 : CXT := fun _ _ _ _ _ _ => False
abbrev E0 : XK := fun _ _ _ => False
theorem pass0 {X : Cx} : Passes CX0 X E0 := fun _ _ _ _ _ _ _ h => h.elim

/-! ### a def (or method) of the text as it stands behind the top -/
structure Fun (K : PySem.W.Frag) (x qual : Str) (st : Stmt) (f : Addr) (fd : FuncData) : Prop where
  ex : ∃ (oc : Value) (od : Option Addr) (kV doc pm : Value) (an : Option Addr) (cdv ct : Value) (osl : Array (Option Value)),
    fd = PySem.W.fnOf x qual (defArgs st) (defBody st) (defScope st) .none kV doc pm an cdv ct ∧ K.lookup f = some ⟨oc, od, .func fd, osl⟩ ∧ PySem.W.codeIn K cdv qual = true
  kp : PySem.W.keepIn K (.ref f) = true
section
variable {P : Program} {w : World} {K : PySem.W.Frag} {mg : Str → Option Value} {base : Heap}
/-- THE RULE for a def: its body as a term of rules, and the reading of that term -/
theorem Fun.ok {x qual : Str} {st : Stmt} {f : Addr} {fd : FuncData} {N ps : List Str} {k : Nat} {sp : Sp} (F : Fun K x qual st f fd) (S : FnScope N ps (defScope st)) (len : ∀ vs H Q E, sp vs H Q E → vs.length = ps.length)
    (hbody : ∀ (cdv : Value) (A : Around) (outer : List Env) (s : Shared) (H : Hp) (vs : List V) (Q : VK) (E : XK), Room k (A.deeper (envOfC qual (defScope st) s.heap.objs.size f cdv)) → sp vs H Q E →
      ∃ t, PSs (cxOf CX0 P w K mg base N qual (defScope st) f cdv A outer s H E).nox (defBody st) t ∧ t { nx := fun _ H' => Q .non H', rt := Q } (start N vs) H) : FnOk P w K mg base CX0 (k + 1) f fd ps sp := by
  obtain ⟨oc, od, kV, doc, pm, an, cdv, ct, osl, rfl, lk, hcd⟩ := F.ex
  refine fn_of lk hcd S len fun A outer s H vs Q E hr hsp => ?_
  obtain ⟨t, h, q⟩ := hbody cdv A outer s H vs Q E hr hsp
  exact ⟨t, h.nox, q⟩
/-- how its arguments bind (no defaults): h is «fun _ _ _ _ _ _ us hl => match us, hl with | [_, _], _ => rfl», one _ a parameter -/
theorem Fun.binds {x qual : Str} {st : Stmt} {f : Addr} {fd : FuncData} {ps : List Str} (F : Fun K x qual st f fd)
    (h : ∀ (kV doc pm : Value) (an : Option Addr) (cdv ct : Value) (us : List Value), us.length = ps.length → bindArgs (PySem.W.fnOf x qual (defArgs st) (defBody st) (defScope st) .none kV doc pm an cdv ct) ⟨us, []⟩ = pure (ps.zip us)) : Binds K fd ps [] := by
  obtain ⟨oc, od, kV, doc, pm, an, cdv, ct, osl, rfl, lk, hcd⟩ := F.ex
  exact .all (h kV doc pm an cdv ct)
theorem fun_mk {x qual : Str} {st : Stmt} {f : Addr} {oc : Value} {od an : Option Addr} {osl : Array (Option Value)} {kV doc pm cdv ct : Value} (l : K.lookup f = some ⟨oc, od, .func (PySem.W.fnOf x qual (defArgs st) (defBody st) (defScope st) .none kV doc pm an cdv ct), osl⟩)
    (c : PySem.W.codeIn K cdv qual = true) (k : PySem.W.keepIn K (.ref f) = true) : Fun K x qual st f (PySem.W.fnOf x qual (defArgs st) (defBody st) (defScope st) .none kV doc pm an cdv ct) := ⟨⟨oc, od, kV, doc, pm, an, cdv, ct, osl, rfl, l, c⟩, k⟩
end
theorem hu_of {A : Around} {k : Nat} (hr : Room k A) : A.units + 1 < cLine := Nat.lt_of_le_of_lt (Nat.add_le_add_left (by decide : 1 ≤ 64) _) hr.units
theorem small1000 {n : Nat} (h : n ≤ 1000) : n < sizeLine := Nat.lt_of_le_of_lt h (by decide)

/-! ### expressions in short: the name that stands in the i-th slot -/
section
variable {X : Cx}
theorem pv (i : Nat) {x : Str} {pos : Pos} (hN : X.N[i]? = some x := by rfl) (hv : Vis X.env.scope x := by first | exact Or.inl rfl | exact Or.inr (Or.inl rfl) | exact Or.inr (Or.inr rfl)) (hd : (x == ("__debug__" : Str)) = false := by decide)
    (hcd : (x == ("__classdict__" : Str)) = false := by decide) : PE X (.Name x pos) (tVar i) := pe_var hN hv hd hcd
end

/-! ### tests -/
theorem iteF {A B : Prop} (h : B) : if false = true then A else B := by
  rw [if_neg Bool.false_ne_true]
  exact h
theorem iteT {A B : Prop} (h : A) : if true = true then A else B := by
  rw [if_pos rfl]
  exact h
theorem ite2 {c A B : Prop} [Decidable c] (h1 : c → A) (h2 : ¬ c → B) : if c then A else B := by
  by_cases h : c
  · rw [if_pos h]
    exact h1 h
  · rw [if_neg h]
    exact h2 h
theorem iteNS {c A B : Prop} [Decidable c] (hc : c) (h : B) : if (!decide c) = true then A else B := by
  rw [decide_eq_true hc]
  exact iteF h

/-! ### heaps -/
/-- all that was tracked is as it was -/
def Same (H H' : Hp) : Prop := ∀ b o, H b = some o → H' b = some o
theorem Same.refl (H : Hp) : Same H H := fun _ _ h => h
theorem Same.trans {H H1 H2 : Hp} (a : Same H H1) (b : Same H1 H2) : Same H H2 := fun c o h => b c o (a c o h)
theorem Same.free {H H' : Hp} (e : Same H H') {l : Addr} (h : H' l = Option.none) : H l = Option.none := by
  cases q : H l with
  | none => rfl
  | some o =>
    rw [e l o q] at h
    cases h
theorem Same.seq {K : PySem.W.Frag} {H H' : Hp} {a : Addr} {xs : List V} (e : Same H H') (h : SqL K H a xs) : SqL K H' a xs := by
  rcases h with (h | ⟨o, h⟩) | h
  · exact .inl (.inl (e _ _ h))
  · exact .inl (.inr ⟨o, e _ _ h⟩)
  · exact .inr h

end L2

set_option Elab.async false
set_option linter.all false
set_option maxRecDepth 100000
set_option maxHeartbeats 4000000
namespace L2
open PySem PySem.Spec PyProof.Rows
/-! ### a comprehension's block -/
def clOf (cells : List (Str × Addr)) : List (Str × NameKind) → List (Str × Addr) → List (Str × Addr)
  | [], cs => cs
  | (n, k) :: r, cs => clOf cells r (if k = .free then (match cells.lookup n with | some c => (n, c) :: cs | none => cs) else cs)

theorem closureFor_cells {scope : Scope} {env : Env} (h : ∀ y ∈ scope.names, y.2 = .free → ∃ c, env.cells.lookup y.1 = some c) : closureFor scope env = pure (clOf env.cells scope.names []) := by
  simp only [closureFor]
  generalize scope.names = names at h
  have key : ∀ (names : List (Str × NameKind)) (cs : List (Str × Addr)), (∀ y ∈ names, y.2 = .free → ∃ c, env.cells.lookup y.1 = some c) →
      (forIn names cs fun x r => if (x.2 == NameKind.free) = true then do let c ← cellOf env x.1; pure (ForInStep.yield ((x.1, c) :: r)) else pure (ForInStep.yield r)) = (pure (clOf env.cells names cs) : Sem _) := by
    intro names
    induction names with
    | nil => intro cs _; rfl
    | cons y r ih =>
      intro cs hy
      obtain ⟨n, k⟩ := y
      rw [List.forIn_cons]
      by_cases hk : k = .free
      · subst hk
        obtain ⟨c, hc⟩ := hy (n, .free) List.mem_cons_self rfl
        have hc' : List.lookup n env.cells = some c := hc
        have e : cellOf env n = pure c := by unfold cellOf; rw [hc']
        simp only [beq_self_eq_true, if_true, e, pure_bind, clOf, hc']
        exact ih _ fun y hm => hy y (List.mem_cons_of_mem _ hm)
      · have hb : (k == NameKind.free) = false := by simpa using hk
        simp only [hb, Bool.false_eq_true, if_false, pure_bind, clOf, if_neg hk]
        exact ih _ fun y hm => hy y (List.mem_cons_of_mem _ hm)
  rw [key names [] h]
  rfl

theorem cl_sub {cells : List (Str × Addr)} {x : Str} {c : Addr} : ∀ {names : List (Str × NameKind)} {cs : List (Str × Addr)}, (clOf cells names cs).lookup x = some c → cs.lookup x = some c ∨ cells.lookup x = some c
  | [], cs, h => .inl h
  | (n, k) :: r, cs, h => by
    unfold clOf at h
    rcases cl_sub h with h2 | h2
    · clear h
      by_cases hk : k = .free
      · rw [if_pos hk] at h2
        cases e : cells.lookup n with
        | none => rw [e] at h2; exact .inl h2
        | some c' =>
          rw [e] at h2
          simp only [List.lookup_cons] at h2
          cases hx : x == n with
          | true =>
            have hx' : x = n := by simpa using hx
            rw [hx] at h2
            subst hx'
            cases h2
            exact .inr e
          | false =>
            rw [hx] at h2
            exact .inl h2
      · rw [if_neg hk] at h2
        exact .inl h2
    · exact .inr h2
theorem cl_has {cells : List (Str × Addr)} {x : Str} {c : Addr} (hc : cells.lookup x = some c) : ∀ {names : List (Str × NameKind)} {cs : List (Str × Addr)}, ((x, NameKind.free) ∈ names ∨ cs.lookup x = some c) → (∀ c', cs.lookup x = some c' → c' = c) → (clOf cells names cs).lookup x = some c
  | [], cs, h, _ => by
    rcases h with h | h
    · exact nomatch h
    · exact h
  | (n, k) :: r, cs, h, hu => by
    unfold clOf
    refine cl_has hc ?_ ?_
    · rcases h with h | h
      · rcases List.mem_cons.mp h with h | h
        · cases h
          right
          rw [if_pos rfl, hc]
          simp
        · exact .inl h
      · right
        by_cases hk : k = .free
        · rw [if_pos hk]
          cases e : cells.lookup n with
          | none => exact h
          | some c' =>
            simp only [List.lookup_cons]
            cases hx : x == n with
            | true =>
              have hx' : x = n := by simpa using hx
              subst hx'
              rw [hc] at e
              cases e
              rfl
            | false => exact h
        · rw [if_neg hk]; exact h
    · intro c' h'
      by_cases hk : k = .free
      · rw [if_pos hk] at h'
        cases e : cells.lookup n with
        | none => rw [e] at h'; exact hu c' h'
        | some c2 =>
          rw [e] at h'
          simp only [List.lookup_cons] at h'
          cases hx : x == n with
          | true =>
            have hx' : x = n := by simpa using hx
            subst hx'
            rw [hx] at h'
            rw [hc] at e
            cases e
            cases h'
            rfl
          | false =>
            rw [hx] at h'
            exact hu c' h'
      · rw [if_neg hk] at h'
        exact hu c' h'

theorem relabel_free {env : Env} : ∀ {names : List (Str × NameKind)} {x : Str}, names.lookup x = some .free →
    (names.map fun (n, k) => if (k == NameKind.free && env.scope.kind == .function && env.kindOf n == some .cell) then (n, NameKind.cell) else (n, k)).lookup x = some .cell ∨
    (names.map fun (n, k) => if (k == NameKind.free && env.scope.kind == .function && env.kindOf n == some .cell) then (n, NameKind.cell) else (n, k)).lookup x = some .free
  | [], _, h => by simp at h
  | (n, k) :: r, x, h => by
    have ih := @relabel_free env r x
    simp only [List.map_cons]
    cases hx : x == n with
    | true =>
      simp only [List.lookup_cons, hx] at h
      cases h
      by_cases hc : (NameKind.free == NameKind.free && env.scope.kind == .function && env.kindOf n == some .cell) = true
      · rw [if_pos hc]; left; simp [List.lookup_cons, hx]
      · rw [if_neg hc]; right; simp [List.lookup_cons, hx]
    | false =>
      simp only [List.lookup_cons, hx] at h
      by_cases hc : (k == NameKind.free && env.scope.kind == .function && env.kindOf n == some .cell) = true
      · rw [if_pos hc]; simp only [List.lookup_cons, hx]; exact ih h
      · rw [if_neg hc]; simp only [List.lookup_cons, hx]; exact ih h
/-- a name that is a cell or free behind the relabelling is free in the scope, where the scope has no cells of its own -/
theorem free_of_relabel {env : Env} : ∀ {names : List (Str × NameKind)} {x : Str}, (∀ y ∈ names, y.2 ≠ NameKind.cell) →
    ((names.map fun (n, k) => if (k == NameKind.free && env.scope.kind == .function && env.kindOf n == some .cell) then (n, NameKind.cell) else (n, k)).lookup x = some .cell ∨
    (names.map fun (n, k) => if (k == NameKind.free && env.scope.kind == .function && env.kindOf n == some .cell) then (n, NameKind.cell) else (n, k)).lookup x = some .free) → names.lookup x = some .free
  | [], _, _, h => by simp at h
  | (n, k) :: r, x, hn, h => by
    have ih := @free_of_relabel env r x (fun y hy => hn y (List.mem_cons_of_mem _ hy))
    simp only [List.map_cons] at h
    cases hx : x == n with
    | true =>
      simp only [List.lookup_cons, hx]
      by_cases hc : (k == NameKind.free && env.scope.kind == .function && env.kindOf n == some .cell) = true
      · rw [if_pos hc] at h
        have hk : k = .free := by
          cases k <;> first | rfl | (simp at hc)
        rw [hk]
      · rw [if_neg hc] at h
        simp only [List.lookup_cons, hx] at h
        rcases h with h | h
        · exact absurd (Option.some.inj h) (hn (n, k) List.mem_cons_self)
        · exact h
    | false =>
      simp only [List.lookup_cons, hx]
      by_cases hc : (k == NameKind.free && env.scope.kind == .function && env.kindOf n == some .cell) = true
      · rw [if_pos hc] at h; simp only [List.lookup_cons, hx] at h; exact ih h
      · rw [if_neg hc] at h; simp only [List.lookup_cons, hx] at h; exact ih h

/-- the context of a comprehension's block -/
def cxComp (X : Cx) (scope : Scope) (C : Addr) (fp : List Addr) (s₂ : Shared) (H₂ : Hp) (N : List Str) : Cx :=
  { X with N := N, s₀ := s₂, H₀ := H₂, env := compEnvC scope (clOf X.env.cells scope.names []) C X.env, outer := X.stack, ex := fp, fn := fun _ => false, pn := [], xe := fun _ _ => False }

/-- the block's values at its entry: its own names have none, the others are taken from around -/
def inner (src : List (Option Nat)) (σ : St) : St := src.map fun o => match o with | none => none | some j => (σ[j]?).join

/-- what is asked of the scope of a comprehension: decided by looking -/
structure CompScope (X : Cx) (scope : Scope) (N : List Str) (src : List (Option Nat)) : Prop where
  kind : scope.kind = .function
  nocell : ∀ y ∈ scope.names, y.2 ≠ NameKind.cell
  names : ∀ y ∈ scope.names, y.2 = NameKind.local → scope.names.lookup y.1 = some .local
  frees : ∀ y ∈ scope.names, y.2 = NameKind.free → X.env.kindOf y.1 = some .cell ∨ X.env.kindOf y.1 = some .free
  nd : N.Nodup
  len : src.length = N.length
  from_ : ∀ (i : Nat) x j, N[i]? = some x → src[i]? = some (some j) → X.N[j]? = some x ∧ scope.names.lookup x = some .free

theorem mem_of_lookupS {x : Str} {k : NameKind} : ∀ {names : List (Str × NameKind)}, names.lookup x = some k → (x, k) ∈ names
  | [], h => by simp at h
  | (n, k') :: r, h => by
    cases hx : x == n with
    | true =>
      simp only [List.lookup_cons, hx] at h
      have hx' : x = n := by simpa using hx
      cases h
      subst hx'
      exact List.mem_cons_self
    | false =>
      simp only [List.lookup_cons, hx] at h
      exact List.mem_cons_of_mem _ (mem_of_lookupS h)

section
variable {X : Cx} {pins : List (Addr × Obj)} {σ : St} {H₂ : Hp} {s₂ : Shared} {scope : Scope} {N : List Str} {src : List (Option Nat)} {fp : List Addr}

theorem CompScope.cells (S : CompScope X scope N src) (ok : X.Ok) : ∀ y ∈ scope.names, y.2 = .free → ∃ c, X.env.cells.lookup y.1 = some c := fun y hy hk => ok.has y.1 (S.frees y hy hk)

theorem comp_ok (S : CompScope X scope N src) (I : Inv X pins σ H₂ s₂) (f2 : ∀ b ∈ fp, FpOk X pins H₂ b) (ob : ∀ b ∈ fp, ∃ o, s₂.heap.get? b = some o ∧ ∀ v, o.data ≠ .cell v) {C : Addr} (hC : s₂.heap.objs.size ≤ C) :
    (cxComp X scope C fp s₂ H₂ N).Ok := by
  have sub : ∀ x c, (clOf X.env.cells scope.names []).lookup x = some c → X.env.cells.lookup x = some c := fun x c h => by
    rcases cl_sub h with h | h
    · simp at h
    · exact h
  refine ⟨I.ok.mod, S.kind, I.ok.glob, I.ok.blt, hC, fun x y c h1 h2 => I.ok.inj x y c (sub x c h1) (sub y c h2), fun x hx => ?_, fun x c hf _ => ?_, I.ok.hd, I.ok.frames, .inl rfl, fun b hb => ⟨?_, fun x c h => (f2 b hb).2.2.2.2.1 x c (sub x c h)⟩, fun b o e => I.bs b o e, ?_, fun b o e hb => ?_, fun b hb => ?_, I.stack, I.stkFree⟩
  · have hf : scope.names.lookup x = some .free := free_of_relabel S.nocell hx
    obtain ⟨c, hc⟩ := S.cells I.ok (x, .free) (mem_of_lookupS hf) rfl
    exact ⟨c, cl_has hc (.inl (mem_of_lookupS hf)) (by intro c' h'; simp at h')⟩
  · exact absurd hf (by intro z; cases z)
  · obtain ⟨o, e, _⟩ := ob b hb
    exact Nat.ne_of_lt (Nat.lt_of_lt_of_le (Heap.lt_size e) hC)
  · exact Nat.le_trans I.ok.bsz I.sz
  · rcases (f2 b hb).2.2.2.1 with z | z
    · exact I.ok.noex b o e z
    · exact absurd (Nat.lt_of_lt_of_le (Heap.lt_size e) (Nat.le_trans I.ok.bsz z)) (Nat.lt_irrefl _)
  · intro hz
    rcases List.mem_cons.mp (I.stkSub b hz) with e | e
    · exact (f2 b hb).2.1 e
    · exact (f2 b hb).2.2.1 e

theorem comp_inv (S : CompScope X scope N src) (I : Inv X pins σ H₂ s₂) (f2 : ∀ b ∈ fp, FpOk X pins H₂ b) (ob : ∀ b ∈ fp, ∃ o, s₂.heap.get? b = some o ∧ ∀ v, o.data ≠ .cell v) {C : Addr} {h₁ : Heap} {m : Str → Option Value} {tk n : Nat}
    (hC : s₂.heap.objs.size < C) (keep : ∀ b o, s₂.heap.get? b = some o → h₁.get? b = some o) (hD : h₁.get? s₂.heap.objs.size = some { cls := .type "list", data := .seq #[] n }) (hn : h₁.Ns C m) :
    Inv (cxComp X scope C fp s₂ H₂ N) [] (inner src σ) (upd H₂ s₂.heap.objs.size (.lst [])) { s₂ with heap := h₁, toks := tk } := by
  have sub : ∀ x c, (clOf X.env.cells scope.names []).lookup x = some c → X.env.cells.lookup x = some c := fun x c h => by
    rcases cl_sub h with h | h
    · simp at h
    · exact h
  have lt : ∀ x c, X.env.cells.lookup x = some c → c < s₂.heap.objs.size := fun x c h => let ⟨v, q⟩ := I.cell x c h; q.lt
  have hfr : H₂ s₂.heap.objs.size = none := I.hok.fresh (Nat.le_refl _)
  refine ⟨comp_ok S I f2 ob (Nat.le_of_lt hC), rfl, I.bare, Un.laid keep (Nat.le_refl _) hfr, ⟨m, hn, fun i x v e1 e2 e3 => ?_⟩, fun x c h => ?_, ?_, fun x c h => ?_, fun p hp => absurd (show p ∈ ([] : List (Addr × Obj)) from hp) (by simp), I.hok.laid keep (Nat.le_refl _) ⟨by simp, [], n, .nil, hD⟩, ?_⟩
  · have e2' : (inner src σ)[i]? = some (some v) := e2
    unfold inner at e2'
    rw [List.getElem?_map] at e2'
    cases q : src[i]? with
    | none => rw [q] at e2'; cases e2'
    | some o =>
      rw [q] at e2'
      cases o with
      | none => cases e2'
      | some j =>
        have ej : (σ[j]?).join = some v := Option.some.inj e2'
        have ej' : σ[j]? = some (some v) := by
          cases z : σ[j]? with
          | none => rw [z] at ej; cases ej
          | some w => rw [z] at ej; exact congrArg some ej
        obtain ⟨n1, n2⟩ := S.from_ i x j e1 q
        obtain ⟨m0, hn0, hl⟩ := I.loc
        have hfr' := S.frees (x, .free) (mem_of_lookupS n2) rfl
        obtain ⟨u, r, l⟩ := hl j x v n1 ej' (by rcases hfr' with z | z; exact .inr (.inl z); exact .inr (.inr z))
        refine ⟨u, r, .inr ⟨relabel_free n2, ?_⟩⟩
        rcases l with ⟨k, _⟩ | ⟨_, c, hc, o, ho, hd⟩
        · have k' : X.env.kindOf x = some .local := k
          rcases hfr' with z | z
          · have z' : X.env.kindOf x = some .cell := z
            rw [k'] at z'; cases z'
          · have z' : X.env.kindOf x = some .free := z
            rw [k'] at z'; cases z'
        · exact ⟨c, cl_has hc (.inl (mem_of_lookupS n2)) (by intro c' h'; simp at h'), o, keep c o ho, hd⟩
  · obtain ⟨v, o, ho, hd⟩ := I.cell x c (sub x c h)
    exact ⟨v, o, keep c o ho, hd⟩
  · show upd H₂ s₂.heap.objs.size (.lst []) C = none
    rw [upd_ne (Nat.ne_of_gt hC)]
    exact I.hok.fresh (Nat.le_of_lt hC)
  · rw [upd_ne (Nat.ne_of_lt (lt x c (sub x c h)))]
    exact I.freeC x c (sub x c h)
  · show (inner src σ).length = N.length
    unfold inner
    rw [List.length_map, S.len]

/-- behind the block -/
theorem comp_back (I : Inv X pins σ H₂ s₂) (f2 : ∀ b ∈ fp, FpOk X pins H₂ b) {C : Addr} {pins' : List (Addr × Obj)} {σ' : St} {H' : Hp} {s' : Shared} {h' : Heap} (hC : s₂.heap.objs.size ≤ C) (J : Inv (cxComp X scope C fp s₂ H₂ N) pins' σ' H' s')
    (kp : ∀ b o, b ≠ C → s'.heap.get? b = some o → h'.get? b = some o) : Inv X pins σ H' { s' with heap := h' } := by
  have neC : ∀ b o, s₂.heap.get? b = some o → b ≠ C := fun b o e => Nat.ne_of_lt (Nat.lt_of_lt_of_le (Heap.lt_size e) hC)
  have B := J.base
  refine I.call' (s' := { s' with heap := h' }) (ch := fp) J.os ⟨fun b o e n hb hx => kp b o (neC b o e) (B.keep b o e n hb hx), fun b o e n hb hx => ?_, B.free, fun b o e hx => ?_, B.tups, B.frzs, B.tbls⟩ (fun a o e => ?_) J.bare fun b hb => ⟨(f2 b hb).2.2.2.1, (f2 b hb).2.1, (f2 b hb).2.2.2.2⟩
  · obtain ⟨sl, q⟩ := B.slot b o e n hb hx
    exact ⟨sl, kp b _ (neC b o e) q⟩
  · obtain ⟨o', q⟩ := B.there b o e hx
    exact ⟨o', kp b o' (neC b o e) q⟩
  · have nC : H' C = none := J.free
    have ne : ∀ b u, H' b = some u → b ≠ C := fun b u q z => by rw [z, nC] at q; cases q
    refine (J.hok a o e).stay (fun c v hc q => kp c v ?_ q) (fun _ q => q) fun _ _ q => q
    rcases hc with z | z
    · rw [z]; exact ne a o e
    · exact ne c _ z
end

/-! ### the tests of a comprehension -/
def PTs (X : Cx) (ifs : List Expr) (t : TT) : Prop :=
  ∀ (pins : List (Addr × Obj)) (s : Shared) (σ : St) (H : Hp) (Q : Bool → Hp → Prop), Inv X pins σ H s → t σ H Q →
    wpAny (model X.prog X.w) X.A (forIn ifs true fun c r => if r = true then do let ok ← isTrue c X.env (eval c X.env); pure (ForInStep.yield ok) else pure (ForInStep.yield r)) (TP X pins σ Q) X.xe s
theorem pts_nil {X : Cx} : PTs X [] (fun _ H Q => Q true H) := fun pins s σ H Q I h => wpAny_pure ⟨H, I, h⟩
theorem pts_one {X : Cx} {c : Expr} {t : TT} (hc : PT X c t) : PTs X [c] t := by
  intro pins s σ H Q I h
  rw [List.forIn_cons]
  simp only [if_true]
  refine wpAny_bind (wpAny_bind (thn (hc pins s σ H Q I h) fun b s1 q => ?_))
  exact wpAny_pure (wpAny_pure q)

/-- [elt for tg in iter if tests]: J what is walked; W by the turn, a measure and the items so far -/
def tComp (wi : TI) (src : List (Option Nat)) (g : TG) (tc : TT) (te : TE) : TE := fun σ H Q => wi σ H fun J H1 => ∀ D, H1 D = none →
  ∃ W : Nat → Nat → List V → St → Hp → Prop, (∃ m, W 0 m [] (inner src σ) (upd H1 D (.lst []))) ∧ ∀ i m ys σ' H', W i m ys σ' H' → H' D = some (.lst ys) →
    (J.stop i H' ∧ Q (.ref D) H') ∨
    (J.go i H' ∧ ∀ x H2, J.yld i H' x H2 → g x σ' H2 fun σ3 H3 => tc σ3 H3 fun b H4 =>
      if b = true then te σ3 H4 fun y H5 => H5 D = some (.lst ys) ∧ ys.length < sizeLine ∧ ∃ m', m' < m ∧ W (i + 1) m' (ys ++ [y]) σ3 (upd H5 D (.lst (ys ++ [y])))
      else H4 D = some (.lst ys) ∧ ∃ m', m' < m ∧ W (i + 1) m' ys σ3 H4)

section
variable {X : Cx} {pins : List (Addr × Obj)} {σ : St} {H₂ : Hp} {s₂ : Shared} {scope : Scope} {N : List Str} {src : List (Option Nat)}
theorem comp_run {elt tg iter : Expr} {ifs : List Expr} {pos : Pos} {g : TG} {tc : TT} {te : TE} {it : Addr} {fp : List Addr} {tn : Nat → Heap → Prop} {J : It} {Q : VK} {E : Value → Shared → Prop} {RR : Value → Addr → Result → Shared → Prop}
    (hc : X.calm = true) (S : CompScope X scope N src) (I2 : Inv X pins σ H₂ s₂) (T : Turn X.prog X.w X.K tg J fp it tn) (st2 : tn 0 s₂.heap) (f2 : ∀ b ∈ fp, FpOk X pins H₂ b)
    (hg : ∀ C fp s H, PG (cxComp X scope C fp s H N) tg g) (ht : ∀ C fp s H, PTs (cxComp X scope C fp s H N) ifs tc) (he : ∀ C fp s H, PE (cxComp X scope C fp s H N) elt te)
    (h : ∀ D, H₂ D = none → ∃ W : Nat → Nat → List V → St → Hp → Prop, (∃ m, W 0 m [] (inner src σ) (upd H₂ D (.lst []))) ∧ ∀ i m ys σ' H', W i m ys σ' H' → H' D = some (.lst ys) →
      (J.stop i H' ∧ Q (.ref D) H') ∨
      (J.go i H' ∧ ∀ x H2, J.yld i H' x H2 → g x σ' H2 fun σ3 H3 => tc σ3 H3 fun b H4 =>
        if b = true then te σ3 H4 fun y H5 => H5 D = some (.lst ys) ∧ ys.length < sizeLine ∧ ∃ m', m' < m ∧ W (i + 1) m' (ys ++ [y]) σ3 (upd H5 D (.lst (ys ++ [y])))
        else H4 D = some (.lst ys) ∧ ∃ m', m' < m ∧ W (i + 1) m' ys σ3 H4))
    (hRR : ∀ (D C : Addr) (σ' : St) (H' : Hp) (s' : Shared), s₂.heap.objs.size ≤ C → Inv (cxComp X scope C fp s₂ H₂ N) [] σ' H' s' → Q (.ref D) H' → RR (.ref D) C (.ok .next) s') :
    wpAny (model X.prog X.w) X.A (newList []) (fun acc s₃ => wpAny (model X.prog X.w) X.A (newFunctionEnv scope X.env.globals (clOf X.env.cells scope.names []) [] X.env.qual none .none (some X.env)) (fun cenv s₄ =>
      codeAny (model X.prog X.w) X.A (.compStart (.ListComp elt [⟨tg, iter, ifs, 0⟩] scope pos) 0 (.ref it) acc { cenv with scope := relabel scope X.env }) (RR acc cenv.locals) s₄) E s₃) E s₂ := by
  refine wpAny_newObj_type (wpAny_newFunctionEnv S.nocell (by intro y hy; simp at hy) (fun h₁ hns₁ hsb₁ => ?_) S.kind)
  dsimp only at hns₁ hsb₁ ⊢
  generalize hH2 : s₂.heap.push { cls := .type "list", dict := none, data := .seq ([] : List Value).toArray } = P2 at hns₁ hsb₁ ⊢
  have hC : P2.objs.size = s₂.heap.objs.size + 1 := by rw [← hH2, Heap.size_push]
  have hDC : s₂.heap.objs.size ≠ P2.objs.size := by rw [hC]; exact Nat.ne_of_lt (Nat.lt_succ_self _)
  have old : ∀ b o, s₂.heap.get? b = some o → h₁.get? b = some o := fun b o e => hsb₁.extBut b o (by rw [hC]; exact Nat.ne_of_lt (Nat.lt_succ_of_lt (Heap.lt_size e))) (Heap.get?_push_of_some _ (hH2 ▸ Heap.get?_push_of_some _ e))
  have hacc : h₁.get? s₂.heap.objs.size = some { cls := .type "list", data := .seq #[] } := hsb₁.extBut _ _ hDC (Heap.get?_push_of_some _ (hH2 ▸ Heap.get?_push_size _ rfl))
  have st1 : tn 0 h₁ := T.keep _ _ _ st2 fun b _ o e => old b o e
  have ob := T.obj _ _ st2
  have lt : s₂.heap.objs.size < P2.objs.size := by rw [hC]; exact Nat.lt_succ_self _
  have I3 := comp_inv (tk := s₂.toks + ([] : List (Str × Value)).length) S I2 f2 ob lt old hacc hns₁
  obtain ⟨W, ⟨m0, w0⟩, step⟩ := h s₂.heap.objs.size I2.fresh
  have fpn : ∀ b ∈ fp, b ≠ s₂.heap.objs.size := fun b hb => by
    obtain ⟨o, e, _⟩ := ob b hb
    exact Nat.ne_of_lt (Heap.lt_size e)
  have fok : ∀ {pins' : List (Addr × Obj)} {H' : Hp}, (∀ b ∈ fp, H' b = none) → (∀ p ∈ pins', p.1 ∉ fp) → ∀ b ∈ fp, FpOk (cxComp X scope P2.objs.size fp s₂ H₂ N) pins' H' b := fun {pins' H'} hn hp b hb => by
    have okc := I3.ok
    exact ⟨hn b hb, (okc.exf b hb).1, okc.exfs b hb, .inl hb, (okc.exf b hb).2, fun p hp' z => hp p (by simpa [cxComp] using hp') (z ▸ hb)⟩
  have loop : ∀ s₃ : Shared, s₃ = { s₂ with heap := h₁, toks := s₂.toks + ([] : List (Str × Value)).length } →
      codeAny (model X.prog X.w) X.A (.compLoop (.ListComp elt [⟨tg, iter, ifs, 0⟩] scope pos) 0 (.ref it) (.ref s₂.heap.objs.size) (compEnvC scope (clOf X.env.cells scope.names []) P2.objs.size X.env))
        (RR (.ref s₂.heap.objs.size) P2.objs.size) s₃ := by
    rintro s₃ rfl
    refine codeAny_loop rfl (fun n s' => ∃ i ys σ' H', Inv (cxComp X scope P2.objs.size fp s₂ H₂ N) [] σ' H' s' ∧ tn i s'.heap ∧ (∀ b ∈ fp, H' b = none) ∧ H' s₂.heap.objs.size = some (.lst ys) ∧ W i n ys σ' H') (fun n s' hI => ?_) m0
      ⟨0, [], inner src σ, _, I3, st1, fun b hb => by rw [upd_ne (fpn b hb)]; exact (f2 b hb).1, upd_same, w0⟩
    obtain ⟨i, ys, σ3, H3, J3, st3, fr3, hD3, w3⟩ := hI
    show wpAny _ X.A ((compTurn (.ListComp elt [⟨tg, iter, ifs, 0⟩] scope pos) 0 (.ref it) (.ref s₂.heap.objs.size) _).onRaise (fun x => do noteFrame x _; theTreesLotGoes x)) _ _ s'
    refine wpAny_noted ?_
    rw [compTurn_list]
    have never : ∀ {α : Type} {t : Sem α} {Q1 : α → Shared → Prop} {E1 : Value → Shared → Prop} {s1 : Shared}, wpAny (model X.prog X.w) X.A t Q1 (fun _ _ => False) s1 → wpAny (model X.prog X.w) X.A t Q1 E1 s1 := fun h => wpAny_mono h (fun _ _ q => q) fun _ _ f => f.elim
    refine wpAny_bind (wpAny_standAt (wpAny_bind ?_))
    rcases step i n ys σ3 H3 w3 hD3 with ⟨stop, qn⟩ | ⟨go, turn⟩
    · refine never (thn (T.done (cxComp X scope P2.objs.size fp s₂ H₂ N) rfl rfl rfl hc i [] s' σ3 H3 _ J3 (fok fr3 (by simp)) st3 stop) fun r s4 ⟨hr, I4⟩ => ?_)
      subst hr
      exact wpAny_pure (hRR _ _ σ3 H3 s4 (Nat.le_of_lt lt) I4 qn)
    · refine never (thn (T.item (cxComp X scope P2.objs.size fp s₂ H₂ N) rfl rfl rfl hc i [] s' σ3 H3 _ J3 (fok fr3 (by simp)) st3 go) fun r s4 ⟨u, hr, h4⟩ => ?_)
      subst hr
      refine wpAny_bind (never (thn h4 fun _ s5 ⟨x, H5, I5, r5, y5, st5, fr5⟩ => ?_))
      have I5' := I5.pinned (fok fr5 (by simp)) (T.obj _ _ st5)
      have kept : ∀ {σ7 : St} {H7 : Hp} {s7 : Shared}, Inv (cxComp X scope P2.objs.size fp s₂ H₂ N) ([] ++ pinsAt fp s5.heap) σ7 H7 s7 → Inv (cxComp X scope P2.objs.size fp s₂ H₂ N) [] σ7 H7 s7 ∧ tn (i + 1) s7.heap ∧ ∀ b ∈ fp, H7 b = none := fun {σ7 H7 s7} I7 => by
        refine ⟨I7.unpinned, T.keep _ _ _ st5 fun b hb o e => (I7.pin (b, o) (List.mem_append_right _ (List.mem_append_right _ (mem_pinsAt hb e)))).1, fun b hb => ?_⟩
        obtain ⟨o, e, d⟩ := T.obj _ _ st5 b hb
        exact (I7.pin (b, o) (List.mem_append_right _ (List.mem_append_right _ (mem_pinsAt hb e)))).2.1
      refine wpAny_bind (never (thn (hg _ _ _ _ _ s5 σ3 H5 x u _ I5' r5 (turn x H5 y5)) fun _ s6 ⟨σ6, H6, I6, q6⟩ => ?_))
      refine wpAny_bind (never (thn (ht _ _ _ _ _ s6 σ6 H6 _ I6 q6) fun b s7 ⟨H7, I7, q7⟩ => ?_))
      cases b with
      | false =>
        rw [if_neg (by decide)] at q7
        obtain ⟨hD7, m', hm, w7⟩ := q7
        obtain ⟨I7', st7, fr7⟩ := kept I7
        exact wpAny_pure ⟨rfl, m', hm, i + 1, ys, σ6, H7, I7', st7, fr7, hD7, w7⟩
      | true =>
        rw [if_pos rfl] at q7
        refine wpAny_bind (wpAny_bind (never (thn (he _ _ _ _ _ s7 σ6 H7 _ I7 q7) fun yv s8 ⟨y, H8, I8, r8, hD8, hz, m', hm, w8⟩ => ?_)))
        refine wpAny_bind (never (thn (mt_append (X := cxComp X scope P2.objs.size fp s₂ H₂ N) _ s8 σ6 H8 (.ref s₂.heap.objs.size) [y] _ [yv] (fun v H' => v = .non ∧ H' = upd H8 s₂.heap.objs.size (.lst (ys ++ [y]))) I8 rfl (.cons r8 .nil) ⟨_, ys, y, rfl, rfl, hD8, hz, rfl, rfl⟩) fun _ s9 ⟨v9, H9, I9, _, _, e9⟩ => ?_))
        subst e9
        obtain ⟨I9', st9, fr9⟩ := kept I9
        exact wpAny_pure (wpAny_pure ⟨rfl, m', hm, i + 1, _, σ6, _, I9', st9, fr9, upd_same, w8⟩)
  exact codeAny_compStart_list (loop _ rfl) (T.self _ 0 _ _ _ st1 (loop _ rfl))
end
end L2

set_option Elab.async false
set_option linter.all false
set_option maxRecDepth 100000
set_option maxHeartbeats 4000000
namespace L2
open PySem PySem.Spec PyProof.Rows
section
variable {X : Cx} {scope : Scope} {N : List Str} {src : List (Option Nat)} {elt tg iter : Expr} {ifs : List Expr} {pos : Pos} {wi : TI} {g : TG} {tc : TT} {te : TE}
theorem pe_comp (hc : X.calm = true) (hi : PI X tg iter wi) (S : CompScope X scope N src)
    (hg : ∀ C fp s H, PG (cxComp X scope C fp s H N) tg g) (ht : ∀ C fp s H, PTs (cxComp X scope C fp s H N) ifs tc) (he : ∀ C fp s H, PE (cxComp X scope C fp s H N) elt te)
    (hs : ∀ x, foldedSetIterable iter X.env x = pure x := by intro _; rfl) : PE X (.ListComp elt [⟨tg, iter, ifs, 0⟩] scope pos) (tComp wi src g tc te) := by
  intro pins s σ H Q I h
  rw [eval_ListComp]
  refine wpAny_comprehension_free (use := none) rfl hs (closureFor_cells (S.cells I.ok)) S.kind S.names (thn (hi pins s σ H _ I h) fun v s1 h1 => thn h1 fun itv s2 h2 => ?_)
  obtain ⟨it, fp, tn, J, H2, rfl, I2, T, st2, f2, hW⟩ := h2
  refine comp_run (Q := Q) (RR := fun acc C => compPost (model X.prog X.w) X.A X.xe none (EP X pins σ Q) acc C) hc S I2 T st2 f2 hg ht he hW ?_
  intro D C σ' H' s' hC J q
  obtain ⟨m, hn, _⟩ := id J.loc
  exact ⟨m, hn, fun h' hs' => ⟨.ref D, H', comp_back I2 f2 hC J (fun b o hb e => hs'.extBut b o hb e), rfl, q⟩⟩

/-- name = [..], the store within the block -/
theorem ps_setcomp {i : Nat} {x : Str} {pos' spos : Pos} (hc : X.calm = true) (hi : PI X tg iter wi) (S : CompScope X scope N src)
    (hg : ∀ C fp s H, PG (cxComp X scope C fp s H N) tg g) (ht : ∀ C fp s H, PTs (cxComp X scope C fp s H N) ifs tc) (he : ∀ C fp s H, PE (cxComp X scope C fp s H N) elt te)
    (hsw : swapsWith (.ListComp elt [⟨tg, iter, ifs, 0⟩] scope pos) (some (.Name x pos')) spos.line X.env = pure true)
    (hN : X.N.Nodup) (hx : X.N[i]? = some x) (hl : X.env.scope.names.lookup x = some .local)
    (hs : ∀ x, foldedSetIterable iter X.env x = pure x := by intro _; rfl) : PS X (.Assign [.Name x pos'] (.ListComp elt [⟨tg, iter, ifs, 0⟩] scope pos) spos) (tAsg (tComp wi src g tc te) (gName i)) := by
  intro pins s σ H D I h
  rw [exec_Assign_Name_used _ _ _ _ hsw]
  refine wpAny_bind (wpAny_standAt (wpAny_bind ?_))
  show wpAny _ X.A (do let _ ← comprehension (.ListComp elt [⟨tg, iter, ifs, 0⟩] scope pos) scope X.env _ (newList []) false (eval iter X.env) (some (assign (.Name x pos') X.env))) _ _ s
  refine wpAny_bind (wpAny_mono (wpAny_comprehension_free (use := some (assign (.Name x pos') X.env)) (Q := fun _ s' => SP X pins D .next s') rfl hs (closureFor_cells (S.cells I.ok)) S.kind S.names
    (thn (hi pins s σ H _ I h) fun v s1 h1 => thn h1 fun itv s2 h2 => ?_)) (fun _ s' hq => wpAny_pure (wpAny_pure hq)) fun _ _ e => e)
  obtain ⟨it, fp, tn, J, H2, rfl, I2, T, st2, f2, hW⟩ := h2
  refine comp_run (Q := fun v H' => D.nx (σ.set i (some v)) H') (RR := fun acc C => compPost (model X.prog X.w) X.A X.xe (some (assign (.Name x pos') X.env)) (fun _ s' => SP X pins D .next s') acc C) hc S I2 T st2 f2 hg ht he hW ?_
  intro L C σ' H' s' hC J q
  obtain ⟨m, hn, _⟩ := id J.loc
  have I3 : Inv X pins σ H' s' := comp_back (h' := s'.heap) I2 f2 hC J (fun b o hb e => e)
  show wpAny _ X.A (assign (.Name x pos') X.env (.ref L)) _ _ _
  have nL : X.env.locals ≠ C := Nat.ne_of_lt (Nat.lt_of_lt_of_le I2.lt hC)
  refine wpAny_assign_Name (store_ok2 I3 hN hx (.inl hl) (show RelV (.ref L) (.ref L) from rfl) (fun s4 I4 hsb => ?_) (.inr hl))
  obtain ⟨a, sb, ha⟩ := hsb
  have ha' : a ≠ C := by
    rcases ha with z | z
    · rw [z]; exact nL
    · obtain ⟨v, hv⟩ := I2.cell x a z
      exact Nat.ne_of_lt (Nat.lt_of_lt_of_le hv.lt hC)
  refine ⟨m, hn.sameBut sb (Ne.symm ha'), fun h5 sb5 => ?_⟩
  have I5 : Inv X pins (σ.set i (some (V.ref L))) H' { s4 with heap := h5, toks := s4.toks } := I4.turned (it := C) (fun b o hb e => sb5.extBut b o hb e) J.free (Ne.symm nL) (.inr (Nat.le_trans I2.sz hC)) (fun y c e z => by
      obtain ⟨v, hv⟩ := I2.cell y c e
      exact absurd (Nat.lt_of_lt_of_le hv.lt (by rw [z]; exact hC)) (Nat.lt_irrefl _)) fun p hp z => absurd (Nat.lt_of_lt_of_le (Heap.lt_size (I2.pin p hp).1) (by rw [z]; exact hC)) (Nat.lt_irrefl _)
  exact ⟨_, H', I5, q⟩
end
end L2

set_option Elab.async false
set_option linter.all false
set_option maxRecDepth 100000
set_option maxHeartbeats 4000000
/-! A small language of our own, its meaning as a plain function over a heap of numbered objects. -/
namespace PI
open L2 (V Key)
open PySem (Str)

inductive BOp | add | sub | mul | fdiv | mod | pow | band
  deriving DecidableEq
inductive COp | lt | le | gt | ge | eq | ne | inn | notin | is | isnot
  deriving DecidableEq
inductive BF | len | sum | all | any | max | min | abs | list | int | tuple | range
  deriving DecidableEq
/-- a target: a name's slot, or a tuple of them -/
inductive Tg | name (i : Nat) | tup (is : List Nat)
  deriving DecidableEq

mutual
inductive E
  | var (i : Nat) | cst (v : V) | glob (g : Nat)
  | bin (op : BOp) (a b : E) | neg (a : E)
  | cmp (op : COp) (a b : E) | cmp2 (o1 o2 : COp) (a b c : E)
  | and (a b : E) | or (a b : E) | not (a : E) | ite (c a b : E)
  | call (f : Nat) (as : Es) | blt (f : BF) (as : Es) | isi (a : E) (ts : List String)
  | idx (a b : E) | sl (a : E) (lo hi : Es) | lst (as : Es) | tup (as : Es)
  | comp (it : Itr) (src : List (Option Nat)) (g : Tg) (c : Es) (e : E)
  | app (a b : E)
inductive Es | nil | cons (a : E) (as : Es)
inductive Itr | list (a : E) | rng1 (a : E) | rng2 (a b : E) | zip (a b : E)
end
mutual
inductive S
  | asg (g : Tg) (e : E) | par (i j : Nat) (a b : E) | put (o i v : E)
  | expr (e : E) | ret (e : E) | retN | ifs (c : E) (t u : Ss)
  | for_ (g : Tg) (it : Itr) (b : Ss) | while_ (c : E) (b : Ss) | pass | brk | cont | stop
inductive Ss | nil | cons (s : S) (r : Ss)
end

/-- an object: a list (fz: only read), a tuple -/
inductive O | lst (fz : Bool) (xs : List V) | tup (xs : List V)
  deriving DecidableEq
abbrev AH := List O
abbrev St := List (Option V)

inductive Res (α : Type) | ok (a : α) | exc (c : Nat) (h : AH) | stuck
def Res.bind {α β : Type} : Res α → (α → Res β) → Res β
  | .ok a, f => f a
  | .exc c h, _ => .exc c h
  | .stuck, _ => .stuck
@[simp] theorem Res.bind_ok {α β : Type} (a : α) (f : α → Res β) : (Res.ok a).bind f = f a := rfl
abbrev RV := Res (V × AH)

/-- the items of a list or tuple that is read -/
def items (h : AH) (a : Nat) : Option (List V) := match h[a]? with
  | some (.lst _ xs) => some xs
  | some (.tup xs) => some xs
  | none => none
def lstAt (h : AH) (a : Nat) : Option (List V) := match h[a]? with
  | some (.lst _ xs) => some xs
  | _ => none
def tupAt (h : AH) (a : Nat) : Option (List V) := match h[a]? with
  | some (.tup xs) => some xs
  | _ => none
/-- a list that may be written -/
def mutAt (h : AH) (a : Nat) : Option (List V) := match h[a]? with
  | some (.lst false xs) => some xs
  | _ => none

def lim : Nat := 100000

def newL (xs : List V) (h : AH) : RV := .ok (.ref h.length, h ++ [.lst false xs])
def newT (xs : List V) (h : AH) : RV := .ok (.ref h.length, h ++ [.tup xs])

/-- how a list and a tuple are told equal: by depth -/
def flat : V → Bool
  | .non => true | .bl _ => true | .int _ => true | .str _ => true | _ => false
def eqF : V → V → Option Bool
  | .int i, .int j => some (i == j)
  | .bl i, .bl j => some (i == j)
  | .str i, .str j => some (i == j)
  | .non, .non => some true
  | .int i, .bl b => some (i == (if b then 1 else 0))
  | .bl b, .int i => some ((if b then 1 else 0) == i)
  | .non, .int _ => some false | .int _, .non => some false
  | .non, .bl _ => some false | .bl _, .non => some false
  | .non, .str _ => some false | .str _, .non => some false
  | .int _, .str _ => some false | .str _, .int _ => some false
  | .bl _, .str _ => some false | .str _, .bl _ => some false
  | _, _ => none
/-- the answers of two rows, item by item; none where one is not known -/
def eqAll (f : V → V → Option Bool) : List V → List V → Option (List Bool)
  | [], [] => some []
  | x :: xs, y :: ys => match f x y, eqAll f xs ys with
    | some b, some bs => some (b :: bs)
    | _, _ => none
  | _, _ => none
def eqD (h : AH) : Nat → V → V → Option Bool
  | 0, x, y => eqF x y
  | n + 1, .ref a, .ref b => match h[a]?, h[b]? with
    | some (.lst _ xs), some (.lst _ ys) => if a = b then some true else if xs.length = ys.length then (eqAll (eqD h n) xs ys).map fun bs => bs.all id else some false
    | some (.tup xs), some (.tup ys) => if a = b then some true else if xs.length = ys.length then (eqAll (eqD h n) xs ys).map fun bs => bs.all id else (eqAll (eqD h n) (xs.take ys.length) (ys.take xs.length)).map fun _ => false
    | some (.lst _ _), some (.tup _) => some false
    | some (.tup _), some (.lst _ _) => some false
    | _, _ => none
  | _ + 1, .ref a, y => if h[a]?.isSome && flat y then some false else none
  | _ + 1, x, .ref b => if flat x && h[b]?.isSome then some false else none
  | _ + 1, x, y => eqF x y

/-- the place that an index means -/
abbrev ixN (n : Nat) (i : Int) : Option Nat := L2.ixN n i
abbrev cut (xs : List V) (lo hi : Option Int) : List V := L2.cutV xs lo hi

def two64 : Int := 18446744073709551616
def small (i : Int) : Bool := decide (-two64 < i ∧ i < two64)

def binV : BOp → V → V → AH → RV
  | .add, .int i, .int j, h => .ok (.int (i + j), h)
  | .add, .ref a, .ref b, h => match mutAt h a, mutAt h b with
    | some xs, some ys => if xs.length + ys.length ≤ lim then newL (xs ++ ys) h else .stuck
    | _, _ => .stuck
  | .sub, .int i, .int j, h => .ok (.int (i - j), h)
  | .mul, .int i, .int j, h => if small i || small j then .ok (.int (i * j), h) else .stuck
  | .mul, .ref a, .int k, h => match mutAt h a with
    | some xs => if 0 ≤ k ∧ xs.length * k.toNat ≤ lim ∧ k < 1000000 then newL (List.replicate k.toNat xs).flatten h else .stuck
    | none => .stuck
  | .fdiv, .int i, .int j, h => if 0 < j ∧ j < 1073741824 then .ok (.int (i / j), h) else .stuck
  | .mod, .int i, .int j, h => if 0 < j then .ok (.int (i % j), h) else .stuck
  | .pow, .int i, .int j, h => if 0 ≤ j ∧ j ≤ 1000 ∧ i.natAbs < 1000000 then .ok (.int (i ^ j.toNat), h) else .stuck
  | .band, .int i, .int j, h => .ok (.int (PySem.Builtin.bitAnd i j), h)
  | _, _, _, _ => .stuck

def cmpV : COp → V → V → AH → Option Bool
  | .lt, .int i, .int j, _ => some (decide (i < j))
  | .le, .int i, .int j, _ => some (decide (i ≤ j))
  | .gt, .int i, .int j, _ => some (decide (j < i))
  | .ge, .int i, .int j, _ => some (decide (j ≤ i))
  | .eq, x, y, h => eqD h 4 x y
  | .ne, x, y, h => (eqD h 4 x y).map (!·)
  | .inn, x, .ref a, h => match items h a with
    | some xs => if flat x && xs.all flat then some (xs.any fun y => L2.eqV y x) else none
    | none => none
  | .notin, x, .ref a, h => match items h a with
    | some xs => if flat x && xs.all flat then some (!(xs.any fun y => L2.eqV y x)) else none
    | none => none
  | .is, x, .non, _ => some (decide (x = .non))
  | .isnot, x, .non, _ => some (!decide (x = .non))
  | _, _, _, _ => none
def cmpR (op : COp) (x y : V) (h : AH) : RV := match cmpV op x y h with
  | some b => .ok (.bl b, h)
  | none => .stuck

def asInts : List V → Option (List Int)
  | [] => some []
  | .int i :: r => (asInts r).map (i :: ·)
  | _ :: _ => none
def asBools : List V → Option (List Bool)
  | [] => some []
  | .bl b :: r => (asBools r).map (b :: ·)
  | _ :: _ => none

def rangeL (lo : Int) (n : Nat) : List V := (List.range n).map fun (i : Nat) => V.int (lo + (i : Int))

def bltV : BF → List V → AH → RV
  | .len, [.ref a], h => match items h a with | some xs => .ok (.int xs.length, h) | none => .stuck
  | .sum, [.ref a], h => match lstAt h a with
    | some xs => match asInts xs with | some is => .ok (.int is.sum, h) | none => .stuck
    | none => .stuck
  | .all, [.ref a], h => match lstAt h a with
    | some xs => match asBools xs with | some bs => .ok (.bl (bs.all id), h) | none => .stuck
    | none => .stuck
  | .any, [.ref a], h => match lstAt h a with
    | some xs => match asBools xs with | some bs => .ok (.bl (bs.any id), h) | none => .stuck
    | none => .stuck
  | .max, [.int i, .int j], h => .ok (.int (if j > i then j else i), h)
  | .min, [.int i, .int j], h => .ok (.int (if j < i then j else i), h)
  | .abs, [.int i], h => .ok (.int (if i < 0 then -i else i), h)
  | .list, [.ref a], h => match items h a with | some xs => newL xs h | none => .stuck
  | .int, [.int i], h => .ok (.int i, h)
  | .int, [.bl b], h => .ok (.int (if b then 1 else 0), h)
  | _, _, _ => .stuck

def typeV (h : AH) : V → Option String
  | .non => some "NoneType"
  | .bl _ => some "bool"
  | .int _ => some "int"
  | .str _ => some "str"
  | .ref a => match h[a]? with | some (.lst _ _) => some "list" | some (.tup _) => some "tuple" | none => none
  | _ => none
def isOne (t c : String) : Bool := t == c || (t == "bool" && c == "int")

/-- what a loop walks -/
inductive Src | list (a : Nat) | tupl (a : Nat) | rng (lo : Int) (n : Nat) | zip (a b : Nat)
def srcLen (h : AH) : Src → Option Nat
  | .list a => (lstAt h a).map List.length
  | .tupl a => (tupAt h a).map List.length
  | .rng _ n => some n
  | .zip a b => match lstAt h a, lstAt h b with | some xs, some ys => some (min xs.length ys.length) | _, _ => none
/-- the item of turn i -/
def yieldAt (h : AH) (i : Nat) : Src → Option (V × AH)
  | .list a => match lstAt h a with | some xs => xs[i]?.map fun x => (x, h) | none => none
  | .tupl a => match tupAt h a with | some xs => xs[i]?.map fun x => (x, h) | none => none
  | .rng lo n => if i < n then some (.int (lo + (i : Int)), h) else none
  | .zip a b => match lstAt h a, lstAt h b with
    | some xs, some ys => match xs[i]?, ys[i]? with | some x, some y => some (.ref h.length, h ++ [.tup [x, y]]) | _, _ => none
    | _, _ => none
def stopAt (h : AH) (i : Nat) : Src → Bool
  | .list a => match lstAt h a with | some xs => decide (xs.length ≤ i) | none => false
  | .tupl a => match tupAt h a with | some xs => decide (xs.length ≤ i) | none => false
  | .rng _ n => decide (n ≤ i)
  | .zip a b => match lstAt h a, lstAt h b with | some xs, some ys => decide (xs.length ≤ i ∨ ys.length ≤ i) | _, _ => false

def setAll : List Nat → List V → St → Option St
  | [], [], σ => some σ
  | i :: is, x :: xs, σ => setAll is xs (σ.set i (some x))
  | _, _, _ => none
def store : Tg → V → St → AH → Option St
  | .name i, v, σ, _ => some (σ.set i (some v))
  | .tup is, .ref a, σ, h => match tupAt h a with | some xs => setAll is xs σ | none => none
  | .tup _, _, _, _ => none

/-- a comprehension's turns: n of them left, i the next, ys so far -/
def compL (s : Src) (g : Tg) (c : St → AH → Res (Bool × AH)) (e : St → AH → RV) (D : Nat) : Nat → Nat → List V → St → AH → RV
  | 0, i, _, _, h => if stopAt h i s then .ok (.ref D, h) else .stuck
  | n + 1, i, ys, σ, h => match yieldAt h i s with
    | some (x, h1) => match store g x σ h1 with
      | some σ1 => (c σ1 h1).bind fun (b, h2) =>
        if b then (e σ1 h2).bind fun (y, h3) => if h3[D]? = some (.lst false ys) ∧ ys.length < lim then compL s g c e D n (i + 1) (ys ++ [y]) σ1 (h3.set D (.lst false (ys ++ [y]))) else .stuck
        else if h2[D]? = some (.lst false ys) then compL s g c e D n (i + 1) ys σ1 h2 else .stuck
      | none => .stuck
    | none => .stuck
def asB (r : RV) : Res (Bool × AH) := r.bind fun (v, h) => match v with | .bl b => .ok (b, h) | _ => .stuck

section
variable (F : Nat → List V → AH → RV)
mutual
def ev : E → St → AH → RV
  | .var i => fun σ h => match σ[i]? with | some (some v) => .ok (v, h) | _ => .stuck
  | .cst v => fun _ h => .ok (v, h)
  | .glob g => fun _ h => .ok (.ref g, h)
  | .bin op a b => fun σ h => (ev a σ h).bind fun (x, h1) => (ev b σ h1).bind fun (y, h2) => binV op x y h2
  | .neg a => fun σ h => (ev a σ h).bind fun (x, h1) => match x with | .int i => .ok (.int (-i), h1) | _ => .stuck
  | .cmp op a b => fun σ h => (ev a σ h).bind fun (x, h1) => (ev b σ h1).bind fun (y, h2) => cmpR op x y h2
  | .cmp2 o1 o2 a b c => fun σ h => (ev a σ h).bind fun (x, h1) => (ev b σ h1).bind fun (y, h2) => match cmpV o1 x y h2 with
    | some true => (ev c σ h2).bind fun (z, h3) => cmpR o2 y z h3
    | some false => .ok (.bl false, h2)
    | none => .stuck
  | .and a b => fun σ h => (asB (ev a σ h)).bind fun (x, h1) => if x then ev b σ h1 else .ok (.bl false, h1)
  | .or a b => fun σ h => (asB (ev a σ h)).bind fun (x, h1) => if x then .ok (.bl true, h1) else ev b σ h1
  | .not a => fun σ h => (asB (ev a σ h)).bind fun (x, h1) => .ok (.bl (!x), h1)
  | .ite c a b => fun σ h => (asB (ev c σ h)).bind fun (x, h1) => if x then ev a σ h1 else ev b σ h1
  | .call f as => fun σ h => (evs as σ h).bind fun (xs, h1) => F f xs h1
  | .blt f as => fun σ h => (evs as σ h).bind fun (xs, h1) => bltV f xs h1
  | .isi a ts => fun σ h => (ev a σ h).bind fun (x, h1) => match typeV h1 x with | some t => .ok (.bl (ts.any (isOne t)), h1) | none => .stuck
  | .idx a b => fun σ h => (ev a σ h).bind fun (x, h1) => (ev b σ h1).bind fun (y, h2) => match x, y with
    | .ref p, .int i => match items h2 p with
      | some xs => match (ixN xs.length i).bind fun j => xs[j]? with | some v => .ok (v, h2) | none => .stuck
      | none => .stuck
    | _, _ => .stuck
  | .sl a lo hi => fun σ h => (ev a σ h).bind fun (x, h1) => (evs lo σ h1).bind fun (l, h2) => (evs hi σ h2).bind fun (u, h3) =>
    match x, asInts l, asInts u with
    | .ref p, some l, some u => match lstAt h3 p with | some xs => newL (cut xs l.head? u.head?) h3 | none => .stuck
    | _, _, _ => .stuck
  | .lst as => fun σ h => (evs as σ h).bind fun (xs, h1) => if xs.length ≤ lim then newL xs h1 else .stuck
  | .tup as => fun σ h => (evs as σ h).bind fun (xs, h1) => if xs.length ≤ lim then newT xs h1 else .stuck
  | .comp it src g c e => fun σ h => (evi it σ h).bind fun (s, h1) => match srcLen (h1 ++ [.lst false []]) s with
    | some n => compL s g (evc c) (ev e) h1.length n 0 [] (L2.inner src σ) (h1 ++ [.lst false []])
    | none => .stuck
  | .app a b => fun σ h => (ev a σ h).bind fun (x, h1) => match x with
    | .ref p => (match lstAt h1 p with
      | some _ => (ev b σ h1).bind fun (y, h2) => match mutAt h2 p with
        | some xs => if xs.length < lim then .ok (.non, h2.set p (.lst false (xs ++ [y]))) else .stuck
        | none => .stuck
      | none => .stuck)
    | _ => .stuck
def evs : Es → St → AH → Res (List V × AH)
  | .nil => fun _ h => .ok ([], h)
  | .cons a as => fun σ h => (ev a σ h).bind fun (x, h1) => (evs as σ h1).bind fun (xs, h2) => .ok (x :: xs, h2)
def evc : Es → St → AH → Res (Bool × AH)
  | .nil => fun _ h => .ok (true, h)
  | .cons a _ => fun σ h => asB (ev a σ h)
def evi : Itr → St → AH → Res (Src × AH)
  | .list a => fun σ h => (ev a σ h).bind fun (x, h1) => match x with | .ref p => (match h1[p]? with | some (.lst _ _) => .ok (.list p, h1) | some (.tup _) => .ok (.tupl p, h1) | none => .stuck) | _ => .stuck
  | .rng1 a => fun σ h => (ev a σ h).bind fun (x, h1) => match x with | .int j => if -1000000 ≤ j ∧ j ≤ 1000000 then .ok (.rng 0 j.toNat, h1) else .stuck | _ => .stuck
  | .rng2 a b => fun σ h => (ev a σ h).bind fun (x, h1) => (ev b σ h1).bind fun (y, h2) => match x, y with
    | .int i, .int j => if (-1000000 ≤ i ∧ i ≤ 1000000) ∧ -1000000 ≤ j ∧ j ≤ 1000000 then .ok (.rng i (j - i).toNat, h2) else .stuck
    | _, _ => .stuck
  | .zip a b => fun σ h => (ev a σ h).bind fun (x, h1) => (ev b σ h1).bind fun (y, h2) => match x, y with
    | .ref p, .ref q => match lstAt h2 p, lstAt h2 q with | some _, some _ => .ok (.zip p q, h2) | _, _ => .stuck
    | _, _ => .stuck
end

/-- how a statement ends -/
inductive Out | nx (σ : St) | rt (v : V) | bk (σ : St) | ct (σ : St)
abbrev RS := Res (Out × AH)
def forL (s : Src) (g : Tg) (b : St → AH → RS) : Nat → Nat → St → AH → RS
  | 0, i, σ, h => if stopAt h i s then .ok (.nx σ, h) else .stuck
  | n + 1, i, σ, h => match yieldAt h i s with
    | some (x, h1) => match store g x σ h1 with
      | some σ1 => (b σ1 h1).bind fun (o, h2) => match o with
        | .nx σ2 => forL s g b n (i + 1) σ2 h2
        | .ct σ2 => forL s g b n (i + 1) σ2 h2
        | .bk σ2 => .ok (.nx σ2, h2)
        | .rt v => .ok (.rt v, h2)
      | none => .stuck
    | none => .stuck
def whileL (c : St → AH → Res (Bool × AH)) (b : St → AH → RS) : Nat → St → AH → RS
  | 0, _, _ => .stuck
  | n + 1, σ, h => (c σ h).bind fun (t, h1) => if t then (b σ h1).bind fun (o, h2) => match o with
      | .nx σ2 => whileL c b n σ2 h2
      | .ct σ2 => whileL c b n σ2 h2
      | .bk σ2 => .ok (.nx σ2, h2)
      | .rt v => .ok (.rt v, h2)
    else .ok (.nx σ, h1)
/-- whiles have at most so many turns -/
def wlim : Nat := 1000000
mutual
def ex : S → St → AH → RS
  | .asg g e => fun σ h => (ev F e σ h).bind fun (x, h1) => match store g x σ h1 with | some σ1 => .ok (.nx σ1, h1) | none => .stuck
  | .par i j a b => fun σ h => (ev F a σ h).bind fun (x, h1) => (ev F b σ h1).bind fun (y, h2) => .ok (.nx ((σ.set i (some x)).set j (some y)), h2)
  | .put o i v => fun σ h => (ev F v σ h).bind fun (x, h1) => (ev F o σ h1).bind fun (p, h2) => (ev F i σ h2).bind fun (k, h3) => match p, k with
    | .ref a, .int k => match mutAt h3 a with
      | some xs => match ixN xs.length k with | some j => .ok (.nx σ, h3.set a (.lst false (xs.set j x))) | none => .stuck
      | none => .stuck
    | _, _ => .stuck
  | .expr e => fun σ h => (ev F e σ h).bind fun (_, h1) => .ok (.nx σ, h1)
  | .ret e => fun σ h => (ev F e σ h).bind fun (x, h1) => .ok (.rt x, h1)
  | .retN => fun _ h => .ok (.rt .non, h)
  | .ifs c t u => fun σ h => (asB (ev F c σ h)).bind fun (x, h1) => if x then exs t σ h1 else exs u σ h1
  | .for_ g it b => fun σ h => (evi F it σ h).bind fun (s, h1) => match srcLen h1 s with
    | some n => forL s g (exs b) n 0 σ h1
    | none => .stuck
  | .while_ c b => fun σ h => whileL (fun σ h => asB (ev F c σ h)) (exs b) wlim σ h
  | .pass => fun σ h => .ok (.nx σ, h)
  | .brk => fun σ h => .ok (.bk σ, h)
  | .cont => fun σ h => .ok (.ct σ, h)
  | .stop => fun _ _ => .stuck
def exs : Ss → St → AH → RS
  | .nil => fun σ h => .ok (.nx σ, h)
  | .cons s r => fun σ h => (ex s σ h).bind fun (o, h1) => match o with
    | .nx σ1 => exs r σ1 h1
    | o => .ok (o, h1)
end
end

structure Fn where
  npar : Nat
  nslot : Nat
  body : Ss
/-- the defs, to a depth of calls -/
def Fk (tb : List Fn) : Nat → Nat → List V → AH → RV
  | 0, _, _, _ => .stuck
  | k + 1, f, vs, h => match tb[f]? with
    | some d => if vs.length = d.npar ∧ d.npar ≤ d.nslot then (exs (Fk tb k) d.body (vs.map some ++ List.replicate (d.nslot - d.npar) none) h).bind fun (o, h1) => match o with
        | .nx _ => .ok (.non, h1)
        | .rt v => .ok (v, h1)
        | _ => .stuck
      else .stuck
    | none => .stuck
end PI

set_option Elab.async false
set_option linter.all false
set_option maxRecDepth 100000
set_option maxHeartbeats 4000000
namespace PI
open PySem PySem.Spec PyProof.Rows
open L2 (V Hp HO Cx PE PT PA PS PSs TE TT TA TS VK upd upd_same upd_ne SqL SqT Same)

/-- a value of ours and one of the layer's: the objects by their numbers -/
def rv (φ : List Addr) : V → V → Prop
  | .ref i, .ref a => φ[i]? = some a
  | .non, .non => True
  | .bl b, .bl c => b = c
  | .int i, .int j => i = j
  | .str x, .str y => x = y
  | _, _ => False
abbrev rvs (φ : List Addr) : List V → List V → Prop := Paired (rv φ)
def ropt (φ : List Addr) : Option V → Option V → Prop
  | some v, oc => ∃ w, oc = some w ∧ rv φ v w
  | none, _ => True
abbrev rst (φ : List Addr) : St → St → Prop := Paired (ropt φ)
def Ext (φ φ' : List Addr) : Prop := ∃ r, φ' = φ ++ r
theorem Ext.refl (φ : List Addr) : Ext φ φ := ⟨[], by simp⟩
theorem Ext.trans {a b c : List Addr} (h : Ext a b) (g : Ext b c) : Ext a c := by
  obtain ⟨r, rfl⟩ := h
  obtain ⟨q, rfl⟩ := g
  exact ⟨r ++ q, by simp⟩
theorem Ext.get {φ φ' : List Addr} (x : Ext φ φ') {i : Nat} {a : Addr} (h : φ[i]? = some a) : φ'[i]? = some a := by
  obtain ⟨r, rfl⟩ := x
  rw [List.getElem?_append_left (List.getElem?_eq_some_iff.mp h).1]
  exact h
theorem rv.mono {φ φ' : List Addr} (x : Ext φ φ') : ∀ {v w : V}, rv φ v w → rv φ' v w
  | .ref i, .ref a, h => x.get h
  | .non, .non, h => h
  | .bl _, .bl _, h => h
  | .int _, .int _, h => h
  | .str _, .str _, h => h
  | .byt _, _, h => by cases h
  | .flt _, _, h => by cases h
  | .ty _, _, h => by cases h
theorem rvs.mono {φ φ' : List Addr} (x : Ext φ φ') {vs ws : List V} (h : rvs φ vs ws) : rvs φ' vs ws := L2.Paired.mapP h fun _ _ r => rv.mono x r
theorem ropt.mono {φ φ' : List Addr} (x : Ext φ φ') : ∀ {v w : Option V}, ropt φ v w → ropt φ' v w
  | some v, oc, h => by obtain ⟨w, e, r⟩ := h; exact ⟨w, e, rv.mono x r⟩
  | none, _, _ => trivial
theorem rst.mono {φ φ' : List Addr} (x : Ext φ φ') {σ τ : St} (h : rst φ σ τ) : rst φ' σ τ := L2.Paired.mapP h fun _ _ r => ropt.mono x r

theorem paired_get {α β : Type} {R : α → β → Prop} : ∀ {xs : List α} {ys : List β} {i : Nat} {x : α}, Paired R xs ys → xs[i]? = some x → ∃ y, ys[i]? = some y ∧ R x y
  | _, _, _, _, .nil, e => by simp at e
  | _, _, 0, _, .cons r _, e => by simp at e; subst e; exact ⟨_, rfl, r⟩
  | _, _, i + 1, x, .cons _ t, e => by
    obtain ⟨u, h1, h2⟩ := paired_get (i := i) (x := x) t (by simpa using e)
    exact ⟨u, by simpa using h1, h2⟩
theorem paired_set {α β : Type} {R : α → β → Prop} {x : α} {u : β} (r : R x u) : ∀ {xs : List α} {us : List β} (i : Nat), Paired R xs us → Paired R (xs.set i x) (us.set i u)
  | _, _, _, .nil => .nil
  | _, _, 0, .cons _ t => .cons r t
  | _, _, i + 1, .cons q t => .cons q (paired_set r i t)
theorem paired_append {α β : Type} {R : α → β → Prop} : ∀ {xs ys : List α} {us ws : List β}, Paired R xs us → Paired R ys ws → Paired R (xs ++ ys) (us ++ ws)
  | _, _, _, _, .nil, s => s
  | _, _, _, _, .cons r t, s => .cons r (paired_append t s)
theorem paired_take {α β : Type} {R : α → β → Prop} : ∀ {xs : List α} {us : List β} (n : Nat), Paired R xs us → Paired R (xs.take n) (us.take n)
  | _, _, 0, _ => .nil
  | _, _, _ + 1, .nil => .nil
  | _, _, n + 1, .cons r t => .cons r (paired_take n t)
theorem paired_drop {α β : Type} {R : α → β → Prop} : ∀ {xs : List α} {us : List β} (n : Nat), Paired R xs us → Paired R (xs.drop n) (us.drop n)
  | _, _, 0, r => r
  | _, _, _ + 1, .nil => .nil
  | _, _, n + 1, .cons _ t => paired_drop n t
theorem paired_rep {α β : Type} {R : α → β → Prop} {xs : List α} {us : List β} (h : Paired R xs us) : ∀ k : Nat, Paired R (List.replicate k xs).flatten (List.replicate k us).flatten
  | 0 => .nil
  | k + 1 => by
    rw [List.replicate_succ, List.replicate_succ, List.flatten_cons, List.flatten_cons]
    exact paired_append h (paired_rep h k)

/-- an object of ours and what stands at its address -/
def ro (K : PySem.W.Frag) (φ : List Addr) (H : Hp) (a : Addr) : O → Prop
  | .lst false xs => ∃ ys, H a = some (.lst ys) ∧ rvs φ xs ys
  | .lst true xs => ∃ ys, ((∃ o, H a = some (.frz o (.lst ys))) ∨ SqL K (fun _ => none) a ys) ∧ rvs φ xs ys
  | .tup xs => ∃ ys, SqT K H a ys ∧ rvs φ xs ys
structure Rl (K : PySem.W.Frag) (G : List Addr) (φ : List Addr) (h : AH) (H : Hp) : Prop where
  len : φ.length = h.length
  glob : Ext G φ
  obj : ∀ (i : Nat) o a, h[i]? = some o → φ[i]? = some a → ro K φ H a o
  inj : ∀ (i j : Nat) xs ys a, h[i]? = some (.lst false xs) → h[j]? = some (.lst false ys) → φ[i]? = some a → φ[j]? = some a → i = j

section
variable {K : PySem.W.Frag} {G φ φ' : List Addr} {h : AH} {H H' : Hp} {a b p : Addr}
theorem sqT_same {xs : List V} (s : Same H H') (q : SqT K H a xs) : SqT K H' a xs := by
  rcases q with (h | ⟨o, h⟩) | h
  · exact .inl (.inl (s _ _ h))
  · exact .inl (.inr ⟨o, s _ _ h⟩)
  · exact .inr h
theorem sqL_none {xs : List V} (q : SqL K (fun _ => none) a xs) : SqL K H a xs := by
  rcases q with (h | ⟨o, h⟩) | h
  · cases h
  · cases h
  · exact .inr h
theorem same_upd {o : HO} (hp : H p = none) : Same H (upd H p o) := fun b u e => by rw [upd_ne (L2.ne_of_none e hp)]; exact e
theorem ro.keep {o : O} (x : Ext φ φ') (s : Same H H') (r : ro K φ H a o) : ro K φ' H' a o := by
  match o, r with
  | .lst false xs, ⟨ys, e, r⟩ => exact ⟨ys, s _ _ e, rvs.mono x r⟩
  | .lst true xs, ⟨ys, .inl ⟨o, e⟩, r⟩ => exact ⟨ys, .inl ⟨o, s _ _ e⟩, rvs.mono x r⟩
  | .lst true xs, ⟨ys, .inr e, r⟩ => exact ⟨ys, .inr e, rvs.mono x r⟩
  | .tup xs, ⟨ys, e, r⟩ => exact ⟨ys, sqT_same s e, rvs.mono x r⟩
/-- another list at b is written -/
theorem ro.other {o : O} {zs ws : List V} (hb : H b = some (.lst zs)) (hne : ∀ xs, o = .lst false xs → a ≠ b) (r : ro K φ H a o) : ro K φ (upd H b (.lst ws)) a o := by
  match o, r with
  | .lst false xs, ⟨ys, e, r⟩ => exact ⟨ys, by rw [upd_ne (hne xs rfl)]; exact e, r⟩
  | .lst true xs, ⟨ys, .inl ⟨o, e⟩, r⟩ => exact ⟨ys, .inl ⟨o, by rw [upd_ne (L2.ne_of e hb (by intro z; cases z))]; exact e⟩, r⟩
  | .lst true xs, ⟨ys, .inr e, r⟩ => exact ⟨ys, .inr e, r⟩
  | .tup xs, ⟨ys, e, r⟩ =>
    refine ⟨ys, ?_, r⟩
    rcases e with (h | ⟨o, h⟩) | h
    · exact .inl (.inl (by rw [upd_ne (L2.ne_of h hb (by intro z; cases z))]; exact h))
    · exact .inl (.inr ⟨o, by rw [upd_ne (L2.ne_of h hb (by intro z; cases z))]; exact h⟩)
    · exact .inr h

theorem Rl.at (R : Rl K G φ h H) {i : Nat} {o : O} (e : h[i]? = some o) : ∃ a, φ[i]? = some a ∧ ro K φ H a o := by
  have hi : i < φ.length := by rw [R.len]; exact (List.getElem?_eq_some_iff.mp e).1
  exact ⟨φ[i], List.getElem?_eq_getElem hi, R.obj i o _ e (List.getElem?_eq_getElem hi)⟩
theorem Rl.new (R : Rl K G φ h H) (hp : H p = none) {o : O} {ob : HO} (n : ro K (φ ++ [p]) (upd H p ob) p o) (hl : ∀ xs, o = .lst false xs → ∃ ys, ob = .lst ys) : Rl K G (φ ++ [p]) (h ++ [o]) (upd H p ob) := by
  have x : Ext φ (φ ++ [p]) := ⟨[p], rfl⟩
  refine ⟨by simp [R.len], R.glob.trans x, fun i u a e1 e2 => ?_, fun i j xs ys a e1 e2 e3 e4 => ?_⟩
  · by_cases hi : i < h.length
    · rw [List.getElem?_append_left hi] at e1
      rw [List.getElem?_append_left (by rw [R.len]; exact hi)] at e2
      exact (R.obj i u a e1 e2).keep x (same_upd hp)
    · have hi' : i = h.length := by
        have := (List.getElem?_eq_some_iff.mp e1).1
        simp at this
        omega
      subst hi'
      simp at e1
      rw [← R.len] at e2
      simp at e2
      subst e1 e2
      exact n
  · have lt : ∀ {k : Nat} {zs : List V}, (h ++ [o])[k]? = some (.lst false zs) → (h[k]? = some (.lst false zs) ∧ k < h.length) ∨ (k = h.length ∧ o = .lst false zs) := fun {k zs} e => by
      by_cases hk : k < h.length
      · rw [List.getElem?_append_left hk] at e
        exact .inl ⟨e, hk⟩
      · have hk' : k = h.length := by
          have := (List.getElem?_eq_some_iff.mp e).1
          simp at this
          omega
        subst hk'
        simp at e
        exact .inr ⟨rfl, e⟩
    have old : ∀ {k : Nat} {b : Addr}, k < h.length → (φ ++ [p])[k]? = some b → φ[k]? = some b := fun {k b} hk e => by
      rwa [List.getElem?_append_left (by rw [R.len]; exact hk)] at e
    have newA : ∀ {b : Addr}, (φ ++ [p])[h.length]? = some b → b = p := fun {b} e => by
      rw [← R.len] at e
      simp at e
      exact e.symm
    rcases lt e1 with ⟨e1, h1⟩ | ⟨rfl, e1⟩ <;> rcases lt e2 with ⟨e2, h2⟩ | ⟨rfl, e2⟩
    · exact R.inj i j xs ys a e1 e2 (old h1 e3) (old h2 e4)
    · have ea := newA e4
      subst ea
      obtain ⟨zs, hz, _⟩ := R.obj i _ a e1 (old h1 e3)
      rw [hp] at hz; cases hz
    · have ea := newA e3
      subst ea
      obtain ⟨zs, hz, _⟩ := R.obj j _ a e2 (old h2 e4)
      rw [hp] at hz; cases hz
    · rfl
theorem Rl.newL (R : Rl K G φ h H) (hp : H p = none) {xs ys : List V} (r : rvs φ xs ys) : Rl K G (φ ++ [p]) (h ++ [.lst false xs]) (upd H p (.lst ys)) :=
  R.new hp ⟨ys, upd_same, rvs.mono ⟨[p], rfl⟩ r⟩ fun _ _ => ⟨ys, rfl⟩
theorem Rl.newT (R : Rl K G φ h H) (hp : H p = none) {xs ys : List V} (r : rvs φ xs ys) : Rl K G (φ ++ [p]) (h ++ [.tup xs]) (upd H p (.tup ys)) :=
  R.new hp ⟨ys, .inl (.inl upd_same), rvs.mono ⟨[p], rfl⟩ r⟩ fun _ e => nomatch e
theorem Rl.lastRef (R : Rl K G φ h H) : (φ ++ [p])[h.length]? = some p := by rw [← R.len]; simp
theorem Rl.set (R : Rl K G φ h H) {i : Nat} {xs ys zs : List V} (e : h[i]? = some (.lst false xs)) (ea : φ[i]? = some a) (r : rvs φ ys zs) : Rl K G φ (h.set i (.lst false ys)) (upd H a (.lst zs)) := by
  have hi := (List.getElem?_eq_some_iff.mp e).1
  obtain ⟨ws, hw, _⟩ := R.obj i _ a e ea
  have lk : ∀ {k : Nat} {zs : List V}, (h.set i (.lst false ys))[k]? = some (.lst false zs) → ∃ ws, h[k]? = some (.lst false ws) := fun {k zs} q => by
    by_cases hk : k = i
    · subst hk; exact ⟨xs, e⟩
    · rw [List.getElem?_set_ne (Ne.symm hk)] at q; exact ⟨zs, q⟩
  refine ⟨by simp [R.len], R.glob, fun k u b e1 e2 => ?_, fun k l us vs b e1 e2 e3 e4 => ?_⟩
  · by_cases hk : k = i
    · subst hk
      rw [List.getElem?_set_self hi] at e1
      rw [ea] at e2
      cases e1
      cases e2
      exact ⟨zs, upd_same, r⟩
    · rw [List.getElem?_set_ne (Ne.symm hk)] at e1
      refine (R.obj k u b e1 e2).other hw fun us hu hb => ?_
      subst hu hb
      exact hk (R.inj k i us xs b e1 e e2 ea)
  · obtain ⟨ws1, q1⟩ := lk e1
    obtain ⟨ws2, q2⟩ := lk e2
    exact R.inj k l ws1 ws2 b q1 q2 e3 e4

/-- what is read -/
theorem Rl.lst (R : Rl K G φ h H) {i : Nat} {xs : List V} (e : lstAt h i = some xs) : ∃ a ys, φ[i]? = some a ∧ SqL K H a ys ∧ rvs φ xs ys := by
  unfold lstAt at e
  split at e
  · rename_i fz zs q
    cases e
    obtain ⟨a, ea, r⟩ := R.at q
    cases fz with
    | false => obtain ⟨ys, e, r⟩ := r; exact ⟨a, ys, ea, .inl (.inl e), r⟩
    | true =>
      obtain ⟨ys, e, r⟩ := r
      rcases e with ⟨o, e⟩ | e
      · exact ⟨a, ys, ea, .inl (.inr ⟨o, e⟩), r⟩
      · exact ⟨a, ys, ea, sqL_none e, r⟩
  · cases e
theorem Rl.tup (R : Rl K G φ h H) {i : Nat} {xs : List V} (e : tupAt h i = some xs) : ∃ a ys, φ[i]? = some a ∧ SqT K H a ys ∧ rvs φ xs ys := by
  unfold tupAt at e
  split at e
  · rename_i zs q
    cases e
    obtain ⟨a, ea, ys, e, r⟩ := R.at q
    exact ⟨a, ys, ea, e, r⟩
  · cases e
theorem Rl.mut (R : Rl K G φ h H) {i : Nat} {xs : List V} (e : mutAt h i = some xs) : h[i]? = some (.lst false xs) ∧ ∃ a ys, φ[i]? = some a ∧ H a = some (.lst ys) ∧ rvs φ xs ys := by
  unfold mutAt at e
  split at e
  · rename_i zs q
    cases e
    obtain ⟨a, ea, ys, e, r⟩ := R.at q
    exact ⟨q, a, ys, ea, e, r⟩
  · cases e
theorem Rl.its (R : Rl K G φ h H) {i : Nat} {xs : List V} (e : items h i = some xs) : ∃ a ys, φ[i]? = some a ∧ (SqL K H a ys ∨ SqT K H a ys) ∧ rvs φ xs ys := by
  unfold items at e
  split at e
  · rename_i fz zs q
    cases e
    obtain ⟨a, ys, h1, h2, h3⟩ := R.lst (i := i) (xs := xs) (by unfold lstAt; rw [q])
    exact ⟨a, ys, h1, .inl h2, h3⟩
  · rename_i zs q
    cases e
    obtain ⟨a, ys, h1, h2, h3⟩ := R.tup (i := i) (xs := xs) (by unfold tupAt; rw [q])
    exact ⟨a, ys, h1, .inr h2, h3⟩
  · cases e
end
end PI

set_option Elab.async false
set_option linter.all false
set_option maxRecDepth 100000
set_option maxHeartbeats 4000000
namespace PI
open PySem PySem.Spec PyProof.Rows
open L2 (V Hp HO Cx PE PT PA PS PSs PG TE TT TA TS VK upd upd_same upd_ne SqL SqT Same Inv RelV Vals EP TP AP SP OpR CallR R2)

theorem Res.bind_inv {α β : Type} {r : Res α} {f : α → Res β} {x : β} (h : r.bind f = .ok x) : ∃ a, r = .ok a ∧ f a = .ok x := by
  cases r with
  | ok a => exact ⟨a, rfl, h⟩
  | exc c h' => cases h
  | stuck => cases h

theorem rv_int {φ : List Addr} {i : Int} {w : V} (h : rv φ (.int i) w) : w = .int i := by
  cases w with
  | int j => exact congrArg V.int (show i = j from h).symm
  | _ => exact False.elim h
theorem rv_bl {φ : List Addr} {i : Bool} {w : V} (h : rv φ (.bl i) w) : w = .bl i := by
  cases w with
  | bl j => exact congrArg V.bl (show i = j from h).symm
  | _ => exact False.elim h
theorem rv_str {φ : List Addr} {i : Str} {w : V} (h : rv φ (.str i) w) : w = .str i := by
  cases w with
  | str j => exact congrArg V.str (show i = j from h).symm
  | _ => exact False.elim h
theorem rv_non {φ : List Addr} {w : V} (h : rv φ .non w) : w = .non := by
  cases w with
  | non => rfl
  | _ => exact False.elim h
theorem rv_ref {φ : List Addr} {i : Nat} {w : V} (h : rv φ (.ref i) w) : ∃ a, w = .ref a ∧ φ[i]? = some a := by
  cases w with
  | ref j => exact ⟨j, rfl, h⟩
  | _ => exact False.elim h

section
variable (K : PySem.W.Frag) (G : List Addr) (F : Nat → List V → AH → RV)
def tE (e : E) : TE := fun σc H Q => ∃ φ h σ v h', Rl K G φ h H ∧ rst φ σ σc ∧ ev F e σ h = .ok (v, h') ∧ ∀ φ' H' w, Ext φ φ' → Rl K G φ' h' H' → rv φ' v w → Q w H'
def tB (r : St → AH → Res (Bool × AH)) : TT := fun σc H Q => ∃ φ h σ b h', Rl K G φ h H ∧ rst φ σ σc ∧ r σ h = .ok (b, h') ∧ ∀ φ' H', Ext φ φ' → Rl K G φ' h' H' → Q b H'
abbrev tT (e : E) : TT := tB K G (fun σ h => asB (ev F e σ h))
def tL (as : Es) : TA := fun σc H Q => ∃ φ h σ vs h', Rl K G φ h H ∧ rst φ σ σc ∧ evs F as σ h = .ok (vs, h') ∧ ∀ φ' H' ws, Ext φ φ' → Rl K G φ' h' H' → rvs φ' vs ws → Q ws H'
end

section
variable {X : Cx} {G : List Addr} {F : Nat → List V → AH → RV}
theorem pe_wk {e : Expr} {t t' : TE} (h : PE X e t) (w : ∀ σ H Q, t' σ H Q → t σ H Q) : PE X e t' := fun pins s σ H Q I q => h pins s σ H Q I (w σ H Q q)
theorem pt_wk {e : Expr} {t t' : TT} (h : PT X e t) (w : ∀ σ H Q, t' σ H Q → t σ H Q) : PT X e t' := fun pins s σ H Q I q => h pins s σ H Q I (w σ H Q q)
theorem pa_wk {e : List Expr} {t t' : TA} (h : PA X e t) (w : ∀ σ H Q, t' σ H Q → t σ H Q) : PA X e t' := fun pos pins s σ H Q I q => h pos pins s σ H Q I (w σ H Q q)
variable (X G F) in
abbrev SE (e : Expr) (a : E) : Prop := PE X e (tE X.K G F a)
variable (X G F) in
abbrev ST (e : Expr) (a : E) : Prop := PT X e (tT X.K G F a)
variable (X G F) in
abbrev SA (es : List Expr) (as : Es) : Prop := PA X es (tL X.K G F as)

variable {K : PySem.W.Frag} {φ φ' : List Addr} {h h1 h2 : AH} {H : Hp} {σ σc : St} {a b : E} {x y : V}
theorem tE_seq2 (R : Rl K G φ h H) (rs : rst φ σ σc) (ea : ev F a σ h = .ok (x, h1)) (eb : ev F b σ h1 = .ok (y, h2)) {Rr : V → V → Hp → Prop}
    (k : ∀ φ2 H2 xc yc, Ext φ φ2 → Rl K G φ2 h2 H2 → rv φ2 x xc → rv φ2 y yc → Rr xc yc H2) : tE K G F a σc H (fun xc H1 => tE K G F b σc H1 (fun yc H2 => Rr xc yc H2)) :=
  ⟨φ, h, σ, x, h1, R, rs, ea, fun φ1 H1 xc e1 R1 r1 => ⟨φ1, h1, σ, y, h2, R1, rst.mono e1 rs, eb, fun φ2 H2 yc e2 R2 r2 => k φ2 H2 xc yc (e1.trans e2) R2 (rv.mono e2 r1) r2⟩⟩

/-! ### names, constants -/
theorem se_var {i : Nat} {n : Str} {pos : Pos} (hN : X.N[i]? = some n) (hv : L2.Vis X.env.scope n) (hd : (n == ("__debug__" : Str)) = false) (hcd : (n == ("__classdict__" : Str)) = false) : SE X G F (.Name n pos) (.var i) := by
  refine pe_wk (L2.pe_var hN hv hd hcd) fun σc H Q q => ?_
  obtain ⟨φ, h, σ, v, h', R, rs, e, k⟩ := q
  unfold ev at e
  split at e
  · rename_i w q
    cases e
    obtain ⟨oc, ec, r⟩ := paired_get rs q
    obtain ⟨u, rfl, r⟩ := r
    exact ⟨u, ec, k φ H u (.refl _) R r⟩
  · cases e
theorem tC_of {v : V} {w : V} {σc : St} {H : Hp} {Q : VK} (hr : ∀ φ, rv φ v w) (q : tE K G F (.cst v) σc H Q) : L2.tC w σc H Q := by
  obtain ⟨φ, h, σ, v', h', R, rs, e, k⟩ := q
  unfold ev at e
  cases e
  exact k φ H w (.refl _) R (hr φ)
theorem se_int {i j pos} : SE X G F (.Constant (.int i) j pos) (.cst (.int i)) := pe_wk L2.pe_int fun _ _ _ => tC_of fun _ => rfl
theorem se_bl {i j pos} : SE X G F (.Constant (.bool i) j pos) (.cst (.bl i)) := pe_wk L2.pe_bl fun _ _ _ => tC_of fun _ => rfl
theorem se_non {j pos} : SE X G F (.Constant .none j pos) (.cst .non) := pe_wk L2.pe_non fun _ _ _ => tC_of fun _ => trivial
theorem se_str {i j pos} : SE X G F (.Constant (.str i) j pos) (.cst (.str i)) := pe_wk L2.pe_str fun _ _ _ => tC_of fun _ => rfl
/-- a constant of the file -/
theorem se_gcst {n : Str} {v : V} {u : Value} {pos : Pos} (hg : L2.Gl X n) (hm : X.mg n = some u) (r : RelV v u) (hv : ∀ φ, rv φ v v) (hd : (n == ("__debug__" : Str)) = false) : SE X G F (.Name n pos) (.cst v) :=
  pe_wk (L2.pe_glob hg hm r hd) fun _ _ _ => tC_of hv
theorem se_glob {n : Str} {g : Nat} {a : Addr} {pos : Pos} (hg : L2.Gl X n) (hm : X.mg n = some (.ref a)) (hG : G[g]? = some a) (hd : (n == ("__debug__" : Str)) = false) : SE X G F (.Name n pos) (.glob g) := by
  refine pe_wk (L2.pe_glob (v := .ref a) hg hm rfl hd) fun σc H Q q => ?_
  obtain ⟨φ, h, σ, v', h', R, rs, e, k⟩ := q
  unfold ev at e
  cases e
  exact k φ H (.ref a) (.refl _) R (R.glob.get hG)

/-! ### operators -/
def opB : BOp → Operator
  | .add => .Add | .sub => .Sub | .mul => .Mult | .fdiv => .FloorDiv | .mod => .Mod | .pow => .Pow | .band => .BitAnd
def rBin : BOp → R2
  | .add => fun x y H Q => L2.rI0 (fun i j => .int (i + j)) x y H Q ∨ L2.rCat x y H Q
  | .sub => L2.rI0 fun i j => .int (i - j)
  | .mul => fun x y H Q => L2.rI L2.CMul (fun i j => .int (i * j)) x y H Q ∨ L2.rRep x y H Q
  | .fdiv => L2.rI L2.CDiv fun i j => .int (i / j)
  | .mod => L2.rI (fun _ j => 0 < j) fun i j => .int (i % j)
  | .pow => L2.rI L2.CPow fun i j => .int (i ^ j.toNat)
  | .band => L2.rI0 fun i j => .int (Builtin.bitAnd i j)
theorem opR_bin : ∀ op, OpR X (binaryOp (opB op)) (rBin op)
  | .add => L2.op_add.or L2.op_cat
  | .sub => L2.op_sub
  | .mul => L2.op_mul.or L2.op_rep
  | .fdiv => L2.op_fdiv
  | .mod => L2.op_mod
  | .pow => L2.op_pow
  | .band => L2.op_and
theorem lim_le : lim ≤ sizeLine := by decide
theorem lim_lt : lim < sizeLine := by decide
theorem small_of {i : Int} (h : small i = true) : -(2 ^ 64) < i ∧ i < 2 ^ 64 := by
  unfold small two64 at h
  have := of_decide_eq_true h
  omega
theorem binV_ok {op : BOp} {v xc yc : V} {h' : AH} {Q : VK} (e : binV op x y h = .ok (v, h')) (R : Rl K G φ h H) (rx : rv φ x xc) (ry : rv φ y yc)
    (k : ∀ φ' H' w, Ext φ φ' → Rl K G φ' h' H' → rv φ' v w → Q w H') : rBin op xc yc H Q := by
  unfold binV at e
  split at e
  · cases e; cases rv_int rx; cases rv_int ry
    exact .inl ⟨_, _, rfl, rfl, k φ H _ (.refl _) R rfl⟩
  · split at e
    · rename_i xs ys e1 e2
      split at e
      · rename_i hl
        cases e
        obtain ⟨q1, a1, ys1, ha1, hH1, r1⟩ := R.mut e1
        obtain ⟨q2, a2, ys2, ha2, hH2, r2⟩ := R.mut e2
        obtain ⟨b1, rfl, hb1⟩ := rv_ref rx
        obtain ⟨b2, rfl, hb2⟩ := rv_ref ry
        rw [ha1] at hb1; cases hb1
        rw [ha2] at hb2; cases hb2
        refine .inr ⟨a1, a2, ys1, ys2, rfl, rfl, hH1, hH2, ?_, fun p hp => k (φ ++ [p]) _ _ ⟨[p], rfl⟩ (R.newL hp (paired_append r1 r2)) R.lastRef⟩
        have l1 := Paired.length r1
        have l2 := Paired.length r2
        have := lim_le
        omega
      · cases e
    · cases e
  · cases e; cases rv_int rx; cases rv_int ry
    exact ⟨_, _, rfl, rfl, k φ H _ (.refl _) R rfl⟩
  · split at e
    · rename_i hs
      cases e; cases rv_int rx; cases rv_int ry
      refine .inl ⟨_, _, rfl, rfl, ?_, k φ H _ (.refl _) R rfl⟩
      rcases Bool.or_eq_true _ _ ▸ hs with z | z
      · exact .inl (small_of z)
      · exact .inr (small_of z)
    · cases e
  · split at e
    · rename_i xs e1
      split at e
      · rename_i hl
        obtain ⟨h0, hl, h3⟩ := hl
        cases e
        obtain ⟨q1, a1, ys1, ha1, hH1, r1⟩ := R.mut e1
        obtain ⟨b1, rfl, hb1⟩ := rv_ref rx
        rw [ha1] at hb1; cases hb1
        cases rv_int ry
        refine .inr ⟨a1, _, ys1, rfl, rfl, hH1, by omega, by omega, ?_, fun p hp => k (φ ++ [p]) _ _ ⟨[p], rfl⟩ (R.newL hp (paired_rep r1 _)) R.lastRef⟩
        have l1 := Paired.length r1
        have := lim_le
        rw [← l1]
        omega
      · cases e
    · cases e
  · split at e
    · rename_i hc
      cases e; cases rv_int rx; cases rv_int ry
      exact ⟨_, _, rfl, rfl, hc, k φ H _ (.refl _) R rfl⟩
    · cases e
  · split at e
    · rename_i hc
      cases e; cases rv_int rx; cases rv_int ry
      exact ⟨_, _, rfl, rfl, hc, k φ H _ (.refl _) R rfl⟩
    · cases e
  · split at e
    · rename_i hc
      cases e; cases rv_int rx; cases rv_int ry
      refine ⟨_, _, rfl, rfl, ⟨hc.1, by omega, by omega⟩, k φ H _ (.refl _) R rfl⟩
    · cases e
  · cases e; cases rv_int rx; cases rv_int ry
    exact ⟨_, _, rfl, rfl, k φ H _ (.refl _) R rfl⟩
  · cases e
theorem se_bin {op : BOp} {ea eb : Expr} {pos : Pos} (ha : SE X G F ea a) (hb : SE X G F eb b) : SE X G F (.BinOp ea (opB op) eb pos) (.bin op a b) := by
  refine pe_wk (L2.pe_op (opR_bin op) ha hb) fun σc H Q q => ?_
  obtain ⟨φ, h, σ, v, h', R, rs, e, k⟩ := q
  unfold ev at e
  obtain ⟨⟨x, h1⟩, e1, e⟩ := Res.bind_inv e
  obtain ⟨⟨y, h2⟩, e2, e⟩ := Res.bind_inv e
  exact tE_seq2 R rs e1 e2 fun φ2 H2 xc yc x2 R2 r1 r2 => binV_ok e R2 r1 r2 fun φ' H' w x' R' r' => k φ' H' w (x2.trans x') R' r'
theorem se_neg {ea : Expr} {pos : Pos} (ha : SE X G F ea a) : SE X G F (.UnaryOp .USub ea pos) (.neg a) := by
  refine pe_wk (L2.pe_un L2.un_neg ha) fun σc H Q q => ?_
  obtain ⟨φ, h, σ, v, h', R, rs, e, k⟩ := q
  unfold ev at e
  obtain ⟨⟨x, h1⟩, e1, e⟩ := Res.bind_inv e
  refine ⟨φ, h, σ, x, h1, R, rs, e1, fun φ1 H1 xc x1 R1 r1 => ?_⟩
  dsimp only at e
  split at e
  · cases e
    cases rv_int r1
    exact ⟨_, rfl, k φ1 H1 _ x1 R1 rfl⟩
  · cases e
end
end PI

set_option Elab.async false
set_option linter.all false
set_option maxRecDepth 100000
set_option maxHeartbeats 4000000
namespace PI
open PySem PySem.Spec PyProof.Rows PySem.SeqAt
open L2 (V Hp HO Cx PE PT PA PS PSs PG TE TT TA TS VK upd upd_same upd_ne SqL SqT Same Inv RelV Vals EP TP AP SP OpR CallR R2)

structure Eq3 (A : Around) (s : Shared) (u w : Value) (b : Bool) : Prop where
  eq : EqAt A s u w b
  rc : RcAt A s u w b
  ne : RcNeAt A s u w (!b)
theorem eqF_ok {A : Around} {s : Shared} {φ : List Addr} : ∀ {x y xc yc : V} {u w : Value} {b : Bool}, eqF x y = some b → rv φ x xc → rv φ y yc → RelV xc u → RelV yc w → Eq3 A s u w b := by
  intro x y xc yc u w b e rx ry ru rw'
  cases x with
  | non =>
    cases rv_non rx; cases ru
    cases y with
    | non => cases rv_non ry; cases rw'; cases e; exact ⟨.same _, .none_none, .none_none⟩
    | bl j => cases rv_bl ry; cases rw'; cases e; exact ⟨.none_bool _, .none_bool _, .none_bool _⟩
    | int j => cases rv_int ry; obtain ⟨t, rfl⟩ := rw'; cases e; exact ⟨.none_int _ _, .none_int _ _, .none_int _ _⟩
    | str j => cases rv_str ry; obtain ⟨t, rfl⟩ := rw'; cases e; exact ⟨.none_str _ _, .none_str _ _, .none_str _ _⟩
    | _ => cases e
  | bl i =>
    cases rv_bl rx; cases ru
    cases y with
    | non => cases rv_non ry; cases rw'; cases e; exact ⟨.bool_none _, .bool_none _, .bool_none _⟩
    | bl j => cases rv_bl ry; cases rw'; cases e; exact ⟨.bool_bool _ _, .bool_bool _ _, .bool_bool _ _⟩
    | int j => cases rv_int ry; obtain ⟨t, rfl⟩ := rw'; cases e; exact ⟨.bool_int _ _ _, .bool_int _ _ _, .bool_int _ _ _⟩
    | str j => cases rv_str ry; obtain ⟨t, rfl⟩ := rw'; cases e; exact ⟨.bool_str _ _ _, .bool_str _ _ _, .bool_str _ _ _⟩
    | _ => cases e
  | int i =>
    cases rv_int rx; obtain ⟨t, rfl⟩ := ru
    cases y with
    | non => cases rv_non ry; cases rw'; cases e; exact ⟨.int_none _ _, .int_none _ _, .int_none _ _⟩
    | bl j => cases rv_bl ry; cases rw'; cases e; exact ⟨.int_bool _ _ _, .int_bool _ _ _, .int_bool _ _ _⟩
    | int j => cases rv_int ry; obtain ⟨t, rfl⟩ := rw'; cases e; exact ⟨.int_int _ _ _ _, .int_int _ _ _ _, .int_int _ _ _ _⟩
    | str j => cases rv_str ry; obtain ⟨t, rfl⟩ := rw'; cases e; exact ⟨.int_str _ _ _ _, .int_str _ _ _ _, .int_str _ _ _ _⟩
    | _ => cases e
  | str i =>
    cases rv_str rx; obtain ⟨t, rfl⟩ := ru
    cases y with
    | non => cases rv_non ry; cases rw'; cases e; exact ⟨.str_none _ _, .str_none _ _, .str_none _ _⟩
    | bl j => cases rv_bl ry; cases rw'; cases e; exact ⟨.str_bool _ _ _, .str_bool _ _ _, .str_bool _ _ _⟩
    | int j => cases rv_int ry; obtain ⟨t, rfl⟩ := rw'; cases e; exact ⟨.str_int _ _ _ _, .str_int _ _ _ _, .str_int _ _ _ _⟩
    | str j => cases rv_str ry; obtain ⟨t, rfl⟩ := rw'; cases e; exact ⟨.str_str _ _ _ _, .str_str _ _ _ _, .str_str _ _ _ _⟩
    | _ => cases e
  | _ => cases y <;> cases e
theorem eqF_same {φ : List Addr} {x y w : V} {b : Bool} (e : eqF x y = some b) (rx : rv φ x w) (ry : rv φ y w) : b = true := by
  cases x with
  | non => cases rv_non rx; cases y <;> first | exact False.elim ry | (cases e; rfl) | cases e
  | bl i => cases rv_bl rx; cases y <;> first | exact False.elim ry | (rename_i j; cases (show j = i from ry); cases e; simp) | cases e
  | int i => cases rv_int rx; cases y <;> first | exact False.elim ry | (rename_i j; cases (show j = i from ry); cases e; simp) | cases e
  | str i => cases rv_str rx; cases y <;> first | exact False.elim ry | (rename_i j; cases (show j = i from ry); cases e; simp) | cases e
  | _ => cases y <;> cases e

theorem eqAll_get {f : V → V → Option Bool} : ∀ {xs ys : List V} {bs : List Bool}, eqAll f xs ys = some bs → bs.length = xs.length ∧ ys.length = xs.length ∧ ∀ (j : Nat) x y, xs[j]? = some x → ys[j]? = some y → ∃ b, bs[j]? = some b ∧ f x y = some b
  | [], [], bs, e => by
    cases e
    exact ⟨rfl, rfl, fun j x y h => by simp at h⟩
  | [], _ :: _, _, e => by cases e
  | _ :: _, [], _, e => by cases e
  | x :: xs, y :: ys, bs, e => by
    unfold eqAll at e
    split at e
    · rename_i b bs' e1 e2
      cases e
      obtain ⟨l1, l2, k⟩ := eqAll_get e2
      refine ⟨by simp [l1], by simp [l2], fun j u v h1 h2 => ?_⟩
      cases j with
      | zero => simp at h1 h2; subst h1 h2; exact ⟨b, rfl, e1⟩
      | succ j => obtain ⟨b', h3, h4⟩ := k j u v (by simpa using h1) (by simpa using h2); exact ⟨b', by simpa using h3, h4⟩
    · cases e
theorem all_range (bs : List Bool) : (List.range bs.length).all (fun j => bs.getD j true) = bs.all id := by
  rw [Bool.eq_iff_iff]
  simp only [List.all_eq_true, List.mem_range, id]
  constructor
  · intro h b hb
    obtain ⟨j, hj, rfl⟩ := List.mem_iff_getElem.mp hb
    have := h j hj
    rw [List.getD_eq_getElem?_getD, List.getElem?_eq_getElem hj] at this
    exact this
  · intro h j hj
    rw [List.getD_eq_getElem?_getD, List.getElem?_eq_getElem hj]
    exact h _ (List.getElem_mem hj)

section
variable {X : Cx} {G φ : List Addr} {h : AH} {H : Hp} {pins : List (Addr × Obj)} {σ : L2.St} {s : Shared}
theorem eqD_same (I : Inv X pins σ H s) (R : Rl X.K G φ h H) : ∀ (n : Nat) {x y w : V} {b : Bool}, eqD h n x y = some b → rv φ x w → rv φ y w → b = true
  | 0, x, y, w, b, e, rx, ry => eqF_same e rx ry
  | n + 1, x, y, w, b, e, rx, ry => by
    have all : ∀ {xs ys zs : List V} {bs : List Bool}, rvs φ xs zs → rvs φ ys zs → eqAll (eqD h n) xs ys = some bs → bs.all id = true := fun {xs ys zs bs} r1 r2 e => by
      obtain ⟨l1, l2, k⟩ := eqAll_get e
      rw [List.all_eq_true]
      intro b hb
      obtain ⟨j, hj, rfl⟩ := List.mem_iff_getElem.mp hb
      have hx : j < xs.length := by omega
      have hy : j < ys.length := by omega
      obtain ⟨b', hb', e'⟩ := k j _ _ (List.getElem?_eq_getElem hx) (List.getElem?_eq_getElem hy)
      rw [List.getElem?_eq_getElem hj] at hb'
      cases hb'
      obtain ⟨z, hz, q1⟩ := paired_get r1 (List.getElem?_eq_getElem hx)
      obtain ⟨z', hz', q2⟩ := paired_get r2 (List.getElem?_eq_getElem hy)
      rw [hz] at hz'; cases hz'
      exact eqD_same I R n e' q1 q2
    cases x with
    | ref a =>
      obtain ⟨p, rfl, hp⟩ := rv_ref rx
      cases y with
      | ref c =>
        have hc : φ[c]? = some p := ry
        simp only [eqD] at e
        split at e
        · rename_i f1 xs f2 ys e1 e2
          split at e
          · cases e; rfl
          · obtain ⟨p1, z1, q1, s1, r1⟩ := R.lst (i := a) (xs := xs) (by unfold lstAt; rw [e1])
            obtain ⟨p2, z2, q2, s2, r2⟩ := R.lst (i := c) (xs := ys) (by unfold lstAt; rw [e2])
            rw [hp] at q1; cases q1
            rw [hc] at q2; cases q2
            have := I.list_inj s1 s2
            subst this
            split at e
            · obtain ⟨bs, e3, rfl⟩ := Option.map_eq_some_iff.mp e
              exact all r1 r2 e3
            · rename_i hne
              exact absurd ((Paired.length r1).trans (Paired.length r2).symm) hne
        · rename_i xs ys e1 e2
          split at e
          · cases e; rfl
          · obtain ⟨p1, z1, q1, s1, r1⟩ := R.tup (i := a) (xs := xs) (by unfold tupAt; rw [e1])
            obtain ⟨p2, z2, q2, s2, r2⟩ := R.tup (i := c) (xs := ys) (by unfold tupAt; rw [e2])
            rw [hp] at q1; cases q1
            rw [hc] at q2; cases q2
            have := I.tuple_inj s1 s2
            subst this
            split at e
            · obtain ⟨bs, e3, rfl⟩ := Option.map_eq_some_iff.mp e
              exact all r1 r2 e3
            · rename_i hne
              exact absurd ((Paired.length r1).trans (Paired.length r2).symm) hne
        · rename_i f1 xs ys e1 e2
          obtain ⟨p1, z1, q1, s1, r1⟩ := R.lst (i := a) (xs := xs) (by unfold lstAt; rw [e1])
          obtain ⟨p2, z2, q2, s2, r2⟩ := R.tup (i := c) (xs := ys) (by unfold tupAt; rw [e2])
          rw [hp] at q1; cases q1
          rw [hc] at q2; cases q2
          obtain ⟨i1, _, t1, _⟩ := I.list s1
          obtain ⟨i2, _, t2, _⟩ := I.tuple s2
          exact absurd rfl (ne_of_list_tuple t1.isList t2)
        · rename_i xs f1 ys e1 e2
          obtain ⟨p1, z1, q1, s1, r1⟩ := R.tup (i := a) (xs := xs) (by unfold tupAt; rw [e1])
          obtain ⟨p2, z2, q2, s2, r2⟩ := R.lst (i := c) (xs := ys) (by unfold lstAt; rw [e2])
          rw [hp] at q1; cases q1
          rw [hc] at q2; cases q2
          obtain ⟨i1, _, t1, _⟩ := I.tuple s1
          obtain ⟨i2, _, t2, _⟩ := I.list s2
          exact absurd rfl (ne_of_list_tuple t2.isList t1)
        · cases e
      | _ => exact False.elim ry
    | _ =>
      cases y with
      | ref c =>
        obtain ⟨p, rfl, hp⟩ := rv_ref ry
        exact False.elim rx
      | _ => exact eqF_same e rx ry
/-- == and != of values of ours -/
theorem eqD_ok (I : Inv X pins σ H s) (R : Rl X.K G φ h H) : ∀ (n : Nat) {A : Around} {x y xc yc : V} {u w : Value} {b : Bool}, A.units + n < cLine → eqD h n x y = some b → rv φ x xc → rv φ y yc → RelV xc u → RelV yc w → Eq3 A s u w b
  | 0, A, x, y, xc, yc, u, w, b, hu, e, rx, ry, ru, rw' => eqF_ok e rx ry ru rw'
  | n + 1, A, x, y, xc, yc, u, w, b, hu, e, rx, ry, ru, rw' => by
    have hu0 : A.units < cLine := by omega
    have hu1 : A.in1.units + n < cLine := by show A.units + 1 + n < cLine; omega
    have item : ∀ {xs ys zs ts : List V} {us ws : List Value} {bs : List Bool}, rvs φ xs zs → rvs φ ys ts → Vals zs us → Vals ts ws → eqAll (eqD h n) xs ys = some bs → us.length = bs.length ∧ ws.length = bs.length ∧
        ∀ (j : Nat) (h1 : j < us.toArray.size) (h2 : j < ws.toArray.size), EqAt A.in1 s us.toArray[j] ws.toArray[j] (bs.getD j true) := fun {xs ys zs ts us ws bs} r1 r2 v1 v2 e => by
      obtain ⟨l1, l2, k⟩ := eqAll_get e
      have n1 := Paired.length r1
      have n2 := Paired.length r2
      have n3 := v1.length
      have n4 := v2.length
      refine ⟨by omega, by omega, fun j h1 h2 => ?_⟩
      have g1 : j < us.length := by simpa using h1
      have g2 : j < ws.length := by simpa using h2
      have hx : j < xs.length := by omega
      have hy : j < ys.length := by omega
      obtain ⟨b', hb', e'⟩ := k j _ _ (List.getElem?_eq_getElem hx) (List.getElem?_eq_getElem hy)
      obtain ⟨z, hz, q1⟩ := paired_get r1 (List.getElem?_eq_getElem hx)
      obtain ⟨t, ht, q2⟩ := paired_get r2 (List.getElem?_eq_getElem hy)
      obtain ⟨u', hu', q3⟩ := v1.get hz
      obtain ⟨w', hw', q4⟩ := v2.get ht
      rw [List.getElem?_eq_getElem g1] at hu'
      rw [List.getElem?_eq_getElem g2] at hw'
      cases hu'
      cases hw'
      rw [List.getD_eq_getElem?_getD, hb']
      have := (eqD_ok I R n (A := A.in1) hu1 e' q1 q2 q3 q4).eq
      simpa using this
    have refs : ∀ {a : Nat} {p : Addr} {v : V} {b : Bool}, φ[a]? = some p → (if h[a]?.isSome && flat v then some false else none) = some b → b = false ∧ ∃ its, s.heap.IsList p its ∨ s.heap.IsTuple p its := fun {a p v b} hp e => by
      cases ea : h[a]? with
      | none => rw [ea] at e; cases e
      | some o =>
        rw [ea] at e
        have hb : b = false := by
          split at e
          · cases e; rfl
          · cases e
        refine ⟨hb, ?_⟩
        cases o with
        | lst f xs =>
          obtain ⟨p1, z1, q1, s1, r1⟩ := R.lst (i := a) (xs := xs) (by unfold lstAt; rw [ea])
          rw [hp] at q1; cases q1
          obtain ⟨i1, _, t1, _⟩ := I.list s1
          exact ⟨_, .inl t1.isList⟩
        | tup xs =>
          obtain ⟨p1, z1, q1, s1, r1⟩ := R.tup (i := a) (xs := xs) (by unfold tupAt; rw [ea])
          rw [hp] at q1; cases q1
          obtain ⟨i1, _, t1, _⟩ := I.tuple s1
          exact ⟨_, .inr t1⟩
    cases x with
    | ref a =>
      obtain ⟨p, rfl, hp⟩ := rv_ref rx
      cases ru
      cases y with
      | ref c =>
        obtain ⟨q, rfl, hq⟩ := rv_ref ry
        cases rw'
        have same : p = q → b = true := fun z => by
          subst z
          exact eqD_same I R (n + 1) e rx (show rv φ (.ref c) (.ref p) from hq)
        simp only [eqD] at e
        split at e
        · rename_i f1 xs f2 ys e1 e2
          obtain ⟨p1, z1, q1, s1, r1⟩ := R.lst (i := a) (xs := xs) (by unfold lstAt; rw [e1])
          obtain ⟨p2, z2, q2, s2, r2⟩ := R.lst (i := c) (xs := ys) (by unfold lstAt; rw [e2])
          rw [hp] at q1; cases q1
          rw [hq] at q2; cases q2
          obtain ⟨i1, v1, t1, _⟩ := I.list s1
          obtain ⟨i2, v2, t2, _⟩ := I.list s2
          split at e
          · rename_i hac
            subst hac
            rw [hp] at hq; cases hq
            cases e
            have rc := RcAt.lists (A := A) (e := fun _ => true) t1.isList t1.isList rfl hu0 fun j _ _ => EqAt.same _
            have ne := RcNeAt.lists (A := A) (e := fun _ => true) t1.isList t1.isList rfl hu0 fun j _ _ => EqAt.same _
            have al : ∀ l : List Nat, (l.all fun _ => true) = true := fun l => by simp
            rw [al] at rc ne
            exact ⟨.same _, rc, ne⟩
          · split at e
            · obtain ⟨bs, e3, rfl⟩ := Option.map_eq_some_iff.mp e
              obtain ⟨m1, m2, he⟩ := item r1 r2 v1 v2 e3
              have hsz : i1.toArray.size = i2.toArray.size := by simp; omega
              have rc := RcAt.lists (A := A) (e := fun j => bs.getD j true) t1.isList t2.isList hsz hu0 he
              have ne := RcNeAt.lists (A := A) (e := fun j => bs.getD j true) t1.isList t2.isList hsz hu0 he
              have sz : i1.toArray.size = bs.length := by simpa using m1
              rw [sz, all_range] at rc ne
              refine ⟨?_, rc, ne⟩
              by_cases hpq : p = q
              · rw [same hpq]; subst hpq; exact .same _
              · exact .of_refs hpq rc
            · rename_i hl
              cases e
              have n1 := Paired.length r1
              have n2 := Paired.length r2
              have n3 := v1.length
              have n4 := v2.length
              have hsz : (i1.toArray.size != i2.toArray.size) = true := by simp; omega
              have rc := RcAt.lists_lengths (A := A) t1.isList t2.isList hsz hu0
              have ne := RcNeAt.lists_lengths (A := A) t1.isList t2.isList hsz hu0
              refine ⟨?_, rc, ne⟩
              by_cases hpq : p = q
              · exact absurd (same hpq) (by decide)
              · exact .of_refs hpq rc
        · rename_i xs ys e1 e2
          obtain ⟨p1, z1, q1, s1, r1⟩ := R.tup (i := a) (xs := xs) (by unfold tupAt; rw [e1])
          obtain ⟨p2, z2, q2, s2, r2⟩ := R.tup (i := c) (xs := ys) (by unfold tupAt; rw [e2])
          rw [hp] at q1; cases q1
          rw [hq] at q2; cases q2
          obtain ⟨i1, v1, t1, _⟩ := I.tuple s1
          obtain ⟨i2, v2, t2, _⟩ := I.tuple s2
          have t1' : s.heap.IsTuple p i1.toArray := t1
          have t2' : s.heap.IsTuple q i2.toArray := t2
          split at e
          · rename_i hac
            subst hac
            rw [hp] at hq; cases hq
            cases e
            have rc := RcAt.tuples (A := A) (e := fun _ => true) t1' t1' hu0 fun j _ _ => EqAt.same _
            have ne := RcNeAt.tuples (A := A) (e := fun _ => true) t1' t1' hu0 fun j _ _ => EqAt.same _
            have al : ∀ l : List Nat, (l.all fun _ => true) = true := fun l => by simp
            rw [al] at rc ne
            simp only [beq_self_eq_true, Bool.and_self] at rc ne
            exact ⟨.same _, rc, ne⟩
          · split at e
            · obtain ⟨bs, e3, rfl⟩ := Option.map_eq_some_iff.mp e
              obtain ⟨m1, m2, he⟩ := item r1 r2 v1 v2 e3
              have hsz : i1.toArray.size = i2.toArray.size := by simp; omega
              have rc := RcAt.tuples (A := A) (e := fun j => bs.getD j true) t1' t2' hu0 he
              have ne := RcNeAt.tuples (A := A) (e := fun j => bs.getD j true) t1' t2' hu0 he
              have sz : i1.toArray.size = bs.length := by simpa using m1
              have sz2 : i2.toArray.size = bs.length := by simpa using m2
              rw [sz, sz2, Nat.min_self, all_range, beq_self_eq_true, Bool.and_true] at rc ne
              refine ⟨?_, rc, ne⟩
              by_cases hpq : p = q
              · rw [same hpq]; subst hpq; exact .same _
              · exact .of_refs hpq rc
            · rename_i hl
              have n1 := Paired.length r1
              have n2 := Paired.length r2
              have n3 := v1.length
              have n4 := v2.length
              obtain ⟨bs, e3, hb⟩ := Option.map_eq_some_iff.mp e
              subst hb
              have hsz : (i1.toArray.size == i2.toArray.size) = false := by simp; omega
              obtain ⟨m1, m2, he⟩ := item (paired_take ys.length r1) (paired_take xs.length r2) (v1.take ys.length) (v2.take xs.length) e3
              have he' : ∀ (j : Nat) (h1 : j < i1.toArray.size) (h2 : j < i2.toArray.size), EqAt A.in1 s i1.toArray[j] i2.toArray[j] (bs.getD j true) := fun j h1 h2 => by
                have g1 : j < i1.length := by simpa using h1
                have g2 : j < i2.length := by simpa using h2
                have := he j (by simp; omega) (by simp; omega)
                simpa using this
              have rc := RcAt.tuples (A := A) (e := fun j => bs.getD j true) t1' t2' hu0 he'
              have ne := RcNeAt.tuples (A := A) (e := fun j => bs.getD j true) t1' t2' hu0 he'
              rw [hsz, Bool.and_false] at rc ne
              refine ⟨?_, rc, ne⟩
              by_cases hpq : p = q
              · exact absurd (same hpq) (by decide)
              · exact .of_refs hpq rc
        · rename_i f1 xs ys e1 e2
          cases e
          obtain ⟨p1, z1, q1, s1, r1⟩ := R.lst (i := a) (xs := xs) (by unfold lstAt; rw [e1])
          obtain ⟨p2, z2, q2, s2, r2⟩ := R.tup (i := c) (xs := ys) (by unfold tupAt; rw [e2])
          rw [hp] at q1; cases q1
          rw [hq] at q2; cases q2
          obtain ⟨i1, _, t1, _⟩ := I.list s1
          obtain ⟨i2, _, t2, _⟩ := I.tuple s2
          exact ⟨.list_tuple t1.isList t2 hu0, .list_tuple t1.isList t2 hu0, .list_tuple t1.isList t2 hu0⟩
        · rename_i xs f1 ys e1 e2
          cases e
          obtain ⟨p1, z1, q1, s1, r1⟩ := R.tup (i := a) (xs := xs) (by unfold tupAt; rw [e1])
          obtain ⟨p2, z2, q2, s2, r2⟩ := R.lst (i := c) (xs := ys) (by unfold lstAt; rw [e2])
          rw [hp] at q1; cases q1
          rw [hq] at q2; cases q2
          obtain ⟨i1, _, t1, _⟩ := I.tuple s1
          obtain ⟨i2, _, t2, _⟩ := I.list s2
          exact ⟨.tuple_list t1 t2.isList hu0, .tuple_list t1 t2.isList hu0, .tuple_list t1 t2.isList hu0⟩
        · cases e
      | non =>
        cases rv_non ry; cases rw'
        rcases refs hp (show (if h[a]?.isSome && flat V.non then some false else none) = some b from e) with ⟨rfl, its, t | t⟩
        · exact ⟨.list_none t hu0, .list_none t hu0, .list_none t hu0⟩
        · exact ⟨.tuple_none t hu0, .tuple_none t hu0, .tuple_none t hu0⟩
      | bl j =>
        cases rv_bl ry; cases rw'
        rcases refs hp (show (if h[a]?.isSome && flat (V.bl j) then some false else none) = some b from e) with ⟨rfl, its, t | t⟩
        · exact ⟨.list_bool _ t hu0, .list_bool _ t hu0, .list_bool _ t hu0⟩
        · exact ⟨.tuple_bool _ t hu0, .tuple_bool _ t hu0, .tuple_bool _ t hu0⟩
      | int j =>
        cases rv_int ry; obtain ⟨t', rfl⟩ := rw'
        rcases refs hp (show (if h[a]?.isSome && flat (V.int j) then some false else none) = some b from e) with ⟨rfl, its, t | t⟩
        · exact ⟨.list_int _ _ t hu0, .list_int _ _ t hu0, .list_int _ _ t hu0⟩
        · exact ⟨.tuple_int _ _ t hu0, .tuple_int _ _ t hu0, .tuple_int _ _ t hu0⟩
      | str j =>
        cases rv_str ry; obtain ⟨t', rfl⟩ := rw'
        rcases refs hp (show (if h[a]?.isSome && flat (V.str j) then some false else none) = some b from e) with ⟨rfl, its, t | t⟩
        · exact ⟨.list_str _ _ t hu0, .list_str _ _ t hu0, .list_str _ _ t hu0⟩
        · exact ⟨.tuple_str _ _ t hu0, .tuple_str _ _ t hu0, .tuple_str _ _ t hu0⟩
      | _ => exact False.elim ry
    | non =>
      cases y with
      | ref c =>
        obtain ⟨p, rfl, hp⟩ := rv_ref ry
        cases rw'
        cases rv_non rx; cases ru
        rcases refs hp (show (if h[c]?.isSome && flat V.non then some false else none) = some b from (Bool.and_comm _ _) ▸ e) with ⟨rfl, its, t | t⟩
        · exact ⟨.none_list t hu0, .none_list t hu0, .none_list t hu0⟩
        · exact ⟨.none_tuple t hu0, .none_tuple t hu0, .none_tuple t hu0⟩
      | _ => exact eqF_ok e rx ry ru rw'
    | bl i =>
      cases y with
      | ref c =>
        obtain ⟨p, rfl, hp⟩ := rv_ref ry
        cases rw'
        cases rv_bl rx; cases ru
        rcases refs hp (show (if h[c]?.isSome && flat (V.bl i) then some false else none) = some b from (Bool.and_comm _ _) ▸ e) with ⟨rfl, its, t | t⟩
        · exact ⟨.bool_list _ t hu0, .bool_list _ t hu0, .bool_list _ t hu0⟩
        · exact ⟨.bool_tuple _ t hu0, .bool_tuple _ t hu0, .bool_tuple _ t hu0⟩
      | _ => exact eqF_ok e rx ry ru rw'
    | int i =>
      cases y with
      | ref c =>
        obtain ⟨p, rfl, hp⟩ := rv_ref ry
        cases rw'
        cases rv_int rx; obtain ⟨t', rfl⟩ := ru
        rcases refs hp (show (if h[c]?.isSome && flat (V.int i) then some false else none) = some b from (Bool.and_comm _ _) ▸ e) with ⟨rfl, its, t | t⟩
        · exact ⟨.int_list _ _ t hu0, .int_list _ _ t hu0, .int_list _ _ t hu0⟩
        · exact ⟨.int_tuple _ _ t hu0, .int_tuple _ _ t hu0, .int_tuple _ _ t hu0⟩
      | _ => exact eqF_ok e rx ry ru rw'
    | str i =>
      cases y with
      | ref c =>
        obtain ⟨p, rfl, hp⟩ := rv_ref ry
        cases rw'
        cases rv_str rx; obtain ⟨t', rfl⟩ := ru
        rcases refs hp (show (if h[c]?.isSome && flat (V.str i) then some false else none) = some b from (Bool.and_comm _ _) ▸ e) with ⟨rfl, its, t | t⟩
        · exact ⟨.str_list _ _ t hu0, .str_list _ _ t hu0, .str_list _ _ t hu0⟩
        · exact ⟨.str_tuple _ _ t hu0, .str_tuple _ _ t hu0, .str_tuple _ _ t hu0⟩
      | _ => exact eqF_ok e rx ry ru rw'
    | _ => cases xc <;> exact False.elim rx
end
end PI

set_option Elab.async false
set_option linter.all false
set_option maxRecDepth 100000
set_option maxHeartbeats 4000000
namespace PI
open PySem PySem.Spec PyProof.Rows PySem.SeqAt
open L2 (V Hp HO Cx PE PT PA PS PSs PG TE TT TA TS VK upd upd_same upd_ne SqL SqT Same Inv RelV Vals EP TP AP SP OpR CallR R2)

theorem flat_eq {φ : List Addr} : ∀ {x w : V}, flat x = true → rv φ x w → w = x
  | .non, _, _, h => rv_non h
  | .bl _, _, _, h => rv_bl h
  | .int _, _, _, h => rv_int h
  | .str _, _, _, h => rv_str h
  | .ref _, _, f, _ => by cases f
  | .byt _, _, f, _ => by cases f
  | .flt _, _, f, _ => by cases f
  | .ty _, _, f, _ => by cases f
theorem flats_eq {φ : List Addr} : ∀ {xs ws : List V}, xs.all flat = true → rvs φ xs ws → ws = xs
  | _, _, _, .nil => rfl
  | x :: xs, w :: ws, f, .cons r t => by
    simp only [List.all_cons, Bool.and_eq_true] at f
    rw [flat_eq f.1 r, flats_eq f.2 t]
theorem flatV_eq : ∀ x : V, L2.flatV x = flat x := by intro x; cases x <;> rfl
theorem flatVs_eq (xs : List V) : xs.all L2.flatV = xs.all flat := by
  induction xs with
  | nil => rfl
  | cons x xs ih => rw [List.all_cons, List.all_cons, ih, flatV_eq]

section
variable {X : Cx} {G : List Addr} {F : Nat → List V → AH → RV}
def opC : COp → CmpOp
  | .lt => .Lt | .le => .LtE | .gt => .Gt | .ge => .GtE | .eq => .Eq | .ne => .NotEq | .inn => .In | .notin => .NotIn | .is => .Is | .isnot => .IsNot
variable (X G) in
def rCmp (op : COp) : R2 := fun x y H Q => ∃ φ h xa ya b, Rl X.K G φ h H ∧ rv φ xa x ∧ rv φ ya y ∧ cmpV op xa ya h = some b ∧ Q (.bl b) H
theorem opR_cmp (hu : X.A.units + 8 < cLine) : ∀ op, OpR X (compareOp (opC op)) (rCmp X G op) := by
  intro op pins s σ H x y v u Q I rx ry ⟨φ, h, xa, ya, b, R, r1, r2, e, q⟩
  have hin : ∀ (neg : Bool) {p : Nat} {ya' : V} (e : (match items h p with | some xs => if flat xa && xs.all flat then some (if neg then !(xs.any fun y => L2.eqV y xa) else xs.any fun y => L2.eqV y xa) else none | none => none) = some b), rv φ (.ref p) y → L2.rIn X.K neg x y H Q := by
    intro neg p ya' e r2
    split at e
    · rename_i xs ex
      split at e
      · rename_i hf
        simp only [Bool.and_eq_true] at hf
        obtain ⟨a, ys, ha, hs, rs⟩ := R.its ex
        obtain ⟨a', rfl, ha'⟩ := rv_ref r2
        rw [ha] at ha'; cases ha'
        have e1 := flat_eq hf.1 r1
        have e2 := flats_eq hf.2 rs
        subst e1 e2
        refine ⟨a, ys, rfl, hs, by rw [flatV_eq]; exact hf.1, by rw [flatVs_eq]; exact hf.2, ?_⟩
        cases e
        exact q
      · cases e
    · cases e
  cases op with
  | lt => unfold cmpV at e; split at e <;> first | (rename_i i j _ _; cases e; cases rv_int r1; cases rv_int r2; exact L2.op_lt pins s σ H _ _ v u Q I rx ry ⟨_, _, rfl, rfl, q⟩) | (rename_i hx; cases hx) | cases e
  | le => unfold cmpV at e; split at e <;> first | (rename_i i j _ _; cases e; cases rv_int r1; cases rv_int r2; exact L2.op_le pins s σ H _ _ v u Q I rx ry ⟨_, _, rfl, rfl, q⟩) | (rename_i hx; cases hx) | cases e
  | gt => unfold cmpV at e; split at e <;> first | (rename_i i j _ _; cases e; cases rv_int r1; cases rv_int r2; exact L2.op_gt pins s σ H _ _ v u Q I rx ry ⟨_, _, rfl, rfl, q⟩) | (rename_i hx; cases hx) | cases e
  | ge => unfold cmpV at e; split at e <;> first | (rename_i i j _ _; cases e; cases rv_int r1; cases rv_int r2; exact L2.op_ge pins s σ H _ _ v u Q I rx ry ⟨_, _, rfl, rfl, q⟩) | (rename_i hx; cases hx) | cases e
  | eq => exact (eqD_ok I R 4 (by omega) (show eqD h 4 xa ya = some b from e) r1 r2 rx ry).rc _ _ _ _ ⟨.bl b, H, I, rfl, q⟩
  | ne =>
    have e' : (eqD h 4 xa ya).map (!·) = some b := e
    obtain ⟨c, e1, rfl⟩ := Option.map_eq_some_iff.mp e'
    exact (eqD_ok I R 4 (by omega) e1 r1 r2 rx ry).ne _ _ _ _ ⟨.bl (!c), H, I, rfl, q⟩
  | inn =>
    cases ya with
    | ref p => exact L2.op_in_seq pins s σ H x y v u Q I rx ry (hin false (ya' := .non) (by exact e) r2)
    | _ => cases xa <;> cases e
  | notin =>
    cases ya with
    | ref p => exact L2.op_notIn_seq pins s σ H x y v u Q I rx ry (hin true (ya' := .non) (by exact e) r2)
    | _ => cases xa <;> cases e
  | is =>
    cases ya with
    | non =>
      have e' : some (decide (xa = .non)) = some b := by cases xa <;> exact e
      cases e'
      cases rv_non r2
      have hd : decide (xa = V.non) = decide (x = V.non) := by cases xa <;> cases x <;> first | rfl | exact False.elim r1
      rw [hd] at q
      exact L2.op_isN pins s σ H x _ v u Q I rx ry ⟨rfl, q⟩
    | _ => cases xa <;> cases e
  | isnot =>
    cases ya with
    | non =>
      have e' : some (!decide (xa = .non)) = some b := by cases xa <;> exact e
      cases e'
      cases rv_non r2
      have hd : decide (xa = V.non) = decide (x = V.non) := by cases xa <;> cases x <;> first | rfl | exact False.elim r1
      rw [hd] at q
      exact L2.op_notN pins s σ H x _ v u Q I rx ry ⟨rfl, q⟩
    | _ => cases xa <;> cases e

/-! ### built-in calls -/
theorem bools_of : ∀ {bs : List Bool} {us : List Value}, Vals (bs.map V.bl) us → LSm.BoolsAre us bs
  | [], _, .nil => .nil
  | b :: bs, u :: us, .cons r t => by
    cases (show u = Value.bool b from r)
    exact .cons b (bools_of t)
theorem call_all_k {A : Around} {E : Value → Shared → Prop} {prog : Program} {w : World} {s : Shared} {l : Addr} {vs : List Value} {bs : List Bool} {Q : Value → Shared → Prop} (hh : A.handled = none) (hl : s.heap.IsList l vs.toArray) (hb : LSm.BoolsAre vs bs)
    (h : ∀ h' tk, (∀ b x, s.heap.get? b = some x → h'.get? b = some x) → Q (.bool (bs.all id)) { s with heap := h', toks := tk }) : wpAny (model prog w) A (call (.builtin "all") [.ref l]) Q E s := by
  have hlt : l < s.heap.objs.size := by obtain ⟨_, e, _⟩ := hl; exact Heap.lt_size e
  refine call_all_walk (wpAny_pyIter_list hl ?_)
  refine ⟨s.heap.objs.size, [s.heap.objs.size, l], [s.heap.objs.size], vs.toArray.size, _, _, fun i => (bs[i]?).getD true, rfl, Walks.list (A := A.in1) hh _ l (Nat.ne_of_lt hlt) vs.toArray,
    ⟨⟨_, Heap.get?_push_size _ rfl, rfl, rfl⟩, hl.push _⟩, fun i v s' Q' E' hP hQ => ?_, fun h' tk hk => ?_⟩
  · obtain ⟨b, e, rfl⟩ := hb.get i v (by simpa using hP)
    simp only [e, Option.getD_some] at hQ
    exact wpAny_truthy_bool hQ
  · have e : ((List.range vs.toArray.size).all fun i => (bs[i]?).getD true) = bs.all id := by
      rw [List.size_toArray, hb.length]; exact LSm.range_all bs
    rw [e]
    exact h h' tk (LSm.kept_iter hk)
theorem call_any_k {A : Around} {E : Value → Shared → Prop} {prog : Program} {w : World} {s : Shared} {l : Addr} {vs : List Value} {bs : List Bool} {Q : Value → Shared → Prop} (hh : A.handled = none) (hl : s.heap.IsList l vs.toArray) (hb : LSm.BoolsAre vs bs)
    (h : ∀ h' tk, (∀ b x, s.heap.get? b = some x → h'.get? b = some x) → Q (.bool (bs.any id)) { s with heap := h', toks := tk }) : wpAny (model prog w) A (call (.builtin "any") [.ref l]) Q E s := by
  have hlt : l < s.heap.objs.size := by obtain ⟨_, e, _⟩ := hl; exact Heap.lt_size e
  refine call_any_walk (wpAny_pyIter_list hl ?_)
  refine ⟨s.heap.objs.size, [s.heap.objs.size, l], [s.heap.objs.size], vs.toArray.size, _, _, fun i => (bs[i]?).getD false, rfl, Walks.list (A := A.in1) hh _ l (Nat.ne_of_lt hlt) vs.toArray,
    ⟨⟨_, Heap.get?_push_size _ rfl, rfl, rfl⟩, hl.push _⟩, fun i v s' Q' E' hP hQ => ?_, fun h' tk hk => ?_⟩
  · obtain ⟨b, e, rfl⟩ := hb.get i v (by simpa using hP)
    simp only [e, Option.getD_some] at hQ
    exact wpAny_truthy_bool hQ
  · have e : ((List.range vs.toArray.size).any fun i => (bs[i]?).getD false) = bs.any id := by
      rw [List.size_toArray, hb.length]; exact LSm.range_any bs
    rw [e]
    exact h h' tk (LSm.kept_iter hk)
theorem asInts_map : ∀ {xs : List V} {is : List Int}, asInts xs = some is → xs = is.map V.int
  | [], is, e => by cases e; rfl
  | .int i :: r, is, e => by
    simp only [asInts] at e
    obtain ⟨js, e1, rfl⟩ := Option.map_eq_some_iff.mp e
    rw [asInts_map e1]
    rfl
  | .non :: _, _, e => by cases e
  | .bl _ :: _, _, e => by cases e
  | .str _ :: _, _, e => by cases e
  | .ref _ :: _, _, e => by cases e
  | .byt _ :: _, _, e => by cases e
  | .flt _ :: _, _, e => by cases e
  | .ty _ :: _, _, e => by cases e
theorem asBools_map : ∀ {xs : List V} {is : List Bool}, asBools xs = some is → xs = is.map V.bl
  | [], is, e => by cases e; rfl
  | .bl i :: r, is, e => by
    simp only [asBools] at e
    obtain ⟨js, e1, rfl⟩ := Option.map_eq_some_iff.mp e
    rw [asBools_map e1]
    rfl
  | .non :: _, _, e => by cases e
  | .int _ :: _, _, e => by cases e
  | .str _ :: _, _, e => by cases e
  | .ref _ :: _, _, e => by cases e
  | .byt _ :: _, _, e => by cases e
  | .flt _ :: _, _, e => by cases e
  | .ty _ :: _, _, e => by cases e
theorem ints_flat (is : List Int) : (is.map V.int).all flat = true := by simp [flat]
theorem bools_flat (is : List Bool) : (is.map V.bl).all flat = true := by simp [flat]

def fnB : BF → Value
  | .len => .builtin "len" | .sum => .builtin "sum" | .all => .builtin "all" | .any => .builtin "any" | .max => .builtin "max" | .min => .builtin "min" | .abs => .builtin "abs"
  | .list => .type "list" | .int => .type "int" | .tuple => .type "tuple" | .range => .type "range"
variable (X G) in
def rBlt (f : BF) : List V → Hp → VK → Prop := fun xs H Q => ∃ φ h ws v h', Rl X.K G φ h H ∧ rvs φ ws xs ∧ bltV f ws h = .ok (v, h') ∧ ∀ φ' H' w, Ext φ φ' → Rl X.K G φ' h' H' → rv φ' v w → Q w H'
theorem callR_blt (hc : X.calm = true) : ∀ f, CallR X (fnB f) (rBlt X G f) := by
  intro f pins s σ H xs us Q I r ⟨φ, h, ws, v, h', R, rw', e, k⟩
  unfold bltV at e
  split at e
  · -- len
    split at e
    · rename_i a _ ys ey
      cases e
      cases rw' with
      | cons r1 t =>
        cases t
        obtain ⟨p, rfl, hp⟩ := rv_ref r1
        obtain ⟨p', zs, hp', hs, rs⟩ := R.its ey
        rw [hp] at hp'; cases hp'
        refine L2.call_len_seq pins s σ H _ us Q I r ⟨p, zs, rfl, hs, ?_⟩
        rw [← Paired.length rs]
        exact k φ H _ (.refl _) R rfl
    · cases e
  · -- sum
    split at e
    · rename_i a _ ys ey
      split at e
      · rename_i is ei
        cases e
        cases rw' with
        | cons r1 t =>
          cases t
          obtain ⟨p, rfl, hp⟩ := rv_ref r1
          obtain ⟨p', zs, hp', hs, rs⟩ := R.lst ey
          rw [hp] at hp'; cases hp'
          have hm := asInts_map ei
          subst hm
          have hz := flats_eq (ints_flat is) rs
          subst hz
          obtain ⟨its, rv', pl, _⟩ := I.list hs
          obtain ⟨u, rfl, ru⟩ := L2.vals1 r
          cases ru
          have hi : IntsAre its is := L2.intsAre_of rv'
          obtain ⟨xs, hx⟩ := hi.allInts.items
          have hl' : s.heap.IsList p (intItems xs) := hx ▸ pl.isList
          refine sum_intListG (I.ok.hd hc) hl' fun h1 tk t' hk => ?_
          have e1 : is = xs.toList.map (·.1) := by
            rw [← nums_intItems, ← hx]
            exact (show numsOf its.toArray.toList = is from hi.numsOf).symm
          have e2 : preSum (numAt xs) xs.size = is.sum := by
            rw [preSum_eq, List.take_of_length_le (by simp), e1]
          rw [e2]
          exact ⟨.int is.sum, H, I.kept hk, ⟨_, rfl⟩, k φ H _ (.refl _) R rfl⟩
      · cases e
    · cases e
  · -- all
    split at e
    · rename_i a _ ys ey
      split at e
      · rename_i is ei
        cases e
        cases rw' with
        | cons r1 t =>
          cases t
          obtain ⟨p, rfl, hp⟩ := rv_ref r1
          obtain ⟨p', zs, hp', hs, rs⟩ := R.lst ey
          rw [hp] at hp'; cases hp'
          have hm := asBools_map ei
          subst hm
          have hz := flats_eq (bools_flat is) rs
          subst hz
          obtain ⟨its, rv', pl, _⟩ := I.list hs
          obtain ⟨u, rfl, ru⟩ := L2.vals1 r
          cases ru
          exact call_all_k (I.ok.hd hc) pl.isList (bools_of rv') fun h1 tk hk => ⟨.bl (is.all id), H, I.kept hk, rfl, k φ H _ (.refl _) R rfl⟩
      · cases e
    · cases e
  · -- any
    split at e
    · rename_i a _ ys ey
      split at e
      · rename_i is ei
        cases e
        cases rw' with
        | cons r1 t =>
          cases t
          obtain ⟨p, rfl, hp⟩ := rv_ref r1
          obtain ⟨p', zs, hp', hs, rs⟩ := R.lst ey
          rw [hp] at hp'; cases hp'
          have hm := asBools_map ei
          subst hm
          have hz := flats_eq (bools_flat is) rs
          subst hz
          obtain ⟨its, rv', pl, _⟩ := I.list hs
          obtain ⟨u, rfl, ru⟩ := L2.vals1 r
          cases ru
          exact call_any_k (I.ok.hd hc) pl.isList (bools_of rv') fun h1 tk hk => ⟨.bl (is.any id), H, I.kept hk, rfl, k φ H _ (.refl _) R rfl⟩
      · cases e
    · cases e
  · -- max
    cases e
    cases rw' with
    | cons r1 t =>
      cases t with
      | cons r2 t =>
        cases t
        cases rv_int r1; cases rv_int r2
        exact L2.call_max2 hc pins s σ H _ us Q I r ⟨_, _, rfl, k φ H _ (.refl _) R rfl⟩
  · -- min
    cases e
    cases rw' with
    | cons r1 t =>
      cases t with
      | cons r2 t =>
        cases t
        cases rv_int r1; cases rv_int r2
        exact L2.call_min2 hc pins s σ H _ us Q I r ⟨_, _, rfl, k φ H _ (.refl _) R rfl⟩
  · -- abs
    cases e
    cases rw' with
    | cons r1 t =>
      cases t
      cases rv_int r1
      exact L2.call_abs pins s σ H _ us Q I r ⟨_, rfl, k φ H _ (.refl _) R rfl⟩
  · -- list
    split at e
    · rename_i a _ ys ey
      cases e
      cases rw' with
      | cons r1 t =>
        cases t
        obtain ⟨p, rfl, hp⟩ := rv_ref r1
        obtain ⟨p', zs, hp', hs, rs⟩ := R.its ey
        rw [hp] at hp'; cases hp'
        exact L2.call_list_of pins s σ H _ us Q I r ⟨p, zs, rfl, hs, fun l hl => k (φ ++ [l]) _ _ ⟨[l], rfl⟩ (R.newL hl rs) R.lastRef⟩
    · cases e
  · cases e
    cases rw' with
    | cons r1 t =>
      cases t
      cases rv_int r1
      exact L2.call_int1 pins s σ H _ us Q I r (.inl ⟨_, rfl, k φ H _ (.refl _) R rfl⟩)
  · cases e
    cases rw' with
    | cons r1 t =>
      cases t
      cases rv_bl r1
      exact L2.call_int1 pins s σ H _ us Q I r (.inr ⟨_, rfl, k φ H _ (.refl _) R rfl⟩)
  · cases e
end
end PI

set_option Elab.async false
set_option linter.all false
set_option maxRecDepth 100000
set_option maxHeartbeats 4000000
namespace PI
open PySem PySem.Spec PyProof.Rows PySem.SeqAt
open L2 (V Hp HO Cx PE PT PA PS PSs PG PW TE TT TA TS VK upd upd_same upd_ne SqL SqT Same Inv RelV Vals EP TP AP SP OpR CallR R2)

theorem asB_inv {r : RV} {b : Bool} {h : AH} (e : asB r = .ok (b, h)) : r = .ok (.bl b, h) := by
  unfold asB at e
  obtain ⟨⟨v, h1⟩, e1, e2⟩ := Res.bind_inv e
  dsimp only at e2
  split at e2
  · cases e2; exact e1
  · cases e2

theorem asB_mk {r : RV} {b : Bool} {h : AH} (e : r = .ok (.bl b, h)) : asB r = .ok (b, h) := by
  subst e
  rfl
section
variable {X : Cx} {G : List Addr} {F : Nat → List V → AH → RV} {a b c : E} {as : Es} {ea eb ec : Expr} {es : List Expr} {pos : Pos}
theorem tE_of_tT {K : PySem.W.Frag} {σ : St} {H : Hp} {Q : Bool → Hp → Prop} (q : tT K G F a σ H Q) : tE K G F a σ H (fun x H' => ∃ k, x = .bl k ∧ Q k H') := by
  obtain ⟨φ, h, σa, b, h', R, rs, e, k⟩ := q
  exact ⟨φ, h, σa, .bl b, h', R, rs, asB_inv e, fun φ' H' w x' R' r' => ⟨b, rv_bl r', k φ' H' x' R'⟩⟩
theorem st_of_se (h : SE X G F ea a) (he : ∀ whole, isTrue ea X.env whole = (do let v ← whole; standAt ea.pos; holding [v] (truthy v))) : ST X G F ea a :=
  pt_wk (L2.pt_val h he) fun _ _ _ q => tE_of_tT q

/-! ### comparisons -/
theorem cmp_wk {op : COp} {σc : St} {H : Hp} {Q : VK} (q : tE X.K G F (.cmp op a b) σc H Q) : L2.tOp (rCmp X G op) (tE X.K G F a) (tE X.K G F b) σc H Q := by
  obtain ⟨φ, h, σ, v, h', R, rs, e, k⟩ := q
  unfold ev at e
  obtain ⟨⟨x, h1⟩, e1, e⟩ := Res.bind_inv e
  obtain ⟨⟨y, h2⟩, e2, e⟩ := Res.bind_inv e
  refine tE_seq2 R rs e1 e2 fun φ2 H2 xc yc x2 R2 r1 r2 => ?_
  unfold cmpR at e
  dsimp only at e
  split at e
  · rename_i t et
    cases e
    exact ⟨φ2, _, x, y, t, R2, r1, r2, et, k φ2 H2 _ x2 R2 rfl⟩
  · cases e
theorem se_cmp {op : COp} (hu : X.A.units + 8 < cLine) (ha : SE X G F ea a) (hb : SE X G F eb b) (hm : behindInMarks (opC op) eb = false) : SE X G F (.Compare ea [opC op] [eb] pos) (.cmp op a b) :=
  pe_wk (L2.pe_cmpR (opR_cmp hu op) ha hb hm) fun _ _ _ => cmp_wk
theorem st_cmp {op : COp} (hu : X.A.units + 8 < cLine) (ha : SE X G F ea a) (hb : SE X G F eb b) (hm : behindInMarks (opC op) eb = false) : ST X G F (.Compare ea [opC op] [eb] pos) (.cmp op a b) :=
  pt_wk (L2.pt_cmpR (opR_cmp hu op) ha hb hm) fun _ _ _ q => cmp_wk (tE_of_tT q)
theorem chain_wk {o1 o2 : COp} {σc : St} {H : Hp} {Q : VK} (q : tE X.K G F (.cmp2 o1 o2 a b c) σc H Q) : L2.tChain (rCmp X G o1) (rCmp X G o2) (tE X.K G F a) (tE X.K G F b) (tE X.K G F c) σc H Q := by
  obtain ⟨φ, h, σ, v, h', R, rs, e, k⟩ := q
  unfold ev at e
  obtain ⟨⟨x, h1⟩, e1, e⟩ := Res.bind_inv e
  obtain ⟨⟨y, h2⟩, e2, e⟩ := Res.bind_inv e
  refine tE_seq2 R rs e1 e2 fun φ2 H2 xc yc x2 R2 r1 r2 => ?_
  dsimp only at e
  split at e
  · rename_i et
    refine ⟨φ2, _, x, y, true, R2, r1, r2, et, true, rfl, ?_⟩
    rw [if_pos rfl]
    obtain ⟨⟨z, h3⟩, e3, e⟩ := Res.bind_inv e
    refine ⟨φ2, _, σ, z, h3, R2, rst.mono x2 rs, e3, fun φ3 H3 zc x3 R3 r3 => ?_⟩
    unfold cmpR at e
    dsimp only at e
    split at e
    · rename_i t et
      cases e
      exact ⟨φ3, _, y, z, t, R3, rv.mono x3 r2, r3, et, k φ3 H3 _ (x2.trans x3) R3 rfl⟩
    · cases e
  · rename_i et
    cases e
    refine ⟨φ2, _, x, y, false, R2, r1, r2, et, false, rfl, ?_⟩
    rw [if_neg (by decide)]
    exact k φ2 H2 _ x2 R2 rfl
  · cases e
theorem se_chain {o1 o2 : COp} (hu : X.A.units + 8 < cLine) (ha : SE X G F ea a) (hb : SE X G F eb b) (hc : SE X G F ec c) (hm : lastMarks [opC o1, opC o2] [eb, ec] = false) : SE X G F (.Compare ea [opC o1, opC o2] [eb, ec] pos) (.cmp2 o1 o2 a b c) :=
  pe_wk (L2.pe_chain (opR_cmp hu o1) (opR_cmp hu o2) ha hb hc hm) fun _ _ _ => chain_wk
theorem st_chain {o1 o2 : COp} (hu : X.A.units + 8 < cLine) (ha : SE X G F ea a) (hb : SE X G F eb b) (hc : SE X G F ec c) (hm : lastMarks [opC o1, opC o2] [eb, ec] = false) : ST X G F (.Compare ea [opC o1, opC o2] [eb, ec] pos) (.cmp2 o1 o2 a b c) :=
  pt_wk (L2.pt_chain (opR_cmp hu o1) (opR_cmp hu o2) ha hb hc hm) fun _ _ _ q => chain_wk (tE_of_tT q)

/-! ### and, or, not, if -/
theorem andV_wk {σc : St} {H : Hp} {Q : VK} (q : tE X.K G F (.and a b) σc H Q) : L2.tAndV (tE X.K G F a) (tE X.K G F b) σc H Q := by
  obtain ⟨φ, h, σ, v, h', R, rs, e, k⟩ := q
  unfold ev at e
  obtain ⟨⟨x, h1⟩, e1, e⟩ := Res.bind_inv e
  refine ⟨φ, h, σ, .bl x, h1, R, rs, asB_inv e1, fun φ1 H1 w x1 R1 r1 => ⟨x, rv_bl r1, ?_⟩⟩
  dsimp only at e
  cases x with
  | true =>
    rw [if_pos rfl] at e ⊢
    exact ⟨φ1, h1, σ, v, h', R1, rst.mono x1 rs, e, fun φ2 H2 w2 x2 R2 r2 => k φ2 H2 w2 (x1.trans x2) R2 r2⟩
  | false =>
    rw [if_neg (by decide)] at e ⊢
    cases e
    exact k φ1 H1 _ x1 R1 rfl
theorem orV_wk {σc : St} {H : Hp} {Q : VK} (q : tE X.K G F (.or a b) σc H Q) : L2.tOrV (tE X.K G F a) (tE X.K G F b) σc H Q := by
  obtain ⟨φ, h, σ, v, h', R, rs, e, k⟩ := q
  unfold ev at e
  obtain ⟨⟨x, h1⟩, e1, e⟩ := Res.bind_inv e
  refine ⟨φ, h, σ, .bl x, h1, R, rs, asB_inv e1, fun φ1 H1 w x1 R1 r1 => ⟨x, rv_bl r1, ?_⟩⟩
  dsimp only at e
  cases x with
  | false =>
    rw [if_neg (by decide)] at e ⊢
    exact ⟨φ1, h1, σ, v, h', R1, rst.mono x1 rs, e, fun φ2 H2 w2 x2 R2 r2 => k φ2 H2 w2 (x1.trans x2) R2 r2⟩
  | true =>
    rw [if_pos rfl] at e ⊢
    cases e
    exact k φ1 H1 _ x1 R1 rfl
theorem and_wk {σc : St} {H : Hp} {Q : Bool → Hp → Prop} (q : tT X.K G F (.and a b) σc H Q) : L2.tAnd (tT X.K G F a) (tT X.K G F b) σc H Q := by
  obtain ⟨φ, h, σ, t, h', R, rs, e, k⟩ := q
  have e := asB_inv e
  unfold ev at e
  obtain ⟨⟨x, h1⟩, e1, e⟩ := Res.bind_inv e
  refine ⟨φ, h, σ, x, h1, R, rs, e1, fun φ1 H1 x1 R1 => ?_⟩
  dsimp only at e
  cases x with
  | true =>
    rw [if_pos rfl] at e ⊢
    exact ⟨φ1, h1, σ, t, h', R1, rst.mono x1 rs, asB_mk e, fun φ2 H2 x2 R2 => k φ2 H2 (x1.trans x2) R2⟩
  | false =>
    rw [if_neg (by decide)] at e ⊢
    cases e
    exact k φ1 H1 x1 R1
theorem or_wk {σc : St} {H : Hp} {Q : Bool → Hp → Prop} (q : tT X.K G F (.or a b) σc H Q) : L2.tOr (tT X.K G F a) (tT X.K G F b) σc H Q := by
  obtain ⟨φ, h, σ, t, h', R, rs, e, k⟩ := q
  have e := asB_inv e
  unfold ev at e
  obtain ⟨⟨x, h1⟩, e1, e⟩ := Res.bind_inv e
  refine ⟨φ, h, σ, x, h1, R, rs, e1, fun φ1 H1 x1 R1 => ?_⟩
  dsimp only at e
  cases x with
  | false =>
    rw [if_neg (by decide)] at e ⊢
    exact ⟨φ1, h1, σ, t, h', R1, rst.mono x1 rs, asB_mk e, fun φ2 H2 x2 R2 => k φ2 H2 (x1.trans x2) R2⟩
  | true =>
    rw [if_pos rfl] at e ⊢
    cases e
    exact k φ1 H1 x1 R1
variable (X G F) in
abbrev SW (e : Expr) (a : E) : Prop := PW X e (tT X.K G F a)
theorem pw_wk {e : Expr} {t t' : TT} (h : PW X e t) (w : ∀ σ H Q, t' σ H Q → t σ H Q) : PW X e t' := fun wh pins s σ H Q I q => h wh pins s σ H Q I (w σ H Q q)
theorem se_and {rest : List Expr} (ha : SE X G F ea a) (hb : SE X G F (.BoolOp .And (eb :: rest) pos) b) : SE X G F (.BoolOp .And (ea :: eb :: rest) pos) (.and a b) := pe_wk (L2.pe_and ha hb) fun _ _ _ => andV_wk
theorem se_or {rest : List Expr} (ha : SE X G F ea a) (hb : SE X G F (.BoolOp .Or (eb :: rest) pos) b) : SE X G F (.BoolOp .Or (ea :: eb :: rest) pos) (.or a b) := pe_wk (L2.pe_or ha hb) fun _ _ _ => orV_wk
theorem sw_and {rest : List Expr} (ha : ST X G F ea a) (hb : SW X G F (.BoolOp .And (eb :: rest) pos) b) : SW X G F (.BoolOp .And (ea :: eb :: rest) pos) (.and a b) := pw_wk (L2.pw_and ha hb) fun _ _ _ => and_wk
theorem sw_or {rest : List Expr} (ha : ST X G F ea a) (hb : SW X G F (.BoolOp .Or (eb :: rest) pos) b) : SW X G F (.BoolOp .Or (ea :: eb :: rest) pos) (.or a b) := pw_wk (L2.pw_or ha hb) fun _ _ _ => or_wk
theorem se_not (ha : SE X G F ea a) : SE X G F (.UnaryOp .Not ea pos) (.not a) := by
  refine pe_wk (L2.pe_not ha) fun σc H Q q => ?_
  obtain ⟨φ, h, σ, v, h', R, rs, e, k⟩ := q
  unfold ev at e
  obtain ⟨⟨x, h1⟩, e1, e⟩ := Res.bind_inv e
  cases e
  exact ⟨φ, h, σ, .bl x, _, R, rs, asB_inv e1, fun φ1 H1 w x1 R1 r1 => ⟨x, rv_bl r1, k φ1 H1 _ x1 R1 rfl⟩⟩
theorem st_not (ha : ST X G F ea a) : ST X G F (.UnaryOp .Not ea pos) (.not a) := by
  refine pt_wk (L2.pt_not ha) fun σc H Q q => ?_
  obtain ⟨φ, h, σ, t, h', R, rs, e, k⟩ := q
  have e := asB_inv e
  unfold ev at e
  obtain ⟨⟨x, h1⟩, e1, e⟩ := Res.bind_inv e
  cases e
  exact ⟨φ, h, σ, x, _, R, rs, e1, fun φ1 H1 x1 R1 => k φ1 H1 x1 R1⟩
theorem se_ite (hc : ST X G F ec c) (ha : SE X G F ea a) (hb : SE X G F eb b) : SE X G F (.IfExp ec ea eb pos) (.ite c a b) := by
  refine pe_wk (L2.pe_ifExp hc ha hb) fun σc H Q q => ?_
  obtain ⟨φ, h, σ, v, h', R, rs, e, k⟩ := q
  unfold ev at e
  obtain ⟨⟨x, h1⟩, e1, e⟩ := Res.bind_inv e
  refine ⟨φ, h, σ, x, h1, R, rs, e1, fun φ1 H1 x1 R1 => ?_⟩
  dsimp only at e
  cases x with
  | true =>
    rw [if_pos rfl] at e ⊢
    exact ⟨φ1, h1, σ, v, h', R1, rst.mono x1 rs, e, fun φ2 H2 w2 x2 R2 r2 => k φ2 H2 w2 (x1.trans x2) R2 r2⟩
  | false =>
    rw [if_neg (by decide)] at e ⊢
    exact ⟨φ1, h1, σ, v, h', R1, rst.mono x1 rs, e, fun φ2 H2 w2 x2 R2 r2 => k φ2 H2 w2 (x1.trans x2) R2 r2⟩
theorem st_ite (hc : ST X G F ec c) (ha : ST X G F ea a) (hb : ST X G F eb b) : ST X G F (.IfExp ec ea eb pos) (.ite c a b) := by
  intro pins s σc H Q I q
  obtain ⟨φ, h, σ, t, h', R, rs, e, k⟩ := q
  have e := asB_inv e
  unfold ev at e
  obtain ⟨⟨x, h1⟩, e1, e⟩ := Res.bind_inv e
  refine isTrue_IfExp (L2.thn (hc pins s σc H (fun z H1 => (z = true → tT X.K G F a σc H1 Q) ∧ (z = false → tT X.K G F b σc H1 Q)) I ⟨φ, h, σ, x, h1, R, rs, e1, fun φ1 H1 x1 R1 => ?_⟩) fun z s1 ⟨H1, I1, q1, q2⟩ => ?_)
  · dsimp only at e
    cases x with
    | true =>
      rw [if_pos rfl] at e
      exact ⟨fun _ => ⟨φ1, h1, σ, t, h', R1, rst.mono x1 rs, asB_mk e, fun φ2 H2 x2 R2 => k φ2 H2 (x1.trans x2) R2⟩, fun z => nomatch z⟩
    | false =>
      rw [if_neg (by decide)] at e
      exact ⟨(fun z => nomatch z), fun _ => ⟨φ1, h1, σ, t, h', R1, rst.mono x1 rs, asB_mk e, fun φ2 H2 x2 R2 => k φ2 H2 (x1.trans x2) R2⟩⟩
  · cases z with
    | true => exact ha pins s1 σc H1 Q I1 (q1 rfl)
    | false => exact hb pins s1 σc H1 Q I1 (q2 rfl)

/-! ### argument lists, displays -/
def noStar : Expr → Bool
  | .Starred .. => false
  | _ => true
theorem star_cons {e : Expr} {env : Env} (h : noStar e = true) : starEach (e :: es) env = (false, eval e env) :: starEach es env := by
  cases e <;> first | rfl | cases h
theorem star_any {env : Env} : ∀ {es : List Expr}, es.all noStar = true → (backTo pos (starEach es env)).any (·.1) = false
  | [], _ => rfl
  | e :: es, h => by
    simp only [List.all_cons, Bool.and_eq_true] at h
    rw [star_cons h.1]
    show (false || (backTo pos (starEach es env)).any (·.1)) = false
    rw [star_any h.2]
    rfl
theorem sa_nil : SA X G F [] .nil := by
  refine pa_wk L2.pa_nil fun σc H Q q => ?_
  obtain ⟨φ, h, σ, v, h', R, rs, e, k⟩ := q
  unfold evs at e
  cases e
  exact k φ H [] (.refl _) R .nil
theorem sa_cons (hn : noStar ea = true) (ha : SE X G F ea a) (hr : SA X G F es as) : SA X G F (ea :: es) (.cons a as) := by
  refine pa_wk (L2.pa_cons ha hr (star_cons hn)) fun σc H Q q => ?_
  obtain ⟨φ, h, σ, v, h', R, rs, e, k⟩ := q
  unfold evs at e
  obtain ⟨⟨x, h1⟩, e1, e⟩ := Res.bind_inv e
  obtain ⟨⟨xs, h2⟩, e2, e⟩ := Res.bind_inv e
  cases e
  exact ⟨φ, h, σ, x, h1, R, rs, e1, fun φ1 H1 w x1 R1 r1 => ⟨φ1, h1, σ, xs, _, R1, rst.mono x1 rs, e2, fun φ2 H2 ws x2 R2 r2 => k φ2 H2 _ (x1.trans x2) R2 (.cons (rv.mono x2 r1) r2)⟩⟩
theorem se_lst (h : SA X G F es as) : SE X G F (.List es pos) (.lst as) := by
  refine pe_wk (L2.pe_lst h) fun σc H Q q => ?_
  obtain ⟨φ, h, σ, v, h', R, rs, e, k⟩ := q
  unfold ev at e
  obtain ⟨⟨xs, h1⟩, e1, e⟩ := Res.bind_inv e
  refine ⟨φ, h, σ, xs, h1, R, rs, e1, fun φ1 H1 ws x1 R1 r1 => ?_⟩
  dsimp only at e
  split at e
  · rename_i hl
    cases e
    refine ⟨by rw [← Paired.length r1]; exact Nat.le_trans hl lim_le, fun p hp => k (φ1 ++ [p]) _ _ (x1.trans ⟨[p], rfl⟩) (R1.newL hp r1) R1.lastRef⟩
  · cases e
theorem se_tup {x1} (h : SA X G F es as) : SE X G F (.Tuple es x1 pos) (.tup as) := by
  refine pe_wk (L2.pe_tup h) fun σc H Q q => ?_
  obtain ⟨φ, h, σ, v, h', R, rs, e, k⟩ := q
  unfold ev at e
  obtain ⟨⟨xs, h1⟩, e1, e⟩ := Res.bind_inv e
  refine ⟨φ, h, σ, xs, h1, R, rs, e1, fun φ1 H1 ws x1 R1 r1 => ?_⟩
  dsimp only at e
  split at e
  · rename_i hl
    cases e
    refine ⟨by rw [← Paired.length r1]; exact Nat.le_trans hl lim_le, fun p hp => k (φ1 ++ [p]) _ _ (x1.trans ⟨[p], rfl⟩) (R1.newT hp r1) R1.lastRef⟩
  · cases e

/-! ### calls -/
variable (G F) in
def spF (K : PySem.W.Frag) (f : Nat) : L2.Sp := fun vs H Q _ => ∃ φ h ws v h', Rl K G φ h H ∧ rvs φ ws vs ∧ F f ws h = .ok (v, h') ∧ ∀ φ' H' w, Ext φ φ' → Rl K G φ' h' H' → rv φ' v w → Q w H'
variable (X G F) in
/-- a def of the text as it may be called here -/
structure FnS (f : Nat) (x : Str) : Prop where
  ex : ∃ k fa fd ps, L2.FnOk X.prog X.w X.K X.mg X.base L2.CX0 k fa fd ps (spF G F X.K f) ∧ L2.Room k X.A ∧ X.mg x = some (.ref fa) ∧ PySem.W.keepIn X.K (.ref fa) = true ∧ L2.Binds X.K fd ps []
theorem call_wk {f : Nat} {σc : St} {H : Hp} {Q : VK} (q : tE X.K G F (.call f as) σc H Q) : L2.tCall (spF G F X.K f) [] L2.E0 (tL X.K G F as) σc H Q := by
  obtain ⟨φ, h, σ, v, h', R, rs, e, k⟩ := q
  unfold ev at e
  obtain ⟨⟨xs, h1⟩, e1, e⟩ := Res.bind_inv e
  refine ⟨φ, h, σ, xs, h1, R, rs, e1, fun φ1 H1 ws x1 R1 r1 => ?_⟩
  refine ⟨φ1, h1, xs, v, h', R1, by rw [List.append_nil]; exact r1, e, fun φ2 H2 w x2 R2 r2 => k φ2 H2 w (x1.trans x2) R2 r2⟩
theorem se_call {f : Nat} {x : Str} {p : Pos} (hf : FnS X G F f x) (hg : L2.Gl X x) (hd : (x == ("__debug__" : Str)) = false) (hn : noStar ea = true) (hs : es.all noStar = true) (ha : SA X G F (ea :: es) as) : SE X G F (.Call (.Name x p) (ea :: es) [] pos) (.call f as) := by
  obtain ⟨k, fa, fd, ps, h1, h2, h3, h4, h5⟩ := hf.ex
  exact pe_wk (L2.pe_call h1 h2 hg h3 h4 h5 .nil L2.pass0 ha hd (star_cons hn) (star_any hs)) fun _ _ _ => call_wk
theorem se_call0 {f : Nat} {x : Str} {p : Pos} (hf : FnS X G F f x) (hg : L2.Gl X x) (hd : (x == ("__debug__" : Str)) = false) : SE X G F (.Call (.Name x p) [] [] pos) (.call f .nil) := by
  obtain ⟨k, fa, fd, ps, h1, h2, h3, h4, h5⟩ := hf.ex
  refine pe_wk (L2.pe_call0 h1 h2 hg h3 h4 h5 .nil L2.pass0 hd) fun σc H Q q => ?_
  obtain ⟨φ, h, σ, vs, h', R, rs, e, k⟩ := call_wk q
  unfold evs at e
  cases e
  exact k φ H [] (.refl _) R .nil

theorem blt_wk {f : BF} {σc : St} {H : Hp} {Q : VK} (q : tE X.K G F (.blt f as) σc H Q) : L2.tCB (rBlt X G f) (tL X.K G F as) σc H Q := by
  obtain ⟨φ, h, σ, v, h', R, rs, e, k⟩ := q
  unfold ev at e
  obtain ⟨⟨xs, h1⟩, e1, e⟩ := Res.bind_inv e
  exact ⟨φ, h, σ, xs, h1, R, rs, e1, fun φ1 H1 ws x1 R1 r1 => ⟨φ1, h1, xs, v, h', R1, r1, e, fun φ2 H2 w x2 R2 r2 => k φ2 H2 w (x1.trans x2) R2 r2⟩⟩
theorem se_blt {f : BF} {x : Str} {p : Pos} (hc : X.calm = true) (hg : L2.Gl X x) (hm : X.mg x = none) (hv : bootBuiltins x = some (fnB f)) (hn : noStar ea = true) (hs : es.all noStar = true) (ha : SA X G F (ea :: es) as)
    (h1 : x ≠ "__name__") (h2 : (x == ("__debug__" : Str)) = false) : SE X G F (.Call (.Name x p) (ea :: es) [] pos) (.blt f as) := by
  have rule := callR_blt (G := G) hc f
  cases f
  all_goals first
    | exact pe_wk (L2.pe_callB rule hg hm hv ha h1 h2 (star_cons hn) (star_any hs)) fun _ _ _ => blt_wk
    | exact pe_wk (L2.pe_callTy rule hg hm hv ha h1 h2 (star_cons hn) (star_any hs)) fun _ _ _ => blt_wk

/-! ### isinstance -/
def knownT (t : String) : Bool := t == "int" || t == "bool" || t == "list" || t == "tuple" || t == "str" || t == "dict"
theorem kit_of (K : PySem.W.Frag) : ∀ {t c : String}, (t = "NoneType" ∨ t = "bool" ∨ t = "int" ∨ t = "str" ∨ t = "list" ∨ t = "tuple") → knownT c = true → PySem.W.kitOne K (.type t) (.type c) = some (isOne t c) := by
  intro t c ht hc
  have hc' : c = "int" ∨ c = "bool" ∨ c = "list" ∨ c = "tuple" ∨ c = "str" ∨ c = "dict" := by
    simp only [knownT, Bool.or_eq_true, beq_iff_eq] at hc
    rcases hc with ((((h | h) | h) | h) | h) | h <;> simp [h]
  rcases ht with rfl | rfl | rfl | rfl | rfl | rfl <;> rcases hc' with rfl | rfl | rfl | rfl | rfl | rfl <;> kernel_rfl
variable (X G) in
def rIsi (c : String) : List V → Hp → VK → Prop := fun xs H Q => ∃ φ h xa x t, xs = [x, .ty c] ∧ Rl X.K G φ h H ∧ rv φ xa x ∧ typeV h xa = some t ∧ Q (.bl (isOne t c)) H
theorem callR_isi {c : String} (hc : knownT c = true) : CallR X (.builtin "isinstance") (rIsi X G c) := by
  intro pins s σ H xs us Q I r ⟨φ, h, xa, x, t, e, R, rx, ht, q⟩
  subst e
  obtain ⟨u, u2, rfl, r1, r2⟩ := L2.vals2 r
  cases (show u2 = Value.type c from r2)
  have fin : ∀ tk, EP X pins σ Q (.bool (isOne t c)) { s with toks := tk } := fun tk => ⟨.bl (isOne t c), H, I.tok tk, rfl, q⟩
  cases xa with
  | non => cases rv_non rx; cases r1; cases ht; exact PySem.W.kia_one PySem.W.kitx_none I.kIn True.intro (kit_of _ (by simp) hc) (fun z => nomatch z) fin
  | bl i => cases rv_bl rx; cases r1; cases ht; exact PySem.W.kia_one PySem.W.kitx_bool I.kIn True.intro (kit_of _ (by simp) hc) (fun z => nomatch z) fin
  | int i => cases rv_int rx; obtain ⟨t', rfl⟩ := r1; cases ht; exact PySem.W.kia_one PySem.W.kitx_int I.kIn True.intro (kit_of _ (by simp) hc) (fun z => nomatch z) fin
  | str i => cases rv_str rx; obtain ⟨t', rfl⟩ := r1; cases ht; exact PySem.W.kia_one PySem.W.kitx_str I.kIn True.intro (kit_of _ (by simp) hc) (fun z => nomatch z) fin
  | ref i =>
    obtain ⟨p, rfl, hp⟩ := rv_ref rx
    cases r1
    cases ey : h[i]? with
    | none => rw [show typeV h (.ref i) = none by simp only [typeV, ey]] at ht; cases ht
    | some o =>
      cases o with
      | lst fz ys =>
        rw [show typeV h (.ref i) = some "list" by simp only [typeV, ey]] at ht; cases ht
        obtain ⟨p', zs, hp', hs, rs⟩ := R.lst (i := i) (xs := ys) (by unfold lstAt; rw [ey])
        rw [hp] at hp'; cases hp'
        obtain ⟨its, _, pl, _⟩ := I.list hs
        obtain ⟨o, ho, hcl, _⟩ := pl.isList
        exact PySem.W.kia_one PySem.W.kitx_list I.kIn ⟨o, ho, hcl⟩ (kit_of _ (by simp) hc) (fun z => nomatch z) fin
      | tup ys =>
        rw [show typeV h (.ref i) = some "tuple" by simp only [typeV, ey]] at ht; cases ht
        obtain ⟨p', zs, hp', hs, rs⟩ := R.tup (i := i) (xs := ys) (by unfold tupAt; rw [ey])
        rw [hp] at hp'; cases hp'
        obtain ⟨its, _, pl, _⟩ := I.tuple hs
        obtain ⟨o, ho, hcl, _⟩ := pl
        exact PySem.W.kia_one PySem.W.kitx_tuple I.kIn ⟨o, ho, hcl⟩ (kit_of _ (by simp) hc) (fun z => nomatch z) fin
  | _ => cases ht
theorem se_isi {c : String} {xc : Str} {p pc : Pos} (hc : knownT c = true) (hg : L2.Gl X "isinstance") (hm : X.mg "isinstance" = none) (hgc : L2.Gl X xc) (hmc : X.mg xc = none) (hvc : bootBuiltins xc = some (.type c)) (hn1 : xc ≠ "__name__") (hn2 : (xc == ("__debug__" : Str)) = false)
    (hn : noStar ea = true) (ha : SE X G F ea a) : SE X G F (.Call (.Name "isinstance" p) [ea, .Name xc pc] [] pos) (.isi a [c]) := by
  refine pe_wk (L2.pe_callB (callR_isi (G := G) hc) hg hm PyProof.Rows.boot_isinstance (L2.pa_cons ha (L2.pa_cons (L2.pe_bltn (v := .ty c) hgc hmc hvc rfl hn1 hn2) L2.pa_nil rfl) (star_cons hn)) (by decide) (by decide) (star_cons hn) rfl) fun σc H Q q => ?_
  obtain ⟨φ, h, σ, v, h', R, rs, e, k⟩ := q
  unfold ev at e
  obtain ⟨⟨x, h1⟩, e1, e⟩ := Res.bind_inv e
  refine ⟨φ, h, σ, x, h1, R, rs, e1, fun φ1 H1 w x1 R1 r1 => ?_⟩
  dsimp only at e
  split at e
  · rename_i t et
    cases e
    refine ⟨φ1, _, x, w, t, rfl, R1, r1, et, ?_⟩
    have := k φ1 H1 (.bl ([c].any (isOne t))) x1 R1 rfl
    simpa using this
  · cases e

/-! ### items, slices, append -/
def noSlice : Expr → Bool
  | .Slice .. => false
  | _ => true
theorem plainIx_of {e : Expr} (h : noSlice e = true) : L2.PlainIx e := by
  intro o i
  cases e <;> first | rfl | cases h
theorem se_idx (hb' : noSlice eb = true) (ha : SE X G F ea a) (hb : SE X G F eb b) : SE X G F (.Subscript ea eb pos) (.idx a b) := by
  refine pe_wk (L2.pe_ix (L2.ix_list.or L2.ix_tup) ha hb (plainIx_of hb')) fun σc H Q q => ?_
  obtain ⟨φ, h, σ, v, h', R, rs, e, k⟩ := q
  unfold ev at e
  obtain ⟨⟨x, h1⟩, e1, e⟩ := Res.bind_inv e
  obtain ⟨⟨y, h2⟩, e2, e⟩ := Res.bind_inv e
  refine tE_seq2 R rs e1 e2 fun φ2 H2 xc yc x2 R2 r1 r2 => ?_
  cases x with
  | ref p =>
    cases y with
    | int i =>
      dsimp only at e
      split at e
      · rename_i xs ex
        split at e
        · rename_i w ew
          cases e
          obtain ⟨p', zs, hp', hs, rs'⟩ := R2.its ex
          obtain ⟨q, rfl, hq⟩ := rv_ref r1
          rw [hp'] at hq; cases hq
          cases rv_int r2
          obtain ⟨j, ej, ew⟩ := Option.bind_eq_some_iff.mp ew
          obtain ⟨w', hw', rw'⟩ := paired_get rs' ew
          have hat : L2.atI zs i = some w' := by
            unfold L2.atI
            rw [← Paired.length rs']
            exact Option.bind_eq_some_iff.mpr ⟨j, ej, hw'⟩
          rcases hs with hs | hs
          · exact .inl ⟨_, zs, i, w', rfl, rfl, hs, hat, k φ2 H2 w' x2 R2 rw'⟩
          · exact .inr ⟨_, zs, i, w', rfl, rfl, hs, hat, k φ2 H2 w' x2 R2 rw'⟩
        · cases e
      · cases e
    | _ => cases e
  | _ => cases e
theorem paired_cut {φ : List Addr} {xs ys : List V} (r : rvs φ xs ys) (lo hi : Option Int) : rvs φ (L2.cutV xs lo hi) (L2.cutV ys lo hi) := by
  unfold L2.cutV
  rw [Paired.length r]
  exact paired_take _ (paired_drop _ r)
/-- a slice's part: left out, or one expression -/
def partE : Option Expr → Es → Prop
  | none, .nil => True
  | some e, .cons a .nil => SE X G F e a
  | _, _ => False
variable (X G F) in
def SO (o : Option Expr) (as : Es) : Prop := L2.PO X o fun σc H Q => ∃ φ h σ is h', Rl X.K G φ h H ∧ rst φ σ σc ∧ (∃ vs, evs F as σ h = .ok (vs, h') ∧ asInts vs = some is) ∧ ∀ φ' H', Ext φ φ' → Rl X.K G φ' h' H' → Q is.head? H'
theorem so_none : SO X G F none .nil := by
  intro pins s σc H Q I q
  obtain ⟨φ, h, σ, is, h', R, rs, ⟨vs, e, ei⟩, k⟩ := q
  unfold evs at e
  cases e
  cases ei
  exact L2.po_none pins s σc H Q I (k φ H (.refl _) R)
theorem so_some (ha : SE X G F ea a) : SO X G F (some ea) (.cons a .nil) := by
  intro pins s σc H Q I q
  obtain ⟨φ, h, σ, is, h', R, rs, ⟨vs, e, ei⟩, k⟩ := q
  unfold evs at e
  obtain ⟨⟨x, h1⟩, e1, e⟩ := Res.bind_inv e
  unfold evs at e
  cases e
  refine L2.po_some ha pins s σc H Q I ⟨φ, h, σ, x, _, R, rs, e1, fun φ1 H1 w x1 R1 r1 => ?_⟩
  have hm := asInts_map ei
  cases is with
  | nil => cases hm
  | cons i r =>
    simp only [List.map_cons, List.cons.injEq] at hm
    obtain ⟨rfl, _⟩ := hm
    cases rv_int r1
    exact ⟨i, rfl, k φ1 H1 x1 R1⟩
theorem se_sl {lo hi : Option Expr} {al ah : Es} {p2 : Pos} (ha : SE X G F ea a) (hl : SO X G F lo al) (hh : SO X G F hi ah) : SE X G F (.Subscript ea (.Slice lo hi none p2) pos) (.sl a al ah) := by
  refine pe_wk (L2.pe_slice L2.sl_list ha hl hh) fun σc H Q q => ?_
  obtain ⟨φ, h, σ, v, h', R, rs, e, k⟩ := q
  unfold ev at e
  obtain ⟨⟨x, h1⟩, e1, e⟩ := Res.bind_inv e
  obtain ⟨⟨l, h2⟩, e2, e⟩ := Res.bind_inv e
  obtain ⟨⟨u, h3⟩, e3, e⟩ := Res.bind_inv e
  cases x with
  | ref p =>
    cases eil : asInts l with
    | none => dsimp only at e; rw [eil] at e; cases e
    | some il =>
      cases eiu : asInts u with
      | none => dsimp only at e; rw [eil, eiu] at e; cases e
      | some iu =>
        dsimp only at e
        rw [eil, eiu] at e
        dsimp only at e
        split at e
        · rename_i xs ex
          cases e
          refine ⟨φ, h, σ, _, h1, R, rs, e1, fun φ1 H1 w x1 R1 r1 => ?_⟩
          refine ⟨φ1, h1, σ, il, h2, R1, rst.mono x1 rs, ⟨l, e2, eil⟩, fun φ2 H2 x2 R2 => ?_⟩
          refine ⟨φ2, h2, σ, iu, h3, R2, rst.mono (x1.trans x2) rs, ⟨u, e3, eiu⟩, fun φ3 H3 x3 R3 => ?_⟩
          obtain ⟨p', zs, hp', hs, rs'⟩ := R3.lst ex
          obtain ⟨q, rfl, hq⟩ := rv_ref (rv.mono (x2.trans x3) r1)
          rw [hp'] at hq; cases hq
          exact ⟨_, zs, rfl, hs, fun m hm => k (φ3 ++ [m]) _ _ ((x1.trans (x2.trans x3)).trans ⟨[m], rfl⟩) (R3.newL hm (paired_cut rs' _ _)) R3.lastRef⟩
        · cases e
  | _ => cases e
theorem se_app {apos cpos : Pos} (hbase : attributeBase ea "append" X.env (eval ea X.env) = eval ea X.env) (hline : (apos.endLine == cpos.line) = true) (hn : noStar eb = true) (ha : SE X G F ea a) (hb : SE X G F eb b) :
    SE X G F (.Call (.Attribute ea "append" apos) [eb] [] cpos) (.app a b) := by
  refine pe_wk (L2.pe_bm PySem.F.plainAttrs_list PySem.F.slot_list_append PySem.F.type_list_append L2.mt_append ha (L2.pa_cons hb L2.pa_nil (star_cons hn)) hbase (by rw [star_cons hn]; rfl) hline (star_cons hn) rfl) fun σc H Q q => ?_
  obtain ⟨φ, h, σ, v, h', R, rs, e, k⟩ := q
  unfold ev at e
  obtain ⟨⟨x, h1⟩, e1, e⟩ := Res.bind_inv e
  dsimp only at e
  split at e
  · rename_i p
    split at e
    · rename_i ys ey
      obtain ⟨⟨y, h2⟩, e2, e⟩ := Res.bind_inv e
      dsimp only at e
      split at e
      · rename_i xs ex
        split at e
        · rename_i hl
          cases e
          refine ⟨φ, h, σ, _, h1, R, rs, e1, fun φ1 H1 w x1 R1 r1 => ?_⟩
          obtain ⟨p1, zs1, hp1, hs1, _⟩ := R1.lst ey
          obtain ⟨q, rfl, hq⟩ := rv_ref r1
          rw [hp1] at hq; cases hq
          refine ⟨.inl ⟨rfl, _, hs1⟩, φ1, h1, σ, y, h2, R1, rst.mono x1 rs, e2, fun φ2 H2 yc x2 R2 r2 => ?_⟩
          obtain ⟨q1, p2, zs2, hp2, hH2, rs2⟩ := R2.mut ex
          have := x2.get hp1
          rw [hp2] at this; cases this
          refine ⟨_, zs2, yc, rfl, rfl, hH2, ?_, k φ2 _ _ (x1.trans x2) (R2.set q1 hp2 (paired_append rs2 (.cons r2 .nil))) trivial⟩
          rw [← Paired.length rs2]
          exact Nat.lt_trans hl lim_lt
        · cases e
      · cases e
    · cases e
  · cases e
end
end PI

set_option Elab.async false
set_option linter.all false
set_option maxRecDepth 100000
set_option maxHeartbeats 4000000
namespace PI
open PySem PySem.Spec PyProof.Rows PySem.SeqAt
open L2 (V Hp HO Cx PE PT PA PS PSs PG PW TE TT TA TS VK upd upd_same upd_ne SqL SqT Same Inv RelV Vals EP TP AP SP OpR CallR R2 It Turn FpOk)

/-- two lists walked side by side -/
def Itz (K : PySem.W.Frag) (a b : Addr) : It :=
  ⟨fun i H => ∃ xs ys x y, SqL K H a xs ∧ SqL K H b ys ∧ xs[i]? = some x ∧ ys[i]? = some y,
   fun i H v H' => ∃ p x y, H p = none ∧ v = .ref p ∧ H' = upd H p (.tup [x, y]) ∧ (∀ xs, SqL K H a xs → xs[i]? = some x) ∧ ∀ ys, SqL K H b ys → ys[i]? = some y,
   fun i H => ∃ xs ys, SqL K H a xs ∧ SqL K H b ys ∧ (xs.length ≤ i ∨ ys.length ≤ i)⟩
/-- several records of ours have turned, a tuple is laid -/
theorem inv_zip {X : Cx} {pins : List (Addr × Obj)} {σ : L2.St} {H : Hp} {s : Shared} {h' : Heap} {T : Addr} {xs : List V} {its : List Value} {ch : List Addr} {t' : Nat} (I : Inv X pins σ H s) (hf : ∀ b ∈ ch, FpOk X pins H b)
    (hT : s.heap.objs.size ≤ T) (k : ∀ b o, b ∉ ch → s.heap.get? b = some o → h'.get? b = some o) (hp : IsTup h' T its.toArray) (hv : Vals xs its) (hz : xs.length ≤ sizeLine) (hTc : T ∉ ch) :
    Inv X pins σ (upd H T (.tup xs)) { s with heap := h', toks := t' } := by
  have hn : H T = none := I.hok.fresh hT
  have neT : ∀ b o, s.heap.get? b = some o → b ≠ T := fun b o e => Nat.ne_of_lt (Nat.lt_of_lt_of_le (Heap.lt_size e) hT)
  refine I.step (g' := s.gens) (d' := s.drawn) (ch := ch) (fun b hb => ⟨(hf b hb).2.2.2.1, (hf b hb).2.1, (hf b hb).2.2.2.2.1, (hf b hb).2.2.2.2.2⟩) (fun b o _ _ hc e _ => k b o hc e) (fun b o _ _ hc e _ => ⟨o.slots, k b o hc e⟩)
    (fun b o _ e n => by rw [upd_ne (neT b o e)]; exact n) (fun b o hc e => ⟨o, k b o hc e⟩) (fun b ys e => by rw [upd_ne (L2.ne_of_none e hn)]; exact e) (fun b o u e => by rw [upd_ne (L2.ne_of_none e hn)]; exact e)
    (fun b ps e => ⟨#[], by rw [upd_ne (L2.ne_of_none e hn), e]; simp⟩) (fun m hm => ?_) (fun b u e => ?_) I.bare
  · obtain ⟨o, es, ep, ho, r⟩ := hm
    exact ⟨o, es, ep, k _ o (fun z => (hf _ z).2.1 rfl) ho, r⟩
  · by_cases hb : b = T
    · subst hb
      rw [upd_same] at e
      cases e
      exact ⟨hz, its, hv, hp⟩
    · rw [upd_ne hb] at e
      have nc : ∀ c u, H c = some u → c ∉ ch := fun c u q z => by rw [(hf c z).1] at q; cases q
      refine (I.hok b u e).stay (fun c v hc q => k c v ?_ q) (fun c q => by rw [upd_ne (L2.ne_of_none q hn)]; exact q) fun c ys q => by rw [upd_ne (L2.ne_of_none q hn)]; exact q
      rcases hc with z | z
      · rw [z]; exact nc b u e
      · exact nc c _ z
theorem turn_zip {P : Program} {w : World} {K : PySem.W.Frag} {elts : List Expr} {kk : Nat} {tpos : Pos} (z TI TO i1 i2 a b : Addr) (D : ZipApart z TI TO i1 i2 a b) :
    Turn P w K (.Tuple elts kk tpos) (Itz K a b) [z, TI, TO, i1, i2] z (fun i h => IsZip h z TI TO .none ∧ IsPair h TI (.ref i1) (.ref i2) ∧ (∃ x y, IsPair h TO x y) ∧ h.IsListIter i1 a i ∧ h.IsListIter i2 b i) where
  mem := by simp
  obj := fun i h st c hc => by
    obtain ⟨h1, h2, ⟨x, y, h3⟩, ⟨o4, e4, c4, d4⟩, ⟨o5, e5, c5, d5⟩⟩ := st
    simp only [List.mem_cons, List.not_mem_nil, or_false] at hc
    rcases hc with rfl | rfl | rfl | rfl | rfl
    · exact ⟨_, h1, fun v q => by have q' : Data.fields _ = Data.cell v := q; cases q'⟩
    · exact ⟨_, h2, fun v q => by have q' : Data.seq _ _ = Data.cell v := q; cases q'⟩
    · exact ⟨_, h3, fun v q => by have q' : Data.seq _ _ = Data.cell v := q; cases q'⟩
    · exact ⟨o4, e4, fun v q => by rw [d4] at q; cases q⟩
    · exact ⟨o5, e5, fun v q => by rw [d5] at q; cases q⟩
  keep := fun i h h' st k => by
    obtain ⟨h1, h2, ⟨x, y, h3⟩, h4, h5⟩ := st
    exact ⟨k z (by simp) _ h1, k TI (by simp) _ h2, ⟨x, y, k TO (by simp) _ h3⟩, h4.at fun o e => k i1 (by simp) o e, h5.at fun o e => k i2 (by simp) o e⟩
  item := by
    intro X hP hw hK hc i pins s σ H E I hf st hg
    subst hP hw hK
    obtain ⟨xs, ys, x, y, hq1, hq2, hx, hy⟩ := hg
    obtain ⟨its1, rv1, p1, _⟩ := I.list hq1
    obtain ⟨its2, rv2, p2, _⟩ := I.list hq2
    obtain ⟨u, hu, ru⟩ := rv1.get hx
    obtain ⟨w', hw', rw'⟩ := rv2.get hy
    obtain ⟨h1, h2, ⟨ta, tb, h3⟩, h4, h5⟩ := st
    refine wpAny_pyNext_zip_item D h1 h2 h3 h4 h5 p1.isList p2.isList (x := u) (y := w') (by simpa using hu) (by simpa using hw') fun h' z1 z2 z3 z4 z5 z6 z7 => ?_
    refine ⟨_, rfl, wpAny_letOwnedTupleGo_zip z1 fun h'' g1 gs => ?_⟩
    have lt : ∀ c ∈ [z, TI, TO, i1, i2], c ≠ s.heap.objs.size := fun c hc => by
      have ex : ∃ o, s.heap.get? c = some o := by
        simp only [List.mem_cons, List.not_mem_nil, or_false] at hc
        rcases hc with rfl | rfl | rfl | rfl | rfl
        · exact ⟨_, h1⟩
        · exact ⟨_, h2⟩
        · exact ⟨_, h3⟩
        · obtain ⟨o, e, _⟩ := h4; exact ⟨o, e⟩
        · obtain ⟨o, e, _⟩ := h5; exact ⟨o, e⟩
      obtain ⟨o, e⟩ := ex
      exact Nat.ne_of_lt (Heap.lt_size e)
    have up : ∀ c o, c ≠ z → h'.get? c = some o → h''.get? c = some o := fun c o hz e => gs.extBut c o hz e
    have kp : ∀ c o, c ∉ [z, TI, TO, i1, i2] → s.heap.get? c = some o → h''.get? c = some o := fun c o hn e => by
      simp only [List.mem_cons, List.not_mem_nil, or_false, not_or] at hn
      exact up c o hn.1 (z7 c o hn.1 hn.2.2.1 hn.2.2.2.1 hn.2.2.2.2 e)
    have ht : IsTup h'' s.heap.objs.size #[u, w'] := ⟨_, up _ _ (Ne.symm (lt z (by simp))) z5, rfl, _, rfl⟩
    have I1 := inv_zip (t' := s.toks) (xs := [x, y]) (its := [u, w']) I hf (Nat.le_refl _) kp ht (.cons ru (.cons rw' .nil)) (by show 2 ≤ sizeLine; decide) (fun q => lt _ q rfl)
    refine ⟨.ref s.heap.objs.size, _, I1, rfl, ⟨s.heap.objs.size, x, y, I.hok.fresh (Nat.le_refl _), rfl, rfl, fun zs hz => by rw [I.list_inj hz hq1]; exact hx, fun zs hz => by rw [I.list_inj hz hq2]; exact hy⟩,
      ⟨g1, up _ _ D.TIz (z7 TI _ D.TIz D.TITO D.TIi1 D.TIi2 h2), ⟨_, _, up _ _ D.TOz z2⟩, z3.at fun o e => up _ o D.i1z e, z4.at fun o e => up _ o D.i2z e⟩, fun c hc => ?_⟩
    rw [upd_ne (lt c hc)]
    exact (hf c hc).1
  done := by
    intro X hP hw hK hc i pins s σ H E I hf st hg
    subst hP hw hK
    obtain ⟨xs, ys, hq1, hq2, hl⟩ := hg
    obtain ⟨its1, rv1, p1, _⟩ := I.list hq1
    obtain ⟨its2, rv2, p2, _⟩ := I.list hq2
    obtain ⟨h1, h2, ⟨ta, tb, h3⟩, h4, h5⟩ := st
    have n1 := rv1.length
    have n2 := rv2.length
    refine wpAny_pyNext_zip_end (I.ok.hd hc) D h1 h2 h3 h4 h5 p1.isList p2.isList ?_ fun h' z7 => ⟨rfl, ?_⟩
    · rcases hl with hl | hl
      · left; simp; omega
      · right; simp; omega
    · have kp : ∀ c o, c ∉ [z, TI, TO, i1, i2] → s.heap.get? c = some o → h'.get? c = some o := fun c o hn e => by
        simp only [List.mem_cons, List.not_mem_nil, or_false, not_or] at hn
        exact z7 c o hn.1 hn.2.2.1 hn.2.2.2.1 hn.2.2.2.2 e
      refine I.step (g' := s.gens) (d' := s.drawn) (t' := s.toks) (ch := [z, TI, TO, i1, i2]) (fun b hb => ⟨(hf b hb).2.2.2.1, (hf b hb).2.1, (hf b hb).2.2.2.2.1, (hf b hb).2.2.2.2.2⟩) (fun b o _ _ hc e _ => kp b o hc e) (fun b o _ _ hc e _ => ⟨o.slots, kp b o hc e⟩)
        (fun b o _ e n => n) (fun b o hc e => ⟨o, kp b o hc e⟩) (fun b ys e => e) (fun b o u e => e) (fun b ps e => ⟨#[], by rw [e]; simp⟩) (fun m hm => ?_) (fun b u e => ?_) I.bare
      · obtain ⟨o, es, ep, ho, r⟩ := hm
        exact ⟨o, es, ep, kp _ o (fun z => (hf _ z).2.1 rfl) ho, r⟩
      · have nc : ∀ c u, H c = some u → c ∉ [z, TI, TO, i1, i2] := fun c u q z => by rw [(hf c z).1] at q; cases q
        refine (I.hok b u e).stay (fun c v hc q => kp c v ?_ q) (fun c q => q) fun c ys q => q
        rcases hc with z | z
        · rw [z]; exact nc b u e
        · exact nc c _ z
  self := fun _ _ _ _ _ st h => wpAny_pyIter_zip st.1 h
/-- zip(a, b) -/
def iZip (K : PySem.W.Frag) (ta : TA) : L2.TI := fun σ H R => ta σ H fun vs H1 => ∃ a b, vs = [.ref a, .ref b] ∧ (∃ xs, SqL K H1 a xs) ∧ (∃ ys, SqL K H1 b ys) ∧ R (Itz K a b) H1
theorem pi_zip {X : Cx} {ea eb : Expr} {ta : TA} {p pos tpos : Pos} {elts : List Expr} {kk : Nat} (hg : L2.Gl X "zip") (hm : X.mg "zip" = none) (ha : PA X [ea, eb] ta) (h1 : noStar ea = true) (h2 : noStar eb = true) :
    L2.PI X (.Tuple elts kk tpos) (.Call (.Name "zip" p) [ea, eb] [] pos) (iZip X.K ta) := by
  intro pins s σ H R I h
  refine Call_ (L2.ld_blt I hg hm PyProof.Rows.boot_zip (PyProof.Rows.callWith_type1 (L2.thn (ha pos pins s σ H _ I h) fun us s1 ⟨vs, H1, I1, r1, q1⟩ => ?_) (star_cons h1) (star_any (by simp [h2]))))
  obtain ⟨a, b, e, ⟨xs, hq1⟩, ⟨ys, hq2⟩, q⟩ := q1
  subst e
  cases r1 with
  | cons r rr =>
    cases rr with
    | cons r' rr =>
      cases rr
      cases r
      cases r'
      obtain ⟨its1, rv1, p1, _⟩ := I1.list hq1
      obtain ⟨its2, rv2, p2, _⟩ := I1.list hq2
      have a1 : a < s1.heap.objs.size := by obtain ⟨_, e, _⟩ := p1.isList; exact Heap.lt_size e
      have a2 : b < s1.heap.objs.size := by obtain ⟨_, e, _⟩ := p2.isList; exact Heap.lt_size e
      refine call_zip_2 p1.isList p2.isList fun h' hz hTI hTO hi1 hi2 _ hk => ?_
      refine wpAny_pyIter_zip hz ?_
      have I2 : Inv X pins σ H1 { s1 with heap := h' } := I1.kept (t' := s1.toks) hk
      refine ⟨_, _, _, _, H1, rfl, I2, turn_zip _ _ _ _ _ a b (zipApart_new a1 a2), ⟨hz, hTI, ⟨_, _, hTO⟩, hi1, hi2⟩, fun c hc => ?_, q⟩
      have hge : s1.heap.objs.size ≤ c := by
        simp only [List.mem_cons, List.not_mem_nil, or_false] at hc
        rcases hc with rfl | rfl | rfl | rfl | rfl
        · exact Nat.le_add_right _ 4
        · exact Nat.le_add_right _ 2
        · exact Nat.le_add_right _ 3
        · exact Nat.le_refl _
        · exact Nat.le_add_right _ 1
      exact I1.fpOk hge (I1.hok.fresh hge)
end PI

set_option Elab.async false
set_option linter.all false
set_option maxRecDepth 100000
set_option maxHeartbeats 4000000
namespace PI
open PySem PySem.Spec PyProof.Rows PySem.SeqAt
open L2 (V Hp HO Cx PE PT PA PS PSs PG PGs PW TE TT TA TS TG TGs VK upd upd_same upd_ne SqL SqT Same Inv RelV Vals EP TP AP SP OpR CallR R2 It Turn FpOk Itl Itt Ends)

/-! ### targets -/
section
variable (K : PySem.W.Frag) (G : List Addr)
def tG (g : Tg) : TG := fun v σc H Q => ∃ φ h σ w σ', Rl K G φ h H ∧ rst φ σ σc ∧ rv φ w v ∧ store g w σ h = some σ' ∧ ∀ σc', rst φ σ' σc' → Q σc' H
def tGs (is : List Nat) : TGs := fun vs σc H Q => ∃ φ σ ws σ', rst φ σ σc ∧ rvs φ ws vs ∧ setAll is ws σ = some σ' ∧ ∀ σc', rst φ σ' σc' → Q σc' H
end
section
variable {X : Cx} {G : List Addr} {F : Nat → List V → AH → RV}
theorem pg_wk {e : Expr} {t t' : TG} (h : PG X e t) (w : ∀ v σ H Q, t' v σ H Q → t v σ H Q) : PG X e t' := fun pins s σ H v u Q I r q => h pins s σ H v u Q I r (w v σ H Q q)
theorem pgs_wk {e : List Expr} {t t' : TGs} (h : PGs X e t) (w : ∀ v σ H Q, t' v σ H Q → t v σ H Q) : PGs X e t' := fun pins s σ H v u Q I r q => h pins s σ H v u Q I r (w v σ H Q q)
variable (X G) in
abbrev SG (e : Expr) (g : Tg) : Prop := PG X e (tG X.K G g)
theorem sg_name {i : Nat} {x : Str} {pos : Pos} (hN : X.N.Nodup) (hi : X.N[i]? = some x) (hx : L2.Loc X.env.scope x) (hf : X.fn x = true ∨ X.env.scope.names.lookup x = some .local) : SG X G (.Name x pos) (.name i) := by
  refine pg_wk (L2.pg_name hN hi hx hf) fun v σc H Q q => ?_
  obtain ⟨φ, h, σ, w, σ', R, rs, r, e, k⟩ := q
  unfold store at e
  cases e
  exact k _ (paired_set (R := ropt φ) (show ropt φ (some w) (some v) from ⟨v, rfl, r⟩) i rs)
theorem sgs_nil : PGs X [] (tGs []) := by
  refine pgs_wk L2.pgs_nil fun vs σc H Q q => ?_
  obtain ⟨φ, σ, ws, σ', rs, r, e, k⟩ := q
  cases ws with
  | nil =>
    cases r
    cases e
    exact ⟨rfl, k _ rs⟩
  | cons _ _ => cases e
theorem sgs_cons {i : Nat} {is : List Nat} {x : Str} {pos : Pos} {es : List Expr} (hN : X.N.Nodup) (hi : X.N[i]? = some x) (hx : L2.Loc X.env.scope x) (hf : X.fn x = true ∨ X.env.scope.names.lookup x = some .local) (hs : PGs X es (tGs is)) :
    PGs X (.Name x pos :: es) (tGs (i :: is)) := by
  refine pgs_wk (L2.pgs_cons (L2.pg_name hN hi hx hf) hs rfl) fun vs σc H Q q => ?_
  obtain ⟨φ, σ, ws, σ', rs, r, e, k⟩ := q
  cases ws with
  | nil => cases e
  | cons w ws =>
    cases r with
    | cons r1 rr => exact ⟨_, _, rfl, φ, _, ws, σ', paired_set (R := ropt φ) (show ropt φ (some w) (some _) from ⟨_, rfl, r1⟩) i rs, rr, e, k⟩
theorem setAll_len : ∀ {is : List Nat} {xs : List V} {σ σ' : St}, setAll is xs σ = some σ' → xs.length = is.length
  | [], [], _, _, _ => rfl
  | [], _ :: _, _, _, e => by cases e
  | _ :: _, [], _, _, e => by cases e
  | i :: is, x :: xs, σ, σ', e => by
    have := setAll_len (show setAll is xs _ = some σ' from e)
    simp [this]
theorem sg_tup {is : List Nat} {es : List Expr} {k : Nat} {pos : Pos} (hc : X.calm = true) (h : PGs X es (tGs is)) (hn : (assignEach es X.env).length = is.length) (hst : (assignEach es X.env).findIdx? (·.1) = none) : SG X G (.Tuple es k pos) (.tup is) := by
  refine pg_wk (L2.pg_tup hc h hn hst) fun v σc H Q q => ?_
  obtain ⟨φ, h, σ, w, σ', R, rs, r, e, k⟩ := q
  cases w with
  | ref a =>
    unfold store at e
    dsimp only at e
    split at e
    · rename_i xs ex
      obtain ⟨p, zs, hp, hs, rz⟩ := R.tup ex
      obtain ⟨q, rfl, hq⟩ := rv_ref r
      rw [hp] at hq; cases hq
      exact ⟨_, zs, rfl, hs, by rw [← Paired.length rz]; exact setAll_len e, φ, σ, xs, σ', rs, rz, e, k⟩
    · cases e
  | _ => cases e

/-! ### what is walked -/
def IsJ (K : PySem.W.Frag) (φ : List Addr) : Src → It → Prop
  | .list p, J => ∃ a, φ[p]? = some a ∧ J = Itl K a
  | .tupl p, J => ∃ a, φ[p]? = some a ∧ J = Itt K a
  | .rng lo n, J => J = L2.Itr lo n
  | .zip p q, J => ∃ a b, φ[p]? = some a ∧ φ[q]? = some b ∧ J = Itz K a b
theorem IsJ.mono {K : PySem.W.Frag} {φ φ' : List Addr} (x : Ext φ φ') : ∀ {s : Src} {J : It}, IsJ K φ s J → IsJ K φ' s J
  | .list _, _, ⟨a, h, e⟩ => ⟨a, x.get h, e⟩
  | .tupl _, _, ⟨a, h, e⟩ => ⟨a, x.get h, e⟩
  | .rng _ _, _, e => e
  | .zip _ _, _, ⟨a, b, h, g, e⟩ => ⟨a, b, x.get h, x.get g, e⟩
section
variable {K : PySem.W.Frag} {φ : List Addr} {h h1 : AH} {H H' : Hp} {s : Src} {J : It} {i : Nat} {x v : V}
theorem IsJ.stop (j : IsJ K φ s J) (R : Rl K G φ h H) (e : stopAt h i s = true) : J.stop i H := by
  cases s with
  | list p =>
    obtain ⟨a, ha, rfl⟩ := j
    unfold stopAt at e
    dsimp only at e
    split at e
    · rename_i xs ex
      obtain ⟨q, zs, hq, hs, rz⟩ := R.lst ex
      rw [ha] at hq; cases hq
      exact ⟨zs, hs, by rw [← Paired.length rz]; exact of_decide_eq_true e⟩
    · cases e
  | tupl p =>
    obtain ⟨a, ha, rfl⟩ := j
    unfold stopAt at e
    dsimp only at e
    split at e
    · rename_i xs ex
      obtain ⟨q, zs, hq, hs, rz⟩ := R.tup ex
      rw [ha] at hq; cases hq
      exact ⟨zs, hs, by rw [← Paired.length rz]; exact of_decide_eq_true e⟩
    · cases e
  | rng lo n =>
    cases j
    show n ≤ i
    exact of_decide_eq_true e
  | zip p q =>
    obtain ⟨a, b, ha, hb, rfl⟩ := j
    unfold stopAt at e
    dsimp only at e
    split at e
    · rename_i xs ys ex ey
      obtain ⟨a', zs, hq, hs, rz⟩ := R.lst ex
      obtain ⟨b', ws, hq', hs', rz'⟩ := R.lst ey
      rw [ha] at hq; cases hq
      rw [hb] at hq'; cases hq'
      exact ⟨zs, ws, hs, hs', by rw [← Paired.length rz, ← Paired.length rz']; exact of_decide_eq_true e⟩
    · cases e
theorem IsJ.go (j : IsJ K φ s J) (R : Rl K G φ h H) (e : yieldAt h i s = some (x, h1)) : J.go i H := by
  cases s with
  | list p =>
    obtain ⟨a, ha, rfl⟩ := j
    unfold yieldAt at e
    dsimp only at e
    split at e
    · rename_i xs ex
      obtain ⟨y, ey, e2⟩ := Option.map_eq_some_iff.mp e
      obtain ⟨q, zs, hq, hs, rz⟩ := R.lst ex
      rw [ha] at hq; cases hq
      obtain ⟨z, hz, _⟩ := paired_get rz ey
      exact ⟨zs, z, hs, hz⟩
    · cases e
  | tupl p =>
    obtain ⟨a, ha, rfl⟩ := j
    unfold yieldAt at e
    dsimp only at e
    split at e
    · rename_i xs ex
      obtain ⟨y, ey, e2⟩ := Option.map_eq_some_iff.mp e
      obtain ⟨q, zs, hq, hs, rz⟩ := R.tup ex
      rw [ha] at hq; cases hq
      obtain ⟨z, hz, _⟩ := paired_get rz ey
      exact ⟨zs, z, hs, hz⟩
    · cases e
  | rng lo n =>
    cases j
    unfold yieldAt at e
    dsimp only at e
    split at e
    · rename_i hl
      exact hl
    · cases e
  | zip p q =>
    obtain ⟨a, b, ha, hb, rfl⟩ := j
    unfold yieldAt at e
    dsimp only at e
    split at e
    · rename_i xs ys ex ey
      split at e
      · rename_i u w eu ew
        obtain ⟨a', zs, hq, hs, rz⟩ := R.lst ex
        obtain ⟨b', ws, hq', hs', rz'⟩ := R.lst ey
        rw [ha] at hq; cases hq
        rw [hb] at hq'; cases hq'
        obtain ⟨z, hz, _⟩ := paired_get rz eu
        obtain ⟨z', hz', _⟩ := paired_get rz' ew
        exact ⟨zs, ws, z, z', hs, hs', hz, hz'⟩
      · cases e
    · cases e
theorem IsJ.yld (j : IsJ K φ s J) (R : Rl K G φ h H) (e : yieldAt h i s = some (x, h1)) (y : J.yld i H v H') : ∃ φ', Ext φ φ' ∧ Rl K G φ' h1 H' ∧ rv φ' x v := by
  cases s with
  | list p =>
    obtain ⟨a, ha, rfl⟩ := j
    unfold yieldAt at e
    dsimp only at e
    split at e
    · rename_i xs ex
      obtain ⟨y', ey, e2⟩ := Option.map_eq_some_iff.mp e
      cases e2
      obtain ⟨q, zs, hq, hs, rz⟩ := R.lst ex
      rw [ha] at hq; cases hq
      obtain ⟨z, hz, rz'⟩ := paired_get rz ey
      obtain ⟨rfl, k⟩ := y
      have := k zs hs
      rw [hz] at this; cases this
      exact ⟨φ, .refl _, R, rz'⟩
    · cases e
  | tupl p =>
    obtain ⟨a, ha, rfl⟩ := j
    unfold yieldAt at e
    dsimp only at e
    split at e
    · rename_i xs ex
      obtain ⟨y', ey, e2⟩ := Option.map_eq_some_iff.mp e
      cases e2
      obtain ⟨q, zs, hq, hs, rz⟩ := R.tup ex
      rw [ha] at hq; cases hq
      obtain ⟨z, hz, rz'⟩ := paired_get rz ey
      obtain ⟨rfl, k⟩ := y
      have := k zs hs
      rw [hz] at this; cases this
      exact ⟨φ, .refl _, R, rz'⟩
    · cases e
  | rng lo n =>
    cases j
    unfold yieldAt at e
    dsimp only at e
    split at e
    · cases e
      obtain ⟨rfl, rfl⟩ := y
      exact ⟨φ, .refl _, R, rfl⟩
    · cases e
  | zip p q =>
    obtain ⟨a, b, ha, hb, rfl⟩ := j
    unfold yieldAt at e
    dsimp only at e
    split at e
    · rename_i xs ys ex ey
      split at e
      · rename_i u w eu ew
        cases e
        obtain ⟨a', zs, hq, hs, rz⟩ := R.lst ex
        obtain ⟨b', ws, hq', hs', rz'⟩ := R.lst ey
        rw [ha] at hq; cases hq
        rw [hb] at hq'; cases hq'
        obtain ⟨z, hz, r1⟩ := paired_get rz eu
        obtain ⟨z', hz', r2⟩ := paired_get rz' ew
        obtain ⟨p', x', y', hn, rfl, rfl, k1, k2⟩ := y
        have t1 := k1 zs hs
        have t2 := k2 ws hs'
        rw [hz] at t1; cases t1
        rw [hz'] at t2; cases t2
        exact ⟨φ ++ [p'], ⟨[p'], rfl⟩, R.newT hn (.cons r1 (.cons r2 .nil)), R.lastRef⟩
      · cases e
    · cases e
end
variable (G F) in
def tI (K : PySem.W.Frag) (it : Itr) : L2.TI := fun σc H R => ∃ φ h σ s h', Rl K G φ h H ∧ rst φ σ σc ∧ evi F it σ h = .ok (s, h') ∧ ∀ φ' H' J, Ext φ φ' → Rl K G φ' h' H' → IsJ K φ' s J → R J H'
variable (X G F) in
abbrev SI (tg iter : Expr) (it : Itr) : Prop := L2.PI X tg iter (tI G F X.K it)
theorem pi_wk {tg e : Expr} {t t' : L2.TI} (h : L2.PI X tg e t) (w : ∀ σ H Q, t' σ H Q → t σ H Q) : L2.PI X tg e t' := fun pins s σ H Q I q => h pins s σ H Q I (w σ H Q q)
variable {a b : E} {ea eb tg : Expr} {pos p : Pos}
/-- a list or a tuple -/
def iSeq (K : PySem.W.Frag) (tl : TE) : L2.TI := fun σ H R => tl σ H fun x H1 => ∃ a, x = .ref a ∧ (((∃ xs, SqL K H1 a xs) ∧ R (Itl K a) H1) ∨ ((∃ xs, SqT K H1 a xs) ∧ R (Itt K a) H1))
theorem pi_seq {l : Expr} {tl : TE} (hl : PE X l tl) : L2.PI X tg l (iSeq X.K tl) := by
  intro pins s σ H R I h
  refine L2.thn (hl pins s σ H _ I h) fun v s1 ⟨x, H1, I1, r1, q1⟩ => ?_
  obtain ⟨a, e, q⟩ := q1
  subst e
  cases r1
  rcases q with ⟨⟨xs, hq⟩, q⟩ | ⟨⟨xs, hq⟩, q⟩
  · obtain ⟨its, rv, p, hz⟩ := I1.list hq
    refine wpAny_pyIter_list p.isList ?_
    refine ⟨s1.heap.objs.size, [s1.heap.objs.size], _, _, H1, rfl, I1.kept (t' := s1.toks) fun b o e => Heap.get?_push_of_some _ e, L2.turn_list a _, ⟨_, Heap.get?_push_size _ rfl, rfl, rfl⟩, fun b hb => ?_, q⟩
    have e : b = s1.heap.objs.size := by simpa using hb
    subst e
    exact I1.fpOk (Nat.le_refl _) (I1.hok.fresh (Nat.le_refl _))
  · obtain ⟨its, rv, p, hz⟩ := I1.tuple hq
    refine wpAny_pyIter_tuple (show s1.heap.IsTuple a its.toArray from p) ?_
    refine ⟨s1.heap.objs.size, [s1.heap.objs.size], _, _, H1, rfl, I1.kept (t' := s1.toks) fun b o e => Heap.get?_push_of_some _ e, L2.turn_tuple a _, ⟨_, Heap.get?_push_size _ rfl, rfl, rfl⟩, fun b hb => ?_, q⟩
    have e : b = s1.heap.objs.size := by simpa using hb
    subst e
    exact I1.fpOk (Nat.le_refl _) (I1.hok.fresh (Nat.le_refl _))
theorem si_list (ha : SE X G F ea a) : SI X G F tg ea (.list a) := by
  refine pi_wk (pi_seq ha) fun σc H Q q => ?_
  obtain ⟨φ, h, σ, s, h', R, rs, e, k⟩ := q
  unfold evi at e
  obtain ⟨⟨x, h1⟩, e1, e⟩ := Res.bind_inv e
  refine ⟨φ, h, σ, x, h1, R, rs, e1, fun φ1 H1 w x1 R1 r1 => ?_⟩
  cases x with
  | ref p =>
    dsimp only at e
    cases ey : h1[p]? with
    | none => rw [ey] at e; cases e
    | some o =>
      cases o with
      | lst fz ys =>
        rw [ey] at e
        cases e
        obtain ⟨q, zs, hq, hs, rz⟩ := R1.lst (i := p) (xs := ys) (by unfold lstAt; rw [ey])
        obtain ⟨q', rfl, hq'⟩ := rv_ref r1
        rw [hq] at hq'; cases hq'
        exact ⟨_, rfl, .inl ⟨⟨zs, hs⟩, k φ1 H1 _ x1 R1 ⟨_, hq, rfl⟩⟩⟩
      | tup ys =>
        rw [ey] at e
        cases e
        obtain ⟨q, zs, hq, hs, rz⟩ := R1.tup (i := p) (xs := ys) (by unfold tupAt; rw [ey])
        obtain ⟨q', rfl, hq'⟩ := rv_ref r1
        rw [hq] at hq'; cases hq'
        exact ⟨_, rfl, .inr ⟨⟨zs, hs⟩, k φ1 H1 _ x1 R1 ⟨_, hq, rfl⟩⟩⟩
  | _ => cases e
theorem si_rng1 (hg : L2.Gl X "range") (hm : X.mg "range" = none) (hn : noStar ea = true) (ha : SE X G F ea a) : SI X G F tg (.Call (.Name "range" p) [ea] [] pos) (.rng1 a) := by
  refine pi_wk (L2.pi_range1 hg hm (L2.pa_cons ha L2.pa_nil (star_cons hn)) (star_cons hn)) fun σc H Q q => ?_
  obtain ⟨φ, h, σ, s, h', R, rs, e, k⟩ := q
  unfold evi at e
  obtain ⟨⟨x, h1⟩, e1, e⟩ := Res.bind_inv e
  refine ⟨φ, h, σ, x, h1, R, rs, e1, fun φ1 H1 w x1 R1 r1 => ?_⟩
  cases x with
  | int j =>
    dsimp only at e
    split at e
    · rename_i hj
      cases e
      cases rv_int r1
      exact ⟨j, rfl, by omega, by omega, k φ1 H1 _ x1 R1 rfl⟩
    · cases e
  | _ => cases e
theorem si_rng2 (hg : L2.Gl X "range") (hm : X.mg "range" = none) (hn : noStar ea = true) (hn2 : noStar eb = true) (ha : SE X G F ea a) (hb : SE X G F eb b) : SI X G F tg (.Call (.Name "range" p) [ea, eb] [] pos) (.rng2 a b) := by
  refine pi_wk (L2.pi_range2 hg hm (L2.pa_cons ha (L2.pa_cons hb L2.pa_nil (star_cons hn2)) (star_cons hn)) (by rw [star_cons hn, star_cons hn2]; rfl) (star_cons hn2)) fun σc H Q q => ?_
  obtain ⟨φ, h, σ, s, h', R, rs, e, k⟩ := q
  unfold evi at e
  obtain ⟨⟨x, h1⟩, e1, e⟩ := Res.bind_inv e
  obtain ⟨⟨y, h2⟩, e2, e⟩ := Res.bind_inv e
  refine tE_seq2 R rs e1 e2 fun φ2 H2 xc yc x2 R2 r1 r2 => ?_
  cases x with
  | int i =>
    cases y with
    | int j =>
      dsimp only at e
      split at e
      · rename_i hj
        cases e
        cases rv_int r1
        cases rv_int r2
        exact ⟨i, j, rfl, ⟨by omega, by omega, by omega, by omega⟩, k φ2 H2 _ x2 R2 rfl⟩
      · cases e
    | _ => cases e
  | _ => cases e
theorem si_zip {elts : List Expr} {kk : Nat} {tpos : Pos} (hg : L2.Gl X "zip") (hm : X.mg "zip" = none) (hn : noStar ea = true) (hn2 : noStar eb = true) (ha : SE X G F ea a) (hb : SE X G F eb b) :
    SI X G F (.Tuple elts kk tpos) (.Call (.Name "zip" p) [ea, eb] [] pos) (.zip a b) := by
  refine pi_wk (pi_zip hg hm (L2.pa_cons ha (L2.pa_cons hb L2.pa_nil (star_cons hn2)) (star_cons hn)) hn hn2) fun σc H Q q => ?_
  obtain ⟨φ, h, σ, s, h', R, rs, e, k⟩ := q
  unfold evi at e
  obtain ⟨⟨x, h1⟩, e1, e⟩ := Res.bind_inv e
  obtain ⟨⟨y, h2⟩, e2, e⟩ := Res.bind_inv e
  refine tE_seq2 R rs e1 e2 fun φ2 H2 xc yc x2 R2 r1 r2 => ?_
  cases x with
  | ref i =>
    cases y with
    | ref j =>
      dsimp only at e
      split at e
      · rename_i xs ys ex ey
        cases e
        obtain ⟨a', zs, hq, hs, rz⟩ := R2.lst ex
        obtain ⟨b', ws, hq', hs', rz'⟩ := R2.lst ey
        obtain ⟨a2, rfl, ha2⟩ := rv_ref r1
        obtain ⟨b2, rfl, hb2⟩ := rv_ref r2
        rw [hq] at ha2; cases ha2
        rw [hq'] at hb2; cases hb2
        exact ⟨_, _, rfl, ⟨zs, hs⟩, ⟨ws, hs'⟩, k φ2 H2 _ x2 R2 ⟨_, _, hq, hq', rfl⟩⟩
      · cases e
    | _ => cases e
  | _ => cases e
end
end PI

set_option Elab.async false
set_option linter.all false
set_option maxRecDepth 100000
set_option maxHeartbeats 4000000
namespace PI
open PySem PySem.Spec PyProof.Rows PySem.SeqAt
open L2 (V Hp HO Cx PE PT PA PS PSs PG PGs PW TE TT TA TS TG TGs VK upd upd_same upd_ne SqL SqT Same Inv RelV Vals EP TP AP SP OpR CallR R2 It Turn FpOk Itl Itt Ends)
section
variable {X : Cx} {G : List Addr} {F : Nat → List V → AH → RV}
theorem rv_fun {φ : List Addr} : ∀ {v w w' : V}, rv φ v w → rv φ v w' → w = w'
  | .ref _, w, w', h, g => by
    obtain ⟨a, e1, h1⟩ := rv_ref h
    obtain ⟨b, e2, g1⟩ := rv_ref g
    rw [h1] at g1
    cases g1
    rw [e1, e2]
  | .non, _, _, h, g => by rw [rv_non h, rv_non g]
  | .bl _, _, _, h, g => by rw [rv_bl h, rv_bl g]
  | .int _, _, _, h, g => by rw [rv_int h, rv_int g]
  | .str _, _, _, h, g => by rw [rv_str h, rv_str g]
  | .byt _, w, _, h, _ => by cases w <;> exact False.elim h
  | .flt _, w, _, h, _ => by cases w <;> exact False.elim h
  | .ty _, w, _, h, _ => by cases w <;> exact False.elim h
theorem rvs_fun {φ : List Addr} : ∀ {vs ws us : List V}, rvs φ vs ws → rvs φ vs us → ws = us
  | _, _, _, .nil, .nil => rfl
  | _, _, _, .cons r t, .cons r' t' => by rw [rv_fun r r', rvs_fun t t']
theorem inner_rst {φ : List Addr} {σ σc : St} (r : rst φ σ σc) : ∀ src, rst φ (L2.inner src σ) (L2.inner src σc)
  | [] => .nil
  | none :: src => .cons trivial (inner_rst r src)
  | some j :: src => by
    refine .cons ?_ (inner_rst r src)
    show ropt φ (σ[j]?).join (σc[j]?).join
    cases e : σ[j]? with
    | none => exact trivial
    | some o =>
      cases o with
      | none => exact trivial
      | some v =>
        obtain ⟨oc, ec, r'⟩ := paired_get r e
        obtain ⟨w, rfl, r'⟩ := r'
        rw [ec]
        exact ⟨w, rfl, r'⟩
variable (X G F) in
abbrev SC (ifs : List Expr) (c : Es) : Prop := L2.PTs X ifs (tB X.K G (evc F c))
theorem sc_nil : SC X G F [] .nil := by
  intro pins s σ H Q I q
  obtain ⟨φ, h, σa, b, h', R, rs, e, k⟩ := q
  unfold evc at e
  cases e
  exact L2.pts_nil pins s σ H Q I (k φ H (.refl _) R)
theorem sc_one {c : Expr} {a : E} (hc : ST X G F c a) : SC X G F [c] (.cons a .nil) := by
  intro pins s σ H Q I q
  obtain ⟨φ, h, σa, b, h', R, rs, e, k⟩ := q
  unfold evc at e
  exact L2.pts_one hc pins s σ H Q I ⟨φ, h, σa, b, h', R, rs, e, k⟩

/-- a comprehension's reading from its meaning -/
theorem comp_wk {it : Itr} {src : List (Option Nat)} {g : Tg} {c : Es} {e : E} {σc : St} {H : Hp} {Q : VK} (q : tE X.K G F (.comp it src g c e) σc H Q) :
    L2.tComp (tI G F X.K it) src (tG X.K G g) (tB X.K G (evc F c)) (tE X.K G F e) σc H Q := by
  obtain ⟨φ, h, σ, v, h', R, rs, ee, k⟩ := q
  unfold ev at ee
  obtain ⟨⟨s, h1⟩, e1, ee⟩ := Res.bind_inv ee
  refine ⟨φ, h, σ, s, h1, R, rs, e1, fun φ1 H1 J x1 R1 j1 => ?_⟩
  dsimp only at ee
  split at ee
  · rename_i n hn
    intro D hD
    have R2 : Rl X.K G (φ1 ++ [D]) (h1 ++ [.lst false []]) (upd H1 D (.lst [])) := R1.newL hD .nil
    have hDφ : (φ1 ++ [D])[h1.length]? = some D := R1.lastRef
    refine ⟨fun i m ys σ' H' => ∃ φ' h2 σa ya, Ext (φ1 ++ [D]) φ' ∧ Rl X.K G φ' h2 H' ∧ rst φ' σa σ' ∧ rvs φ' ya ys ∧ h2[h1.length]? = some (.lst false ya) ∧ compL s g (evc F c) (ev F e) h1.length m i ya σa h2 = .ok (v, h'),
      ⟨n, φ1 ++ [D], _, _, [], .refl _, R2, inner_rst (rst.mono (x1.trans ⟨[D], rfl⟩) rs) src, .nil, by simp, ee⟩, ?_⟩
    rintro i m ys σ' H' ⟨φ', h2, σa, ya, x2, Ra, rsa, rya, hya, ec⟩ hys
    have jj : IsJ X.K φ' s J := j1.mono (Ext.trans ⟨[D], rfl⟩ x2)
    have hDφ' := x2.get hDφ
    cases m with
    | zero =>
      unfold compL at ec
      split at ec
      · rename_i hst
        cases ec
        exact .inl ⟨jj.stop Ra hst, k φ' H' _ ((x1.trans ⟨[D], rfl⟩).trans x2) Ra hDφ'⟩
      · cases ec
    | succ m =>
      unfold compL at ec
      split at ec
      · rename_i x h3 hy
        split at ec
        · rename_i σ3 hst
          refine .inr ⟨jj.go Ra hy, fun xv H2 hyl => ?_⟩
          obtain ⟨φ3, x3, R3, rx⟩ := jj.yld Ra hy hyl
          refine ⟨φ3, h3, σa, x, σ3, R3, rst.mono x3 rsa, rx, hst, fun σc3 rs3 => ?_⟩
          obtain ⟨⟨t, h4⟩, e4, ec⟩ := Res.bind_inv ec
          refine ⟨φ3, h3, σ3, t, h4, R3, rs3, e4, fun φ4 H4 x4 R4 => ?_⟩
          dsimp only at ec
          cases t with
          | true =>
            rw [if_pos rfl] at ec ⊢
            obtain ⟨⟨y, h5⟩, e5, ec⟩ := Res.bind_inv ec
            refine ⟨φ4, h4, σ3, y, h5, R4, rst.mono x4 rs3, e5, fun φ5 H5 yc x5 R5 r5 => ?_⟩
            dsimp only at ec
            split at ec
            · rename_i hc5
              have xx : Ext φ' φ5 := x3.trans (x4.trans x5)
              have hD5 := xx.get hDφ'
              obtain ⟨zs, hz, rz⟩ := R5.obj _ _ D hc5.1 hD5
              have ez : zs = ys := rvs_fun rz (rvs.mono xx rya)
              subst ez
              refine ⟨hz, by rw [← Paired.length rz]; exact Nat.lt_trans hc5.2 lim_lt, m, Nat.lt_succ_self _, φ5, _, σ3, _, x2.trans xx, R5.set hc5.1 hD5 (paired_append rz (.cons r5 .nil)), rst.mono (x4.trans x5) rs3, paired_append rz (.cons r5 .nil), ?_, ec⟩
              rw [List.getElem?_set_self (List.getElem?_eq_some_iff.mp hc5.1).1]
            · cases ec
          | false =>
            rw [if_neg (by decide)] at ec ⊢
            split at ec
            · rename_i hc4
              have xx : Ext φ' φ4 := x3.trans x4
              have hD4 := xx.get hDφ'
              obtain ⟨zs, hz, rz⟩ := R4.obj _ _ D hc4 hD4
              have ez : zs = ys := rvs_fun rz (rvs.mono xx rya)
              subst ez
              exact ⟨hz, m, Nat.lt_succ_self _, φ4, _, σ3, _, x2.trans xx, R4, rst.mono x4 rs3, rz, hc4, ec⟩
            · cases ec
        · cases ec
      · cases ec
  · cases ee
end
end PI

set_option Elab.async false
set_option linter.all false
set_option maxRecDepth 100000
set_option maxHeartbeats 4000000
namespace PI
open PySem PySem.Spec PyProof.Rows PySem.SeqAt
open L2 (V Hp HO Cx PE PT PA PS PSs PG PGs PW TE TT TA TS TG TGs VK upd upd_same upd_ne SqL SqT Same Inv RelV Vals EP TP AP SP OpR CallR R2 It Turn FpOk Itl Itt Ends)
section
variable {X : Cx} {G : List Addr} {F : Nat → List V → AH → RV} {a b c : E} {ea eb ec tg : Expr} {pos : Pos}
theorem se_comp {iter elt : Expr} {ifs : List Expr} {scope : Scope} {N : List Str} {it : Itr} {src : List (Option Nat)} {g : Tg} {cs : Es} {e : E} (hc : X.calm = true) (hi : SI X G F tg iter it) (S : L2.CompScope X scope N src)
    (hg : ∀ C fp s H, SG (L2.cxComp X scope C fp s H N) G tg g) (ht : ∀ C fp s H, SC (L2.cxComp X scope C fp s H N) G F ifs cs) (he : ∀ C fp s H, SE (L2.cxComp X scope C fp s H N) G F elt e)
    (hs : ∀ x, foldedSetIterable iter X.env x = pure x) : SE X G F (.ListComp elt [⟨tg, iter, ifs, 0⟩] scope pos) (.comp it src g cs e) :=
  pe_wk (L2.pe_comp hc hi S hg ht he hs) fun _ _ _ => comp_wk

def Post (K : PySem.W.Frag) (G : List Addr) (D : Ends) (φ : List Addr) (o : Out) (h' : AH) : Prop := ∀ φ' H', Ext φ φ' → Rl K G φ' h' H' → match o with
  | .nx σ => ∀ σc, rst φ' σ σc → D.nx σc H'
  | .rt v => ∀ w, rv φ' v w → D.rt w H'
  | .bk σ => ∀ σc, rst φ' σ σc → D.bk σc H'
  | .ct σ => ∀ σc, rst φ' σ σc → D.ct σc H'
theorem Post.mono {K : PySem.W.Frag} {D : Ends} {φ φ1 : List Addr} {o : Out} {h' : AH} (x : Ext φ φ1) (p : Post K G D φ o h') : Post K G D φ1 o h' := fun φ' H' x' R => p φ' H' (x.trans x') R
def tS (K : PySem.W.Frag) (G : List Addr) (r : St → AH → RS) : TS := fun D σc H => ∃ φ h σ o h', Rl K G φ h H ∧ rst φ σ σc ∧ r σ h = .ok (o, h') ∧ Post K G D φ o h'
variable (X G F) in
abbrev SS (st : Stmt) (s : S) : Prop := PS X st (tS X.K G (ex F s))
variable (X G F) in
abbrev SSs (st : List Stmt) (s : Ss) : Prop := PSs X st (tS X.K G (exs F s))
theorem ps_wk {e : Stmt} {t t' : TS} (h : PS X e t) (w : ∀ D σ H, t' D σ H → t D σ H) : PS X e t' := fun pins s σ H D I q => h pins s σ H D I (w D σ H q)
theorem pss_wk {e : List Stmt} {t t' : TS} (h : PSs X e t) (w : ∀ D σ H, t' D σ H → t D σ H) : PSs X e t' := fun pins s σ H D I q => h pins s σ H D I (w D σ H q)

theorem ss_stop {st : Stmt} : SS X G F st .stop := by
  intro pins s σ H D I q
  obtain ⟨φ, h, σa, o, h', R, rs, e, k⟩ := q
  unfold ex at e
  cases e

/-! ### assignments -/
def noComp : Expr → Bool
  | .ListComp .. => false
  | .SetComp .. => false
  | .DictComp .. => false
  | _ => true
def noTup : Expr → Bool
  | .Tuple .. => false
  | _ => true
theorem swaps_plain {e : Expr} {t : Option Expr} {l : Nat} {env : Env} (h : noComp e = true) : swapsWith e t l env = pure false := by
  cases e <;> first | rfl | cases h
theorem swaps_sole {e t : Expr} {l : Nat} {env : Env} (h : noComp e = true) : swapsWithSole [t] e l env = pure false := swaps_plain h
theorem tE_mono {K : PySem.W.Frag} {σ : St} {H : Hp} {Q Q' : VK} (q : tE K G F a σ H Q) (w : ∀ v H, Q v H → Q' v H) : tE K G F a σ H Q' := by
  obtain ⟨φ, h, σa, v, h', R, rs, e, k⟩ := q
  exact ⟨φ, h, σa, v, h', R, rs, e, fun φ' H' u x' R' r' => w u H' (k φ' H' u x' R' r')⟩
theorem asg_wk {g : Tg} {D : Ends} {σc : St} {H : Hp} (q : tS X.K G (ex F (.asg g a)) D σc H) : L2.tAsg (tE X.K G F a) (tG X.K G g) D σc H := by
  obtain ⟨φ, h, σ, o, h', R, rs, e, k⟩ := q
  unfold ex at e
  obtain ⟨⟨x, h1⟩, e1, e⟩ := Res.bind_inv e
  dsimp only at e
  split at e
  · rename_i σ1 es
    cases e
    exact ⟨φ, h, σ, x, _, R, rs, e1, fun φ1 H1 w x1 R1 r1 => ⟨φ1, _, σ, x, σ1, R1, rst.mono x1 rs, r1, es, fun σc' rs' => k φ1 H1 x1 R1 σc' rs'⟩⟩
  · cases e
theorem ss_name {i : Nat} {n : Str} {p : Pos} (hN : X.N.Nodup) (hi : X.N[i]? = some n) (hx : L2.Loc X.env.scope n) (hf : X.fn n = true ∨ X.env.scope.names.lookup n = some .local) (ha : SE X G F ea a) (hc : noComp ea = true) :
    SS X G F (.Assign [.Name n p] ea pos) (.asg (.name i) a) :=
  ps_wk (L2.ps_asg ha (sg_name hN hi hx hf) (swaps_sole hc) (by cases ea <;> rfl) rfl) fun _ _ _ => asg_wk
theorem ss_tup {is : List Nat} {es : List Expr} {kk : Nat} {p : Pos} (hg : SG X G (.Tuple es kk p) (.tup is)) (ha : SE X G F ea a) (hc : noComp ea = true) (ht : noTup ea = true) :
    SS X G F (.Assign [.Tuple es kk p] ea pos) (.asg (.tup is) a) :=
  ps_wk (L2.ps_asg ha hg (swaps_sole hc) (by cases ea <;> first | rfl | cases ht) rfl) fun _ _ _ => asg_wk
/-- name = [..] -/
theorem ss_comp {iter elt : Expr} {ifs : List Expr} {scope : Scope} {N : List Str} {it : Itr} {src : List (Option Nat)} {g : Tg} {cs : Es} {e : E} {i : Nat} {n : Str} {p cpos : Pos} (hc : X.calm = true) (hi : SI X G F tg iter it) (S : L2.CompScope X scope N src)
    (hg : ∀ C fp s H, SG (L2.cxComp X scope C fp s H N) G tg g) (ht : ∀ C fp s H, SC (L2.cxComp X scope C fp s H N) G F ifs cs) (he : ∀ C fp s H, SE (L2.cxComp X scope C fp s H N) G F elt e)
    (hs : ∀ x, foldedSetIterable iter X.env x = pure x) (hN : X.N.Nodup) (hn : X.N[i]? = some n) (hx : L2.Loc X.env.scope n) (hf : X.fn n = true ∨ X.env.scope.names.lookup n = some .local) :
    SS X G F (.Assign [.Name n p] (.ListComp elt [⟨tg, iter, ifs, 0⟩] scope cpos) pos) (.asg (.name i) (.comp it src g cs e)) := by
  have hsw : swapsWith (.ListComp elt [⟨tg, iter, ifs, 0⟩] scope cpos) (some (.Name n p)) pos.line X.env = pure (X.env.blockKind == .function && X.env.kindOf n == some .local && p.line == (Expr.ListComp elt [⟨tg, iter, ifs, 0⟩] scope cpos).pos.line
      && !(scope.names.any fun (m, k) => m == n && (k == .local || k == .cell))) := rfl
  generalize hb : (X.env.blockKind == .function && X.env.kindOf n == some .local && p.line == (Expr.ListComp elt [⟨tg, iter, ifs, 0⟩] scope cpos).pos.line
      && !(scope.names.any fun (m, k) => m == n && (k == .local || k == .cell))) = bb at hsw
  cases bb with
  | true =>
    have hl : X.env.scope.names.lookup n = some .local := by
      simp only [Bool.and_eq_true] at hb
      have z : X.env.kindOf n = some .local := by simpa using hb.1.1.2
      exact z
    refine ps_wk (L2.ps_setcomp (i := i) (g := tG X.K G g) (tc := tB X.K G (evc F cs)) (te := tE X.K G F e) hc hi S hg ht he hsw hN hn hl hs) fun D σc H q => ?_
    refine comp_wk (tE_mono (asg_wk q) fun v H1 z => ?_)
    obtain ⟨φ, h, σ, w, σ', R, rs, r, es, k⟩ := z
    unfold store at es
    cases es
    exact k _ (paired_set (R := ropt φ) (show ropt φ (some w) (some v) from ⟨v, rfl, r⟩) i rs)
  | false => exact ps_wk (L2.ps_asg (se_comp hc hi S hg ht he hs) (sg_name hN hn hx hf) hsw rfl rfl) fun _ _ _ => asg_wk
theorem ss_put {eo ei : Expr} {o i : E} {p : Pos} (ho : SE X G F eo o) (hi : SE X G F ei i) (ha : SE X G F ea a) (hc : noComp ea = true) (hsl : noSlice ei = true) : SS X G F (.Assign [.Subscript eo ei p] ea pos) (.put o i a) := by
  refine ps_wk (L2.ps_asg ha (L2.pg_sub ho hi L2.set_list (fun v => by cases ei <;> first | rfl | cases hsl)) (swaps_sole hc) (by cases ea <;> rfl) rfl) fun D σc H q => ?_
  obtain ⟨φ, h, σ, out, h', R, rs, e, k⟩ := q
  unfold ex at e
  obtain ⟨⟨x, h1⟩, e1, e⟩ := Res.bind_inv e
  obtain ⟨⟨p1, h2⟩, e2, e⟩ := Res.bind_inv e
  obtain ⟨⟨k1, h3⟩, e3, e⟩ := Res.bind_inv e
  refine ⟨φ, h, σ, x, h1, R, rs, e1, fun φ1 H1 w x1 R1 r1 => ?_⟩
  refine ⟨φ1, h1, σ, p1, h2, R1, rst.mono x1 rs, e2, fun φ2 H2 w2 x2 R2 r2 => ?_⟩
  refine ⟨φ2, h2, σ, k1, h3, R2, rst.mono (x1.trans x2) rs, e3, fun φ3 H3 w3 x3 R3 r3 => ?_⟩
  cases p1 with
  | ref q =>
    cases k1 with
    | int j =>
      dsimp only at e
      split at e
      · rename_i xs ex1
        split at e
        · rename_i jj ej
          cases e
          obtain ⟨q1, a', zs, ha', hH, rz⟩ := R3.mut ex1
          obtain ⟨a2, rfl, ha2⟩ := rv_ref (rv.mono x3 r2)
          rw [ha'] at ha2; cases ha2
          cases rv_int r3
          refine ⟨_, zs, j, jj, rfl, rfl, hH, by rw [← Paired.length rz]; exact ej, ?_⟩
          have xx : Ext φ φ3 := x1.trans (x2.trans x3)
          exact k φ3 _ xx (R3.set q1 ha' (paired_set (rv.mono (x2.trans x3) r1) jj rz)) σc (rst.mono xx rs)
        · cases e
      · cases e
    | _ => cases e
  | _ => cases e
theorem ss_expr (ha : SE X G F ea a) (hc : noComp ea = true) : SS X G F (.Expr ea pos) (.expr a) := by
  refine ps_wk (L2.ps_expr ha (swaps_plain hc)) fun D σc H q => ?_
  obtain ⟨φ, h, σ, out, h', R, rs, e, k⟩ := q
  unfold ex at e
  obtain ⟨⟨x, h1⟩, e1, e⟩ := Res.bind_inv e
  cases e
  exact ⟨φ, h, σ, x, _, R, rs, e1, fun φ1 H1 w x1 R1 r1 => k φ1 H1 x1 R1 σc (rst.mono x1 rs)⟩
theorem ss_ret (ha : SE X G F ea a) : SS X G F (.Return (some ea) pos) (.ret a) := by
  refine ps_wk (L2.ps_ret ha) fun D σc H q => ?_
  obtain ⟨φ, h, σ, out, h', R, rs, e, k⟩ := q
  unfold ex at e
  obtain ⟨⟨x, h1⟩, e1, e⟩ := Res.bind_inv e
  cases e
  exact ⟨φ, h, σ, x, _, R, rs, e1, fun φ1 H1 w x1 R1 r1 => k φ1 H1 x1 R1 w r1⟩
theorem ss_retN : SS X G F (.Return none pos) .retN := by
  refine ps_wk L2.ps_retN fun D σc H q => ?_
  obtain ⟨φ, h, σ, out, h', R, rs, e, k⟩ := q
  unfold ex at e
  cases e
  exact k φ H (.refl _) R .non trivial
theorem ss_pass : SS X G F (.Pass pos) .pass := by
  refine ps_wk L2.ps_pass fun D σc H q => ?_
  obtain ⟨φ, h, σ, out, h', R, rs, e, k⟩ := q
  unfold ex at e
  cases e
  exact k φ H (.refl _) R σc rs
theorem ss_brk : SS X G F (.Break pos) .brk := by
  refine ps_wk L2.ps_break fun D σc H q => ?_
  obtain ⟨φ, h, σ, out, h', R, rs, e, k⟩ := q
  unfold ex at e
  cases e
  exact k φ H (.refl _) R σc rs
theorem ss_cont : SS X G F (.Continue pos) .cont := by
  refine ps_wk L2.ps_continue fun D σc H q => ?_
  obtain ⟨φ, h, σ, out, h', R, rs, e, k⟩ := q
  unfold ex at e
  cases e
  exact k φ H (.refl _) R σc rs
theorem sss_nil : SSs X G F [] .nil := by
  refine pss_wk L2.pss_nil fun D σc H q => ?_
  obtain ⟨φ, h, σ, out, h', R, rs, e, k⟩ := q
  unfold exs at e
  cases e
  exact k φ H (.refl _) R σc rs
theorem sss_cons {st : Stmt} {sts : List Stmt} {s : S} {ss : Ss} (h1 : SS X G F st s) (h2 : SSs X G F sts ss) : SSs X G F (st :: sts) (.cons s ss) := by
  refine pss_wk (L2.pss_cons h1 h2) fun D σc H q => ?_
  obtain ⟨φ, h, σ, out, h', R, rs, e, k⟩ := q
  unfold exs at e
  obtain ⟨⟨o, h1⟩, e1, e⟩ := Res.bind_inv e
  refine ⟨φ, h, σ, o, h1, R, rs, e1, fun φ1 H1 x1 R1 => ?_⟩
  cases o with
  | nx σ1 => exact fun σc1 rs1 => ⟨φ1, h1, σ1, out, h', R1, rs1, e, k.mono x1⟩
  | rt v => cases e; exact k φ1 H1 x1 R1
  | bk σ1 => cases e; exact k φ1 H1 x1 R1
  | ct σ1 => cases e; exact k φ1 H1 x1 R1
theorem ss_ifs {t u : List Stmt} {st su : Ss} (hc : ST X G F ec c) (ht : SSs X G F t st) (hu : SSs X G F u su) : SS X G F (.If ec t u pos) (.ifs c st su) := by
  refine ps_wk (L2.ps_if hc ht hu) fun D σc H q => ?_
  obtain ⟨φ, h, σ, out, h', R, rs, e, k⟩ := q
  unfold ex at e
  obtain ⟨⟨x, h1⟩, e1, e⟩ := Res.bind_inv e
  refine ⟨φ, h, σ, x, h1, R, rs, e1, fun φ1 H1 x1 R1 => ?_⟩
  dsimp only at e
  cases x with
  | true =>
    rw [if_pos rfl] at e ⊢
    exact ⟨φ1, h1, σ, out, h', R1, rst.mono x1 rs, e, k.mono x1⟩
  | false =>
    rw [if_neg (by decide)] at e ⊢
    exact ⟨φ1, h1, σ, out, h', R1, rst.mono x1 rs, e, k.mono x1⟩
theorem ss_for {iter : Expr} {body : List Stmt} {it : Itr} {g : Tg} {sb : Ss} (hx : X.xe = fun _ _ => False) (hc : X.calm = true) (hi : SI X G F tg iter it) (hg : SG X G tg g) (hb : SSs X G F body sb)
    (hs : ∀ x, foldedSetIterable iter X.env x = pure x) : SS X G F (.For tg iter body [] pos) (.for_ g it sb) := by
  refine ps_wk (L2.ps_for (by rw [hx]; exact PassesOwn.never) hc hi hg hb hs) fun D σc H q => ?_
  obtain ⟨φ, h, σ, out, h', R, rs, e, k⟩ := q
  unfold ex at e
  obtain ⟨⟨s, h1⟩, e1, e⟩ := Res.bind_inv e
  refine ⟨φ, h, σ, s, h1, R, rs, e1, fun φ1 H1 J x1 R1 j1 => ?_⟩
  dsimp only at e
  split at e
  · rename_i n hn
    refine ⟨fun i m σ' H' => ∃ φ' h2 σa, Ext φ1 φ' ∧ Rl X.K G φ' h2 H' ∧ rst φ' σa σ' ∧ forL s g (exs F sb) m i σa h2 = .ok (out, h'), ⟨n, φ1, h1, σ, .refl _, R1, rst.mono x1 rs, e⟩, ?_⟩
    rintro i m σ' H' ⟨φ', h2, σa, x2, Ra, rsa, ef⟩
    have jj : IsJ X.K φ' s J := j1.mono x2
    cases m with
    | zero =>
      unfold forL at ef
      split at ef
      · rename_i hst
        cases ef
        exact .inl ⟨jj.stop Ra hst, k φ' H' (x1.trans x2) Ra σ' rsa⟩
      · cases ef
    | succ m =>
      unfold forL at ef
      split at ef
      · rename_i x h3 hy
        split at ef
        · rename_i σ3 hst
          refine .inr ⟨jj.go Ra hy, fun σ' H' => ∃ φ' h2 σa, Ext φ1 φ' ∧ Rl X.K G φ' h2 H' ∧ rst φ' σa σ' ∧ forL s g (exs F sb) m (i + 1) σa h2 = .ok (out, h'), fun σ2 H2 w => ⟨m, Nat.lt_succ_self _, w⟩, fun xv H2 hyl => ?_⟩
          obtain ⟨φ3, x3, R3, rx⟩ := jj.yld Ra hy hyl
          refine ⟨φ3, h3, σa, x, σ3, R3, rst.mono x3 rsa, rx, hst, fun σc3 rs3 => ?_⟩
          obtain ⟨⟨o, h4⟩, e4, ef⟩ := Res.bind_inv ef
          refine ⟨φ3, h3, σ3, o, h4, R3, rs3, e4, fun φ4 H4 x4 R4 => ?_⟩
          dsimp only at ef
          cases o with
          | nx σ4 => exact fun σc4 rs4 => ⟨φ4, h4, σ4, x2.trans (x3.trans x4), R4, rs4, ef⟩
          | ct σ4 => exact fun σc4 rs4 => ⟨φ4, h4, σ4, x2.trans (x3.trans x4), R4, rs4, ef⟩
          | bk σ4 => cases ef; exact k φ4 H4 (x1.trans (x2.trans (x3.trans x4))) R4
          | rt v => cases ef; exact k φ4 H4 (x1.trans (x2.trans (x3.trans x4))) R4
        · cases ef
      · cases ef
  · cases e
theorem ss_while {body : List Stmt} {sb : Ss} (hx : X.xe = fun _ _ => False) (hc : ST X G F ec c) (hb : SSs X G F body sb) : SS X G F (.While ec body [] pos) (.while_ c sb) := by
  refine ps_wk (L2.ps_while (by rw [hx]; exact PassesOwn.never) hc hb) fun D σc H q => ?_
  obtain ⟨φ, h, σ, out, h', R, rs, e, k⟩ := q
  unfold ex at e
  refine ⟨fun m σ' H' => ∃ φ' h2 σa, Ext φ φ' ∧ Rl X.K G φ' h2 H' ∧ rst φ' σa σ' ∧ whileL (fun σ h => asB (ev F c σ h)) (exs F sb) m σa h2 = .ok (out, h'), ⟨wlim, φ, h, σ, .refl _, R, rs, e⟩, ?_⟩
  rintro m σ' H' ⟨φ', h2, σa, x2, Ra, rsa, ew⟩
  cases m with
  | zero => unfold whileL at ew; cases ew
  | succ m =>
    unfold whileL at ew
    obtain ⟨⟨t, h3⟩, e3, ew⟩ := Res.bind_inv ew
    refine ⟨φ', h2, σa, t, h3, Ra, rsa, e3, fun φ3 H3 x3 R3 => ?_⟩
    dsimp only at ew
    cases t with
    | true =>
      rw [if_pos rfl] at ew ⊢
      obtain ⟨⟨o, h4⟩, e4, ew⟩ := Res.bind_inv ew
      refine ⟨fun σ' H' => ∃ φ' h2 σa, Ext φ φ' ∧ Rl X.K G φ' h2 H' ∧ rst φ' σa σ' ∧ whileL (fun σ h => asB (ev F c σ h)) (exs F sb) m σa h2 = .ok (out, h'), fun σ2 H2 w => ⟨m, Nat.lt_succ_self _, w⟩, φ3, h3, σa, o, h4, R3, rst.mono x3 rsa, e4, fun φ4 H4 x4 R4 => ?_⟩
      dsimp only at ew
      cases o with
      | nx σ4 => exact fun σc4 rs4 => ⟨φ4, h4, σ4, x2.trans (x3.trans x4), R4, rs4, ew⟩
      | ct σ4 => exact fun σc4 rs4 => ⟨φ4, h4, σ4, x2.trans (x3.trans x4), R4, rs4, ew⟩
      | bk σ4 => cases ew; exact k φ4 H4 (x2.trans (x3.trans x4)) R4
      | rt v => cases ew; exact k φ4 H4 (x2.trans (x3.trans x4)) R4
    | false =>
      rw [if_neg (by decide)] at ew ⊢
      cases ew
      exact k φ3 H3 (x2.trans x3) R3 σ' (rst.mono x3 rsa)
end
end PI

set_option Elab.async false
set_option linter.all false
set_option maxRecDepth 100000
set_option maxHeartbeats 4000000
/-! The text's syntax into our language. -/
namespace PI
open PySem PySem.Spec PyProof.Rows
open L2 (V)

structure Gam where
  N : List Str
  sc : Scope
  fns : List Str
  gl : List (Str × E)
  bl : List Str
  own : Bool

def slot (N : List Str) (x : Str) : Option Nat := (List.range N.length).find? fun i => N[i]? == some x
theorem slot_ok {N : List Str} {x : Str} {i : Nat} (h : slot N x = some i) : N[i]? = some x := by
  unfold slot at h
  simpa using List.find?_some h
def visB (sc : Scope) (x : Str) : Bool := match sc.names.lookup x with | some .local => true | some .cell => true | some .free => true | _ => false
def locB (sc : Scope) (x : Str) : Bool := match sc.names.lookup x with | some .local => true | some .cell => true | _ => false
theorem visB_ok {sc : Scope} {x : Str} (h : visB sc x = true) : L2.Vis sc x := by
  unfold visB at h
  unfold L2.Vis
  split at h <;> first | (rename_i e; simp [e]) | cases h
theorem locB_ok {sc : Scope} {x : Str} (h : locB sc x = true) : L2.Loc sc x := by
  unfold locB at h
  unfold L2.Loc
  split at h <;> first | (rename_i e; simp [e]) | cases h
def glB (sc : Scope) (x : Str) : Bool := sc.names.lookup x == some .globalImplicit
/-- no odd name -/
def okN (x : Str) : Bool := !(x == ("__debug__" : Str)) && !(x == ("__classdict__" : Str)) && !decide (x = "__name__")
def bops : Operator → Option BOp
  | .Add => some .add | .Sub => some .sub | .Mult => some .mul | .FloorDiv => some .fdiv | .Mod => some .mod | .Pow => some .pow | .BitAnd => some .band | _ => none
theorem bops_ok {o : Operator} {b : BOp} (h : bops o = some b) : o = opB b := by
  cases o <;> cases h <;> rfl
def cops : CmpOp → COp
  | .Lt => .lt | .LtE => .le | .Gt => .gt | .GtE => .ge | .Eq => .eq | .NotEq => .ne | .In => .inn | .NotIn => .notin | .Is => .is | .IsNot => .isnot
theorem cops_ok (o : CmpOp) : o = opC (cops o) := by cases o <;> rfl
def noSet : Expr → Bool
  | .Set .. => false
  | _ => true
def noCall : Expr → Bool
  | .Call .. => false
  | _ => true
def bfOf (x : Str) : Option BF :=
  if x = "len" then some .len else if x = "sum" then some .sum else if x = "all" then some .all else if x = "any" then some .any else if x = "max" then some .max else if x = "min" then some .min else if x = "abs" then some .abs
  else if x = "list" then some .list else if x = "int" then some .int else none
theorem bfOf_ok {x : Str} {f : BF} (h : bfOf x = some f) : bootBuiltins x = some (fnB f) := by
  unfold bfOf at h
  repeat' split at h
  all_goals first | cases h | skip
  all_goals (rename_i hx; subst hx)
  · exact PySem.boot_len
  · exact PyProof.Rows.boot_sum
  · exact PyProof.Rows.boot_all
  · exact PyProof.Rows.boot_any
  · exact PyProof.Rows.boot_max
  · exact PyProof.Rows.boot_min
  · exact PyProof.Rows.boot_abs
  · exact PyProof.Rows.boot_list
  · exact PyProof.Rows.boot_int
def tyOf (x : Str) : Option String :=
  if x = "int" then some "int" else if x = "bool" then some "bool" else if x = "list" then some "list" else if x = "tuple" then some "tuple" else if x = "str" then some "str" else if x = "dict" then some "dict" else none
theorem tyOf_ok {x : Str} {t : String} (h : tyOf x = some t) : bootBuiltins x = some (.type t) ∧ knownT t = true := by
  unfold tyOf at h
  repeat' split at h
  all_goals first | cases h | skip
  all_goals (rename_i hx; subst hx)
  · exact ⟨PyProof.Rows.boot_int, by decide⟩
  · exact ⟨PyProof.Rows.boot_bool, by decide⟩
  · exact ⟨PyProof.Rows.boot_list, by decide⟩
  · exact ⟨PyProof.Rows.boot_tuple, by decide⟩
  · exact ⟨PyProof.Rows.boot_str, by decide⟩
  · exact ⟨PyProof.Rows.boot_dict, by decide⟩

/-- the scope of a comprehension as it runs -/
def relS (scope sc : Scope) : Scope :=
  { scope with names := scope.names.map fun (n, k) => if (k == .free && sc.kind == .function && sc.names.lookup n == some .cell) then (n, .cell) else (n, k) }
def tgNames : Expr → List Str
  | .Name x _ => [x]
  | .Tuple es _ _ => es.filterMap fun e : Expr => match e with | .Name x _ => some x | _ => none
  | _ => []
def freeN (scope : Scope) : List Str := scope.names.filterMap fun y => if y.2 = .free then some y.1 else none
def chkComp (Γ : Gam) (scope : Scope) (N : List Str) (src : List (Option Nat)) : Bool :=
  decide (scope.kind = .function) && scope.names.all (fun y => decide (y.2 ≠ .cell)) && scope.names.all (fun y => decide (y.2 = .local → scope.names.lookup y.1 = some .local))
  && scope.names.all (fun y => decide (y.2 = .free → (Γ.sc.names.lookup y.1 = some .cell ∨ Γ.sc.names.lookup y.1 = some .free))) && decide N.Nodup && decide (src.length = N.length)
  && (List.range N.length).all (fun i => match N[i]?, src[i]? with | some x, some (some j) => decide (Γ.N[j]? = some x ∧ scope.names.lookup x = some .free) | _, _ => true)

def storeB (Γ : Gam) (x : Str) : Bool := match Γ.sc.names.lookup x with | some .local => true | some .cell => Γ.own | _ => false
def trTs (Γ : Gam) : List Expr → Option (List Nat)
  | [] => some []
  | .Name x _ :: r => if storeB Γ x then (match slot Γ.N x, trTs Γ r with | some i, some is => some (i :: is) | _, _ => none) else none
  | _ => none
def trT (Γ : Gam) : Expr → Option Tg
  | .Name x _ => if storeB Γ x then (slot Γ.N x).map .name else none
  | .Tuple es _ _ => (trTs Γ es).map .tup
  | _ => none

mutual
def trE : Nat → Gam → Expr → Option E
  | 0, _, _ => none
  | n + 1, Γ, e => match e with
    | .Constant (.int i) _ _ => some (.cst (.int i))
    | .Constant (.bool i) _ _ => some (.cst (.bl i))
    | .Constant .none _ _ => some (.cst .non)
    | .Constant (.str i) _ _ => some (.cst (.str i))
    | .Name x _ => if okN x then (if visB Γ.sc x then (slot Γ.N x).map .var else if glB Γ.sc x then Γ.gl.lookup x else none) else none
    | .BinOp a op b _ => match bops op, trE n Γ a, trE n Γ b with | some o, some a', some b' => some (.bin o a' b') | _, _, _ => none
    | .UnaryOp .USub a _ => (trE n Γ a).map .neg
    | .UnaryOp .Not a _ => (trE n Γ a).map .not
    | .BoolOp op vs p => trB n Γ op p vs
    | .IfExp c a b _ => match trE n Γ c, trE n Γ a, trE n Γ b with | some c', some a', some b' => some (.ite c' a' b') | _, _, _ => none
    | .Compare a [op] [b] _ => if noSet b then (match trE n Γ a, trE n Γ b with | some a', some b' => some (.cmp (cops op) a' b') | _, _ => none) else none
    | .Compare a [o1, o2] [b, c] _ => if noSet c then (match trE n Γ a, trE n Γ b, trE n Γ c with | some a', some b', some c' => some (.cmp2 (cops o1) (cops o2) a' b' c') | _, _, _ => none) else none
    | .Call (.Name f _) args [] _ => if okN f && glB Γ.sc f && args.all noStar then trC n Γ f args else none
    | .Call (.Attribute o m apos) [x] [] cpos => if m = "append" ∧ noCall o = true ∧ noStar x = true ∧ (apos.endLine == cpos.line) = true then (match trE n Γ o, trE n Γ x with | some o', some x' => some (.app o' x') | _, _ => none) else none
    | .Subscript a (.Slice lo hi none _) _ => match trE n Γ a, trO n Γ lo, trO n Γ hi with | some a', some l, some h => some (.sl a' l h) | _, _, _ => none
    | .Subscript a b _ => if noSlice b then (match trE n Γ a, trE n Γ b with | some a', some b' => some (.idx a' b') | _, _ => none) else none
    | .List es _ => if es.all noStar then (trA n Γ es).map .lst else none
    | .Tuple es _ _ => if es.all noStar then (trA n Γ es).map .tup else none
    | .ListComp elt [⟨tg, iter, ifs, 0⟩] scope _ =>
      let N := tgNames tg ++ freeN scope
      let src := (tgNames tg).map (fun _ => none) ++ (freeN scope).map (slot Γ.N)
      let Γ' : Gam := { Γ with N := N, sc := relS scope Γ.sc, own := false }
      if chkComp Γ scope N src && noSet iter then (match trI n Γ tg iter, trT Γ' tg, trIf n Γ' ifs, trE n Γ' elt with | some it, some g, some c, some e' => some (.comp it src g c e') | _, _, _, _ => none) else none
    | _ => none
def trA : Nat → Gam → List Expr → Option Es
  | 0, _, _ => none
  | _ + 1, _, [] => some .nil
  | n + 1, Γ, e :: es => match trE n Γ e, trA n Γ es with | some a, some as => some (.cons a as) | _, _ => none
def trB : Nat → Gam → BoolOp → Pos → List Expr → Option E
  | 0, _, _, _, _ => none
  | _ + 1, _, _, _, [] => none
  | n + 1, Γ, _, _, [a] => trE n Γ a
  | n + 1, Γ, op, p, a :: b :: r => match trE n Γ a, trB n Γ op p (b :: r) with | some a', some b' => some (match op with | .And => .and a' b' | .Or => .or a' b') | _, _ => none
def trC : Nat → Gam → Str → List Expr → Option E
  | 0, _, _, _ => none
  | n + 1, Γ, f, args => match slot Γ.fns f with
    | some i => (trA n Γ args).map (.call i)
    | none => if Γ.bl.contains f then
        (if f = "isinstance" then (match args with
          | [a, .Name t _] => if okN t && glB Γ.sc t && Γ.bl.contains t then (match trE n Γ a, tyOf t with | some a', some t' => some (.isi a' [t']) | _, _ => none) else none
          | _ => none)
        else match bfOf f, args with
          | some b, _ :: _ => (trA n Γ args).map (.blt b)
          | _, _ => none)
      else none
def trO : Nat → Gam → Option Expr → Option Es
  | 0, _, _ => none
  | _ + 1, _, none => some .nil
  | n + 1, Γ, some e => (trE n Γ e).map fun a => .cons a .nil
def trIf : Nat → Gam → List Expr → Option Es
  | 0, _, _ => none
  | _ + 1, _, [] => some .nil
  | n + 1, Γ, [c] => (trE n Γ c).map fun a => .cons a .nil
  | _, _, _ => none
def trI : Nat → Gam → Expr → Expr → Option Itr
  | 0, _, _, _ => none
  | n + 1, Γ, tg, iter => match iter with
    | .Call (.Name f _) args [] _ =>
      if f = "range" then (if glB Γ.sc f && Γ.bl.contains f && args.all noStar then (match args with
        | [a] => (trE n Γ a).map .rng1
        | [a, b] => match trE n Γ a, trE n Γ b with | some a', some b' => some (.rng2 a' b') | _, _ => none
        | _ => none) else none)
      else if f = "zip" then (if glB Γ.sc f && Γ.bl.contains f && args.all noStar then (match tg, args with
        | .Tuple .., [a, b] => match trE n Γ a, trE n Γ b with | some a', some b' => some (.zip a' b') | _, _ => none
        | _, _ => none) else none)
      else (trE n Γ iter).map .list
    | _ => (trE n Γ iter).map .list
end

mutual
def trS : Nat → Gam → Stmt → S
  | 0, _, _ => .stop
  | n + 1, Γ, st => match st with
    | .Assign [.Name x _] v _ => match trT Γ (.Name x ⟨0, 0, 0, 0⟩), trE 60 Γ v with | some g, some a => .asg g a | _, _ => .stop
    | .Assign [.Tuple es k p] v _ => if noComp v && noTup v then (match trT Γ (.Tuple es k p), trE 60 Γ v with | some g, some a => .asg g a | _, _ => .stop) else .stop
    | .Assign [.Subscript o i _] v _ => if noComp v && noSlice i then (match trE 60 Γ o, trE 60 Γ i, trE 60 Γ v with | some o', some i', some v' => .put o' i' v' | _, _, _ => .stop) else .stop
    | .Expr e _ => if noComp e then (match trE 60 Γ e with | some a => .expr a | none => .stop) else .stop
    | .Return (some e) _ => match trE 60 Γ e with | some a => .ret a | none => .stop
    | .Return none _ => .retN
    | .If c t u _ => match trE 60 Γ c with | some c' => .ifs c' (trSs n Γ t) (trSs n Γ u) | none => .stop
    | .For tg iter b [] _ => if noSet iter then (match trI 60 Γ tg iter, trT Γ tg with | some it, some g => .for_ g it (trSs n Γ b) | _, _ => .stop) else .stop
    | .While c b [] _ => match trE 60 Γ c with | some c' => .while_ c' (trSs n Γ b) | none => .stop
    | .Pass _ => .pass
    | .Break _ => .brk
    | .Continue _ => .cont
    | _ => .stop
def trSs : Nat → Gam → List Stmt → Ss
  | 0, _, _ => .cons .stop .nil
  | _ + 1, _, [] => .nil
  | n + 1, Γ, s :: r => .cons (trS n Γ s) (trSs n Γ r)
end
end PI

set_option Elab.async false
set_option linter.all false
set_option maxRecDepth 100000
set_option maxHeartbeats 4000000
namespace PI
open PySem PySem.Spec PyProof.Rows PySem.SeqAt
open L2 (V Hp HO Cx PE PT PA PS PSs PG PGs PW RelV)
structure Fit (Γ : Gam) (X : Cx) (G : List Addr) (F : Nat → List V → AH → RV) : Prop where
  hN : X.N = Γ.N
  nd : Γ.N.Nodup
  sc : X.env.scope = Γ.sc
  calm : X.calm = true
  fn : Γ.own = true → ∀ x, X.fn x = true
  fns : ∀ (f : Nat) x, Γ.fns[f]? = some x → FnS X G F f x
  gls : ∀ x e, Γ.gl.lookup x = some e → (∃ v u, e = .cst v ∧ X.mg x = some u ∧ RelV v u ∧ ∀ φ, rv φ v v) ∨ (∃ g a, e = .glob g ∧ X.mg x = some (.ref a) ∧ G[g]? = some a)
  blt : ∀ x, Γ.bl.contains x = true → X.mg x = none
  hu : X.A.units + 8 < cLine
section
variable {Γ : Gam} {X : Cx} {G : List Addr} {F : Nat → List V → AH → RV}
theorem okN_ok {x : Str} (h : okN x = true) : (x == ("__debug__" : Str)) = false ∧ (x == ("__classdict__" : Str)) = false ∧ x ≠ "__name__" := by
  unfold okN at h
  simp only [Bool.and_eq_true, Bool.not_eq_true', decide_eq_false_iff_not] at h
  exact ⟨h.1.1, h.1.2, h.2⟩
theorem Fit.gl' (f : Fit Γ X G F) {x : Str} (h : glB Γ.sc x = true) : L2.Gl X x := by
  unfold L2.Gl Env.kindOf
  rw [f.sc]
  simpa [glB] using h
theorem Fit.store (f : Fit Γ X G F) {x : Str} (h : storeB Γ x = true) : L2.Loc X.env.scope x ∧ (X.fn x = true ∨ X.env.scope.names.lookup x = some .local) := by
  rw [f.sc]
  unfold storeB at h
  unfold L2.Loc
  split at h
  · rename_i e; exact ⟨.inl e, .inr e⟩
  · rename_i e; exact ⟨.inr e, .inl (f.fn h x)⟩
  · cases h
theorem sgs_of (f : Fit Γ X G F) : ∀ {es : List Expr} {is : List Nat}, trTs Γ es = some is → PGs X es (tGs is) ∧ (assignEach es X.env).length = is.length ∧ (assignEach es X.env).findIdx? (·.1) = none
  | [], is, h => by
    cases h
    exact ⟨sgs_nil, rfl, rfl⟩
  | e :: es, is, h => by
    unfold trTs at h
    split at h
    · rename_i e1; cases e1
    · rename_i x p r e1
      cases e1
      split at h
      · rename_i hs
        split at h
        · rename_i i is' ei eis
          cases h
          obtain ⟨h1, h2⟩ := f.store hs
          obtain ⟨g1, g2, g3⟩ := sgs_of f eis
          refine ⟨sgs_cons (by rw [f.hN]; exact f.nd) (by rw [f.hN]; exact slot_ok ei) h1 h2 g1, ?_, ?_⟩
          · show (assignEach es X.env).length + 1 = _
            rw [g2]; rfl
          · show (((false, assign (.Name x p) X.env) :: assignEach es X.env).findIdx? (·.1)) = none
            rw [List.findIdx?_cons, g3]
            rfl
        · cases h
      · cases h
    · cases h
theorem sg_of (f : Fit Γ X G F) {tg : Expr} {g : Tg} (h : trT Γ tg = some g) : SG X G tg g := by
  unfold trT at h
  split at h
  · rename_i x p
    split at h
    · rename_i hs
      obtain ⟨i, ei, rfl⟩ := Option.map_eq_some_iff.mp h
      obtain ⟨h1, h2⟩ := f.store hs
      exact sg_name (by rw [f.hN]; exact f.nd) (by rw [f.hN]; exact slot_ok ei) h1 h2
    · cases h
  · obtain ⟨is, ei, rfl⟩ := Option.map_eq_some_iff.mp h
    obtain ⟨g1, g2, g3⟩ := sgs_of f ei
    exact sg_tup f.calm g1 g2 g3
  · cases h
theorem noMark {op : CmpOp} {e : Expr} (h : noSet e = true) : behindInMarks op e = false := by
  cases e <;> first | rfl | cases h
theorem noMark2 {o1 o2 : CmpOp} {b c : Expr} (h : noSet c = true) : lastMarks [o1, o2] [b, c] = false := by
  show behindInMarks o2 c = false
  exact noMark h
theorem noFold {iter : Expr} {env : Env} (h : noSet iter = true) : ∀ x, foldedSetIterable iter env x = pure x := by
  intro x
  cases iter <;> first | rfl | cases h
theorem noBase {o : Expr} {n : Str} {env : Env} {w : Sem Value} (h : noCall o = true) : attributeBase o n env w = w := by
  cases o <;> first | rfl | cases h
theorem comp_scope (f : Fit Γ X G F) {scope : Scope} {N : List Str} {src : List (Option Nat)} (h : chkComp Γ scope N src = true) : L2.CompScope X scope N src := by
  unfold chkComp at h
  simp only [Bool.and_eq_true, List.all_eq_true, decide_eq_true_eq] at h
  obtain ⟨⟨⟨⟨⟨⟨h1, h2⟩, h3⟩, h4⟩, h5⟩, h6⟩, h7⟩ := h
  refine ⟨h1, h2, h3, fun y hy hk => ?_, h5, h6, fun i x j e1 e2 => ?_⟩
  · unfold Env.kindOf
    rw [f.sc]
    exact h4 y hy hk
  · have hi : i < N.length := (List.getElem?_eq_some_iff.mp e1).1
    have := h7 i (List.mem_range.mpr hi)
    rw [e1, e2] at this
    rw [f.hN]
    simpa using this
theorem comp_fit (f : Fit Γ X G F) {scope : Scope} {N : List Str} {src : List (Option Nat)} (h : chkComp Γ scope N src = true) (C : Addr) (fp : List Addr) (s : Shared) (H : Hp) :
    Fit { Γ with N := N, sc := relS scope Γ.sc, own := false } (L2.cxComp X scope C fp s H N) G F := by
  have S := comp_scope f h
  refine ⟨rfl, S.nd, ?_, f.calm, fun z => (by cases z), fun g x e => ?_, f.gls, f.blt, f.hu⟩
  · show relabel scope X.env = relS scope Γ.sc
    unfold relabel relS Env.kindOf
    rw [f.sc]
  · exact ⟨(f.fns g x e).ex⟩

theorem tr_sound (n : Nat) :
    (∀ Γ e a, trE n Γ e = some a → ∀ X : Cx, Fit Γ X G F → SE X G F e a ∧ ST X G F e a) ∧
    (∀ Γ es as, trA n Γ es = some as → es.all noStar = true → ∀ X : Cx, Fit Γ X G F → SA X G F es as) ∧
    (∀ Γ op p vs a, trB n Γ op p vs = some a → ∀ X : Cx, Fit Γ X G F → SE X G F (.BoolOp op vs p) a ∧ SW X G F (.BoolOp op vs p) a) ∧
    (∀ Γ f args a, trC n Γ f args = some a → okN f = true → glB Γ.sc f = true → args.all noStar = true → ∀ X : Cx, Fit Γ X G F → ∀ p pos, SE X G F (.Call (.Name f p) args [] pos) a) ∧
    (∀ Γ o as, trO n Γ o = some as → ∀ X : Cx, Fit Γ X G F → SO X G F o as) ∧
    (∀ Γ ifs as, trIf n Γ ifs = some as → ∀ X : Cx, Fit Γ X G F → SC X G F ifs as) ∧
    (∀ Γ tg iter it, trI n Γ tg iter = some it → ∀ X : Cx, Fit Γ X G F → SI X G F tg iter it) := by
  induction n with
  | zero => exact ⟨(fun _ _ _ h => by unfold trE at h; cases h), (fun _ _ _ h => by unfold trA at h; cases h), (fun _ _ _ _ _ h => by unfold trB at h; cases h), (fun _ _ _ _ h => by unfold trC at h; cases h), (fun _ _ _ h => by unfold trO at h; cases h), (fun _ _ _ h => by unfold trIf at h; cases h), (fun _ _ _ _ h => by unfold trI at h; cases h)⟩
  | succ n ih =>
    obtain ⟨iE, iA, iB, iC, iO, iIf, iI⟩ := ih
    refine ⟨?_, ?_, ?_, ?_, ?_, ?_, ?_⟩
    · intro Γ e a h X f
      unfold trE at h
      split at h
      · cases h; exact ⟨se_int, st_of_se se_int fun _ => rfl⟩
      · cases h; exact ⟨se_bl, st_of_se se_bl fun _ => rfl⟩
      · cases h; exact ⟨se_non, st_of_se se_non fun _ => rfl⟩
      · cases h; exact ⟨se_str, st_of_se se_str fun _ => rfl⟩
      · rename_i x p
        split at h
        · rename_i ho
          obtain ⟨o1, o2, o3⟩ := okN_ok ho
          split at h
          · rename_i hv
            obtain ⟨i, ei, rfl⟩ := Option.map_eq_some_iff.mp h
            have s1 : SE X G F (.Name x p) (.var i) := se_var (by rw [f.hN]; exact slot_ok ei) (by rw [f.sc]; exact visB_ok hv) o1 o2
            exact ⟨s1, st_of_se s1 fun _ => rfl⟩
          · split at h
            · rename_i hg
              rcases f.gls x a h with ⟨v, u, rfl, e1, e2, e3⟩ | ⟨g, ad, rfl, e1, e2⟩
              · have s1 : SE X G F (.Name x p) (.cst v) := se_gcst (f.gl' hg) e1 e2 e3 o1
                exact ⟨s1, st_of_se s1 fun _ => rfl⟩
              · have s1 : SE X G F (.Name x p) (.glob g) := se_glob (f.gl' hg) e1 e2 o1
                exact ⟨s1, st_of_se s1 fun _ => rfl⟩
            · cases h
        · cases h
      · split at h
        · rename_i o a' b' eo ea eb
          cases h
          rw [bops_ok eo]
          have s1 := se_bin (op := o) (pos := ‹Pos›) (iE _ _ _ ea X f).1 (iE _ _ _ eb X f).1
          exact ⟨s1, st_of_se s1 fun _ => rfl⟩
        · cases h
      · obtain ⟨a', ea, rfl⟩ := Option.map_eq_some_iff.mp h
        have s1 := se_neg (pos := ‹Pos›) (iE _ _ _ ea X f).1
        exact ⟨s1, st_of_se s1 fun _ => rfl⟩
      · obtain ⟨a', ea, rfl⟩ := Option.map_eq_some_iff.mp h
        exact ⟨se_not (iE _ _ _ ea X f).1, st_not (iE _ _ _ ea X f).2⟩
      · obtain ⟨s1, s2⟩ := iB _ _ _ _ _ h X f
        exact ⟨s1, s2.pt⟩
      · split at h
        · rename_i c' a' b' ec ea eb
          cases h
          exact ⟨se_ite (iE _ _ _ ec X f).2 (iE _ _ _ ea X f).1 (iE _ _ _ eb X f).1, st_ite (iE _ _ _ ec X f).2 (iE _ _ _ ea X f).2 (iE _ _ _ eb X f).2⟩
        · cases h
      · rename_i a0 op b0 p
        split at h
        · rename_i hs
          split at h
          · rename_i a' b' ea eb
            cases h
            rw [cops_ok op]
            have e1 : cops (opC (cops op)) = cops op := by cases op <;> rfl
            rw [e1]
            exact ⟨se_cmp f.hu (iE _ _ _ ea X f).1 (iE _ _ _ eb X f).1 (noMark hs), st_cmp f.hu (iE _ _ _ ea X f).1 (iE _ _ _ eb X f).1 (noMark hs)⟩
          · cases h
        · cases h
      · rename_i a0 o1 o2 b0 c0 p
        split at h
        · rename_i hs
          split at h
          · rename_i a' b' c' ea eb ec
            cases h
            rw [cops_ok o1, cops_ok o2]
            have e1 : cops (opC (cops o1)) = cops o1 := by cases o1 <;> rfl
            have e2 : cops (opC (cops o2)) = cops o2 := by cases o2 <;> rfl
            rw [e1, e2]
            exact ⟨se_chain f.hu (iE _ _ _ ea X f).1 (iE _ _ _ eb X f).1 (iE _ _ _ ec X f).1 (noMark2 hs), st_chain f.hu (iE _ _ _ ea X f).1 (iE _ _ _ eb X f).1 (iE _ _ _ ec X f).1 (noMark2 hs)⟩
          · cases h
        · cases h
      · split at h
        · rename_i hc
          simp only [Bool.and_eq_true] at hc
          have s1 := iC _ _ _ _ h hc.1.1 hc.1.2 hc.2 X f
          exact ⟨s1 _ _, st_of_se (s1 _ _) fun _ => rfl⟩
        · cases h
      · split at h
        · rename_i hc
          obtain ⟨rfl, hc1, hc2, hc3⟩ := hc
          split at h
          · rename_i o' x' eo ex
            cases h
            have s1 := se_app (noBase hc1) hc3 hc2 (iE _ _ _ eo X f).1 (iE _ _ _ ex X f).1
            exact ⟨s1, st_of_se s1 fun _ => rfl⟩
          · cases h
        · cases h
      · split at h
        · rename_i a' l h' ea el eh
          cases h
          exact ⟨se_sl (iE _ _ _ ea X f).1 (iO _ _ _ el X f) (iO _ _ _ eh X f), st_of_se (se_sl (iE _ _ _ ea X f).1 (iO _ _ _ el X f) (iO _ _ _ eh X f)) fun _ => rfl⟩
        · cases h
      · split at h
        · rename_i hs
          split at h
          · rename_i a' b' ea eb
            cases h
            have s1 := se_idx (pos := ‹Pos›) hs (iE _ _ _ ea X f).1 (iE _ _ _ eb X f).1
            exact ⟨s1, st_of_se s1 fun _ => rfl⟩
          · cases h
        · cases h
      · split at h
        · rename_i hs
          obtain ⟨a', ea, rfl⟩ := Option.map_eq_some_iff.mp h
          have s1 := se_lst (pos := ‹Pos›) (iA _ _ _ ea hs X f)
          exact ⟨s1, st_of_se s1 fun _ => rfl⟩
        · cases h
      · split at h
        · rename_i hs
          obtain ⟨a', ea, rfl⟩ := Option.map_eq_some_iff.mp h
          exact ⟨se_tup (iA _ _ _ ea hs X f), st_of_se (se_tup (iA _ _ _ ea hs X f)) fun _ => rfl⟩
        · cases h
      · rename_i elt tg iter ifs scope p
        dsimp only at h
        split at h
        · rename_i hc
          simp only [Bool.and_eq_true] at hc
          split at h
          · rename_i it g c e' ei eg ec ee
            cases h
            have s1 := se_comp (pos := p) f.calm (iI _ _ _ _ ei X f) (comp_scope f hc.1) (fun C fp s H => sg_of (comp_fit f hc.1 C fp s H) eg) (fun C fp s H => iIf _ _ _ ec _ (comp_fit f hc.1 C fp s H)) (fun C fp s H => (iE _ _ _ ee _ (comp_fit f hc.1 C fp s H)).1) (noFold hc.2)
            exact ⟨s1, st_of_se s1 fun _ => rfl⟩
          · cases h
        · cases h
      · cases h
    · intro Γ es as h hs X f
      cases es with
      | nil => simp only [trA] at h; cases h; exact sa_nil
      | cons e es =>
        simp only [trA] at h
        simp only [List.all_cons, Bool.and_eq_true] at hs
        split at h
        · rename_i a as ea eas
          cases h
          exact sa_cons hs.1 (iE _ _ _ ea X f).1 (iA _ _ _ eas hs.2 X f)
        · cases h
    · intro Γ op p vs a h X f
      cases vs with
      | nil => simp only [trB] at h; cases h
      | cons e r =>
        cases r with
        | nil =>
          simp only [trB] at h
          obtain ⟨s1, s2⟩ := iE _ _ _ h X f
          refine ⟨L2.pe_one s1, ?_⟩
          cases op with
          | And => exact L2.pw_and1 s2
          | Or => exact L2.pw_or1 s2
        | cons b r =>
          simp only [trB] at h
          split at h
          · rename_i a' b' ea eb
            cases h
            obtain ⟨s1, s2⟩ := iE _ _ _ ea X f
            obtain ⟨s3, s4⟩ := iB _ _ _ _ _ eb X f
            cases op with
            | And => exact ⟨se_and s1 s3, sw_and s2 s4⟩
            | Or => exact ⟨se_or s1 s3, sw_or s2 s4⟩
          · cases h
    · intro Γ g args a h ho hg hs X f p pos
      obtain ⟨o1, o2, o3⟩ := okN_ok ho
      unfold trC at h
      split at h
      · rename_i i ei
        obtain ⟨as, ea, rfl⟩ := Option.map_eq_some_iff.mp h
        have sA := iA _ _ _ ea hs X f
        cases args with
        | nil =>
          have : as = .nil := by
            cases n with
            | zero => simp only [trA] at ea; cases ea
            | succ m => simp only [trA] at ea; cases ea; rfl
          subst this
          exact se_call0 (f.fns i g (slot_ok ei)) (f.gl' hg) o1
        | cons e es =>
          simp only [List.all_cons, Bool.and_eq_true] at hs
          exact se_call (f.fns i g (slot_ok ei)) (f.gl' hg) o1 hs.1 hs.2 sA
      · split at h
        · rename_i hb
          split at h
          · rename_i hi
            subst hi
            split at h
            · rename_i e0 t pt
              split at h
              · rename_i hc
                simp only [Bool.and_eq_true] at hc
                obtain ⟨t1, t2, t3⟩ := okN_ok hc.1.1
                split at h
                · rename_i a' t' ea et
                  cases h
                  obtain ⟨b1, b2⟩ := tyOf_ok et
                  simp only [List.all_cons, Bool.and_eq_true] at hs
                  exact se_isi b2 (f.gl' hg) (f.blt _ hb) (f.gl' hc.1.2) (f.blt _ hc.2) b1 t3 t1 hs.1 (iE _ _ _ ea X f).1
                · cases h
              · cases h
            · cases h
          · split at h
            · rename_i b e es eb
              obtain ⟨as, ea, rfl⟩ := Option.map_eq_some_iff.mp h
              have sA := iA _ _ _ ea hs X f
              simp only [List.all_cons, Bool.and_eq_true] at hs
              exact se_blt f.calm (f.gl' hg) (f.blt _ hb) (bfOf_ok eb) hs.1 hs.2 sA o3 o1
            · cases h
        · cases h
    · intro Γ o as h X f
      cases o with
      | none => simp only [trO] at h; cases h; exact so_none
      | some e =>
        simp only [trO] at h
        obtain ⟨a, ea, rfl⟩ := Option.map_eq_some_iff.mp h
        exact so_some (iE _ _ _ ea X f).1
    · intro Γ ifs as h X f
      cases ifs with
      | nil => simp only [trIf] at h; cases h; exact sc_nil
      | cons e r =>
        cases r with
        | nil =>
          simp only [trIf] at h
          obtain ⟨a, ea, rfl⟩ := Option.map_eq_some_iff.mp h
          exact sc_one (iE _ _ _ ea X f).2
        | cons b r => simp only [trIf] at h; cases h
    · intro Γ tg iter it h X f
      unfold trI at h
      split at h
      · rename_i fn p args pos
        split at h
        · rename_i hf
          subst hf
          split at h
          · rename_i hc
            simp only [Bool.and_eq_true] at hc
            split at h
            · rename_i e
              obtain ⟨a, ea, rfl⟩ := Option.map_eq_some_iff.mp h
              have hs := hc.2
              simp only [List.all_cons, Bool.and_eq_true] at hs
              exact si_rng1 (f.gl' hc.1.1) (f.blt _ hc.1.2) hs.1 (iE _ _ _ ea X f).1
            · rename_i e e2
              split at h
              · rename_i a' b' ea eb
                cases h
                have hs := hc.2
                simp only [List.all_cons, Bool.and_eq_true] at hs
                exact si_rng2 (f.gl' hc.1.1) (f.blt _ hc.1.2) hs.1 hs.2.1 (iE _ _ _ ea X f).1 (iE _ _ _ eb X f).1
              · cases h
            · cases h
          · cases h
        · split at h
          · rename_i hf
            subst hf
            split at h
            · rename_i hc
              simp only [Bool.and_eq_true] at hc
              split at h
              · split at h
                · rename_i a' b' ea eb
                  cases h
                  have hs := hc.2
                  simp only [List.all_cons, Bool.and_eq_true] at hs
                  exact si_zip (f.gl' hc.1.1) (f.blt _ hc.1.2) hs.1 hs.2.1 (iE _ _ _ ea X f).1 (iE _ _ _ eb X f).1
                · cases h
              · cases h
            · cases h
          · obtain ⟨a, ea, rfl⟩ := Option.map_eq_some_iff.mp h
            exact si_list (iE _ _ _ ea X f).1
      · obtain ⟨a, ea, rfl⟩ := Option.map_eq_some_iff.mp h
        exact si_list (iE _ _ _ ea X f).1
end
end PI

set_option Elab.async false
set_option linter.all false
set_option maxRecDepth 100000
set_option maxHeartbeats 4000000
namespace PI
open PySem PySem.Spec PyProof.Rows PySem.SeqAt
open L2 (V Hp HO Cx PE PT PA PS PSs PG PGs PW RelV FnOk Fun FnScope Binds Room SqL SqT)
section
variable {G : List Addr} {F : Nat → List V → AH → RV}
theorem comp_inv {Γ : Gam} {X : Cx} (f : Fit Γ X G F) (hx : Γ.own = true) {n : Nat} {elt : Expr} {gens : List Comprehension} {scope : Scope} {cpos p pos : Pos} {a : E} {x : Str} {g : Tg} (h : trE n Γ (.ListComp elt gens scope cpos) = some a)
    (hg : trT Γ (.Name x ⟨0, 0, 0, 0⟩) = some g) : SS X G F (.Assign [.Name x p] (.ListComp elt gens scope cpos) pos) (.asg g a) := by
  cases n with
  | zero => unfold trE at h; cases h
  | succ n =>
    unfold trT at hg
    dsimp only at hg
    split at hg
    · rename_i hs
      obtain ⟨i, ei, rfl⟩ := Option.map_eq_some_iff.mp hg
      obtain ⟨h1, h2⟩ := f.store hs
      obtain ⟨iE, iA, iB, iC, iO, iIf, iI⟩ := tr_sound (G := G) (F := F) n
      unfold trE at h
      split at h
      all_goals first | (rename_i z; cases z; done) | skip
      all_goals try (rename_i z _ _ ; cases z; done)
      · rename_i heq
        cases heq
        dsimp only at h
        split at h
        · rename_i hc
          simp only [Bool.and_eq_true] at hc
          split at h
          · rename_i it g c e' ei' eg ec ee
            cases h
            exact ss_comp f.calm (iI _ _ _ _ ei' X f) (comp_scope f hc.1) (fun C fp s H => sg_of (comp_fit f hc.1 C fp s H) eg) (fun C fp s H => iIf _ _ _ ec _ (comp_fit f hc.1 C fp s H)) (fun C fp s H => (iE _ _ _ ee _ (comp_fit f hc.1 C fp s H)).1) (noFold hc.2)
              (by rw [f.hN]; exact f.nd) (by rw [f.hN]; exact slot_ok ei) h1 h2
          · cases h
        · cases h
      · cases h
    · cases hg
theorem trS_sound (n : Nat) : (∀ Γ st (X : Cx), Fit Γ X G F → Γ.own = true → X.xe = (fun _ _ => False) → SS X G F st (trS n Γ st)) ∧ (∀ Γ sts (X : Cx), Fit Γ X G F → Γ.own = true → X.xe = (fun _ _ => False) → SSs X G F sts (trSs n Γ sts)) := by
  induction n with
  | zero =>
    refine ⟨fun Γ st X f ho hx => ?_, fun Γ sts X f ho hx => ?_⟩
    · unfold trS; exact ss_stop
    · unfold trSs
      intro pins s σ H D I q
      obtain ⟨φ, h, σa, o, h', R, rs, e, k⟩ := q
      unfold exs ex at e
      cases e
  | succ n ih =>
    obtain ⟨i1, i2⟩ := ih
    obtain ⟨iE, iA, iB, iC, iO, iIf, iI⟩ := tr_sound (G := G) (F := F) 60
    refine ⟨fun Γ st X f ho hx => ?_, fun Γ sts X f ho hx => ?_⟩
    · unfold trS
      split
      · rename_i x p v pos
        split
        · rename_i g a eg ea
          by_cases hc : noComp v = true
          · refine ps_wk (L2.ps_asg (iE _ _ _ ea X f).1 (sg_of f (tg := .Name x p) eg) (swaps_sole hc) (by cases v <;> rfl) rfl) fun _ _ _ => asg_wk
          · cases v with
            | ListComp elt gens scope cpos => exact comp_inv f ho ea eg
            | SetComp elt gens scope cpos => unfold trE at ea; cases ea
            | DictComp k elt gens scope cpos => unfold trE at ea; cases ea
            | _ => exact absurd rfl hc
        · exact ss_stop
      · split
        · rename_i hc
          simp only [Bool.and_eq_true] at hc
          split
          · rename_i g a eg ea
            have hg := eg
            unfold trT at hg
            obtain ⟨is, ei, rfl⟩ := Option.map_eq_some_iff.mp hg
            exact ss_tup (sg_of f eg) (iE _ _ _ ea X f).1 hc.1 hc.2
          · exact ss_stop
        · exact ss_stop
      · split
        · rename_i hc
          simp only [Bool.and_eq_true] at hc
          split
          · rename_i o' i' v' eo ei ev
            exact ss_put (iE _ _ _ eo X f).1 (iE _ _ _ ei X f).1 (iE _ _ _ ev X f).1 hc.1 hc.2
          · exact ss_stop
        · exact ss_stop
      · split
        · rename_i hc
          split
          · rename_i a ea; exact ss_expr (iE _ _ _ ea X f).1 hc
          · exact ss_stop
        · exact ss_stop
      · split
        · rename_i a ea; exact ss_ret (iE _ _ _ ea X f).1
        · exact ss_stop
      · exact ss_retN
      · split
        · rename_i a ea; exact ss_ifs (iE _ _ _ ea X f).2 (i2 _ _ X f ho hx) (i2 _ _ X f ho hx)
        · exact ss_stop
      · split
        · rename_i hs
          split
          · rename_i it g ei eg; exact ss_for hx f.calm (iI _ _ _ _ ei X f) (sg_of f eg) (i2 _ _ X f ho hx) (noFold hs)
          · exact ss_stop
        · exact ss_stop
      · split
        · rename_i a ea; exact ss_while hx (iE _ _ _ ea X f).2 (i2 _ _ X f ho hx)
        · exact ss_stop
      · exact ss_pass
      · exact ss_brk
      · exact ss_cont
      · exact ss_stop
    · cases sts with
      | nil => unfold trSs; exact sss_nil
      | cons s r => unfold trSs; exact sss_cons (i1 _ _ X f ho hx) (i2 _ _ X f ho hx)
end

/-! ### the defs of a text -/
structure DefS where
  x : Str
  st : Stmt
  ps : List Str
  N : List Str
structure Tbl where
  ds : List DefS
  gl : List (Str × E)
  bl : List Str
def Tbl.gam (T : Tbl) (d : DefS) : Gam := ⟨d.N, L2.defScope d.st, T.ds.map (·.x), T.gl, T.bl, true⟩
def Tbl.fn (T : Tbl) (d : DefS) : Fn := ⟨d.ps.length, d.N.length, trSs 60 (T.gam d) (L2.defBody d.st)⟩
def Tbl.fns (T : Tbl) : List Fn := T.ds.map T.fn
/-- what stands behind the top -/
structure TabOk (K : PySem.W.Frag) (mg : Str → Option Value) (G : List Addr) (T : Tbl) (fa : List Addr) (fd : List FuncData) : Prop where
  def_ : ∀ (i : Nat) d, T.ds[i]? = some d → ∃ a f, fa[i]? = some a ∧ fd[i]? = some f ∧ Fun K d.x d.x d.st a f ∧ FnScope d.N d.ps (L2.defScope d.st) ∧ mg d.x = some (.ref a) ∧ Binds K f d.ps []
  gls : ∀ x e, T.gl.lookup x = some e → (∃ v u, e = .cst v ∧ mg x = some u ∧ RelV v u ∧ ∀ φ, rv φ v v) ∨ (∃ g a, e = .glob g ∧ mg x = some (.ref a) ∧ G[g]? = some a)
  blt : ∀ x, T.bl.contains x = true → mg x = none
theorem start_rst {φ : List Addr} {ws vs : List V} (r : rvs φ ws vs) (n : Nat) : rst φ (ws.map some ++ List.replicate n none) (vs.map some ++ List.replicate n none) := by
  refine paired_append ?_ ?_
  · induction r with
    | nil => exact .nil
    | cons h t ih => exact .cons ⟨_, rfl, h⟩ ih
  · induction n with
    | zero => exact .nil
    | succ n ih => exact .cons trivial ih
theorem fn_sound {P : Program} {w : World} {K : PySem.W.Frag} {mg : Str → Option Value} {base : Heap} {G : List Addr} {T : Tbl} {fa : List Addr} {fd : List FuncData} (O : TabOk K mg G T fa fd) : ∀ (k i : Nat) d a f, T.ds[i]? = some d → fa[i]? = some a → fd[i]? = some f →
    FnOk P w K mg base L2.CX0 k a f d.ps (spF G (Fk T.fns k) K i)
  | 0, i, d, a, f, h1, h2, h3 => ⟨(fun vs H Q E h => by obtain ⟨_, _, _, _, _, _, _, e, _⟩ := h; unfold Fk at e; cases e), (fun A outer s H args us vs Q E hr e0 hb r h => by obtain ⟨_, _, _, _, _, _, _, e, _⟩ := h; unfold Fk at e; cases e)⟩
  | k + 1, i, d, a, f, h1, h2, h3 => by
    obtain ⟨a', f', e1, e2, hF, hS, hm, hB⟩ := O.def_ i d h1
    rw [h2] at e1; cases e1
    rw [h3] at e2; cases e2
    have hlen : ∀ {vs : List V} {ws : List V} {h h' : AH} {v : V}, Fk T.fns (k + 1) i ws h = .ok (v, h') → ws.length = d.ps.length ∧ d.ps.length ≤ d.N.length ∧ ∃ o, exs (Fk T.fns k) (T.fn d).body (ws.map some ++ List.replicate (d.N.length - d.ps.length) none) h = .ok (o, h') ∧
        ((∃ σ, o = .nx σ ∧ v = .non) ∨ o = .rt v) := fun {vs ws h h' v} e => by
      unfold Fk at e
      have ht : T.fns[i]? = some (T.fn d) := by
        unfold Tbl.fns
        rw [List.getElem?_map, h1]
        rfl
      rw [ht] at e
      dsimp only at e
      split at e
      · rename_i hc
        obtain ⟨⟨o, h2⟩, e2, e⟩ := Res.bind_inv e
        refine ⟨hc.1, hc.2, o, ?_, ?_⟩
        · cases o <;> cases e <;> exact e2
        · cases o with
          | nx σ => cases e; exact .inl ⟨σ, rfl, rfl⟩
          | rt u => cases e; exact .inr rfl
          | bk σ => cases e
          | ct σ => cases e
      · cases e
    refine hF.ok hS (fun vs H Q E h => ?_) (fun cdv A outer s H vs Q E hr h => ?_)
    · obtain ⟨φ, h0, ws, v, h', R, r, e, _⟩ := h
      rw [← Paired.length r]
      exact (hlen (vs := []) e).1
    · obtain ⟨φ, h0, ws, v, h', R, r, e, kk⟩ := h
      obtain ⟨l1, l2, o, eo, ho⟩ := hlen (vs := []) e
      have fit : Fit (T.gam d) (L2.cxOf L2.CX0 P w K mg base d.N d.x (L2.defScope d.st) a cdv A outer s H E).nox G (Fk T.fns k) := by
        refine ⟨rfl, hS.nd, rfl, rfl, fun _ _ => rfl, fun g x eg => ?_, O.gls, O.blt, by have := hr.units; show (A.deeper (envOfC d.x (L2.defScope d.st) s.heap.objs.size a cdv)).units + 8 < cLine; omega⟩
        have eg' : (T.ds.map (·.x))[g]? = some x := eg
        rw [List.getElem?_map] at eg'
        cases hd : T.ds[g]? with
        | none => rw [hd] at eg'; cases eg'
        | some d2 =>
          rw [hd] at eg'
          cases eg'
          obtain ⟨a2, f2, q1, q2, q3, q4, q5, q6⟩ := O.def_ g d2 hd
          exact ⟨k, a2, f2, d2.ps, fn_sound O k g d2 a2 f2 hd q1 q2, hr, q5, q3.kp, q6⟩
      refine ⟨_, (trS_sound (G := G) (F := Fk T.fns k) 60).2 (T.gam d) (L2.defBody d.st) _ fit rfl rfl, φ, h0, _, o, h', R, ?_, eo, fun φ' H' x' R' => ?_⟩
      · unfold L2.start
        rw [← Paired.length r, l1]
        exact start_rst r _
      · rcases ho with ⟨σ, rfl, rfl⟩ | rfl
        · exact fun σc _ => kk φ' H' .non x' R' trivial
        · exact fun u ru => kk φ' H' u x' R' ru

/-- the law's promise -/
def spLaw (K : PySem.W.Frag) : L2.Sp := fun vs H Q _ => ∃ (a : Addr) (ns : List Int), vs = [.ref a] ∧ L2.Only H ∧ SqL K H a (ns.map V.int) ∧ ns.length ≤ 63 ∧ ∀ H', Q (.bl true) H'
/-- the heap at the law's entry: the file's own objects, then the script -/
def heap0 (gs : List O) (ns : List Int) : AH := gs ++ [.lst true (ns.map V.int)]
def tupsOk (K : PySem.W.Frag) : List Addr → List O → Prop
  | [], [] => True
  | a :: as, .tup xs :: os => (SqT K (fun _ => none) a xs ∧ xs.all flat = true) ∧ tupsOk K as os
  | _, _ => False
theorem flats_rv {φ : List Addr} : ∀ {xs : List V}, xs.all flat = true → rvs φ xs xs
  | [], _ => .nil
  | x :: xs, h => by
    simp only [List.all_cons, Bool.and_eq_true] at h
    refine .cons ?_ (flats_rv h.2)
    cases x <;> first | rfl | exact trivial | (cases h.1)
theorem sqT_none {K : PySem.W.Frag} {H : Hp} {a : Addr} {xs : List V} (q : SqT K (fun _ => none) a xs) : SqT K H a xs := by
  rcases q with (h | ⟨o, h⟩) | h
  · cases h
  · cases h
  · exact .inr h
theorem tupsOk_get {K : PySem.W.Frag} : ∀ {as : List Addr} {os : List O}, tupsOk K as os → as.length = os.length ∧ ∀ (i : Nat) o a, os[i]? = some o → as[i]? = some a → ∃ xs, o = .tup xs ∧ SqT K (fun _ => none) a xs ∧ xs.all flat = true
  | [], [], _ => ⟨rfl, fun i o a h => by simp at h⟩
  | [], _ :: _, h => False.elim h
  | _ :: _, [], h => False.elim h
  | a :: as, .lst _ _ :: os, h => False.elim h
  | a :: as, .tup xs :: os, h => by
    obtain ⟨h1, h2⟩ := h
    obtain ⟨l, k⟩ := tupsOk_get h2
    refine ⟨by simp [l], fun i o b e1 e2 => ?_⟩
    cases i with
    | zero => simp at e1 e2; subst e1 e2; exact ⟨xs, rfl, h1⟩
    | succ i => exact k i o b (by simpa using e1) (by simpa using e2)
theorem law_sound {P : Program} {w : World} {K : PySem.W.Frag} {mg : Str → Option Value} {base : Heap} {G : List Addr} {gs : List O} {T : Tbl} {fa : List Addr} {fd : List FuncData} (O : TabOk K mg G T fa fd) (hG : tupsOk K G gs) {k i : Nat} {d : DefS} {a : Addr} {f : FuncData}
    (h1 : T.ds[i]? = some d) (h2 : fa[i]? = some a) (h3 : fd[i]? = some f) (hp : d.ps = (["_law_script"] : List Str)) (main : ∀ ns : List Int, ns.length ≤ 63 → ∃ h', Fk T.fns k i [.ref gs.length] (heap0 gs ns) = .ok (.bl true, h')) :
    FnOk P w K mg base L2.CX0 k a f (["_law_script"] : List Str) (spLaw K) := by
  have F := fn_sound (P := P) (w := w) (base := base) O k i d a f h1 h2 h3
  rw [hp] at F
  refine ⟨fun vs H Q E h => by obtain ⟨b, ns, rfl, _⟩ := h; rfl, fun A outer s H args us vs Q E hr e0 hb r h => ?_⟩
  obtain ⟨b, ns, rfl, hO, hS, hl, q⟩ := h
  obtain ⟨h', e⟩ := main ns hl
  obtain ⟨lg, kg⟩ := tupsOk_get hG
  refine F.run A outer s H args us _ Q E hr e0 hb r ⟨G ++ [b], heap0 gs ns, [.ref gs.length], .bl true, h', ⟨by unfold heap0; simp [lg], ⟨[b], rfl⟩, fun j o c e1 e2 => ?_, fun j l xs ys c e1 e2 e3 e4 => ?_⟩, .cons (by show (G ++ [b])[gs.length]? = some b; rw [← lg]; simp) .nil, e, fun φ' H' u x' R' ru => by rw [rv_bl ru]; exact q H'⟩
  · unfold heap0 at e1
    by_cases hj : j < gs.length
    · rw [List.getElem?_append_left hj] at e1
      rw [List.getElem?_append_left (by omega)] at e2
      obtain ⟨xs, rfl, h5, h6⟩ := kg j o c e1 e2
      exact ⟨xs, sqT_none h5, flats_rv h6⟩
    · have hj' : j = gs.length := by
        have := (List.getElem?_eq_some_iff.mp e1).1
        simp at this
        omega
      subst hj'
      simp at e1
      rw [← lg] at e2
      simp at e2
      subst e1 e2
      refine ⟨ns.map V.int, ?_, flats_rv (ints_flat ns)⟩
      rcases hS with (z | ⟨ob, z⟩) | z
      · rcases hO b with y | ⟨ob, xs, y⟩ <;> (rw [y] at z; cases z)
      · exact .inl ⟨ob, z⟩
      · exact .inr (.inr z)
  · have no : ∀ {m : Nat} {zs : List V}, (heap0 gs ns)[m]? = some (.lst false zs) → False := fun {m zs} em => by
      unfold heap0 at em
      by_cases hj : m < gs.length
      · rw [List.getElem?_append_left hj] at em
        obtain ⟨xs, ex, _⟩ := kg m _ (G[m]'(by omega)) em (List.getElem?_eq_getElem (by omega))
        cases ex
      · have hj' : m = gs.length := by
          have := (List.getElem?_eq_some_iff.mp em).1
          simp at this
          omega
        subst hj'
        simp at em
    exact (no e1).elim
end PI

set_option Elab.async false
set_option linter.all false
set_option maxRecDepth 100000
set_option maxHeartbeats 4000000
/-! Plain reasoning about the small language: heaps that grow, loops, comprehensions. -/
namespace PI
open L2 (V)
/-- all that stood stands -/
def Up (h h' : AH) : Prop := h.length ≤ h'.length ∧ ∀ j, j < h.length → h'[j]? = h[j]?
theorem Up.refl (h : AH) : Up h h := ⟨Nat.le_refl _, fun _ _ => rfl⟩
theorem Up.trans {a b c : AH} (x : Up a b) (y : Up b c) : Up a c := ⟨Nat.le_trans x.1 y.1, fun j hj => (y.2 j (Nat.lt_of_lt_of_le hj x.1)).trans (x.2 j hj)⟩
theorem Up.app (h e : AH) : Up h (h ++ e) := ⟨by simp, fun j hj => by rw [List.getElem?_append_left hj]⟩
theorem Up.set {h h' : AH} (x : Up h h') {D : Nat} (hD : h.length ≤ D) (o : O) : Up h (h'.set D o) := ⟨by simpa using x.1, fun j hj => by rw [List.getElem?_set_ne (by omega)]; exact x.2 j hj⟩
theorem Up.get {h h' : AH} (x : Up h h') {j : Nat} {o : O} (e : h[j]? = some o) : h'[j]? = some o := (x.2 j (List.getElem?_eq_some_iff.mp e).1).trans e
abbrev I (xs : List Int) : List V := xs.map V.int
/-- a list of ints of its own -/
abbrev isI (h : AH) (a : Nat) (xs : List Int) : Prop := h[a]? = some (.lst false (I xs))
theorem asInts_I : ∀ xs : List Int, asInts (I xs) = some xs
  | [] => rfl
  | x :: xs => by
    show (asInts (I xs)).map (x :: ·) = some (x :: xs)
    rw [asInts_I xs]
    rfl
theorem asBools_B : ∀ xs : List Bool, asBools (xs.map V.bl) = some xs
  | [] => rfl
  | x :: xs => by
    show (asBools (xs.map V.bl)).map (x :: ·) = some (x :: xs)
    rw [asBools_B xs]
    rfl
theorem lst_at {h : AH} {a : Nat} {f : Bool} {xs : List V} (e : h[a]? = some (.lst f xs)) : lstAt h a = some xs := by unfold lstAt; rw [e]
theorem its_at {h : AH} {a : Nat} {f : Bool} {xs : List V} (e : h[a]? = some (.lst f xs)) : items h a = some xs := by unfold items; rw [e]
theorem mut_at {h : AH} {a : Nat} {xs : List V} (e : h[a]? = some (.lst false xs)) : mutAt h a = some xs := by unfold mutAt; rw [e]
/-- a def that hands back -/
theorem Fk_ret {tb : List Fn} {k f : Nat} {d : Fn} {vs : List V} {h h' : AH} {v : V} (ht : tb[f]? = some d) (hl : vs.length = d.npar) (hn : d.npar ≤ d.nslot)
    (e : exs (Fk tb k) d.body (vs.map some ++ List.replicate (d.nslot - d.npar) none) h = .ok (.rt v, h')) : Fk tb (k + 1) f vs h = .ok (v, h') := by
  unfold Fk
  rw [ht]
  dsimp only
  rw [if_pos ⟨hl, hn⟩, e]
  rfl
theorem ret_of {F : Nat → List V → AH → RV} {e : E} {σ : St} {h h' : AH} {v : V} (q : ev F e σ h = .ok (v, h')) : exs F (.cons (.ret e) .nil) σ h = .ok (.rt v, h') := by
  unfold exs ex
  rw [q]
  rfl
/-- a comprehension without a test, by what holds between its turns; out i is the item of turn i -/
theorem compL_run {F : Nat → List V → AH → RV} {s : Src} {g : Tg} {e : St → AH → RV} {D n : Nat} (Inv : Nat → St → AH → Prop) (out : Nat → V)
    (step : ∀ i σ h, i < n → Inv i σ h → ∃ x h1 σ1 h2, yieldAt h i s = some (x, h1) ∧ store g x σ h1 = some σ1 ∧ e σ1 h1 = .ok (out i, h2) ∧ h2[D]? = h[D]? ∧ ∀ l, Inv (i + 1) σ1 (h2.set D (.lst false l)))
    (done : ∀ σ h, Inv n σ h → stopAt h n s = true) : ∀ m i ys σ h, i + m = n → ys.length + m < lim → Inv i σ h → h[D]? = some (.lst false ys) →
      ∃ σ' h', compL s g (evc F .nil) e D m i ys σ h = .ok (.ref D, h') ∧ h'[D]? = some (.lst false (ys ++ (List.range' i m).map out)) ∧ Inv n σ' h'
  | 0, i, ys, σ, h, hi, hl, iv, hD => by
    have hi' : i = n := by omega
    subst hi'
    exact ⟨σ, h, by unfold compL; rw [done σ h iv]; rfl, by simpa using hD, iv⟩
  | m + 1, i, ys, σ, h, hi, hl, iv, hD => by
    obtain ⟨x, h1, σ1, h2, e1, e2, e3, e4, nx⟩ := step i σ h (by omega) iv
    have hD2 : h2[D]? = some (.lst false ys) := e4.trans hD
    have hlt := (List.getElem?_eq_some_iff.mp hD2).1
    obtain ⟨σ', h', r1, r2, r3⟩ := compL_run (F := F) Inv out step done m (i + 1) (ys ++ [out i]) σ1 (h2.set D (.lst false (ys ++ [out i]))) (by omega) (by simp; omega) (nx _) (by rw [List.getElem?_set_self hlt])
    refine ⟨σ', h', ?_, ?_, r3⟩
    · unfold compL
      rw [e1]
      dsimp only
      rw [e2]
      dsimp only
      unfold evc
      rw [Res.bind_ok]
      dsimp only
      rw [if_pos rfl, e3, Res.bind_ok]
      dsimp only
      rw [if_pos ⟨hD2, by omega⟩]
      exact r1
    · rw [r2, List.append_assoc, List.range'_succ]
      rfl
/-- a for, by what holds between its turns (it hands back nothing) -/
theorem forL_run {s : Src} {g : Tg} {b : St → AH → RS} {n : Nat} (Inv : Nat → St → AH → Prop)
    (step : ∀ i σ h, i < n → Inv i σ h → ∃ x h1 σ1 σ2 h2, yieldAt h i s = some (x, h1) ∧ store g x σ h1 = some σ1 ∧ b σ1 h1 = .ok (.nx σ2, h2) ∧ Inv (i + 1) σ2 h2)
    (done : ∀ σ h, Inv n σ h → stopAt h n s = true) : ∀ m i σ h, i + m = n → Inv i σ h → ∃ σ' h', forL s g b m i σ h = .ok (.nx σ', h') ∧ Inv n σ' h'
  | 0, i, σ, h, hi, iv => by
    have hi' : i = n := by omega
    subst hi'
    exact ⟨σ, h, by unfold forL; rw [done σ h iv]; rfl, iv⟩
  | m + 1, i, σ, h, hi, iv => by
    obtain ⟨x, h1, σ1, σ2, h2, e1, e2, e3, nx⟩ := step i σ h (by omega) iv
    obtain ⟨σ', h', r1, r2⟩ := forL_run Inv step done m (i + 1) σ2 h2 (by omega) nx
    refine ⟨σ', h', ?_, r2⟩
    unfold forL
    rw [e1]
    dsimp only
    rw [e2]
    dsimp only
    rw [e3, Res.bind_ok]
    exact r1
section
variable (F : Nat → List V → AH → RV) (σ : St) (h : AH) (a b c : E) (as : Es)
theorem ev_var (i : Nat) {x : V} (e : σ[i]? = some (some x)) : ev F (.var i) σ h = .ok (x, h) := by rw [ev]; dsimp only; rw [e]
theorem ev_cst (x : V) : ev F (.cst x) σ h = .ok (x, h) := by rw [ev]
theorem ev_glob (g : Nat) : ev F (.glob g) σ h = .ok (.ref g, h) := by rw [ev]
theorem ev_bin (op : BOp) {x y : V} {h1 h2 : AH} (ea : ev F a σ h = .ok (x, h1)) (eb : ev F b σ h1 = .ok (y, h2)) : ev F (.bin op a b) σ h = binV op x y h2 := by rw [ev]; dsimp only; rw [ea, Res.bind_ok]; dsimp only; rw [eb, Res.bind_ok]
theorem ev_cmp (op : COp) {x y : V} {h1 h2 : AH} {t : Bool} (ea : ev F a σ h = .ok (x, h1)) (eb : ev F b σ h1 = .ok (y, h2)) (ec : cmpV op x y h2 = some t) : ev F (.cmp op a b) σ h = .ok (.bl t, h2) := by rw [ev]; dsimp only; rw [ea, Res.bind_ok]; dsimp only; rw [eb, Res.bind_ok]; dsimp only; unfold cmpR; rw [ec]
theorem ev_andT {h1 : AH} (ea : ev F a σ h = .ok (.bl true, h1)) : ev F (.and a b) σ h = ev F b σ h1 := by rw [ev]; dsimp only; rw [asB_mk ea, Res.bind_ok]; rfl
theorem ev_andF {h1 : AH} (ea : ev F a σ h = .ok (.bl false, h1)) : ev F (.and a b) σ h = .ok (.bl false, h1) := by rw [ev]; dsimp only; rw [asB_mk ea, Res.bind_ok]; rfl
theorem ev_orT {h1 : AH} (ea : ev F a σ h = .ok (.bl true, h1)) : ev F (.or a b) σ h = .ok (.bl true, h1) := by rw [ev]; dsimp only; rw [asB_mk ea, Res.bind_ok]; rfl
theorem ev_orF {h1 : AH} (ea : ev F a σ h = .ok (.bl false, h1)) : ev F (.or a b) σ h = ev F b σ h1 := by rw [ev]; dsimp only; rw [asB_mk ea, Res.bind_ok]; rfl
theorem ev_not {h1 : AH} {t : Bool} (ea : ev F a σ h = .ok (.bl t, h1)) : ev F (.not a) σ h = .ok (.bl (!t), h1) := by rw [ev]; dsimp only; rw [asB_mk ea, Res.bind_ok]
theorem ev_call (f : Nat) {xs : List V} {h1 : AH} (ea : evs F as σ h = .ok (xs, h1)) : ev F (.call f as) σ h = F f xs h1 := by rw [ev]; dsimp only; rw [ea, Res.bind_ok]
theorem ev_blt (f : BF) {xs : List V} {h1 : AH} (ea : evs F as σ h = .ok (xs, h1)) : ev F (.blt f as) σ h = bltV f xs h1 := by rw [ev]; dsimp only; rw [ea, Res.bind_ok]
theorem evs_nil : evs F .nil σ h = .ok ([], h) := by rw [evs]
theorem evs_cons {x : V} {xs : List V} {h1 h2 : AH} (ea : ev F a σ h = .ok (x, h1)) (es : evs F as σ h1 = .ok (xs, h2)) : evs F (.cons a as) σ h = .ok (x :: xs, h2) := by rw [evs]; dsimp only; rw [ea, Res.bind_ok]; dsimp only; rw [es, Res.bind_ok]
theorem ev_cmp2T (o1 o2 : COp) {x y z : V} {h1 h2 h3 : AH} {t : Bool} (ea : ev F a σ h = .ok (x, h1)) (eb : ev F b σ h1 = .ok (y, h2)) (e1 : cmpV o1 x y h2 = some true) (ec : ev F c σ h2 = .ok (z, h3)) (e2 : cmpV o2 y z h3 = some t) : ev F (.cmp2 o1 o2 a b c) σ h = .ok (.bl t, h3) := by
  rw [ev]; dsimp only; rw [ea, Res.bind_ok]; dsimp only; rw [eb, Res.bind_ok]; dsimp only; rw [e1]; dsimp only; rw [ec, Res.bind_ok]; dsimp only; unfold cmpR; rw [e2]
end
end PI

set_option Elab.async false
set_option linter.all false
set_option maxRecDepth 100000
set_option maxHeartbeats 4000000
namespace My
open PySem PySem.Spec PyProof.Rows L2 PI
def top (i : Nat) : Stmt := PySem.Challenge.pw_healhalves_k03_word_of_the_word.main.body.getD i (.Pass ⟨0, 0, 0, 0⟩)
def T : Tbl := ⟨[⟨"is_whole", top 6, ["thing"], ["thing"]⟩,
  ⟨"is_number_below", top 7, ["thing", "end"], ["thing", "end"]⟩,
  ⟨"length_of", top 8, ["size"], ["size"]⟩,
  ⟨"is_sign", top 10, ["thing"], ["thing"]⟩,
  ⟨"is_row", top 11, ["thing", "length"], ["thing", "length"]⟩,
  ⟨"sum_of", top 12, ["signs"], ["signs"]⟩,
  ⟨"added", top 13, ["one", "other"], ["one", "other"]⟩,
  ⟨"word_of", top 15, ["core"], ["core"]⟩,
  ⟨"is_core", top 16, ["thing"], ["thing"]⟩,
  ⟨"halved_word", top 17, ["row"], ["row", "half", "first", "second"]⟩,
  ⟨"_law_begun", top 19, ["_law_script", "_law_k"], ["_law_script", "_law_k", "_law_cell", "_law_number", "_law_mixed"]⟩,
  ⟨"_law_take", top 20, ["_law_state", "_law_many"], ["_law_state", "_law_many", "_law_digit", "_law_made", "_law_turn"]⟩,
  ⟨"_law_core", top 21, ["_law_state", "_law_many"], ["_law_state", "_law_many", "_law_way", "_law_at", "_law_core_here"]⟩,
  ⟨"_law_sum", top 22, ["_law_one", "_law_other"], ["_law_one", "_law_other"]⟩,
  ⟨"law", top 23, ["_law_script"], ["_law_script", "_law_k", "_law_state", "_law_many", "_law_one", "_law_other", "_law_words"]⟩],
  [("GREATEST_SIZE", E.cst (.int 5)), ("LENGTHS", E.glob 0)],
  ["len", "sum", "all", "any", "max", "min", "list", "int", "range", "zip", "isinstance", "bool"]⟩
def gs : List O := [O.tup [V.int 1, V.int 2, V.int 4, V.int 8, V.int 16, V.int 32]]
end My

set_option Elab.async false
set_option linter.all false
set_option maxRecDepth 100000
set_option maxHeartbeats 4000000
namespace My
open PySem PySem.Spec L2 PI
abbrev e1 (a : E) : Es := .cons a .nil
abbrev e2 (a b : E) : Es := .cons a (.cons b .nil)
abbrev n (i : Int) : E := .cst (.int i)
abbrev v (i : Nat) : E := .var i
def b0 : Ss := .cons (.ret (.and (.isi (v 0) ["int"]) (.not (.isi (v 0) ["bool"])))) .nil
def b1 : Ss := .cons (.ret (.and (.call 0 (e1 (v 0))) (.cmp2 .le .lt (n 0) (v 0) (v 1)))) .nil
def b2 : Ss := .cons (.ret (.idx (.glob 0) (v 0))) .nil
def b3 : Ss := .cons (.ret (.call 1 (e2 (v 0) (n 2)))) .nil
def b4 : Ss := .cons (.ret (.and (.isi (v 0) ["list"]) (.and (.cmp .eq (.blt .len (e1 (v 0))) (v 1)) (.blt .all (e1 (.comp (.list (v 0)) [none] (.name 0) .nil (.call 3 (e1 (v 0))))))))) .nil
def b5 : Ss := .cons (.ret (.bin .mod (.blt .sum (e1 (v 0))) (n 2))) .nil
def b6 : Ss := .cons (.ret (.comp (.zip (v 0) (v 1)) [none, none] (.tup [0, 1]) .nil (.call 5 (e1 (.lst (e2 (v 0) (v 1))))))) .nil
def b7 : Ss := .cons (.ifs (.not (.call 8 (e1 (v 0)))) (.cons .stop .nil) .nil) (.cons (.ret (.call 9 (e1 (v 0)))) .nil)
def b8 : Ss := .cons (.ret (.blt .any (e1 (.comp (.rng2 (n 1) (.bin .add (n 5) (n 1))) [none, some 0] (.name 0) .nil (.call 4 (e2 (v 1) (.call 2 (e1 (v 0))))))))) .nil
def b9 : Ss := .cons (.ifs (.cmp .eq (.blt .len (e1 (v 0))) (n 1)) (.cons (.ret (.blt .list (e1 (v 0)))) .nil) .nil)
  (.cons (.asg (.name 1) (.bin .fdiv (.blt .len (e1 (v 0))) (n 2))) (.cons (.asg (.name 2) (.call 9 (e1 (.sl (v 0) .nil (e1 (v 1))))))
  (.cons (.asg (.name 3) (.call 9 (e1 (.sl (v 0) (e1 (v 1)) .nil)))) (.cons (.ret (.bin .add (.call 6 (e2 (v 2) (v 3))) (v 3))) .nil))))
theorem t0 : T.fns[0]? = some ⟨1, 1, b0⟩ := by kernel_rfl
theorem t1 : T.fns[1]? = some ⟨2, 2, b1⟩ := by kernel_rfl
theorem t2 : T.fns[2]? = some ⟨1, 1, b2⟩ := by kernel_rfl
theorem t3 : T.fns[3]? = some ⟨1, 1, b3⟩ := by kernel_rfl
theorem t4 : T.fns[4]? = some ⟨2, 2, b4⟩ := by kernel_rfl
theorem t5 : T.fns[5]? = some ⟨1, 1, b5⟩ := by kernel_rfl
theorem t6 : T.fns[6]? = some ⟨2, 2, b6⟩ := by kernel_rfl
theorem t7 : T.fns[7]? = some ⟨1, 1, b7⟩ := by kernel_rfl
theorem t8 : T.fns[8]? = some ⟨1, 1, b8⟩ := by kernel_rfl
theorem t9 : T.fns[9]? = some ⟨1, 4, b9⟩ := by kernel_rfl
/-- a sign -/
def sg (i : Int) : Prop := i = 0 ∨ i = 1
def sgs (xs : List Int) : Prop := ∀ x ∈ xs, sg x
theorem f0 (k : Nat) (i : Int) (h : AH) : Fk T.fns (k + 1) 0 [.int i] h = .ok (.bl true, h) := Fk_ret t0 rfl (by decide) (ret_of (by rfl))
theorem f1 (k : Nat) {i e : Int} (h : AH) (h0 : 0 ≤ i) (he : i < e) : Fk T.fns (k + 2) 1 [.int i, .int e] h = .ok (.bl true, h) := by
  refine Fk_ret t1 rfl (by decide) (ret_of ?_)
  have q : ev (Fk T.fns (k + 1)) (.call 0 (e1 (v 0))) [some (.int i), some (.int e)] h = .ok (.bl true, h) := f0 k i h
  refine (ev_andT _ _ _ _ _ q).trans (ev_cmp2T _ _ _ _ _ _ .le .lt (x := .int 0) (y := .int i) (z := .int e) (ev_cst ..) (ev_var _ _ _ 0 rfl) ?_ (ev_var _ _ _ 1 rfl) ?_)
  · show some (decide ((0 : Int) ≤ i)) = some true
    rw [decide_eq_true h0]
  · show some (decide (i < e)) = some true
    rw [decide_eq_true he]
theorem f3 (k : Nat) {i : Int} (h : AH) (hi : sg i) : Fk T.fns (k + 3) 3 [.int i] h = .ok (.bl true, h) := by
  refine Fk_ret t3 rfl (by decide) (ret_of ?_)
  exact f1 k h (by rcases hi with rfl | rfl <;> decide) (by rcases hi with rfl | rfl <;> decide)
theorem f5 (k : Nat) {a : Nat} {xs : List Int} (h : AH) (ha : isI h a xs) : Fk T.fns (k + 1) 5 [.ref a] h = .ok (.int (xs.sum % 2), h) := by
  refine Fk_ret t5 rfl (by decide) (ret_of ?_)
  show ((ev (Fk T.fns k) (.blt .sum (e1 (v 0))) [some (.ref a)] h)).bind _ = _
  have q : ev (Fk T.fns k) (.blt .sum (e1 (v 0))) [some (.ref a)] h = .ok (.int xs.sum, h) := by
    show bltV .sum [.ref a] h = _
    simp only [bltV, lst_at ha, asInts_I]
  rw [q]
  rfl
/-- is_row, of a list of signs -/
theorem f4 (k : Nat) {a : Nat} {xs : List Int} {m : Int} (h : AH) (ha : isI h a xs) (hs : sgs xs) (hl : xs.length < 1000) : ∃ h', Fk T.fns (k + 4) 4 [.ref a, .int m] h = .ok (.bl (decide ((xs.length : Int) = m)), h') ∧ Up h h' := by
  have q0 : ∀ h' : AH, isI h' a xs → asB (ev (Fk T.fns (k + 3)) (.isi (v 0) ["list"]) [some (.ref a), some (.int m)] h') = .ok (true, h') := fun h' ha' => by
    show asB (match typeV h' (.ref a) with | some t => _ | none => _) = _
    rw [show typeV h' (.ref a) = some "list" by simp only [typeV, ha']]
    rfl
  have q1 : ev (Fk T.fns (k + 3)) (.cmp .eq (.blt .len (e1 (v 0))) (v 1)) [some (.ref a), some (.int m)] h = .ok (.bl (decide ((xs.length : Int) = m)), h) := by
    show ((ev (Fk T.fns (k + 3)) (.blt .len (e1 (v 0))) [some (.ref a), some (.int m)] h)).bind _ = _
    have : ev (Fk T.fns (k + 3)) (.blt .len (e1 (v 0))) [some (.ref a), some (.int m)] h = .ok (.int xs.length, h) := by
      show bltV .len [.ref a] h = _
      simp only [bltV, its_at ha, List.length_map]
    rw [this]
    show cmpR .eq (.int xs.length) (.int m) h = _
    simp only [cmpR, cmpV, eqD, eqF]
    congr 3
  by_cases hm : (xs.length : Int) = m
  · -- the comprehension
    have hI : ∀ j, j < xs.length → sg (xs.getD j 0) := fun j hj => by
      rw [List.getD_eq_getElem?_getD, List.getElem?_eq_getElem hj]
      exact hs _ (List.getElem_mem hj)
    have hD : (h ++ [O.lst false []])[h.length]? = some (.lst false []) := by simp
    have hup : Up h (h ++ [O.lst false []]) := Up.app h _
    obtain ⟨σ', h', r1, r2, r3⟩ := compL_run (F := Fk T.fns (k + 3)) (s := .list a) (g := .name 0) (e := ev (Fk T.fns (k + 3)) (.call 3 (e1 (v 0)))) (D := h.length) (n := xs.length)
      (fun i σ h' => Up h h' ∧ σ.length = 1) (fun _ => .bl true)
      (fun i σ h' hi ⟨hu, hl1⟩ => by
        refine ⟨.int (xs.getD i 0), h', σ.set 0 (some (.int (xs.getD i 0))), h', ?_, rfl, ?_, rfl, fun l => ⟨hu.set (Nat.le_refl _) _, by simpa using hl1⟩⟩
        · simp only [yieldAt, lst_at (hu.get ha), List.getElem?_map, List.getElem?_eq_getElem hi, List.getD_eq_getElem?_getD]
          rfl
        · match σ, hl1 with
          | [o], _ => exact f3 k h' (hI i hi))
      (fun σ h' ⟨hu, _⟩ => by simp [stopAt, lst_at (hu.get ha)])
      xs.length 0 [] [none] (h ++ [O.lst false []]) (by omega) (by simp [lim]; omega) ⟨hup, rfl⟩ hD
    refine ⟨h', Fk_ret t4 rfl (by decide) (ret_of ?_), r3.1⟩
    show (asB (ev (Fk T.fns (k + 3)) (.isi (v 0) ["list"]) [some (.ref a), some (.int m)] h)).bind _ = _
    rw [q0 h ha]
    show (asB (ev (Fk T.fns (k + 3)) (.cmp .eq (.blt .len (e1 (v 0))) (v 1)) [some (.ref a), some (.int m)] h)).bind _ = _
    rw [q1, decide_eq_true hm]
    show (((evs (Fk T.fns (k + 3)) (e1 (.comp (.list (v 0)) [none] (.name 0) .nil (.call 3 (e1 (v 0))))) [some (.ref a), some (.int m)] h)).bind fun (xs, h1) => bltV .all xs h1) = _
    have q2 : ev (Fk T.fns (k + 3)) (.comp (.list (v 0)) [none] (.name 0) .nil (.call 3 (e1 (v 0)))) [some (.ref a), some (.int m)] h = .ok (.ref h.length, h') := by
      have qi : evi (Fk T.fns (k + 3)) (.list (v 0)) [some (.ref a), some (.int m)] h = .ok (.list a, h) := by
        show (match h[a]? with | some (.lst _ _) => _ | some (.tup _) => _ | none => _) = _
        rw [show h[a]? = _ from ha]
      show (evi (Fk T.fns (k + 3)) (.list (v 0)) [some (.ref a), some (.int m)] h).bind _ = _
      rw [qi, Res.bind_ok]
      show (match srcLen (h ++ [O.lst false []]) (.list a) with | some n => _ | none => _) = _
      rw [show srcLen (h ++ [O.lst false []]) (.list a) = some xs.length by simp [srcLen, lst_at (hup.get ha)]]
      exact r1
    have q3 : evs (Fk T.fns (k + 3)) (e1 (.comp (.list (v 0)) [none] (.name 0) .nil (.call 3 (e1 (v 0))))) [some (.ref a), some (.int m)] h = .ok ([.ref h.length], h') := by
      unfold evs
      rw [q2]
      rfl
    rw [q3, Res.bind_ok]
    show bltV .all [.ref h.length] h' = _
    have r2' : h'[h.length]? = some (.lst false ((List.replicate xs.length true).map V.bl)) := by
      rw [r2]
      congr 2
      simp [List.map_const']
    simp only [bltV, lst_at r2', asBools_B]
    simp
  · refine ⟨h, Fk_ret t4 rfl (by decide) (ret_of ?_), Up.refl h⟩
    show (asB (ev (Fk T.fns (k + 3)) (.isi (v 0) ["list"]) [some (.ref a), some (.int m)] h)).bind _ = _
    rw [q0 h ha]
    show (asB (ev (Fk T.fns (k + 3)) (.cmp .eq (.blt .len (e1 (v 0))) (v 1)) [some (.ref a), some (.int m)] h)).bind _ = _
    rw [q1, decide_eq_false hm]
    rfl
end My

set_option Elab.async false
set_option linter.all false
set_option maxRecDepth 100000
set_option maxHeartbeats 4000000
namespace My
open PySem PySem.Spec L2 PI
theorem ev_idx (F : Nat → List V → AH → RV) (σ : PI.St) (h : AH) (a b : E) {p : Nat} {i : Int} {j : Nat} {h1 h2 : AH} {xs : List V} {x : V} (ea : ev F a σ h = .ok (.ref p, h1)) (eb : ev F b σ h1 = .ok (.int i, h2)) (hx : items h2 p = some xs) (hj : PI.ixN xs.length i = some j) (hv : xs[j]? = some x) :
    ev F (.idx a b) σ h = .ok (x, h2) := by
  rw [ev]; dsimp only; rw [ea, Res.bind_ok]; dsimp only; rw [eb, Res.bind_ok]; dsimp only; rw [hx]; dsimp only; rw [hj]; dsimp only [Option.bind_some]; rw [hv]
def lens : List Int := [1, 2, 4, 8, 16, 32]
theorem ixN_nat {m i : Nat} (hi : i < m) : PI.ixN m (i : Int) = some i := by
  show (if 0 ≤ (i : Int) then (if (i : Int) < m then some (i : Int).toNat else none) else _) = _
  rw [if_pos (by omega), if_pos (by omega)]
  simp
abbrev hg (h : AH) : Prop := h[0]? = some (.tup (I lens))
theorem f2 (k : Nat) {s : Nat} (h : AH) (g : hg h) (hs : s < 6) : Fk T.fns (k + 1) 2 [.int (s : Int)] h = .ok (.int (lens.getD s 0), h) := by
  refine Fk_ret t2 rfl (by decide) (ret_of ?_)
  have hi : items h 0 = some (I lens) := by unfold items; rw [show h[0]? = _ from g]
  refine ev_idx _ _ _ _ _ (ev_glob ..) (ev_var _ _ _ 0 rfl) hi (ixN_nat (by simpa [lens] using hs)) ?_
  rw [List.getElem?_map, List.getD_eq_getElem?_getD, List.getElem?_eq_getElem (by simpa [lens] using hs)]
  rfl
theorem ev_comp (F : Nat → List V → AH → RV) (σ : PI.St) (h : AH) (it : Itr) (src : List (Option Nat)) (g : Tg) (c : Es) (e : E) {s : Src} {h1 : AH} {m : Nat} (ei : evi F it σ h = .ok (s, h1)) (en : srcLen (h1 ++ [.lst false []]) s = some m) :
    ev F (.comp it src g c e) σ h = compL s g (evc F c) (ev F e) h1.length m 0 [] (L2.inner src σ) (h1 ++ [.lst false []]) := by
  rw [ev]; dsimp only; rw [ei, Res.bind_ok]; dsimp only; rw [en]
theorem f8 (k : Nat) {a : Nat} {xs : List Int} (h : AH) (g : hg h) (ha : isI h a xs) (hs : sgs xs) (hl : xs.length < 1000) (hc : ∃ s, 1 ≤ s ∧ s < 6 ∧ (xs.length : Int) = lens.getD s 0) : ∃ h', Fk T.fns (k + 5) 8 [.ref a] h = .ok (.bl true, h') ∧ Up h h' := by
  obtain ⟨s, s1, s2, sl⟩ := hc
  have hD : (h ++ [O.lst false []])[h.length]? = some (.lst false []) := by simp
  have hup : Up h (h ++ [O.lst false []]) := Up.app h _
  obtain ⟨σ', h', r1, r2, r3⟩ := compL_run (F := Fk T.fns (k + 4)) (s := .rng 1 5) (g := .name 0) (e := ev (Fk T.fns (k + 4)) (.call 4 (e2 (v 1) (.call 2 (e1 (v 0)))))) (D := h.length) (n := 5)
    (fun i σ h' => Up h h' ∧ h.length < h'.length ∧ ∃ o, σ = [o, some (.ref a)]) (fun i => .bl (decide ((xs.length : Int) = lens.getD (i + 1) 0)))
    (fun i σ h' hi ⟨hu, hlt, o, hσ⟩ => by
      subst hσ
      obtain ⟨h2, q1, q2⟩ := f4 (m := lens.getD (i + 1) 0) k h' (hu.get ha) hs hl
      refine ⟨.int (1 + (i : Int)), h', [some (.int (1 + (i : Int))), some (.ref a)], h2, ?_, rfl, ?_, q2.2 _ hlt, fun l => ⟨(hu.trans q2).set (Nat.le_refl _) _, by have := q2.1; simp; omega, _, rfl⟩⟩
      · show (if i < 5 then some (V.int (1 + (i : Int)), h') else none) = _
        rw [if_pos hi]
      · refine (ev_call _ _ _ _ 4 (evs_cons _ _ _ _ _ (ev_var _ _ _ 1 rfl) (evs_cons _ _ _ _ _ (x := .int (lens.getD (i + 1) 0)) (h1 := h') ?_ (evs_nil ..)))).trans q1
        refine (ev_call _ _ _ _ 2 (evs_cons _ _ _ _ _ (ev_var _ _ _ 0 rfl) (evs_nil ..))).trans ?_
        have := f2 (k + 3) (s := i + 1) h' (hu.get g) (by omega)
        rwa [show ((i + 1 : Nat) : Int) = 1 + (i : Int) by omega] at this)
    (fun σ h' _ => by rfl)
    5 0 [] [none, some (.ref a)] (h ++ [O.lst false []]) (by omega) (by simp [lim]) ⟨hup, by simp, none, rfl⟩ hD
  refine ⟨h', Fk_ret t8 rfl (by decide) (ret_of ?_), r3.1⟩
  refine (ev_blt _ _ _ _ .any (evs_cons _ _ _ _ _ (x := .ref h.length) (h1 := h') ?_ (evs_nil ..))).trans ?_
  · refine (ev_comp _ _ _ _ _ _ _ _ (s := .rng 1 5) (h1 := h) (m := 5) ?_ rfl).trans r1
    rfl
  · have r2' : h'[h.length]? = some (.lst false (((List.range' 0 5).map fun i => decide ((xs.length : Int) = lens.getD (i + 1) 0)).map V.bl)) := by
      rw [r2, List.map_map]
      rfl
    show bltV .any [.ref h.length] h' = _
    simp only [bltV, lst_at r2', asBools_B]
    congr 2
    congr 1
    rw [List.any_eq_true]
    refine ⟨true, List.mem_map.mpr ⟨s - 1, by simp [List.mem_range']; omega, ?_⟩, rfl⟩
    rw [show s - 1 + 1 = s by omega]
    exact decide_eq_true sl
/-- the sum of two signs -/
def xr (x y : Int) : Int := (x + y) % 2
theorem f6 (k : Nat) {a b : Nat} {xs ys : List Int} (h : AH) (ha : isI h a xs) (hb : isI h b ys) (hl : xs.length = ys.length) (hz : xs.length < 1000) :
    ∃ h', Fk T.fns (k + 2) 6 [.ref a, .ref b] h = .ok (.ref h.length, h') ∧ Up h h' ∧ isI h' h.length (List.zipWith xr xs ys) := by
  have hD : (h ++ [O.lst false []])[h.length]? = some (.lst false []) := by simp
  have hup : Up h (h ++ [O.lst false []]) := Up.app h _
  obtain ⟨σ', h', r1, r2, r3⟩ := compL_run (F := Fk T.fns (k + 1)) (s := .zip a b) (g := .tup [0, 1]) (e := ev (Fk T.fns (k + 1)) (.call 5 (e1 (.lst (e2 (v 0) (v 1)))))) (D := h.length) (n := xs.length)
    (fun i σ h' => Up h h' ∧ h.length < h'.length ∧ σ.length = 2) (fun i => .int (xr (xs.getD i 0) (ys.getD i 0)))
    (fun i σ h' hi ⟨hu, hlt, hσ⟩ => by
      have hi2 : i < ys.length := by omega
      refine ⟨.ref h'.length, h' ++ [.tup [.int (xs.getD i 0), .int (ys.getD i 0)]], [some (.int (xs.getD i 0)), some (.int (ys.getD i 0))], (h' ++ [.tup [.int (xs.getD i 0), .int (ys.getD i 0)]]) ++ [.lst false [.int (xs.getD i 0), .int (ys.getD i 0)]], ?_, ?_, ?_, ?_, fun l => ⟨((hu.trans (Up.app _ _)).trans (Up.app _ _)).set (Nat.le_refl _) _, by simp; omega, rfl⟩⟩
      · simp only [yieldAt, lst_at (hu.get ha), lst_at (hu.get hb), List.getElem?_map, List.getElem?_eq_getElem hi, List.getElem?_eq_getElem hi2, List.getD_eq_getElem?_getD]
        rfl
      · match σ, hσ with
        | [o1, o2], _ =>
          have : tupAt (h' ++ [.tup [.int (xs.getD i 0), .int (ys.getD i 0)]]) h'.length = some [.int (xs.getD i 0), .int (ys.getD i 0)] := by unfold tupAt; simp
          simp only [store, this]
          rfl
      · refine (ev_call _ _ _ _ 5 (evs_cons _ _ _ _ _ (x := .ref (h' ++ [O.tup [.int (xs.getD i 0), .int (ys.getD i 0)]]).length) (h1 := (h' ++ [.tup [.int (xs.getD i 0), .int (ys.getD i 0)]]) ++ [.lst false [.int (xs.getD i 0), .int (ys.getD i 0)]]) rfl (evs_nil ..))).trans ?_
        have := f5 k (a := (h' ++ [O.tup [.int (xs.getD i 0), .int (ys.getD i 0)]]).length) (xs := [xs.getD i 0, ys.getD i 0]) ((h' ++ [.tup [.int (xs.getD i 0), .int (ys.getD i 0)]]) ++ [.lst false [.int (xs.getD i 0), .int (ys.getD i 0)]]) (by show _ = some _; rw [List.getElem?_append_right (by simp)]; simp)
        rw [this]
        simp [xr]
      · rw [List.append_assoc, List.getElem?_append_left hlt])
    (fun σ h' ⟨hu, _, _⟩ => by simp [stopAt, lst_at (hu.get ha), lst_at (hu.get hb)])
    xs.length 0 [] [none, none] (h ++ [O.lst false []]) (by omega) (by simp [lim]; omega) ⟨hup, by simp, rfl⟩ hD
  refine ⟨h', Fk_ret t6 rfl (by decide) (ret_of ?_), r3.1, ?_⟩
  · refine (ev_comp _ _ _ _ _ _ _ _ (s := .zip a b) (h1 := h) (m := xs.length) ?_ ?_).trans r1
    · show (match lstAt h a, lstAt h b with | some _, some _ => _ | _, _ => _) = _
      rw [lst_at ha, lst_at hb]
    · simp only [srcLen, lst_at (hup.get ha), lst_at (hup.get hb), List.length_map, hl, Nat.min_self]
  · show h'[h.length]? = _
    rw [r2]
    congr 2
    refine List.ext_getElem (by simp; omega) fun i h1 h2 => ?_
    simp at h1 h2
    simp [List.getD_eq_getElem?_getD, List.getElem?_eq_getElem (show i < xs.length by omega), List.getElem?_eq_getElem (show i < ys.length by omega)]
end My

set_option Elab.async false
set_option linter.all false
set_option maxRecDepth 100000
set_option maxHeartbeats 4000000
namespace My
open PySem PySem.Spec L2 PI
section
variable {F : Nat → List V → AH → RV} {σ : PI.St} {h h1 h2 : AH} {e c : E} {x y : V} {r t u : Ss}
theorem exs_asg {i : Nat} (q : ev F e σ h = .ok (x, h1)) : exs F (.cons (.asg (.name i) e) r) σ h = exs F r (σ.set i (some x)) h1 := by
  rw [exs]; dsimp only; rw [ex]; dsimp only; rw [q, Res.bind_ok]; rfl
theorem exs_ifF (q : ev F c σ h = .ok (.bl false, h1)) : exs F (.cons (.ifs c t .nil) r) σ h = exs F r σ h1 := by
  rw [exs]; dsimp only; rw [ex]; dsimp only; rw [asB_mk q, Res.bind_ok]; dsimp only; rw [if_neg (by decide), exs, Res.bind_ok]
theorem exs_ifR (q : ev F c σ h = .ok (.bl true, h1)) (q2 : exs F t σ h1 = .ok (.rt y, h2)) : exs F (.cons (.ifs c t u) r) σ h = .ok (.rt y, h2) := by
  rw [exs]; dsimp only; rw [ex]; dsimp only; rw [asB_mk q, Res.bind_ok]; dsimp only; rw [if_pos rfl, q2, Res.bind_ok]
theorem ev_sl {a : E} {lo hi : Es} {p : Nat} {l z : List V} {il iu : List Int} {h3 : AH} {xs : List V} (ea : ev F a σ h = .ok (.ref p, h1)) (el : evs F lo σ h1 = .ok (l, h2)) (eu : evs F hi σ h2 = .ok (z, h3)) (e1 : asInts l = some il) (e2 : asInts z = some iu) (hx : lstAt h3 p = some xs) :
    ev F (.sl a lo hi) σ h = newL (L2.cutV xs il.head? iu.head?) h3 := by
  rw [ev]; dsimp only; rw [ea, Res.bind_ok]; dsimp only; rw [el, Res.bind_ok]; dsimp only; rw [eu, Res.bind_ok]; dsimp only; rw [e1, e2]; dsimp only; rw [hx]
end
theorem cut_take (xs : List Int) (m : Nat) (hm : m ≤ xs.length) : L2.cutV (I xs) none (some (m : Int)) = I (xs.take m) := by
  unfold L2.cutV
  rw [HT.sIx_none, HT.sIx_nat, List.length_map, Nat.min_eq_left hm, List.drop_zero, Nat.sub_zero]
  exact List.map_take.symm
theorem cut_drop (xs : List Int) (m : Nat) (hm : m ≤ xs.length) : L2.cutV (I xs) (some (m : Int)) none = I (xs.drop m) := by
  unfold L2.cutV
  rw [HT.sIx_none, HT.sIx_nat, List.length_map, Nat.min_eq_left hm, show (I xs).drop m = I (xs.drop m) from List.map_drop.symm]
  exact List.take_of_length_le (by simp)
def wrd : Nat → List Int → List Int
  | 0, xs => xs
  | s + 1, xs => List.zipWith xr (wrd s (xs.take (2 ^ s))) (wrd s (xs.drop (2 ^ s))) ++ wrd s (xs.drop (2 ^ s))
theorem wrd_len : ∀ (s : Nat) (xs : List Int), xs.length = 2 ^ s → (wrd s xs).length = 2 ^ s
  | 0, xs, h => h
  | s + 1, xs, h => by
    have h' : xs.length = 2 ^ s + 2 ^ s := by rw [h, Nat.pow_succ]; omega
    have l1 := wrd_len s (xs.take (2 ^ s)) (by rw [List.length_take]; omega)
    have l2 := wrd_len s (xs.drop (2 ^ s)) (by rw [List.length_drop]; omega)
    show (List.zipWith xr (wrd s (xs.take (2 ^ s))) (wrd s (xs.drop (2 ^ s))) ++ wrd s (xs.drop (2 ^ s))).length = _
    rw [List.length_append, List.length_zipWith, l1, l2, Nat.pow_succ]
    omega
theorem pow5 {s : Nat} (h : s ≤ 5) : 2 ^ s ≤ 32 := Nat.le_trans (Nat.pow_le_pow_right (by decide) h) (by decide)
theorem len_ev {F : Nat → List V → AH → RV} {σ : PI.St} {h : AH} {i a : Nat} {xs : List Int} (hσ : σ[i]? = some (some (.ref a))) (ha : isI h a xs) : ev F (.blt .len (e1 (v i))) σ h = .ok (.int xs.length, h) := by
  refine (ev_blt _ _ _ _ .len (evs_cons _ _ _ _ _ (ev_var _ _ _ i hσ) (evs_nil ..))).trans ?_
  simp only [bltV, its_at ha, List.length_map]
theorem eqI_ev {h : AH} (x y : Int) : cmpV .eq (.int x) (.int y) h = some (decide (x = y)) := by
  show some (x == y) = _
  congr 1
/-- halved_word -/
theorem f9 : ∀ (s k : Nat) (h : AH) (a : Nat) (xs : List Int), isI h a xs → xs.length = 2 ^ s → s ≤ 5 →
    ∃ r h', Fk T.fns (k + s + 3) 9 [.ref a] h = .ok (.ref r, h') ∧ Up h h' ∧ h.length ≤ r ∧ isI h' r (wrd s xs)
  | 0, k, h, a, xs, ha, hl, hs => by
    refine ⟨h.length, h ++ [.lst false (I xs)], Fk_ret t9 rfl (by decide) ?_, Up.app h _, Nat.le_refl _, by show _ = some _; simp [wrd]⟩
    refine exs_ifR (h1 := h) ?_ (ret_of ?_)
    · have := ev_cmp (Fk T.fns (k + 0 + 2)) [some (.ref a), none, none, none] h _ _ .eq (len_ev (i := 0) rfl ha) (ev_cst (Fk T.fns (k + 0 + 2)) [some (.ref a), none, none, none] h (.int 1)) (eqI_ev _ _)
      rw [hl] at this
      exact this
    · refine (ev_blt _ _ _ _ .list (evs_cons _ _ _ _ _ (ev_var _ _ _ 0 rfl) (evs_nil ..))).trans ?_
      simp only [bltV, its_at ha]
      rfl
  | s + 1, k, h, a, xs, ha, hl, hs => by
    have h5 := pow5 (show s ≤ 5 by omega)
    have hp : 0 < 2 ^ s := Nat.pow_pos (by decide)
    have hl' : xs.length = 2 ^ s + 2 ^ s := by rw [hl, Nat.pow_succ]; omega
    -- the first half
    have u1 : Up h (h ++ [O.lst false (I (xs.take (2 ^ s)))]) := Up.app h _
    obtain ⟨r2, h2, q2, up2, le2, is2⟩ := f9 s k (h ++ [O.lst false (I (xs.take (2 ^ s)))]) h.length (xs.take (2 ^ s)) (by show _ = some _; simp) (by rw [List.length_take]; omega) (by omega)
    have u2 : Up h h2 := u1.trans up2
    have u3 : Up h2 (h2 ++ [O.lst false (I (xs.drop (2 ^ s)))]) := Up.app h2 _
    obtain ⟨r3, h3, q3, up3, le3, is3⟩ := f9 s k (h2 ++ [O.lst false (I (xs.drop (2 ^ s)))]) h2.length (xs.drop (2 ^ s)) (by show _ = some _; simp) (by rw [List.length_drop]; omega) (by omega)
    have u4 : Up h2 h3 := u3.trans up3
    have is2' : isI h3 r2 (wrd s (xs.take (2 ^ s))) := u4.get is2
    have l2 := wrd_len s (xs.take (2 ^ s)) (by rw [List.length_take]; omega)
    have l3 := wrd_len s (xs.drop (2 ^ s)) (by rw [List.length_drop]; omega)
    obtain ⟨h4, q4, up4, is4⟩ := f6 (k + s + 1) h3 is2' is3 (by rw [l2, l3]) (by omega)
    refine ⟨h4.length, h4 ++ [.lst false (I (wrd (s + 1) xs))], Fk_ret t9 rfl (by decide) ?_, ((u2.trans u4).trans up4).trans (Up.app _ _), ((u2.trans u4).trans up4).1, by show _ = some _; simp⟩
    refine (exs_ifF (h1 := h) ?_).trans ?_
    · have := ev_cmp (Fk T.fns (k + (s + 1) + 2)) [some (.ref a), none, none, none] h _ _ .eq (len_ev (i := 0) rfl ha) (ev_cst (Fk T.fns (k + (s + 1) + 2)) [some (.ref a), none, none, none] h (.int 1)) (eqI_ev _ _)
      rw [decide_eq_false (show ¬ ((xs.length : Int) = 1) by omega)] at this
      exact this
    refine (exs_asg (x := .int ((2 ^ s : Nat) : Int)) (h1 := h) ?_).trans ?_
    · refine (ev_bin _ _ _ _ _ .fdiv (len_ev (i := 0) rfl ha) (ev_cst ..)).trans ?_
      show (if (0 : Int) < 2 ∧ (2 : Int) < 1073741824 then Res.ok (V.int ((xs.length : Int) / 2), h) else .stuck) = _
      rw [if_pos (by decide)]
      congr 3
      omega
    have fk : Fk T.fns (k + (s + 1) + 2) = Fk T.fns (k + s + 3) := by congr 1
    rw [fk]
    refine (exs_asg (x := .ref r2) (h1 := h2) ?_).trans ?_
    · refine (ev_call _ _ _ _ 9 (evs_cons _ _ _ _ _ (x := .ref h.length) (h1 := h ++ [O.lst false (I (xs.take (2 ^ s)))]) ?_ (evs_nil ..))).trans q2
      refine (ev_sl (il := []) (iu := [((2 ^ s : Nat) : Int)]) (ev_var _ _ _ 0 rfl) (evs_nil ..) (evs_cons _ _ _ _ _ (ev_var _ _ _ 1 rfl) (evs_nil ..)) rfl rfl (lst_at ha)).trans ?_
      show newL (L2.cutV (I xs) none (some ((2 ^ s : Nat) : Int))) h = _
      rw [cut_take xs _ (by omega)]
      rfl
    refine (exs_asg (x := .ref r3) (h1 := h3) ?_).trans ?_
    · refine (ev_call _ _ _ _ 9 (evs_cons _ _ _ _ _ (x := .ref h2.length) (h1 := h2 ++ [O.lst false (I (xs.drop (2 ^ s)))]) ?_ (evs_nil ..))).trans q3
      refine (ev_sl (il := [((2 ^ s : Nat) : Int)]) (iu := []) (ev_var _ _ _ 0 rfl) (evs_cons _ _ _ _ _ (ev_var _ _ _ 1 rfl) (evs_nil ..)) (evs_nil ..) rfl rfl (lst_at (u2.get ha))).trans ?_
      show newL (L2.cutV (I xs) (some ((2 ^ s : Nat) : Int)) none) h2 = _
      rw [cut_drop xs _ (by omega)]
      rfl
    refine ret_of ?_
    refine (ev_bin _ _ _ _ _ .add (x := .ref h3.length) (y := .ref r3) (h1 := h4) (h2 := h4) ?_ (ev_var _ _ _ 3 rfl)).trans ?_
    · exact (ev_call _ _ _ _ 6 (evs_cons _ _ _ _ _ (ev_var _ _ _ 2 rfl) (evs_cons _ _ _ _ _ (ev_var _ _ _ 3 rfl) (evs_nil ..)))).trans q4
    · simp only [binV, mut_at is4, mut_at (up4.get is3)]
      rw [if_pos (by simp [lim, l2, l3]; omega)]
      show newL _ h4 = _
      rw [← List.map_append]
      rfl
/-- word_of, of a core of signs -/
theorem f7 {s k : Nat} {h : AH} {a : Nat} {xs : List Int} (g : hg h) (ha : isI h a xs) (hx : sgs xs) (hl : xs.length = 2 ^ s) (h1 : 1 ≤ s) (h5 : s ≤ 5) :
    ∃ r h', Fk T.fns (k + s + 6) 7 [.ref a] h = .ok (.ref r, h') ∧ Up h h' ∧ h.length ≤ r ∧ isI h' r (wrd s xs) := by
  have hp := pow5 h5
  have hc : (xs.length : Int) = lens.getD s 0 := by
    rw [hl]
    have : s = 1 ∨ s = 2 ∨ s = 3 ∨ s = 4 ∨ s = 5 := by omega
    rcases this with rfl | rfl | rfl | rfl | rfl <;> rfl
  obtain ⟨h2, q2, u2⟩ := f8 (k + s) h g ha hx (by omega) ⟨s, h1, by omega, hc⟩
  obtain ⟨r, h3, q3, u3, l3, i3⟩ := f9 s (k + 2) h2 a xs (u2.get ha) hl h5
  refine ⟨r, h3, Fk_ret t7 rfl (by decide) ?_, u2.trans u3, Nat.le_trans u2.1 l3, i3⟩
  refine (exs_ifF (h1 := h2) ?_).trans (ret_of ?_)
  · exact ev_not _ _ _ _ (t := true) ((ev_call _ _ _ _ 8 (evs_cons _ _ _ _ _ (ev_var _ _ _ 0 rfl) (evs_nil ..))).trans q2)
  · refine (ev_call _ _ _ _ 9 (evs_cons _ _ _ _ _ (ev_var _ _ _ 0 rfl) (evs_nil ..))).trans ?_
    have : k + s + 5 = k + 2 + s + 3 := by omega
    rw [this]
    exact q3
end My

set_option Elab.async false
set_option linter.all false
set_option maxRecDepth 100000
set_option maxHeartbeats 4000000
namespace My
open PySem PySem.Spec L2 PI
def b10 : Ss := .cons (.asg (.name 2) (.idx (.bin .add (.sl (v 0) (e1 (v 1)) (e1 (.bin .add (v 1) (n 1)))) (.lst (e1 (n 0)))) (n 0)))
  (.cons (.asg (.name 3) (.blt .max (e2 (v 2) (.bin .sub (.neg (n 1)) (v 2)))))
  (.cons (.asg (.name 4) (.bin .mod (.bin .add (.bin .add (.bin .add (.bin .mod (v 3) (n 2147483629)) (.bin .mul (n 7919) (v 1))) (.bin .mul (.bin .mul (n 104729) (v 1)) (v 1))) (n 11)) (n 2147483629)))
  (.cons (.ret (.lst (.cons (v 3) (.cons (v 4) (.cons (.cmp .ge (v 3) (.bin .pow (n 10) (n 18))) .nil))))) .nil)))
def b11t : Ss := .cons (.asg (.name 2) (.bin .mod (.idx (v 0) (n 0)) (v 1))) (.cons (.put (v 0) (n 0) (.bin .fdiv (.idx (v 0) (n 0)) (v 1))) (.cons (.put (v 0) (n 2) (.cmp .gt (.idx (v 0) (n 0)) (n 0))) (.cons (.ret (v 2)) .nil)))
def b11l : Ss := .cons (.put (v 0) (n 1) (.bin .mod (.bin .add (.bin .mul (.idx (v 0) (n 1)) (n 48271)) (n 11)) (n 2147483647)))
  (.cons (.asg (.name 3) (.bin .add (.bin .mul (v 3) (n 2147483587)) (.bin .mod (.bin .mul (.idx (v 0) (n 1)) (.idx (v 0) (n 1))) (n 2147483587)))) .nil)
def b11 : Ss := .cons (.ifs (.idx (v 0) (n 2)) b11t .nil) (.cons (.asg (.name 3) (n 0))
  (.cons (.for_ (.name 4) (.rng1 (.bin .add (n 1) (.blt .int (e1 (.cmp .gt (v 1) (.bin .pow (n 10) (n 6))))))) b11l) (.cons (.ret (.bin .mod (.bin .fdiv (v 3) (n 64)) (v 1))) .nil)))
theorem t10 : T.fns[10]? = some ⟨2, 5, b10⟩ := by kernel_rfl
theorem t11 : T.fns[11]? = some ⟨2, 5, b11⟩ := by kernel_rfl
section
variable {F : Nat → List V → AH → RV} {σ : PI.St} {h h1 h2 h3 : AH} {r : Ss}
theorem exs_put {o i e : E} {x : V} {a j : Nat} {xs : List V} (q1 : ev F e σ h = .ok (x, h1)) (q2 : ev F o σ h1 = .ok (.ref a, h2)) (q3 : ev F i σ h2 = .ok (.int (j : Int), h3)) (hm : h3[a]? = some (.lst false xs)) (hj : j < xs.length) :
    exs F (.cons (.put o i e) r) σ h = exs F r σ (h3.set a (.lst false (xs.set j x))) := by
  rw [exs]; dsimp only; rw [ex]; dsimp only; rw [q1, Res.bind_ok]; dsimp only; rw [q2, Res.bind_ok]; dsimp only; rw [q3, Res.bind_ok]; dsimp only; rw [mut_at hm]; dsimp only; rw [ixN_nat hj]; dsimp only; rw [Res.bind_ok]
/-- the state: two numbers and a truth -/
abbrev stA (h : AH) (st : Nat) (A B : Int) (C : Bool) : Prop := h[st]? = some (.lst false [.int A, .int B, .bl C])
theorem ix_st {st j : Nat} {A B : Int} {C : Bool} {x : V} (hσ : σ[0]? = some (some (.ref st))) (hs : stA h st A B C) (hj : [V.int A, V.int B, V.bl C][j]? = some x) : ev F (.idx (v 0) (n (j : Int))) σ h = .ok (x, h) :=
  ev_idx _ _ _ _ _ (ev_var _ _ _ 0 hσ) (ev_cst ..) (its_at hs) (ixN_nat (List.getElem?_eq_some_iff.mp hj).1) hj
end
theorem f11 (k : Nat) {h : AH} {st : Nat} {A B m : Int} {C : Bool} (hs : stA h st A B C) (hA : 0 ≤ A) (hB : 0 ≤ B ∧ B < 2147483647) (hm : 0 < m ∧ m ≤ 1000000) :
    ∃ r A' B' C', Fk T.fns (k + 1) 11 [.ref st, .int m] h = .ok (.int r, h.set st (.lst false [.int A', .int B', .bl C'])) ∧ (0 ≤ r ∧ r < m) ∧ 0 ≤ A' ∧ (0 ≤ B' ∧ B' < 2147483647) := by
  have hlt := (List.getElem?_eq_some_iff.mp hs).1
  have sset : ∀ (h' : AH) (l l' : List V), (h'.set st (.lst false l)).set st (.lst false l') = h'.set st (.lst false l') := fun h' l l' => List.set_set _
  cases C with
  | true =>
    refine ⟨A % m, A / m, B, decide (0 < A / m), Fk_ret t11 rfl (by decide) ?_, ⟨Int.emod_nonneg _ (by omega), Int.emod_lt_of_pos _ hm.1⟩, Int.ediv_nonneg hA (by omega), hB⟩
    refine exs_ifR (h1 := h) (ix_st (j := 2) rfl hs rfl) ?_
    refine (exs_asg (x := .int (A % m)) (h1 := h) ?_).trans ?_
    · refine (ev_bin _ _ _ _ _ .mod (ix_st (j := 0) rfl hs rfl) (ev_var _ _ _ 1 rfl)).trans ?_
      show (if 0 < m then Res.ok (V.int (A % m), h) else .stuck) = _
      rw [if_pos hm.1]
    refine (exs_put (j := 0) (x := .int (A / m)) (h1 := h) ?_ (ev_var _ _ _ 0 rfl) (ev_cst ..) hs (by simp)).trans ?_
    · refine (ev_bin _ _ _ _ _ .fdiv (ix_st (j := 0) rfl hs rfl) (ev_var _ _ _ 1 rfl)).trans ?_
      show (if 0 < m ∧ m < 1073741824 then Res.ok (V.int (A / m), h) else .stuck) = _
      rw [if_pos ⟨hm.1, by omega⟩]
    have hs2 : stA (h.set st (.lst false [.int (A / m), .int B, .bl true])) st (A / m) B true := by show _ = some _; rw [List.getElem?_set_self hlt]
    show exs _ _ _ (h.set st (.lst false [.int (A / m), .int B, .bl true])) = _
    refine (exs_put (j := 2) (x := .bl (decide (0 < A / m))) (h1 := h.set st (.lst false [.int (A / m), .int B, .bl true])) ?_ (ev_var _ _ _ 0 rfl) (ev_cst ..) hs2 (by simp)).trans ?_
    · exact ev_cmp _ _ _ _ _ .gt (ix_st (j := 0) rfl hs2 rfl) (ev_cst ..) rfl
    show exs _ _ _ ((h.set st (.lst false [.int (A / m), .int B, .bl true])).set st (.lst false [.int (A / m), .int B, .bl (decide (0 < A / m))])) = _
    rw [sset]
    exact ret_of (ev_var _ _ _ 2 rfl)
  | false =>
    have hB' : 0 ≤ (B * 48271 + 11) % 2147483647 ∧ (B * 48271 + 11) % 2147483647 < 2147483647 := ⟨Int.emod_nonneg _ (by decide), Int.emod_lt_of_pos _ (by decide)⟩
    generalize hb : (B * 48271 + 11) % 2147483647 = B' at hB'
    have hs2 : stA (h.set st (.lst false [.int A, .int B', .bl false])) st A B' false := by show _ = some _; rw [List.getElem?_set_self hlt]
    refine ⟨(0 * 2147483587 + B' * B' % 2147483587) / 64 % m, A, B', false, Fk_ret t11 rfl (by decide) ?_, ⟨Int.emod_nonneg _ (by omega), Int.emod_lt_of_pos _ hm.1⟩, hA, hB'⟩
    refine (exs_ifF (h1 := h) (ix_st (j := 2) rfl hs rfl)).trans ?_
    refine (exs_asg (x := .int 0) (h1 := h) (ev_cst ..)).trans ?_
    have body : exs (Fk T.fns k) b11l [some (.ref st), some (.int m), none, some (.int 0), some (.int (0 + ((0 : Nat) : Int)))] h = .ok (.nx [some (.ref st), some (.int m), none, some (.int (0 * 2147483587 + B' * B' % 2147483587)), some (.int (0 + ((0 : Nat) : Int)))], h.set st (.lst false [.int A, .int B', .bl false])) := by
      refine (exs_put (j := 1) (x := .int B') (h1 := h) ?_ (ev_var _ _ _ 0 rfl) (ev_cst ..) hs (by simp)).trans ?_
      · refine (ev_bin _ _ _ _ _ .mod (x := .int (B * 48271 + 11)) (h1 := h) ?_ (ev_cst ..)).trans ?_
        · refine (ev_bin _ _ _ _ _ .add (x := .int (B * 48271)) (h1 := h) ?_ (ev_cst ..)).trans rfl
          refine (ev_bin _ _ _ _ _ .mul (ix_st (j := 1) rfl hs rfl) (ev_cst ..)).trans ?_
          show (if (small B || small 48271) = true then Res.ok (V.int (B * 48271), h) else .stuck) = _
          rw [if_pos (by rw [show small 48271 = true by decide]; simp)]
        · show (if (0 : Int) < 2147483647 then Res.ok (V.int ((B * 48271 + 11) % 2147483647), h) else .stuck) = _
          rw [if_pos (by decide), hb]
      show exs _ _ _ (h.set st (.lst false [.int A, .int B', .bl false])) = _
      refine (exs_asg (x := .int (0 * 2147483587 + B' * B' % 2147483587)) (h1 := h.set st (.lst false [.int A, .int B', .bl false])) ?_).trans ?_
      · refine (ev_bin _ _ _ _ _ .add (x := .int (0 * 2147483587)) (y := .int (B' * B' % 2147483587)) (h1 := h.set st (.lst false [.int A, .int B', .bl false])) ?_ ?_).trans rfl
        · refine (ev_bin _ _ _ _ _ .mul (ev_var _ _ _ 3 rfl) (ev_cst ..)).trans ?_
          rfl
        · refine (ev_bin _ _ _ _ _ .mod (x := .int (B' * B')) (h1 := h.set st (.lst false [.int A, .int B', .bl false])) ?_ (ev_cst ..)).trans ?_
          · refine (ev_bin _ _ _ _ _ .mul (ix_st (j := 1) rfl hs2 rfl) (ix_st (j := 1) rfl hs2 rfl)).trans ?_
            show (if (small B' || small B') = true then Res.ok (V.int (B' * B'), _) else .stuck) = _
            rw [if_pos (by
              have : small B' = true := by unfold small two64; exact decide_eq_true (by omega)
              rw [this]; rfl)]
          · rfl
      rfl
    have floop : exs (Fk T.fns k) (.cons (.for_ (.name 4) (.rng1 (.bin .add (n 1) (.blt .int (e1 (.cmp .gt (v 1) (.bin .pow (n 10) (n 6))))))) b11l) (.cons (.ret (.bin .mod (.bin .fdiv (v 3) (n 64)) (v 1))) .nil)) [some (.ref st), some (.int m), none, some (.int 0), none] h
        = exs (Fk T.fns k) (.cons (.ret (.bin .mod (.bin .fdiv (v 3) (n 64)) (v 1))) .nil) [some (.ref st), some (.int m), none, some (.int (0 * 2147483587 + B' * B' % 2147483587)), some (.int (0 + ((0 : Nat) : Int)))] (h.set st (.lst false [.int A, .int B', .bl false])) := by
      have qi : evi (Fk T.fns k) (.rng1 (.bin .add (n 1) (.blt .int (e1 (.cmp .gt (v 1) (.bin .pow (n 10) (n 6))))))) [some (.ref st), some (.int m), none, some (.int 0), none] h = .ok (.rng 0 1, h) := by
        have q1 : ev (Fk T.fns k) (.cmp .gt (v 1) (.bin .pow (n 10) (n 6))) [some (.ref st), some (.int m), none, some (.int 0), none] h = .ok (.bl false, h) := by
          refine ev_cmp _ _ _ _ _ .gt (y := .int 1000000) (ev_var _ _ _ 1 rfl) (ev_bin _ _ _ _ _ .pow (ev_cst ..) (ev_cst ..)) ?_
          show some (decide ((1000000 : Int) < m)) = _
          rw [decide_eq_false (by omega)]
        have q2 : ev (Fk T.fns k) (.bin .add (n 1) (.blt .int (e1 (.cmp .gt (v 1) (.bin .pow (n 10) (n 6)))))) [some (.ref st), some (.int m), none, some (.int 0), none] h = .ok (.int 1, h) := by
          refine (ev_bin _ _ _ _ _ .add (y := .int 0) (h2 := h) (ev_cst ..) ?_).trans rfl
          exact (ev_blt _ _ _ _ .int (evs_cons _ _ _ _ _ q1 (evs_nil ..))).trans rfl
        rw [evi]; dsimp only; rw [q2, Res.bind_ok]
        rfl
      rw [exs]; dsimp only
      rw [ex]; dsimp only
      rw [qi, Res.bind_ok]
      show (forL (.rng 0 1) (.name 4) (exs (Fk T.fns k) b11l) 1 0 [some (.ref st), some (.int m), none, some (.int 0), none] h).bind _ = _
      have : forL (.rng 0 1) (.name 4) (exs (Fk T.fns k) b11l) 1 0 [some (.ref st), some (.int m), none, some (.int 0), none] h = .ok (.nx [some (.ref st), some (.int m), none, some (.int (0 * 2147483587 + B' * B' % 2147483587)), some (.int (0 + ((0 : Nat) : Int)))], h.set st (.lst false [.int A, .int B', .bl false])) := by
        unfold forL
        show (exs (Fk T.fns k) b11l [some (.ref st), some (.int m), none, some (.int 0), some (.int (0 + ((0 : Nat) : Int)))] h).bind _ = _
        rw [body, Res.bind_ok]
        rfl
      rw [this, Res.bind_ok]
    refine Eq.trans ?_ (floop.trans (ret_of ?_))
    · rfl
    · refine (ev_bin _ _ _ _ _ .mod (x := .int ((0 * 2147483587 + B' * B' % 2147483587) / 64)) (h1 := h.set st (.lst false [.int A, .int B', .bl false])) ?_ (ev_var _ _ _ 1 rfl)).trans ?_
      · exact (ev_bin _ _ _ _ _ .fdiv (ev_var _ _ _ 3 rfl) (ev_cst ..)).trans rfl
      · show (if 0 < m then Res.ok (V.int ((0 * 2147483587 + B' * B' % 2147483587) / 64 % m), _) else .stuck) = _
        rw [if_pos hm.1]
end My

set_option Elab.async false
set_option linter.all false
set_option maxRecDepth 100000
set_option maxHeartbeats 4000000
namespace My
open PySem PySem.Spec L2 PI
theorem compL_ex {F : Nat → List V → AH → RV} {s : Src} {g : Tg} {e : PI.St → AH → RV} {D N : Nat} (Inv : Nat → PI.St → AH → Prop) (P : V → Prop)
    (step : ∀ i σ h, i < N → Inv i σ h → ∃ x h1 σ1 y h2, yieldAt h i s = some (x, h1) ∧ store g x σ h1 = some σ1 ∧ e σ1 h1 = .ok (y, h2) ∧ P y ∧ h2[D]? = h[D]? ∧ ∀ l, Inv (i + 1) σ1 (h2.set D (.lst false l)))
    (done : ∀ σ h, Inv N σ h → stopAt h N s = true) : ∀ m i ys σ h, i + m = N → ys.length + m < lim → Inv i σ h → h[D]? = some (.lst false ys) →
      ∃ σ' h' zs, compL s g (evc F .nil) e D m i ys σ h = .ok (.ref D, h') ∧ h'[D]? = some (.lst false (ys ++ zs)) ∧ zs.length = m ∧ (∀ z ∈ zs, P z) ∧ Inv N σ' h'
  | 0, i, ys, σ, h, hi, hl, iv, hD => by
    have hi' : i = N := by omega
    subst hi'
    exact ⟨σ, h, [], by unfold compL; rw [done σ h iv]; rfl, by simpa using hD, rfl, by simp, iv⟩
  | m + 1, i, ys, σ, h, hi, hl, iv, hD => by
    obtain ⟨x, h1, σ1, y, h2, e1, e2, e3, py, e4, nx⟩ := step i σ h (by omega) iv
    have hD2 : h2[D]? = some (.lst false ys) := e4.trans hD
    have hlt := (List.getElem?_eq_some_iff.mp hD2).1
    obtain ⟨σ', h', zs, r1, r2, r3, r4, r5⟩ := compL_ex (F := F) Inv P step done m (i + 1) (ys ++ [y]) σ1 (h2.set D (.lst false (ys ++ [y]))) (by omega) (by simp; omega) (nx _) (by rw [List.getElem?_set_self hlt])
    refine ⟨σ', h', y :: zs, ?_, by rw [r2, List.append_assoc]; rfl, by simp [r3], fun z hz => ?_, r5⟩
    · unfold compL
      rw [e1]
      dsimp only
      rw [e2]
      dsimp only
      unfold evc
      rw [Res.bind_ok]
      dsimp only
      rw [if_pos rfl, e3, Res.bind_ok]
      dsimp only
      rw [if_pos ⟨hD2, by omega⟩]
      exact r1
    · rcases List.mem_cons.mp hz with rfl | hz
      · exact py
      · exact r4 z hz
/-- all but the state stands -/
def UpS (st : Nat) (h h' : AH) : Prop := h.length ≤ h'.length ∧ ∀ j, j < h.length → j ≠ st → h'[j]? = h[j]?
theorem UpS.refl (st : Nat) (h : AH) : UpS st h h := ⟨Nat.le_refl _, fun _ _ _ => rfl⟩
theorem UpS.trans {st : Nat} {a b c : AH} (x : UpS st a b) (y : UpS st b c) : UpS st a c := ⟨Nat.le_trans x.1 y.1, fun j hj hn => (y.2 j (Nat.lt_of_lt_of_le hj x.1) hn).trans (x.2 j hj hn)⟩
theorem Up.s {st : Nat} {h h' : AH} (x : Up h h') : UpS st h h' := ⟨x.1, fun j hj _ => x.2 j hj⟩
theorem UpS.setS {st : Nat} {h h' : AH} (x : UpS st h h') (o : O) : UpS st h (h'.set st o) := ⟨by simpa using x.1, fun j hj hn => by rw [List.getElem?_set_ne (Ne.symm hn)]; exact x.2 j hj hn⟩
theorem UpS.set {st : Nat} {h h' : AH} (x : UpS st h h') {D : Nat} (hD : h.length ≤ D) (o : O) : UpS st h (h'.set D o) := ⟨by simpa using x.1, fun j hj hn => by rw [List.getElem?_set_ne (by omega)]; exact x.2 j hj hn⟩
theorem UpS.get {st : Nat} {h h' : AH} (x : UpS st h h') {j : Nat} {o : O} (hn : j ≠ st) (e : h[j]? = some o) : h'[j]? = some o := (x.2 j (List.getElem?_eq_some_iff.mp e).1 hn).trans e
/-- a state as the draws leave it -/
def Good (h : AH) (st : Nat) : Prop := ∃ A B C, stA h st A B C ∧ 0 ≤ A ∧ (0 ≤ B ∧ B < 2147483647)
theorem Good.lt {h : AH} {st : Nat} (g : Good h st) : st < h.length := let ⟨_, _, _, e, _⟩ := g; (List.getElem?_eq_some_iff.mp e).1
theorem Good.up {h h' : AH} {st : Nat} (g : Good h st) (u : Up h h') : Good h' st := let ⟨A, B, C, e, r⟩ := g; ⟨A, B, C, u.get e, r⟩
theorem Good.set {h : AH} {st D : Nat} (g : Good h st) (hn : st ≠ D) (o : O) : Good (h.set D o) st := let ⟨A, B, C, e, r⟩ := g; ⟨A, B, C, by show _ = some _; rw [List.getElem?_set_ne (Ne.symm hn)]; exact e, r⟩
/-- a draw -/
theorem take (k : Nat) {h : AH} {st : Nat} {m : Int} (g : Good h st) (hm : 0 < m ∧ m ≤ 1000000) : ∃ r h', Fk T.fns (k + 1) 11 [.ref st, .int m] h = .ok (.int r, h') ∧ (0 ≤ r ∧ r < m) ∧ UpS st h h' ∧ h'.length = h.length ∧ Good h' st := by
  obtain ⟨A, B, C, e, hA, hB⟩ := g
  obtain ⟨r, A', B', C', q, hr, hA', hB'⟩ := f11 k e hA hB hm
  exact ⟨r, _, q, hr, (UpS.refl st h).setS _, by simp, A', B', C', by show _ = some _; rw [List.getElem?_set_self (List.getElem?_eq_some_iff.mp e).1], hA', hB'⟩
def b12a : Ss := .cons (.asg (.name 3) (.call 11 (e2 (v 0) (v 1)))) (.cons (.ret (.comp (.rng1 (v 1)) [none, some 3] (.name 0) .nil (.blt .int (e1 (.cmp .eq (v 0) (v 1)))))) .nil)
def b12 : Ss := .cons (.asg (.name 2) (.call 11 (e2 (v 0) (n 4)))) (.cons (.ifs (.cmp .eq (v 2) (n 0)) b12a .nil)
  (.cons (.asg (.name 4) (.comp (.rng1 (v 1)) [none, some 0] (.name 0) .nil (.call 11 (e2 (v 1) (n 2)))))
  (.cons (.ifs (.cmp .eq (v 2) (n 1)) (.cons (.asg (.name 4) (.comp (.list (v 4)) [none, some 0] (.name 0) .nil (.blt .int (e1 (.and (.cmp .eq (v 0) (n 1)) (.cmp .eq (.call 11 (e2 (v 1) (n 4))) (n 0))))))) .nil) .nil) (.cons (.ret (v 4)) .nil))))
def b13 : Ss := .cons (.ret (.comp (.zip (v 0) (v 1)) [none, none] (.tup [0, 1]) .nil (.blt .int (e1 (.cmp .ne (v 0) (v 1)))))) .nil
theorem t12 : T.fns[12]? = some ⟨2, 5, b12⟩ := by kernel_rfl
theorem t13 : T.fns[13]? = some ⟨2, 2, b13⟩ := by kernel_rfl
def PSg (x : V) : Prop := ∃ i, x = .int i ∧ sg i
theorem ints_of : ∀ {zs : List V}, (∀ z ∈ zs, PSg z) → ∃ xs : List Int, zs = I xs ∧ sgs xs ∧ xs.length = zs.length
  | [], _ => ⟨[], rfl, by intro x hx; simp at hx, rfl⟩
  | z :: zs, h => by
    obtain ⟨i, rfl, hi⟩ := h z List.mem_cons_self
    obtain ⟨xs, rfl, h1, h2⟩ := ints_of fun z hz => h z (List.mem_cons_of_mem _ hz)
    exact ⟨i :: xs, rfl, fun x hx => by rcases List.mem_cons.mp hx with rfl | hx; exact hi; exact h1 x hx, by simp⟩
theorem b2i_sg (t : Bool) : sg (if t then 1 else 0) := by cases t; exact .inl rfl; exact .inr rfl
theorem rng_ev {F : Nat → List V → AH → RV} {σ : PI.St} {h : AH} {i m : Nat} (hσ : σ[i]? = some (some (.int (m : Int)))) (hm : m ≤ 1000) : evi F (.rng1 (v i)) σ h = .ok (.rng 0 m, h) := by
  rw [evi]; dsimp only; rw [ev_var _ _ _ i hσ, Res.bind_ok]
  show (if -1000000 ≤ (m : Int) ∧ (m : Int) ≤ 1000000 then _ else _) = _
  rw [if_pos (by omega)]
  simp
end My

set_option Elab.async false
set_option linter.all false
set_option maxRecDepth 100000
set_option maxHeartbeats 4000000
namespace My
open PySem PySem.Spec L2 PI
theorem exs_ifN {F : Nat → List V → AH → RV} {σ σ2 : PI.St} {h h1 h2 : AH} {c : E} {t u r : Ss} (q : ev F c σ h = .ok (.bl true, h1)) (q2 : exs F t σ h1 = .ok (.nx σ2, h2)) : exs F (.cons (.ifs c t u) r) σ h = exs F r σ2 h2 := by
  rw [exs]; dsimp only; rw [ex]; dsimp only; rw [asB_mk q, Res.bind_ok]; dsimp only; rw [if_pos rfl, q2, Res.bind_ok]
theorem exs_nil1 {F : Nat → List V → AH → RV} {σ : PI.St} {h : AH} : exs F .nil σ h = .ok (.nx σ, h) := by rw [exs]
/-- a drawn core -/
theorem f12 (k : Nat) {h : AH} {st m : Nat} (g : Good h st) (hm : 0 < m ∧ m ≤ 32) :
    ∃ r h' xs, Fk T.fns (k + 2) 12 [.ref st, .int (m : Int)] h = .ok (.ref r, h') ∧ UpS st h h' ∧ Good h' st ∧ h.length ≤ r ∧ isI h' r xs ∧ sgs xs ∧ xs.length = m := by
  obtain ⟨w, h1, q1, hw, u1, l1, g1⟩ := take k g (m := 4) (by decide)
  have A1 : ev (Fk T.fns (k + 1)) (.call 11 (e2 (v 0) (n 4))) [some (.ref st), some (.int (m : Int)), none, none, none] h = .ok (.int w, h1) :=
    (ev_call _ _ _ _ 11 (evs_cons _ _ _ _ _ (ev_var _ _ _ 0 rfl) (evs_cons _ _ _ _ _ (ev_cst ..) (evs_nil ..)))).trans q1
  by_cases hw0 : w = 0
  · -- one sign 1
    subst hw0
    obtain ⟨p, h2, q2, hp, u2, l2, g2⟩ := take k g1 (m := (m : Int)) (by omega)
    have hD : (h2 ++ [O.lst false []])[h2.length]? = some (.lst false []) := by simp
    obtain ⟨σ', h', zs, r1, r2, r3, r4, r5⟩ := compL_ex (F := Fk T.fns (k + 1)) (s := .rng 0 m) (g := .name 0) (e := ev (Fk T.fns (k + 1)) (.blt .int (e1 (.cmp .eq (v 0) (v 1))))) (D := h2.length) (N := m)
      (fun i σ h' => Up h2 h' ∧ ∃ o, σ = [o, some (.int p)]) PSg
      (fun i σ h' hi ⟨hu, o, hσ⟩ => by
        subst hσ
        refine ⟨.int (0 + (i : Int)), h', [some (.int (0 + (i : Int))), some (.int p)], .int (if decide (0 + (i : Int) = p) then 1 else 0), h', ?_, rfl, ?_, ⟨_, rfl, b2i_sg _⟩, rfl, fun l => ⟨hu.set (Nat.le_refl _) _, _, rfl⟩⟩
        · show (if i < m then some (V.int (0 + (i : Int)), h') else none) = _
          rw [if_pos hi]
        · exact (ev_blt _ _ _ _ .int (evs_cons _ _ _ _ _ (ev_cmp _ _ _ _ _ .eq (ev_var _ _ _ 0 rfl) (ev_var _ _ _ 1 rfl) (eqI_ev _ _)) (evs_nil ..))).trans rfl)
      (fun σ h' _ => by simp [stopAt])
      m 0 [] [none, some (.int p)] (h2 ++ [O.lst false []]) (by omega) (by simp [lim]; omega) ⟨Up.app _ _, none, rfl⟩ hD
    obtain ⟨xs, rfl, s1, s2⟩ := ints_of r4
    refine ⟨h2.length, h', xs, Fk_ret t12 rfl (by decide) ?_, (u1.trans u2).trans (Up.s r5.1), g2.up r5.1, (u1.trans u2).1, by simpa using r2, s1, by rw [s2]; exact r3⟩
    refine (exs_asg (x := .int 0) (h1 := h1) A1).trans ?_
    refine exs_ifR (h1 := h1) (ev_cmp _ _ _ _ _ .eq (ev_var _ _ _ 2 rfl) (ev_cst ..) (eqI_ev _ _)) ?_
    refine (exs_asg (x := .int p) (h1 := h2) ?_).trans ?_
    · exact (ev_call _ _ _ _ 11 (evs_cons _ _ _ _ _ (ev_var _ _ _ 0 rfl) (evs_cons _ _ _ _ _ (ev_var _ _ _ 1 rfl) (evs_nil ..)))).trans q2
    · exact ret_of ((ev_comp _ _ _ _ _ _ _ _ (s := .rng 0 m) (h1 := h2) (m := m) (rng_ev (i := 1) rfl (by omega)) rfl).trans r1)
  · -- any signs
    have hD : (h1 ++ [O.lst false []])[h1.length]? = some (.lst false []) := by simp
    have hst : st < h1.length := g1.lt
    obtain ⟨σ', h2, zs, r1, r2, r3, r4, r5⟩ := compL_ex (F := Fk T.fns (k + 1)) (s := .rng 0 m) (g := .name 0) (e := ev (Fk T.fns (k + 1)) (.call 11 (e2 (v 1) (n 2)))) (D := h1.length) (N := m)
      (fun i σ h' => UpS st h1 h' ∧ h1.length < h'.length ∧ Good h' st ∧ ∃ o, σ = [o, some (.ref st)]) PSg
      (fun i σ h' hi ⟨hu, hlt, hgd, o, hσ⟩ => by
        subst hσ
        obtain ⟨x, h2, q2, hx, u2, l2, g2⟩ := take k hgd (m := 2) (by decide)
        refine ⟨.int (0 + (i : Int)), h', [some (.int (0 + (i : Int))), some (.ref st)], .int x, h2, ?_, rfl, ?_, ⟨x, rfl, by unfold sg; omega⟩, u2.2 _ hlt (by omega), fun l => ⟨(hu.trans u2).set (Nat.le_refl _) _, by simp [l2]; omega, g2.set (by omega) _, _, rfl⟩⟩
        · show (if i < m then some (V.int (0 + (i : Int)), h') else none) = _
          rw [if_pos hi]
        · exact (ev_call _ _ _ _ 11 (evs_cons _ _ _ _ _ (ev_var _ _ _ 1 rfl) (evs_cons _ _ _ _ _ (ev_cst ..) (evs_nil ..)))).trans q2)
      (fun σ h' _ => by simp [stopAt])
      m 0 [] [none, some (.ref st)] (h1 ++ [O.lst false []]) (by omega) (by simp [lim]; omega) ⟨Up.s (Up.app _ _), by simp, g1.up (Up.app _ _), none, rfl⟩ hD
    obtain ⟨xs, rfl, s1, s2⟩ := ints_of r4
    obtain ⟨u2, lt2, g2, _⟩ := r5
    have is2 : isI h2 h1.length xs := by simpa using r2
    have comp1 : ∀ {σ : PI.St}, σ[1]? = some (some (.int (m : Int))) → L2.inner [none, some 0] σ = [none, some (.ref st)] → ev (Fk T.fns (k + 1)) (.comp (.rng1 (v 1)) [none, some 0] (.name 0) .nil (.call 11 (e2 (v 1) (n 2)))) σ h1 = .ok (.ref h1.length, h2) := fun {σ} hσ hin => by
      refine (ev_comp _ _ _ _ _ _ _ _ (s := .rng 0 m) (h1 := h1) (m := m) (rng_ev (i := 1) hσ (by omega)) rfl).trans ?_
      rw [hin]
      exact r1
    have if0 : ev (Fk T.fns (k + 1)) (.cmp .eq (v 2) (n 0)) [some (.ref st), some (.int (m : Int)), some (.int w), none, none] h1 = .ok (.bl false, h1) := by
      have := ev_cmp (Fk T.fns (k + 1)) [some (.ref st), some (.int (m : Int)), some (.int w), none, none] h1 (v 2) (n 0) .eq (ev_var _ _ _ 2 rfl) (ev_cst ..) (eqI_ev _ _)
      rwa [decide_eq_false hw0] at this
    by_cases hw1 : w = 1
    · -- few signs 1
      have hD3 : (h2 ++ [O.lst false []])[h2.length]? = some (.lst false []) := by simp
      have hst2 : st < h2.length := g2.lt
      have ne1 : h1.length ≠ st := by omega
      obtain ⟨σ3, h3, ws, t1, t2, t3, t4, t5⟩ := compL_ex (F := Fk T.fns (k + 1)) (s := .list h1.length) (g := .name 0) (e := ev (Fk T.fns (k + 1)) (.blt .int (e1 (.and (.cmp .eq (v 0) (n 1)) (.cmp .eq (.call 11 (e2 (v 1) (n 4))) (n 0)))))) (D := h2.length) (N := m)
        (fun i σ h' => UpS st h2 h' ∧ h2.length < h'.length ∧ Good h' st ∧ ∃ o, σ = [o, some (.ref st)]) PSg
        (fun i σ h' hi ⟨hu, hlt, hgd, o, hσ⟩ => by
          subst hσ
          have hix : i < xs.length := by rw [s2]; omega
          have hy : yieldAt h' i (.list h1.length) = some (.int xs[i], h') := by
            simp only [yieldAt, lst_at (hu.get ne1 is2), List.getElem?_map, List.getElem?_eq_getElem hix]
            rfl
          by_cases hx1 : xs[i] = 1
          · obtain ⟨x, h4, q4, hx, u4, l4, g4⟩ := take k hgd (m := 4) (by decide)
            refine ⟨_, h', [some (.int xs[i]), some (.ref st)], .int (if decide (x = 0) then 1 else 0), h4, hy, rfl, ?_, ⟨_, rfl, b2i_sg _⟩, u4.2 _ hlt (by omega), fun l => ⟨(hu.trans u4).set (Nat.le_refl _) _, by simp [l4]; omega, g4.set (by omega) _, _, rfl⟩⟩
            refine (ev_blt _ _ _ _ .int (evs_cons _ _ _ _ _ (x := .bl (decide (x = 0))) (h1 := h4) ?_ (evs_nil ..))).trans rfl
            refine (ev_andT _ _ _ _ _ (h1 := h') ?_).trans ?_
            · have := ev_cmp (Fk T.fns (k + 1)) [some (.int xs[i]), some (.ref st)] h' (v 0) (n 1) .eq (ev_var _ _ _ 0 rfl) (ev_cst ..) (eqI_ev _ _)
              rwa [decide_eq_true hx1] at this
            · exact ev_cmp _ _ _ _ _ .eq ((ev_call _ _ _ _ 11 (evs_cons _ _ _ _ _ (ev_var _ _ _ 1 rfl) (evs_cons _ _ _ _ _ (ev_cst ..) (evs_nil ..)))).trans q4) (ev_cst ..) (eqI_ev _ _)
          · refine ⟨_, h', [some (.int xs[i]), some (.ref st)], .int 0, h', hy, rfl, ?_, ⟨0, rfl, .inl rfl⟩, rfl, fun l => ⟨hu.set (Nat.le_refl _) _, by simp; omega, hgd.set (by omega) _, _, rfl⟩⟩
            refine (ev_blt _ _ _ _ .int (evs_cons _ _ _ _ _ (x := .bl false) (h1 := h') ?_ (evs_nil ..))).trans rfl
            refine ev_andF _ _ _ _ _ ?_
            have := ev_cmp (Fk T.fns (k + 1)) [some (.int xs[i]), some (.ref st)] h' (v 0) (n 1) .eq (ev_var _ _ _ 0 rfl) (ev_cst ..) (eqI_ev _ _)
            rwa [decide_eq_false hx1] at this)
        (fun σ h' ⟨hu, _⟩ => by simp [stopAt, lst_at (hu.get ne1 is2), s2, r3])
        m 0 [] [none, some (.ref st)] (h2 ++ [O.lst false []]) (by omega) (by simp [lim]; omega) ⟨Up.s (Up.app _ _), by simp, g2.up (Up.app _ _), none, rfl⟩ hD3
      obtain ⟨ys, rfl, y1, y2⟩ := ints_of t4
      refine ⟨h2.length, h3, ys, Fk_ret t12 rfl (by decide) ?_, (u1.trans u2).trans t5.1, t5.2.2.1, (u1.trans u2).1, by simpa using t2, y1, by rw [y2]; exact t3⟩
      refine (exs_asg (x := .int w) (h1 := h1) A1).trans ?_
      refine (exs_ifF (h1 := h1) if0).trans ?_
      refine (exs_asg (x := .ref h1.length) (h1 := h2) (comp1 rfl rfl)).trans ?_
      have ifT : ev (Fk T.fns (k + 1)) (.cmp .eq (v 2) (n 1)) [some (.ref st), some (.int (m : Int)), some (.int w), none, some (.ref h1.length)] h2 = .ok (.bl true, h2) := by
        have := ev_cmp (Fk T.fns (k + 1)) [some (.ref st), some (.int (m : Int)), some (.int w), none, some (.ref h1.length)] h2 (v 2) (n 1) .eq (ev_var _ _ _ 2 rfl) (ev_cst ..) (eqI_ev _ _)
        rwa [decide_eq_true hw1] at this
      have c2 : ev (Fk T.fns (k + 1)) (.comp (.list (v 4)) [none, some 0] (.name 0) .nil (.blt .int (e1 (.and (.cmp .eq (v 0) (n 1)) (.cmp .eq (.call 11 (e2 (v 1) (n 4))) (n 0)))))) [some (.ref st), some (.int (m : Int)), some (.int w), none, some (.ref h1.length)] h2 = .ok (.ref h2.length, h3) := by
        refine (ev_comp _ _ _ _ _ _ _ _ (s := .list h1.length) (h1 := h2) (m := m) ?_ ?_).trans t1
        · rw [evi]; dsimp only; rw [ev_var _ _ _ 4 rfl, Res.bind_ok]; dsimp only; rw [show h2[h1.length]? = _ from is2]
        · simp [srcLen, lst_at ((Up.app h2 [O.lst false []]).get is2), s2, r3]
      refine (exs_ifN (h1 := h2) (h2 := h3) (σ2 := [some (.ref st), some (.int (m : Int)), some (.int w), none, some (.ref h2.length)]) ifT ?_).trans (ret_of (ev_var _ _ _ 4 rfl))
      exact (exs_asg (x := .ref h2.length) (h1 := h3) c2).trans exs_nil1
    · refine ⟨h1.length, h2, xs, Fk_ret t12 rfl (by decide) ?_, u1.trans u2, g2, u1.1, is2, s1, by rw [s2]; exact r3⟩
      refine (exs_asg (x := .int w) (h1 := h1) A1).trans ?_
      refine (exs_ifF (h1 := h1) if0).trans ?_
      refine (exs_asg (x := .ref h1.length) (h1 := h2) (comp1 rfl rfl)).trans ?_
      refine (exs_ifF (h1 := h2) ?_).trans (ret_of (ev_var _ _ _ 4 rfl))
      have := ev_cmp (Fk T.fns (k + 1)) [some (.ref st), some (.int (m : Int)), some (.int w), none, some (.ref h1.length)] h2 (v 2) (n 1) .eq (ev_var _ _ _ 2 rfl) (ev_cst ..) (eqI_ev _ _)
      rwa [decide_eq_false hw1] at this
end My

set_option Elab.async false
set_option linter.all false
set_option maxRecDepth 100000
set_option maxHeartbeats 4000000
namespace My
open PySem PySem.Spec L2 PI
/-- unlike -/
def ne1 (x y : Int) : Int := if x = y then 0 else 1
theorem f13 (k : Nat) {a b : Nat} {xs ys : List Int} (h : AH) (ha : isI h a xs) (hb : isI h b ys) (hl : xs.length = ys.length) (hz : xs.length < 1000) :
    ∃ h', Fk T.fns (k + 1) 13 [.ref a, .ref b] h = .ok (.ref h.length, h') ∧ Up h h' ∧ isI h' h.length (List.zipWith ne1 xs ys) := by
  have hD : (h ++ [O.lst false []])[h.length]? = some (.lst false []) := by simp
  have hup : Up h (h ++ [O.lst false []]) := Up.app h _
  obtain ⟨σ', h', r1, r2, r3⟩ := compL_run (F := Fk T.fns k) (s := .zip a b) (g := .tup [0, 1]) (e := ev (Fk T.fns k) (.blt .int (e1 (.cmp .ne (v 0) (v 1))))) (D := h.length) (n := xs.length)
    (fun i σ h' => Up h h' ∧ h.length < h'.length ∧ σ.length = 2) (fun i => .int (ne1 (xs.getD i 0) (ys.getD i 0)))
    (fun i σ h' hi ⟨hu, hlt, hσ⟩ => by
      have hi2 : i < ys.length := by omega
      refine ⟨.ref h'.length, h' ++ [.tup [.int (xs.getD i 0), .int (ys.getD i 0)]], [some (.int (xs.getD i 0)), some (.int (ys.getD i 0))], h' ++ [.tup [.int (xs.getD i 0), .int (ys.getD i 0)]], ?_, ?_, ?_, ?_, fun l => ⟨(hu.trans (Up.app _ _)).set (Nat.le_refl _) _, by simp; omega, rfl⟩⟩
      · simp only [yieldAt, lst_at (hu.get ha), lst_at (hu.get hb), List.getElem?_map, List.getElem?_eq_getElem hi, List.getElem?_eq_getElem hi2, List.getD_eq_getElem?_getD]
        rfl
      · match σ, hσ with
        | [o1, o2], _ =>
          have : tupAt (h' ++ [.tup [.int (xs.getD i 0), .int (ys.getD i 0)]]) h'.length = some [.int (xs.getD i 0), .int (ys.getD i 0)] := by unfold tupAt; simp
          simp only [store, this]
          rfl
      · refine (ev_blt _ _ _ _ .int (evs_cons _ _ _ _ _ (ev_cmp _ _ _ _ _ .ne (t := !decide (xs.getD i 0 = ys.getD i 0)) (ev_var _ _ _ 0 rfl) (ev_var _ _ _ 1 rfl) ?_) (evs_nil ..))).trans ?_
        · show (some (xs.getD i 0 == ys.getD i 0)).map (!·) = _
          rfl
        · show Res.ok (V.int (if (!decide (xs.getD i 0 = ys.getD i 0)) = true then 1 else 0), _) = _
          unfold ne1
          by_cases hq : xs.getD i 0 = ys.getD i 0
          · rw [decide_eq_true hq, if_pos hq]; rfl
          · rw [decide_eq_false hq, if_neg hq]; rfl
      · rw [List.getElem?_append_left hlt])
    (fun σ h' ⟨hu, _, _⟩ => by simp [stopAt, lst_at (hu.get ha), lst_at (hu.get hb)])
    xs.length 0 [] [none, none] (h ++ [O.lst false []]) (by omega) (by simp [lim]; omega) ⟨hup, by simp, rfl⟩ hD
  refine ⟨h', Fk_ret t13 rfl (by decide) (ret_of ?_), r3.1, ?_⟩
  · refine (ev_comp _ _ _ _ _ _ _ _ (s := .zip a b) (h1 := h) (m := xs.length) ?_ ?_).trans r1
    · show (match lstAt h a, lstAt h b with | some _, some _ => _ | _, _ => _) = _
      rw [lst_at ha, lst_at hb]
    · simp only [srcLen, lst_at (hup.get ha), lst_at (hup.get hb), List.length_map, hl, Nat.min_self]
  · show h'[h.length]? = _
    rw [r2]
    congr 2
    refine List.ext_getElem (by simp; omega) fun i h1 h2 => ?_
    simp at h1 h2
    simp [List.getD_eq_getElem?_getD, List.getElem?_eq_getElem (show i < xs.length by omega), List.getElem?_eq_getElem (show i < ys.length by omega)]
/-! the mathematics -/
theorem xr_sg {x y : Int} (hx : sg x) (hy : sg y) : sg (xr x y) := by
  rcases hx with rfl | rfl <;> rcases hy with rfl | rfl <;> (unfold xr sg; decide)
theorem xr_ne {x y : Int} (hx : sg x) (hy : sg y) : xr x y = ne1 x y := by
  rcases hx with rfl | rfl <;> rcases hy with rfl | rfl <;> rfl
theorem zip_xr_ne {xs ys : List Int} (hx : sgs xs) (hy : sgs ys) : List.zipWith ne1 xs ys = List.zipWith xr xs ys := by
  induction xs generalizing ys with
  | nil => rfl
  | cons x xs ih =>
    cases ys with
    | nil => rfl
    | cons y ys =>
      rw [List.zipWith_cons_cons, List.zipWith_cons_cons, xr_ne (hx x List.mem_cons_self) (hy y List.mem_cons_self), ih (fun z hz => hx z (List.mem_cons_of_mem _ hz)) (fun z hz => hy z (List.mem_cons_of_mem _ hz))]
theorem zip_sgs {xs ys : List Int} (hx : sgs xs) (hy : sgs ys) : sgs (List.zipWith xr xs ys) := by
  induction xs generalizing ys with
  | nil => intro z hz; simp at hz
  | cons x xs ih =>
    cases ys with
    | nil => intro z hz; simp at hz
    | cons y ys =>
      intro z hz
      rw [List.zipWith_cons_cons] at hz
      rcases List.mem_cons.mp hz with rfl | hz
      · exact xr_sg (hx x List.mem_cons_self) (hy y List.mem_cons_self)
      · exact ih (fun z hz => hx z (List.mem_cons_of_mem _ hz)) (fun z hz => hy z (List.mem_cons_of_mem _ hz)) z hz
theorem sgs_take {xs : List Int} (h : sgs xs) (m : Nat) : sgs (xs.take m) := fun x hx => h x (List.mem_of_mem_take hx)
theorem sgs_drop {xs : List Int} (h : sgs xs) (m : Nat) : sgs (xs.drop m) := fun x hx => h x (List.mem_of_mem_drop hx)
theorem wrd_sgs : ∀ (s : Nat) (xs : List Int), sgs xs → sgs (wrd s xs)
  | 0, xs, h => h
  | s + 1, xs, h => by
    intro z hz
    have a := wrd_sgs s _ (sgs_take h (2 ^ s))
    have b := wrd_sgs s _ (sgs_drop h (2 ^ s))
    rcases List.mem_append.mp hz with hz | hz
    · exact zip_sgs a b z hz
    · exact b z hz
theorem zip_twice {xs ys : List Int} (hx : sgs xs) (hy : sgs ys) (hl : xs.length = ys.length) : List.zipWith xr (List.zipWith xr xs ys) ys = xs := by
  induction xs generalizing ys with
  | nil => rfl
  | cons x xs ih =>
    cases ys with
    | nil => simp at hl
    | cons y ys =>
      rw [List.zipWith_cons_cons, List.zipWith_cons_cons, ih (fun z hz => hx z (List.mem_cons_of_mem _ hz)) (fun z hz => hy z (List.mem_cons_of_mem _ hz)) (by simpa using hl)]
      congr 1
      rcases hx x List.mem_cons_self with rfl | rfl <;> rcases hy y List.mem_cons_self with rfl | rfl <;> rfl
theorem zip_swap {a b c d : List Int} (ha : sgs a) (hb : sgs b) (hc : sgs c) (hd : sgs d) (h1 : a.length = b.length) (h2 : a.length = c.length) (h3 : a.length = d.length) :
    List.zipWith xr (List.zipWith xr a b) (List.zipWith xr c d) = List.zipWith xr (List.zipWith xr a c) (List.zipWith xr b d) := by
  induction a generalizing b c d with
  | nil => rfl
  | cons x a ih =>
    match b, c, d, h1, h2, h3 with
    | y :: b, z :: c, w :: d, h1, h2, h3 =>
      simp only [List.zipWith_cons_cons]
      rw [ih (fun z hz => ha z (List.mem_cons_of_mem _ hz)) (fun z hz => hb z (List.mem_cons_of_mem _ hz)) (fun z hz => hc z (List.mem_cons_of_mem _ hz)) (fun z hz => hd z (List.mem_cons_of_mem _ hz)) (by simpa using h1) (by simpa using h2) (by simpa using h3)]
      congr 1
      rcases ha x List.mem_cons_self with rfl | rfl <;> rcases hb y List.mem_cons_self with rfl | rfl <;> rcases hc z List.mem_cons_self with rfl | rfl <;> rcases hd w List.mem_cons_self with rfl | rfl <;> rfl
/-- the word of the sum is the sum of the words -/
theorem wrd_add : ∀ (s : Nat) (xs ys : List Int), sgs xs → sgs ys → xs.length = 2 ^ s → ys.length = 2 ^ s → wrd s (List.zipWith xr xs ys) = List.zipWith xr (wrd s xs) (wrd s ys)
  | 0, xs, ys, _, _, _, _ => rfl
  | s + 1, xs, ys, hx, hy, lx, ly => by
    have lx' : xs.length = 2 ^ s + 2 ^ s := by rw [lx, Nat.pow_succ]; omega
    have ly' : ys.length = 2 ^ s + 2 ^ s := by rw [ly, Nat.pow_succ]; omega
    have t1 := wrd_add s (xs.take (2 ^ s)) (ys.take (2 ^ s)) (sgs_take hx _) (sgs_take hy _) (by rw [List.length_take]; omega) (by rw [List.length_take]; omega)
    have t2 := wrd_add s (xs.drop (2 ^ s)) (ys.drop (2 ^ s)) (sgs_drop hx _) (sgs_drop hy _) (by rw [List.length_drop]; omega) (by rw [List.length_drop]; omega)
    have l1 := wrd_len s (xs.take (2 ^ s)) (by rw [List.length_take]; omega)
    have l2 := wrd_len s (xs.drop (2 ^ s)) (by rw [List.length_drop]; omega)
    have l3 := wrd_len s (ys.take (2 ^ s)) (by rw [List.length_take]; omega)
    have l4 := wrd_len s (ys.drop (2 ^ s)) (by rw [List.length_drop]; omega)
    simp only [wrd]
    rw [List.take_zipWith, List.drop_zipWith, t1, t2, List.zipWith_append (by rw [List.length_zipWith, List.length_zipWith, l1, l2, l3, l4]),
      zip_swap (wrd_sgs s _ (sgs_take hx _)) (wrd_sgs s _ (sgs_take hy _)) (wrd_sgs s _ (sgs_drop hx _)) (wrd_sgs s _ (sgs_drop hy _)) (by rw [l1, l3]) (by rw [l1, l2]) (by rw [l1, l4])]
/-- the word of the word is the core -/
theorem wrd_wrd : ∀ (s : Nat) (xs : List Int), sgs xs → xs.length = 2 ^ s → wrd s (wrd s xs) = xs
  | 0, xs, _, _ => rfl
  | s + 1, xs, hx, lx => by
    have lx' : xs.length = 2 ^ s + 2 ^ s := by rw [lx, Nat.pow_succ]; omega
    have lt : (xs.take (2 ^ s)).length = 2 ^ s := by rw [List.length_take]; omega
    have ld : (xs.drop (2 ^ s)).length = 2 ^ s := by rw [List.length_drop]; omega
    have l1 := wrd_len s _ lt
    have l2 := wrd_len s _ ld
    have a := wrd_sgs s _ (sgs_take hx (2 ^ s))
    have b := wrd_sgs s _ (sgs_drop hx (2 ^ s))
    have lz : (List.zipWith xr (wrd s (xs.take (2 ^ s))) (wrd s (xs.drop (2 ^ s)))).length = 2 ^ s := by rw [List.length_zipWith, l1, l2, Nat.min_self]
    have e1 : (wrd (s + 1) xs).take (2 ^ s) = List.zipWith xr (wrd s (xs.take (2 ^ s))) (wrd s (xs.drop (2 ^ s))) := by
      show List.take (2 ^ s) (List.zipWith xr (wrd s (xs.take (2 ^ s))) (wrd s (xs.drop (2 ^ s))) ++ wrd s (xs.drop (2 ^ s))) = _
      rw [List.take_append_of_le_length (by omega), List.take_of_length_le (by omega)]
    have e2 : (wrd (s + 1) xs).drop (2 ^ s) = wrd s (xs.drop (2 ^ s)) := by
      show List.drop (2 ^ s) (List.zipWith xr (wrd s (xs.take (2 ^ s))) (wrd s (xs.drop (2 ^ s))) ++ wrd s (xs.drop (2 ^ s))) = _
      rw [List.drop_append_of_le_length (by omega), List.drop_of_length_le (by omega), List.nil_append]
    show List.zipWith xr (wrd s ((wrd (s + 1) xs).take (2 ^ s))) (wrd s ((wrd (s + 1) xs).drop (2 ^ s))) ++ wrd s ((wrd (s + 1) xs).drop (2 ^ s)) = xs
    rw [e1, e2, wrd_add s _ _ a b l1 l2, wrd_wrd s _ (sgs_take hx _) lt, wrd_wrd s _ (sgs_drop hx _) ld, zip_twice (sgs_take hx _) (sgs_drop hx _) (by rw [lt, ld]), List.take_append_drop]
theorem zip_zero : ∀ m : Nat, List.zipWith xr (List.replicate m 0) (List.replicate m 0) = List.replicate m 0
  | 0 => rfl
  | m + 1 => by rw [List.replicate_succ, List.zipWith_cons_cons, zip_zero m]; rfl
theorem wrd_zero : ∀ s : Nat, wrd s (List.replicate (2 ^ s) 0) = List.replicate (2 ^ s) 0
  | 0 => rfl
  | s + 1 => by
    have h : (List.replicate (2 ^ (s + 1)) (0 : Int)).take (2 ^ s) = List.replicate (2 ^ s) 0 := by rw [List.take_replicate, Nat.pow_succ]; congr 1; omega
    have h' : (List.replicate (2 ^ (s + 1)) (0 : Int)).drop (2 ^ s) = List.replicate (2 ^ s) 0 := by rw [List.drop_replicate, Nat.pow_succ]; congr 1; omega
    simp only [wrd]
    rw [h, h', wrd_zero s, zip_zero, List.replicate_append_replicate, Nat.pow_succ]
    congr 1
    omega
end My

set_option Elab.async false
set_option linter.all false
set_option maxRecDepth 100000
set_option maxHeartbeats 4000000
namespace My
open PySem PySem.Spec L2 PI
theorem cutV_I (ns : List Int) (a b : Option Int) : ∃ ys : List Int, L2.cutV (I ns) a b = I ys ∧ ys.length ≤ ns.length := by
  refine ⟨(ns.drop (HT.sIx (I ns).length 0 a)).take (HT.sIx (I ns).length (I ns).length b - HT.sIx (I ns).length 0 a), ?_, ?_⟩
  · unfold L2.cutV
    rw [show (I ns).drop (HT.sIx (I ns).length 0 a) = I (ns.drop (HT.sIx (I ns).length 0 a)) from List.map_drop.symm]
    exact List.map_take.symm
  · rw [List.length_take, List.length_drop]; omega
theorem ev_lst {F : Nat → List V → AH → RV} {σ : PI.St} {h h1 : AH} {as : Es} {xs : List V} (q : evs F as σ h = .ok (xs, h1)) (hl : xs.length ≤ lim) : ev F (.lst as) σ h = .ok (.ref h1.length, h1 ++ [.lst false xs]) := by
  rw [ev]; dsimp only; rw [q, Res.bind_ok]; dsimp only; rw [if_pos hl]; rfl
theorem f10 (k : Nat) {h : AH} {ns : List Int} {kk : Nat} (hs : h[1]? = some (.lst true (I ns))) (hn : ns.length ≤ 63) (hk : kk ≤ 63) :
    ∃ h', Fk T.fns (k + 1) 10 [.ref 1, .int (kk : Int)] h = .ok (.ref (h.length + 3), h') ∧ Up h h' ∧ Good h' (h.length + 3) := by
  obtain ⟨ys, hy, ly⟩ := cutV_I ns (some (kk : Int)) (some ((kk : Int) + 1))
  have c1 : ev (Fk T.fns k) (.sl (v 0) (e1 (v 1)) (e1 (.bin .add (v 1) (n 1)))) [some (.ref 1), some (.int (kk : Int)), none, none, none] h = .ok (.ref h.length, h ++ [.lst false (I ys)]) := by
    refine (ev_sl (il := [(kk : Int)]) (iu := [(kk : Int) + 1]) (ev_var _ _ _ 0 rfl) (evs_cons _ _ _ _ _ (ev_var _ _ _ 1 rfl) (evs_nil ..)) (evs_cons _ _ _ _ _ ((ev_bin _ _ _ _ _ .add (ev_var _ _ _ 1 rfl) (ev_cst ..)).trans rfl) (evs_nil ..)) rfl rfl (lst_at hs)).trans ?_
    show newL (L2.cutV (I ns) (some (kk : Int)) (some ((kk : Int) + 1))) h = _
    rw [hy]
    rfl
  have c2 : ev (Fk T.fns k) (.bin .add (.sl (v 0) (e1 (v 1)) (e1 (.bin .add (v 1) (n 1)))) (.lst (e1 (n 0)))) [some (.ref 1), some (.int (kk : Int)), none, none, none] h = .ok (.ref (h.length + 2), ((h ++ [.lst false (I ys)]) ++ [.lst false [.int 0]]) ++ [.lst false (I (ys ++ [0]))]) := by
    refine (ev_bin _ _ _ _ _ .add c1 (ev_lst (evs_cons _ _ _ _ _ (ev_cst ..) (evs_nil ..)) (by simp [lim]))).trans ?_
    have m1 : ((h ++ [O.lst false (I ys)]) ++ [O.lst false [V.int 0]])[h.length]? = some (.lst false (I ys)) := by rw [List.getElem?_append_left (by simp)]; simp
    have m2 : ((h ++ [O.lst false (I ys)]) ++ [O.lst false [V.int 0]])[(h ++ [O.lst false (I ys)]).length]? = some (.lst false [V.int 0]) := by simp
    simp only [binV, mut_at m1, mut_at m2]
    rw [if_pos (by simp [lim]; omega)]
    show Res.ok (V.ref _, _ ++ [O.lst false (I ys ++ [V.int 0])]) = _
    rw [show I ys ++ [V.int 0] = I (ys ++ [0]) by simp [I]]
    simp
  generalize hH : ((h ++ [O.lst false (I ys)]) ++ [O.lst false [V.int 0]]) ++ [O.lst false (I (ys ++ [0]))] = H at c2
  have uH : Up h H := by rw [← hH]; exact ((Up.app _ _).trans (Up.app _ _)).trans (Up.app _ _)
  have lH : H.length = h.length + 3 := by rw [← hH]; simp
  have iH : isI H (h.length + 2) (ys ++ [0]) := by
    show H[h.length + 2]? = _
    rw [← hH, List.getElem?_append_right (by simp)]
    simp
  have c3 : ev (Fk T.fns k) (.idx (.bin .add (.sl (v 0) (e1 (v 1)) (e1 (.bin .add (v 1) (n 1)))) (.lst (e1 (n 0)))) (n 0)) [some (.ref 1), some (.int (kk : Int)), none, none, none] h = .ok (.int ((ys ++ [0]).getD 0 0), H) := by
    refine ev_idx _ _ _ _ _ (i := ((0 : Nat) : Int)) c2 (ev_cst ..) (its_at iH) (ixN_nat (by simp)) ?_
    cases ys <;> rfl
  generalize (ys ++ [0]).getD 0 0 = c at c3
  have hA : (0 : Int) ≤ (if (-1 - c) > c then (-1 - c) else c) := by split <;> omega
  have c4 : ev (Fk T.fns k) (.blt .max (e2 (v 2) (.bin .sub (.neg (n 1)) (v 2)))) [some (.ref 1), some (.int (kk : Int)), some (.int c), none, none] H = .ok (.int (if (-1 - c) > c then (-1 - c) else c), H) := by
    refine (ev_blt _ _ _ _ .max (evs_cons _ _ _ _ _ (ev_var _ _ _ 2 rfl) (evs_cons _ _ _ _ _ (x := .int (-1 - c)) (h1 := H) ?_ (evs_nil ..)))).trans rfl
    refine (ev_bin _ _ _ _ _ .sub (x := .int (-1)) (h1 := H) ?_ (ev_var _ _ _ 2 rfl)).trans rfl
    rfl
  generalize (if (-1 - c) > c then (-1 - c) else c) = A at hA c4
  have c5 : ∃ B : Int, (0 ≤ B ∧ B < 2147483647) ∧ ev (Fk T.fns k) (.bin .mod (.bin .add (.bin .add (.bin .add (.bin .mod (v 3) (n 2147483629)) (.bin .mul (n 7919) (v 1))) (.bin .mul (.bin .mul (n 104729) (v 1)) (v 1))) (n 11)) (n 2147483629)) [some (.ref 1), some (.int (kk : Int)), some (.int c), some (.int A), none] H = .ok (.int B, H) := by
    refine ⟨(A % 2147483629 + 7919 * kk + 104729 * kk * kk + 11) % 2147483629, ⟨Int.emod_nonneg _ (by decide), Int.lt_trans (Int.emod_lt_of_pos _ (by decide)) (by decide)⟩, ?_⟩
    have sm : small (104729 * (kk : Int)) = true := by unfold small two64; exact decide_eq_true (by omega)
    refine (ev_bin _ _ _ _ _ .mod (x := .int (A % 2147483629 + 7919 * kk + 104729 * kk * kk + 11)) (h1 := H) ?_ (ev_cst ..)).trans rfl
    refine (ev_bin _ _ _ _ _ .add (x := .int (A % 2147483629 + 7919 * kk + 104729 * kk * kk)) (h1 := H) ?_ (ev_cst ..)).trans rfl
    refine (ev_bin _ _ _ _ _ .add (x := .int (A % 2147483629 + 7919 * kk)) (y := .int (104729 * kk * kk)) (h1 := H) (h2 := H) ?_ ?_).trans rfl
    · refine (ev_bin _ _ _ _ _ .add (x := .int (A % 2147483629)) (y := .int (7919 * kk)) (h1 := H) (h2 := H) ?_ ?_).trans rfl
      · exact (ev_bin _ _ _ _ _ .mod (ev_var _ _ _ 3 rfl) (ev_cst ..)).trans rfl
      · exact (ev_bin _ _ _ _ _ .mul (ev_cst ..) (ev_var _ _ _ 1 rfl)).trans rfl
    · refine (ev_bin _ _ _ _ _ .mul (x := .int (104729 * kk)) (h1 := H) ((ev_bin _ _ _ _ _ .mul (ev_cst ..) (ev_var _ _ _ 1 rfl)).trans rfl) (ev_var _ _ _ 1 rfl)).trans ?_
      show (if (small (104729 * (kk : Int)) || small kk) = true then Res.ok (V.int (104729 * kk * kk), H) else .stuck) = _
      rw [sm]
      rfl
  obtain ⟨B, hB, c5⟩ := c5
  refine ⟨H ++ [.lst false [.int A, .int B, .bl (decide ((1000000000000000000 : Int) ≤ A))]], Fk_ret t10 rfl (by decide) ?_, uH.trans (Up.app _ _), A, B, decide ((1000000000000000000 : Int) ≤ A), by show _ = some _; rw [← lH]; simp, hA, hB⟩
  refine (exs_asg c3).trans ((exs_asg c4).trans ((exs_asg c5).trans (ret_of ?_)))
  rw [← lH]
  refine ev_lst (evs_cons _ _ _ _ _ (ev_var _ _ _ 3 rfl) (evs_cons _ _ _ _ _ (ev_var _ _ _ 4 rfl) (evs_cons _ _ _ _ _ (ev_cmp _ _ _ _ _ .ge (y := .int 1000000000000000000) (ev_var _ _ _ 3 rfl) ((ev_bin _ _ _ _ _ .pow (ev_cst ..) (ev_cst ..)).trans rfl) rfl) (evs_nil ..)))) (by simp [lim])
theorem eqAll_same {h : AH} (k : Nat) : ∀ xs : List Int, eqAll (eqD h (k + 1)) (I xs) (I xs) = some (List.replicate xs.length true)
  | [] => rfl
  | x :: xs => by
    show (match eqD h (k + 1) (.int x) (.int x), eqAll (eqD h (k + 1)) (I xs) (I xs) with | some b, some bs => some (b :: bs) | _, _ => none) = _
    rw [eqAll_same k xs, show eqD h (k + 1) (.int x) (.int x) = some true by show some (x == x) = _; simp]
    rfl
theorem ne_same {h : AH} {a b : Nat} {xs : List Int} (ha : isI h a xs) (hb : isI h b xs) : cmpV .ne (.ref a) (.ref b) h = some false := by
  show (eqD h 4 (.ref a) (.ref b)).map (!·) = _
  simp only [eqD]
  rw [show h[a]? = _ from ha, show h[b]? = _ from hb]
  dsimp only
  split
  · rfl
  · rw [if_pos rfl, show eqAll (fun x y => eqD h 3 x y) (I xs) (I xs) = eqAll (eqD h 3) (I xs) (I xs) from rfl, eqAll_same 2 xs]
    simp
end My

set_option Elab.async false
set_option linter.all false
set_option maxRecDepth 100000
set_option maxHeartbeats 4000000
namespace My
open PySem PySem.Spec L2 PI
@[irreducible] def FF : Nat → List V → AH → RV := Fk T.fns 29
theorem FF_eq : FF = Fk T.fns 29 := by unfold FF; rfl
theorem F10 {h : AH} {ns : List Int} {kk : Nat} (hs : h[1]? = some (.lst true (I ns))) (hn : ns.length ≤ 63) (hk : kk ≤ 63) :
    ∃ h', FF 10 [.ref 1, .int (kk : Int)] h = .ok (.ref (h.length + 3), h') ∧ Up h h' ∧ Good h' (h.length + 3) := by
  rw [FF_eq]; exact f10 28 hs hn hk
theorem FT {h : AH} {st : Nat} {m : Int} (g : Good h st) (hm : 0 < m ∧ m ≤ 1000000) : ∃ r h', FF 11 [.ref st, .int m] h = .ok (.int r, h') ∧ (0 ≤ r ∧ r < m) ∧ UpS st h h' ∧ h'.length = h.length ∧ Good h' st := by
  rw [FF_eq]; exact take 28 g hm
theorem F12 {h : AH} {st m : Nat} (g : Good h st) (hm : 0 < m ∧ m ≤ 32) :
    ∃ r h' xs, FF 12 [.ref st, .int (m : Int)] h = .ok (.ref r, h') ∧ UpS st h h' ∧ Good h' st ∧ h.length ≤ r ∧ isI h' r xs ∧ sgs xs ∧ xs.length = m := by
  rw [FF_eq]; exact f12 27 g hm
theorem F13 {a b : Nat} {xs ys : List Int} (h : AH) (ha : isI h a xs) (hb : isI h b ys) (hl : xs.length = ys.length) (hz : xs.length < 1000) :
    ∃ h', FF 13 [.ref a, .ref b] h = .ok (.ref h.length, h') ∧ Up h h' ∧ isI h' h.length (List.zipWith ne1 xs ys) := by
  rw [FF_eq]; exact f13 28 h ha hb hl hz
abbrev cp (a : E) : E := .call 7 (e1 (.blt .list (e1 a)))
abbrev zr : E := .bin .mul (.lst (e1 (n 0))) (v 3)
def rf : Ss := .cons (.ret (.cst (.bl false))) .nil
def bt : Ss := .cons (.asg (.name 2) (.call 10 (e2 (v 0) (v 1))))
  (.cons (.asg (.name 3) (.idx (.lst (.cons (n 2) (.cons (n 4) (.cons (n 8) (.cons (n 16) (.cons (n 32) .nil)))))) (.call 11 (e2 (v 2) (n 5)))))
  (.cons (.asg (.name 4) (.call 12 (e2 (v 2) (v 3))))
  (.cons (.asg (.name 5) (.call 12 (e2 (v 2) (v 3))))
  (.cons (.asg (.name 6) (.lst (e2 (cp (v 4)) (cp (v 5)))))
  (.cons (.ifs (.or (.cmp .ne (cp (.idx (v 6) (n 0))) (v 4)) (.cmp .ne (cp (.idx (v 6) (n 1))) (v 5))) rf .nil)
  (.cons (.ifs (.cmp .ne (.call 7 (e1 (.call 13 (e2 (v 4) (v 5))))) (.call 13 (e2 (.idx (v 6) (n 0)) (.idx (v 6) (n 1))))) rf .nil)
  (.cons (.ifs (.or (.cmp .ne (.call 7 (e1 zr)) zr) (.cmp .ne (.cmp .inn (n 1) (.idx (v 6) (n 0))) (.cmp .inn (n 1) (v 4)))) rf .nil) .nil)))))))
def b14 : Ss := .cons (.for_ (.name 1) (.rng1 (.blt .max (e2 (n 1) (.blt .min (e2 (n 63) (.blt .len (e1 (v 0)))))))) bt) (.cons (.ret (.cst (.bl true))) .nil)
theorem t14 : T.fns[14]? = some ⟨1, 7, b14⟩ := by kernel_rfl
theorem word {h : AH} {a s : Nat} {xs : List Int} (g : hg h) (ha : isI h a xs) (hx : sgs xs) (hl : xs.length = 2 ^ s) (h1 : 1 ≤ s) (h5 : s ≤ 5) : ∃ r h', FF 7 [.ref a] h = .ok (.ref r, h') ∧ Up h h' ∧ h.length ≤ r ∧ isI h' r (wrd s xs) := by
  have := f7 (k := 23 - s) g ha hx hl h1 h5
  rw [FF_eq]
  rwa [show 23 - s + s + 6 = 29 by omega] at this
theorem cw {h : AH} {a : E} {σ : PI.St} {p s : Nat} {xs : List Int} (q : ev FF a σ h = .ok (.ref p, h)) (g : hg h) (hp : isI h p xs) (hx : sgs xs) (hl : xs.length = 2 ^ s) (h1 : 1 ≤ s) (h5 : s ≤ 5) :
    ∃ r h', ev FF (cp a) σ h = .ok (.ref r, h') ∧ Up h h' ∧ h.length ≤ r ∧ isI h' r (wrd s xs) := by
  obtain ⟨r, h', q1, u1, l1, i1⟩ := word (h := h ++ [.lst false (I xs)]) (a := h.length) ((Up.app h _).get g) (by show _ = some _; simp) hx hl h1 h5
  refine ⟨r, h', (ev_call _ _ _ _ 7 (evs_cons _ _ _ _ _ (x := .ref h.length) (h1 := h ++ [.lst false (I xs)]) ?_ (evs_nil ..))).trans q1, (Up.app h _).trans u1, Nat.le_trans (by simp) l1, i1⟩
  refine (ev_blt _ _ _ _ .list (evs_cons _ _ _ _ _ q (evs_nil ..))).trans ?_
  simp only [bltV, its_at hp]
  rfl
theorem one_in {xs : List Int} (hx : sgs xs) : (I xs).any (fun y => L2.eqV y (.int 1)) = false ↔ xs = List.replicate xs.length 0 := by
  have e : ∀ i : Int, L2.eqV (.int i) (.int 1) = (i == 1) := fun i => rfl
  rw [List.any_eq_false, List.eq_replicate_iff]
  constructor
  · intro h
    refine ⟨rfl, fun b hb => ?_⟩
    have := h (.int b) (List.mem_map_of_mem hb)
    rw [e] at this
    rcases hx b hb with h0 | h0
    · exact h0
    · subst h0; exact absurd rfl this
  · rintro ⟨_, h⟩ y hy
    obtain ⟨b, hb, rfl⟩ := List.mem_map.mp hy
    rw [e, h b hb]
    decide
theorem in_ev {F : Nat → List V → AH → RV} {σ : PI.St} {h : AH} {a : E} {p : Nat} {xs : List Int} (q : ev F a σ h = .ok (.ref p, h)) (hp : isI h p xs) : ev F (.cmp .inn (n 1) a) σ h = .ok (.bl ((I xs).any fun y => L2.eqV y (.int 1)), h) := by
  refine ev_cmp _ _ _ _ _ .inn (ev_cst ..) q ?_
  simp only [cmpV, its_at hp]
  rw [if_pos (by simp [flat])]
theorem zr_ev {F : Nat → List V → AH → RV} {σ : PI.St} {h : AH} {m : Nat} (hσ : σ[3]? = some (some (.int (m : Int)))) (hm : m ≤ 32) : ev F zr σ h = .ok (.ref (h.length + 1), (h ++ [.lst false [.int 0]]) ++ [.lst false (I (List.replicate m 0))]) := by
  refine (ev_bin _ _ _ _ _ .mul (ev_lst (evs_cons _ _ _ _ _ (ev_cst ..) (evs_nil ..)) (by simp [lim])) (ev_var _ _ _ 3 hσ)).trans ?_
  have m1 : (h ++ [O.lst false [V.int 0]])[h.length]? = some (.lst false [V.int 0]) := by simp
  simp only [binV, mut_at m1]
  rw [if_pos (by simp [lim]; omega)]
  show Res.ok (V.ref _, _ ++ [O.lst false _]) = _
  rw [show (List.replicate (m : Int).toNat [V.int 0]).flatten = I (List.replicate m 0) by
    rw [Int.toNat_natCast]
    clear hm hσ m1
    induction m with
    | zero => rfl
    | succ m ih => rw [List.replicate_succ, List.flatten_cons, ih]; rfl]
  simp
theorem bool_same {p q : Bool} (h : p = false ↔ q = false) : p = q := by
  cases p <;> cases q <;> simp_all
theorem turn {ns : List Int} {h : AH} {i : Nat} {o2 o3 o4 o5 o6 : Option V} (g : hg h) (hs : h[1]? = some (.lst true (I ns))) (hn : ns.length ≤ 63) (hi : i ≤ 63) :
    ∃ p2 p3 p4 p5 p6 h', exs FF bt [some (.ref 1), some (.int (0 + (i : Int))), o2, o3, o4, o5, o6] h = .ok (.nx [some (.ref 1), some (.int (0 + (i : Int))), p2, p3, p4, p5, p6], h') ∧ hg h' ∧ h'[1]? = some (.lst true (I ns)) := by
  have hi0 : (0 : Int) + (i : Int) = (i : Int) := by omega
  rw [hi0]
  have lh : 1 < h.length := (List.getElem?_eq_some_iff.mp hs).1
  obtain ⟨h1, q1, u1, g1⟩ := F10 (kk := i) hs hn hi
  generalize hst : h.length + 3 = st at q1 g1
  have lst1 := g1.lt
  have u2 : Up h1 (h1 ++ [O.lst false [.int 2, .int 4, .int 8, .int 16, .int 32]]) := Up.app _ _
  obtain ⟨r, h2, q2, hr, us2, l2, g2⟩ := FT (g1.up u2) (m := 5) (by decide)
  obtain ⟨s, s1, s5, hms⟩ : ∃ s : Nat, 1 ≤ s ∧ s ≤ 5 ∧ r.toNat + 1 = s := ⟨r.toNat + 1, by omega, by omega, rfl⟩
  have hp32 := pow5 s5
  have hp0 : 0 < 2 ^ s := Nat.pow_pos (by decide)
  have A2 : ∀ σ : PI.St, σ[2]? = some (some (.ref st)) → ev FF (.idx (.lst (.cons (n 2) (.cons (n 4) (.cons (n 8) (.cons (n 16) (.cons (n 32) .nil)))))) (.call 11 (e2 (v 2) (n 5)))) σ h1 = .ok (.int ((2 ^ s : Nat) : Int), h2) := fun σ hσ => by
    have hb : h2[h1.length]? = some (.lst false [.int 2, .int 4, .int 8, .int 16, .int 32]) := us2.get (by omega) (by simp)
    refine ev_idx _ _ _ _ _ (i := ((r.toNat : Nat) : Int)) (j := r.toNat) (xs := [.int 2, .int 4, .int 8, .int 16, .int 32]) (ev_lst (evs_cons _ _ _ _ _ (ev_cst ..) (evs_cons _ _ _ _ _ (ev_cst ..) (evs_cons _ _ _ _ _ (ev_cst ..) (evs_cons _ _ _ _ _ (ev_cst ..) (evs_cons _ _ _ _ _ (ev_cst ..) (evs_nil ..)))))) (by simp [lim])) ?_ (its_at hb) (ixN_nat (by simp; omega)) ?_
    · have := (ev_call FF σ (h1 ++ [O.lst false [.int 2, .int 4, .int 8, .int 16, .int 32]]) (e2 (v 2) (n 5)) 11 (evs_cons _ _ _ _ _ (ev_var _ _ _ 2 hσ) (evs_cons _ _ _ _ _ (ev_cst ..) (evs_nil ..)))).trans q2
      rwa [show r = ((r.toNat : Nat) : Int) by omega] at this
    · have : r.toNat = 0 ∨ r.toNat = 1 ∨ r.toNat = 2 ∨ r.toNat = 3 ∨ r.toNat = 4 := by omega
      subst hms
      rcases this with z | z | z | z | z <;> rw [z] <;> rfl
  obtain ⟨a, h3, xs, q3, us3, g3, la, ia, sx, lx⟩ := F12 g2 (m := 2 ^ s) ⟨hp0, hp32⟩
  obtain ⟨b, h4, ys, q4, us4, g4, lb, ib, sy, ly⟩ := F12 g3 (m := 2 ^ s) ⟨hp0, hp32⟩
  have stlt2 := g2.lt
  have stlt3 := g3.lt
  have ia4 : isI h4 a xs := us4.get (by omega) ia
  have U : UpS st h h4 := (((Up.s u1).trans (Up.s u2)).trans us2).trans (us3.trans us4)
  have gg : hg h4 := U.get (by omega) g
  have hs4 : h4[1]? = some (.lst true (I ns)) := U.get (by omega) hs
  -- the words
  obtain ⟨w1, h5, q5, u5, l5, i5⟩ := cw (a := v 4) (σ := [some (.ref 1), some (.int (i : Int)), some (.ref st), some (.int ((2 ^ s : Nat) : Int)), some (.ref a), some (.ref b), o6]) (ev_var _ _ _ 4 rfl) gg ia4 sx lx s1 s5
  obtain ⟨w2, h6, q6, u6, l6, i6⟩ := cw (a := v 5) (σ := [some (.ref 1), some (.int (i : Int)), some (.ref st), some (.int ((2 ^ s : Nat) : Int)), some (.ref a), some (.ref b), o6]) (ev_var _ _ _ 5 rfl) (u5.get gg) (u5.get ib) sy ly s1 s5
  have i5' : isI h6 w1 (wrd s xs) := u6.get i5
  have u7 : Up h6 (h6 ++ [O.lst false [.ref w1, .ref w2]]) := Up.app _ _
  generalize h7e : h6 ++ [O.lst false [.ref w1, .ref w2]] = h7 at u7
  have hw7 : h7[h6.length]? = some (.lst false [.ref w1, .ref w2]) := by rw [← h7e]; simp
  have A6 : ev FF (.lst (e2 (cp (v 4)) (cp (v 5)))) [some (.ref 1), some (.int (i : Int)), some (.ref st), some (.int ((2 ^ s : Nat) : Int)), some (.ref a), some (.ref b), o6] h4 = .ok (.ref h6.length, h7) := by
    rw [← h7e]
    exact ev_lst (evs_cons _ _ _ _ _ q5 (evs_cons _ _ _ _ _ q6 (evs_nil ..))) (by simp [lim])
  generalize hσ : ([some (.ref 1), some (.int (i : Int)), some (.ref st), some (.int ((2 ^ s : Nat) : Int)), some (.ref a), some (.ref b), some (.ref h6.length)] : PI.St) = σ
  have σ3 : σ[3]? = some (some (.int ((2 ^ s : Nat) : Int))) := by rw [← hσ]; rfl
  have σ4 : σ[4]? = some (some (.ref a)) := by rw [← hσ]; rfl
  have σ5 : σ[5]? = some (some (.ref b)) := by rw [← hσ]; rfl
  have σ6 : σ[6]? = some (some (.ref h6.length)) := by rw [← hσ]; rfl
  have U7 : Up h4 h7 := (u5.trans u6).trans u7
  have W1 : ∀ {H : AH}, Up h7 H → ev FF (.idx (v 6) (n 0)) σ H = .ok (.ref w1, H) := fun {H} u => ev_idx _ _ _ _ _ (i := ((0 : Nat) : Int)) (ev_var _ _ _ 6 σ6) (ev_cst ..) (its_at (u.get hw7)) (ixN_nat (by simp)) rfl
  have W2 : ∀ {H : AH}, Up h7 H → ev FF (.idx (v 6) (n 1)) σ H = .ok (.ref w2, H) := fun {H} u => ev_idx _ _ _ _ _ (i := ((1 : Nat) : Int)) (ev_var _ _ _ 6 σ6) (ev_cst ..) (its_at (u.get hw7)) (ixN_nat (by simp)) rfl
  have lw1 : (wrd s xs).length = 2 ^ s := wrd_len s xs lx
  have lw2 : (wrd s ys).length = 2 ^ s := wrd_len s ys ly
  -- the first test
  obtain ⟨d1, h8, q8, u8, l8, i8⟩ := cw (W1 (Up.refl h7)) (U7.get gg) (u7.get i5') (wrd_sgs s xs sx) lw1 s1 s5
  rw [wrd_wrd s xs sx lx] at i8
  obtain ⟨d2, h9, q9, u9, l9, i9⟩ := cw (W2 u8) (u8.get (U7.get gg)) (u8.get (u7.get i6)) (wrd_sgs s ys sy) lw2 s1 s5
  rw [wrd_wrd s ys sy ly] at i9
  have T1 : ev FF (.or (.cmp .ne (cp (.idx (v 6) (n 0))) (v 4)) (.cmp .ne (cp (.idx (v 6) (n 1))) (v 5))) σ h7 = .ok (.bl false, h9) := by
    refine (ev_orF _ _ _ _ _ (ev_cmp _ _ _ _ _ .ne q8 (ev_var _ _ _ 4 σ4) (ne_same i8 (u8.get (U7.get ia4))))).trans ?_
    exact ev_cmp _ _ _ _ _ .ne q9 (ev_var _ _ _ 5 σ5) (ne_same i9 (u9.get (u8.get (U7.get ib))))
  have U9 : Up h7 h9 := u8.trans u9
  -- the second test
  obtain ⟨h10, q10, u10, i10⟩ := F13 h9 (U9.get (U7.get ia4)) (U9.get (U7.get ib)) (by rw [lx, ly]) (by omega)
  rw [zip_xr_ne sx sy] at i10
  obtain ⟨d3, h11, q11, u11, l11, i11⟩ := word (u10.get (U9.get (U7.get gg))) i10 (zip_sgs sx sy) (by rw [List.length_zipWith, lx, ly, Nat.min_self]) s1 s5
  rw [wrd_add s xs ys sx sy lx ly] at i11
  have U11 : Up h7 h11 := (U9.trans u10).trans u11
  obtain ⟨h12, q12, u12, i12⟩ := F13 h11 (U11.get (u7.get i5')) (U11.get (u7.get i6)) (by rw [lw1, lw2]) (by omega)
  rw [zip_xr_ne (wrd_sgs s xs sx) (wrd_sgs s ys sy)] at i12
  have T2 : ev FF (.cmp .ne (.call 7 (e1 (.call 13 (e2 (v 4) (v 5))))) (.call 13 (e2 (.idx (v 6) (n 0)) (.idx (v 6) (n 1))))) σ h9 = .ok (.bl false, h12) := by
    refine ev_cmp _ _ _ _ _ .ne (x := .ref d3) (y := .ref h11.length) (h1 := h11) ?_ ?_ (ne_same (u12.get i11) i12)
    · exact (ev_call _ _ _ _ 7 (evs_cons _ _ _ _ _ ((ev_call _ _ _ _ 13 (evs_cons _ _ _ _ _ (ev_var _ _ _ 4 σ4) (evs_cons _ _ _ _ _ (ev_var _ _ _ 5 σ5) (evs_nil ..)))).trans q10) (evs_nil ..))).trans q11
    · exact (ev_call _ _ _ _ 13 (evs_cons _ _ _ _ _ (W1 U11) (evs_cons _ _ _ _ _ (W2 U11) (evs_nil ..)))).trans q12
  have U12 : Up h7 h12 := U11.trans u12
  -- the third test
  have z1 := zr_ev (F := FF) (h := h12) σ3 hp32
  have uz : Up h12 ((h12 ++ [O.lst false [.int 0]]) ++ [O.lst false (I (List.replicate (2 ^ s) 0))]) := (Up.app _ _).trans (Up.app _ _)
  have iz : isI ((h12 ++ [O.lst false [.int 0]]) ++ [O.lst false (I (List.replicate (2 ^ s) 0))]) (h12.length + 1) (List.replicate (2 ^ s) 0) := by
    show _ = some _
    rw [List.getElem?_append_right (by simp)]
    simp
  generalize ((h12 ++ [O.lst false [.int 0]]) ++ [O.lst false (I (List.replicate (2 ^ s) 0))]) = h13 at z1 uz iz
  have sz : sgs (List.replicate (2 ^ s) 0) := fun x hx => .inl (List.eq_of_mem_replicate hx)
  obtain ⟨d4, h14, q14, u14, l14, i14⟩ := word (uz.get (U12.get (U7.get gg))) iz sz (by simp) s1 s5
  rw [wrd_zero] at i14
  have z2 := zr_ev (F := FF) (h := h14) σ3 hp32
  have uz2 : Up h14 ((h14 ++ [O.lst false [.int 0]]) ++ [O.lst false (I (List.replicate (2 ^ s) 0))]) := (Up.app _ _).trans (Up.app _ _)
  have iz2 : isI ((h14 ++ [O.lst false [.int 0]]) ++ [O.lst false (I (List.replicate (2 ^ s) 0))]) (h14.length + 1) (List.replicate (2 ^ s) 0) := by
    show _ = some _
    rw [List.getElem?_append_right (by simp)]
    simp
  generalize ((h14 ++ [O.lst false [.int 0]]) ++ [O.lst false (I (List.replicate (2 ^ s) 0))]) = h15 at z2 uz2 iz2
  have U15 : Up h7 h15 := ((U12.trans uz).trans u14).trans uz2
  have same : ((I (wrd s xs)).any fun y => L2.eqV y (.int 1)) = ((I xs).any fun y => L2.eqV y (.int 1)) := by
    have key : ((I (wrd s xs)).any fun y => L2.eqV y (.int 1)) = false ↔ ((I xs).any fun y => L2.eqV y (.int 1)) = false := by
      rw [one_in (wrd_sgs s xs sx), one_in sx, lw1, lx]
      constructor
      · intro e
        have := wrd_wrd s xs sx lx
        rw [e, wrd_zero] at this
        exact this.symm
      · intro e
        rw [e, wrd_zero]
    exact bool_same key
  have T3 : ev FF (.or (.cmp .ne (.call 7 (e1 zr)) zr) (.cmp .ne (.cmp .inn (n 1) (.idx (v 6) (n 0))) (.cmp .inn (n 1) (v 4)))) σ h12 = .ok (.bl false, h15) := by
    refine (ev_orF _ _ _ _ _ (ev_cmp _ _ _ _ _ .ne ((ev_call _ _ _ _ 7 (evs_cons _ _ _ _ _ z1 (evs_nil ..))).trans q14) z2 (ne_same (uz2.get i14) iz2))).trans ?_
    refine ev_cmp _ _ _ _ _ .ne (in_ev (W1 U15) (U15.get (u7.get i5'))) (in_ev (ev_var _ _ _ 4 σ4) (U15.get (U7.get ia4))) ?_
    rw [same]
    show (some ((_ : Bool) == _)).map (!·) = _
    simp
  refine ⟨some (.ref st), some (.int ((2 ^ s : Nat) : Int)), some (.ref a), some (.ref b), some (.ref h6.length), h15, ?_, U15.get (U7.get gg), U15.get (U7.get hs4)⟩
  refine (exs_asg (x := .ref st) (h1 := h1) ((ev_call _ _ _ _ 10 (evs_cons _ _ _ _ _ (ev_var _ _ _ 0 rfl) (evs_cons _ _ _ _ _ (ev_var _ _ _ 1 rfl) (evs_nil ..)))).trans q1)).trans ?_
  refine (exs_asg (x := .int ((2 ^ s : Nat) : Int)) (h1 := h2) (A2 _ rfl)).trans ?_
  refine (exs_asg (x := .ref a) (h1 := h3) ((ev_call _ _ _ _ 12 (evs_cons _ _ _ _ _ (ev_var _ _ _ 2 rfl) (evs_cons _ _ _ _ _ (ev_var _ _ _ 3 rfl) (evs_nil ..)))).trans q3)).trans ?_
  refine (exs_asg (x := .ref b) (h1 := h4) ((ev_call _ _ _ _ 12 (evs_cons _ _ _ _ _ (ev_var _ _ _ 2 rfl) (evs_cons _ _ _ _ _ (ev_var _ _ _ 3 rfl) (evs_nil ..)))).trans q4)).trans ?_
  refine (exs_asg (x := .ref h6.length) (h1 := h7) A6).trans ?_
  show exs FF _ [some (.ref 1), some (.int (i : Int)), some (.ref st), some (.int ((2 ^ s : Nat) : Int)), some (.ref a), some (.ref b), some (.ref h6.length)] h7 = _
  rw [hσ]
  refine (exs_ifF T1).trans ((exs_ifF T2).trans ((exs_ifF T3).trans ?_))
  rw [exs_nil1, ← hσ]
theorem main : ∀ ns : List Int, ns.length ≤ 63 → ∃ h', Fk T.fns 30 14 [.ref gs.length] (heap0 gs ns) = .ok (.bl true, h') := by
  intro ns hn
  have hg0 : hg (heap0 gs ns) := rfl
  have hs0 : (heap0 gs ns)[1]? = some (.lst true (I ns)) := rfl
  generalize heap0 gs ns = h at hg0 hs0
  obtain ⟨m, hm1, hm2⟩ : ∃ m : Nat, m ≤ 63 ∧ ev FF (.blt .max (e2 (n 1) (.blt .min (e2 (n 63) (.blt .len (e1 (v 0))))))) [some (.ref 1), none, none, none, none, none, none] h = .ok (.int (m : Int), h) := by
    have ql : ev FF (.blt .len (e1 (v 0))) [some (.ref 1), none, none, none, none, none, none] h = .ok (.int (ns.length : Int), h) := by
      refine (ev_blt _ _ _ _ .len (evs_cons _ _ _ _ _ (ev_var _ _ _ 0 rfl) (evs_nil ..))).trans ?_
      simp only [bltV, its_at hs0, List.length_map]
    have qm : ev FF (.blt .min (e2 (n 63) (.blt .len (e1 (v 0))))) [some (.ref 1), none, none, none, none, none, none] h = .ok (.int (ns.length : Int), h) := by
      refine (ev_blt _ _ _ _ .min (evs_cons _ _ _ _ _ (ev_cst ..) (evs_cons _ _ _ _ _ ql (evs_nil ..)))).trans ?_
      show Res.ok (V.int (if (ns.length : Int) < 63 then (ns.length : Int) else 63), h) = _
      congr 3
      split <;> omega
    refine ⟨max 1 ns.length, by omega, (ev_blt _ _ _ _ .max (evs_cons _ _ _ _ _ (ev_cst ..) (evs_cons _ _ _ _ _ qm (evs_nil ..)))).trans ?_⟩
    show Res.ok (V.int (if (ns.length : Int) > 1 then (ns.length : Int) else 1), h) = _
    congr 3
    split <;> omega
  obtain ⟨σ', h', r1, r2⟩ := forL_run (s := .rng 0 m) (g := .name 1) (b := exs FF bt) (n := m) (fun i σ h => hg h ∧ h[1]? = some (.lst true (I ns)) ∧ ∃ o1 o2 o3 o4 o5 o6, σ = [some (.ref 1), o1, o2, o3, o4, o5, o6])
    (fun i σ h hi ⟨g, hs, o1, o2, o3, o4, o5, o6, hσ⟩ => by
      subst hσ
      obtain ⟨p2, p3, p4, p5, p6, h2, q, g2, hs2⟩ := turn (i := i) (o2 := o2) (o3 := o3) (o4 := o4) (o5 := o5) (o6 := o6) g hs hn (by omega)
      refine ⟨.int (0 + (i : Int)), h, _, _, h2, ?_, rfl, q, g2, hs2, _, _, _, _, _, _, rfl⟩
      show (if i < m then some (V.int (0 + (i : Int)), h) else none) = _
      rw [if_pos hi])
    (fun σ h _ => by simp [stopAt]) m 0 [some (.ref 1), none, none, none, none, none, none] h (by omega) ⟨hg0, hs0, _, _, _, _, _, _, rfl⟩
  refine ⟨h', Fk_ret t14 rfl (by decide) ?_⟩
  show exs (Fk T.fns 29) b14 [some (.ref 1), none, none, none, none, none, none] h = _
  rw [← FF_eq]
  unfold b14
  rw [exs]; dsimp only; rw [ex]; dsimp only
  have qi : evi FF (.rng1 (.blt .max (e2 (n 1) (.blt .min (e2 (n 63) (.blt .len (e1 (v 0)))))))) [some (.ref 1), none, none, none, none, none, none] h = .ok (.rng 0 m, h) := by
    rw [evi]; dsimp only; rw [hm2, Res.bind_ok]; dsimp only
    rw [if_pos (by omega)]
    simp
  rw [qi, Res.bind_ok]; dsimp only
  rw [show srcLen h (.rng 0 m) = some m from rfl]; dsimp only
  rw [r1, Res.bind_ok]
  exact ret_of (ev_cst ..)
end My

set_option Elab.async false
set_option linter.all false
set_option maxRecDepth 100000
set_option maxHeartbeats 4000000
namespace My
open PySem PySem.Spec PyProof.Rows L2 PI
theorem sc0 : FnScope ["thing"] ["thing"] (defScope (top 6)) := ⟨rfl, rfl, rfl, by decide +kernel, rfl, by decide +kernel, by decide +kernel⟩
theorem sc1 : FnScope ["thing", "end"] ["thing", "end"] (defScope (top 7)) := ⟨rfl, rfl, rfl, by decide +kernel, rfl, by decide +kernel, by decide +kernel⟩
theorem sc2 : FnScope ["size"] ["size"] (defScope (top 8)) := ⟨rfl, rfl, rfl, by decide +kernel, rfl, by decide +kernel, by decide +kernel⟩
theorem sc3 : FnScope ["thing"] ["thing"] (defScope (top 10)) := ⟨rfl, rfl, rfl, by decide +kernel, rfl, by decide +kernel, by decide +kernel⟩
theorem sc4 : FnScope ["thing", "length"] ["thing", "length"] (defScope (top 11)) := ⟨rfl, rfl, rfl, by decide +kernel, rfl, by decide +kernel, by decide +kernel⟩
theorem sc5 : FnScope ["signs"] ["signs"] (defScope (top 12)) := ⟨rfl, rfl, rfl, by decide +kernel, rfl, by decide +kernel, by decide +kernel⟩
theorem sc6 : FnScope ["one", "other"] ["one", "other"] (defScope (top 13)) := ⟨rfl, rfl, rfl, by decide +kernel, rfl, by decide +kernel, by decide +kernel⟩
theorem sc7 : FnScope ["core"] ["core"] (defScope (top 15)) := ⟨rfl, rfl, rfl, by decide +kernel, rfl, by decide +kernel, by decide +kernel⟩
theorem sc8 : FnScope ["thing"] ["thing"] (defScope (top 16)) := ⟨rfl, rfl, rfl, by decide +kernel, rfl, by decide +kernel, by decide +kernel⟩
theorem sc9 : FnScope ["row", "half", "first", "second"] ["row"] (defScope (top 17)) := ⟨rfl, rfl, rfl, by decide +kernel, rfl, by decide +kernel, by decide +kernel⟩
theorem sc10 : FnScope ["_law_script", "_law_k", "_law_cell", "_law_number", "_law_mixed"] ["_law_script", "_law_k"] (defScope (top 19)) := ⟨rfl, rfl, rfl, by decide +kernel, rfl, by decide +kernel, by decide +kernel⟩
theorem sc11 : FnScope ["_law_state", "_law_many", "_law_digit", "_law_made", "_law_turn"] ["_law_state", "_law_many"] (defScope (top 20)) := ⟨rfl, rfl, rfl, by decide +kernel, rfl, by decide +kernel, by decide +kernel⟩
theorem sc12 : FnScope ["_law_state", "_law_many", "_law_way", "_law_at", "_law_core_here"] ["_law_state", "_law_many"] (defScope (top 21)) := ⟨rfl, rfl, rfl, by decide +kernel, rfl, by decide +kernel, by decide +kernel⟩
theorem sc13 : FnScope ["_law_one", "_law_other"] ["_law_one", "_law_other"] (defScope (top 22)) := ⟨rfl, rfl, rfl, by decide +kernel, rfl, by decide +kernel, by decide +kernel⟩
theorem sc14 : FnScope ["_law_script", "_law_k", "_law_state", "_law_many", "_law_one", "_law_other", "_law_words"] ["_law_script"] (defScope (top 23)) := ⟨rfl, rfl, rfl, by decide +kernel, rfl, by decide +kernel, by decide +kernel⟩
theorem all_mk {l : PySem.W.OpenLaw} {w : World} {K : PySem.W.Frag} {h : Heap} {mg : Str → Option Value} {fa : Addr} (X : K.In h) (G : h.Ns mainGlobals mg) (hfa : mg "law" = some (.ref fa))
    {f0 f1 f2 f3 f4 f5 f6 f7 f8 f9 f10 f11 f12 f13 f14 : Addr} {od0 an0 od1 an1 od2 an2 od3 an3 od4 an4 od5 an5 od6 an6 od7 an7 od8 an8 od9 an9 od10 an10 od11 an11 od12 an12 od13 an13 od14 an14 : Option Addr} {sl0 sl1 sl2 sl3 sl4 sl5 sl6 sl7 sl8 sl9 sl10 sl11 sl12 sl13 sl14 : Array (Option Value)} {oc0 kV0 dc0 pm0 cd0 ct0 oc1 kV1 dc1 pm1 cd1 ct1 oc2 kV2 dc2 pm2 cd2 ct2 oc3 kV3 dc3 pm3 cd3 ct3 oc4 kV4 dc4 pm4 cd4 ct4 oc5 kV5 dc5 pm5 cd5 ct5 oc6 kV6 dc6 pm6 cd6 ct6 oc7 kV7 dc7 pm7 cd7 ct7 oc8 kV8 dc8 pm8 cd8 ct8 oc9 kV9 dc9 pm9 cd9 ct9 oc10 kV10 dc10 pm10 cd10 ct10 oc11 kV11 dc11 pm11 cd11 ct11 oc12 kV12 dc12 pm12 cd12 ct12 oc13 kV13 dc13 pm13 cd13 ct13 oc14 kV14 dc14 pm14 cd14 ct14 : Value}
    (a0 : PySem.W.nsIn K mainGlobals "is_whole" = some (some (.ref f0))) (l0 : K.lookup f0 = some ⟨oc0, od0, .func (PySem.W.fnOf "is_whole" "is_whole" (defArgs (top 6)) (defBody (top 6)) (defScope (top 6)) .none kV0 dc0 pm0 an0 cd0 ct0), sl0⟩) (c0 : PySem.W.codeIn K cd0 "is_whole" = true) (k0 : PySem.W.keepIn K (.ref f0) = true)
    (a1 : PySem.W.nsIn K mainGlobals "is_number_below" = some (some (.ref f1))) (l1 : K.lookup f1 = some ⟨oc1, od1, .func (PySem.W.fnOf "is_number_below" "is_number_below" (defArgs (top 7)) (defBody (top 7)) (defScope (top 7)) .none kV1 dc1 pm1 an1 cd1 ct1), sl1⟩) (c1 : PySem.W.codeIn K cd1 "is_number_below" = true) (k1 : PySem.W.keepIn K (.ref f1) = true)
    (a2 : PySem.W.nsIn K mainGlobals "length_of" = some (some (.ref f2))) (l2 : K.lookup f2 = some ⟨oc2, od2, .func (PySem.W.fnOf "length_of" "length_of" (defArgs (top 8)) (defBody (top 8)) (defScope (top 8)) .none kV2 dc2 pm2 an2 cd2 ct2), sl2⟩) (c2 : PySem.W.codeIn K cd2 "length_of" = true) (k2 : PySem.W.keepIn K (.ref f2) = true)
    (a3 : PySem.W.nsIn K mainGlobals "is_sign" = some (some (.ref f3))) (l3 : K.lookup f3 = some ⟨oc3, od3, .func (PySem.W.fnOf "is_sign" "is_sign" (defArgs (top 10)) (defBody (top 10)) (defScope (top 10)) .none kV3 dc3 pm3 an3 cd3 ct3), sl3⟩) (c3 : PySem.W.codeIn K cd3 "is_sign" = true) (k3 : PySem.W.keepIn K (.ref f3) = true)
    (a4 : PySem.W.nsIn K mainGlobals "is_row" = some (some (.ref f4))) (l4 : K.lookup f4 = some ⟨oc4, od4, .func (PySem.W.fnOf "is_row" "is_row" (defArgs (top 11)) (defBody (top 11)) (defScope (top 11)) .none kV4 dc4 pm4 an4 cd4 ct4), sl4⟩) (c4 : PySem.W.codeIn K cd4 "is_row" = true) (k4 : PySem.W.keepIn K (.ref f4) = true)
    (a5 : PySem.W.nsIn K mainGlobals "sum_of" = some (some (.ref f5))) (l5 : K.lookup f5 = some ⟨oc5, od5, .func (PySem.W.fnOf "sum_of" "sum_of" (defArgs (top 12)) (defBody (top 12)) (defScope (top 12)) .none kV5 dc5 pm5 an5 cd5 ct5), sl5⟩) (c5 : PySem.W.codeIn K cd5 "sum_of" = true) (k5 : PySem.W.keepIn K (.ref f5) = true)
    (a6 : PySem.W.nsIn K mainGlobals "added" = some (some (.ref f6))) (l6 : K.lookup f6 = some ⟨oc6, od6, .func (PySem.W.fnOf "added" "added" (defArgs (top 13)) (defBody (top 13)) (defScope (top 13)) .none kV6 dc6 pm6 an6 cd6 ct6), sl6⟩) (c6 : PySem.W.codeIn K cd6 "added" = true) (k6 : PySem.W.keepIn K (.ref f6) = true)
    (a7 : PySem.W.nsIn K mainGlobals "word_of" = some (some (.ref f7))) (l7 : K.lookup f7 = some ⟨oc7, od7, .func (PySem.W.fnOf "word_of" "word_of" (defArgs (top 15)) (defBody (top 15)) (defScope (top 15)) .none kV7 dc7 pm7 an7 cd7 ct7), sl7⟩) (c7 : PySem.W.codeIn K cd7 "word_of" = true) (k7 : PySem.W.keepIn K (.ref f7) = true)
    (a8 : PySem.W.nsIn K mainGlobals "is_core" = some (some (.ref f8))) (l8 : K.lookup f8 = some ⟨oc8, od8, .func (PySem.W.fnOf "is_core" "is_core" (defArgs (top 16)) (defBody (top 16)) (defScope (top 16)) .none kV8 dc8 pm8 an8 cd8 ct8), sl8⟩) (c8 : PySem.W.codeIn K cd8 "is_core" = true) (k8 : PySem.W.keepIn K (.ref f8) = true)
    (a9 : PySem.W.nsIn K mainGlobals "halved_word" = some (some (.ref f9))) (l9 : K.lookup f9 = some ⟨oc9, od9, .func (PySem.W.fnOf "halved_word" "halved_word" (defArgs (top 17)) (defBody (top 17)) (defScope (top 17)) .none kV9 dc9 pm9 an9 cd9 ct9), sl9⟩) (c9 : PySem.W.codeIn K cd9 "halved_word" = true) (k9 : PySem.W.keepIn K (.ref f9) = true)
    (a10 : PySem.W.nsIn K mainGlobals "_law_begun" = some (some (.ref f10))) (l10 : K.lookup f10 = some ⟨oc10, od10, .func (PySem.W.fnOf "_law_begun" "_law_begun" (defArgs (top 19)) (defBody (top 19)) (defScope (top 19)) .none kV10 dc10 pm10 an10 cd10 ct10), sl10⟩) (c10 : PySem.W.codeIn K cd10 "_law_begun" = true) (k10 : PySem.W.keepIn K (.ref f10) = true)
    (a11 : PySem.W.nsIn K mainGlobals "_law_take" = some (some (.ref f11))) (l11 : K.lookup f11 = some ⟨oc11, od11, .func (PySem.W.fnOf "_law_take" "_law_take" (defArgs (top 20)) (defBody (top 20)) (defScope (top 20)) .none kV11 dc11 pm11 an11 cd11 ct11), sl11⟩) (c11 : PySem.W.codeIn K cd11 "_law_take" = true) (k11 : PySem.W.keepIn K (.ref f11) = true)
    (a12 : PySem.W.nsIn K mainGlobals "_law_core" = some (some (.ref f12))) (l12 : K.lookup f12 = some ⟨oc12, od12, .func (PySem.W.fnOf "_law_core" "_law_core" (defArgs (top 21)) (defBody (top 21)) (defScope (top 21)) .none kV12 dc12 pm12 an12 cd12 ct12), sl12⟩) (c12 : PySem.W.codeIn K cd12 "_law_core" = true) (k12 : PySem.W.keepIn K (.ref f12) = true)
    (a13 : PySem.W.nsIn K mainGlobals "_law_sum" = some (some (.ref f13))) (l13 : K.lookup f13 = some ⟨oc13, od13, .func (PySem.W.fnOf "_law_sum" "_law_sum" (defArgs (top 22)) (defBody (top 22)) (defScope (top 22)) .none kV13 dc13 pm13 an13 cd13 ct13), sl13⟩) (c13 : PySem.W.codeIn K cd13 "_law_sum" = true) (k13 : PySem.W.keepIn K (.ref f13) = true)
    (a14 : PySem.W.nsIn K mainGlobals "law" = some (some (.ref f14))) (l14 : K.lookup f14 = some ⟨oc14, od14, .func (PySem.W.fnOf "law" "law" (defArgs (top 23)) (defBody (top 23)) (defScope (top 23)) .none kV14 dc14 pm14 an14 cd14 ct14), sl14⟩) (c14 : PySem.W.codeIn K cd14 "law" = true) (k14 : PySem.W.keepIn K (.ref f14) = true)
    {tg_GREATEST_SIZE : Tok} (g_GREATEST_SIZE : PySem.W.nsIn K mainGlobals "GREATEST_SIZE" = some (some (.int 5 tg_GREATEST_SIZE)))
    {ga0 : Addr} {gd0 : Option Addr} {gn0 : Nat} {gsl0 : Array (Option Value)} {u0_0 u0_1 u0_2 u0_3 u0_4 u0_5 : Tok} (g_LENGTHS : PySem.W.nsIn K mainGlobals "LENGTHS" = some (some (.ref ga0))) (m0 : K.lookup ga0 = some ⟨.type "tuple", gd0, .seq #[.int 1 u0_0, .int 2 u0_1, .int 4 u0_2, .int 8 u0_3, .int 16 u0_4, .int 32 u0_5] gn0, gsl0⟩)
    (z_len : PySem.W.nsIn K mainGlobals "len" = some none)
    (z_sum : PySem.W.nsIn K mainGlobals "sum" = some none)
    (z_all : PySem.W.nsIn K mainGlobals "all" = some none)
    (z_any : PySem.W.nsIn K mainGlobals "any" = some none)
    (z_max : PySem.W.nsIn K mainGlobals "max" = some none)
    (z_min : PySem.W.nsIn K mainGlobals "min" = some none)
    (z_list : PySem.W.nsIn K mainGlobals "list" = some none)
    (z_int : PySem.W.nsIn K mainGlobals "int" = some none)
    (z_range : PySem.W.nsIn K mainGlobals "range" = some none)
    (z_zip : PySem.W.nsIn K mainGlobals "zip" = some none)
    (z_isinstance : PySem.W.nsIn K mainGlobals "isinstance" = some none)
    (z_bool : PySem.W.nsIn K mainGlobals "bool" = some none)
    (main : ∀ ns : List Int, ns.length ≤ 63 → ∃ h', Fk T.fns 30 14 [.ref gs.length] (heap0 gs ns) = .ok (.bl true, h')) :
    ∃ fd : FuncData, (∀ (s : Shared) (v : Value), BindsTo s fd ⟨[v], []⟩ [("_law_script", v)]) ∧ ∀ base : Heap, K.In base → base.Ns mainGlobals mg → FnOk l.prog w K mg base CX0 30 fa fd ["_law_script"] (spLaw K) := by
  have e := hfa.symm.trans (PySem.W.mg_of X G a14)
  cases e
  have F0 := fun_mk (st := top 6) l0 c0 k0
  have b0 := F0.binds (ps := ["thing"]) fun _ _ _ _ _ _ us hl => match us, hl with | [_], _ => rfl
  have F1 := fun_mk (st := top 7) l1 c1 k1
  have b1 := F1.binds (ps := ["thing", "end"]) fun _ _ _ _ _ _ us hl => match us, hl with | [_, _], _ => rfl
  have F2 := fun_mk (st := top 8) l2 c2 k2
  have b2 := F2.binds (ps := ["size"]) fun _ _ _ _ _ _ us hl => match us, hl with | [_], _ => rfl
  have F3 := fun_mk (st := top 10) l3 c3 k3
  have b3 := F3.binds (ps := ["thing"]) fun _ _ _ _ _ _ us hl => match us, hl with | [_], _ => rfl
  have F4 := fun_mk (st := top 11) l4 c4 k4
  have b4 := F4.binds (ps := ["thing", "length"]) fun _ _ _ _ _ _ us hl => match us, hl with | [_, _], _ => rfl
  have F5 := fun_mk (st := top 12) l5 c5 k5
  have b5 := F5.binds (ps := ["signs"]) fun _ _ _ _ _ _ us hl => match us, hl with | [_], _ => rfl
  have F6 := fun_mk (st := top 13) l6 c6 k6
  have b6 := F6.binds (ps := ["one", "other"]) fun _ _ _ _ _ _ us hl => match us, hl with | [_, _], _ => rfl
  have F7 := fun_mk (st := top 15) l7 c7 k7
  have b7 := F7.binds (ps := ["core"]) fun _ _ _ _ _ _ us hl => match us, hl with | [_], _ => rfl
  have F8 := fun_mk (st := top 16) l8 c8 k8
  have b8 := F8.binds (ps := ["thing"]) fun _ _ _ _ _ _ us hl => match us, hl with | [_], _ => rfl
  have F9 := fun_mk (st := top 17) l9 c9 k9
  have b9 := F9.binds (ps := ["row"]) fun _ _ _ _ _ _ us hl => match us, hl with | [_], _ => rfl
  have F10 := fun_mk (st := top 19) l10 c10 k10
  have b10 := F10.binds (ps := ["_law_script", "_law_k"]) fun _ _ _ _ _ _ us hl => match us, hl with | [_, _], _ => rfl
  have F11 := fun_mk (st := top 20) l11 c11 k11
  have b11 := F11.binds (ps := ["_law_state", "_law_many"]) fun _ _ _ _ _ _ us hl => match us, hl with | [_, _], _ => rfl
  have F12 := fun_mk (st := top 21) l12 c12 k12
  have b12 := F12.binds (ps := ["_law_state", "_law_many"]) fun _ _ _ _ _ _ us hl => match us, hl with | [_, _], _ => rfl
  have F13 := fun_mk (st := top 22) l13 c13 k13
  have b13 := F13.binds (ps := ["_law_one", "_law_other"]) fun _ _ _ _ _ _ us hl => match us, hl with | [_, _], _ => rfl
  have F14 := fun_mk (st := top 23) l14 c14 k14
  have b14 := F14.binds (ps := ["_law_script"]) fun _ _ _ _ _ _ us hl => match us, hl with | [_], _ => rfl
  have O : TabOk K mg [ga0] T [f0, f1, f2, f3, f4, f5, f6, f7, f8, f9, f10, f11, f12, f13, fa] [PySem.W.fnOf "is_whole" "is_whole" (defArgs (top 6)) (defBody (top 6)) (defScope (top 6)) .none kV0 dc0 pm0 an0 cd0 ct0, PySem.W.fnOf "is_number_below" "is_number_below" (defArgs (top 7)) (defBody (top 7)) (defScope (top 7)) .none kV1 dc1 pm1 an1 cd1 ct1, PySem.W.fnOf "length_of" "length_of" (defArgs (top 8)) (defBody (top 8)) (defScope (top 8)) .none kV2 dc2 pm2 an2 cd2 ct2, PySem.W.fnOf "is_sign" "is_sign" (defArgs (top 10)) (defBody (top 10)) (defScope (top 10)) .none kV3 dc3 pm3 an3 cd3 ct3, PySem.W.fnOf "is_row" "is_row" (defArgs (top 11)) (defBody (top 11)) (defScope (top 11)) .none kV4 dc4 pm4 an4 cd4 ct4, PySem.W.fnOf "sum_of" "sum_of" (defArgs (top 12)) (defBody (top 12)) (defScope (top 12)) .none kV5 dc5 pm5 an5 cd5 ct5, PySem.W.fnOf "added" "added" (defArgs (top 13)) (defBody (top 13)) (defScope (top 13)) .none kV6 dc6 pm6 an6 cd6 ct6, PySem.W.fnOf "word_of" "word_of" (defArgs (top 15)) (defBody (top 15)) (defScope (top 15)) .none kV7 dc7 pm7 an7 cd7 ct7, PySem.W.fnOf "is_core" "is_core" (defArgs (top 16)) (defBody (top 16)) (defScope (top 16)) .none kV8 dc8 pm8 an8 cd8 ct8, PySem.W.fnOf "halved_word" "halved_word" (defArgs (top 17)) (defBody (top 17)) (defScope (top 17)) .none kV9 dc9 pm9 an9 cd9 ct9, PySem.W.fnOf "_law_begun" "_law_begun" (defArgs (top 19)) (defBody (top 19)) (defScope (top 19)) .none kV10 dc10 pm10 an10 cd10 ct10, PySem.W.fnOf "_law_take" "_law_take" (defArgs (top 20)) (defBody (top 20)) (defScope (top 20)) .none kV11 dc11 pm11 an11 cd11 ct11, PySem.W.fnOf "_law_core" "_law_core" (defArgs (top 21)) (defBody (top 21)) (defScope (top 21)) .none kV12 dc12 pm12 an12 cd12 ct12, PySem.W.fnOf "_law_sum" "_law_sum" (defArgs (top 22)) (defBody (top 22)) (defScope (top 22)) .none kV13 dc13 pm13 an13 cd13 ct13, PySem.W.fnOf "law" "law" (defArgs (top 23)) (defBody (top 23)) (defScope (top 23)) .none kV14 dc14 pm14 an14 cd14 ct14] := by
    refine ⟨fun i d hd => ?_, fun x e hx => ?_, fun x hx => ?_⟩
    · match i, hd with
      | 0, hd => cases hd; exact ⟨_, _, rfl, rfl, F0, sc0, PySem.W.mg_of X G a0, b0⟩
      | 1, hd => cases hd; exact ⟨_, _, rfl, rfl, F1, sc1, PySem.W.mg_of X G a1, b1⟩
      | 2, hd => cases hd; exact ⟨_, _, rfl, rfl, F2, sc2, PySem.W.mg_of X G a2, b2⟩
      | 3, hd => cases hd; exact ⟨_, _, rfl, rfl, F3, sc3, PySem.W.mg_of X G a3, b3⟩
      | 4, hd => cases hd; exact ⟨_, _, rfl, rfl, F4, sc4, PySem.W.mg_of X G a4, b4⟩
      | 5, hd => cases hd; exact ⟨_, _, rfl, rfl, F5, sc5, PySem.W.mg_of X G a5, b5⟩
      | 6, hd => cases hd; exact ⟨_, _, rfl, rfl, F6, sc6, PySem.W.mg_of X G a6, b6⟩
      | 7, hd => cases hd; exact ⟨_, _, rfl, rfl, F7, sc7, PySem.W.mg_of X G a7, b7⟩
      | 8, hd => cases hd; exact ⟨_, _, rfl, rfl, F8, sc8, PySem.W.mg_of X G a8, b8⟩
      | 9, hd => cases hd; exact ⟨_, _, rfl, rfl, F9, sc9, PySem.W.mg_of X G a9, b9⟩
      | 10, hd => cases hd; exact ⟨_, _, rfl, rfl, F10, sc10, PySem.W.mg_of X G a10, b10⟩
      | 11, hd => cases hd; exact ⟨_, _, rfl, rfl, F11, sc11, PySem.W.mg_of X G a11, b11⟩
      | 12, hd => cases hd; exact ⟨_, _, rfl, rfl, F12, sc12, PySem.W.mg_of X G a12, b12⟩
      | 13, hd => cases hd; exact ⟨_, _, rfl, rfl, F13, sc13, PySem.W.mg_of X G a13, b13⟩
      | 14, hd => cases hd; exact ⟨_, _, rfl, rfl, F14, sc14, PySem.W.mg_of X G a14, b14⟩
      | m + 15, hd => cases hd
    · have hx2 : List.lookup x ([("GREATEST_SIZE", E.cst (.int 5)), ("LENGTHS", E.glob 0)] : List (Str × E)) = some e := hx
      simp only [List.lookup_cons, List.lookup_nil] at hx2
      split at hx2
      · rename_i hq
        have hq2 : x = "GREATEST_SIZE" := by simpa using hq
        subst hq2
        cases hx2
        exact .inl ⟨_, _, rfl, PySem.W.mg_of X G g_GREATEST_SIZE, ⟨_, rfl⟩, fun _ => rfl⟩
      split at hx2
      · rename_i hq
        have hq2 : x = "LENGTHS" := by simpa using hq
        subst hq2
        cases hx2
        exact .inr ⟨_, _, rfl, PySem.W.mg_of X G g_LENGTHS, rfl⟩
      cases hx2
    · have hx2 : x ∈ (["len", "sum", "all", "any", "max", "min", "list", "int", "range", "zip", "isinstance", "bool"] : List Str) := List.contains_iff_mem.mp hx
      simp only [List.mem_cons, List.not_mem_nil, or_false] at hx2
      rcases hx2 with rfl | rfl | rfl | rfl | rfl | rfl | rfl | rfl | rfl | rfl | rfl | rfl
      · exact PySem.W.mg_none_of X G z_len
      · exact PySem.W.mg_none_of X G z_sum
      · exact PySem.W.mg_none_of X G z_all
      · exact PySem.W.mg_none_of X G z_any
      · exact PySem.W.mg_none_of X G z_max
      · exact PySem.W.mg_none_of X G z_min
      · exact PySem.W.mg_none_of X G z_list
      · exact PySem.W.mg_none_of X G z_int
      · exact PySem.W.mg_none_of X G z_range
      · exact PySem.W.mg_none_of X G z_zip
      · exact PySem.W.mg_none_of X G z_isinstance
      · exact PySem.W.mg_none_of X G z_bool
  have hG : tupsOk K [ga0] gs := ⟨⟨.inr ⟨_, _, _, m0, rfl, rfl, by show 6 ≤ sizeLine; decide, .cons ⟨_, rfl⟩ (.cons ⟨_, rfl⟩ (.cons ⟨_, rfl⟩ (.cons ⟨_, rfl⟩ (.cons ⟨_, rfl⟩ (.cons ⟨_, rfl⟩ (.nil))))))⟩, rfl⟩, True.intro⟩
  exact ⟨PySem.W.fnOf "law" "law" (defArgs (top 23)) (defBody (top 23)) (defScope (top 23)) .none kV14 dc14 pm14 an14 cd14 ct14, fun s v => .of_eq rfl, fun base _ _ => law_sound O hG (i := 14) rfl rfl rfl rfl main⟩
theorem walk {l : PySem.W.OpenLaw} {q : Program} {loose : List Str} {XP : (Str → Option Value) → Heap → Prop} {YP : World → Heap → Prop} {d : DefRec} {K : Params → PySem.W.Frag} (hn : l.most = some 63) (hdf : d.params.defaults = [])
    (hY : ∀ (w : World) (h : Heap), YP w h → (K w.params).In h)
    (F : ∀ (w : World) (mg : Str → Option Value) (fa : Addr) (h : Heap), (K w.params).In h → h.Ns mainGlobals mg → mg d.name = some (.ref fa) →
      ∃ fd : FuncData, (∀ (s : Shared) (u : Value), BindsTo s fd ⟨[u], []⟩ [("_law_script", u)]) ∧ ∀ base : Heap, (K w.params).In base → base.Ns mainGlobals mg → FnOk l.prog w (K w.params) mg base CX0 30 fa fd ["_law_script"] (spLaw (K w.params))) :
    PySem.W.WalkO q loose XP YP l.row.toRowW d [] (fun f vs => PySem.call f vs) :=
  L2.walk_of (n := 63) (k := 30) (x := "_law_script") (CX := fun _ => CX0) (sp := fun w => spLaw (K w.params)) hn (by decide) hdf ⟨rfl, by decide, by decide⟩ hY F (fun _ _ a ns hl hO hS => ⟨a, ns, rfl, hO, hS, hl, fun _ => rfl⟩) fun _ _ _ _ _ z => z
end My
open PySem PySem.W PyProof.Rows
set_option maxRecDepth 100000 in
set_option maxHeartbeats 0 in
theorem PySem.Challenge.cw_healhalves_k03_word_of_the_word_holds : PySem.Challenge.rw_healhalves_k03_word_of_the_word.Holds := by
  w_on; o_law; k_head; (case hw => w_witness2)
  k_fill
  refine My.walk (l := PySem.Challenge.rw_healhalves_k03_word_of_the_word) rfl rfl (fun w h Y => PySem.W.kIn_of Y) ?F
  case F =>
    intro w mg fa h KX G hmg
    refine' My.all_mk KX G hmg ?a0 ?l0 ?c0 ?k0 ?a1 ?l1 ?c1 ?k1 ?a2 ?l2 ?c2 ?k2 ?a3 ?l3 ?c3 ?k3 ?a4 ?l4 ?c4 ?k4 ?a5 ?l5 ?c5 ?k5 ?a6 ?l6 ?c6 ?k6 ?a7 ?l7 ?c7 ?k7 ?a8 ?l8 ?c8 ?k8 ?a9 ?l9 ?c9 ?k9 ?a10 ?l10 ?c10 ?k10 ?a11 ?l11 ?c11 ?k11 ?a12 ?l12 ?c12 ?k12 ?a13 ?l13 ?c13 ?k13 ?a14 ?l14 ?c14 ?k14 ?g_GREATEST_SIZE ?g_LENGTHS ?m0 ?z_len ?z_sum ?z_all ?z_any ?z_max ?z_min ?z_list ?z_int ?z_range ?z_zip ?z_isinstance ?z_bool My.main
    (case a0 => k_is)
    (case l0 => k_is)
    (case c0 => k_is)
    (case k0 => k_is)
    (case a1 => k_is)
    (case l1 => k_is)
    (case c1 => k_is)
    (case k1 => k_is)
    (case a2 => k_is)
    (case l2 => k_is)
    (case c2 => k_is)
    (case k2 => k_is)
    (case a3 => k_is)
    (case l3 => k_is)
    (case c3 => k_is)
    (case k3 => k_is)
    (case a4 => k_is)
    (case l4 => k_is)
    (case c4 => k_is)
    (case k4 => k_is)
    (case a5 => k_is)
    (case l5 => k_is)
    (case c5 => k_is)
    (case k5 => k_is)
    (case a6 => k_is)
    (case l6 => k_is)
    (case c6 => k_is)
    (case k6 => k_is)
    (case a7 => k_is)
    (case l7 => k_is)
    (case c7 => k_is)
    (case k7 => k_is)
    (case a8 => k_is)
    (case l8 => k_is)
    (case c8 => k_is)
    (case k8 => k_is)
    (case a9 => k_is)
    (case l9 => k_is)
    (case c9 => k_is)
    (case k9 => k_is)
    (case a10 => k_is)
    (case l10 => k_is)
    (case c10 => k_is)
    (case k10 => k_is)
    (case a11 => k_is)
    (case l11 => k_is)
    (case c11 => k_is)
    (case k11 => k_is)
    (case a12 => k_is)
    (case l12 => k_is)
    (case c12 => k_is)
    (case k12 => k_is)
    (case a13 => k_is)
    (case l13 => k_is)
    (case c13 => k_is)
    (case k13 => k_is)
    (case a14 => k_is)
    (case l14 => k_is)
    (case c14 => k_is)
    (case k14 => k_is)
    (case g_GREATEST_SIZE => k_is)
    (case g_LENGTHS => k_is)
    (case m0 => k_is)
    (case z_len => k_is)
    (case z_sum => k_is)
    (case z_all => k_is)
    (case z_any => k_is)
    (case z_max => k_is)
    (case z_min => k_is)
    (case z_list => k_is)
    (case z_int => k_is)
    (case z_range => k_is)
    (case z_zip => k_is)
    (case z_isinstance => k_is)
    (case z_bool => k_is)

