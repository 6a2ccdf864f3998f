import PyProof.Rows.All
import Wide.All
import OpenK.AllK
import Wide.FinOn
import Lean
import PyProof.EqAt
import PyProof.EqKinds
import PyProof.TupleCall
import PySem.Challenge.RW_dotpress_k38_texts_that_write_none
set_option Elab.async false
set_option linter.all false
set_option maxRecDepth 100000
/-! THE HAND LAYER, for ints, bools, texts, own classes, LISTS and tuples (index, slices, in, append, pop ..), calls, loops. Paste it whole ahead of your own text; what your proof does not reach may be deleted. -/
namespace L2
open PySem PySem.Spec PyProof.Rows

/-- a key: an int or a str -/
abbrev Key := Sum Int Str
def keyIs : Key → Value → Bool
  | .inl k, v => Value.isInt k v
  | .inr x, v => Value.isStrOf x v
def keyH (w : World) : Key → Int
  | .inl k => hashInt k
  | .inr x => hashStr w x
theorem keyIs_shape : ∀ {k : Key} {v : Value}, keyIs k v = true → (∃ i t, k = Sum.inl i ∧ v = Value.int i t) ∨ (∃ x t, k = Sum.inr x ∧ v = Value.str x t)
  | .inl i, v, h => by
    obtain ⟨t, e⟩ := Value.isInt_shape (k := i) (v := v) h
    exact .inl ⟨i, t, rfl, e⟩
  | .inr x, v, h => by
    obtain ⟨t, e⟩ := Value.isStrOf_shape (x := x) (v := v) h
    exact .inr ⟨x, t, rfl, e⟩
theorem key_ll (a b : Int) : decide ((Sum.inl a : Key) = Sum.inl b) = (a == b) := by
  by_cases e : a = b
  · subst e; simp
  · have h : ¬ (Sum.inl a : Key) = Sum.inl b := fun q => e (Sum.inl.inj q)
    rw [decide_eq_false h]
    exact (beq_eq_false_iff_ne.mpr e).symm
theorem key_rr (a b : Str) : decide ((Sum.inr a : Key) = Sum.inr b) = decide (a = b) := by
  by_cases e : a = b
  · subst e; simp
  · have h : ¬ (Sum.inr a : Key) = Sum.inr b := fun q => e (Sum.inr.inj q)
    rw [decide_eq_false h, decide_eq_false e]
theorem key_lr (a : Int) (b : Str) : decide ((Sum.inl a : Key) = Sum.inr b) = false := decide_eq_false (fun q => nomatch q)
theorem key_rl (a : Str) (b : Int) : decide ((Sum.inr a : Key) = Sum.inl b) = false := decide_eq_false (fun q => nomatch q)

def mixKind (prog : Program) (w : World) : PySem.KeyKind prog w Key where
  is := keyIs
  hash := keyH w
  inj := fun v a b ha hb => by
    rcases keyIs_shape ha with ⟨i, t, rfl, rfl⟩ | ⟨x, t, rfl, rfl⟩
    · rcases keyIs_shape hb with ⟨j, u, rfl, e⟩ | ⟨y, u, rfl, e⟩
      · injection e with e1 _; rw [e1]
      · exact nomatch e
    · rcases keyIs_shape hb with ⟨j, u, rfl, e⟩ | ⟨y, u, rfl, e⟩
      · exact nomatch e
      · injection e with e1 _; rw [e1]
  byValue := fun k v h => by
    rcases keyIs_shape h with ⟨i, t, rfl, rfl⟩ | ⟨x, t, rfl, rfl⟩ <;> rfl
  pyHash := fun hv h => by
    rcases keyIs_shape hv with ⟨i, t, rfl, rfl⟩ | ⟨x, t, rfl, rfl⟩
    · exact wpAny_pyHash_int h
    · exact wpAny_pyHash_str h
  eqBool := fun hu hv h => by
    rcases keyIs_shape hu with ⟨i, t, rfl, rfl⟩ | ⟨x, t, rfl, rfl⟩
    · rcases keyIs_shape hv with ⟨j, u, rfl, rfl⟩ | ⟨y, u, rfl, rfl⟩
      · rw [key_ll] at h; exact wpAny_eqBool_int h
      · rw [key_lr] at h; exact SeqAt.EqAt.int_str i t y u _ _ _ _ h
    · rcases keyIs_shape hv with ⟨j, u, rfl, rfl⟩ | ⟨y, u, rfl, rfl⟩
      · rw [key_rl] at h; exact SeqAt.EqAt.str_int x t j u _ _ _ _ h
      · rw [key_rr] at h; exact wpAny_eqBool_str h
  «strs» := fun k x t v h => by
    rcases keyIs_shape h with ⟨i, u, rfl, e⟩ | ⟨y, u, rfl, e⟩
    · exact nomatch e
    · injection e with e1 _
      subst e1
      cases v <;> rfl

end L2

namespace L2
open PySem PySem.Spec PyProof.Rows

/-- a value, without the heap -/
inductive V where
  | non | bl (b : Bool) | int (i : Int) | str (x : Str) | byt (b : Array UInt8) | flt (b : UInt64) | ref (a : Addr) | ty (n : String)
  deriving DecidableEq

def RelV : V → Value → Prop
  | .non, u => u = Value.none
  | .bl b, u => u = Value.bool b
  | .int i, u => ∃ t, u = Value.int i t
  | .str x, u => ∃ t, u = Value.str x t
  | .byt b, u => ∃ t, u = Value.bytes b t
  | .flt b, u => ∃ t, u = Value.float b t
  | .ref a, u => u = Value.ref a
  | .ty n, u => u = Value.type n

abbrev Vals : List V → List Value → Prop := Paired RelV
theorem Vals.length {xs : List V} {us : List Value} (r : Vals xs us) : xs.length = us.length := Paired.length r
theorem Vals.get : ∀ {xs : List V} {us : List Value} {i : Nat} {x : V}, Vals xs us → xs[i]? = some x → ∃ u, us[i]? = some u ∧ RelV x u
  | _, _, _, _, .nil, e => by simp at e
  | _, _, 0, _, .cons r _, e => by simp at e; subst e; exact ⟨_, rfl, r⟩
  | _, _, i + 1, x, .cons _ t, e => by
    obtain ⟨u, h1, h2⟩ := Vals.get (i := i) (x := x) t (by simpa using e)
    exact ⟨u, by simpa using h1, h2⟩
theorem Vals.append : ∀ {xs ys : List V} {us ws : List Value}, Vals xs us → Vals ys ws → Vals (xs ++ ys) (us ++ ws)
  | _, _, _, _, .nil, s => s
  | _, _, _, _, .cons r t, s => .cons r (Vals.append t s)
theorem Vals.take : ∀ {xs : List V} {us : List Value} (n : Nat), Vals xs us → Vals (xs.take n) (us.take n)
  | _, _, 0, _ => .nil
  | _, _, _ + 1, .nil => .nil
  | _, _, n + 1, .cons r t => .cons r (Vals.take n t)
theorem Vals.drop : ∀ {xs : List V} {us : List Value} (n : Nat), Vals xs us → Vals (xs.drop n) (us.drop n)
  | _, _, 0, r => r
  | _, _, _ + 1, .nil => .nil
  | _, _, n + 1, .cons _ t => Vals.drop n t

def RelO : Option V → Option Value → Prop
  | some v, some u => RelV v u
  | none, none => True
  | _, _ => False
def KV {κ : Type} : List (κ × V) → List (κ × Value) → Prop := Paired fun (p : κ × V) (q : κ × Value) => p.1 = q.1 ∧ RelV p.2 q.2

/-- a key of a dict (00_mix): an int or a text -/
def kV : Key → V
  | .inl i => .int i
  | .inr x => .str x

/-- what stands at a tracked address -/
inductive HO where
  /-- a list -/
  | lst (xs : List V)
  /-- a tuple (never changes) -/
  | tup (xs : List V)
  /-- a dict whose keys are ints and texts; one whose keys are tuples of ints and texts (the empty one is both) -/
  | dK (kvs : List (Key × V)) | dT (kvs : List (List Key × V))
  /-- a set of ints: its members, its size -/
  | set (S : Int → Bool) (n : Nat)
  /-- an instance of the class at C, its dict at dx, its attributes -/
  | ins (C dx : Addr) (fs : List (Str × V))
  /-- the dict of the instance at x -/
  | own (x : Addr)
  /-- the dict of an exception -/
  | xd (fs : List (Str × V))
  /-- a bound method, f of x -/
  | met (f x : Addr)
  /-- a range object lo, lo + 1, .. below hi -/
  | rng (lo hi : Int)
  /-- a thing that is known to the object (the script; a dict while a loop walks it): read, never written while it is so -/
  | frz (o : Obj) (u : HO)
  /-- a code object's table -/
  | tbl (ps : Array Value)
  /-- any other thing, by what is true of its one object (a def of one's own: SetO a S n := HO.ext fun h => ..) -/
  | ext (φ : Heap → Prop)

abbrev Hp := Addr → Option HO
def upd (H : Hp) (a : Addr) (o : HO) : Hp := fun b => if b = a then some o else H b
theorem upd_same {H : Hp} {a : Addr} {o : HO} : upd H a o a = some o := by unfold upd; rw [if_pos rfl]
theorem upd_ne {H : Hp} {a b : Addr} {o : HO} (h : b ≠ a) : upd H a o b = H b := by unfold upd; rw [if_neg h]
/-- two objects of different content stand apart -/
theorem ne_of {H : Hp} {a b : Addr} {o u : HO} (h : H a = some o) (h' : H b = some u) (d : o ≠ u) : a ≠ b := by
  intro e; subst e; rw [h] at h'; exact d (Option.some.inj h')
theorem ne_of_none {H : Hp} {a b : Addr} {o : HO} (h : H a = some o) (h' : H b = none) : a ≠ b := by
  intro e; subst e; rw [h] at h'; cases h'

section
variable (P : Program) (w : World)
def ObjOk (H : Hp) (h : Heap) (a : Addr) : HO → Prop
  | .lst xs => xs.length ≤ sizeLine ∧ ∃ (its : List Value) (n : Nat), Vals xs its ∧ h.get? a = some { cls := .type "list", data := .seq its.toArray n }
  | .tup xs => xs.length ≤ sizeLine ∧ ∃ its : List Value, Vals xs its ∧ IsTup h a its.toArray
  | .dK kvs => kvs.length ≤ sizeLine ∧ (a == sysModules) = false ∧ ∃ vs, KV kvs vs ∧ h.DictOf (mixKind P w) a vs
  | .dT kvs => kvs.length ≤ sizeLine ∧ (a == sysModules) = false ∧ ∃ xs : List (List Key × Addr × Value),
      Paired (fun (p : List Key × V) (q : List Key × Addr × Value) => p.1 = q.1 ∧ H q.2.1 = some (.tup (p.1.map kV)) ∧ RelV p.2 q.2.2) kvs xs ∧
      ∃ o es ep, h.get? a = some o ∧ o.ExactDict ∧ o.data = .dict es ep ∧ es.toList = xs.map (entryOfKey (tupleKind (mixKind P w))) ∧ (xs.map (·.1)).Nodup
  | .set S n => h.SetOf (intKind P w) a S n
  | .ins C dx fs => H dx = some (.own a) ∧ fs.length ≤ 1000 ∧ dx ≠ a ∧ h.get? a = some (PySem.W.instObj C dx) ∧
      ∃ mA, h.Ns1 dx mA ∧ (∀ f, RelO (fs.lookup f) (mA f)) ∧ PySem.Within mA (fs.map (·.1))
  | .own _ => ∃ o, h.get? a = some o
  | .xd fs => ∃ mA, h.Ns1 a mA ∧ ∀ f, RelO (fs.lookup f) (mA f)
  | .rng lo hi => ∃ t u v, h.get? a = some { cls := .type "range", data := .fields #[.int lo t, .int hi u, .int 1 v] }
  | .frz o u => h.get? a = some o ∧ ObjOk H h a u
  | .tbl ps => h.get? a = some { cls := .none, data := .fields ps }
  | .met f x => h.get? a = some (PySem.W.methodObj (.ref f) (.ref x))
  | .ext φ => φ h ∧ (∃ o, h.get? a = some o) ∧ ∀ h1 h2 : Heap, φ h1 → (∀ o, h1.get? a = some o → h2.get? a = some o) → φ h2
/-- the abstract heap is held -/
def HOk (H : Hp) (h : Heap) : Prop := ∀ a o, H a = some o → ObjOk P w H h a o
end

section
variable {P : Program} {w : World} {H H' : Hp} {h h' : Heap} {a : Addr} {o : HO}
theorem ObjOk.lt (x : ObjOk P w H h a o) : a < h.objs.size := by
  cases o with
  | lst xs => obtain ⟨_, _, _, _, e⟩ := x; exact Heap.lt_size e
  | tup xs => obtain ⟨_, _, _, p⟩ := x; exact p.lt
  | dK kvs => obtain ⟨_, _, _, _, o, _, _, e, _⟩ := x; exact Heap.lt_size e
  | dT kvs => obtain ⟨_, _, _, _, o, _, _, e, _⟩ := x; exact Heap.lt_size e
  | set S n => obtain ⟨o, _, _, _, e, _⟩ := x; exact Heap.lt_size e
  | ins C dx fs => obtain ⟨_, _, _, e, _⟩ := x; exact Heap.lt_size e
  | own y => obtain ⟨_, e⟩ := x; exact Heap.lt_size e
  | xd fs => obtain ⟨_, ⟨_, _, _, e, _⟩, _⟩ := x; exact Heap.lt_size e
  | rng lo hi => obtain ⟨_, _, _, e⟩ := x; exact Heap.lt_size e
  | frz ob u => obtain ⟨e, _⟩ := x; exact Heap.lt_size e
  | tbl ps => exact Heap.lt_size (show h.get? a = some _ from x)
  | met f y => exact Heap.lt_size (show h.get? a = some _ from x)
  | ext φ => obtain ⟨_, ⟨_, e⟩, _⟩ := x; exact Heap.lt_size e
theorem Paired.mapP {α β : Type} {F G : α → β → Prop} : ∀ {l₁ : List α} {l₂ : List β}, Paired F l₁ l₂ → (∀ a b, F a b → G a b) → Paired G l₁ l₂
  | _, _, .nil, _ => .nil
  | _, _, .cons r t, f => .cons (f _ _ r) (Paired.mapP t f)
/-- what an object's description leans on: its own object, its own dict, the tuples -/
theorem ObjOk.stay (x : ObjOk P w H h a o) (k : ∀ b u, (b = a ∨ H b = some (.own a)) → h.get? b = some u → h'.get? b = some u)
    (ho : ∀ b, H b = some (.own a) → H' b = some (.own a)) (ht : ∀ b xs, H b = some (.tup xs) → H' b = some (.tup xs)) : ObjOk P w H' h' a o := by
  induction o with
  | lst xs => obtain ⟨z, its, n, r, e⟩ := x; exact ⟨z, its, n, r, k _ _ (.inl rfl) e⟩
  | tup xs => obtain ⟨z, its, r, ob, e, c⟩ := x; exact ⟨z, its, r, ob, k _ _ (.inl rfl) e, c⟩
  | dK kvs => obtain ⟨z, y, vs, r, ob, es, ep, e, c⟩ := x; exact ⟨z, y, vs, r, ob, es, ep, k _ _ (.inl rfl) e, c⟩
  | dT kvs =>
    obtain ⟨z, y, xs, r, ob, es, ep, e, c⟩ := x
    exact ⟨z, y, xs, Paired.mapP r fun p q z => ⟨z.1, ht _ _ z.2.1, z.2.2⟩, ob, es, ep, k _ _ (.inl rfl) e, c⟩
  | set S n => obtain ⟨ob, es, ep, t, e, c⟩ := x; exact ⟨ob, es, ep, t, k _ _ (.inl rfl) e, c⟩
  | ins C dx fs =>
    obtain ⟨d, z, ne, e, mA, ⟨od, es, ep, e2, c⟩, r⟩ := x
    exact ⟨ho _ d, z, ne, k _ _ (.inl rfl) e, mA, ⟨od, es, ep, k _ _ (.inr d) e2, c⟩, r⟩
  | own y => obtain ⟨ob, e⟩ := x; exact ⟨ob, k _ _ (.inl rfl) e⟩
  | xd fs => obtain ⟨mA, ⟨od, es, ep, e, c⟩, r⟩ := x; exact ⟨mA, ⟨od, es, ep, k _ _ (.inl rfl) e, c⟩, r⟩
  | rng lo hi => obtain ⟨t, u, v, e⟩ := x; exact ⟨t, u, v, k _ _ (.inl rfl) e⟩
  | frz ob u ih => obtain ⟨e, q⟩ := x; exact ⟨k _ _ (.inl rfl) e, ih q⟩
  | tbl ps =>
    have e : h.get? a = some { cls := .none, data := .fields ps } := x
    show h'.get? a = some { cls := .none, data := .fields ps }
    exact k a _ (.inl rfl) e
  | met f y =>
    have e : h.get? a = some (PySem.W.methodObj (.ref f) (.ref y)) := x
    show h'.get? a = some (PySem.W.methodObj (.ref f) (.ref y))
    exact k a _ (.inl rfl) e
  | ext φ => obtain ⟨p, ⟨o, e⟩, st⟩ := x; exact ⟨st _ _ p fun o q => k _ _ (.inl rfl) q, ⟨o, k _ _ (.inl rfl) e⟩, st⟩
theorem HOk.lt (x : HOk P w H h) (e : H a = some o) : a < h.objs.size := (x a o e).lt
theorem HOk.fresh (x : HOk P w H h) (e : h.objs.size ≤ a) : H a = none := by
  cases q : H a with
  | none => rfl
  | some u => exact absurd (Nat.lt_of_lt_of_le (x.lt q) e) (Nat.lt_irrefl _)
/-- every object of the heap is kept -/
theorem HOk.kept (x : HOk P w H h) (k : ∀ b u, h.get? b = some u → h'.get? b = some u) : HOk P w H h' := fun a o e =>
  (x a o e).stay (fun b u _ q => k b u q) (fun _ q => q) fun _ _ q => q
/-- a new object is laid and tracked -/
theorem HOk.laid (x : HOk P w H h) (k : ∀ b u, h.get? b = some u → h'.get? b = some u) (hp : h.objs.size ≤ a) (new : ObjOk P w (upd H a o) h' a o) : HOk P w (upd H a o) h' := fun b u e => by
  have hn := x.fresh hp
  by_cases hb : b = a
  · subst hb; rw [upd_same] at e; cases e; exact new
  · rw [upd_ne hb] at e
    exact (x b u e).stay (fun c v _ q => k c v q) (fun c q => by rw [upd_ne (ne_of_none q hn)]; exact q) fun c xs q => by rw [upd_ne (ne_of_none q hn)]; exact q
end

/-- what may be read as u: it is u, or a known u -/
def Rd (H : Hp) (a : Addr) (u : HO) : Prop := H a = some u ∨ ∃ o, H a = some (.frz o u)
theorem Rd.ok {P : Program} {w : World} {H : Hp} {h : Heap} {a : Addr} {u : HO} (r : Rd H a u) (x : HOk P w H h) : ObjOk P w H h a u := by
  rcases r with r | ⟨o, r⟩
  · exact x a u r
  · obtain ⟨_, q⟩ := x a _ r
    exact q
/-- what may be written -/
def Mut : Option HO → Prop
  | some (.lst _) => True
  | some (.dK _) => True
  | some (.dT _) => True
  | some (.set _ _) => True
  | some (.ins _ _ _) => True
  | some (.ext _) => True
  | _ => False
section
variable {P : Program} {w : World} {H : Hp} {h h' : Heap} {x e : Addr} {o' : HO}
/-- the object at e is changed: x itself, or the dict of the instance x -/
theorem HOk.write (ok : HOk P w H h) (mu : Mut (H x)) (he : e = x ∨ H e = some (.own x)) (k : ∀ b u, b ≠ e → h.get? b = some u → h'.get? b = some u) (heo : ∃ u, h'.get? e = some u)
    (new : ObjOk P w (upd H x o') h' x o') : HOk P w (upd H x o') h' := fun b u q => by
  have nown : ∀ c y, H c = some (.own y) → c ≠ x := fun c y r z => by subst z; rw [r] at mu; exact mu
  have ntup : ∀ c xs, H c = some (.tup xs) → c ≠ x := fun c xs r z => by subst z; rw [r] at mu; exact mu
  by_cases hb : b = x
  · subst hb; rw [upd_same] at q; cases q; exact new
  · rw [upd_ne hb] at q
    by_cases hbe : b = e
    · have q' : H b = some (.own x) := by
        rcases he with z | z
        · exact absurd (hbe.trans z) hb
        · rw [hbe]; exact z
      rw [q] at q'; cases q'
      obtain ⟨v, hv⟩ := heo
      exact ⟨v, by rw [hbe]; exact hv⟩
    · refine (ok b u q).stay (fun c v hc r => k c v ?_ r) (fun c r => by rw [upd_ne (nown c b r)]; exact r) fun c xs r => by rw [upd_ne (ntup c xs r)]; exact r
      rcases hc with rfl | hc
      · exact hbe
      · rintro rfl
        rcases he with z | z
        · exact nown c b hc z
        · rw [hc] at z; cases z; exact hb rfl
end

/-! ### kept unless tracked; of the frames at fs (the callers') the slots may change (an exception that passes writes there); of the records at ex (iterators) nothing is said -/
structure Un (fs ex : List Addr) (H H' : Hp) (h h' : Heap) : Prop where
  keep : ∀ b o, h.get? b = some o → H b = none → b ∉ fs → b ∉ ex → h'.get? b = some o
  slot : ∀ b o, h.get? b = some o → H b = none → b ∈ fs → b ∉ ex → ∃ sl, h'.get? b = some { o with slots := sl }
  free : ∀ b o, h.get? b = some o → H b = none → b ∉ ex → H' b = none
  there : ∀ b o, h.get? b = some o → b ∉ ex → ∃ o', h'.get? b = some o'
  tups : ∀ b xs, H b = some (.tup xs) → H' b = some (.tup xs)
  frzs : ∀ b o u, H b = some (.frz o u) → H' b = some (.frz o u)
  tbls : ∀ b ps, H b = some (.tbl ps) → ∃ more, H' b = some (.tbl (ps ++ more))
section
variable {fs fs' ex ex' : List Addr} {H H1 H2 : Hp} {h h1 h2 h' : Heap} {a x e : Addr} {o : HO}
theorem Un.any (u : Un fs ex H H1 h h1) {b : Addr} {ob : Obj} (q : h.get? b = some ob) (n : H b = none) (hx : b ∉ ex) : ∃ sl, h1.get? b = some { ob with slots := sl } := by
  by_cases hb : b ∈ fs
  · exact u.slot b ob q n hb hx
  · exact ⟨ob.slots, u.keep b ob q n hb hx⟩
theorem Un.kept (k : ∀ b u, h.get? b = some u → h'.get? b = some u) : Un fs ex H H h h' :=
  ⟨fun b ob q _ _ _ => k b ob q, fun b ob q _ _ _ => ⟨ob.slots, k b ob q⟩, fun _ _ _ n _ => n, fun b ob q _ => ⟨ob, k b ob q⟩, fun _ _ q => q, fun _ _ _ q => q, fun _ ps q => ⟨#[], by rw [q]; simp⟩⟩
theorem Un.refl : Un fs ex H H h h := Un.kept fun _ _ q => q
theorem Un.laid (k : ∀ b u, h.get? b = some u → h'.get? b = some u) (hp : h.objs.size ≤ a) (hn : H a = none) : Un fs ex H (upd H a o) h h' where
  keep := fun b u q _ _ _ => k b u q
  slot := fun b u q _ _ _ => ⟨u.slots, k b u q⟩
  free := fun b u q n _ => by rw [upd_ne (Nat.ne_of_lt (Nat.lt_of_lt_of_le (Heap.lt_size q) hp))]; exact n
  there := fun b u q _ => ⟨u, k b u q⟩
  tups := fun b xs q => by rw [upd_ne (ne_of_none q hn)]; exact q
  frzs := fun b u xs q => by rw [upd_ne (ne_of_none q hn)]; exact q
  tbls := fun b ps q => ⟨#[], by rw [upd_ne (ne_of_none q hn), q]; simp⟩
theorem Un.write (mu : Mut (H x)) (he : e = x ∨ H e = some (.own x)) (k : ∀ b u, b ≠ e → h.get? b = some u → h'.get? b = some u) (heo : ∃ u, h'.get? e = some u) : Un fs ex H (upd H x o) h h' := by
  have hx : ∀ b, H b = none → b ≠ x := fun b n z => by subst z; rw [n] at mu; exact mu
  have hb : ∀ b, H b = none → b ≠ e := fun b n z => by
    subst z
    rcases he with r | r
    · exact hx b n r
    · rw [n] at r; cases r
  have hm : ∀ b u, H b = some u → ¬ Mut (some u) → b ≠ x := fun b u q nm z => by subst z; rw [q] at mu; exact nm mu
  refine ⟨fun b u q n _ _ => k b u (hb b n) q, fun b u q n _ _ => ⟨u.slots, k b u (hb b n) q⟩, fun b u q n _ => by rw [upd_ne (hx b n)]; exact n, fun b u q _ => ?_,
    fun b xs q => by rw [upd_ne (hm b _ q fun z => z)]; exact q, fun b u xs q => by rw [upd_ne (hm b _ q fun z => z)]; exact q, fun b ps q => ⟨#[], by rw [upd_ne (hm b _ q fun z => z), q]; simp⟩⟩
  by_cases hbe : b = e
  · subst hbe; exact heo
  · exact ⟨u, k b u hbe q⟩
end

/-! ### the heap without what is tracked -/
def trk (h : Heap) (H : Hp) : List Addr := (List.range h.objs.size).filter fun a => (H a).isSome
def hidT (h : Heap) (H : Hp) : Heap := PySem.W.hideAll h (trk h H)
theorem hidT_size (h : Heap) (H : Hp) : (hidT h H).objs.size = h.objs.size := PySem.W.hideAll_size _ _
theorem hidT_get {h : Heap} {H : Hp} {b : Addr} {o : Obj} (e : h.get? b = some o) (n : H b = none) : (hidT h H).get? b = some o :=
  PySem.W.hideAll_get _ e fun hm => by
    have q : (H b).isSome = true := (List.mem_filter.mp hm).2
    rw [n] at q; simp at q
theorem of_hidT {h : Heap} {H : Hp} {b : Addr} {o : Obj} (e : (hidT h H).get? b = some o) : h.get? b = some o ∧ H b = none := by
  have e' : h.get? b = some o := PySem.W.of_hideAll (trk h H) e
  refine ⟨e', ?_⟩
  cases q : H b with
  | none => rfl
  | some x =>
    have hm : b ∈ trk h H := List.mem_filter.mpr ⟨List.mem_range.mpr (Heap.lt_size e'), by simp [q]⟩
    have z : (hidT h H).get? b = none := PySem.W.hideAll_none (trk h H) hm
    rw [z] at e; cases e

/-! ### OpenK's ledger, filled with every new object but one -/
end L2

namespace L2
open PySem PySem.Spec PyProof.Rows

/-- the module's facts, over the base: the heap at the law's entry without what is tracked there -/
structure Mod (K : PySem.W.Frag) (mg : Str → Option Value) (base : Heap) : Prop where
  kin : K.In base
  glob : base.Ns mainGlobals mg
  blt : ∃ mb, base.Ns builtinsNs mb ∧ ∀ x : Str, x ≠ "__name__" → mb x = bootBuiltins x
  nolimit : base.NoLimit

/-- the context: a def's body (or a comprehension's block) running. base: fixed through the whole law; s₀, H₀: the entry; outer: the frames whose slots others may change (a def's callers); stack: all frames that run;
   ex: iterators that were made ahead of the entry and are walked here (a comprehension's); fn: the names whose cells were made at the entry (a def: all; a comprehension's block: its own); calm: not within an except suite; pn: pins that every state bears; xe: what is wanted of an exception that leaves the code -/
structure Cx where
  prog : Program
  w : World
  K : PySem.W.Frag
  mg : Str → Option Value
  base : Heap
  A : Around
  N : List Str
  s₀ : Shared
  H₀ : Hp
  env : Env
  outer : List Env
  stack : List Env
  ex : List Addr
  fn : Str → Bool
  calm : Bool
  pn : List (Addr × Obj)
  xe : Value → Shared → Prop
/-- the callers' frames -/
def frs (l : List Env) : List Addr := l.filterMap (·.frame)
abbrev Cx.fs (X : Cx) : List Addr := frs X.outer

def Vis (sc : Scope) (x : Str) : Prop := sc.names.lookup x = some .local ∨ sc.names.lookup x = some .cell ∨ sc.names.lookup x = some .free
def Loc (sc : Scope) (x : Str) : Prop := sc.names.lookup x = some .local ∨ sc.names.lookup x = some .cell
def Look (env : Env) (h : Heap) (m : Str → Option Value) (x : Str) (u : Value) : Prop :=
  (env.kindOf x = some .local ∧ m x = some u) ∨ ((env.kindOf x = some .cell ∨ env.kindOf x = some .free) ∧ ∃ c, env.cells.lookup x = some c ∧ h.IsCell c (some u))

structure Cx.Ok (X : Cx) : Prop where
  mod : Mod X.K X.mg X.base
  kind : X.env.scope.kind = .function
  glob : X.env.globals = mainGlobals
  blt : X.env.builtins = builtinsNs
  above : X.s₀.heap.objs.size ≤ X.env.locals
  inj : ∀ x y c, X.env.cells.lookup x = some c → X.env.cells.lookup y = some c → x = y
  has : ∀ x, (X.env.kindOf x = some .cell ∨ X.env.kindOf x = some .free) → ∃ c, X.env.cells.lookup x = some c
  cab : ∀ x c, X.fn x = true → X.env.cells.lookup x = some c → X.s₀.heap.objs.size ≤ c
  hd : X.calm = true → X.A.handled = none
  frames : X.A.frames = some X.stack
  stk : X.stack = X.outer ∨ (X.stack = X.env :: X.outer ∧ X.env.frame = some X.env.locals)
  exf : ∀ b ∈ X.ex, b ≠ X.env.locals ∧ ∀ x c, X.env.cells.lookup x = some c → c ≠ b
  bs : ∀ b o, X.base.get? b = some o → X.s₀.heap.get? b = some o ∧ X.H₀ b = none
  bsz : X.base.objs.size ≤ X.s₀.heap.objs.size
  noex : ∀ b o, X.base.get? b = some o → b ∉ X.ex
  exfs : ∀ b ∈ X.ex, b ∉ X.fs
  funs : X.s₀.heap.FunFrames X.base X.outer
  frf : ∀ b ∈ X.fs, X.H₀ b = none

structure Inv (X : Cx) (pins : List (Addr × Obj)) (σ : List (Option V)) (H : Hp) (s : Shared) : Prop where
  ok : X.Ok
  os : s.os = X.s₀.os
  bare : AllBare s.gens
  base : Un X.fs X.ex X.H₀ H X.s₀.heap s.heap
  loc : ∃ m, s.heap.Ns X.env.locals m ∧ ∀ (i : Nat) (x : Str) (v : V), X.N[i]? = some x → σ[i]? = some (some v) → Vis X.env.scope x → ∃ u, RelV v u ∧ Look X.env s.heap m x u
  cell : ∀ x c, X.env.cells.lookup x = some c → ∃ v, s.heap.IsCell c v
  free : H X.env.locals = none
  freeC : ∀ x c, X.env.cells.lookup x = some c → H c = none
  pin : ∀ p ∈ X.pn ++ pins, s.heap.get? p.1 = some p.2 ∧ H p.1 = none ∧ p.1 ≠ X.env.locals ∧ p.1 ∉ X.fs ∧ ∀ v, p.2.data ≠ .cell v
  hok : HOk X.prog X.w H s.heap
  len : σ.length = X.N.length

section
variable {X : Cx} {pins : List (Addr × Obj)} {σ : List (Option V)} {H H' : Hp} {s : Shared} {h' : Heap}

theorem Cx.Ok.nofr (ok : X.Ok) {b : Addr} {o : Obj} (e : X.base.get? b = some o) : b ∉ X.fs := fun hb => by
  have := (ok.funs.mem hb).1
  rw [e] at this; cases this
theorem Inv.bs (I : Inv X pins σ H s) : ∀ b o, X.base.get? b = some o → s.heap.get? b = some o ∧ H b = none := fun b o e =>
  ⟨I.base.keep b o (I.ok.bs b o e).1 (I.ok.bs b o e).2 (I.ok.nofr e) (I.ok.noex b o e), I.base.free b o (I.ok.bs b o e).1 (I.ok.bs b o e).2 (I.ok.noex b o e)⟩
theorem Inv.bk (I : Inv X pins σ H s) : ∀ b o, X.base.get? b = some o → s.heap.get? b = some o := fun b o e => (I.bs b o e).1
theorem Inv.mod (I : Inv X pins σ H s) : Mod X.K X.mg X.base := I.ok.mod
theorem Inv.kIn (I : Inv X pins σ H s) : X.K.In s.heap := I.ok.mod.kin.keeps I.bk
theorem Inv.lt (I : Inv X pins σ H s) : X.env.locals < s.heap.objs.size := let ⟨_, hn, _⟩ := I.loc; hn.lt
theorem Inv.sz (I : Inv X pins σ H s) : X.s₀.heap.objs.size ≤ s.heap.objs.size := Nat.le_trans I.ok.above (Nat.le_of_lt I.lt)
theorem Inv.nofs (I : Inv X pins σ H s) {a : Addr} (h : s.heap.objs.size ≤ a) : a ∉ X.fs := fun hb => by
  obtain ⟨_, o, ho, _⟩ := I.ok.funs.mem hb
  exact absurd (Nat.lt_of_lt_of_le (Heap.lt_size ho) (Nat.le_trans I.sz h)) (Nat.lt_irrefl _)
theorem Inv.cne (I : Inv X pins σ H s) : ∀ x c, X.env.cells.lookup x = some c → c ≠ X.env.locals := fun x c e z => by
  obtain ⟨v, o, ho, hd⟩ := I.cell x c e
  obtain ⟨m, ⟨o', es, ep, ho', hd', _⟩, _⟩ := I.loc
  rw [z, ho'] at ho; cases ho; rw [hd'] at hd; cases hd
theorem Inv.funs (I : Inv X pins σ H s) : s.heap.FunFrames X.base X.outer := by
  have all : ∀ (l : List Env), (∀ b ∈ frs l, b ∈ X.fs) → X.s₀.heap.FunFrames X.base l → s.heap.FunFrames X.base l := by
    intro l
    induction l with
    | nil => intro _ _; trivial
    | cons env r ih =>
      intro hs hl
      obtain ⟨hk, ⟨L, o, hf, hn, ho, hd⟩, hr⟩ := hl
      have hL : L ∈ X.fs := hs L (by unfold frs; rw [List.filterMap_cons, hf]; exact List.mem_cons_self)
      obtain ⟨sl, e⟩ := I.base.slot L o ho (I.ok.frf L hL) hL fun z => I.ok.exfs L z hL
      exact ⟨hk, ⟨L, _, hf, hn, e, hd⟩, ih (fun b hb => hs b (by unfold frs; rw [List.filterMap_cons, hf]; exact List.mem_cons_of_mem _ hb)) hr⟩
  exact all X.outer (fun _ hb => hb) I.ok.funs

/-- the frames that run, for a call -/
theorem Inv.stack (I : Inv X pins σ H s) : s.heap.FunFrames X.base X.stack := by
  rcases I.ok.stk with e | ⟨e, hf⟩
  · rw [e]; exact I.funs
  · rw [e]
    obtain ⟨m, hn, _⟩ := I.loc
    refine .cons (by rw [I.ok.kind]; decide) hf hn ?_ I.funs
    exact Heap.get?_none_of_le (Nat.le_trans I.ok.bsz I.ok.above)
theorem Inv.stkSub (I : Inv X pins σ H s) : ∀ b ∈ frs X.stack, b ∈ X.env.locals :: X.fs := fun b hb => by
  rcases I.ok.stk with e | ⟨e, hf⟩
  · rw [e] at hb; exact List.mem_cons_of_mem _ hb
  · rw [e] at hb
    unfold frs at hb
    rw [List.filterMap_cons, hf] at hb
    exact hb
theorem Inv.stkFree (I : Inv X pins σ H s) : ∀ b ∈ frs X.stack, H b = none := fun b hb => by
  rcases List.mem_cons.mp (I.stkSub b hb) with e | hb
  · rw [e]; exact I.free
  · obtain ⟨_, o, ho, _⟩ := I.ok.funs.mem hb
    exact I.base.free b o ho (I.ok.frf b hb) fun z => I.ok.exfs b z hb

/-- THE STEP: the untracked objects but the frame and the records at ch are kept (the callers' frames up to slots), the frame's map is kept, the new abstract heap is held -/
theorem Inv.step {g' : Array GenState} {t' : Nat} {d' : Drawn} {ch : List Addr} (I : Inv X pins σ H s)
    (hch : ∀ b ∈ ch, (b ∈ X.ex ∨ X.s₀.heap.objs.size ≤ b) ∧ b ≠ X.env.locals ∧ (∀ x c, X.env.cells.lookup x = some c → c ≠ b) ∧ ∀ p ∈ X.pn ++ pins, p.1 ≠ b)
    (keep : ∀ b o, b ≠ X.env.locals → b ∉ X.fs → b ∉ ch → s.heap.get? b = some o → H b = none → h'.get? b = some o)
    (slot : ∀ b o, b ≠ X.env.locals → b ∈ X.fs → b ∉ ch → s.heap.get? b = some o → H b = none → ∃ sl, h'.get? b = some { o with slots := sl }) (free : ∀ b o, b ∉ ch → s.heap.get? b = some o → H b = none → H' b = none)
    (there : ∀ b o, b ∉ ch → s.heap.get? b = some o → ∃ o', h'.get? b = some o')
    (tups : ∀ b xs, H b = some (.tup xs) → H' b = some (.tup xs)) (frzs : ∀ b o u, H b = some (.frz o u) → H' b = some (.frz o u)) (tbls : ∀ b ps, H b = some (.tbl ps) → ∃ more, H' b = some (.tbl (ps ++ more)))
    (ns : ∀ m, s.heap.Ns X.env.locals m → h'.Ns X.env.locals m) (hok : HOk X.prog X.w H' h') (hg : AllBare g') :
    Inv X pins σ H' { s with heap := h', gens := g', drawn := d', toks := t' } := by
  have neL : ∀ b o, X.s₀.heap.get? b = some o → b ≠ X.env.locals := fun b o e => Nat.ne_of_lt (Nat.lt_of_lt_of_le (Heap.lt_size e) I.ok.above)
  have neC : ∀ b o, X.s₀.heap.get? b = some o → b ∉ X.ex → b ∉ ch := fun b o e hx hb => by
    rcases (hch b hb).1 with z | z
    · exact hx z
    · exact absurd (Nat.lt_of_lt_of_le (Heap.lt_size e) z) (Nat.lt_irrefl _)
  have cellK : ∀ x c, X.env.cells.lookup x = some c → ∀ v, s.heap.IsCell c v → h'.IsCell c v := fun x c e v ⟨o, ho, hd⟩ => by
    have nch : c ∉ ch := fun z => (hch c z).2.2.1 x c e rfl
    by_cases hc : c ∈ X.fs
    · obtain ⟨sl, q⟩ := slot c o (I.cne x c e) hc nch ho (I.freeC x c e)
      exact ⟨_, q, hd⟩
    · exact ⟨o, keep c o (I.cne x c e) hc nch ho (I.freeC x c e), hd⟩
  refine ⟨I.ok, I.os, hg, ⟨fun b o e n hb hx => ?_, fun b o e n hb hx => ?_, fun b o e n hx => ?_, fun b o e hx => ?_, fun b xs e => tups b xs (I.base.tups b xs e), fun b o xs e => frzs b o xs (I.base.frzs b o xs e), fun b ps e => ?_⟩, ?_, fun x c e => ?_, ?_, fun x c e => ?_, fun p hp => ?_, hok, I.len⟩
  · exact keep b o (neL b o e) hb (neC b o e hx) (I.base.keep b o e n hb hx) (I.base.free b o e n hx)
  · obtain ⟨sl, e1⟩ := I.base.slot b o e n hb hx
    obtain ⟨sl', e2⟩ := slot b _ (neL b o e) hb (neC b o e hx) e1 (I.base.free b o e n hx)
    exact ⟨sl', e2⟩
  · obtain ⟨o', e1⟩ := I.base.there b o e hx
    exact free b o' (neC b o e hx) e1 (I.base.free b o e n hx)
  · obtain ⟨o', e1⟩ := I.base.there b o e hx
    exact there b o' (neC b o e hx) e1
  · obtain ⟨m1, e1⟩ := I.base.tbls b ps e
    obtain ⟨m2, e2⟩ := tbls b _ e1
    exact ⟨m1 ++ m2, by rw [e2, Array.append_assoc]⟩
  · obtain ⟨m, hn, hl⟩ := I.loc
    refine ⟨m, ns m hn, fun i x v e1 e2 e3 => ?_⟩
    obtain ⟨u, r, l⟩ := hl i x v e1 e2 e3
    refine ⟨u, r, ?_⟩
    rcases l with l | ⟨k, c, e, z⟩
    · exact .inl l
    · exact .inr ⟨k, c, e, cellK x c e _ z⟩
  · obtain ⟨v, z⟩ := I.cell x c e
    exact ⟨v, cellK x c e v z⟩
  · obtain ⟨m, ⟨o, _, _, ho, _⟩, _⟩ := I.loc
    exact free _ o (fun z => (hch _ z).2.1 rfl) ho I.free
  · obtain ⟨v, o, ho, hd⟩ := I.cell x c e
    exact free c o (fun z => (hch c z).2.2.1 x c e rfl) ho (I.freeC x c e)
  · obtain ⟨e, n, ne, nf, d⟩ := I.pin p hp
    have nch : p.1 ∉ ch := fun z => (hch p.1 z).2.2.2 p hp rfl
    exact ⟨keep p.1 p.2 ne nf nch e n, free p.1 p.2 nch e n, ne, nf, d⟩
/-- .. where the frame's own object is kept too -/
theorem Inv.un {t' : Nat} (I : Inv X pins σ H s) (u : Un X.fs [] H H' s.heap h') (hok : HOk X.prog X.w H' h') : Inv X pins σ H' { s with heap := h', toks := t' } := by
  obtain ⟨m, ⟨o, es, ep, ho, r⟩, _⟩ := id I.loc
  obtain ⟨sl, hL⟩ := u.any ho I.free (by simp)
  exact I.step (g' := s.gens) (d' := s.drawn) (ch := []) (fun _ z => nomatch z) (fun b o _ hb _ e n => u.keep b o e n hb (by simp)) (fun b o _ hb _ e n => u.slot b o e n hb (by simp)) (fun b o _ e n => u.free b o e n (by simp)) (fun b o _ e => u.there b o e (by simp)) u.tups u.frzs u.tbls (fun m' hm => by
    obtain ⟨o', es', ep', ho', r'⟩ := hm
    rw [ho] at ho'; cases ho'
    exact ⟨_, es', ep', hL, r'⟩) hok I.bare
/-- behind a call (or a comprehension's block): the slots of this frame may have changed too, the records at ch may have turned -/
theorem Inv.call {g' : Array GenState} {t' : Nat} {d' : Drawn} {ch : List Addr} (I : Inv X pins σ H s) (u : Un (frs X.stack) ch H H' s.heap h') (hok : HOk X.prog X.w H' h') (hg : AllBare g')
    (hch : ∀ b ∈ ch, (b ∈ X.ex ∨ X.s₀.heap.objs.size ≤ b) ∧ b ≠ X.env.locals ∧ (∀ x c, X.env.cells.lookup x = some c → c ≠ b) ∧ ∀ p ∈ X.pn ++ pins, p.1 ≠ b) :
    Inv X pins σ H' { s with heap := h', gens := g', drawn := d', toks := t' } := by
  obtain ⟨m, ⟨o, es, ep, ho, r⟩, _⟩ := id I.loc
  obtain ⟨sl, hL⟩ := u.any ho I.free fun z => (hch _ z).2.1 rfl
  exact I.step (ch := ch) hch (fun b o hL hb hc e n => u.keep b o e n (fun z => (List.mem_cons.mp (I.stkSub b z)).elim hL hb) hc) (fun b o _ _ hc e n => u.any e n hc) (fun b o hc e n => u.free b o e n hc) (fun b o hc e => u.there b o e hc) u.tups u.frzs u.tbls (fun m' hm => by
    obtain ⟨o', es', ep', ho', r'⟩ := hm
    rw [ho] at ho'; cases ho'
    exact ⟨_, es', ep', hL, r'⟩) hok hg
/-- an untracked record of ours (an iterator) has turned -/
theorem Inv.turned {t' : Nat} {it : Addr} (I : Inv X pins σ H s) (k : ∀ b o, b ≠ it → s.heap.get? b = some o → h'.get? b = some o) (hn : H it = none) (hL : it ≠ X.env.locals)
    (h1 : it ∈ X.ex ∨ X.s₀.heap.objs.size ≤ it) (h2 : ∀ x c, X.env.cells.lookup x = some c → c ≠ it) (h3 : ∀ p ∈ X.pn ++ pins, p.1 ≠ it) : Inv X pins σ H { s with heap := h', toks := t' } := by
  have nit : ∀ b u, H b = some u → b ≠ it := fun b u e z => by rw [z, hn] at e; cases e
  refine I.step (g' := s.gens) (d' := s.drawn) (ch := [it]) (fun b hb => ?_) (fun b o _ _ hc e _ => k b o (fun z => hc (by simp [z])) e) (fun b o _ _ hc e _ => ⟨o.slots, k b o (fun z => hc (by simp [z])) e⟩) (fun _ _ _ _ n => n)
    (fun b o hc e => ⟨o, k b o (fun z => hc (by simp [z])) e⟩) (fun _ _ e => e) (fun _ _ _ e => e) (fun b ps e => ⟨#[], by rw [e]; simp⟩) (fun m hm => ?_) (fun b u e => ?_) I.bare
  · have e : b = it := by simpa using hb
    subst e
    exact ⟨h1, hL, h2, h3⟩
  · obtain ⟨o, es, ep, ho, r⟩ := hm
    exact ⟨o, es, ep, k _ o (Ne.symm hL) ho, r⟩
  · refine (I.hok b u e).stay (fun c v hc q => k c v ?_ q) (fun _ q => q) fun _ _ q => q
    rcases hc with z | z
    · rw [z]; exact nit b u e
    · exact nit c _ z
theorem Inv.tok (I : Inv X pins σ H s) (t : Nat) : Inv X pins σ H { s with toks := t } := I.un (h' := s.heap) (t' := t) Un.refl I.hok
/-- all objects kept -/
theorem Inv.kept {t' : Nat} (I : Inv X pins σ H s) (k : ∀ b u, s.heap.get? b = some u → h'.get? b = some u) : Inv X pins σ H { s with heap := h', toks := t' } := I.un (Un.kept k) (I.hok.kept k)
/-- a new object laid and tracked -/
theorem Inv.laid {a : Addr} {o : HO} {t' : Nat} (I : Inv X pins σ H s) (k : ∀ b u, s.heap.get? b = some u → h'.get? b = some u) (hp : s.heap.objs.size ≤ a) (new : ObjOk X.prog X.w (upd H a o) h' a o) :
    Inv X pins σ (upd H a o) { s with heap := h', toks := t' } := I.un (Un.laid k hp (I.hok.fresh hp)) (I.hok.laid k hp new)
/-- an object written -/
theorem Inv.write {x e : Addr} {o : HO} {t' : Nat} (I : Inv X pins σ H s) (mu : Mut (H x)) (he : e = x ∨ H e = some (.own x)) (k : ∀ b u, b ≠ e → s.heap.get? b = some u → h'.get? b = some u) (heo : ∃ u, h'.get? e = some u)
    (new : ObjOk X.prog X.w (upd H x o) h' x o) : Inv X pins σ (upd H x o) { s with heap := h', toks := t' } := I.un (Un.write mu he k heo) (I.hok.write mu he k heo new)
theorem Inv.pins_of {pins' : List (Addr × Obj)} (I : Inv X pins σ H s) (h : ∀ p ∈ pins', s.heap.get? p.1 = some p.2 ∧ H p.1 = none ∧ p.1 ≠ X.env.locals ∧ p.1 ∉ X.fs ∧ ∀ v, p.2.data ≠ .cell v) : Inv X pins' σ H s :=
  ⟨I.ok, I.os, I.bare, I.base, I.loc, I.cell, I.free, I.freeC, fun p hp => (List.mem_append.mp hp).elim (fun z => I.pin p (List.mem_append_left _ z)) (h p), I.hok, I.len⟩

theorem nodup_ix {N : List Str} (hN : N.Nodup) {i j : Nat} {x : Str} (a : N[i]? = some x) (b : N[j]? = some x) : i = j := by
  obtain ⟨h1, e1⟩ := List.getElem?_eq_some_iff.mp a
  obtain ⟨h2, e2⟩ := List.getElem?_eq_some_iff.mp b
  exact (List.getElem_inj hN).mp (e1.trans e2.symm)

/-- a name is stored; what changed -/
theorem store_ok2 {M : Model} {A : Around} {E : Value → Shared → Prop} {i : Nat} {x : Str} {v : V} {u : Value} {Q : Unit → Shared → Prop} (I : Inv X pins σ H s) (hN : X.N.Nodup) (hi : X.N[i]? = some x) (hx : Loc X.env.scope x) (r : RelV v u)
    (h : ∀ s', Inv X pins (σ.set i (some v)) H s' → (∃ a, Heap.SameBut a s.heap s'.heap ∧ (a = X.env.locals ∨ X.env.cells.lookup x = some a)) → Q () s') (hf : X.fn x = true ∨ X.env.scope.names.lookup x = some .local := by first | exact .inl rfl | exact .inr rfl | assumption) : wpAny M A (storeName X.env x u) Q E s := by
  obtain ⟨m, hn, hl⟩ := id I.loc
  have hcls : (X.env.scope.kind == .class || (X.env.scope.kind == .module && X.env.locals != X.env.globals)) = false := by rw [I.ok.kind]; rfl
  have hiσ : i < σ.length := by rw [I.len]; exact (List.getElem?_eq_some_iff.mp hi).1
  have cne := I.cne
  have tracked : ∀ {a : Addr} {h' : Heap}, (∃ o, s.heap.get? a = some o ∧ H a = none) → Heap.SameBut a s.heap h' → HOk X.prog X.w H h' := fun {a h'} ha hs b ob e => by
    obtain ⟨_, _, hfree⟩ := ha
    refine (I.hok b ob e).stay (fun c w' hc q => (hs.2 c ?_).trans q) (fun _ q => q) fun _ _ q => q
    rintro rfl
    rcases hc with rfl | hc
    · rw [hfree] at e; cases e
    · rw [hfree] at hc; cases hc
  rcases hx with hk | hk
  · refine wpAny_storeName_local hk hn (fun h' hn' hs => ?_) hcls
    obtain ⟨oL, _, _, hoL, _⟩ := id hn
    refine h _ ⟨I.ok, I.os, I.bare, ⟨fun b o e n hb hx => ?_, fun b o e n hb hx => ?_, I.base.free, fun b o e hx => ?_, I.base.tups, I.base.frzs, I.base.tbls⟩, ⟨_, hn', fun j y v' e1 e2 e3 => ?_⟩, fun y c e => ?_, I.free, I.freeC, fun p hp => ?_, tracked ⟨oL, hoL, I.free⟩ hs, by simpa using I.len⟩ ⟨_, hs, .inl rfl⟩
    · exact (hs.2 b (Nat.ne_of_lt (Nat.lt_of_lt_of_le (Heap.lt_size e) I.ok.above))).trans (I.base.keep b o e n hb hx)
    · obtain ⟨sl, e1⟩ := I.base.slot b o e n hb hx
      exact ⟨sl, (hs.2 b (Nat.ne_of_lt (Nat.lt_of_lt_of_le (Heap.lt_size e) I.ok.above))).trans e1⟩
    · obtain ⟨o', e1⟩ := I.base.there b o e hx
      exact ⟨o', (hs.2 b (Nat.ne_of_lt (Nat.lt_of_lt_of_le (Heap.lt_size e) I.ok.above))).trans e1⟩
    · by_cases hj : j = i
      · subst hj
        rw [hi] at e1; cases e1
        rw [List.getElem?_set_self hiσ] at e2
        cases e2
        exact ⟨u, r, .inl ⟨hk, by simp⟩⟩
      · rw [List.getElem?_set_ne (Ne.symm hj)] at e2
        obtain ⟨u', r', q⟩ := hl j y v' e1 e2 e3
        refine ⟨u', r', ?_⟩
        rcases q with ⟨k, e⟩ | ⟨k, c, e, z⟩
        · refine .inl ⟨k, ?_⟩
          have : y ≠ x := fun e => hj (nodup_ix hN e1 (e ▸ hi))
          simp [this, e]
        · exact .inr ⟨k, c, e, z.sameBut hs (cne y c e)⟩
    · obtain ⟨w', z⟩ := I.cell y c e
      exact ⟨w', z.sameBut hs (cne y c e)⟩
    · obtain ⟨e, n, ne, nf, d⟩ := I.pin p hp
      exact ⟨(hs.2 p.1 ne).trans e, n, ne, nf, d⟩
  · have hfn : X.fn x = true := by
      rcases hf with z | z
      · exact z
      · rw [z] at hk; cases hk
    obtain ⟨c, hc⟩ := I.ok.has x (.inl hk)
    obtain ⟨w', z⟩ := I.cell x c hc
    refine wpAny_storeName_cell I.ok.kind hk hc z (fun h' hc' hs => ?_)
    obtain ⟨oc, hoc, hocd⟩ := id z
    refine h { s with heap := h' } ⟨I.ok, I.os, I.bare, ⟨fun b o e n hb hx => ?_, fun b o e n hb hx => ?_, I.base.free, fun b o e hx => ?_, I.base.tups, I.base.frzs, I.base.tbls⟩, ⟨m, hn.sameBut hs (Ne.symm (cne x c hc)), fun j y v' e1 e2 e3 => ?_⟩, fun y c' e => ?_, I.free, I.freeC, fun p hp => ?_, tracked ⟨oc, hoc, I.freeC x c hc⟩ hs, by simpa using I.len⟩ ⟨c, hs, .inr hc⟩
    · exact (hs.2 b (Nat.ne_of_lt (Nat.lt_of_lt_of_le (Heap.lt_size e) (I.ok.cab x c hfn hc)))).trans (I.base.keep b o e n hb hx)
    · obtain ⟨sl, e1⟩ := I.base.slot b o e n hb hx
      exact ⟨sl, (hs.2 b (Nat.ne_of_lt (Nat.lt_of_lt_of_le (Heap.lt_size e) (I.ok.cab x c hfn hc)))).trans e1⟩
    · obtain ⟨o', e1⟩ := I.base.there b o e hx
      exact ⟨o', (hs.2 b (Nat.ne_of_lt (Nat.lt_of_lt_of_le (Heap.lt_size e) (I.ok.cab x c hfn hc)))).trans e1⟩
    · by_cases hj : j = i
      · subst hj
        rw [hi] at e1; cases e1
        rw [List.getElem?_set_self hiσ] at e2
        cases e2
        exact ⟨u, r, .inr ⟨.inl hk, c, hc, hc'⟩⟩
      · rw [List.getElem?_set_ne (Ne.symm hj)] at e2
        obtain ⟨u', r', q⟩ := hl j y v' e1 e2 e3
        refine ⟨u', r', ?_⟩
        rcases q with q | ⟨k, c', e, z'⟩
        · exact .inl q
        · refine .inr ⟨k, c', e, z'.sameBut hs ?_⟩
          rintro rfl
          exact hj (nodup_ix hN e1 (I.ok.inj _ _ _ e hc ▸ hi))
    · by_cases hcc : c' = c
      · subst hcc; exact ⟨_, hc'⟩
      · obtain ⟨w2, z2⟩ := I.cell y c' e
        exact ⟨w2, z2.sameBut hs hcc⟩
    · obtain ⟨e, n, ne, nf, d⟩ := I.pin p hp
      refine ⟨(hs.2 p.1 ?_).trans e, n, ne, nf, d⟩
      intro q
      rw [q, hoc] at e
      have q' : oc = p.2 := Option.some.inj e
      exact d w' (by rw [← q']; exact hocd)
theorem store_ok {M : Model} {A : Around} {E : Value → Shared → Prop} {i : Nat} {x : Str} {v : V} {u : Value} {Q : Unit → Shared → Prop} (I : Inv X pins σ H s) (hN : X.N.Nodup) (hi : X.N[i]? = some x) (hx : Loc X.env.scope x) (r : RelV v u)
    (h : ∀ s', Inv X pins (σ.set i (some v)) H s' → Q () s') (hf : X.fn x = true ∨ X.env.scope.names.lookup x = some .local := by first | exact .inl rfl | exact .inr rfl | assumption) : wpAny M A (storeName X.env x u) Q E s :=
  store_ok2 I hN hi hx r (fun s' I' _ => h s' I') hf
/-- behind a call or a block, the state as it is -/
theorem Inv.call' {s' : Shared} {ch : List Addr} (I : Inv X pins σ H s) (ho : s'.os = s.os) (u : Un (frs X.stack) ch H H' s.heap s'.heap) (hok : HOk X.prog X.w H' s'.heap) (hg : AllBare s'.gens)
    (hch : ∀ b ∈ ch, (b ∈ X.ex ∨ X.s₀.heap.objs.size ≤ b) ∧ b ≠ X.env.locals ∧ (∀ x c, X.env.cells.lookup x = some c → c ≠ b) ∧ ∀ p ∈ X.pn ++ pins, p.1 ≠ b) : Inv X pins σ H' s' := by
  obtain ⟨h', g', d', t', o'⟩ := s'
  have e : o' = s.os := ho
  subst e
  exact I.call (g' := g') (t' := t') (d' := d') u hok hg hch
end

/-! ### the judgements -/
/-- an exception: its class, its own dict's address (where it has one), the abstract heap behind it -/
abbrev XK := Value → Option Addr → Hp → Prop
abbrev St := List (Option V)
abbrev VK := V → Hp → Prop
/-- an expression's reading; a test's; an argument list's -/
abbrev TE := St → Hp → VK → Prop
abbrev TT := St → Hp → (Bool → Hp → Prop) → Prop
abbrev TA := St → Hp → (List V → Hp → Prop) → Prop
/-- what is wanted behind a statement -/
structure Ends where
  nx : St → Hp → Prop
  rt : VK
  bk : St → Hp → Prop := fun _ _ => False
  ct : St → Hp → Prop := fun _ _ => False
abbrev TS := Ends → St → Hp → Prop

def EP (X : Cx) (pins : List (Addr × Obj)) (σ : St) (Q : VK) (u : Value) (s' : Shared) : Prop := ∃ v H', Inv X pins σ H' s' ∧ RelV v u ∧ Q v H'
def TP (X : Cx) (pins : List (Addr × Obj)) (σ : St) (Q : Bool → Hp → Prop) (b : Bool) (s' : Shared) : Prop := ∃ H', Inv X pins σ H' s' ∧ Q b H'
def AP (X : Cx) (pins : List (Addr × Obj)) (σ : St) (Q : List V → Hp → Prop) (us : List Value) (s' : Shared) : Prop := ∃ vs H', Inv X pins σ H' s' ∧ Vals vs us ∧ Q vs H'
def SP (X : Cx) (pins : List (Addr × Obj)) (D : Ends) (f : Flow) (s' : Shared) : Prop :=
  match f with
  | .next => ∃ σ' H', Inv X pins σ' H' s' ∧ D.nx σ' H'
  | .brk => ∃ σ' H', Inv X pins σ' H' s' ∧ D.bk σ' H'
  | .cont => ∃ σ' H', Inv X pins σ' H' s' ∧ D.ct σ' H'
  | .ret u => ∃ v σ' H', Inv X pins σ' H' s' ∧ RelV v u ∧ D.rt v H'

def PE (X : Cx) (e : Expr) (t : TE) : Prop :=
  ∀ (pins : List (Addr × Obj)) (s : Shared) (σ : St) (H : Hp) (Q : VK), Inv X pins σ H s → t σ H Q → wpAny (model X.prog X.w) X.A (eval e X.env) (EP X pins σ Q) X.xe s
def PT (X : Cx) (e : Expr) (t : TT) : Prop :=
  ∀ (pins : List (Addr × Obj)) (s : Shared) (σ : St) (H : Hp) (Q : Bool → Hp → Prop), Inv X pins σ H s → t σ H Q → wpAny (model X.prog X.w) X.A (isTrue e X.env (eval e X.env)) (TP X pins σ Q) X.xe s
/-- a test whatever its 'whole' is (and, or) -/
def PW (X : Cx) (e : Expr) (t : TT) : Prop :=
  ∀ (whole : Sem Value) (pins : List (Addr × Obj)) (s : Shared) (σ : St) (H : Hp) (Q : Bool → Hp → Prop), Inv X pins σ H s → t σ H Q → wpAny (model X.prog X.w) X.A (isTrue e X.env whole) (TP X pins σ Q) X.xe s
theorem PW.pt {X : Cx} {e : Expr} {t : TT} (h : PW X e t) : PT X e t := h _
/-- an argument list (no star), from the left -/
def PA (X : Cx) (es : List Expr) (t : TA) : Prop :=
  ∀ (pos : Pos) (pins : List (Addr × Obj)) (s : Shared) (σ : St) (H : Hp) (Q : List V → Hp → Prop), Inv X pins σ H s → t σ H Q → wpAny (model X.prog X.w) X.A (spliced (backTo pos (starEach es X.env))) (AP X pins σ Q) X.xe s
def PS (X : Cx) (st : Stmt) (t : TS) : Prop :=
  ∀ (pins : List (Addr × Obj)) (s : Shared) (σ : St) (H : Hp) (D : Ends), Inv X pins σ H s → t D σ H → wpAny (model X.prog X.w) X.A (exec st X.env) (SP X pins D) X.xe s
def PSs (X : Cx) (st : List Stmt) (t : TS) : Prop :=
  ∀ (pins : List (Addr × Obj)) (s : Shared) (σ : St) (H : Hp) (D : Ends), Inv X pins σ H s → t D σ H → wpAny (model X.prog X.w) X.A (execs st X.env) (SP X pins D) X.xe s
/-- weaken the end -/
theorem thn {α : Type} {t : Sem α} {Q Q' : α → Shared → Prop} {M : Model} {A : Around} {E : Value → Shared → Prop} {s : Shared} (h : wpAny M A t Q E s) (hQ : ∀ a s, Q a s → Q' a s) : wpAny M A t Q' E s := wpAny_mono h hQ fun _ _ x => x
end L2

namespace L2
open PySem PySem.Spec PyProof.Rows
section
variable {X : Cx}


/-! ### names and constants -/
def tVar (i : Nat) : TE := fun σ H Q => ∃ v, σ[i]? = some (some v) ∧ Q v H
def tC (v : V) : TE := fun _ H Q => Q v H
theorem pe_var {i : Nat} {x : Str} {pos : Pos} (hN : X.N[i]? = some x) (hv : Vis X.env.scope x) (hd : (x == ("__debug__" : Str)) = false := by decide) (hcd : (x == ("__classdict__" : Str)) = false := by decide) : PE X (.Name x pos) (tVar i) := by
  intro pins s σ H Q I h
  obtain ⟨v, e, h⟩ := h
  obtain ⟨m, hn, hl⟩ := I.loc
  obtain ⟨u, r, l⟩ := hl i x v hN e hv
  have fin : EP X pins σ Q u s := ⟨v, H, I, r, h⟩
  rcases l with ⟨hk, hm⟩ | ⟨hk, c, hc, hcell⟩
  · exact wpAny_Name (wpAny_loadName_local I.ok.kind hk hn hm fin) hd
  · rcases hk with hk | hk
    · exact wpAny_Name (wpAny_loadName_cell I.ok.kind hk hc hcell fin) hd
    · exact wpAny_Name (wpAny_loadName_free I.ok.kind hk hc hcell fin hcd) hd
theorem pe_int {i j pos} : PE X (.Constant (.int i) j pos) (tC (.int i)) := fun _ _ _ H _ I h => wpAny_Constant_int ⟨.int i, H, I.tok _, ⟨_, rfl⟩, h⟩
theorem pe_bl {b j pos} : PE X (.Constant (.bool b) j pos) (tC (.bl b)) := fun _ _ _ H _ I h => Constant_bool ⟨.bl b, H, I, rfl, h⟩
theorem pe_non {j pos} : PE X (.Constant .none j pos) (tC .non) := fun _ _ _ H _ I h => Constant_none ⟨.non, H, I, rfl, h⟩
theorem pe_str {x j pos} : PE X (.Constant (.str x) j pos) (tC (.str x)) := fun _ _ _ H _ I h => Calls.Constant_str ⟨.str x, H, I.tok _, ⟨_, rfl⟩, h⟩

/-- a global name of the def -/
def Gl (X : Cx) (x : Str) : Prop := X.env.kindOf x = some .globalImplicit
theorem ld_glob {E : Value → Shared → Prop} {pins : List (Addr × Obj)} {s : Shared} {σ : St} {H : Hp} {x : Str} {u : Value} {pos : Pos} {Q : Value → Shared → Prop} (I : Inv X pins σ H s) (hg : Gl X x) (hm : X.mg x = some u) (h : Q u s)
    (hd : (x == ("__debug__" : Str)) = false := by decide) : wpAny (model X.prog X.w) X.A (eval (.Name x pos) X.env) Q E s :=
  Calls.Name_function_global I.ok.kind hg (Calls.loadGlobal_global (by rw [I.ok.glob]; exact I.mod.glob.keeps I.bk) hm h) hd
theorem ld_blt {E : Value → Shared → Prop} {pins : List (Addr × Obj)} {s : Shared} {σ : St} {H : Hp} {x : Str} {u : Value} {pos : Pos} {Q : Value → Shared → Prop} (I : Inv X pins σ H s) (hg : Gl X x) (hm : X.mg x = none) (hv : bootBuiltins x = some u) (h : Q u s)
    (hn : x ≠ "__name__" := by decide) (hd : (x == ("__debug__" : Str)) = false := by decide) : wpAny (model X.prog X.w) X.A (eval (.Name x pos) X.env) Q E s := by
  obtain ⟨mb, h1, h2⟩ := I.mod.blt
  exact Calls.Name_function_global I.ok.kind hg (Calls.loadGlobal_builtin (by rw [I.ok.glob]; exact I.mod.glob.keeps I.bk) hm (by rw [I.ok.blt]; exact h1.keeps I.bk) ((h2 x hn).trans hv) h) hd
/-- a module's constant, a class, a function, as a value -/
theorem pe_glob {x : Str} {v : V} {u : Value} {pos : Pos} (hg : Gl X x) (hm : X.mg x = some u) (r : RelV v u) (hd : (x == ("__debug__" : Str)) = false := by decide) : PE X (.Name x pos) (tC v) :=
  fun _ _ _ H _ I h => ld_glob I hg hm ⟨v, H, I, r, h⟩ hd
theorem pe_bltn {x : Str} {v : V} {u : Value} {pos : Pos} (hg : Gl X x) (hm : X.mg x = none) (hv : bootBuiltins x = some u) (r : RelV v u) (hn : x ≠ "__name__" := by decide) (hd : (x == ("__debug__" : Str)) = false := by decide) : PE X (.Name x pos) (tC v) :=
  fun _ _ _ H _ I h => ld_blt I hg hm hv ⟨v, H, I, r, h⟩ hn hd

/-! ### arithmetic -/
variable {a b : Expr} {ta tb : TE} {pos : Pos}

/-! ### comparisons -/
def PC (X : Cx) (op : CmpOp) (a b : Expr) (t : TE) : Prop :=
  ∀ (pins : List (Addr × Obj)) (s : Shared) (σ : St) (H : Hp) (Q : VK), Inv X pins σ H s → t σ H Q →
    wpAny (model X.prog X.w) X.A (eval a X.env) (fun v s₁ => wpAny (model X.prog X.w) X.A (eval b X.env) (fun u s₂ => wpAny (model X.prog X.w) X.A (compareOp op v u) (EP X pins σ Q) X.xe s₂) X.xe s₁) X.xe s
/-- a comparison as a value, as a test -/
def tB (t : TE) : TT := fun σ H Q => t σ H fun x H1 => ∃ c, x = .bl c ∧ Q c H1
theorem pt_cmp {op : CmpOp} {t : TE} (h : PC X op a b t) (h1 : behindInMarks op b = false := by first | exact nobehind _ (by decide) (by decide) | rfl) : PT X (.Compare a [op] [b] pos) (tB t) := by
  intro pins s σ H Q I hw
  refine wpAny_isTrue_Compare1 (thn (h pins s σ H _ I hw) fun v s1 h1 => thn h1 fun u s2 h2 => thn h2 fun c s3 ⟨x, H1, I1, r1, q1⟩ => ?_) h1
  obtain ⟨d, rfl, q⟩ := q1
  cases r1
  exact wpAny_truthy_bool ⟨H1, I1, q⟩
/-- an expression whose value is a bool, as a test -/
theorem pt_val {e : Expr} {t : TE} (h : PE X e t) (he : ∀ whole, isTrue e X.env whole = (do let v ← whole; standAt e.pos; holding [v] (truthy v)) := by intro _; rfl) : PT X e (tB t) := by
  intro pins s σ H Q I hw
  refine isTrue_plain (thn (h pins s σ H _ I hw) fun v s1 ⟨x, H1, I1, r1, q1⟩ => ?_) (he _)
  obtain ⟨d, rfl, q⟩ := q1
  cases r1
  exact wpAny_truthy_bool ⟨H1, I1, q⟩

/-! ### and, or, not -/
variable {tA tB' : TT} {rest : List Expr}
def tAnd (t u : TT) : TT := fun σ H Q => t σ H fun c H1 => if c = true then u σ H1 Q else Q false H1
def tOr (t u : TT) : TT := fun σ H Q => t σ H fun c H1 => if c = true then Q true H1 else u σ H1 Q
def tNot (t : TT) : TT := fun σ H Q => t σ H fun c H1 => Q (!c) H1
theorem pw_and1 (ha : PT X a tA) : PW X (.BoolOp .And [a] pos) tA := by
  intro wh pins s σ H Q I h
  refine isTrue_and (thn (ha pins s σ H Q I h) fun c s1 e => ?_)
  cases c with
  | true => exact isTrue_and_nil e
  | false => exact e
theorem pw_or1 (ha : PT X a tA) : PW X (.BoolOp .Or [a] pos) tA := by
  intro wh pins s σ H Q I h
  refine isTrue_or (thn (ha pins s σ H Q I h) fun c s1 e => ?_)
  cases c with
  | false => exact isTrue_or_nil e
  | true => exact e
theorem pw_and (ha : PT X a tA) (hb : PW X (.BoolOp .And (b :: rest) pos) tB') : PW X (.BoolOp .And (a :: b :: rest) pos) (tAnd tA tB') := by
  intro wh pins s σ H Q I h
  refine isTrue_and (thn (ha pins s σ H _ I h) fun c s1 ⟨H1, I1, q1⟩ => ?_)
  cases c with
  | true => exact hb wh pins s1 σ H1 Q I1 q1
  | false => exact ⟨H1, I1, q1⟩
theorem pw_or (ha : PT X a tA) (hb : PW X (.BoolOp .Or (b :: rest) pos) tB') : PW X (.BoolOp .Or (a :: b :: rest) pos) (tOr tA tB') := by
  intro wh pins s σ H Q I h
  refine isTrue_or (thn (ha pins s σ H _ I h) fun c s1 ⟨H1, I1, q1⟩ => ?_)
  cases c with
  | true => exact ⟨H1, I1, q1⟩
  | false => exact hb wh pins s1 σ H1 Q I1 q1
theorem pt_not (ha : PT X a tA) : PT X (.UnaryOp .Not a pos) (tNot tA) := by
  intro pins s σ H Q I h
  exact isTrue_not (ha pins s σ H (fun c H1 => Q (!c) H1) I h)
/-- .. as values (bools) -/
def tAndV (ta tb : TE) : TE := fun σ H Q => ta σ H fun x H1 => ∃ c, x = .bl c ∧ if c = true then tb σ H1 Q else Q (.bl false) H1
def tOrV (ta tb : TE) : TE := fun σ H Q => ta σ H fun x H1 => ∃ c, x = .bl c ∧ if c = true then Q (.bl true) H1 else tb σ H1 Q
theorem pe_one {op} {t : TE} (h : PE X a t) : PE X (.BoolOp op [a] pos) t := fun pins s σ H Q I hw => BoolOp_one (h pins s σ H Q I hw)
theorem pe_and (ha : PE X a ta) (hb : PE X (.BoolOp .And (b :: rest) pos) tb) : PE X (.BoolOp .And (a :: b :: rest) pos) (tAndV ta tb) := by
  intro pins s σ H Q I h
  refine BoolOp_and (thn (ha pins s σ H _ I h) fun v s1 ⟨x, H1, I1, r1, q1⟩ => ?_)
  obtain ⟨c, rfl, q1⟩ := q1
  cases r1
  refine wpAny_truthy_bool ?_
  cases c with
  | true => exact hb pins s1 σ H1 Q I1 q1
  | false => exact ⟨.bl false, H1, I1, rfl, q1⟩
theorem pe_or (ha : PE X a ta) (hb : PE X (.BoolOp .Or (b :: rest) pos) tb) : PE X (.BoolOp .Or (a :: b :: rest) pos) (tOrV ta tb) := by
  intro pins s σ H Q I h
  refine BoolOp_or (thn (ha pins s σ H _ I h) fun v s1 ⟨x, H1, I1, r1, q1⟩ => ?_)
  obtain ⟨c, rfl, q1⟩ := q1
  cases r1
  refine wpAny_truthy_bool ?_
  cases c with
  | false => exact hb pins s1 σ H1 Q I1 q1
  | true => exact ⟨.bl true, H1, I1, rfl, q1⟩
/-- a if t else b -/
def tIf (t : TT) (ta tb : TE) : TE := fun σ H Q => t σ H fun c H1 => if c = true then ta σ H1 Q else tb σ H1 Q
theorem pe_ifExp {c : Expr} (hc : PT X c tA) (ha : PE X a ta) (hb : PE X b tb) : PE X (.IfExp c a b pos) (tIf tA ta tb) := by
  intro pins s σ H Q I h
  refine wpAny_IfExp (thn (hc pins s σ H _ I h) fun d s1 ⟨H1, I1, q1⟩ => ?_)
  cases d with
  | true => exact ha pins s1 σ H1 Q I1 q1
  | false => exact hb pins s1 σ H1 Q I1 q1
end
end L2

namespace L2
open PySem PySem.Spec PyProof.Rows

/-! ### a list, a tuple that is read: tracked, frozen, or an object of the module -/
def SqL (K : PySem.W.Frag) (H : Hp) (a : Addr) (xs : List V) : Prop :=
  Rd H a (.lst xs) ∨
    ∃ (o : Obj) (its : Array Value) (n : Nat), K.lookup a = some o ∧ o.cls = .type "list" ∧ o.dict = none ∧ o.data = .seq its n ∧ its.size ≤ sizeLine ∧ Vals xs its.toList
def SqT (K : PySem.W.Frag) (H : Hp) (a : Addr) (xs : List V) : Prop :=
  Rd H a (.tup xs) ∨
    ∃ (o : Obj) (its : Array Value) (n : Nat), K.lookup a = some o ∧ o.cls = .type "tuple" ∧ o.data = .seq its n ∧ its.size ≤ sizeLine ∧ Vals xs its.toList
def absV : Value → Option V
  | .none => some .non
  | .bool b => some (.bl b)
  | .int i _ => some (.int i)
  | .str x _ => some (.str x)
  | .bytes b _ => some (.byt b)
  | .float b _ => some (.flt b)
  | .ref a => some (.ref a)
  | .type n => some (.ty n)
  | _ => none
theorem RelV.abs {x : V} {u : Value} (r : RelV x u) : absV u = some x := by
  cases x with
  | non => cases r; rfl
  | bl _ => cases r; rfl
  | int _ => obtain ⟨t, rfl⟩ := r; rfl
  | str _ => obtain ⟨t, rfl⟩ := r; rfl
  | byt _ => obtain ⟨t, rfl⟩ := r; rfl
  | flt _ => obtain ⟨t, rfl⟩ := r; rfl
  | ref _ => cases r; rfl
  | ty _ => cases r; rfl
theorem RelV.inj {x y : V} {u : Value} (r : RelV x u) (q : RelV y u) : x = y := Option.some.inj (r.abs.symm.trans q.abs)
theorem Vals.inj : ∀ {xs ys : List V} {us : List Value}, Vals xs us → Vals ys us → xs = ys
  | _, _, _, .nil, .nil => rfl
  | _, _, _, .cons r t, .cons r' t' => by rw [r.inj r', Vals.inj t t']
section
variable {X : Cx} {pins : List (Addr × Obj)} {σ : St} {H : Hp} {s : Shared} {a : Addr} {xs ys : List V}
theorem SqL.of {K : PySem.W.Frag} (h : H a = some (.lst xs)) : SqL K H a xs := .inl (.inl h)
theorem SqT.of {K : PySem.W.Frag} (h : H a = some (.tup xs)) : SqT K H a xs := .inl (.inl h)
theorem Inv.list (I : Inv X pins σ H s) (h : SqL X.K H a xs) : ∃ its : List Value, Vals xs its ∧ PlainL s.heap a its.toArray ∧ xs.length ≤ sizeLine := by
  rcases h with h | ⟨o, its, n, hk, hc, hd, hs, hz, r⟩
  · obtain ⟨z, its, n, r, e⟩ := h.ok I.hok
    exact ⟨its, r, ⟨_, n, e, rfl, rfl, rfl⟩, z⟩
  · refine ⟨its.toList, r, ⟨o, n, I.kIn a o hk, hc, hd, by simpa using hs⟩, ?_⟩
    have e := r.length
    simp only [Array.length_toList] at e
    omega
theorem Inv.tuple (I : Inv X pins σ H s) (h : SqT X.K H a xs) : ∃ its : List Value, Vals xs its ∧ IsTup s.heap a its.toArray ∧ xs.length ≤ sizeLine := by
  rcases h with h | ⟨o, its, n, hk, hc, hs, hz, r⟩
  · obtain ⟨z, its, r, p⟩ := h.ok I.hok
    exact ⟨its, r, p, z⟩
  · refine ⟨its.toList, r, ⟨o, I.kIn a o hk, hc, n, by simpa using hs⟩, ?_⟩
    have e := r.length
    simp only [Array.length_toList] at e
    omega
theorem Inv.list_inj (I : Inv X pins σ H s) (h : SqL X.K H a xs) (h' : SqL X.K H a ys) : xs = ys := by
  obtain ⟨its, r, ⟨o, n, e, _, _, d⟩, _⟩ := I.list h
  obtain ⟨its', r', ⟨o', n', e', _, _, d'⟩, _⟩ := I.list h'
  rw [e] at e'; cases e'
  rw [d] at d'
  injection d' with d1 _
  have : its = its' := by simpa using congrArg Array.toList d1
  subst this
  exact r.inj r'
end

/-! ### another wish about exceptions -/
abbrev Cx.wish (X : Cx) (E : Value → Shared → Prop) : Cx := { X with xe := E }
/-- no exception leaves -/
abbrev Cx.nox (X : Cx) : Cx := X.wish fun _ _ => False
theorem Cx.Ok.wish {X : Cx} (ok : X.Ok) (E : Value → Shared → Prop) : (X.wish E).Ok :=
  ⟨ok.mod, ok.kind, ok.glob, ok.blt, ok.above, ok.inj, ok.has, ok.cab, ok.hd, ok.frames, ok.stk, ok.exf, ok.bs, ok.bsz, ok.noex, ok.exfs, ok.funs, ok.frf⟩
theorem Cx.Ok.unwish {X : Cx} {E : Value → Shared → Prop} (ok : (X.wish E).Ok) : X.Ok :=
  ⟨ok.mod, ok.kind, ok.glob, ok.blt, ok.above, ok.inj, ok.has, ok.cab, ok.hd, ok.frames, ok.stk, ok.exf, ok.bs, ok.bsz, ok.noex, ok.exfs, ok.funs, ok.frf⟩
section
variable {X : Cx} {pins : List (Addr × Obj)} {σ : St} {H : Hp} {s : Shared} {E : Value → Shared → Prop}
theorem Inv.wish (I : Inv X pins σ H s) (E : Value → Shared → Prop) : Inv (X.wish E) pins σ H s := ⟨I.ok.wish E, I.os, I.bare, I.base, I.loc, I.cell, I.free, I.freeC, I.pin, I.hok, I.len⟩
theorem Inv.unwish (I : Inv (X.wish E) pins σ H s) : Inv X pins σ H s := ⟨I.ok.unwish, I.os, I.bare, I.base, I.loc, I.cell, I.free, I.freeC, I.pin, I.hok, I.len⟩
theorem SP.unwish {D : Ends} {f : Flow} {s' : Shared} (h : SP (X.wish E) pins D f s') : SP X pins D f s' := by
  cases f with
  | next => obtain ⟨σ', H', I, q⟩ := h; exact ⟨σ', H', I.unwish, q⟩
  | brk => obtain ⟨σ', H', I, q⟩ := h; exact ⟨σ', H', I.unwish, q⟩
  | cont => obtain ⟨σ', H', I, q⟩ := h; exact ⟨σ', H', I.unwish, q⟩
  | ret u => obtain ⟨v, σ', H', I, r, q⟩ := h; exact ⟨v, σ', H', I.unwish, r, q⟩
theorem PSs.nox {st : List Stmt} {t : TS} (h : PSs X.nox st t) : PSs X st t := fun pins s σ H D I hw =>
  wpAny_mono (h pins s σ H D (I.wish _) hw) (fun _ _ q => q.unwish) fun _ _ z => False.elim z
end

/-! ### blocks and small statements -/
section
variable {X : Cx} {st : Stmt} {rest : List Stmt} {t u : TS} {e : Expr} {te : TE} {pos : Pos}
def tNext : TS := fun D σ H => D.nx σ H
def tSeq (t u : TS) : TS := fun D σ H => t { D with nx := u D } σ H
theorem pss_nil : PSs X [] tNext := fun _ _ σ H _ I h => wpAny_execs_nil ⟨σ, H, I, h⟩
theorem pss_cons (h1 : PS X st t) (h2 : PSs X rest u) : PSs X (st :: rest) (tSeq t u) := by
  intro pins s σ H D I h
  refine wpAny_execs_cons (thn (h1 pins s σ H { D with nx := u D } I h) fun f s1 q => ?_)
  cases f with
  | next =>
    obtain ⟨σ', H', I', q⟩ := q
    exact h2 pins s1 σ' H' D I' q
  | ret v => exact q
  | brk => exact q
  | cont => exact q
theorem pss_one (h1 : PS X st t) : PSs X [st] t := by
  intro pins s σ H D I h
  refine wpAny_execs_cons (thn (h1 pins s σ H D I h) fun f s1 q => ?_)
  cases f with
  | next => exact wpAny_execs_nil q
  | ret v => exact q
  | brk => exact q
  | cont => exact q
/-- in a def's body nothing is shown -/
theorem Inv.quiet {pins : List (Addr × Obj)} {σ : St} {H : Hp} {s : Shared} (I : Inv X pins σ H s) : interactive X.env = false := by simp [interactive, I.ok.kind]
/-- an expression whose value is dropped -/
def tDrop (te : TE) : TS := fun D σ H => te σ H fun _ H1 => D.nx σ H1
theorem ps_expr (he : PE X e te) (hs : swapsWith e none pos.line X.env = pure false := by rfl) : PS X (.Expr e pos) (tDrop te) := by
  intro pins s σ H D I h
  exact wpAny_Expr_any (thn (he pins s σ H _ I h) fun v s1 ⟨x, H1, I1, r1, q1⟩ => ⟨σ, H1, I1, q1⟩) I.quiet hs
def tRet (te : TE) : TS := fun D σ H => te σ H D.rt
theorem ps_ret (he : PE X e te) : PS X (.Return (some e) pos) (tRet te) := by
  intro pins s σ H D I h
  exact wpAny_Return_some (thn (he pins s σ H _ I h) fun v s1 ⟨x, H1, I1, r1, q1⟩ => ⟨x, σ, H1, I1, r1, q1⟩)
def tIfS (c : TT) (t u : TS) : TS := fun D σ H => c σ H fun b H1 => if b = true then t D σ H1 else u D σ H1
theorem ps_if {c : Expr} {a b : List Stmt} {tc : TT} (hc : PT X c tc) (ha : PSs X a t) (hb : PSs X b u) : PS X (.If c a b pos) (tIfS tc t u) := by
  intro pins s σ H D I h
  refine wpAny_If (thn (hc pins s σ H _ I h) fun d s1 ⟨H1, I1, q1⟩ => ?_)
  cases d with
  | true => exact ha pins s1 σ H1 D I1 q1
  | false => exact hb pins s1 σ H1 D I1 q1
end

/-! ### targets -/
abbrev TG := V → St → Hp → (St → Hp → Prop) → Prop
abbrev TGs := List V → St → Hp → (St → Hp → Prop) → Prop
def PG (X : Cx) (target : Expr) (t : TG) : Prop :=
  ∀ (pins : List (Addr × Obj)) (s : Shared) (σ : St) (H : Hp) (v : V) (u : Value) (Q : St → Hp → Prop), Inv X pins σ H s → RelV v u → t v σ H Q →
    wpAny (model X.prog X.w) X.A (assign target X.env u) (fun _ s' => ∃ σ' H', Inv X pins σ' H' s' ∧ Q σ' H') X.xe s
/-- several targets, one after another -/
def PGs (X : Cx) (ts : List Expr) (t : TGs) : Prop :=
  ∀ (pins : List (Addr × Obj)) (s : Shared) (σ : St) (H : Hp) (vs : List V) (us : List Value) (Q : St → Hp → Prop), Inv X pins σ H s → Vals vs us → t vs σ H Q →
    wpAny (model X.prog X.w) X.A (assignInOrder ((assignEach ts X.env).map (·.2)) us) (fun _ s' => ∃ σ' H', Inv X pins σ' H' s' ∧ Q σ' H') X.xe s
section
variable {X : Cx} {pos : Pos}
def gName (i : Nat) : TG := fun v σ H Q => Q (σ.set i (some v)) H
theorem pg_name {i : Nat} {x : Str} (hN : X.N.Nodup) (hi : X.N[i]? = some x) (hx : Loc X.env.scope x) (hf : X.fn x = true ∨ X.env.scope.names.lookup x = some .local := by first | exact .inl rfl | exact .inr rfl | assumption) : PG X (.Name x pos) (gName i) := by
  intro pins s σ H v u Q I r h
  exact wpAny_assign_Name (store_ok I hN hi hx r (fun s' I' => ⟨_, H, I', h⟩) hf)
def gNil : TGs := fun vs σ H Q => vs = [] ∧ Q σ H
def gCons (t : TG) (u : TGs) : TGs := fun vs σ H Q => ∃ v r, vs = v :: r ∧ t v σ H fun σ' H' => u r σ' H' Q
theorem pgs_nil : PGs X [] gNil := by
  intro pins s σ H vs us Q I r h
  obtain ⟨e, h⟩ := h
  subst e
  cases r
  exact assignInOrder_nil ⟨σ, H, I, h⟩
theorem pgs_cons {e : Expr} {es : List Expr} {t : TG} {u : TGs} (h1 : PG X e t) (h2 : PGs X es u)
    (hs : (assignEach (e :: es) X.env).map (·.2) = assign e X.env :: (assignEach es X.env).map (·.2) := by rfl) : PGs X (e :: es) (gCons t u) := by
  intro pins s σ H vs us Q I r h
  obtain ⟨v, vr, e1, h⟩ := h
  subst e1
  cases r with
  | cons r rr =>
    rw [hs]
    refine assignInOrder_cons (thn (h1 pins s σ H _ _ _ I r h) fun _ s1 ⟨σ1, H1, I1, q1⟩ => ?_)
    exact h2 pins s1 σ1 H1 _ _ Q I1 rr q1
/-- (a, b, ..) = a tuple of that length -/
def gTup (K : PySem.W.Frag) (n : Nat) (t : TGs) : TG := fun v σ H Q => ∃ a xs, v = .ref a ∧ SqT K H a xs ∧ xs.length = n ∧ t xs σ H Q
theorem pg_tup {es : List Expr} {k : Nat} {t : TGs} {n : Nat} (hc : X.calm = true) (h : PGs X es t)
    (hn : (assignEach es X.env).length = n := by rfl) (hst : (assignEach es X.env).findIdx? (·.1) = none := by rfl) : PG X (.Tuple es k pos) (gTup X.K n t) := by
  intro pins s σ H v u Q I r hw
  obtain ⟨a, xs, e1, hq, hl, hw⟩ := hw
  subst e1
  cases r
  obtain ⟨its, rv, ht, hz⟩ := I.tuple hq
  refine assign_Tuple_tuple (I.ok.hd hc) ht (by simp [hn, ← hl, rv.length]) hst fun h' hx => ?_
  have I1 : Inv X pins σ H { s with heap := h' } := I.kept (t' := s.toks) fun b o e => hx b o (Nat.ne_of_lt (Heap.lt_size e)) e
  exact h pins _ σ H xs _ Q I1 (by simpa using rv) hw
/-- target = value -/
def tAsg (te : TE) (g : TG) : TS := fun D σ H => te σ H fun x H1 => g x σ H1 D.nx
theorem ps_asg {tg e : Expr} {te : TE} {g : TG} (he : PE X e te) (hg : PG X tg g) (hs : swapsWithSole [tg] e pos.line X.env = pure false := by rfl) (hw : swappedStores [tg] e X.env = pure none := by rfl)
    (h1 : (assignEach [tg] X.env).map (·.2) = [assign tg X.env] := by rfl) : PS X (.Assign [tg] e pos) (tAsg te g) := by
  intro pins s σ H D I h
  refine wpAny_Assign_stores (thn (he pins s σ H _ I h) fun v s1 ⟨x, H1, I1, r1, q1⟩ => ?_) hs hw
  rw [h1]
  exact thn (hg pins s1 σ H1 x v _ I1 r1 q1) fun _ s2 q => q
/-- name = value -/
theorem ps_set {i : Nat} {x : Str} {e : Expr} {te : TE} {pos' : Pos} (hN : X.N.Nodup) (hi : X.N[i]? = some x) (hx : Loc X.env.scope x) (he : PE X e te) (hs : swapsWith e (some (.Name x pos')) pos.line X.env = pure false := by rfl) (hf : X.fn x = true ∨ X.env.scope.names.lookup x = some .local := by first | exact .inl rfl | exact .inr rfl | assumption) :
    PS X (.Assign [.Name x pos'] e pos) (tAsg te (gName i)) := by
  intro pins s σ H D I h
  refine wpAny_Assign_Name (thn (he pins s σ H _ I h) fun v s1 ⟨y, H1, I1, r1, q1⟩ => ?_) hs
  exact store_ok I1 hN hi hx r1 (fun s2 I2 => ⟨_, H1, I2, q1⟩) hf
end

/-! ### while -/
section
variable {X : Cx} {pos : Pos}
/-- the invariant W with its measure -/
def tWhile (c : TT) (tb : TS) : TS := fun D σ H => ∃ W : Nat → St → Hp → Prop, (∃ m, W m σ H) ∧ ∀ m σ H, W m σ H →
  c σ H fun b H1 => if b = true then ∃ N : St → Hp → Prop, (∀ σ' H', N σ' H' → ∃ m', m' < m ∧ W m' σ' H') ∧ tb { D with nx := N, ct := N, bk := D.nx } σ H1 else D.nx σ H1
theorem ps_while {c : Expr} {body : List Stmt} {tc : TT} {tb : TS} (hp : PassesOwn (model X.prog X.w) X.A X.env X.xe) (hc : PT X c tc) (hb : PSs X body tb) : PS X (.While c body [] pos) (tWhile tc tb) := by
  intro pins s σ H D I h
  obtain ⟨W, ⟨m0, w0⟩, turn⟩ := h
  refine wpAny_While (codeAny_whileLoop (fun n s' => ∃ σ' H', Inv X pins σ' H' s' ∧ W n σ' H') ?_ m0 ⟨σ, H, I, w0⟩)
  rintro n s1 ⟨σ1, H1, I1, w1⟩
  refine wpAny_passesOwn hp (thn (hc pins s1 σ1 H1 _ I1 (turn n σ1 H1 w1)) fun b s2 ⟨H2, I2, q2⟩ => ?_)
  cases b with
  | true =>
    obtain ⟨N, hN, q2⟩ := q2
    rw [if_pos rfl]
    refine wpAny_passesOwn hp (thn (hb pins s2 σ1 H2 _ I2 q2) fun f s3 q3 => ?_)
    cases f with
    | next =>
      obtain ⟨σ3, H3, I3, n3⟩ := q3
      obtain ⟨m', hm, w3⟩ := hN σ3 H3 n3
      exact ⟨m', hm, σ3, H3, I3, w3⟩
    | cont =>
      obtain ⟨σ3, H3, I3, n3⟩ := q3
      obtain ⟨m', hm, w3⟩ := hN σ3 H3 n3
      exact ⟨m', hm, σ3, H3, I3, w3⟩
    | brk => exact q3
    | ret v => exact q3
  | false =>
    rw [if_neg Bool.false_ne_true]
    exact wpAny_execs_nil ⟨σ1, H2, I2, q2⟩
end

/-! ### what a loop or a comprehension walks -/
/-- at turn i: it yields x (the heap may grow), or it stops -/
structure It where
  go : Nat → Hp → Prop
  yld : Nat → Hp → V → Hp → Prop
  stop : Nat → Hp → Prop
/-- the iterator's own objects may turn: they are not the frame's, not pinned, younger than the entry (or a comprehension's own) -/
def FpOk (X : Cx) (pins : List (Addr × Obj)) (H : Hp) (b : Addr) : Prop :=
  H b = none ∧ b ≠ X.env.locals ∧ b ∉ X.fs ∧ (b ∈ X.ex ∨ X.s₀.heap.objs.size ≤ b) ∧ (∀ x c, X.env.cells.lookup x = some c → c ≠ b) ∧ ∀ p ∈ X.pn ++ pins, p.1 ≠ b
theorem Inv.fpOk {X : Cx} {pins : List (Addr × Obj)} {σ : St} {H H' : Hp} {s : Shared} {b : Addr} (I : Inv X pins σ H s) (hb : s.heap.objs.size ≤ b) (hn : H' b = none) : FpOk X pins H' b := by
  refine ⟨hn, Nat.ne_of_gt (Nat.lt_of_lt_of_le I.lt hb), I.nofs hb, .inr (Nat.le_trans I.sz hb), fun x c e z => ?_, fun p hp z => ?_⟩
  · obtain ⟨v, q⟩ := I.cell x c e
    exact absurd (Nat.lt_of_lt_of_le q.lt (by rw [z]; exact hb)) (Nat.lt_irrefl _)
  · exact absurd (Nat.lt_of_lt_of_le (Heap.lt_size (I.pin p hp).1) (by rw [z]; exact hb)) (Nat.lt_irrefl _)
structure Turn (P : Program) (w : World) (K : PySem.W.Frag) (tg : Expr) (J : It) (fp : List Addr) (it : Addr) (tn : Nat → Heap → Prop) : Prop where
  mem : it ∈ fp
  obj : ∀ i h, tn i h → ∀ b ∈ fp, ∃ o, h.get? b = some o ∧ ∀ v, o.data ≠ .cell v
  keep : ∀ i h h', tn i h → (∀ b ∈ fp, ∀ o, h.get? b = some o → h'.get? b = some o) → tn i h'
  item : ∀ (X : Cx), X.prog = P → X.w = w → X.K = K → X.calm = true → ∀ (i : Nat) (pins : List (Addr × Obj)) (s : Shared) (σ : St) (H : Hp) (E : Value → Shared → Prop), Inv X pins σ H s → (∀ b ∈ fp, FpOk X pins H b) → tn i s.heap → J.go i H →
    wpAny (model P w) X.A (pyNext (.ref it)) (fun r s1 => ∃ u, r = some u ∧
      wpAny (model P w) X.A (letOwnedTupleGo tg (.ref it) u) (fun _ s2 => ∃ x H', Inv X pins σ H' s2 ∧ RelV x u ∧ J.yld i H x H' ∧ tn (i + 1) s2.heap ∧ ∀ b ∈ fp, H' b = none) E s1) E s
  done : ∀ (X : Cx), X.prog = P → X.w = w → X.K = K → X.calm = true → ∀ (i : Nat) (pins : List (Addr × Obj)) (s : Shared) (σ : St) (H : Hp) (E : Value → Shared → Prop), Inv X pins σ H s → (∀ b ∈ fp, FpOk X pins H b) → tn i s.heap → J.stop i H →
    wpAny (model P w) X.A (pyNext (.ref it)) (fun r s1 => r = none ∧ Inv X pins σ H s1) E s
  self : ∀ (A : Around) (i : Nat) (s : Shared) (Q : Value → Shared → Prop) (E : Value → Shared → Prop), tn i s.heap → Q (.ref it) s → wpAny (model P w) A (pyIter (.ref it)) Q E s
abbrev TI := St → Hp → (It → Hp → Prop) → Prop
/-- an iterator has come -/
def PIE (X : Cx) (pins : List (Addr × Obj)) (σ : St) (tg : Expr) (R : It → Hp → Prop) (itv : Value) (s2 : Shared) : Prop :=
  ∃ (it : Addr) (fp : List Addr) (tn : Nat → Heap → Prop) (J : It) (H' : Hp), itv = .ref it ∧ Inv X pins σ H' s2 ∧ Turn X.prog X.w X.K tg J fp it tn ∧ tn 0 s2.heap ∧ (∀ b ∈ fp, FpOk X pins H' b) ∧ R J H'
def PI (X : Cx) (tg iter : Expr) (wi : TI) : Prop :=
  ∀ (pins : List (Addr × Obj)) (s : Shared) (σ : St) (H : Hp) (R : It → Hp → Prop), Inv X pins σ H s → wi σ H R →
    wpAny (model X.prog X.w) X.A (eval iter X.env) (fun v s1 => wpAny (model X.prog X.w) X.A (pyIter v) (PIE X pins σ tg R) X.xe s1) X.xe s

/-- the step ahead of the store is nothing for an iterator that keeps no tuple -/
theorem go_of {M : Model} {A : Around} {E : Value → Shared → Prop} {s : Shared} {tg : Expr} {it : Addr} {u : Value} {o : Obj} {n : String} {vs : Array Value} {Q : Unit → Shared → Prop} (ho : s.heap.get? it = some o) (hc : o.cls = .type n) (hd : o.data = .fields vs)
    (hn : ["enumerate", "zip", "dict_itemiterator", "dict_reverseitemiterator", "odict_iterator", "itertools.zip_longest", "itertools.pairwise"].contains n = false) (hQ : Q () s) : wpAny M A (letOwnedTupleGo tg (.ref it) u) Q E s := by
  unfold letOwnedTupleGo
  cases tg <;> first
    | exact wpAny_pure hQ
    | (cases u <;> first
        | exact wpAny_pure hQ
        | (refine wpAny_bind (wpAny_load ho ?_)
           rw [hc, hd]
           show wpAny M A (if (["enumerate", "zip", "dict_itemiterator", "dict_reverseitemiterator", "odict_iterator", "itertools.zip_longest", "itertools.pairwise"].contains n && vs[0]? == some (rawInt _)) = true then _ else _) Q E s
           rw [if_neg (by intro h; rw [hn, Bool.false_and] at h; cases h)]
           exact wpAny_pure hQ))

/-- the list at a, as it stands at each turn (a loop may append to it) -/
def Itl (K : PySem.W.Frag) (a : Addr) : It :=
  ⟨fun i H => ∃ xs x, SqL K H a xs ∧ xs[i]? = some x, fun i H x H' => H' = H ∧ ∀ xs, SqL K H a xs → xs[i]? = some x, fun i H => ∃ xs, SqL K H a xs ∧ xs.length ≤ i⟩
/-- lo, lo + 1, .. (n of them) -/
def Itr (lo : Int) (n : Nat) : It := ⟨fun i _ => i < n, fun i H x H' => H' = H ∧ x = .int (lo + i), fun i _ => n ≤ i⟩
theorem turn_list {P : Program} {w : World} {K : PySem.W.Frag} {tg : Expr} (a it : Addr) : Turn P w K tg (Itl K a) [it] it (fun i h => h.IsListIter it a i) where
  mem := by simp
  obj := fun i h st b hb => by
    have e : b = it := by simpa using hb
    subst e
    obtain ⟨o, e, c, d⟩ := st
    exact ⟨o, e, fun v z => by rw [d] at z; cases z⟩
  keep := fun i h h' st k => st.at fun o e => k it (by simp) o e
  item := by
    intro X hP hw hK hc i pins s σ H E I hf st hg
    subst hP hw hK
    obtain ⟨xs, x, hq, hx⟩ := hg
    obtain ⟨its, rv, p, hz⟩ := I.list hq
    obtain ⟨u, hu, ru⟩ := rv.get hx
    obtain ⟨f0, f1, f2, f3, f4, f5⟩ := hf it (by simp)
    refine wpAny_pyNext_list_item st p.isList (x := u) (by simpa using hu) fun h' st' sb => ?_
    have I1 : Inv X pins σ H { s with heap := h' } := I.turned (t' := s.toks) (fun b o hb e => (sb.2 b hb).trans e) f0 f1 f3 f4 f5
    obtain ⟨o, e, c, d⟩ := id st'
    exact ⟨u, rfl, go_of (s := { s with heap := h' }) e c d (by decide) ⟨x, H, I1, ru, ⟨rfl, fun ys hy => by rw [I.list_inj hy hq]; exact hx⟩, st', fun b hb => (hf b hb).1⟩⟩
  done := by
    intro X hP hw hK hc i pins s σ H E I hf st hg
    subst hP hw hK
    obtain ⟨xs, hq, hx⟩ := hg
    obtain ⟨its, rv, p, hz⟩ := I.list hq
    obtain ⟨f0, f1, f2, f3, f4, f5⟩ := hf it (by simp)
    have hl := rv.length
    exact wpAny_pyNext_list_end (I.ok.hd hc) st p.isList (by simp; omega) fun h' eb => ⟨rfl, I.turned (t' := s.toks) (fun b o hb e => eb b o hb e) f0 f1 f3 f4 f5⟩
  self := fun _ _ _ _ _ st h => wpAny_pyIter_listiter st h
theorem turn_range {P : Program} {w : World} {K : PySem.W.Frag} {tg : Expr} (it : Addr) (lo : Int) (n : Nat) : Turn P w K tg (Itr lo n) [it] it (fun i h => IsRangeIter h it (lo + (i : Nat) * 1) ((n : Int) - (i : Nat)) 1) where
  mem := by simp
  obj := fun i h st b hb => by
    have e : b = it := by simpa using hb
    subst e
    exact ⟨_, st, fun v z => by
      have z' : Data.fields _ = Data.cell v := z
      cases z'⟩
  keep := fun i h h' st k => k it (by simp) _ st
  item := by
    intro X hP hw hK hc i pins s σ H E I hf st hg
    subst hP hw hK
    obtain ⟨f0, f1, f2, f3, f4, f5⟩ := hf it (by simp)
    have W := Walks.range (prog := X.prog) (w := X.w) (I.ok.hd hc) it lo 1 n
    refine W.item i s _ _ hg st fun v h' tk hv st' kk => ?_
    obtain ⟨t, rfl⟩ := hv
    have I1 : Inv X pins σ H { s with heap := h', toks := tk } := I.turned (fun b o hb e => kk b o (by simpa using hb) e) f0 f1 f3 f4 f5
    refine ⟨_, rfl, go_of (s := { s with heap := h', toks := tk }) (n := "range_iterator") st' rfl rfl (by decide) ⟨.int (lo + i), H, I1, ⟨t, ?_⟩, ⟨rfl, rfl⟩, st', fun b hb => (hf b hb).1⟩⟩
    rw [Int.mul_one]
  done := by
    intro X hP hw hK hc i pins s σ H E I hf st hg
    subst hP hw hK
    obtain ⟨f0, f1, f2, f3, f4, f5⟩ := hf it (by simp)
    exact wpAny_pyNext_range_end (I.ok.hd hc) st (by have : n ≤ i := hg; omega) fun h' eb => ⟨rfl, I.turned (t' := s.toks) (fun b o hb e => eb b o hb e) f0 f1 f3 f4 f5⟩
  self := fun _ _ _ _ _ st h => wpAny_pyIter_rangeiter st h
end L2

namespace L2
open PySem PySem.Spec PyProof.Rows
section
variable {X : Cx} {tg : Expr}
def iList (K : PySem.W.Frag) (tl : TE) : TI := fun σ H R => tl σ H fun x H1 => ∃ a, x = .ref a ∧ (∃ xs, SqL K H1 a xs) ∧ R (Itl K a) H1
theorem pi_list {l : Expr} {tl : TE} (hl : PE X l tl) : PI X tg l (iList X.K tl) := by
  intro pins s σ H R I h
  refine thn (hl pins s σ H _ I h) fun v s1 ⟨x, H1, I1, r1, q1⟩ => ?_
  obtain ⟨a, e, ⟨xs, hq⟩, q⟩ := q1
  subst e
  cases r1
  obtain ⟨its, rv, p, hz⟩ := I1.list hq
  refine wpAny_pyIter_list p.isList ?_
  refine ⟨s1.heap.objs.size, [s1.heap.objs.size], _, _, H1, rfl, I1.kept (t' := s1.toks) fun b o e => Heap.get?_push_of_some _ e, turn_list a _, ⟨_, Heap.get?_push_size _ rfl, rfl, rfl⟩, fun b hb => ?_, q⟩
  have e : b = s1.heap.objs.size := by simpa using hb
  subst e
  exact I1.fpOk (Nat.le_refl _) (I1.hok.fresh (Nat.le_refl _))
/-- a range object just made, walked -/
theorem range_it {pins : List (Addr × Obj)} {σ : St} {H : Hp} {s : Shared} {R : It → Hp → Prop} {E : Value → Shared → Prop} {lo hi : Int} {t u v : Tok} {tk : Nat} (I : Inv X pins σ H s) (h1 : -(2 ^ 62) ≤ lo) (h2 : lo < 2 ^ 62) (h3 : -(2 ^ 62) ≤ hi) (h4 : hi < 2 ^ 62)
    (q : R (Itr lo (hi - lo).toNat) H) : wpAny (model X.prog X.w) X.A (pyIter (.ref s.heap.objs.size)) (PIE X pins σ tg R) E { s with heap := s.heap.push { cls := .type "range", data := .fields #[.int lo t, .int hi u, .int 1 v] }, toks := tk } := by
  refine wpAny_pyIter_range (IsRange.new ..) (small_one h1 h2 h3 h4) ?_
  have I1 : Inv X pins σ H { s with heap := s.heap.push { cls := .type "range", data := .fields #[.int lo t, .int hi u, .int 1 v] }, toks := tk } := I.kept fun b o e => Heap.get?_push_of_some _ e
  refine ⟨(s.heap.push { cls := .type "range", data := .fields #[.int lo t, .int hi u, .int 1 v] }).objs.size, [(s.heap.push { cls := .type "range", data := .fields #[.int lo t, .int hi u, .int 1 v] }).objs.size], _, _, H, rfl,
    I1.kept (t' := tk) fun b o e => Heap.get?_push_of_some _ e, turn_range _ lo (hi - lo).toNat, ?_, fun b hb => ?_, q⟩
  · have e1 : lo + ((0 : Nat) : Int) * 1 = lo := by simp
    have e2 : (((hi - lo).toNat : Nat) : Int) - ((0 : Nat) : Int) = Builtin.Range.rangeSize lo hi 1 := by rw [rangeSize_one]; split <;> omega
    show IsRangeIter _ _ (lo + ((0 : Nat) : Int) * 1) ((((hi - lo).toNat : Nat) : Int) - ((0 : Nat) : Int)) 1
    rw [e1, e2]
    exact Heap.get?_push_size _ rfl
  · have e : b = (s.heap.push { cls := .type "range", data := .fields #[.int lo t, .int hi u, .int 1 v] }).objs.size := by simpa using hb
    subst e
    exact I1.fpOk (Nat.le_refl _) (I1.hok.fresh (Nat.le_refl _))
def iRng1 (ta : TA) : TI := fun σ H R => ta σ H fun vs H1 => ∃ j : Int, vs = [.int j] ∧ -(2 ^ 62) ≤ j ∧ j < 2 ^ 62 ∧ R (Itr 0 j.toNat) H1
theorem pi_range1 {a : Expr} {ta : TA} {p pos : Pos} (hg : Gl X "range") (hm : X.mg "range" = none) (ha : PA X [a] ta) (hs : starEach [a] X.env = [(false, eval a X.env)] := by rfl) : PI X tg (.Call (.Name "range" p) [a] [] pos) (iRng1 ta) := by
  intro pins s σ H R I h
  refine Call_ (ld_blt I hg hm boot_range (PyProof.Rows.callWith_type1 (thn (ha pos pins s σ H _ I h) fun us s1 ⟨vs, H1, I1, r1, q1⟩ => ?_) hs rfl))
  obtain ⟨j, e, q1, q2, q⟩ := q1
  subst e
  cases r1 with
  | cons r rr =>
    cases rr
    obtain ⟨t, rfl⟩ := r
    exact call_range_1 (range_it I1 (by omega) (by omega) q1 q2 (by simpa using q))

/-! ### for -/
/-- W: the invariant by the turn and a measure; N: what the body is to reach -/
def tFor (wi : TI) (g : TG) (tb : TS) : TS := fun D σ H => wi σ H fun J H1 => ∃ W : Nat → Nat → St → Hp → Prop, (∃ m, W 0 m σ H1) ∧ ∀ i m σ H, W i m σ H →
  (J.stop i H ∧ D.nx σ H) ∨ (J.go i H ∧ ∃ N : St → Hp → Prop, (∀ σ' H', N σ' H' → ∃ m', m' < m ∧ W (i + 1) m' σ' H') ∧ ∀ x H', J.yld i H x H' → g x σ H' fun σ2 H2 => tb { D with nx := N, ct := N, bk := D.nx } σ2 H2)
/-- the records at fp as they stand -/
def pinsAt (fp : List Addr) (h : Heap) : List (Addr × Obj) := fp.filterMap fun b => (h.get? b).map fun o => (b, o)
theorem mem_pinsAt {fp : List Addr} {h : Heap} {b : Addr} {o : Obj} (hb : b ∈ fp) (e : h.get? b = some o) : (b, o) ∈ pinsAt fp h := List.mem_filterMap.mpr ⟨b, hb, by rw [e]; rfl⟩
theorem of_pinsAt {fp : List Addr} {h : Heap} {p : Addr × Obj} (hp : p ∈ pinsAt fp h) : p.1 ∈ fp ∧ h.get? p.1 = some p.2 := by
  obtain ⟨b, hb, e⟩ := List.mem_filterMap.mp hp
  cases q : h.get? b with
  | none => rw [q] at e; cases e
  | some o =>
    rw [q] at e
    have e' : (b, o) = p := Option.some.inj e
    subst e'
    exact ⟨hb, q⟩
theorem Inv.pinned {pins : List (Addr × Obj)} {σ : St} {H : Hp} {s : Shared} {fp : List Addr} (I : Inv X pins σ H s) (hf : ∀ b ∈ fp, FpOk X pins H b) (ho : ∀ b ∈ fp, ∃ o, s.heap.get? b = some o ∧ ∀ v, o.data ≠ .cell v) : Inv X (pins ++ pinsAt fp s.heap) σ H s :=
  I.pins_of fun p hp => (List.mem_append.mp hp).elim (fun z => I.pin p (List.mem_append_right _ z)) fun z => by
    obtain ⟨hb, e⟩ := of_pinsAt z
    obtain ⟨f0, f1, f2, _⟩ := hf p.1 hb
    obtain ⟨o, e', d⟩ := ho p.1 hb
    rw [e] at e'; cases e'
    exact ⟨e, f0, f1, f2, d⟩
theorem Inv.unpinned {pins pl : List (Addr × Obj)} {σ : St} {H : Hp} {s : Shared} (I : Inv X (pins ++ pl) σ H s) : Inv X pins σ H s := I.pins_of fun p hp => I.pin p (List.mem_append_right _ (List.mem_append_left _ hp))
theorem ps_for {iter : Expr} {body : List Stmt} {wi : TI} {g : TG} {tb : TS} {pos : Pos} (hp : PassesOwn (model X.prog X.w) X.A X.env X.xe) (hc : X.calm = true) (hi : PI X tg iter wi) (hg : PG X tg g) (hb : PSs X body tb)
    (hs : ∀ x, foldedSetIterable iter X.env x = pure x := by intro _; rfl) : PS X (.For tg iter body [] pos) (tFor wi g tb) := by
  intro pins s σ H D I h
  refine wpAny_For (thn (hi pins s σ H _ I h) fun v s1 h1 => thn h1 fun itv s2 h2 => ?_) hs
  obtain ⟨it, fp, tn, J, H2, e, I2, T, st2, f2, W, ⟨m0, w0⟩, turn⟩ := h2
  subst e
  -- what stays true of the iterator's objects through the loop
  have stat : ∀ {H' : Hp}, (∀ b ∈ fp, H' b = none) → ∀ b ∈ fp, FpOk X pins H' b := fun hn b hb => ⟨hn b hb, (f2 b hb).2⟩
  refine codeAny_forLoop_any (fun n s' => ∃ i σ' H', Inv X pins σ' H' s' ∧ tn i s'.heap ∧ (∀ b ∈ fp, H' b = none) ∧ W i n σ' H') ?_ m0 ⟨0, σ, H2, I2, st2, fun b hb => (f2 b hb).1, w0⟩
  rintro n s3 ⟨i, σ3, H3, I3, st3, fr3, w3⟩
  rcases turn i n σ3 H3 w3 with ⟨stop, qn⟩ | ⟨go, N, hN, step⟩
  · refine wpAny_passesOwn hp (thn (T.done X rfl rfl rfl hc i pins s3 σ3 H3 X.xe I3 (stat fr3) st3 stop) fun r s4 ⟨hr, I4⟩ => ?_)
    subst hr
    exact wpAny_execs_nil ⟨σ3, H3, I4, qn⟩
  · refine wpAny_passesOwn hp (thn (T.item X rfl rfl rfl hc i pins s3 σ3 H3 X.xe I3 (stat fr3) st3 go) fun r s4 ⟨u, hr, h4⟩ => ?_)
    subst hr
    refine wpAny_passesOwn hp (thn h4 fun _ s5 ⟨x, H5, I5, r5, y5, st5, fr5⟩ => ?_)
    have I5' := I5.pinned (stat fr5) (T.obj _ _ st5)
    refine wpAny_passesOwn hp (thn (hg _ s5 σ3 H5 x u _ I5' r5 (step x H5 y5)) fun _ s6 ⟨σ6, H6, I6, q6⟩ => ?_)
    refine wpAny_passesOwn hp (thn (hb _ s6 σ6 H6 _ I6 q6) fun f s7 q7 => ?_)
    have again : ∀ {σ7 : St} {H7 : Hp}, Inv X (pins ++ pinsAt fp s5.heap) σ7 H7 s7 → N σ7 H7 → ∃ m, m < n ∧ ∃ i σ' H', Inv X pins σ' H' s7 ∧ tn i s7.heap ∧ (∀ b ∈ fp, H' b = none) ∧ W i m σ' H' := fun {σ7 H7} I7 n7 => by
      obtain ⟨m', hm, w7⟩ := hN σ7 H7 n7
      refine ⟨m', hm, i + 1, σ7, H7, I7.unpinned, T.keep _ _ _ st5 fun b hb o e => (I7.pin (b, o) (List.mem_append_right _ (List.mem_append_right _ (mem_pinsAt hb e)))).1, fun b hb => ?_, w7⟩
      obtain ⟨o, e, d⟩ := T.obj _ _ st5 b hb
      exact (I7.pin (b, o) (List.mem_append_right _ (List.mem_append_right _ (mem_pinsAt hb e)))).2.1
    cases f with
    | next => obtain ⟨σ7, H7, I7, n7⟩ := q7; exact again I7 n7
    | cont => obtain ⟨σ7, H7, I7, n7⟩ := q7; exact again I7 n7
    | brk => obtain ⟨σ7, H7, I7, q7⟩ := q7; exact ⟨σ7, H7, I7.unpinned, q7⟩
    | ret v => obtain ⟨x7, σ7, H7, I7, r7, q7⟩ := q7; exact ⟨x7, σ7, H7, I7.unpinned, r7, q7⟩
end

/-! ### the forms one uses -/
/-- over a list that the body leaves as it is -/
theorem for_list {K : PySem.W.Frag} {a : Addr} {xs : List V} {g : TG} {tb : TS} {D : Ends} {σ : St} {H : Hp} (Pv : Nat → St → Hp → Prop) (h0 : Pv 0 σ H) (hl : ∀ i σ H, i ≤ xs.length → Pv i σ H → SqL K H a xs)
    (hs : ∀ i x σ H, xs[i]? = some x → Pv i σ H → g x σ H fun σ2 H2 => tb { D with nx := Pv (i + 1), ct := Pv (i + 1), bk := D.nx } σ2 H2) (hd : ∀ σ H, Pv xs.length σ H → D.nx σ H) :
    ∃ W : Nat → Nat → St → Hp → Prop, (∃ m, W 0 m σ H) ∧ ∀ i m σ H, W i m σ H →
      ((Itl K a).stop i H ∧ D.nx σ H) ∨ ((Itl K a).go i H ∧ ∃ N : St → Hp → Prop, (∀ σ' H', N σ' H' → ∃ m', m' < m ∧ W (i + 1) m' σ' H') ∧ ∀ x H', (Itl K a).yld i H x H' → g x σ H' fun σ2 H2 => tb { D with nx := N, ct := N, bk := D.nx } σ2 H2) := by
  refine ⟨fun i m σ H => m = xs.length - i ∧ i ≤ xs.length ∧ Pv i σ H, ⟨xs.length, by simp, Nat.zero_le _, h0⟩, ?_⟩
  rintro i m σ H ⟨rfl, hi, p⟩
  have q := hl i σ H hi p
  by_cases hlt : i < xs.length
  · refine .inr ⟨⟨xs, xs[i], q, by simp [hlt]⟩, Pv (i + 1), fun σ' H' p' => ⟨xs.length - (i + 1), by omega, rfl, hlt, p'⟩, fun x H' y => ?_⟩
    obtain ⟨e, y⟩ := y
    subst e
    exact hs i x σ _ (y xs q) p
  · have e : i = xs.length := by omega
    subst e
    exact .inl ⟨⟨xs, q, Nat.le_refl _⟩, hd σ H p⟩
theorem for_range {lo : Int} {n : Nat} {g : TG} {tb : TS} {D : Ends} {σ : St} {H : Hp} (Pv : Nat → St → Hp → Prop) (h0 : Pv 0 σ H)
    (hs : ∀ i σ H, i < n → Pv i σ H → g (.int (lo + i)) σ H fun σ2 H2 => tb { D with nx := Pv (i + 1), ct := Pv (i + 1), bk := D.nx } σ2 H2) (hd : ∀ σ H, Pv n σ H → D.nx σ H) :
    ∃ W : Nat → Nat → St → Hp → Prop, (∃ m, W 0 m σ H) ∧ ∀ i m σ H, W i m σ H →
      ((Itr lo n).stop i H ∧ D.nx σ H) ∨ ((Itr lo n).go i H ∧ ∃ N : St → Hp → Prop, (∀ σ' H', N σ' H' → ∃ m', m' < m ∧ W (i + 1) m' σ' H') ∧ ∀ x H', (Itr lo n).yld i H x H' → g x σ H' fun σ2 H2 => tb { D with nx := N, ct := N, bk := D.nx } σ2 H2) := by
  refine ⟨fun i m σ H => m = n - i ∧ i ≤ n ∧ Pv i σ H, ⟨n, by simp, Nat.zero_le _, h0⟩, ?_⟩
  rintro i m σ H ⟨rfl, hi, p⟩
  by_cases hlt : i < n
  · refine .inr ⟨hlt, Pv (i + 1), fun σ' H' p' => ⟨n - (i + 1), by omega, rfl, hlt, p'⟩, fun x H' y => ?_⟩
    obtain ⟨e, y⟩ := y
    subst e y
    exact hs i σ _ hlt p
  · have e : i = n := by omega
    subst e
    exact .inl ⟨Nat.le_refl _, hd σ H p⟩
end L2

namespace L2
open PySem PySem.Spec PyProof.Rows

abbrev R2 := V → V → Hp → VK → Prop
/-- a two-place operation on values: f is binaryOp op, inplaceOp op or compareOp op -/
def OpR (X : Cx) (f : Value → Value → Sem Value) (r : R2) : Prop :=
  ∀ (pins : List (Addr × Obj)) (s : Shared) (σ : St) (H : Hp) (x y : V) (v u : Value) (Q : VK), Inv X pins σ H s → RelV x v → RelV y u → r x y H Q →
    wpAny (model X.prog X.w) X.A (f v u) (EP X pins σ Q) X.xe s
/-- a one-place operation -/
def UnR (X : Cx) (f : Value → Sem Value) (r : V → Hp → VK → Prop) : Prop :=
  ∀ (pins : List (Addr × Obj)) (s : Shared) (σ : St) (H : Hp) (x : V) (v : Value) (Q : VK), Inv X pins σ H s → RelV x v → r x H Q →
    wpAny (model X.prog X.w) X.A (f v) (EP X pins σ Q) X.xe s
/-- a call of a value that is known (a builtin, a type) with values -/
def CallR (X : Cx) (f : Value) (r : List V → Hp → VK → Prop) : Prop :=
  ∀ (pins : List (Addr × Obj)) (s : Shared) (σ : St) (H : Hp) (xs : List V) (us : List Value) (Q : VK), Inv X pins σ H s → Vals xs us → r xs H Q →
    wpAny (model X.prog X.w) X.A (call f us) (EP X pins σ Q) X.xe s

def tOp (r : R2) (ta tb : TE) : TE := fun σ H Q => ta σ H fun x H1 => tb σ H1 fun y H2 => r x y H2 Q
def tUn (r : V → Hp → VK → Prop) (ta : TE) : TE := fun σ H Q => ta σ H fun x H1 => r x H1 Q
/-- ints in, under C, and a value out -/
def rI (C : Int → Int → Prop) (g : Int → Int → V) : R2 := fun x y H Q => ∃ i j, x = .int i ∧ y = .int j ∧ C i j ∧ Q (g i j) H
def rI0 (g : Int → Int → V) : R2 := fun x y H Q => ∃ i j, x = .int i ∧ y = .int j ∧ Q (g i j) H
def rU (g : Int → V) : V → Hp → VK → Prop := fun x H Q => ∃ i, x = .int i ∧ Q (g i) H

section
variable {X : Cx} {a b c : Expr} {ta tb tc : TE} {pos : Pos}

theorem binT (ha : PE X a ta) (hb : PE X b tb) {pins : List (Addr × Obj)} {s : Shared} {σ : St} {H : Hp} {R : V → V → Hp → Prop} (I : Inv X pins σ H s)
    (h : ta σ H fun x H1 => tb σ H1 fun y H2 => R x y H2) {Q : Value → Shared → Prop} {f : Value → Value → Sem Value}
    (hf : ∀ v u s2 x y H2, Inv X pins σ H2 s2 → RelV x v → RelV y u → R x y H2 → wpAny (model X.prog X.w) X.A (f v u) Q X.xe s2) :
    wpAny (model X.prog X.w) X.A (eval a X.env) (fun v s₁ => wpAny (model X.prog X.w) X.A (eval b X.env) (fun u s₂ => wpAny (model X.prog X.w) X.A (f v u) Q X.xe s₂) X.xe s₁) X.xe s := by
  refine thn (ha pins s σ H _ I h) fun v s1 ⟨x, H1, I1, r1, q1⟩ => ?_
  refine thn (hb pins s1 σ H1 _ I1 q1) fun u s2 ⟨y, H2, I2, r2, q2⟩ => ?_
  exact hf v u s2 x y H2 I2 r1 r2 q2

theorem pe_op {op : Operator} {r : R2} (ho : OpR X (binaryOp op) r) (ha : PE X a ta) (hb : PE X b tb) : PE X (.BinOp a op b pos) (tOp r ta tb) := by
  intro pins s σ H Q I h
  exact wpAny_BinOp (binT ha hb I h fun v u s2 x y H2 I2 rx ry q => ho pins s2 σ H2 x y v u Q I2 rx ry q)
theorem pe_un {op : UnaryOp} {r : V → Hp → VK → Prop} (ho : UnR X (unaryOp op) r) (ha : PE X a ta) : PE X (.UnaryOp op a pos) (tUn r ta) := by
  intro pins s σ H Q I h
  exact UnaryOp_ (thn (ha pins s σ H _ I h) fun v s1 ⟨x, H1, I1, r1, q1⟩ => ho pins s1 σ H1 x v Q I1 r1 q1)

/-! ### ints -/
theorem opI {f : Value → Value → Sem Value} {C : Int → Int → Prop} {g : Int → Int → Int}
    (rule : ∀ (i j : Int) (t u : Tok) (s : Shared) (Q : Value → Shared → Prop) (E : Value → Shared → Prop), C i j → Q (.int (g i j) s.toks) { s with toks := s.toks + 1 } → wpAny (model X.prog X.w) X.A (f (.int i t) (.int j u)) Q E s) :
    OpR X f (rI C fun i j => .int (g i j)) := by
  intro pins s σ H x y v u Q I rx ry h
  obtain ⟨i, j, rfl, rfl, hc, q⟩ := h
  obtain ⟨t, rfl⟩ := rx
  obtain ⟨t', rfl⟩ := ry
  exact rule i j t t' s _ _ hc ⟨.int (g i j), H, I.tok _, ⟨_, rfl⟩, q⟩
theorem opI0 {f : Value → Value → Sem Value} {g : Int → Int → Int}
    (rule : ∀ (i j : Int) (t u : Tok) (s : Shared) (Q : Value → Shared → Prop) (E : Value → Shared → Prop), Q (.int (g i j) s.toks) { s with toks := s.toks + 1 } → wpAny (model X.prog X.w) X.A (f (.int i t) (.int j u)) Q E s) :
    OpR X f (rI0 fun i j => .int (g i j)) := by
  intro pins s σ H x y v u Q I rx ry h
  obtain ⟨i, j, rfl, rfl, q⟩ := h
  obtain ⟨t, rfl⟩ := rx
  obtain ⟨t', rfl⟩ := ry
  exact rule i j t t' s _ _ ⟨.int (g i j), H, I.tok _, ⟨_, rfl⟩, q⟩
theorem opB0 {f : Value → Value → Sem Value} {g : Int → Int → Bool}
    (rule : ∀ (i j : Int) (t u : Tok) (s : Shared) (Q : Value → Shared → Prop) (E : Value → Shared → Prop), Q (.bool (g i j)) s → wpAny (model X.prog X.w) X.A (f (.int i t) (.int j u)) Q E s) :
    OpR X f (rI0 fun i j => .bl (g i j)) := by
  intro pins s σ H x y v u Q I rx ry h
  obtain ⟨i, j, rfl, rfl, q⟩ := h
  obtain ⟨t, rfl⟩ := rx
  obtain ⟨t', rfl⟩ := ry
  exact rule i j t t' s _ _ ⟨.bl (g i j), H, I, rfl, q⟩

def CPow (i j : Int) : Prop := 0 ≤ j ∧ j ≤ 1000000 ∧ i.natAbs < 2 ^ 64
def CMul (i j : Int) : Prop := (-(2 ^ 64) < i ∧ i < 2 ^ 64) ∨ (-(2 ^ 64) < j ∧ j < 2 ^ 64)
theorem CMul.ok {i j : Int} (h : CMul i j) : IntMulOk i j := by
  rcases h with ⟨h1, h2⟩ | ⟨h1, h2⟩
  · exact .of_left (intBits_le_64 h1 h2)
  · exact .of_right (intBits_le_64 h1 h2)

theorem op_add : OpR X (binaryOp .Add) (rI0 fun i j => .int (i + j)) := opI0 fun _ _ _ _ _ _ _ q => add_int q
theorem op_sub : OpR X (binaryOp .Sub) (rI0 fun i j => .int (i - j)) := opI0 fun _ _ _ _ _ _ _ q => sub_int q
/-- % by a positive divisor of any size -/
theorem op_mod : OpR X (binaryOp .Mod) (rI (fun _ j => 0 < j) fun i j => .int (i % j)) := opI fun i j _ _ _ _ _ hc q => by
  have h1 : (0 : Int) < j := hc
  exact mod_int' (by omega) (by rw [Int.fmod_eq_emod_of_nonneg i (by omega)]; exact q)
theorem op_pow : OpR X (binaryOp .Pow) (rI CPow fun i j => .int (i ^ j.toNat)) := opI fun _ _ _ _ _ _ _ hc q => pow_int_small hc.1 hc.2.1 hc.2.2 q
theorem op_shl : OpR X (binaryOp .LShift) (rI CPow fun i j => .int (i * 2 ^ j.toNat)) := opI fun _ _ _ _ _ _ _ hc q => lshift_int_small hc.1 hc.2.1 hc.2.2 q


theorem unI {f : Value → Sem Value} {g : Int → Int}
    (rule : ∀ (i : Int) (t : Tok) (s : Shared) (Q : Value → Shared → Prop) (E : Value → Shared → Prop), Q (.int (g i) s.toks) { s with toks := s.toks + 1 } → wpAny (model X.prog X.w) X.A (f (.int i t)) Q E s) :
    UnR X f (rU fun i => .int (g i)) := by
  intro pins s σ H x v Q I rx h
  obtain ⟨i, rfl, q⟩ := h
  obtain ⟨t, rfl⟩ := rx
  exact rule i t s _ _ ⟨.int (g i), H, I.tok _, ⟨_, rfl⟩, q⟩
theorem un_neg : UnR X (unaryOp .USub) (rU fun i => .int (-i)) := unI fun _ _ _ _ _ q => neg_int q

/-! ### bools among ints: n += (a < b) -/
end

/-! ### comparisons -/
/-- the scalars that == tells apart as data does -/
def scal : V → V → Bool
  | .non, .non => true | .non, .int _ => true | .int _, .non => true | .non, .bl _ => true | .bl _, .non => true | .non, .str _ => true | .str _, .non => true
  | .int _, .int _ => true | .bl _, .bl _ => true | .str _, .str _ => true | .byt _, .byt _ => true
  | .int _, .str _ => true | .str _, .int _ => true | .bl _, .str _ => true | .str _, .bl _ => true
  | _, _ => false
def rEq : R2 := fun x y H Q => scal x y = true ∧ Q (.bl (decide (x = y))) H
def rNe : R2 := fun x y H Q => scal x y = true ∧ Q (.bl (!decide (x = y))) H

theorem dec_int {i j : Int} : decide (V.int i = V.int j) = (i == j) := by
  rw [Bool.eq_iff_iff]
  simp
theorem dec_bl {i j : Bool} : decide (V.bl i = V.bl j) = (i == j) := by
  rw [Bool.eq_iff_iff]
  simp
theorem dec_str {i j : Str} : decide (V.str i = V.str j) = (i == j) := by
  rw [Bool.eq_iff_iff]
  simp
theorem dec_byt {i j : Array UInt8} : decide (V.byt i = V.byt j) = (i.toList == j.toList) := by
  rw [Bool.eq_iff_iff]
  cases i
  cases j
  simp

section
variable {X : Cx} {a b c : Expr} {ta tb tc : TE} {pos : Pos}
theorem fin_bl {pins : List (Addr × Obj)} {σ : St} {H : Hp} {s : Shared} {Q : VK} {k k' : Bool} (I : Inv X pins σ H s) (q : Q (.bl k) H) (e : k = k') : EP X pins σ Q (.bool k') s := by
  subst e
  exact ⟨.bl k, H, I, rfl, q⟩
theorem op_eq : OpR X (compareOp .Eq) rEq := by
  intro pins s σ H x y v u Q I rx ry h
  obtain ⟨hs, q⟩ := h
  cases x with
  | non =>
    cases rx
    cases y with
    | non => cases ry; exact PySem.EqNone.eq_none_none (fin_bl I q (by simp))
    | bl j => cases ry; exact PySem.EqNone.eq_none_bool (fin_bl I q (by simp))
    | int j => obtain ⟨t', rfl⟩ := ry; exact PySem.EqNone.eq_none_int (fin_bl I q (by simp))
    | str j => obtain ⟨t', rfl⟩ := ry; exact PySem.EqNone.eq_none_str (fin_bl I q (by simp))
    | _ => exact absurd (show false = true from hs) Bool.false_ne_true
  | bl i =>
    cases rx
    cases y with
    | non => cases ry; exact PySem.EqNone.eq_bool_none (fin_bl I q (by simp))
    | bl j => cases ry; exact eq_bool (fin_bl I q dec_bl)
    | str j => obtain ⟨t', rfl⟩ := ry; exact PySem.EqMixed.eq_bool_str (fin_bl I q (by simp))
    | _ => exact absurd (show false = true from hs) Bool.false_ne_true
  | int i =>
    obtain ⟨t, rfl⟩ := rx
    cases y with
    | non => cases ry; exact PySem.EqNone.eq_int_none (fin_bl I q (by simp))
    | int j => obtain ⟨t', rfl⟩ := ry; exact eq_int (fin_bl I q dec_int)
    | str j => obtain ⟨t', rfl⟩ := ry; exact PySem.EqMixed.eq_int_str (fin_bl I q (by simp))
    | _ => exact absurd (show false = true from hs) Bool.false_ne_true
  | str i =>
    obtain ⟨t, rfl⟩ := rx
    cases y with
    | non => cases ry; exact PySem.EqNone.eq_str_none (fin_bl I q (by simp))
    | bl j => cases ry; exact PySem.EqMixed.eq_str_bool (fin_bl I q (by simp))
    | int j => obtain ⟨t', rfl⟩ := ry; exact PySem.EqMixed.eq_str_int (fin_bl I q (by simp))
    | str j => obtain ⟨t', rfl⟩ := ry; exact eq_str (fin_bl I q dec_str)
    | _ => exact absurd (show false = true from hs) Bool.false_ne_true
  | byt i =>
    obtain ⟨t, rfl⟩ := rx
    cases y with
    | byt j => obtain ⟨t', rfl⟩ := ry; exact PySem.W.eq_bytes (fin_bl I q dec_byt)
    | _ => exact absurd (show false = true from hs) Bool.false_ne_true
  | _ => cases y <;> exact absurd (show false = true from hs) Bool.false_ne_true
theorem op_ne : OpR X (compareOp .NotEq) rNe := by
  intro pins s σ H x y v u Q I rx ry h
  obtain ⟨hs, q⟩ := h
  cases x with
  | non =>
    cases rx
    cases y with
    | non => cases ry; exact PySem.EqNone.ne_none_none (fin_bl I q (by simp))
    | bl j => cases ry; exact PySem.EqNone.ne_none_bool (fin_bl I q (by simp))
    | int j => obtain ⟨t', rfl⟩ := ry; exact PySem.EqNone.ne_none_int (fin_bl I q (by simp))
    | str j => obtain ⟨t', rfl⟩ := ry; exact PySem.EqNone.ne_none_str (fin_bl I q (by simp))
    | _ => exact absurd (show false = true from hs) Bool.false_ne_true
  | bl i =>
    cases rx
    cases y with
    | non => cases ry; exact PySem.EqNone.ne_bool_none (fin_bl I q (by simp))
    | bl j => cases ry; exact ne_bool (fin_bl I q (congrArg not dec_bl))
    | str j => obtain ⟨t', rfl⟩ := ry; exact PySem.EqMixed.ne_bool_str (fin_bl I q (by simp))
    | _ => exact absurd (show false = true from hs) Bool.false_ne_true
  | int i =>
    obtain ⟨t, rfl⟩ := rx
    cases y with
    | non => cases ry; exact PySem.EqNone.ne_int_none (fin_bl I q (by simp))
    | int j => obtain ⟨t', rfl⟩ := ry; exact ne_int (fin_bl I q (congrArg not dec_int))
    | str j => obtain ⟨t', rfl⟩ := ry; exact PySem.EqMixed.ne_int_str (fin_bl I q (by simp))
    | _ => exact absurd (show false = true from hs) Bool.false_ne_true
  | str i =>
    obtain ⟨t, rfl⟩ := rx
    cases y with
    | non => cases ry; exact PySem.EqNone.ne_str_none (fin_bl I q (by simp))
    | bl j => cases ry; exact PySem.EqMixed.ne_str_bool (fin_bl I q (by simp))
    | int j => obtain ⟨t', rfl⟩ := ry; exact PySem.EqMixed.ne_str_int (fin_bl I q (by simp))
    | str j => obtain ⟨t', rfl⟩ := ry; exact ne_str (fin_bl I q (congrArg not dec_str))
    | _ => exact absurd (show false = true from hs) Bool.false_ne_true
  | byt i =>
    obtain ⟨t, rfl⟩ := rx
    cases y with
    | byt j => obtain ⟨t', rfl⟩ := ry; exact PySem.W.ne_bytes (fin_bl I q (congrArg not dec_byt))
    | _ => exact absurd (show false = true from hs) Bool.false_ne_true
  | _ => cases y <;> exact absurd (show false = true from hs) Bool.false_ne_true

theorem op_lt : OpR X (compareOp .Lt) (rI0 fun i j => .bl (decide (i < j))) := opB0 fun _ _ _ _ _ _ _ q => lt_int q
theorem op_le : OpR X (compareOp .LtE) (rI0 fun i j => .bl (decide (i ≤ j))) := opB0 fun _ _ _ _ _ _ _ q => le_int q
theorem op_gt : OpR X (compareOp .Gt) (rI0 fun i j => .bl (decide (j < i))) := opB0 fun _ _ _ _ _ _ _ q => gt_int q
theorem op_ge : OpR X (compareOp .GtE) (rI0 fun i j => .bl (decide (j ≤ i))) := opB0 fun _ _ _ _ _ _ _ q => ge_int q

/-- is None, is not None: the right side a value none -/
theorem op_isN : OpR X (compareOp .Is) (fun x y H Q => y = .non ∧ Q (.bl (decide (x = .non))) H) := by
  intro pins s σ H x y v u Q I rx ry h
  obtain ⟨rfl, q⟩ := h
  cases ry
  refine is_none_gen (fin_bl I q ?_)
  cases x <;> first
    | (cases rx; rfl)
    | (obtain ⟨t, rfl⟩ := rx; rfl)



theorem nomark (b : Expr) {op : CmpOp} (h : op ≠ .In := by decide) (h2 : op ≠ .NotIn := by decide) : behindInMarks op b = false := by
  have e1 : (op == CmpOp.In) = false := by cases op <;> first | rfl | exact absurd rfl h
  have e2 : (op == CmpOp.NotIn) = false := by cases op <;> first | rfl | exact absurd rfl h2
  cases b <;> simp [behindInMarks, e1, e2]
/-- a comparison as a value; hm: nomark b, or (for in, not in) by with_unfolding_all rfl -/
theorem pe_cmpR {op : CmpOp} {r : R2} (ho : OpR X (compareOp op) r) (ha : PE X a ta) (hb : PE X b tb) (hm : behindInMarks op b = false) : PE X (.Compare a [op] [b] pos) (tOp r ta tb) := by
  intro pins s σ H Q I h
  exact wpAny_Compare1 (binT ha hb I h fun v u s2 x y H2 I2 rx ry q => ho pins s2 σ H2 x y v u Q I2 rx ry q) hm
/-- a reading of a value as a test -/
def tTest (t : TE) : TT := fun σ H Q => t σ H fun x H' => ∃ k, x = .bl k ∧ Q k H'
theorem pt_cmpR {op : CmpOp} {r : R2} (ho : OpR X (compareOp op) r) (ha : PE X a ta) (hb : PE X b tb) (hm : behindInMarks op b = false) : PT X (.Compare a [op] [b] pos) (tTest (tOp r ta tb)) := by
  intro pins s σ H Q I h
  refine wpAny_isTrue_Compare1 (thn (ha pins s σ H _ I h) fun v s1 ⟨x, H1, I1, r1, q1⟩ => thn (hb pins s1 σ H1 _ I1 q1) fun u s2 ⟨y, H2, I2, r2, q2⟩ =>
    thn (ho pins s2 σ H2 x y v u _ I2 r1 r2 q2) fun c s3 ⟨z, H3, I3, r3, k, e, q3⟩ => ?_) hm
  subst e
  cases r3
  exact wpAny_truthy_bool ⟨H3, I3, q3⟩
/-- a op1 b op2 c -/
def tChain (r r' : R2) (ta tb tc : TE) : TE := fun σ H Q => ta σ H fun x H1 => tb σ H1 fun y H2 => r x y H2 fun z H3 => ∃ k, z = .bl k ∧
  (if k = true then tc σ H3 fun w' H4 => r' y w' H4 Q else Q (.bl false) H3)
theorem pe_chain {op op' : CmpOp} {r r' : R2} (ho : OpR X (compareOp op) r) (ho' : OpR X (compareOp op') r') (ha : PE X a ta) (hb : PE X b tb) (hc : PE X c tc)
    (hm : lastMarks [op, op'] [b, c] = false := by with_unfolding_all rfl) : PE X (.Compare a [op, op'] [b, c] pos) (tChain r r' ta tb tc) := by
  intro pins s σ H Q I h
  refine Compare_chain (thn (ha pins s σ H _ I h) fun v s1 ⟨x, H1, I1, r1, q1⟩ => chain_link (thn (hb pins s1 σ H1 _ I1 q1) fun u s2 ⟨y, H2, I2, r2, q2⟩ =>
    thn (ho pins s2 σ H2 x y v u _ I2 r1 r2 q2) fun d s3 ⟨z, H3, I3, r3, k, e, q3⟩ => ?_)) hm
  subst e
  cases r3
  refine wpAny_truthy_bool ?_
  cases k with
  | false => exact ite_ff ⟨.bl false, H3, I3, rfl, q3⟩
  | true => exact ite_tt (chain_last (thn (hc pins s3 σ H3 _ I3 q3) fun w' s4 ⟨z', H4, I4, r4, q4⟩ => ho' pins s4 σ H4 y z' u w' Q I4 r2 r4 q4))
theorem pt_chain {op op' : CmpOp} {r r' : R2} (ho : OpR X (compareOp op) r) (ho' : OpR X (compareOp op') r') (ha : PE X a ta) (hb : PE X b tb) (hc : PE X c tc)
    (hm : lastMarks [op, op'] [b, c] = false := by with_unfolding_all rfl) : PT X (.Compare a [op, op'] [b, c] pos) (tTest (tChain r r' ta tb tc)) := by
  intro pins s σ H Q I h
  refine isTrue_chain (thn (ha pins s σ H _ I h) fun v s1 ⟨x, H1, I1, r1, q1⟩ => test_link (thn (hb pins s1 σ H1 _ I1 q1) fun u s2 ⟨y, H2, I2, r2, q2⟩ =>
    thn (ho pins s2 σ H2 x y v u _ I2 r1 r2 q2) fun d s3 ⟨z, H3, I3, r3, k, e, q3⟩ => ?_)) hm
  subst e
  cases r3
  refine wpAny_truthy_bool ?_
  cases k with
  | false =>
    obtain ⟨k', e', q'⟩ := q3
    cases e'
    exact ite_ff ⟨H3, I3, q'⟩
  | true =>
    refine ite_tt (test_last (thn (hc pins s3 σ H3 _ I3 q3) fun w' s4 ⟨z', H4, I4, r4, q4⟩ => thn (ho' pins s4 σ H4 y z' u w' _ I4 r2 r4 q4) fun d' s5 ⟨z2, H5, I5, r5, k2, e2, q5⟩ => ?_))
    subst e2
    cases r5
    exact wpAny_truthy_bool ⟨H5, I5, q5⟩

/-! ### truth -/
theorem line63 : (sizeLine : Nat) < 2 ^ 63 := by rw [sizeLine_eq]; decide

/-! ### strs and bytes -/
theorem op_add_str : OpR X (binaryOp .Add) (fun x y H Q => ∃ i j, x = .str i ∧ y = .str j ∧ i.length + j.length ≤ sizeLine ∧ Q (.str (i ++ j)) H) := by
  intro pins s σ H x y v u Q I rx ry h
  obtain ⟨i, j, rfl, rfl, hz, q⟩ := h
  obtain ⟨t, rfl⟩ := rx
  obtain ⟨t', rfl⟩ := ry
  exact add_str (fun t' tk => ⟨.str (i ++ j), H, I.tok _, ⟨_, rfl⟩, q⟩) hz


/-! ### scalar builtins, by CallR -/
theorem vals1 {x : V} {us : List Value} (r : Vals [x] us) : ∃ u, us = [u] ∧ RelV x u := by
  cases r with
  | cons r1 r2 => cases r2; exact ⟨_, rfl, r1⟩
theorem vals2 {x y : V} {us : List Value} (r : Vals [x, y] us) : ∃ u w', us = [u, w'] ∧ RelV x u ∧ RelV y w' := by
  cases r with
  | cons r1 r2 =>
    cases r2 with
    | cons r3 r4 => cases r4; exact ⟨_, _, rfl, r1, r3⟩
theorem call_int1 : CallR X (.type "int") (fun xs H Q => (∃ i, xs = [.int i] ∧ Q (.int i) H) ∨ ∃ k, xs = [.bl k] ∧ Q (.int (if k then 1 else 0)) H) := by
  intro pins s σ H xs us Q I r h
  rcases h with ⟨i, rfl, q⟩ | ⟨k, rfl, q⟩
  · obtain ⟨u, rfl, t, rfl⟩ := vals1 r
    exact call_int_int ⟨.int i, H, I, ⟨_, rfl⟩, q⟩
  · obtain ⟨u, rfl, r1⟩ := vals1 r
    cases r1
    exact call_int_bool ⟨.int (if k then 1 else 0), H, I.tok _, ⟨_, rfl⟩, q⟩
theorem call_str_int : CallR X (.type "str") (fun xs H Q => ∃ i, xs = [.int i] ∧ i.natAbs.log2 < 1920 ∧ Q (.str (toString i)) H) := by
  intro pins s σ H xs us Q I r h
  obtain ⟨i, rfl, hz, q⟩ := h
  obtain ⟨u, rfl, t, rfl⟩ := vals1 r
  exact PySem.P.str_of_int hz ⟨.str _, H, I.tok _, ⟨_, rfl⟩, q⟩
/-- len of a str, a bytes, a list, a tuple -/
def LenV (K : PySem.W.Frag) (x : V) (H : Hp) (n : Nat) : Prop :=
  match x with
  | .str y => y.length ≤ sizeLine ∧ n = y.length
  | .byt y => y.size ≤ sizeLine ∧ n = y.size
  | .ref p => (∃ xs, SqL K H p xs ∧ n = xs.length) ∨ ∃ xs, SqT K H p xs ∧ n = xs.length
  | _ => False
theorem call_len : CallR X (.builtin "len") (fun xs H Q => ∃ x n, xs = [x] ∧ LenV X.K x H n ∧ Q (.int n) H) := by
  intro pins s σ H xs us Q I r h
  obtain ⟨x, n, rfl, e, q⟩ := h
  obtain ⟨u, rfl, rx⟩ := vals1 r
  have hl := line63
  have hs : sizeLine = 16777216 := sizeLine_eq
  cases x with
  | str y =>
    obtain ⟨t, rfl⟩ := rx
    obtain ⟨hy, e'⟩ : y.length ≤ sizeLine ∧ n = y.length := e
    subst e'
    exact len_str (by omega) ⟨.int _, H, I.tok _, ⟨_, rfl⟩, q⟩
  | byt y =>
    obtain ⟨t, rfl⟩ := rx
    obtain ⟨hy, e'⟩ : y.size ≤ sizeLine ∧ n = y.size := e
    subst e'
    exact PySem.W.len_bytes (by omega) ⟨.int _, H, I.tok _, ⟨_, rfl⟩, q⟩
  | ref p =>
    cases rx
    have e' : (∃ xs, SqL X.K H p xs ∧ n = xs.length) ∨ ∃ xs, SqT X.K H p xs ∧ n = xs.length := e
    rcases e' with ⟨xs, hx, e'⟩ | ⟨xs, hx, e'⟩
    · subst e'
      obtain ⟨its, r', pl, hz⟩ := I.list hx
      have hlen := r'.length
      exact Calls.call_len_list pl.isList (by simp only [List.size_toArray]; omega) ⟨.int xs.length, H, I.tok _, ⟨_, by simp only [List.size_toArray]; rw [hlen]⟩, q⟩
    · subst e'
      obtain ⟨its, r', pl, hz⟩ := I.tuple hx
      have hlen := r'.length
      exact len_tuple pl (by simp only [List.size_toArray]; omega) ⟨.int xs.length, H, I.tok _, ⟨_, by simp only [List.size_toArray]; rw [hlen]⟩, q⟩
  | _ => exact (show False from e).elim
end
end L2

namespace L2
open PySem PySem.Spec PyProof.Rows

/-! ### an instance, its attributes a map -/
structure ObjM (h : Heap) (x dx C : Addr) (mA : Str → Option Value) : Prop where
  obj : h.get? x = some (PySem.W.instObj C dx)
  ns : h.Ns1 dx mA
  ne : dx ≠ x

theorem lookIn_ns {h : Heap} {dx : Addr} {mA : Str → Option Value} (n : h.Ns1 dx mA) : ∃ od, h.get? dx = some od ∧ ∀ name, PySem.W.lookIn name od = some (mA name) := by
  obtain ⟨o, es, ep, ho, hd, hk, _, hm⟩ := n
  refine ⟨o, ho, fun name => ?_⟩
  have e := hm name
  unfold nsFind findBy at e
  rw [← Array.find?_toList] at e
  unfold PySem.W.lookIn
  rw [hd]
  dsimp only
  split
  · rename_i y q
    rw [q] at e
    exact congrArg some e
  · rename_i q
    rw [q] at e
    have a : es.toList.any (·.refKey) = false := by
      rw [List.any_eq_false]
      intro y hy
      obtain ⟨z, t, hkey⟩ := hk y (Array.mem_toList_iff.mp hy)
      simp [DictEntry.refKey, hkey]
    have a' : ¬ es.toList.any (·.refKey) = true := by rw [a]; exact Bool.false_ne_true
    rw [if_neg a']
    exact congrArg some e

theorem ObjM.look {h : Heap} {x dx C : Addr} {mA : Str → Option Value} (I : ObjM h x dx C mA) : ∃ od, PySem.W.InstAt h x (PySem.W.instObj C dx) C (some od) ∧ ∀ name, PySem.W.lookIn name od = some (mA name) :=
  let ⟨od, ho, hl⟩ := lookIn_ns I.ns
  ⟨od, ⟨I.obj, rfl, rfl, ho⟩, hl⟩

section
variable {prog : Program} {w : World} {A : Around} {E : Value → Shared → Prop} {s : Shared} {K : PySem.W.Frag} {x dx C f : Addr} {mA : Str → Option Value} {name : Str} {v : Value}

theorem get_map {expr : Bool} {Q : Value → Shared → Prop} (X : K.In s.heap) (I : ObjM s.heap x dx C mA) (hg : PySem.W.plainGet K C name = true) (hh : PySem.W.hasDictIn K C = true)
    (ha : PySem.W.findIn K (.ref C) name = some none) (hv : mA name = some v) (hv' : PySem.W.handedIn v = true) (h : Q v { s with toks := s.toks + 1 }) :
    wpAny (model prog w) A (getAttr (.ref x) name expr) Q E s := by
  obtain ⟨od, J, hl⟩ := I.look
  exact PySem.W.get_value X J (PySem.W.plainGet_of hg).1 (PySem.W.findObj_own hh ha rfl (by rw [hl, hv])) hv' h


theorem get_meth {pl : Sem Bool} {Q : Value × List Value → Shared → Prop} (X : K.In s.heap) (I : ObjM s.heap x dx C mA) (hg : PySem.W.plainGet K C name = true)
    (hf : PySem.W.findIn K (.ref C) name = some (some (.ref f))) (ht : PySem.W.isFn K (.ref f) = true) (hv : mA name = none) (h : Q (.ref f, [.ref x]) s) :
    wpAny (model prog w) A (getMethod (.ref x) name pl) Q E s := by
  obtain ⟨od, J, hl⟩ := I.look
  exact PySem.W.method_fn X J (PySem.W.plainGet_of hg).1 (PySem.W.plainGet_of hg).2 hf (beq_iff_eq.mp ht) (by show (PySem.W.lookIn name od).map (·.isSome) = some false; rw [hl, hv]; rfl) h

theorem set_map {ns : List Str} {Q : Unit → Shared → Prop} (X : K.In s.heap) (I : ObjM s.heap x dx C mA)
    (hs : PySem.W.findIn K (.ref C) "__setattr__" = some (some (.builtin "object.__setattr__"))) (hp : PySem.W.plainOver K C = true) (ht : PySem.W.takerIn K C name = some none) (hh : PySem.W.hasDictIn K C = true)
    (hw : PySem.Within mA ns) (hsz : ns.length ≤ sizeLine)
    (h : ∀ h', ObjM h' x dx C (fun y => if y = name then some v else mA y) → Heap.SameBut dx s.heap h' → Q () { s with heap := h', toks := s.toks + 2 }) :
    wpAny (model prog w) A (setAttr (.ref x) name v) Q E s := by
  obtain ⟨od, J, hl⟩ := I.look
  refine PySem.W.set_plain X J hs (PySem.W.osa_open (s := { s with toks := s.toks + 1 }) (r := none) X J hp ht fun b => ?_)
  obtain ⟨cd, hc, hd'⟩ := PySem.W.any_some hh
  have hx : s.heap.get? x = some ⟨.ref C, some dx, .plain, #[]⟩ := I.obj
  refine wpAny_bind (wpAny_pure (wpAny_bind (wpAny_bind (wpAny_loadPart hx (wpAny_bind (PySem.W.Looks.here (s := { s with toks := s.toks + 1 }) (PySem.W.looks_clsIn X hc) ?_))))))
  rw [hd']
  refine wpAny_pure (a := some dx) (wpAny_bind (wpAny_pure (wpAny_bind ?_)))
  refine wpAny_nsSet1 (s := { s with toks := s.toks + 1 }) I.ns fun h' hn2 hs2 => ?_
  obtain ⟨oD, esD, epD, hoD, hdD, hcD⟩ := hn2.count (PySem.Within.cons name v hw)
  refine wpAny_bind (wpAny_lookBehind hoD (by rw [hdD]; exact pastItsLine_dict (Nat.le_trans hcD (by rw [List.length_cons]; omega))) ?_)
  exact wpAny_pure (h _ ⟨(hs2.2 _ (Ne.symm I.ne)).trans I.obj, hn2, I.ne⟩ hs2)

/-- C(..): the dict at the heap's end, the instance behind it; then its __init__ -/
theorem make_map {R : Result → Shared → Prop} {vs : List Value} {kw : List (Str × Value)} (X : K.In s.heap) (hm : PySem.W.makesIn K C = true)
    (hi : PySem.W.findIn K (.ref C) "__init__" = some (some (.ref f))) (hf : PySem.W.typeIn K (.ref f) = some (.type "function"))
    (h : codeAny (model prog w) (A.under (.builtin "type.__call__" ⟨.ref C :: vs, kw⟩)) (.call (.ref f) ⟨.ref (s.heap.objs.size + 1) :: vs, kw⟩) (PySem.W.InitBack (s.heap.objs.size + 1) R)
      { s with heap := (s.heap.push PySem.W.emptyDict).push (PySem.W.instObj C s.heap.objs.size) }) :
    codeAny (model prog w) A (.call (.ref C) ⟨vs, kw⟩) R s := by
  obtain ⟨hh, g, d, t, os⟩ := s
  exact PySem.W.make_core (PySem.W.makes_of X hm) (PySem.W.looks_findIn X hi) (fun self => PySem.W.bind_fn X self hf) (.inl rfl) h
end

/-! ### the attributes as a list of pairs -/
def putF (f : Str) (v : V) : List (Str × V) → List (Str × V)
  | [] => [(f, v)]
  | (g, x) :: r => if g = f then (g, v) :: r else (g, x) :: putF f v r
theorem lookup_putF (f g : Str) (v : V) : ∀ fs : List (Str × V), (putF f v fs).lookup g = if g = f then some v else fs.lookup g
  | [] => by
    show List.lookup g [(f, v)] = _
    by_cases h : g = f
    · have hb : (g == f) = true := beq_iff_eq.mpr h
      simp only [List.lookup, hb, if_pos h]
    · have hb : (g == f) = false := beq_eq_false_iff_ne.mpr h
      simp only [List.lookup, hb, if_neg h]
  | (k, x) :: r => by
    have ih := lookup_putF f g v r
    rw [show putF f v ((k, x) :: r) = (if k = f then (k, v) :: r else (k, x) :: putF f v r) from rfl]
    by_cases hk : k = f
    · rw [if_pos hk]
      by_cases h : g = k
      · have hb : (g == k) = true := beq_iff_eq.mpr h
        simp only [List.lookup, hb, if_pos (h.trans hk)]
      · have hb : (g == k) = false := beq_eq_false_iff_ne.mpr h
        simp only [List.lookup, hb, if_neg (fun e : g = f => h (e.trans hk.symm))]
    · rw [if_neg hk]
      by_cases h : g = k
      · have hb : (g == k) = true := beq_iff_eq.mpr h
        simp only [List.lookup, hb, if_neg (fun e : g = f => hk (h.symm.trans e))]
      · have hb : (g == k) = false := beq_eq_false_iff_ne.mpr h
        simp only [List.lookup, hb]
        exact ih
theorem keys_putF (f : Str) (v : V) : ∀ fs : List (Str × V), f ∈ (putF f v fs).map (·.1) ∧ ∀ g, g ∈ fs.map (·.1) → g ∈ (putF f v fs).map (·.1)
  | [] => ⟨by simp [putF], fun g h => by simp at h⟩
  | (k, x) :: r => by
    obtain ⟨i1, i2⟩ := keys_putF f v r
    rw [show putF f v ((k, x) :: r) = (if k = f then (k, v) :: r else (k, x) :: putF f v r) from rfl]
    by_cases hk : k = f
    · rw [if_pos hk]
      subst hk
      exact ⟨by simp, fun g h => by simpa using h⟩
    · rw [if_neg hk]
      refine ⟨?_, fun g h => ?_⟩
      · rw [List.map_cons]
        exact List.mem_cons_of_mem _ i1
      · rw [List.map_cons] at h ⊢
        rcases List.mem_cons.mp h with e | e
        · exact List.mem_cons.mpr (.inl e)
        · exact List.mem_cons_of_mem _ (i2 g e)
theorem length_putF (f : Str) (v : V) : ∀ fs : List (Str × V), (putF f v fs).length ≤ fs.length + 1
  | [] => by simp [putF]
  | (k, x) :: r => by
    have ih := length_putF f v r
    rw [show putF f v ((k, x) :: r) = (if k = f then (k, v) :: r else (k, x) :: putF f v r) from rfl]
    by_cases hk : k = f
    · rw [if_pos hk, List.length_cons, List.length_cons]; omega
    · rw [if_neg hk, List.length_cons, List.length_cons]; omega

theorem RelO.some_of {v : V} {o : Option Value} (r : RelO (some v) o) : ∃ u, o = some u ∧ RelV v u := by
  cases o with
  | none => exact (show False from r).elim
  | some u => exact ⟨u, rfl, r⟩
theorem RelO.none_of {o : Option Value} (r : RelO none o) : o = none := by
  cases o with
  | none => rfl
  | some u => exact (show False from r).elim
theorem handed_of {v : V} {u : Value} (r : RelV v u) : PySem.W.handedIn u = true := by
  cases v with
  | non => cases (show u = Value.none from r); rfl
  | bl b => cases (show u = Value.bool b from r); rfl
  | int i => obtain ⟨t, e⟩ := (show ∃ t, u = Value.int i t from r); cases e; rfl
  | str x => obtain ⟨t, e⟩ := (show ∃ t, u = Value.str x t from r); cases e; rfl
  | byt b => obtain ⟨t, e⟩ := (show ∃ t, u = Value.bytes b t from r); cases e; rfl
  | flt b => obtain ⟨t, e⟩ := (show ∃ t, u = Value.float b t from r); cases e; rfl
  | ref a => cases (show u = Value.ref a from r); rfl
  | ty n => cases (show u = Value.type n from r); rfl

section
variable {P : Program} {w : World} {H H' : Hp} {h h' : Heap} {a C dx : Addr} {fs fs' : List (Str × V)}
theorem ins_get (hok : HOk P w H h) (e : H a = some (.ins C dx fs)) : ∃ mA, ObjM h a dx C mA ∧ (∀ f, RelO (fs.lookup f) (mA f)) ∧ PySem.Within mA (fs.map (·.1)) ∧ fs.length ≤ 1000 ∧ H dx = some (.own a) := by
  obtain ⟨d, z, ne, ob, mA, n, r, q⟩ := (show ObjOk P w H h a (.ins C dx fs) from hok a _ e)
  exact ⟨mA, ⟨ob, n, ne⟩, r, q, z, d⟩
end

/-! ### what of the text a class must have -/
structure Cls (K : PySem.W.Frag) (C : Addr) : Prop where
  pg : PySem.W.plainGet K C Str.empty = true
  hd : PySem.W.hasDictIn K C = true
  po : PySem.W.plainOver K C = true
  sa : PySem.W.findIn K (.ref C) "__setattr__" = some (some (.builtin "object.__setattr__"))
theorem Cls.get {K : PySem.W.Frag} {C : Addr} (c : Cls K C) (f : Str) : PySem.W.plainGet K C f = true := c.pg
/-- no class of it has the name -/
def NoAttr (K : PySem.W.Frag) (C : Addr) (f : Str) : Prop := PySem.W.findIn K (.ref C) f = some none
theorem NoAttr.taker {K : PySem.W.Frag} {C : Addr} {f : Str} (n : NoAttr K C f) : PySem.W.takerIn K C f = some none := by
  unfold PySem.W.takerIn
  rw [show PySem.W.findIn K (.ref C) f = some none from n]
  rfl
/-- a method: a plain def of the class or of one above it -/
structure Meth (K : PySem.W.Frag) (C : Addr) (m : Str) (f : Addr) : Prop where
  at_ : PySem.W.findIn K (.ref C) m = some (some (.ref f))
  fn : PySem.W.isFn K (.ref f) = true
  kp : PySem.W.keepIn K (.ref f) = true

section
variable {X : Cx} {pins : List (Addr × Obj)} {σ : St} {H : Hp} {s : Shared} {a C dx : Addr} {fs : List (Str × V)} {f : Str} {v : V} {A : Around} {E : Value → Shared → Prop}

theorem getattr_ok {b : Bool} {Q : Value → Shared → Prop} (I : Inv X pins σ H s) (e : H a = some (.ins C dx fs)) (c : Cls X.K C) (n : NoAttr X.K C f) (l : fs.lookup f = some v)
    (h : ∀ u s', Inv X pins σ H s' → RelV v u → Q u s') : wpAny (model X.prog X.w) A (getAttr (.ref a) f b) Q E s := by
  obtain ⟨mA, O, r, _, _, _⟩ := ins_get I.hok e
  obtain ⟨u, hu, ru⟩ := RelO.some_of (v := v) (o := mA f) (by rw [← l]; exact r f)
  exact get_map I.kIn O (c.get f) c.hd n hu (handed_of ru) (h u _ (I.tok _) ru)


theorem getmeth_ok {m : Str} {g : Addr} {pl : Sem Bool} {Q : Value × List Value → Shared → Prop} (I : Inv X pins σ H s) (e : H a = some (.ins C dx fs)) (c : Cls X.K C) (k : Meth X.K C m g) (l : fs.lookup m = none)
    (h : Q (.ref g, [.ref a]) s) : wpAny (model X.prog X.w) A (getMethod (.ref a) m pl) Q E s := by
  obtain ⟨mA, O, r, _, _, _⟩ := ins_get I.hok e
  have hn : mA m = none := RelO.none_of (by rw [← l]; exact r m)
  exact get_meth I.kIn O (c.get m) k.at_ k.fn hn h

theorem setattr_ok {y : V} {u : Value} {Q : Unit → Shared → Prop} (I : Inv X pins σ H s) (e : H a = some (.ins C dx fs)) (c : Cls X.K C) (n : NoAttr X.K C f) (hl : fs.length < 1000) (ry : RelV y u)
    (h : ∀ s', Inv X pins σ (upd H a (.ins C dx (putF f y fs))) s' → Q () s') : wpAny (model X.prog X.w) A (setAttr (.ref a) f u) Q E s := by
  obtain ⟨mA, O, r, wi, _, ho⟩ := ins_get I.hok e
  have hz : (fs.map (·.1)).length ≤ sizeLine := by rw [List.length_map, sizeLine_eq]; omega
  refine set_map I.kIn O c.sa c.po n.taker c.hd wi hz fun h' O' sb => h _ ?_
  have hd : ∃ o, h'.get? dx = some o := let ⟨o, _, _, e', _⟩ := O'.ns; ⟨o, e'⟩
  refine I.write (x := a) (e := dx) (by rw [e]; exact True.intro) (.inr ho) (fun b q hb z => (sb.2 b hb).trans z) hd ?_
  refine ⟨by rw [upd_ne O.ne]; exact ho, ?_, O.ne, O'.obj, _, O'.ns, fun g => ?_, fun g hg => ?_⟩
  · have := length_putF f y fs; omega
  · show RelO ((putF f y fs).lookup g) (if g = f then some u else mA g)
    rw [lookup_putF]
    by_cases q : g = f
    · rw [if_pos q, if_pos q]; exact ry
    · rw [if_neg q, if_neg q]; exact r g
  · by_cases q : g = f
    · rw [q]; exact (keys_putF f y fs).1
    · refine (keys_putF f y fs).2 g (wi g fun z => hg ?_)
      show (if g = f then some u else mA g) = none
      rw [if_neg q]; exact z

/-- a new instance, tracked, without attributes -/
theorem Inv.made (I : Inv X pins σ H s) : Inv X pins σ (upd (upd H s.heap.objs.size (.own (s.heap.objs.size + 1))) (s.heap.objs.size + 1) (.ins C s.heap.objs.size []))
    { s with heap := (s.heap.push PySem.W.emptyDict).push (PySem.W.instObj C s.heap.objs.size) } := by
  have e1 : (s.heap.push PySem.W.emptyDict).get? s.heap.objs.size = some PySem.W.emptyDict := Heap.get?_push_size s.heap rfl
  have e2 : ((s.heap.push PySem.W.emptyDict).push (PySem.W.instObj C s.heap.objs.size)).get? (s.heap.objs.size + 1) = some (PySem.W.instObj C s.heap.objs.size) := by
    have := Heap.get?_push_size (s.heap.push PySem.W.emptyDict) (o := PySem.W.instObj C s.heap.objs.size) rfl
    rwa [Heap.size_push] at this
  have e3 : (s.heap.push PySem.W.emptyDict).Ns s.heap.objs.size (fun _ => none) := ⟨PySem.W.emptyDict, #[], _, e1, rfl, (fun e he => absurd he (by simp)), fun _ => rfl⟩
  have I1 := I.laid (a := s.heap.objs.size) (o := .own (s.heap.objs.size + 1)) (h' := s.heap.push PySem.W.emptyDict) (t' := s.toks) (fun b u q => Heap.get?_push_of_some _ q) (Nat.le_refl _) ⟨_, e1⟩
  refine I1.laid (a := s.heap.objs.size + 1) (o := .ins C s.heap.objs.size []) (t' := s.toks) (fun b u q => Heap.get?_push_of_some _ q) (Nat.le_of_eq (Heap.size_push _ _)) ?_
  have ne : s.heap.objs.size ≠ s.heap.objs.size + 1 := Nat.ne_of_lt (Nat.lt_succ_self _)
  refine ⟨by rw [upd_ne ne, upd_same], Nat.zero_le _, ne, e2, fun _ => none, (Heap.Ns1.of_empty e3).at fun o q => Heap.get?_push_of_some _ q, fun _ => True.intro, fun y hy => absurd rfl hy⟩

/-- e.f where nothing but the object is asked: through attributeBase (super) and the last hold -/
theorem attr_of {prog : Program} {w : World} {env : Env} {e : Expr} {f : Str} {pos : Pos} {s : Shared} {Q : Value → Shared → Prop} (hb : attributeBase e f env (eval e env) = eval e env)
    (h : wpAny (model prog w) A (eval e env) (fun o s₁ => wpAny (model prog w) A (getAttr o f true) Q E s₁) E s) : wpAny (model prog w) A (eval (.Attribute e f pos) env) Q E s :=
  Attribute_any_ h (by rw [arm_eval_Attribute, hb])
end

/-! ### readings and rules -/
/-- e.f, an attribute of the instance -/
def tFld (K : PySem.W.Frag) (ta : TE) (f : Str) : TE := fun σ H Q => ta σ H fun x H1 => ∃ a C dx fs v, x = .ref a ∧ H1 a = some (.ins C dx fs) ∧ Cls K C ∧ NoAttr K C f ∧ fs.lookup f = some v ∧ Q v H1
/-- e.f = value -/
def sFld (K : PySem.W.Frag) (ta tv : TE) (f : Str) : TS := fun D σ H => tv σ H fun y H1 => ta σ H1 fun x H2 => ∃ a C dx fs, x = .ref a ∧ H2 a = some (.ins C dx fs) ∧ Cls K C ∧ NoAttr K C f ∧ fs.length < 1000 ∧
  D.nx σ (upd H2 a (.ins C dx (putF f y fs)))

section
variable {X : Cx} {o e value : Expr} {f : Str} {pos pos' tpos : Pos} {ta tv : TE}
theorem pe_fld (he : PE X e ta) (hb : attributeBase e f X.env (eval e X.env) = eval e X.env) : PE X (.Attribute e f pos) (tFld X.K ta f) := by
  intro pins s σ H Q I h
  refine attr_of hb (thn (he pins s σ H _ I h) fun u s1 ⟨x, H1, I1, rx, a, C, dx, fs, v, ex, ea, c, n, l, q⟩ => ?_)
  subst ex
  obtain rfl : u = Value.ref a := rx
  exact getattr_ok I1 ea c n l fun u' s2 I2 ru => ⟨v, H1, I2, ru, q⟩
theorem ps_fld (ha : PE X o ta) (hv : PE X value tv) (hs : swapsWith value (some (.Attribute o f pos')) pos.line X.env = pure false) : PS X (.Assign [.Attribute o f pos'] value pos) (sFld X.K ta tv f) := by
  intro pins s σ H D I h
  refine plainObj_wpAny_Assign_Attribute (thn (hv pins s σ H _ I h) fun u s1 ⟨y, H1, I1, ry, q⟩ => thn (ha pins s1 σ H1 _ I1 q) fun ov s2 ⟨x, H2, I2, rx, a, C, dx, fs, ex, ea, c, n, l, q2⟩ => ?_) hs
  subst ex
  obtain rfl : ov = Value.ref a := rx
  exact setattr_ok I2 ea c n l ry fun s3 I3 => ⟨σ, _, I3, q2⟩

end

/-! ### isinstance -/
section
variable {X : Cx} {pins : List (Addr × Obj)} {σ : St} {H : Hp} {s : Shared} {A : Around} {E : Value → Shared → Prop} {Q : Value → Shared → Prop} {c : Value} {b : Bool}
end
end L2

namespace L2
open PySem PySem.Spec PyProof.Rows

/-! ### room -/
structure Room (k : Nat) (A : Around) : Prop where
  hd : A.handled = none
  dp : A.depth + 3 * k + 5 < recursionLimit
  un : A.units + 16 * k + 200 < cLine
theorem Room.mono {j k : Nat} {A : Around} (r : Room k A) (h : j ≤ k) : Room j A := ⟨r.hd, by have := r.dp; omega, by have := r.un; omega⟩
theorem Room.deeper {k : Nat} {A : Around} (r : Room (k + 1) A) (env : Env) : Room k (A.deeper env) :=
  ⟨r.hd, by have := r.dp; show A.depth + 1 + 3 * k + 5 < _; omega, by have := r.un; show A.units + 3 + 16 * k + 200 < _; omega⟩
theorem make_depth {A : Around} {C : Addr} {us : List Value} {kw : List (Str × Value)} : (A.under (.builtin "type.__call__" ⟨.ref C :: us, kw⟩)).depth = A.depth + 1 := by
  first | rfl | simp [Around.under, Code.weight, Code.isCreation, Code.isGuard, Code.isCaller, Code.frames, Code.isFrame, guardIds]
theorem make_units {A : Around} {C : Addr} {us : List Value} {kw : List (Str × Value)} : (A.under (.builtin "type.__call__" ⟨.ref C :: us, kw⟩)).units = A.units + 1 := by
  first | rfl | simp [Around.under, Code.cUnits, Code.frames, Code.isFrame]
theorem Room.make {k : Nat} {A : Around} (r : Room (k + 1) A) (C : Addr) (us : List Value) (kw : List (Str × Value)) : Room k (A.under (.builtin "type.__call__" ⟨.ref C :: us, kw⟩)) :=
  ⟨r.hd, by have := r.dp; rw [make_depth]; omega, by have := r.un; rw [make_units]; omega⟩
theorem Room.depth {k : Nat} {A : Around} (r : Room k A) : A.depth < recursionLimit := by have := r.dp; omega

/-! ### argument lists and displays -/
def tNil : TA := fun _ H Q => Q [] H
def tCons (ta : TE) (tr : TA) : TA := fun σ H Q => ta σ H fun x H1 => tr σ H1 fun xs H2 => Q (x :: xs) H2
section
variable {X : Cx} {e : Expr} {es : List Expr} {te : TE} {t : TA} {pos : Pos}
theorem pa_nil : PA X [] tNil := fun _ _ _ _ H Q I h => Calls.spliced_nil ⟨[], H, I, .nil, h⟩
theorem pa_cons (ha : PE X e te) (hr : PA X es t) (hs : starEach (e :: es) X.env = (false, eval e X.env) :: starEach es X.env := by rfl) : PA X (e :: es) (tCons te t) := by
  intro pos pins s σ H Q I h
  rw [hs]
  show wpAny _ _ (spliced ((false, eval e X.env) :: backTo pos (starEach es X.env))) _ _ s
  refine Calls.spliced_cons (thn (ha pins s σ H _ I h) fun u s1 ⟨x, H1, I1, r1, q1⟩ => ?_)
  exact thn (hr pos pins s1 σ H1 _ I1 q1) fun us s2 ⟨xs, H2, I2, r2, q2⟩ => ⟨x :: xs, H2, I2, .cons r1 r2, q2⟩

/-- a tuple, a list of written items -/
def tTup (t : TA) : TE := fun σ H Q => t σ H fun xs H1 => xs.length ≤ sizeLine ∧ ∀ p, H1 p = none → Q (.ref p) (upd H1 p (.tup xs))
def tLst (t : TA) : TE := fun σ H Q => t σ H fun xs H1 => xs.length ≤ sizeLine ∧ ∀ p, H1 p = none → Q (.ref p) (upd H1 p (.lst xs))
theorem pe_tup {x1} (h : PA X es t) : PE X (.Tuple es x1 pos) (tTup t) := by
  intro pins s σ H Q I hq
  refine wpAny_Tuple_spliced (thn (h pos pins s σ H _ I hq) fun us s1 ⟨xs, H1, I1, r, z, q⟩ => ⟨by rw [← r.length]; exact z, ?_⟩)
  have hf : H1 s1.heap.objs.size = none := I1.hok.fresh (Nat.le_refl _)
  refine ⟨.ref s1.heap.objs.size, upd H1 s1.heap.objs.size (.tup xs), I1.laid (t' := s1.toks) (fun b u e => Heap.get?_push_of_some _ e) (Nat.le_refl _) ?_, rfl, q _ hf⟩
  exact ⟨z, us, r, ⟨_, Heap.get?_push_size _ rfl, rfl, _, rfl⟩⟩
theorem pe_lst (h : PA X es t) : PE X (.List es pos) (tLst t) := by
  intro pins s σ H Q I hq
  refine wpAny_List_spliced (thn (h pos pins s σ H _ I hq) fun us s1 ⟨xs, H1, I1, r, z, q⟩ => ⟨by rw [← r.length]; exact z, ?_⟩)
  have hf : H1 s1.heap.objs.size = none := I1.hok.fresh (Nat.le_refl _)
  refine ⟨.ref s1.heap.objs.size, upd H1 s1.heap.objs.size (.lst xs), I1.laid (t' := s1.toks) (fun b u e => Heap.get?_push_of_some _ e) (Nat.le_refl _) ?_, rfl, q _ hf⟩
  exact ⟨z, us, 0, r, Heap.get?_push_size _ rfl⟩
end

/-! ### what a def promises -/
/-- a def's promise: the bound arguments in the parameters' order, the heap, the wanted end, the wanted exception -/
abbrev Sp := List V → Hp → VK → XK → Prop
/-- how an exception lies behind a call (file 08 gives it): the callers' frames, abstract heap and state ahead of the call, the wish, the exception, the state -/
abbrev CXT := List Env → Hp → Shared → XK → Value → Shared → Prop

/-- the state at a call -/
structure Env0 (P : Program) (w : World) (K : PySem.W.Frag) (mg : Str → Option Value) (base : Heap) (A : Around) (outer : List Env) (s : Shared) (H : Hp) : Prop where
  frames : A.frames = some outer
  mod : Mod K mg base
  bs : ∀ b o, base.get? b = some o → s.heap.get? b = some o ∧ H b = none
  bsz : base.objs.size ≤ s.heap.objs.size
  funs : s.heap.FunFrames base outer
  frf : ∀ b ∈ frs outer, H b = none
  hok : HOk P w H s.heap
  bare : AllBare s.gens
/-- a call's end -/
def CE (outer : List Env) (P : Program) (w : World) (H : Hp) (s : Shared) (Q : VK) (u : Value) (s' : Shared) : Prop :=
  ∃ v H', s'.os = s.os ∧ AllBare s'.gens ∧ Un (frs outer) [] H H' s.heap s'.heap ∧ HOk P w H' s'.heap ∧ RelV v u ∧ Q v H'
def CR (CX : CXT) (outer : List Env) (P : Program) (w : World) (H : Hp) (s : Shared) (Q : VK) (E : XK) (r : Result) (s' : Shared) : Prop :=
  match r with
  | .ok (.ret u) => CE outer P w H s Q u s'
  | .ok _ => False
  | .error e => CX outer H s E e s'
structure FnOk (P : Program) (w : World) (K : PySem.W.Frag) (mg : Str → Option Value) (base : Heap) (CX : CXT) (k : Nat) (f : Addr) (fd : FuncData) (ps : List Str) (sp : Sp) : Prop where
  len : ∀ vs H Q E, sp vs H Q E → vs.length = ps.length
  run : ∀ (A : Around) (outer : List Env) (s : Shared) (H : Hp) (args : Args) (us : List Value) (vs : List V) (Q : VK) (E : XK), Room k A → Env0 P w K mg base A outer s H → BindsTo s fd args (ps.zip us) → Vals vs us → sp vs H Q E →
    codeAny (model P w) A (.call (.ref f) args) (CR CX outer P w H s Q E) s

theorem Env0.make {P : Program} {w : World} {K : PySem.W.Frag} {mg : Str → Option Value} {base : Heap} {A : Around} {outer : List Env} {s : Shared} {H : Hp} (e : Env0 P w K mg base A outer s H) (C : Addr) (us : List Value) (kw : List (Str × Value)) :
    Env0 P w K mg base (A.under (.builtin "type.__call__" ⟨.ref C :: us, kw⟩)) outer s H := ⟨by first | exact e.frames | (simpa [Around.under, Code.envs, Code.isFrame, pushEnvs] using e.frames), e.mod, e.bs, e.bsz, e.funs, e.frf, e.hok, e.bare⟩

section
variable {X : Cx} {pins : List (Addr × Obj)} {σ : St} {H : Hp} {s s' : Shared}
/-- from a body: what a callee wants -/
theorem Inv.env0 (I : Inv X pins σ H s) : Env0 X.prog X.w X.K X.mg X.base X.A X.stack s H :=
  ⟨I.ok.frames, I.ok.mod, I.bs, Nat.le_trans I.ok.bsz I.sz, I.stack, I.stkFree, I.hok, I.bare⟩
/-- behind a call -/
theorem Inv.after {Q : VK} {u : Value} (I : Inv X pins σ H s) (h : CE X.stack X.prog X.w H s Q u s') : EP X pins σ Q u s' := by
  obtain ⟨v, H', os, bare, un, hok, r, q⟩ := h
  obtain ⟨hh, g, d, t, os'⟩ := s'
  obtain rfl : os' = s.os := os
  exact ⟨v, H', I.call (h' := hh) (g' := g) (d' := d) (t' := t) (ch := []) un hok bare (fun b z => absurd z (by simp)), r, q⟩
end

/-! ### calls -/
/-- f(..): the written arguments, then the defaults dvs; E: what is wanted of an exception -/
def tCall (sp : Sp) (dvs : List V) (E : XK) (t : TA) : TE := fun σ H Q => t σ H fun vs H1 => sp (vs ++ dvs) H1 Q E
/-- o.m(..) of an instance of the class at C -/
def tMeth (C : Addr) (m : Str) (sp : Sp) (dvs : List V) (E : XK) (ta : TE) (t : TA) : TE := fun σ H Q => ta σ H fun x H1 => ∃ a dx fs, x = .ref a ∧ H1 a = some (.ins C dx fs) ∧ fs.lookup m = none ∧
  t σ H1 fun vs H2 => sp (x :: (vs ++ dvs)) H2 Q E
/-- C(..): a new instance and its dict, then __init__ -/
def tMake (C : Addr) (sp : Sp) (dvs : List V) (E : XK) (t : TA) : TE := fun σ H Q => t σ H fun vs H1 => ∀ x dx, H1 x = none → H1 dx = none → dx ≠ x →
  sp (.ref x :: (vs ++ dvs)) (upd (upd H1 dx (.own x)) x (.ins C dx [])) (fun v H2 => v = .non ∧ Q (.ref x) H2) E

/-- how the parameters are bound: us the positional arguments, kw the keywords' values by name, ds the defaults that fill up -/
def Binds (K : PySem.W.Frag) (fd : FuncData) (ps : List Str) (ds : List Value) : Prop :=
  ∀ (s : Shared) (us : List Value), K.In s.heap → (us ++ ds).length = ps.length → BindsTo s fd ⟨us, []⟩ (ps.zip (us ++ ds))
/-- every parameter is given -/
theorem Binds.all {K : PySem.W.Frag} {fd : FuncData} {ps : List Str} (h : ∀ us : List Value, us.length = ps.length → bindArgs fd ⟨us, []⟩ = pure (ps.zip us)) : Binds K fd ps [] := fun s us _ hl => by
  rw [List.append_nil] at hl ⊢
  exact .of_eq (h us hl)

/-- an exception of a callee reaches what this body wants of exceptions -/
def Passes (CX : CXT) (X : Cx) (E : XK) : Prop := ∀ (pins : List (Addr × Obj)) (σ : St) (H : Hp) (s : Shared) (e : Value) (s' : Shared), Inv X pins σ H s → CX X.stack H s E e s' → X.xe e s'

section
variable {X : Cx} {CX : CXT} {k : Nat} {f C : Addr} {fd : FuncData} {ps : List Str} {sp : Sp} {dvs : List V} {ds : List Value} {E : XK} {x m : Str} {p pos apos : Pos} {e o : Expr} {es : List Expr} {ta : TE} {t : TA}

/-- the callee runs -/
theorem run_fn {pins : List (Addr × Obj)} {σ : St} {H : Hp} {s : Shared} {Q : VK} {us : List Value} {vs : List V} (F : FnOk X.prog X.w X.K X.mg X.base CX k f fd ps sp) (hr : Room k X.A) (hb : Binds X.K fd ps ds) (hd : Vals dvs ds) (hx : Passes CX X E)
    (I : Inv X pins σ H s) (r : Vals vs us) (h : sp (vs ++ dvs) H Q E) : wpAny (model X.prog X.w) X.A (call (.ref f) us) (EP X pins σ Q) X.xe s := by
  have r2 : Vals (vs ++ dvs) (us ++ ds) := r.append hd
  have hl : (us ++ ds).length = ps.length := by rw [← r2.length]; exact F.len _ _ _ _ h
  refine wpAny_call (codeAny_mono (F.run X.A X.stack s H ⟨us, []⟩ (us ++ ds) (vs ++ dvs) Q E hr I.env0 (hb s us I.kIn hl) r2 h) fun r s' hq => ?_)
  cases r with
  | error e => exact hx pins σ H s e s' I hq
  | ok fl =>
    cases fl with
    | ret u => exact I.after hq
    | next => exact False.elim hq
    | brk => exact False.elim hq
    | cont => exact False.elim hq

theorem pe_call (F : FnOk X.prog X.w X.K X.mg X.base CX k f fd ps sp) (hr : Room k X.A) (hg : Gl X x) (hm : X.mg x = some (.ref f)) (hk : PySem.W.keepIn X.K (.ref f) = true) (hb : Binds X.K fd ps ds) (hd : Vals dvs ds) (hx : Passes CX X E)
    (ha : PA X (e :: es) t) (hdb : (x == ("__debug__" : Str)) = false := by decide) (he : starEach (e :: es) X.env = (false, eval e X.env) :: starEach es X.env := by rfl) (hpl : (backTo pos (starEach es X.env)).any (·.1) = false := by rfl) :
    PE X (.Call (.Name x p) (e :: es) [] pos) (tCall sp dvs E t) := by
  intro pins s σ H Q I h
  refine wpAny_Call_Name_kw (ld_glob I hg hm ?_ hdb)
  refine PySem.W.callWith_K (h₀ := X.base) I.ok.mod.kin hk (thn (ha pos pins s σ H _ I h) fun us s1 ⟨vs, H1, I1, r, q⟩ => ⟨I1.kIn, ?_⟩) he hpl
  exact run_fn F hr hb hd hx I1 r q
theorem pe_call0 (F : FnOk X.prog X.w X.K X.mg X.base CX k f fd ps sp) (hr : Room k X.A) (hg : Gl X x) (hm : X.mg x = some (.ref f)) (hk : PySem.W.keepIn X.K (.ref f) = true) (hb : Binds X.K fd ps ds) (hd : Vals dvs ds) (hx : Passes CX X E)
    (hdb : (x == ("__debug__" : Str)) = false := by decide) : PE X (.Call (.Name x p) [] [] pos) (tCall sp dvs E tNil) := by
  intro pins s σ H Q I h
  refine wpAny_Call_Name_kw (ld_glob I hg hm ?_ hdb)
  exact PySem.W.callWith_K0 I.kIn hk (run_fn (us := []) F hr hb hd hx I .nil h)

/-- o.m(e, ..) -/
theorem pe_meth {pl : Sem Bool} (he : PE X o ta) (c : Cls X.K C) (hm : Meth X.K C m f) (F : FnOk X.prog X.w X.K X.mg X.base CX k f fd ps sp) (hr : Room k X.A) (hb : Binds X.K fd ps ds) (hd : Vals dvs ds) (hx : Passes CX X E) (ha : PA X (e :: es) t)
    (hst : starEach (e :: es) X.env = (false, eval e X.env) :: starEach es X.env := by rfl) (hpl : (backTo pos (starEach es X.env)).any (·.1) = false := by rfl)
    (ht : eval (.Call (.Attribute o m apos) (e :: es) [] pos) X.env = (do
      let ov ← eval o X.env
      standAt apos.atName
      let (f, first) ← holding [ov] (getMethod ov m pl)
      callWith pos f first (backTo pos (starEach (e :: es) X.env)) (backToKw pos (keywordEach [] X.env))) := by rfl) :
    PE X (.Call (.Attribute o m apos) (e :: es) [] pos) (tMeth C m sp dvs E ta t) := by
  intro pins s σ H Q I h
  refine PySem.W.methodCall_KW (pl := pl) (thn (he pins s σ H _ I h) fun u s1 ⟨x, H1, I1, rx, a, dx, fs, ex, ea, l, q⟩ => ?_) ht
  subst ex
  obtain rfl : u = Value.ref a := rx
  refine getmeth_ok I1 ea c hm l ?_
  refine PySem.W.callWith_K (first := [.ref a]) (h₀ := X.base) I.ok.mod.kin hm.kp (thn (ha pos pins s1 σ H1 _ I1 q) fun us s2 ⟨vs, H2, I2, r, q2⟩ => ⟨I2.kIn, ?_⟩) hst hpl
  exact run_fn (us := .ref a :: us) (vs := .ref a :: vs) F hr hb hd hx I2 (.cons rfl r) q2
/-- o.m() -/
theorem pe_meth0 {pl : Sem Bool} (he : PE X o ta) (c : Cls X.K C) (hm : Meth X.K C m f) (F : FnOk X.prog X.w X.K X.mg X.base CX k f fd ps sp) (hr : Room k X.A) (hb : Binds X.K fd ps ds) (hd : Vals dvs ds) (hx : Passes CX X E)
    (ht : eval (.Call (.Attribute o m apos) [] [] pos) X.env = (do
      let ov ← eval o X.env
      standAt apos.atName
      let (f, first) ← holding [ov] (getMethod ov m pl)
      callWith pos f first (backTo pos (starEach [] X.env)) (backToKw pos (keywordEach [] X.env))) := by rfl) :
    PE X (.Call (.Attribute o m apos) [] [] pos) (tMeth C m sp dvs E ta tNil) := by
  intro pins s σ H Q I h
  refine PySem.W.methodCall_KW (pl := pl) (thn (he pins s σ H _ I h) fun u s1 ⟨x, H1, I1, rx, a, dx, fs, ex, ea, l, q⟩ => ?_) ht
  subst ex
  obtain rfl : u = Value.ref a := rx
  refine getmeth_ok I1 ea c hm l ?_
  exact PySem.W.callWith_K0 (first := [.ref a]) I1.kIn hm.kp (run_fn (us := [.ref a]) (vs := [.ref a]) F hr hb hd hx I1 (.cons rfl .nil) q)

/-- what a class must have to be made -/
structure Mk (K : PySem.W.Frag) (C f : Addr) : Prop where
  makes : PySem.W.makesIn K C = true
  init : PySem.W.findIn K (.ref C) "__init__" = some (some (.ref f))
  fn : PySem.W.isFn K (.ref f) = true
  kp : PySem.W.keepIn K (.ref C) = true

theorem run_make {pins : List (Addr × Obj)} {σ : St} {H : Hp} {s : Shared} {Q : VK} {us : List Value} {vs : List V} (M : Mk X.K C f) (F : FnOk X.prog X.w X.K X.mg X.base CX k f fd ps sp) (hr : Room (k + 1) X.A) (hb : Binds X.K fd ps ds) (hd : Vals dvs ds)
    (hx : Passes CX X E) (I : Inv X pins σ H s) (r : Vals vs us)
    (h : ∀ x dx, H x = none → H dx = none → dx ≠ x → sp (.ref x :: (vs ++ dvs)) (upd (upd H dx (.own x)) x (.ins C dx [])) (fun v H2 => v = .non ∧ Q (.ref x) H2) E) :
    wpAny (model X.prog X.w) X.A (call (.ref C) us) (EP X pins σ Q) X.xe s := by
  have hq := h (s.heap.objs.size + 1) s.heap.objs.size (I.hok.fresh (Nat.le_succ _)) (I.hok.fresh (Nat.le_refl _)) (Nat.ne_of_lt (Nat.lt_succ_self _))
  have I2 := Inv.made (C := C) I
  have r2 : Vals (V.ref (s.heap.objs.size + 1) :: (vs ++ dvs)) (Value.ref (s.heap.objs.size + 1) :: (us ++ ds)) := .cons rfl (r.append hd)
  have hl : (Value.ref (s.heap.objs.size + 1) :: us ++ ds).length = ps.length := by
    have e := r2.length
    rw [F.len _ _ _ _ hq] at e
    exact e.symm
  refine wpAny_call (make_map (f := f) I.kIn M.makes M.init (beq_iff_eq.mp M.fn) (codeAny_mono (F.run _ X.stack _ _ ⟨Value.ref (s.heap.objs.size + 1) :: us, []⟩ (Value.ref (s.heap.objs.size + 1) :: (us ++ ds)) _ _ E (hr.make C us [])
    (I2.env0.make C us []) (hb _ (Value.ref (s.heap.objs.size + 1) :: us) I2.kIn hl) r2 hq) fun r s' hq' => ?_))
  cases r with
  | error e => exact hx pins σ _ _ e s' I2 hq'
  | ok fl =>
    cases fl with
    | ret u =>
      obtain ⟨v, H', I3, rv, ev, q3⟩ := I2.after hq'
      subst ev
      exact ⟨rv, ⟨V.ref (s.heap.objs.size + 1), H', I3, rfl, q3⟩⟩
    | next => exact False.elim hq'
    | brk => exact False.elim hq'
    | cont => exact False.elim hq'
theorem pe_make0 (M : Mk X.K C f) (F : FnOk X.prog X.w X.K X.mg X.base CX k f fd ps sp) (hr : Room (k + 1) X.A) (hg : Gl X x) (hm : X.mg x = some (.ref C)) (hb : Binds X.K fd ps ds) (hd : Vals dvs ds) (hx : Passes CX X E)
    (hdb : (x == ("__debug__" : Str)) = false := by decide) : PE X (.Call (.Name x p) [] [] pos) (tMake C sp dvs E tNil) := by
  intro pins s σ H Q I h
  refine wpAny_Call_Name_kw (ld_glob I hg hm ?_ hdb)
  exact PySem.W.callWith_K0 I.kIn M.kp (run_make (us := []) M F hr hb hd hx I .nil h)
end

/-! ### keywords -/
section
variable {X : Cx} {CX : CXT} {k : Nat} {f C : Addr} {fd : FuncData} {ps ks : List Str} {sp : Sp} {E : XK} {x m : Str} {p pos apos kpos : Pos} {e o : Expr} {es : List Expr} {kws : List Keyword} {te ta : TE} {t tk : TA} {nm : Option Str}

variable {g : List Value → List Value → List Value} {gV : List V → List V → List V}
end

/-! ### a def's body keeps its promise -/
/-- names: the parameters first -/
structure FnScope (N P : List Str) (sc : Scope) : Prop where
  kind : sc.kind = .function
  co : sc.isCoroutine = false
  gen : sc.isGenerator = false
  nd : N.Nodup
  pre : N.take P.length = P
  par : ∀ x ∈ P, sc.names.lookup x = some .local ∨ sc.names.lookup x = some .cell
  nofree : ∀ y ∈ sc.names, y.2 ≠ .free

theorem bindL_out {kindOf : Str → Option NameKind} {x : Str} : ∀ {binds : List (Str × Value)} {m : Str → Option Value}, (∀ v, (x, v) ∉ binds) → bindL kindOf binds m x = m x
  | [], _, _ => rfl
  | (n, v) :: r, m, h => by
    unfold bindL
    rw [bindL_out fun w hw => h w (List.mem_cons_of_mem _ hw)]
    split
    · have : x ≠ n := by rintro rfl; exact h v List.mem_cons_self
      simp [this]
    · rfl
theorem bindC_out {kindOf : Str → Option NameKind} {x : Str} : ∀ {binds : List (Str × Value)} {m : Str → Option Value}, (∀ v, (x, v) ∉ binds) → bindC kindOf binds m x = m x
  | [], _, _ => rfl
  | (n, v) :: r, m, h => by
    unfold bindC
    rw [bindC_out fun w hw => h w (List.mem_cons_of_mem _ hw)]
    split
    · rfl
    · have : x ≠ n := by rintro rfl; exact h v List.mem_cons_self
      simp [this]
theorem bindL_get {kindOf : Str → Option NameKind} {x : Str} {v : Value} : ∀ {P : List Str} {vs : List Value} {i : Nat} {m : Str → Option Value}, P.Nodup → P[i]? = some x → vs[i]? = some v → kindOf x = some .local →
    bindL kindOf (P.zip vs) m x = some v
  | [], _, _, _, _, h, _, _ => by simp at h
  | _ :: _, [], _, _, _, _, h, _ => by simp at h
  | p :: P, w :: vs, 0, m, nd, h1, h2, hk => by
    simp at h1 h2; subst h1; subst h2
    show bindL kindOf ((p, w) :: P.zip vs) m p = _
    unfold bindL
    rw [bindL_out fun v hv => (List.nodup_cons.mp nd).1 (List.of_mem_zip hv).1, if_pos hk]
    simp
  | p :: P, w :: vs, i + 1, m, nd, h1, h2, hk => by
    show bindL kindOf ((p, w) :: P.zip vs) m x = _
    unfold bindL
    exact bindL_get (i := i) (List.nodup_cons.mp nd).2 (by simpa using h1) (by simpa using h2) hk
theorem bindC_get {kindOf : Str → Option NameKind} {x : Str} {v : Value} : ∀ {P : List Str} {vs : List Value} {i : Nat} {m : Str → Option Value}, P.Nodup → P[i]? = some x → vs[i]? = some v → kindOf x ≠ some .local →
    bindC kindOf (P.zip vs) m x = some v
  | [], _, _, _, _, h, _, _ => by simp at h
  | _ :: _, [], _, _, _, _, h, _ => by simp at h
  | p :: P, w :: vs, 0, m, nd, h1, h2, hk => by
    simp at h1 h2; subst h1; subst h2
    show bindC kindOf ((p, w) :: P.zip vs) m p = _
    unfold bindC
    rw [bindC_out fun v hv => (List.nodup_cons.mp nd).1 (List.of_mem_zip hv).1, if_neg hk]
    simp
  | p :: P, w :: vs, i + 1, m, nd, h1, h2, hk => by
    show bindC kindOf ((p, w) :: P.zip vs) m x = _
    unfold bindC
    exact bindC_get (i := i) (List.nodup_cons.mp nd).2 (by simpa using h1) (by simpa using h2) hk

/-- the names' values at the entry -/
def start (N : List Str) (vs : List V) : St := vs.map some ++ List.replicate (N.length - vs.length) none

/-- the context of a def's body, at its entry; an exception leaves the frame, then lies as CX says -/
def cxOf (CX : CXT) (P : Program) (w : World) (K : PySem.W.Frag) (mg : Str → Option Value) (base : Heap) (N : List Str) (qual : Str) (scope : Scope) (f : Addr) (cd : Value) (A : Around) (outer : List Env) (s : Shared) (H : Hp) (E : XK) : Cx where
  prog := P
  w := w
  K := K
  mg := mg
  base := base
  A := A.deeper (envOfC qual scope s.heap.objs.size f cd)
  N := N
  s₀ := s
  H₀ := H
  env := envOfC qual scope s.heap.objs.size f cd
  outer := outer
  stack := envOfC qual scope s.heap.objs.size f cd :: outer
  ex := []
  calm := true
  fn := fun _ => true
  pn := []
  xe := fun e s' => wpAny (model P w) (A.deeper (envOfC qual scope s.heap.objs.size f cd)) (leaving (envOfC qual scope s.heap.objs.size f cd) e) (fun _ s'' => CX outer H s E e s'') (fun e' s'' => CX outer H s E e' s'') s'

theorem cell_has {sc : Scope} {n : Nat} {x : Str} (h : sc.names.lookup x = some .cell) : ∃ c, (cellsFrom n sc.names []).lookup x = some c := by
  have q := PySem.W.cellsFrom_some sc.names n [] (.inl h)
  exact Option.isSome_iff_exists.mp q

theorem inv_start {CX : CXT} {P : Program} {w : World} {K : PySem.W.Frag} {mg : Str → Option Value} {base : Heap} {N ps : List Str} {qual : Str} {scope : Scope} {f : Addr} {cd : Value} {A : Around} {outer : List Env} {s s1 : Shared} {H : Hp} {E : XK} {us : List Value} {vs : List V}
    (S : FnScope N ps scope) (hd : A.handled = none) (e0 : Env0 P w K mg base A outer s H) (hl : vs.length = ps.length) (r : Vals vs us)
    (x : InCallC s s.heap.objs.size (bindL (envOfC qual scope s.heap.objs.size f cd).kindOf (ps.zip us) fun _ => none) (cellsFrom (s.heap.objs.size + 1) scope.names []) (bindC (envOfC qual scope s.heap.objs.size f cd).kindOf (ps.zip us) fun _ => none) s1) :
    Inv (cxOf CX P w K mg base N qual scope f cd A outer s H E) [] (start N vs) H s1 := by
  have hpl : ps.length ≤ N.length := by have := congrArg List.length S.pre; rw [List.length_take] at this; omega
  obtain ⟨h1, tk, rfl, hk⟩ := x.done
  have noA : ∀ b : Addr, b ∉ (cxOf CX P w K mg base N qual scope f cd A outer s H E).ex := fun b z => absurd (show b ∈ ([] : List Addr) from z) (by simp)
  refine ⟨⟨e0.mod, S.kind, rfl, rfl, Nat.le_refl _, fun y z c h1 h2 => ?_, fun y hy => ?_, fun y c _ h => ?_, fun _ => hd, Around.frames_deeper e0.frames, .inr ⟨rfl, rfl⟩, fun b z => absurd z (noA b), e0.bs, e0.bsz, fun b _ _ => noA b, fun b z => absurd z (noA b), e0.funs, e0.frf⟩,
    rfl, e0.bare, Un.kept hk, ⟨_, x.toInCall.ns, fun i y v h1 h2 h3 => ?_⟩, fun y c h => ⟨_, x.cell y c h⟩, e0.hok.fresh (Nat.le_refl _), fun y c h => ?_, fun p hp => absurd (show p ∈ ([] : List (Addr × Obj)) from hp) (by simp), e0.hok.kept hk, ?_⟩
  · exact name_of_addr x.apart (PySem.mem_of_lookup h1) (PySem.mem_of_lookup h2)
  · have hy : scope.names.lookup y = some .cell ∨ scope.names.lookup y = some .free := hy
    rcases hy with hy | hy
    · exact cell_has hy
    · exact absurd rfl (S.nofree _ (PySem.mem_of_lookup hy))
  · exact Nat.le_of_lt (x.above y c (PySem.mem_of_lookup h))
  · have hi : i < vs.length := by
      unfold start at h2
      by_cases hi : i < vs.length
      · exact hi
      · rw [List.getElem?_append_right (by simpa using hi)] at h2
        rw [List.getElem?_replicate] at h2
        split at h2 <;> cases h2
    have ha : vs[i]? = some v := by
      unfold start at h2
      rw [List.getElem?_append_left (by simpa using hi), List.getElem?_map] at h2
      cases e : vs[i]? with
      | none => rw [e] at h2; cases h2
      | some a => rw [e] at h2; cases h2; rfl
    obtain ⟨u, hu, rv⟩ := r.get ha
    have hp : ps[i]? = some y := by
      rw [← S.pre, List.getElem?_take_of_lt (by omega)]; exact h1
    have ndP : ps.Nodup := by rw [← S.pre]; exact S.nd.sublist (List.take_sublist _ _)
    refine ⟨u, rv, ?_⟩
    rcases S.par y (List.mem_of_getElem? hp) with k | k
    · exact .inl ⟨k, bindL_get ndP hp hu k⟩
    · obtain ⟨c, e⟩ := cell_has (n := s.heap.objs.size + 1) k
      refine .inr ⟨.inl k, c, e, ?_⟩
      have q := x.cell y c e
      rw [bindC_get ndP hp hu (by show scope.names.lookup y ≠ _; rw [k]; decide)] at q
      exact q
  · exact e0.hok.fresh (Nat.le_of_lt (x.above y c (PySem.mem_of_lookup h)))
  · unfold start
    show _ = N.length
    rw [List.length_append, List.length_map, List.length_replicate]
    omega

/-- THE RULE: a def (or a method) of the text, by its body. The body's reading t is chosen for each entry; it is run at the parameters' values -/
theorem fn_of {CX : CXT} {P : Program} {w : World} {K : PySem.W.Frag} {mg : Str → Option Value} {base : Heap} {k : Nat} {f : Addr} {name qual : Str} {params : Arguments} {body : List Stmt} {scope : Scope} {dV kV doc pm cdv ct oc : Value} {an od : Option Addr}
    {osl : Array (Option Value)} {N ps : List Str} {sp : Sp} (lk : K.lookup f = some ⟨oc, od, .func (PySem.W.fnOf name qual params body scope dV kV doc pm an cdv ct), osl⟩) (hcd : PySem.W.codeIn K cdv qual = true) (S : FnScope N ps scope)
    (len : ∀ vs H Q E, sp vs H Q E → vs.length = ps.length)
    (hbody : ∀ (A : Around) (outer : List Env) (s : Shared) (H : Hp) (vs : List V) (Q : VK) (E : XK), Room k (A.deeper (envOfC qual scope s.heap.objs.size f cdv)) → sp vs H Q E →
      ∃ t, PSs (cxOf CX P w K mg base N qual scope f cdv A outer s H E) body t ∧ t { nx := fun _ H' => Q .non H', rt := Q } (start N vs) H) :
    FnOk P w K mg base CX (k + 1) f (PySem.W.fnOf name qual params body scope dV kV doc pm an cdv ct) ps sp := by
  refine ⟨len, fun A outer s H args us vs Q E hr e0 hb r hsp => ?_⟩
  have hl := len _ _ _ _ hsp
  have KX : K.In s.heap := e0.mod.kin.keeps fun b o e => (e0.bs b o e).1
  have lim : s.heap.NoLimit := e0.mod.nolimit.keeps fun b o e => (e0.bs b o e).1
  have hkind : ∀ y ∈ ps.zip us, scope.names.lookup y.1 = some .local ∨ (scope.names.lookup y.1 = some .cell ∧ ((cellsFrom (s.heap.objs.size + 1) scope.names []).lookup y.1).isSome = true) := fun ⟨n, v⟩ hy => by
    rcases S.par n (List.of_mem_zip hy).1 with q | q
    · exact .inl q
    · exact .inr ⟨q, PySem.W.cellsFrom_some _ _ _ (.inl q)⟩
  refine codeAny_call_function hr.depth (KX _ _ lk) rfl S.co S.gen rfl (PySem.W.codeRec_of KX hcd) (hb _ _ _ _ ?_)
  refine wpAny_newFunctionEnv_cells S.kind hkind fun env he s1 x => ?_
  subst he
  refine ⟨lim.keeps x.toInCall.keep, codeAny_func ?_⟩
  obtain ⟨t, ht, hq⟩ := hbody A outer s H vs Q E (hr.deeper _) hsp
  have I : Inv (cxOf CX P w K mg base N qual scope f cdv A outer s H E) [] (start N vs) H s1 := inv_start S hr.hd e0 hl r x
  refine wpAny_mono (ht [] s1 (start N vs) H _ I hq) (fun fl s' hs => ?_) fun e s' hs => hs
  have fin : ∀ {σ' : St} {H' : Hp} {v : V} {u : Value}, Inv (cxOf CX P w K mg base N qual scope f cdv A outer s H E) [] σ' H' s' → RelV v u → Q v H' → CE outer P w H s Q u s' :=
    fun {σ' H' v u} J rv q => ⟨v, H', J.os, J.bare, J.base, J.hok, rv, q⟩
  cases fl with
  | ret u =>
    obtain ⟨v, σ', H', J, rv, q⟩ := hs
    exact fin J rv q
  | next =>
    obtain ⟨σ', H', J, q⟩ := hs
    exact fin (v := V.non) (u := Value.none) J rfl q
  | brk =>
    obtain ⟨_, _, _, q⟩ := hs
    exact False.elim q
  | cont =>
    obtain ⟨_, _, _, q⟩ := hs
    exact False.elim q
end L2

namespace L2
open PySem PySem.Spec PyProof.Rows
section
variable {X : Cx} {x : Str} {p pos : Pos} {e : Expr} {es : List Expr} {t : TA} {id T : String} {r : List V → Hp → VK → Prop}

def tCB (r : List V → Hp → VK → Prop) (t : TA) : TE := fun σ H Q => t σ H fun vs H1 => r vs H1 Q
/-- f(e, ..), f a built-in function -/
theorem pe_callB (hc : CallR X (.builtin id) r) (hg : Gl X x) (hm : X.mg x = none) (hv : bootBuiltins x = some (.builtin id)) (ha : PA X (e :: es) t) (hn : x ≠ "__name__" := by decide) (hdb : (x == ("__debug__" : Str)) = false := by decide)
    (he : starEach (e :: es) X.env = (false, eval e X.env) :: starEach es X.env := by rfl) (hpl : (backTo pos (starEach es X.env)).any (·.1) = false := by rfl) : PE X (.Call (.Name x p) (e :: es) [] pos) (tCB r t) := by
  intro pins s σ H Q I h
  refine wpAny_Call_Name_kw (ld_blt I hg hm hv ?_ hn hdb)
  exact PyProof.Rows.callWith_builtin1 (thn (ha pos pins s σ H _ I h) fun us s1 ⟨vs, H1, I1, r1, q1⟩ => hc pins s1 σ H1 vs us Q I1 r1 q1) he hpl
/-- T(e, ..), T a built-in type -/
theorem pe_callTy (hc : CallR X (.type T) r) (hg : Gl X x) (hm : X.mg x = none) (hv : bootBuiltins x = some (.type T)) (ha : PA X (e :: es) t) (hn : x ≠ "__name__" := by decide) (hdb : (x == ("__debug__" : Str)) = false := by decide)
    (he : starEach (e :: es) X.env = (false, eval e X.env) :: starEach es X.env := by rfl) (hpl : (backTo pos (starEach es X.env)).any (·.1) = false := by rfl) : PE X (.Call (.Name x p) (e :: es) [] pos) (tCB r t) := by
  intro pins s σ H Q I h
  refine wpAny_Call_Name_kw (ld_blt I hg hm hv ?_ hn hdb)
  exact PyProof.Rows.callWith_type1 (thn (ha pos pins s σ H _ I h) fun us s1 ⟨vs, H1, I1, r1, q1⟩ => hc pins s1 σ H1 vs us Q I1 r1 q1) he hpl
end
end L2

namespace HT
open PySem PyProof.Rows



section
open PySem.SeqAt
open PySem.AutoSeq1 (wpAny_loadPart')
open PySem.MeetsSeq PySem.MeetsSeq2 PySem.MeetsSeq3

end

section
variable {prog : Program} {w : World} {A : Around} {E : Value → Shared → Prop} {s : Shared}



/-! ### t[a:b], not the whole -/
/-- a slice's bound as a place among n (d where it is left out) -/
def sIx (n d : Nat) : Option Int → Nat
  | none => d
  | some v => if v < 0 then (v + (n : Int)).toNat else min v.toNat n

end
end HT

namespace L2
open PySem PySem.Spec PyProof.Rows

/-! ### the parts of a slice -/
abbrev TO := St → Hp → (Option Int → Hp → Prop) → Prop
/-- a slice's part (left out, or an int) -/
def PO (X : Cx) (e : Option Expr) (t : TO) : Prop :=
  ∀ (pins : List (Addr × Obj)) (s : Shared) (σ : St) (H : Hp) (Q : Option Int → Hp → Prop), Inv X pins σ H s → t σ H Q →
    wpAny (model X.prog X.w) X.A (evalPart e X.env) (fun u s' => ∃ o H', Inv X pins σ H' s' ∧ IsPart u o ∧ Q o H') X.xe s
def tNoPart : TO := fun _ H Q => Q none H
def tPart (t : TE) : TO := fun σ H Q => t σ H fun x H1 => ∃ i, x = .int i ∧ Q (some i) H1


section
variable {X : Cx} {e : Expr} {te : TE} {lo hi : Option Expr} {tl th : TO} {pos p2 : Pos}

theorem po_none : PO X none tNoPart := by
  intro pins s σ H Q I h
  rw [evalPart_none]
  exact wpAny_pure ⟨none, H, I, .none, h⟩
theorem po_some (h : PE X e te) : PO X (some e) (tPart te) := by
  intro pins s σ H Q I hw
  rw [evalPart_some]
  refine thn (h pins s σ H _ I hw) fun u s1 ⟨x, H1, I1, r1, q1⟩ => ?_
  obtain ⟨i, rfl, q⟩ := q1
  obtain ⟨t, rfl⟩ := r1
  exact ⟨some i, H1, I1, .int i t, q⟩

/-- what a slice of a value is, by values: the slice object stands at sl -/
def SlR (X : Cx) (r : V → Option Int → Option Int → Hp → VK → Prop) : Prop :=
  ∀ (pins : List (Addr × Obj)) (s : Shared) (σ : St) (H : Hp) (x : V) (v vl vu : Value) (lo hi : Option Int) (sl : Addr) (Q : VK), Inv X pins σ H s → RelV x v → s.heap.IsSliceOf sl vl vu .none → IsPart vl lo → IsPart vu hi → r x lo hi H Q →
    ∃ T id, typeLookup (.type T) "__getitem__" = pure (some (.builtin id)) ∧ s.TypeIs v T ∧ wpAny (model X.prog X.w) X.A (getItem v (.ref sl)) (EP X pins σ Q) X.xe s
def tSl (r : V → Option Int → Option Int → Hp → VK → Prop) (te : TE) (tl th : TO) : TE := fun σ H Q => te σ H fun x H1 => tl σ H1 fun l H2 => th σ H2 fun u H3 => r x l u H3 Q
/-- a[lo:hi], any a -/
theorem pe_slice {r : V → Option Int → Option Int → Hp → VK → Prop} (hr : SlR X r) (he : PE X e te) (hl : PO X lo tl) (hu : PO X hi th) : PE X (.Subscript e (.Slice lo hi none p2) pos) (tSl r te tl th) := by
  intro pins s σ H Q I h
  refine Subscript_ (thn (he pins s σ H _ I h) fun v s1 ⟨x, H1, I1, r1, q1⟩ => ?_)
  refine wpAny_Slice (thn (hl pins s1 σ H1 _ I1 q1) fun vl s2 ⟨l, H2, I2, pl, q2⟩ => thn (hu pins s2 σ H2 _ I2 q2) fun vu s3 ⟨u, H3, I3, pu, q3⟩ => ?_)
  rw [evalPart_none]
  refine wpAny_pure ?_
  have I4 : Inv X pins σ H3 { s3 with heap := s3.heap.push { cls := .type "slice", data := .fields #[vl, vu, .none] } } := I3.kept (t' := s3.toks) fun b ob q => Heap.get?_push_of_some _ q
  obtain ⟨T, id, hT, ht, hg⟩ := hr pins { s3 with heap := s3.heap.push { cls := .type "slice", data := .fields #[vl, vu, .none] } } σ H3 x v vl vu l u s3.heap.objs.size Q I4 r1 (Heap.IsSliceOf.new ..) pl pu q3
  show wpAny (model X.prog X.w) X.A (subscriptTail e (.Slice lo hi none p2) v (.ref s3.heap.objs.size)) (EP X pins σ Q) X.xe { s3 with heap := s3.heap.push { cls := .type "slice", data := .fields #[vl, vu, .none] } }
  exact tail_any (ops := [.ref s3.heap.objs.size, v]) ht hT hg (by with_unfolding_all rfl)

/-- the items of xs[lo:hi] -/
def cutV (xs : List V) (lo hi : Option Int) : List V := (xs.drop (HT.sIx xs.length 0 lo)).take (HT.sIx xs.length xs.length hi - HT.sIx xs.length 0 lo)
theorem cutV_length (xs : List V) (lo hi : Option Int) : (cutV xs lo hi).length ≤ xs.length := by
  unfold cutV
  rw [List.length_take, List.length_drop]
  omega

/-! ### t < u, t + u -/
end
end L2

namespace L2
open PySem PySem.Spec PyProof.Rows

/-! ### places -/
/-- the place that an index of any sign means -/
def ixN (n : Nat) (i : Int) : Option Nat := if 0 ≤ i then (if i < n then some i.toNat else none) else if -(n : Int) ≤ i then some (i + n).toNat else none
def atI {α : Type} (xs : List α) (i : Int) : Option α := (ixN xs.length i).bind fun j => xs[j]?
theorem ixN_seq {n : Nat} {i : Int} {j : Nat} (h : ixN n i = some j) : seqIndex? i n = some j ∧ j < n ∧ -(n : Int) ≤ i ∧ i < n := by
  unfold ixN at h
  by_cases h0 : 0 ≤ i
  · rw [if_pos h0] at h
    by_cases h1 : i < n
    · rw [if_pos h1] at h
      have e : i.toNat = j := Option.some.inj h
      exact ⟨by rw [seqIndex_of h0 h1, e], by omega, by omega, h1⟩
    · rw [if_neg h1] at h; cases h
  · rw [if_neg h0] at h
    by_cases h1 : -(n : Int) ≤ i
    · rw [if_pos h1] at h
      have e : (i + n).toNat = j := Option.some.inj h
      exact ⟨by rw [seqIndex_neg (by omega) h1, e], by omega, h1, by omega⟩
    · rw [if_neg h1] at h; cases h
theorem atI_get {α : Type} {xs : List α} {i : Int} {v : α} (h : atI xs i = some v) : ∃ j, seqIndex? i xs.length = some j ∧ xs[j]? = some v ∧ j < xs.length ∧ -(xs.length : Int) ≤ i ∧ i < xs.length := by
  unfold atI at h
  cases e : ixN xs.length i with
  | none => rw [e] at h; cases h
  | some j =>
    rw [e] at h
    obtain ⟨h1, h2, h3, h4⟩ := ixN_seq e
    exact ⟨j, h1, h, h2, h3, h4⟩
theorem atI_nat {α : Type} {xs : List α} {j : Nat} {v : α} (h : xs[j]? = some v) : atI xs (j : Int) = some v := by
  have hj : j < xs.length := (List.getElem?_eq_some_iff.mp h).1
  have e : ixN xs.length (j : Int) = some j := by
    unfold ixN
    rw [if_pos (by omega), if_pos (by omega)]; simp
  unfold atI; rw [e]; exact h
theorem atI_last {α : Type} (xs : List α) (v : α) : atI (xs ++ [v]) (-1) = some v := by
  have hl : (xs ++ [v]).length = xs.length + 1 := by simp
  have e : ixN (xs ++ [v]).length (-1) = some xs.length := by
    unfold ixN
    rw [hl, if_neg (by decide), if_pos (by omega)]
    congr 1
    omega
  unfold atI
  rw [e]
  show (xs ++ [v])[xs.length]? = some v
  simp

/-! ### what may be subscripted -/
/-- what stands as an index of a plain subscript -/
def PlainIx (b : Expr) : Prop := ∀ o i, subscripted b false o i = operate [o, i] (getItem o i)
/-- a subscript by values -/
def IxR (X : Cx) (r : R2) : Prop :=
  ∀ (value slice : Expr) (pins : List (Addr × Obj)) (s : Shared) (σ : St) (H : Hp) (x y : V) (v u : Value) (Q : VK), Inv X pins σ H s → RelV x v → RelV y u → r x y H Q →
    subscripted slice false v u = operate [v, u] (getItem v u) → wpAny (model X.prog X.w) X.A (subscriptTail value slice v u) (EP X pins σ Q) X.xe s
/-- a call of a builtin's method by values: the receiver, the arguments -/
def MtR (X : Cx) (id : String) (r : V → List V → Hp → VK → Prop) : Prop :=
  ∀ (pins : List (Addr × Obj)) (s : Shared) (σ : St) (H : Hp) (x : V) (xs : List V) (v : Value) (us : List Value) (Q : VK), Inv X pins σ H s → RelV x v → Vals xs us → r x xs H Q →
    wpAny (model X.prog X.w) X.A (call (.builtin id) (v :: us)) (EP X pins σ Q) X.xe s
section
variable {X : Cx} {a b : Expr} {ta tb : TE} {pos : Pos}
/-- a[b] -/
theorem pe_ix {r : R2} (hr : IxR X r) (ha : PE X a ta) (hb : PE X b tb) (hs : PlainIx b) : PE X (.Subscript a b pos) (tOp r ta tb) := by
  intro pins s σ H Q I h
  exact Subscript_ (binT ha hb I h fun v u s2 x y H2 I2 rx ry q => hr a b pins s2 σ H2 x y v u Q I2 rx ry q (hs _ _))

def rIxL (K : PySem.W.Frag) : R2 := fun x y H Q => ∃ p xs i v, x = .ref p ∧ y = .int i ∧ SqL K H p xs ∧ atI xs i = some v ∧ Q v H
def rIxT (K : PySem.W.Frag) : R2 := fun x y H Q => ∃ p xs i v, x = .ref p ∧ y = .int i ∧ SqT K H p xs ∧ atI xs i = some v ∧ Q v H
def rIxS : R2 := fun x y H Q => ∃ z i c, x = .str z ∧ y = .int i ∧ z.length ≤ sizeLine ∧ atI z.cps.toList i = some c ∧ Q (.str ⟨#[c]⟩) H
theorem ix_list : IxR X (rIxL X.K) := by
  intro value slice pins s σ H x y v u Q I rx ry h hs
  obtain ⟨p, xs, i, z, rfl, rfl, hq, he, q⟩ := h
  cases rx
  obtain ⟨t, rfl⟩ := ry
  obtain ⟨its, r, pl, hz⟩ := I.list hq
  obtain ⟨j, h1, h2, h3, h4, h5⟩ := atI_get he
  obtain ⟨w, ew, rw'⟩ := r.get h2
  have hl := r.length
  have hn := line63
  have fin : EP X pins σ Q w s := ⟨z, H, I, rw', q⟩
  by_cases h0 : 0 ≤ i
  · have hj : i.toNat = j := by
      rw [seqIndex_of h0 h5] at h1
      exact Option.some.inj h1
    exact item_listR pl.isList h0 (by omega) (by rw [hj]; simpa using ew) fin hs
  · have hj : (i + (its.toArray.size : Int)).toNat = j := by
      rw [seqIndex_neg (by omega) h4] at h1
      rw [List.size_toArray, ← hl]
      exact Option.some.inj h1
    exact subscriptTail_builtinR (x := w) pl.isList.typeIs slot_list_getitem.lookup
      (wpAny_getItem_list_neg (Q := fun r s' => r = w ∧ EP X pins σ Q r s') pl.isList (by omega) (by rw [List.size_toArray] <;> omega) (by omega) (by rw [hj]; simpa using ew) ⟨rfl, fin⟩) hs
theorem ix_tup : IxR X (rIxT X.K) := by
  intro value slice pins s σ H x y v u Q I rx ry h hs
  obtain ⟨p, xs, i, z, rfl, rfl, hq, he, q⟩ := h
  cases rx
  obtain ⟨t, rfl⟩ := ry
  obtain ⟨its, r, pl, hz⟩ := I.tuple hq
  obtain ⟨j, h1, h2, h3, h4, h5⟩ := atI_get he
  obtain ⟨w, ew, rw'⟩ := r.get h2
  have hl := r.length
  have hn := line63
  have fin : EP X pins σ Q w s := ⟨z, H, I, rw', q⟩
  exact subscriptTail_builtinR (x := w) pl.typeIs slot_tuple_getitem.lookup
    (getItem_tuple (j := j) (Q := fun r s' => r = w ∧ EP X pins σ Q r s') pl (by omega) (by omega) (by rw [List.size_toArray, ← hl]; exact h1) (by simpa using ew) ⟨rfl, fin⟩) hs
theorem ix_str : IxR X rIxS := by
  intro value slice pins s σ H x y v u Q I rx ry h hs
  obtain ⟨z, i, c, rfl, rfl, hz, he, q⟩ := h
  obtain ⟨t, rfl⟩ := rx
  obtain ⟨t', rfl⟩ := ry
  obtain ⟨j, h1, h2, h3, h4, h5⟩ := atI_get he
  have hl : z.cps.toList.length = z.length := by simp [Str.length]
  rw [hl] at h1 h4 h5
  have hn := line63
  exact tail_any (typeIs_str s z t) slot_str_getitem.lookup (getItem_str (c := c) (by
    have e1 : decide (i < -(2 ^ 63 : Int)) = false := decide_eq_false (by omega)
    have e2 : decide (i ≥ 2 ^ 63) = false := decide_eq_false (by omega)
    rw [e1, e2, Bool.or_false]) (by rw [h1]; simpa using h2) ⟨.str ⟨#[c]⟩, H, I.tok _, ⟨_, rfl⟩, q⟩) hs

/-! ### xs[i] = v, any sign -/

/-! ### slices -/
theorem slice_bounds (lo hi : Option Int) (n : Nat) : (sliceBounds lo hi none n).1 = ((HT.sIx n 0 lo : Nat) : Int) ∧ (sliceBounds lo hi none n).2.1 = ((HT.sIx n n hi : Nat) : Int) ∧ (sliceBounds lo hi none n).2.2 = 1 := by
  refine ⟨?_, ?_, rfl⟩
  · cases lo with
    | none => simp [sliceBounds, HT.sIx]
    | some i =>
      simp only [sliceBounds, HT.sIx, Option.getD_none, show (1 : Int) > 0 by decide, if_true]
      by_cases h : i < 0
      · simp only [h, if_true] <;> omega
      · simp only [h, if_false] <;> omega
  · cases hi with
    | none => simp [sliceBounds, HT.sIx]
    | some i =>
      simp only [sliceBounds, HT.sIx, Option.getD_none, show (1 : Int) > 0 by decide, if_true]
      by_cases h : i < 0
      · simp only [h, if_true] <;> omega
      · simp only [h, if_false] <;> omega
theorem slicePick_cut (its : List Value) (lo hi : Option Int) : slicePick its.toArray lo hi none = ((its.drop (HT.sIx its.length 0 lo)).take (HT.sIx its.length its.length hi - HT.sIx its.length 0 lo)).toArray := by
  obtain ⟨h1, h2, h3⟩ := slice_bounds lo hi its.toArray.size
  unfold slicePick
  rw [h1, h2, h3]
  simp only [sliceRange_one, pick_run, List.size_toArray] <;> rfl
/-- xs[lo:hi] of a list: a new list -/
def rSlL (K : PySem.W.Frag) : V → Option Int → Option Int → Hp → VK → Prop := fun x lo hi H Q => ∃ a xs, x = .ref a ∧ SqL K H a xs ∧ ∀ p, H p = none → Q (.ref p) (upd H p (.lst (cutV xs lo hi)))
theorem sl_list : SlR X (rSlL X.K) := by
  intro pins s σ H x v vl vu lo hi sl Q I rx hs pl pu h
  obtain ⟨a, xs, rfl, hx, q⟩ := h
  cases rx
  obtain ⟨its, r, ht, hz⟩ := I.list hx
  have hlen := r.length
  refine ⟨"list", _, slot_list_getitem.lookup, ht.isList.typeIs, ?_⟩
  refine wpAny_getItem_list_slice ht.isList hs pl pu .none (by simp) ?_ (by rw [List.size_toArray] <;> omega)
  rw [slicePick_cut, ← hlen]
  refine ⟨.ref s.heap.objs.size, _, I.laid (t' := s.toks) (o := .lst (cutV xs lo hi)) (fun b ob q => Heap.get?_push_of_some _ q) (Nat.le_refl _) ?_, rfl, q _ (I.hok.fresh (Nat.le_refl _))⟩
  exact ⟨Nat.le_trans (cutV_length xs lo hi) hz, _, 0, (r.drop (HT.sIx xs.length 0 lo)).take (HT.sIx xs.length xs.length hi - HT.sIx xs.length 0 lo), Heap.get?_push_size _ rfl⟩

/-! ### in, not in: flat items -/

/-! ### len, list(x), tuple(x) of any list or tuple that is read -/
theorem call_len_str : CallR X (.builtin "len") (fun xs H Q => ∃ z, xs = [.str z] ∧ z.length ≤ sizeLine ∧ Q (.int z.length) H) := by
  intro pins s σ H xs us Q I r h
  obtain ⟨z, rfl, hz, q⟩ := h
  obtain ⟨u, rfl, t, rfl⟩ := vals1 r
  have hn := line63
  exact len_str (by omega) ⟨.int z.length, H, I.tok _, ⟨_, rfl⟩, q⟩
theorem call_list_of : CallR X (.type "list") (fun xs H Q => ∃ p ys, xs = [.ref p] ∧ (SqL X.K H p ys ∨ SqT X.K H p ys) ∧ ∀ l, H l = none → Q (.ref l) (upd H l (.lst ys))) := by
  intro pins s σ H xs us Q I r h
  obtain ⟨p, ys, rfl, hq, q⟩ := h
  obtain ⟨u, rfl, rx⟩ := vals1 r
  cases rx
  have fin : ∀ (its : List Value), Vals ys its → ys.length ≤ sizeLine → ∀ (h' : Heap) (c' : Nat), (∀ b o', s.heap.get? b = some o' → h'.get? b = some o') →
      h'.get? s.heap.objs.size = some { cls := .type "list", dict := none, data := .seq its.toArray c', slots := #[] } → EP X pins σ Q (.ref s.heap.objs.size) { s with heap := h' } := fun its r' hz h' c' kp e =>
    ⟨.ref s.heap.objs.size, _, I.laid (t' := s.toks) kp (Nat.le_refl _) (show ObjOk X.prog X.w _ h' _ (.lst ys) from ⟨hz, its, c', r', e⟩), rfl, q _ (I.hok.fresh (Nat.le_refl _))⟩
  rcases hq with hq | hq
  · obtain ⟨its, r', pl, hz⟩ := I.list hq
    have hlen := r'.length
    obtain ⟨o, ho, hc, n, hd⟩ := pl.isList
    exact call_list_seq p (.inl rfl) ho hc hd (fun h' c' kp e => fin its r' hz h' c' kp e) (by simp only [List.size_toArray] <;> omega)
  · obtain ⟨its, r', pl, hz⟩ := I.tuple hq
    have hlen := r'.length
    obtain ⟨o, ho, hc, n, hd⟩ := pl
    exact call_list_seq p (.inr rfl) ho hc hd (fun h' c' kp e => fin its r' hz h' c' kp e) (by simp only [List.size_toArray] <;> omega)

/-! ### the call of a builtin's method: o.m(..) -/
/-- the value is of that builtin type -/
def tyV (K : PySem.W.Frag) (T : String) (x : V) (H : Hp) : Prop := match x with
  | .str _ => T = "str"
  | .int _ => T = "int"
  | .ref p => (T = "list" ∧ ∃ xs, SqL K H p xs) ∨ (T = "tuple" ∧ ∃ o, K.lookup p = some o ∧ o.cls = .type "tuple" ∧ o.dict = none) ∨
      (T = "dict" ∧ ((∃ kvs, H p = some (.dK kvs)) ∨ ∃ kvs, H p = some (.dT kvs))) ∨ (T = "set" ∧ ∃ S n, H p = some (.set S n))
  | _ => False
theorem tyV_is {pins : List (Addr × Obj)} {σ : St} {H : Hp} {s : Shared} {T : String} {x : V} {v : Value} (I : Inv X pins σ H s) (r : RelV x v) (ty : tyV X.K T x H) :
    s.TypeIs v T ∧ ∀ a, v = .ref a → ∃ ob, s.heap.get? a = some ob ∧ ob.dict = none := by
  cases x with
  | str z =>
    obtain ⟨t, rfl⟩ := r
    cases (show T = "str" from ty)
    exact ⟨typeIs_str s z t, fun _ e => nomatch e⟩
  | int i =>
    obtain ⟨t, rfl⟩ := r
    cases (show T = "int" from ty)
    exact ⟨typeIs_int s i t, fun _ e => nomatch e⟩
  | ref p =>
    cases r
    rcases ty with ⟨rfl, xs, hq⟩ | ⟨rfl, o, hk, hc, hd⟩ | ⟨rfl, hk⟩ | ⟨rfl, S, n, hk⟩
    · obtain ⟨its, _, pl, _⟩ := I.list hq
      refine ⟨pl.isList.typeIs, fun a e => ?_⟩
      cases e
      obtain ⟨o, n, e, c, hd, _⟩ := pl
      exact ⟨o, e, hd⟩
    · refine ⟨⟨o, I.kIn p o hk, hc⟩, fun a e => ?_⟩
      cases e
      exact ⟨o, I.kIn _ o hk, hd⟩
    · have z : ∃ o, s.heap.get? p = some o ∧ o.ExactDict := by
        rcases hk with ⟨kvs, hk⟩ | ⟨kvs, hk⟩
        · obtain ⟨_, _, _, _, o, _, _, e, ex, _⟩ := I.hok p _ hk
          exact ⟨o, e, ex⟩
        · obtain ⟨_, _, _, _, o, _, _, e, ex, _⟩ := I.hok p _ hk
          exact ⟨o, e, ex⟩
      obtain ⟨o, e, ex⟩ := z
      refine ⟨⟨o, e, ex.1⟩, fun a e2 => ?_⟩
      cases e2
      exact ⟨o, e, ex.2.1⟩
    · obtain ⟨o, _, _, _, e, ex, _⟩ := I.hok p _ hk
      refine ⟨⟨o, e, ex.1⟩, fun a e2 => ?_⟩
      cases e2
      exact ⟨o, e, ex.2.1⟩
  | _ => exact False.elim ty
def tBM0 (K : PySem.W.Frag) (T : String) (r : V → List V → Hp → VK → Prop) (to : TE) : TE := fun σ H Q => to σ H fun x H1 => tyV K T x H1 ∧ r x [] H1 Q
def tBM (K : PySem.W.Frag) (T : String) (r : V → List V → Hp → VK → Prop) (to : TE) (t : TA) : TE := fun σ H Q => to σ H fun x H1 => tyV K T x H1 ∧ t σ H1 fun xs H2 => r x xs H2 Q
variable {o e : Expr} {es : List Expr} {to : TE} {t : TA} {name : Str} {apos cpos : Pos} {T id : String} {r : V → List V → Hp → VK → Prop}
theorem pe_bm0 (pa : PlainAttrs T) (slot : Slot T name id) (hty : typeOf (.builtin id) = pure (.type "method_descriptor")) (hm : MtR X id r) (ho : PE X o to)
    (hbase : attributeBase o name X.env (eval o X.env) = eval o X.env := by rfl) (hline : (apos.endLine == cpos.line) = true := by rfl) : PE X (.Call (.Attribute o name apos) [] [] cpos) (tBM0 X.K T r to) := by
  intro pins s σ H Q I h
  refine wpAny_Call_method0_late hbase hline (thn (ho pins s σ H _ I h) fun v s1 ⟨x, H1, I1, r1, ty, q1⟩ => ?_)
  obtain ⟨h1, h2⟩ := tyV_is I1 r1 ty
  exact ⟨T, id, pa, slot, hty, h1, h2, Calls.callWith_builtin rfl (PySem.evalArgs_none (hm pins s1 σ H1 x [] v [] Q I1 r1 .nil q1))⟩
theorem pe_bm (pa : PlainAttrs T) (slot : Slot T name id) (hty : typeOf (.builtin id) = pure (.type "method_descriptor")) (hm : MtR X id r) (ho : PE X o to) (ha : PA X (e :: es) t)
    (hbase : attributeBase o name X.env (eval o X.env) = eval o X.env := by rfl)
    (hfew : ((backTo cpos (starEach (e :: es) X.env)).all (fun x => !x.1) && (backToKw cpos (keywordEach [] X.env)).all (fun x => x.1.isSome)
      && decide ((e :: es).length + ([] : List Keyword).length + (if ([] : List Keyword).isEmpty then 0 else 1) < 30)) = true := by rfl)
    (hline : (apos.endLine == cpos.line) = true := by rfl) (hs : starEach (e :: es) X.env = (false, eval e X.env) :: starEach es X.env := by rfl) (hplain : (backTo cpos (starEach es X.env)).any (·.1) = false := by rfl) :
    PE X (.Call (.Attribute o name apos) (e :: es) [] cpos) (tBM X.K T r to t) := by
  intro pins s σ H Q I h
  refine wpAny_Call_method_late hbase hfew hline rfl (thn (ho pins s σ H _ I h) fun v s1 ⟨x, H1, I1, r1, ty, q1⟩ => ?_)
  obtain ⟨h1, h2⟩ := tyV_is I1 r1 ty
  refine ⟨T, id, pa, slot, hty, h1, h2, ?_⟩
  have hA := ha cpos pins s1 σ H1 _ I1 q1
  rw [hs] at hA ⊢
  refine Calls.callWith_builtin (by show (false || (backTo cpos (starEach es X.env)).any (·.1)) = false; rw [hplain] <;> rfl) (Calls.evalArgs_plain ?_)
  exact thn hA fun us s2 ⟨vs, H2, I2, r2, q2⟩ => hm pins s2 σ H2 x vs v us Q I2 r1 r2 q2
/- xs.append(e), list.index on a module's tuple .. are MtR facts of 06m -/
end
end L2

namespace L2
open PySem PySem.Spec PyProof.Rows

def MtM (X : Cx) (id : String) (r : V → List V → Hp → VK → Prop) : Prop :=
  ∀ (pins : List (Addr × Obj)) (s : Shared) (σ : St) (H : Hp) (x : V) (xs : List V) (v : Value) (us : List Value) (Q : VK), Inv X pins σ H s → RelV x v → Vals xs us → r x xs H Q →
    wpAny (model X.prog X.w) X.A (call (.builtin id) (v :: us)) (EP X pins σ Q) X.xe s

/-! ### lists of values -/
theorem Vals.one : ∀ {x : V} {us : List Value}, Vals [x] us → ∃ u, us = [u] ∧ RelV x u
  | _, _, .cons r .nil => ⟨_, rfl, r⟩
theorem Vals.zero : ∀ {us : List Value}, Vals [] us → us = []
  | _, .nil => rfl
theorem Vals.dropLast {xs : List V} {us : List Value} (h : Vals xs us) : Vals xs.dropLast us.dropLast := by
  induction h with
  | nil => exact .nil
  | cons r t ih =>
    cases t with
    | nil => exact .nil
    | cons q t' => exact .cons r ih
theorem erase_last {α : Type} (l : List α) : l.eraseIdx (l.length - 1) = l.dropLast := by
  induction l with
  | nil => rfl
  | cons a r ih =>
    cases r with
    | nil => rfl
    | cons b r =>
      have e : (a :: b :: r).length - 1 = ((b :: r).length - 1) + 1 := by
        have h1 : (a :: b :: r).length = r.length + 2 := rfl
        have h2 : (b :: r).length = r.length + 1 := rfl
        omega
      rw [e, List.eraseIdx_cons_succ, ih]
      all_goals rfl

section
variable {X : Cx} {pins : List (Addr × Obj)} {σ : St} {H : Hp} {s : Shared} {l b : Addr} {xs ys zs : List V}

/-! ### the two steps: a tracked list is rewritten, a new list is laid -/
theorem Inv.lset {its its' : List Value} {n : Nat} {f : Array Value → Array Value} {t' : Nat} (I : Inv X pins σ H s) (hH : H l = some (.lst xs))
    (e : s.heap.get? l = some { cls := .type "list", data := .seq its.toArray n }) (hf : f its.toArray = its'.toArray) (hv : Vals ys its') (hz : ys.length ≤ sizeLine) :
    Inv X pins σ (upd H l (.lst ys)) { s with heap := s.heap.update l (Obj.mapSeq f), toks := t' } := by
  have q := PySem.IsL.update e f
  rw [hf] at q
  refine I.write (x := l) (e := l) (by rw [hH]; exact trivial) (.inl rfl) (fun b' u hb hu => (Heap.get?_update_other s.heap (Obj.mapSeq f) (Ne.symm hb)).trans hu) ⟨_, q⟩ ?_
  exact ⟨hz, its', _, hv, q⟩
theorem Inv.lnew {its : List Value} {t' : Nat} (I : Inv X pins σ H s) (hv : Vals ys its) (hz : ys.length ≤ sizeLine) :
    Inv X pins σ (upd H s.heap.objs.size (.lst ys)) { s with heap := s.heap.push { cls := .type "list", data := .seq its.toArray }, toks := t' } :=
  I.laid (fun _ _ q => Heap.get?_push_of_some _ q) (Nat.le_refl _) ⟨hz, its, 0, hv, Heap.get?_push_size _ rfl⟩
theorem Inv.fresh (I : Inv X pins σ H s) : H s.heap.objs.size = none := I.hok.fresh (Nat.le_refl _)
theorem Inv.lstM (I : Inv X pins σ H s) (hH : H l = some (.lst xs)) : xs.length ≤ sizeLine ∧ ∃ (its : List Value) (n : Nat), Vals xs its ∧ xs.length = its.length ∧ s.heap.get? l = some { cls := .type "list", data := .seq its.toArray n } := by
  obtain ⟨z, its, n, r, e⟩ := I.hok l _ hH
  exact ⟨z, its, n, r, r.length, e⟩

end

section
variable {X : Cx}

/-! ### methods -/
def rAppend : V → List V → Hp → VK → Prop := fun x vs H Q => ∃ l xs y, x = .ref l ∧ vs = [y] ∧ H l = some (.lst xs) ∧ xs.length < sizeLine ∧ Q .non (upd H l (.lst (xs ++ [y])))
theorem mt_append : MtM X "list.append" rAppend := by
  intro pins s σ H x vs v us Q I rx rv h
  obtain ⟨l, xs, y, rfl, rfl, hH, hz, q⟩ := h
  cases rx
  obtain ⟨u, rfl, ru⟩ := rv.one
  obtain ⟨z, its, n, r, hl, e⟩ := I.lstM hH
  refine call_meets F.slot_list_append ⟨_, e, rfl⟩ F.entry_list_append (F.args_list_append_2 _ _) (PySem.list_append l its.toArray n u (by rw [List.size_toArray]; omega)) ⟨e, ?_⟩
  refine ⟨.non, _, I.lset (its' := its ++ [u]) hH e (by simp) (r.append (.cons ru .nil)) ?_, rfl, q⟩
  rw [List.length_append, List.length_singleton]
  omega


def rPop : V → List V → Hp → VK → Prop := fun x vs H Q => ∃ l xs y, x = .ref l ∧ vs = [] ∧ H l = some (.lst xs) ∧ xs[xs.length - 1]? = some y ∧ Q y (upd H l (.lst xs.dropLast))
theorem mt_pop : MtM X "list.pop" rPop := by
  intro pins s σ H x vs v us Q I rx rv h
  obtain ⟨l, xs, y, rfl, rfl, hH, hy, q⟩ := h
  cases rx
  have hus := rv.zero
  subst hus
  obtain ⟨z, its, n, r, hl, e⟩ := I.lstM hH
  obtain ⟨u, hu, ru⟩ := r.get hy
  have hy' : its.toArray[its.toArray.size - 1]? = some u := by
    show its.toArray[its.length - 1]? = some u
    rw [← Array.getElem?_toList, ← hl]
    exact hu
  refine call_meets F.slot_list_pop ⟨_, e, rfl⟩ F.entry_list_pop (F.args_list_pop_1 _) (MeetsSeq.list_pop_last l its.toArray n u hy' (by rw [List.size_toArray]; omega)) ⟨e, ?_⟩
  refine ⟨y, _, I.lset (its' := its.dropLast) hH e ?_ r.dropLast ?_, ru, q⟩
  · show its.toArray.eraseIdxIfInBounds (its.toArray.size - 1) = its.dropLast.toArray
    rw [List.size_toArray, List.eraseIdxIfInBounds_toArray, erase_last]
  · rw [List.length_dropLast]
    omega




/-! ### list + list, list += list, list * int -/
def rCat : R2 := fun x y H Q => ∃ l b xs zs, x = .ref l ∧ y = .ref b ∧ H l = some (.lst xs) ∧ H b = some (.lst zs) ∧ xs.length + zs.length ≤ sizeLine ∧ ∀ p, H p = none → Q (.ref p) (upd H p (.lst (xs ++ zs)))
theorem op_cat : OpR X (binaryOp .Add) rCat := by
  intro pins s σ H x y v u Q I rx ry h
  obtain ⟨l, b, xs, zs, rfl, rfl, hH, hB, hz, q⟩ := h
  cases rx
  cases ry
  obtain ⟨z, its, n, r, hl, e⟩ := I.lstM hH
  obtain ⟨z2, its2, n2, r2, hl2, e2⟩ := I.lstM hB
  refine PySem.P.add_list e e2 ?_ (by rw [List.size_toArray, List.size_toArray]; omega)
  have ea : its.toArray ++ its2.toArray = (its ++ its2).toArray := by simp
  rw [ea]
  exact ⟨.ref _, _, I.lnew (t' := s.toks) (r.append r2) (by rw [List.length_append]; omega), rfl, q _ I.fresh⟩

/-! ### del xs[i] -/
end

/-! ### xs[a:b] = ys -/
section
variable {prog : Program} {w : World} {A : Around} {E : Value → Shared → Prop} {s : Shared}
end

section
variable {X : Cx}
end
end L2


namespace L2
open PySem PySem.Spec PyProof.Rows

/-! ### lists of pairs as tables -/
section
variable {κ : Type} [DecidableEq κ]


theorem RelO.isSome_eq {o : Option V} {u : Option Value} (r : RelO o u) : o.isSome = u.isSome := by
  cases o with
  | none => cases u with
    | none => rfl
    | some _ => exact (show False from r).elim
  | some _ => cases u with
    | none => exact (show False from r).elim
    | some _ => rfl

end


/-! ### a tracked dict, its keys ints and texts or tuples of these -/


section
variable {P : Program} {w : World} {H : Hp} {h : Heap} {a : Addr}
end



section
variable {X : Cx} {pins : List (Addr × Obj)} {σ : St} {H : Hp} {s : Shared} {a : Addr} {y v : V} {u r : Value} {o : Option V} {A : Around} {E : Value → Shared → Prop}


end

section
variable {X : Cx} {pins : List (Addr × Obj)} {σ : St} {H : Hp} {s : Shared} {a : Addr} {kvs : List (Key × V)} {k : Key} {u : Value} {A : Around} {E : Value → Shared → Prop}
end


/-! ### readings and rules -/
/-- the element of a subscription, not a slice -/
def NoSl (i : Expr) : Prop := ∀ ov iv, subscripted i false ov iv = operate [ov, iv] (getItem ov iv)
theorem subD_of {prog : Program} {w : World} {A : Around} {E : Value → Shared → Prop} {s : Shared} {env : Env} {value slice : Expr} {pos : Pos} {T id : String} {Q : Value → Shared → Prop}
    (hl : typeLookup (.type T) "__getitem__" = pure (some (.builtin id))) (hs : NoSl slice)
    (h : wpAny (model prog w) A (eval value env) (fun o s₁ => wpAny (model prog w) A (eval slice env) (fun i s₂ => s₂.TypeIs o T ∧ wpAny (model prog w) A (getItem o i) Q E s₂) E s₁) E s) :
    wpAny (model prog w) A (eval (.Subscript value slice pos) env) Q E s := by
  refine Subscript_ (wpAny_mono h (fun o s₁ h₁ => wpAny_mono h₁ (fun i s₂ h₂ => ?_) fun _ _ x => x) fun _ _ x => x)
  obtain ⟨hT, h₂⟩ := h₂
  unfold subscriptTail
  refine wpAny_bind ?_
  rw [getitemInPython_of_ne hT.not_modules]
  refine wpAny_bind (wpAny_specialOf hT hl ?_)
  have fin : wpAny (model prog w) A (subscripted slice false o i) (fun r s₃ => wpAny (model prog w) A (letTemporaryGo value o r >>= fun _ => pure r) Q E s₃) E s₂ := by
    rw [hs o i]
    exact wpAny_operating (wpAny_mono h₂ (fun r s₃ h₃ => wpAny_bind (wpAny_letTemporaryGo (wpAny_pure h₃))) fun _ _ x => x)
  first
    | exact wpAny_pure (wpAny_bind fin)
    | exact wpAny_bind (wpAny_pure (wpAny_bind fin))
    | exact wpAny_bind fin



section
variable {X : Cx} {o i e value : Expr} {pos pos' tpos : Pos} {td ty tv : TE}
end


/-! ### displays -/
section
variable {X : Cx} {pos : Pos}
end




/-! ### methods -/


section
variable {X : Cx} {pins : List (Addr × Obj)} {σ : St} {H : Hp} {s : Shared} {a : Addr} {y d : V} {u r : Value} {o : Option V} {A : Around} {E : Value → Shared → Prop}
end

section
variable {X : Cx} {o e f : Expr} {apos cpos : Pos} {td ty tx : TE}
end

/-! ### dict(d): a copy -/
section
variable {X : Cx} {pins : List (Addr × Obj)} {σ : St} {H : Hp} {s : Shared} {a : Addr} {kvs : List (Key × V)} {A : Around} {E : Value → Shared → Prop}
end


section
variable {X : Cx} {pins : List (Addr × Obj)} {σ : St} {H : Hp} {s : Shared} {a : Addr} {y : V} {u : Value} {A : Around} {E : Value → Shared → Prop}
end
end L2

namespace Att
open PySem PySem.W PySem.Calls PyProof.Rows

/-! ### the script -/
theorem ints_of_wellAll {P : Params} {h : Heap} : ∀ (ns : List Int) (vs : List Value), WellAll P h vs (ns.map WData.int) → IntsAre vs ns := by
  intro ns
  induction ns with
  | nil =>
    intro vs w
    rw [List.map_nil] at w
    cases w
    exact .nil
  | cons n ns ih =>
    intro vs w
    rw [List.map_cons] at w
    cases w with
    | cons a b =>
      cases a
      exact .cons _ _ (ih _ b)

theorem script_of {l : OpenLaw} {n : Nat} (hn : l.most = some n) {P : Params} {h : Heap} {args : List WData} {vals : List Value}
    (hpre : l.row.toRowW.claim.pre args = true) (hwl : WellAll P h vals args) :
    ∃ a vs ns, vals = [Value.ref a] ∧ args = [WData.list (ns.map WData.int)] ∧ h.get? a = some { cls := .type "list", data := .seq vs.toArray } ∧ IntsAre vs ns ∧ ns.length ≤ n := by
  have hsh : WShape.hasAll [] args [.list .int] = true := (pre_splitW hpre).1
  have hc : l.pre.holds [] { args := args } = true := (pre_splitW hpre).2
  obtain ⟨d, r, rfl, h1, h2⟩ := hasAllW_cons hsh
  obtain rfl := hasAllW_nil h2
  obtain ⟨xs, rfl, h3⟩ := hasW_list h1
  obtain ⟨ns, rfl⟩ := items_int h3
  have hlen : ns.length ≤ n := by
    unfold OpenLaw.pre at hc
    have h4 : (WTm.not (.lt (.lit (.int (n : Int))) (.len (.arg 0)))).holds [] { args := [.list (ns.map .int)] } = true := by
      have h4 := (holds_andW hc).1
      rw [hn] at h4
      exact h4
    have h5 := condW_of h4 (w_not (w_lt w_lit (w_len_list (w_arg rfl))))
    rw [List.length_map] at h5
    refine Nat.le_of_not_lt fun q => ?_
    have q' : (n : Int) < ((ns.length : Nat) : Int) := by omega
    first
      | (rw [decide_eq_true q'] at h5; exact absurd h5 (by decide))
      | (simp at h5; omega)
  cases hwl with
  | cons w1 w2 =>
    cases w2
    cases w1 with
    | list ho hall => exact ⟨_, _, ns, rfl, rfl, ho, ints_of_wellAll ns _ hall, hlen⟩

theorem post_true (l : OpenLaw) (args : List WData) : l.row.toRowW.claim.post args (.bool true) args = true :=
  postW_of (r := l.row.toRowW) (X := (true == true))
    (show WShape.has [] (.bool true) .bool = true by first | rfl | decide | simp [WShape.has, WShape.arms, WShape.armsAll])
    (show (WTm.eq .res (.lit (.bool true))).value [] { args := args, res := some (.bool true), after := args } = some (.bool (true == true)) from w_eq_bool (w_res rfl) w_lit) rfl

/-! ### the attachment: holds_open's last premise (the goal 'hc' behind k_head) from a wpAny of the law's body -/



/-! ### rules over ANY heap (no ledger) from facts about the written part K: the library's own take a ledger (News) for what they write -/
section
variable {prog : Program} {w : World} {A : Around} {E : Value → Shared → Prop} {s : Shared} {K : Frag}





/-! the whole heap as the ledger: makes every rule that writes through a ledger a rule over any heap -/

end
end Att

namespace L2
open PySem PySem.Spec PyProof.Rows

theorem vals_ints : ∀ {vs : List Value} {ns : List Int}, IntsAre vs ns → Vals (ns.map V.int) vs
  | _, _, .nil => .nil
  | _, _, .cons n t h => .cons ⟨t, rfl⟩ (vals_ints h)

/-- nothing is tracked but the script, known to the object (or it is an object of the module) -/
def Only (H : Hp) : Prop := ∀ b, H b = none ∨ ∃ o xs, H b = some (.frz o (.lst xs))

/-- THE HEAD: the law's promise, at the heap behind the top. F, the promise of the law's def, may use that base is part of the heap (so K.In base, base.Ns mainGlobals mg stand in Mod) -/
theorem law_call {P : Program} {w : World} {K : PySem.W.Frag} {mg mb : Str → Option Value} {CX : CXT} {k : Nat} {fa a : Addr} {fd : FuncData} {x : Str} {sp : Sp} {s₁ : Shared} {vs : List Value} {ns : List Int}
    (KX : K.In s₁.heap) (hns : s₁.heap.Ns mainGlobals mg) (hb : s₁.heap.Ns builtinsNs mb) (hbb : ∀ x : Str, x ≠ "__name__" → mb x = bootBuiltins x) (hlim : s₁.heap.NoLimit) (hg : s₁.gens = #[])
    (ha : s₁.heap.get? a = some { cls := .type "list", data := .seq vs.toArray }) (hi : IntsAre vs ns) (hl : ns.length ≤ sizeLine) (hr : Room k callerA)
    (F : ∀ base : Heap, K.In base → base.Ns mainGlobals mg → FnOk P w K mg base CX k fa fd [x] sp) (hbind : ∀ (s : Shared) (u : Value), BindsTo s fd ⟨[u], []⟩ [(x, u)])
    (hsp : ∀ H : Hp, Only H → SqL K H a (ns.map V.int) → sp [.ref a] H (fun v _ => v = .bl true) fun _ _ _ => False)
    (hCX : ∀ H e s', CX [] H s₁ (fun _ _ _ => False) e s' → False) :
    codeAny (model P w) callerA (.call (.ref fa) ⟨[.ref a], []⟩) (fun r s' => r = .ok (.ret (.bool true)) ∧ OldK s₁.heap s'.heap ∧ s'.os = s₁.os ∧ AllBare s'.gens) s₁ := by
  have rv := vals_ints hi
  have lenV := hi.length
  -- from an abstract heap in which nothing but the script may be tracked
  have core : ∀ H : Hp, Only H → SqL K H a (ns.map V.int) → HOk P w H s₁.heap → (∀ b, H b ≠ none → b = a) → (H a ≠ none → K.lookup a = none) →
      codeAny (model P w) callerA (.call (.ref fa) ⟨[.ref a], []⟩) (fun r s' => r = .ok (.ret (.bool true)) ∧ OldK s₁.heap s'.heap ∧ s'.os = s₁.os ∧ AllBare s'.gens) s₁ := by
    intro H hO hS hok hA hK
    have base_of : ∀ {b : Addr} {o : Obj}, s₁.heap.get? b = some o → H b = none → (hidT s₁.heap H).get? b = some o := fun e n => hidT_get e n
    have noA : ∀ {b : Addr} {o : Obj} {es : Array DictEntry} {ep : Nat}, s₁.heap.get? b = some o → o.data = .dict es ep → H b = none := fun {b o es ep} e d => by
      cases q : H b with
      | none => rfl
      | some u =>
        have e' : b = a := hA b (by rw [q]; simp)
        subst e'
        rw [ha] at e; cases e
        have d' : Data.seq vs.toArray _ = Data.dict es ep := d
        cases d'
    have nsK : ∀ {b : Addr} {m : Str → Option Value}, s₁.heap.Ns b m → (hidT s₁.heap H).Ns b m := fun {b m} ⟨o, es, ep, e, d, r⟩ => ⟨o, es, ep, base_of e (noA e d), d, r⟩
    have hKb : K.In (hidT s₁.heap H) := fun b o e => base_of (KX b o e) (by
      cases q : H b with
      | none => rfl
      | some u =>
        have e' : b = a := hA b (by rw [q]; simp)
        subst e'
        rw [hK (by rw [q]; simp)] at e; cases e)
    have hM : Mod K mg (hidT s₁.heap H) := ⟨hKb, nsK hns, ⟨mb, nsK hb, hbb⟩, let ⟨mc, h1, h2⟩ := hlim; ⟨mc, nsK h1, h2⟩⟩
    have e0 : Env0 P w K mg (hidT s₁.heap H) callerA [] s₁ H := ⟨rfl, hM, fun b o e => of_hidT e, Nat.le_of_eq (hidT_size _ _), trivial, fun b hb => absurd (show b ∈ ([] : List Addr) from hb) (by simp), hok, .of_eq hg⟩
    refine codeAny_mono ((F _ hKb (nsK hns)).run callerA [] s₁ H ⟨[.ref a], []⟩ [.ref a] [.ref a] _ _ hr e0 (hbind s₁ (.ref a)) (.cons rfl .nil) (hsp H hO hS)) fun r s' h => ?_
    cases r with
    | error e => exact (hCX H e s' h).elim
    | ok fl =>
      cases fl with
      | next => exact False.elim h
      | brk => exact False.elim h
      | cont => exact False.elim h
      | ret u =>
        obtain ⟨v, H', os, bare, un, hok', r', q⟩ := h
        have q' : v = .bl true := q
        subst q'
        obtain rfl : u = Value.bool true := r'
        refine ⟨rfl, OldK.of_keep fun b o e => ?_, os, bare⟩
        cases q : H b with
        | none => exact un.keep b o e q (by intro z; exact absurd (show b ∈ ([] : List Addr) from z) (by simp)) (by simp)
        | some u =>
          rcases hO b with z | ⟨ob, xs, z⟩
          · rw [q] at z; cases z
          · have z2 := un.frzs b ob _ z
            obtain ⟨e1, _⟩ := hok b _ z
            obtain ⟨e2, _⟩ := hok' b _ z2
            rw [e] at e1; cases e1
            exact e2
  cases hk : K.lookup a with
  | some o =>
    -- the script is one of the module's own objects
    have e := KX a o hk
    rw [ha] at e
    cases e
    refine core (fun _ => none) (fun _ => .inl rfl) (.inr ⟨_, vs.toArray, _, hk, rfl, rfl, rfl, by rw [List.size_toArray, lenV]; exact hl, by simpa using rv⟩) (fun b u z => by have z' : (none : Option HO) = some u := z; cases z') (fun b z => absurd rfl z) fun z => absurd rfl z
  | none =>
    refine core (fun b => if b = a then some (.frz { cls := .type "list", data := .seq vs.toArray } (.lst (ns.map V.int))) else none) (fun b => ?_) (.inl (.inr ⟨{ cls := .type "list", data := .seq vs.toArray }, if_pos rfl⟩)) (fun b u z => ?_) (fun b z => ?_) fun _ => hk
    · by_cases hb : b = a
      · exact .inr ⟨_, _, if_pos hb⟩
      · exact .inl (if_neg hb)
    · by_cases hb : b = a
      · have z' := (if_pos hb).symm.trans z
        cases z'
        subst hb
        exact ⟨ha, by rw [List.length_map]; exact hl, vs, _, rv, ha⟩
      · have z' := (if_neg hb).symm.trans z
        cases z'
    · by_cases hb : b = a
      · exact hb
      · exact absurd (if_neg hb) z
end L2

namespace L2
open PySem PySem.Spec PyProof.Rows


end L2

/- THE LAST THEOREM (shape; LID, My.* are yours):
   My.Adr: a structure of the addresses that your layer names (classes, functions); My.Txt K t: a structure (Prop) of the equations over K;
   My.txt_mk : {K} {implicit addresses ..} (e1 : nsIn K mainGlobals "law" = some (some (.ref f))) (e2 : K.lookup f = some ⟨oc, od, .func (fnOf "law" "law" params body scope dV kV doc pm an cdv ct), sl⟩) (e3 : codeIn K cdv "law" = true) .. : ∃ t, My.Txt K t

set_option maxRecDepth 100000 in
set_option maxHeartbeats 0 in
theorem PySem.Challenge.cw_LID_holds : PySem.Challenge.rw_LID.Holds := by
  w_on; o_law; k_head; (case hw => w_witness2)
  k_fill
  refine L2.walk_of (l := PySem.Challenge.rw_LID) (n := 63) (k := 40) (x := "script") (CX := fun w => ..) (sp := fun _ => My.sp_law) rfl (by decide) rfl ⟨rfl, by decide, by decide⟩ (fun w h Y => PySem.W.kIn_of Y) ?F ?S ?C
  case F =>
    intro w mg fa h KX G hmg
    have T : ∃ t, My.Txt (L2.KOf KX) t := by
      dsimp only [L2.KOf]                          -- K must stand as «<heap const> w.params» for k_is
      refine' My.txt_mk ?e1 ?e2 ?e3 ..
      (case e1 => PySem.W.k_is)                    -- in the order: a name -> its address -> its object -> its parts
      (case e2 => PySem.W.k_is)
      ..
    obtain ⟨t, T⟩ := T
    have e0 := hmg.symm.trans (PySem.W.mg_of KX G T.law)
    cases e0                                       -- fa is the law's own address
    exact ⟨_, fun s u => .of_eq rfl, fun base kb nb => My.law_fn T kb nb⟩     -- if «.of_eq rfl» comes too early: refine' ⟨_, ?b, fun base kb nb => My.law_fn T kb nb⟩; exact fun s u => .of_eq rfl
  case S => exact fun w H a ns hl hO hS => ..
  case C => exact ..
(the tactic k_is has no namespace: write k_is) -/

/-! SHORT WORDS over the layer: a def of the text, its body, what a loop and a test want. -/
namespace L2
open PySem PySem.Spec PyProof.Rows

/-! ### the text by places -/
/-- the j-th statement of a class's body -/
def inClass (s : Stmt) (j : Nat) : Stmt := match s with
  | .ClassDef _ _ _ body _ _ _ _ _ _ _ => body.getD j (.Pass ⟨0, 0, 0, 0⟩)
  | _ => .Pass ⟨0, 0, 0, 0⟩
def defArgs (s : Stmt) : Arguments := match s with
  | .FunctionDef _ a _ _ _ _ _ _ _ _ => a
  | _ => { posonlyargs := [], args := [], vararg := none, kwonlyargs := [], kw_defaults := [], kwarg := none, defaults := [] }
def defBody (s : Stmt) : List Stmt := match s with
  | .FunctionDef _ _ b _ _ _ _ _ _ _ => b
  | _ => []
def defScope (s : Stmt) : Scope := match s with
  | .FunctionDef _ _ _ _ _ _ sc _ _ _ => sc
  | _ => { kind := .function, names := [], isGenerator := false, isCoroutine := false }

/-! ### no exception leaves a def -/
abbrev CX0 : CXT := fun _ _ _ _ _ _ => False
abbrev E0 : XK := fun _ _ _ => False
theorem pass0 {X : Cx} : Passes CX0 X E0 := fun _ _ _ _ _ _ _ h => h.elim

/-! ### a def (or method) of the text as it stands behind the top -/
structure Fun (K : PySem.W.Frag) (x qual : Str) (st : Stmt) (f : Addr) (fd : FuncData) : Prop where
  ex : ∃ (oc : Value) (od : Option Addr) (kV doc pm : Value) (an : Option Addr) (cdv ct : Value) (osl : Array (Option Value)),
    fd = PySem.W.fnOf x qual (defArgs st) (defBody st) (defScope st) .none kV doc pm an cdv ct ∧ K.lookup f = some ⟨oc, od, .func fd, osl⟩ ∧ PySem.W.codeIn K cdv qual = true
  kp : PySem.W.keepIn K (.ref f) = true
section
variable {P : Program} {w : World} {K : PySem.W.Frag} {mg : Str → Option Value} {base : Heap}
/-- THE RULE for a def: its body as a term of rules, and the reading of that term -/
theorem Fun.ok {x qual : Str} {st : Stmt} {f : Addr} {fd : FuncData} {N ps : List Str} {k : Nat} {sp : Sp} (F : Fun K x qual st f fd) (S : FnScope N ps (defScope st)) (len : ∀ vs H Q E, sp vs H Q E → vs.length = ps.length)
    (hbody : ∀ (cdv : Value) (A : Around) (outer : List Env) (s : Shared) (H : Hp) (vs : List V) (Q : VK) (E : XK), Room k (A.deeper (envOfC qual (defScope st) s.heap.objs.size f cdv)) → sp vs H Q E →
      ∃ t, PSs (cxOf CX0 P w K mg base N qual (defScope st) f cdv A outer s H E).nox (defBody st) t ∧ t { nx := fun _ H' => Q .non H', rt := Q } (start N vs) H) : FnOk P w K mg base CX0 (k + 1) f fd ps sp := by
  obtain ⟨oc, od, kV, doc, pm, an, cdv, ct, osl, rfl, lk, hcd⟩ := F.ex
  refine fn_of lk hcd S len fun A outer s H vs Q E hr hsp => ?_
  obtain ⟨t, h, q⟩ := hbody cdv A outer s H vs Q E hr hsp
  exact ⟨t, h.nox, q⟩
/-- how its arguments bind (no defaults): h is «fun _ _ _ _ _ _ us hl => match us, hl with | [_, _], _ => rfl», one _ a parameter -/
theorem Fun.binds {x qual : Str} {st : Stmt} {f : Addr} {fd : FuncData} {ps : List Str} (F : Fun K x qual st f fd)
    (h : ∀ (kV doc pm : Value) (an : Option Addr) (cdv ct : Value) (us : List Value), us.length = ps.length → bindArgs (PySem.W.fnOf x qual (defArgs st) (defBody st) (defScope st) .none kV doc pm an cdv ct) ⟨us, []⟩ = pure (ps.zip us)) : Binds K fd ps [] := by
  obtain ⟨oc, od, kV, doc, pm, an, cdv, ct, osl, rfl, lk, hcd⟩ := F.ex
  exact .all (h kV doc pm an cdv ct)
theorem fun_mk {x qual : Str} {st : Stmt} {f : Addr} {oc : Value} {od an : Option Addr} {osl : Array (Option Value)} {kV doc pm cdv ct : Value} (l : K.lookup f = some ⟨oc, od, .func (PySem.W.fnOf x qual (defArgs st) (defBody st) (defScope st) .none kV doc pm an cdv ct), osl⟩)
    (c : PySem.W.codeIn K cdv qual = true) (k : PySem.W.keepIn K (.ref f) = true) : Fun K x qual st f (PySem.W.fnOf x qual (defArgs st) (defBody st) (defScope st) .none kV doc pm an cdv ct) := ⟨⟨oc, od, kV, doc, pm, an, cdv, ct, osl, rfl, l, c⟩, k⟩
end

/-! ### expressions in short: the name that stands in the i-th slot -/
section
variable {X : Cx}
theorem pv (i : Nat) {x : Str} {pos : Pos} (hN : X.N[i]? = some x := by rfl) (hv : Vis X.env.scope x := by first | exact Or.inl rfl | exact Or.inr (Or.inl rfl) | exact Or.inr (Or.inr rfl)) (hd : (x == ("__debug__" : Str)) = false := by decide)
    (hcd : (x == ("__classdict__" : Str)) = false := by decide) : PE X (.Name x pos) (tVar i) := pe_var hN hv hd hcd
end

/-! ### tests -/
theorem iteF {A B : Prop} (h : B) : if false = true then A else B := by
  rw [if_neg Bool.false_ne_true]
  exact h
theorem iteT {A B : Prop} (h : A) : if true = true then A else B := by
  rw [if_pos rfl]
  exact h
theorem ite2 {c A B : Prop} [Decidable c] (h1 : c → A) (h2 : ¬ c → B) : if c then A else B := by
  by_cases h : c
  · rw [if_pos h]
    exact h1 h
  · rw [if_neg h]
    exact h2 h

/-! ### heaps -/
/-- all that was tracked is as it was -/
def Same (H H' : Hp) : Prop := ∀ b o, H b = some o → H' b = some o
theorem Same.refl (H : Hp) : Same H H := fun _ _ h => h
theorem Same.trans {H H1 H2 : Hp} (a : Same H H1) (b : Same H1 H2) : Same H H2 := fun c o h => b c o (a c o h)
theorem Same.free {H H' : Hp} (e : Same H H') {l : Addr} (h : H' l = Option.none) : H l = Option.none := by
  cases q : H l with
  | none => rfl
  | some o =>
    rw [e l o q] at h
    cases h
theorem Same.seq {K : PySem.W.Frag} {H H' : Hp} {a : Addr} {xs : List V} (e : Same H H') (h : SqL K H a xs) : SqL K H' a xs := by
  rcases h with (h | ⟨o, h⟩) | h
  · exact .inl (.inl (e _ _ h))
  · exact .inl (.inr ⟨o, e _ _ h⟩)
  · exact .inr h

/-! ### a dict's pairs: keys that differ -/
section
variable {κ : Type} [DecidableEq κ]
end
end L2

/-! MY OWN RULES over the hand layer: list comprehensions -/
namespace L2
open PySem PySem.Spec PyProof.Rows

section
variable {p : Program} {w : World} {A : Around} {R : Result → Shared → Prop} {st : Shared}
/-- a block's loop by a measured invariant; no exception leaves a turn -/
theorem compLoop_any {elt tg src : Expr} {tests : List Expr} {sc : Scope} {pos : Pos} {iv av : Value} {env : Env} (J : Nat → Shared → Prop)
    (turn : ∀ k s0, J k s0 → wpAny (model p w) A (pyNext iv) (fun o s1 => match o with
      | none => R (.ok .next) s1
      | some u => wpAny (model p w) A (letOwnedTupleGo tg iv u) (fun _ s2 => wpAny (model p w) A (assign tg env u) (fun _ s3 =>
          wpAny (model p w) A (forIn tests true fun c r => if r = true then do let good ← isTrue c env (eval c env); pure (ForInStep.yield good) else pure (ForInStep.yield r)) (fun good s4 =>
            if good = true then wpAny (model p w) A (eval elt env) (fun y s5 =>
              wpAny (model p w) A (call (.builtin "list.append") [av, y]) (fun _ s6 => ∃ m, m < k ∧ J m s6) (fun _ _ => False) s5) (fun _ _ => False) s4
            else ∃ m, m < k ∧ J m s4) (fun _ _ => False) s3) (fun _ _ => False) s2) (fun _ _ => False) s1) (fun _ _ => False) s0)
    (k : Nat) (h : J k st) : codeAny (model p w) A (.compLoop (.ListComp elt [⟨tg, src, tests, 0⟩] sc pos) 0 iv av env) R st := by
  refine codeAny_loop rfl J (fun k s0 hJ => ?_) k h
  show wpAny _ A ((compTurn (.ListComp elt [⟨tg, src, tests, 0⟩] sc pos) 0 iv av env).onRaise (fun x => do noteFrame x env; theTreesLotGoes x)) _ _ s0
  refine wpAny_noted ?_
  rw [compTurn_list]
  refine wpAny_bind (wpAny_standAt (wpAny_bind (wpAny_mono (turn k s0 hJ) (fun o s1 h1 => ?_) fun _ _ z => False.elim z)))
  cases o with
  | none => exact wpAny_pure h1
  | some u =>
    refine wpAny_bind (wpAny_mono h1 (fun _ s2 h2 => ?_) fun _ _ z => False.elim z)
    refine wpAny_bind (wpAny_mono h2 (fun _ s3 h3 => wpAny_bind (wpAny_mono h3 (fun good s4 h4 => ?_) fun _ _ z => False.elim z)) fun _ _ z => False.elim z)
    cases good with
    | false => exact wpAny_pure ⟨rfl, h4⟩
    | true =>
      exact wpAny_bind (wpAny_bind (wpAny_mono h4 (fun y s5 h5 => wpAny_bind (wpAny_mono h5 (fun _ s6 h6 => wpAny_pure (wpAny_pure ⟨rfl, h6⟩)) fun _ _ z => False.elim z)) fun _ _ z => False.elim z))
end

/-- the closure of a block: each free name's cell -/
theorem closure_go {env : Env} : ∀ (names : List (Str × NameKind)) (acc : List (Str × Addr)), (∀ x ∈ names, x.2 = .free → ∃ c, env.cells.lookup x.1 = some c) → (∀ x c, acc.lookup x = some c → env.cells.lookup x = some c) →
    ∃ cl, (forIn names acc fun (x : Str × NameKind) (r : List (Str × Addr)) => (do
        if (x.2 == NameKind.free) = true then do let a ← cellOf env x.1; pure (ForInStep.yield ((x.1, a) :: r)) else pure (ForInStep.yield r) : Sem (ForInStep (List (Str × Addr))))) = (pure cl : Sem (List (Str × Addr))) ∧
      (∀ x c, cl.lookup x = some c → env.cells.lookup x = some c) ∧ (∀ x ∈ names, x.2 = .free → ∃ c, cl.lookup x.1 = some c) ∧ (∀ x c, acc.lookup x = some c → ∃ d, cl.lookup x = some d)
  | [], acc, _, h2 => ⟨acc, rfl, h2, fun x hx => absurd hx (by simp), fun x c e => ⟨c, e⟩⟩
  | (n, k) :: r, acc, h1, h2 => by
    have hr : ∀ x ∈ r, x.2 = NameKind.free → ∃ c, env.cells.lookup x.1 = some c := fun x hx => h1 x (List.mem_cons_of_mem _ hx)
    by_cases hk : k = .free
    · subst hk
      obtain ⟨c, hc⟩ := h1 (n, .free) List.mem_cons_self rfl
      have h2' : ∀ x d, ((n, c) :: acc).lookup x = some d → env.cells.lookup x = some d := fun x d e => by
        cases hx : x == n with
        | true =>
          have e1 : x = n := eq_of_beq hx
          subst e1
          simp only [List.lookup_cons, beq_self_eq_true] at e
          cases e
          exact hc
        | false =>
          simp only [List.lookup_cons, hx] at e
          exact h2 x d e
      obtain ⟨cl, q1, q2, q3, q4⟩ := closure_go r ((n, c) :: acc) hr h2'
      refine ⟨cl, ?_, q2, fun x hx hf => ?_, fun x d e => ?_⟩
      · rw [List.forIn_cons]
        have e1 : cellOf env n = pure c := by simp [cellOf, hc]
        simp only [beq_self_eq_true, if_true, e1]
        exact q1
      · rcases List.mem_cons.mp hx with rfl | hx
        · exact q4 n c (by simp)
        · exact q3 x hx hf
      · cases hx : x == n with
        | true =>
          have e1 : x = n := eq_of_beq hx
          subst e1
          exact q4 x c (by simp)
        | false => exact q4 x d (by simp only [List.lookup_cons, hx]; exact e)
    · have hb : (k == NameKind.free) = false := by simpa using hk
      obtain ⟨cl, q1, q2, q3, q4⟩ := closure_go r acc hr h2
      refine ⟨cl, ?_, q2, fun x hx hf => ?_, q4⟩
      · rw [List.forIn_cons]
        simp only [hb, Bool.false_eq_true, if_false]
        exact q1
      · rcases List.mem_cons.mp hx with rfl | hx
        · exact absurd hf hk
        · exact q3 x hx hf
theorem closure_of {scope : Scope} {env : Env} (h : ∀ x ∈ scope.names, x.2 = .free → ∃ c, env.cells.lookup x.1 = some c) :
    ∃ cl, closureFor scope env = pure cl ∧ (∀ x c, cl.lookup x = some c → env.cells.lookup x = some c) ∧ (∀ x ∈ scope.names, x.2 = .free → ∃ c, cl.lookup x.1 = some c) := by
  obtain ⟨cl, q1, q2, q3, _⟩ := closure_go scope.names [] h (fun x c e => by simp at e)
  refine ⟨cl, ?_, q2, q3⟩
  unfold closureFor
  simp only [bind_pure]
  exact q1

theorem mem_lookup : ∀ {names : List (Str × NameKind)} {x : Str} {k : NameKind}, names.lookup x = some k → (x, k) ∈ names
  | [], _, _, h => by simp at h
  | (n, k') :: r, x, k, h => by
    cases hx : x == n with
    | true =>
      have e : x = n := eq_of_beq hx
      subst e
      simp only [List.lookup_cons, beq_self_eq_true] at h
      cases h
      exact List.mem_cons_self
    | false =>
      simp only [List.lookup_cons, hx] at h
      exact List.mem_cons_of_mem _ (mem_lookup h)
theorem relabel_inv {env : Env} : ∀ {names : List (Str × NameKind)} {x : Str} {k : NameKind}, (∀ y ∈ names, y.2 ≠ .cell) → k = .cell ∨ k = .free →
    (names.map fun (n, k) => if (k == NameKind.free && env.scope.kind == .function && env.kindOf n == some .cell) then (n, NameKind.cell) else (n, k)).lookup x = some k → names.lookup x = some .free
  | [], _, _, _, _, h => by simp at h
  | (n, k') :: r, x, k, hc, hk, h => by
    have ih := @relabel_inv env r x k (fun y hy => hc y (List.mem_cons_of_mem _ hy)) hk
    have h' : List.lookup x ((if (k' == NameKind.free && env.scope.kind == .function && env.kindOf n == some .cell) = true then (n, NameKind.cell) else (n, k')) :: _) = some k := h
    cases hx : x == n with
    | true =>
      simp only [List.lookup_cons, hx]
      by_cases hd : (k' == NameKind.free && env.scope.kind == .function && env.kindOf n == some .cell) = true
      · have e : k' = .free := by
          have := (Bool.and_eq_true _ _ ▸ (Bool.and_eq_true _ _ ▸ hd).1).1
          exact eq_of_beq this
        rw [e]
      · rw [if_neg hd] at h'
        simp only [List.lookup_cons, hx] at h'
        have e : k' = k := Option.some.inj h'
        rcases hk with z | z
        · exact absurd (e.trans z) (hc (n, k') List.mem_cons_self)
        · rw [e, z]
    | false =>
      simp only [List.lookup_cons, hx]
      by_cases hd : (k' == NameKind.free && env.scope.kind == .function && env.kindOf n == some .cell) = true
      · rw [if_pos hd] at h'
        simp only [List.lookup_cons, hx] at h'
        exact ih h'
      · rw [if_neg hd] at h'
        simp only [List.lookup_cons, hx] at h'
        exact ih h'
theorem relabel_free {env : Env} : ∀ {names : List (Str × NameKind)} {x : Str}, names.lookup x = some .free →
    (names.map fun (n, k) => if (k == NameKind.free && env.scope.kind == .function && env.kindOf n == some .cell) then (n, NameKind.cell) else (n, k)).lookup x = some .cell ∨
    (names.map fun (n, k) => if (k == NameKind.free && env.scope.kind == .function && env.kindOf n == some .cell) then (n, NameKind.cell) else (n, k)).lookup x = some .free
  | [], _, h => by simp at h
  | (n, k') :: r, x, h => by
    have ih := @relabel_free env r x
    show List.lookup x ((if (k' == NameKind.free && env.scope.kind == .function && env.kindOf n == some .cell) = true then (n, NameKind.cell) else (n, k')) :: _) = some .cell ∨ List.lookup x ((if (k' == NameKind.free && env.scope.kind == .function && env.kindOf n == some .cell) = true then (n, NameKind.cell) else (n, k')) :: _) = some .free
    cases hx : x == n with
    | true =>
      simp only [List.lookup_cons, hx] at h
      by_cases hd : (k' == NameKind.free && env.scope.kind == .function && env.kindOf n == some .cell) = true
      · rw [if_pos hd]
        left
        simp [List.lookup_cons, hx]
      · rw [if_neg hd]
        simp only [List.lookup_cons, hx]
        exact .inr h
    | false =>
      simp only [List.lookup_cons, hx] at h
      by_cases hd : (k' == NameKind.free && env.scope.kind == .function && env.kindOf n == some .cell) = true
      · rw [if_pos hd]
        simp only [List.lookup_cons, hx]
        exact ih h
      · rw [if_neg hd]
        simp only [List.lookup_cons, hx]
        exact ih h

/-- the block's context -/
def Cx.comp (X : Cx) (sc : Scope) (Nc : List Str) (cl : List (Str × Addr)) (C : Addr) (s₀ : Shared) (H₀ : Hp) (ex : List Addr) : Cx :=
  { X with N := Nc, s₀ := s₀, H₀ := H₀, env := compEnvC sc cl C X.env, outer := X.stack, ex := ex, fn := fun _ => false, pn := [], xe := fun _ _ => False }
/-- what is asked of the block's names -/
structure CompNames (X : Cx) (sc : Scope) (Nc : List Str) (js : List (Option Nat)) : Prop where
  kind : sc.kind = .function
  cell : ∀ y ∈ sc.names, y.2 ≠ .cell
  loc : ∀ y ∈ sc.names, y.2 = .local → sc.names.lookup y.1 = some .local
  free : ∀ y ∈ sc.names, y.2 = .free → X.env.scope.names.lookup y.1 = some .cell ∨ X.env.scope.names.lookup y.1 = some .free
  len : js.length = Nc.length
  slot : ∀ (i j : Nat) (x : Str), js[i]? = some (some j) → Nc[i]? = some x → X.N[j]? = some x ∧ sc.names.lookup x = some .free
def compSt (js : List (Option Nat)) (σ : St) : St := js.map fun o => match o with
  | some j => (σ[j]?).getD none
  | none => none
/-- tests of a block -/
def PIfs (X : Cx) (ifs : List Expr) (t : TT) : Prop :=
  ∀ (pins : List (Addr × Obj)) (s : Shared) (σ : St) (H : Hp) (Q : Bool → Hp → Prop), Inv X pins σ H s → t σ H Q →
    wpAny (model X.prog X.w) X.A (forIn ifs true fun c r => if r = true then do let ok ← isTrue c X.env (eval c X.env); pure (ForInStep.yield ok) else pure (ForInStep.yield r)) (TP X pins σ Q) X.xe s
def tNoIf : TT := fun _ H Q => Q true H
theorem pifs_nil {X : Cx} : PIfs X [] tNoIf := fun _ _ _ H _ I h => wpAny_tests_nil ⟨H, I, h⟩

def tCompB (J : It) (g : TG) (tc : TT) (te : TE) (js : List (Option Nat)) : TE := fun σ H Q => ∀ D, H D = none → ∃ W : Nat → Nat → St → Hp → Prop, (∃ m, W 0 m (compSt js σ) (upd H D (.lst []))) ∧
  ∀ i m σ' H', W i m σ' H' → (J.stop i H' ∧ Q (.ref D) H') ∨ (J.go i H' ∧ ∃ N : St → Hp → Prop, (∀ σ3 H3, N σ3 H3 → ∃ m', m' < m ∧ W (i + 1) m' σ3 H3) ∧ ∀ x H2, J.yld i H' x H2 → g x σ' H2 fun σ3 H3 => tc σ3 H3 fun ok H4 =>
    if ok = true then te σ3 H4 fun v H5 => ∃ acc, H5 D = some (.lst acc) ∧ acc.length < sizeLine ∧ N σ3 (upd H5 D (.lst (acc ++ [v])))
    else N σ3 H4)
def tComp (wi : TI) (g : TG) (tc : TT) (te : TE) (js : List (Option Nat)) : TE := fun σ H Q => wi σ H fun J H1 => tCompB J g tc te js σ H1 Q

section
variable {X : Cx} {pins : List (Addr × Obj)} {σ : St} {H2 : Hp} {s2 : Shared} {elt tgt iter : Expr} {ifs : List Expr} {sc : Scope} {pos : Pos} {Nc : List Str} {js : List (Option Nat)} {cl : List (Str × Addr)} {g : TG} {tc : TT} {te : TE} {Q : VK}
  {E : Value → Shared → Prop} {RR : Value → Addr → Result → Shared → Prop} {it : Addr} {fp : List Addr} {tn : Nat → Heap → Prop} {J : It}
theorem Inv.blockOk (cn : CompNames X sc Nc js) (hcl1 : ∀ x c, cl.lookup x = some c → X.env.cells.lookup x = some c) (hcl2 : ∀ x ∈ sc.names, x.2 = .free → ∃ c, cl.lookup x.1 = some c)
    (I : Inv X pins σ H2 s2) (ff : ∀ b ∈ fp, FpOk X pins H2 b) (fl : ∀ b ∈ fp, b < s2.heap.objs.size) : (X.comp sc Nc cl (s2.heap.objs.size + 1) s2 H2 fp).Ok where
  mod := I.ok.mod
  kind := cn.kind
  glob := I.ok.glob
  blt := I.ok.blt
  above := Nat.le_succ _
  inj := fun x y c h1 h2 => I.ok.inj x y c (hcl1 x c h1) (hcl1 y c h2)
  has := fun x hx => by
    have e : sc.names.lookup x = some .free := by
      rcases hx with hx | hx
      · exact relabel_inv (env := X.env) cn.cell (.inl rfl) hx
      · exact relabel_inv (env := X.env) cn.cell (.inr rfl) hx
    exact hcl2 (x, .free) (mem_lookup e) rfl
  cab := fun x c z => by cases z
  hd := I.ok.hd
  frames := I.ok.frames
  stk := .inl rfl
  exf := fun b hb => ⟨Nat.ne_of_lt (Nat.lt_succ_of_lt (fl b hb)), fun x c e => (ff b hb).2.2.2.2.1 x c (hcl1 x c e)⟩
  bs := I.bs
  bsz := Nat.le_trans I.ok.bsz I.sz
  noex := fun b o e hb => by
    obtain ⟨f0, f1, f2, f3, f4, f5⟩ := ff b hb
    rcases f3 with z | z
    · exact I.ok.noex b o e z
    · exact absurd (Nat.lt_of_lt_of_le (Heap.lt_size e) (Nat.le_trans I.ok.bsz z)) (Nat.lt_irrefl _)
  exfs := fun b hb z => by
    obtain ⟨f0, f1, f2, _⟩ := ff b hb
    exact (List.mem_cons.mp (I.stkSub b z)).elim f1 f2
  funs := I.stack
  frf := I.stkFree
theorem comp_run (cn : CompNames X sc Nc js) (hcl1 : ∀ x c, cl.lookup x = some c → X.env.cells.lookup x = some c) (hcl2 : ∀ x ∈ sc.names, x.2 = .free → ∃ c, cl.lookup x.1 = some c)
    (hg : ∀ cl C s₀ H₀ ex, PG (X.comp sc Nc cl C s₀ H₀ ex) tgt g) (ht : ∀ cl C s₀ H₀ ex, PIfs (X.comp sc Nc cl C s₀ H₀ ex) ifs tc) (he : ∀ cl C s₀ H₀ ex, PE (X.comp sc Nc cl C s₀ H₀ ex) elt te) (hc : X.calm = true)
    (I : Inv X pins σ H2 s2) (T : Turn X.prog X.w X.K tgt J fp it tn) (st : tn 0 s2.heap) (ff : ∀ b ∈ fp, FpOk X pins H2 b) (body : tCompB J g tc te js σ H2 Q)
    (fin : ∀ D C m H' s', Inv X pins σ H' s' → s'.heap.Ns C m → H' C = none → C ≠ X.env.locals → X.s₀.heap.objs.size ≤ C → (∀ x c, X.env.cells.lookup x = some c → c ≠ C) → (∀ p ∈ X.pn ++ pins, p.1 ≠ C) → Q (.ref D) H' → RR (.ref D) C (.ok .next) s') :
    wpAny (model X.prog X.w) X.A (newList []) (fun acc s3 => wpAny (model X.prog X.w) X.A (newFunctionEnv sc X.env.globals cl [] X.env.qual none .none (some X.env)) (fun cenv s4 =>
      codeAny (model X.prog X.w) X.A (.compStart (.ListComp elt [⟨tgt, iter, ifs, 0⟩] sc pos) 0 (.ref it) acc { cenv with scope := relabel sc X.env }) (RR acc cenv.locals) s4) E s3) E s2 := by
  refine wpAny_newObj_type (wpAny_newFunctionEnv cn.cell (by intro y hy; simp at hy) (fun h₁ hns₁ hsb₁ => ?_) cn.kind)
  dsimp only at hns₁ hsb₁ ⊢
  have fl : ∀ b ∈ fp, b < s2.heap.objs.size := fun b hb => by
    obtain ⟨o, e, _⟩ := T.obj 0 _ st b hb
    exact Heap.lt_size e
  generalize hP : s2.heap.push { cls := .type "list", dict := none, data := .seq ([] : List Value).toArray } = P2 at hns₁ hsb₁ ⊢
  have hC : P2.objs.size = s2.heap.objs.size + 1 := by rw [← hP, Heap.size_push]
  have hDC : s2.heap.objs.size ≠ P2.objs.size := by rw [hC]; exact Nat.ne_of_lt (Nat.lt_succ_self _)
  have old : ∀ b o, s2.heap.get? b = some o → h₁.get? b = some o := fun b o e => by
    have hb : b ≠ P2.objs.size := by rw [hC]; exact Nat.ne_of_lt (Nat.lt_succ_of_lt (Heap.lt_size e))
    exact hsb₁.extBut b o hb (Heap.get?_push_of_some _ (hP ▸ Heap.get?_push_of_some _ e))
  have hacc : h₁.get? s2.heap.objs.size = some { cls := .type "list", dict := none, data := .seq ([] : List Value).toArray } :=
    hsb₁.extBut _ _ hDC (Heap.get?_push_of_some _ (hP ▸ Heap.get?_push_size _ rfl))
  have fD : H2 s2.heap.objs.size = none := I.hok.fresh (Nat.le_refl _)
  have fC : H2 (s2.heap.objs.size + 1) = none := I.hok.fresh (Nat.le_succ _)
  have ok := Inv.blockOk cn hcl1 hcl2 I ff fl
  obtain ⟨W, ⟨m0, w0⟩, turn⟩ := body s2.heap.objs.size fD
  -- the block's first state
  have I4 : Inv (X.comp sc Nc cl (s2.heap.objs.size + 1) s2 H2 fp) [] (compSt js σ) (upd H2 s2.heap.objs.size (.lst [])) { s2 with heap := h₁, toks := s2.toks + ([] : List (Str × Value)).length } := by
    refine ⟨ok, rfl, I.bare, Un.laid old (Nat.le_refl _) fD, ⟨_, by rw [hC] at hns₁; exact hns₁, fun i x v e1 e2 e3 => ?_⟩, fun x c e => ?_, ?_, fun x c e => ?_, fun p hp => absurd (show p ∈ ([] : List (Addr × Obj)) from hp) (by simp), I.hok.laid old (Nat.le_refl _) ?_, ?_⟩
    · -- a name of the block that has a value is a free one
      have e2' : (js.map fun o => match o with | some j => (σ[j]?).getD none | none => none)[i]? = some (some v) := e2
      rw [List.getElem?_map] at e2'
      cases ej : js[i]? with
      | none => rw [ej] at e2'; cases e2'
      | some o =>
        cases o with
        | none => rw [ej] at e2'; cases e2'
        | some j =>
          rw [ej] at e2'
          have e3' : (σ[j]?).getD none = some v := Option.some.inj e2'
          have e4 : σ[j]? = some (some v) := by
            cases q : σ[j]? with
            | none => rw [q] at e3'; cases e3'
            | some z => rw [q] at e3'; rw [show z = some v from e3']
          obtain ⟨n1, n2⟩ := cn.slot i j x ej e1
          have n3 := cn.free (x, .free) (mem_lookup n2) rfl
          obtain ⟨m, hn, hl⟩ := I.loc
          obtain ⟨u, r, l⟩ := hl j x v n1 e4 (.inr n3)
          refine ⟨u, r, .inr ⟨relabel_free (env := X.env) n2, ?_⟩⟩
          obtain ⟨c, hc'⟩ := hcl2 (x, .free) (mem_lookup n2) rfl
          refine ⟨c, hc', ?_⟩
          rcases l with ⟨k, _⟩ | ⟨_, c', e5, z⟩
          · have k' : X.env.scope.names.lookup x = some .local := k
            rcases n3 with n3 | n3
            · rw [k'] at n3; cases n3
            · rw [k'] at n3; cases n3
          · have e6 := hcl1 x c hc'
            rw [e5] at e6
            cases e6
            obtain ⟨o, ho, hd⟩ := z
            exact ⟨o, old _ o ho, hd⟩
    · obtain ⟨v, o, ho, hd⟩ := I.cell x c (hcl1 x c e)
      exact ⟨v, o, old _ o ho, hd⟩
    · show upd H2 s2.heap.objs.size (.lst []) (s2.heap.objs.size + 1) = none
      rw [upd_ne (Nat.ne_of_gt (Nat.lt_succ_self _))]
      exact fC
    · obtain ⟨v, o, ho, hd⟩ := I.cell x c (hcl1 x c e)
      rw [upd_ne (Nat.ne_of_lt (Heap.lt_size ho))]
      exact I.freeC x c (hcl1 x c e)
    · exact ⟨Nat.zero_le _, [], 0, .nil, hacc⟩
    · show (js.map _).length = Nc.length
      rw [List.length_map]
      exact cn.len
  have fpD : ∀ b ∈ fp, upd H2 s2.heap.objs.size (.lst []) b = none := fun b hb => by
    rw [upd_ne (Nat.ne_of_lt (fl b hb))]
    exact (ff b hb).1
  have st4 : tn 0 h₁ := T.keep 0 _ _ st fun b hb o e => old b o e
  -- the iterator's objects through the block
  have stat : ∀ {H' : Hp}, (∀ b ∈ fp, H' b = none) → ∀ b ∈ fp, FpOk (X.comp sc Nc cl (s2.heap.objs.size + 1) s2 H2 fp) [] H' b := fun hn b hb =>
    ⟨hn b hb, (ok.exf b hb).1, ok.exfs b hb, .inl hb, (ok.exf b hb).2, fun p hp => absurd (show p ∈ ([] : List (Addr × Obj)) from hp) (by simp)⟩
  have loop : ∀ s3 : Shared, s3 = { s2 with heap := h₁, toks := s2.toks + ([] : List (Str × Value)).length } →
      codeAny (model X.prog X.w) X.A (.compLoop (.ListComp elt [⟨tgt, iter, ifs, 0⟩] sc pos) 0 (.ref it) (.ref s2.heap.objs.size) (compEnvC sc cl (s2.heap.objs.size + 1) X.env))
        (RR (.ref s2.heap.objs.size) (s2.heap.objs.size + 1)) s3 := by
    rintro s3 rfl
    refine compLoop_any (fun n s' => ∃ i σ' H', Inv (X.comp sc Nc cl (s2.heap.objs.size + 1) s2 H2 fp) [] σ' H' s' ∧ tn i s'.heap ∧ (∀ b ∈ fp, H' b = none) ∧ W i n σ' H') ?_ m0 ⟨0, _, _, I4, st4, fpD, w0⟩
    rintro n s5 ⟨i, σ5, H5, I5, st5, fr5, w5⟩
    rcases turn i n σ5 H5 w5 with ⟨stop, q⟩ | ⟨go, N, hN, step⟩
    · refine wpAny_mono (T.done (X.comp sc Nc cl (s2.heap.objs.size + 1) s2 H2 fp) rfl rfl rfl hc i [] s5 σ5 H5 (fun _ _ => False) I5 (stat fr5) st5 stop) (fun r s6 ⟨hr, I6⟩ => ?_) fun _ _ z => z
      subst hr
      -- back in the def
      have I7 : Inv X pins σ H5 s6 := by
        refine I.call' (ch := fp) I6.os I6.base I6.hok I6.bare fun b hb => ?_
        obtain ⟨f0, f1, f2, f3, f4, f5⟩ := ff b hb
        exact ⟨f3, f1, f4, f5⟩
      obtain ⟨m, hn, _⟩ := I6.loc
      refine fin s2.heap.objs.size (s2.heap.objs.size + 1) m H5 s6 I7 hn I6.free ?_ ?_ (fun x c e z => ?_) (fun p hp z => ?_) q
      · exact Nat.ne_of_gt (Nat.lt_succ_of_lt I.lt)
      · exact Nat.le_trans I.sz (Nat.le_succ _)
      · obtain ⟨v, o, ho, hd⟩ := I.cell x c e
        have := Heap.lt_size ho
        rw [z] at this
        exact absurd (Nat.lt_of_lt_of_le this (Nat.le_succ _)) (Nat.lt_irrefl _)
      · have := Heap.lt_size (I.pin p hp).1
        rw [z] at this
        exact absurd (Nat.lt_of_lt_of_le this (Nat.le_succ _)) (Nat.lt_irrefl _)
    · refine wpAny_mono (T.item (X.comp sc Nc cl (s2.heap.objs.size + 1) s2 H2 fp) rfl rfl rfl hc i [] s5 σ5 H5 (fun _ _ => False) I5 (stat fr5) st5 go) (fun r s6 ⟨u, hr, h6⟩ => ?_) fun _ _ z => z
      subst hr
      refine wpAny_mono h6 (fun _ s7 ⟨x, H7, I7, r7, y7, st7, fr7⟩ => ?_) fun _ _ z => z
      have I7' := I7.pinned (stat fr7) (T.obj _ _ st7)
      refine wpAny_mono (hg cl (s2.heap.objs.size + 1) s2 H2 fp _ s7 σ5 H7 x u _ I7' r7 (step x H7 y7)) (fun _ s8 ⟨σ8, H8, I8, q8⟩ => ?_) fun _ _ z => z
      refine wpAny_mono (ht cl (s2.heap.objs.size + 1) s2 H2 fp _ s8 σ8 H8 _ I8 q8) (fun okb s9 ⟨H9, I9, q9⟩ => ?_) fun _ _ z => z
      have again : ∀ {σ' : St} {H' : Hp} {s' : Shared}, Inv (X.comp sc Nc cl (s2.heap.objs.size + 1) s2 H2 fp) ([] ++ pinsAt fp s7.heap) σ' H' s' → N σ' H' →
          ∃ m, m < n ∧ ∃ i σ' H', Inv (X.comp sc Nc cl (s2.heap.objs.size + 1) s2 H2 fp) [] σ' H' s' ∧ tn i s'.heap ∧ (∀ b ∈ fp, H' b = none) ∧ W i m σ' H' := fun {σ' H' s'} Ia na => by
        obtain ⟨m', hm, wa⟩ := hN _ _ na
        refine ⟨m', hm, i + 1, σ', H', Ia.unpinned, T.keep _ _ _ st7 fun b hb o e => (Ia.pin (b, o) (List.mem_append_right _ (List.mem_append_right _ (mem_pinsAt hb e)))).1, fun b hb => ?_, wa⟩
        obtain ⟨o, e, d⟩ := T.obj _ _ st7 b hb
        exact (Ia.pin (b, o) (List.mem_append_right _ (List.mem_append_right _ (mem_pinsAt hb e)))).2.1
      cases okb with
      | false => exact again I9 q9
      | true =>
        refine wpAny_mono (he cl (s2.heap.objs.size + 1) s2 H2 fp _ s9 σ8 H9 _ I9 q9) (fun y s10 ⟨v, H10, I10, r10, acc, ea, la, q10⟩ => ?_) fun _ _ z => z
        refine wpAny_mono (mt_append (X := X.comp sc Nc cl (s2.heap.objs.size + 1) s2 H2 fp) _ s10 σ8 H10 (.ref s2.heap.objs.size) [v] _ [y] (fun _ H' => H' = upd H10 s2.heap.objs.size (.lst (acc ++ [v]))) I10 rfl (.cons r10 .nil) ⟨_, acc, v, rfl, rfl, ea, la, rfl⟩)
          (fun _ s11 ⟨_, H11, I11, _, e11⟩ => ?_) fun _ _ z => z
        subst e11
        exact again I11 q10
  rw [hC]
  exact codeAny_compStart_list (loop _ rfl) (T.self _ 0 _ _ _ st4 (loop _ rfl))

/-- [elt for tgt in iter if ..] -/
theorem pe_comp {wi : TI} (cn : CompNames X sc Nc js) (hi : PI X tgt iter wi) (hg : ∀ cl C s₀ H₀ ex, PG (X.comp sc Nc cl C s₀ H₀ ex) tgt g) (ht : ∀ cl C s₀ H₀ ex, PIfs (X.comp sc Nc cl C s₀ H₀ ex) ifs tc)
    (he : ∀ cl C s₀ H₀ ex, PE (X.comp sc Nc cl C s₀ H₀ ex) elt te) (hc : X.calm = true) (hs : ∀ x, foldedSetIterable iter X.env x = pure x := by intro _; rfl) : PE X (.ListComp elt [⟨tgt, iter, ifs, 0⟩] sc pos) (tComp wi g tc te js) := by
  intro pins s σ H Q I h
  obtain ⟨cl, q1, q2, q3⟩ := closure_of (scope := sc) (env := X.env) (fun x hx hf => I.ok.has x.1 (cn.free x hx hf))
  rw [eval_ListComp]
  refine wpAny_comprehension_free (use := none) rfl hs q1 cn.kind cn.loc (thn (hi pins s σ H _ I h) fun v s1 h1 => thn h1 fun itv s2 h2 => ?_)
  obtain ⟨it, fp, tn, J, H2, e, I2, T, st2, f2, body⟩ := h2
  subst e
  refine comp_run (RR := fun acc C => compPost (model X.prog X.w) X.A X.xe none (EP X pins σ Q) acc C) cn q2 q3 hg ht he hc I2 T st2 f2 body ?_
  intro D C m H' s' I' hn hC1 hC2 hC3 hC4 hC5 q
  exact ⟨m, hn, fun h' hs' => ⟨.ref D, H', I'.turned (t' := s'.toks) (it := C) (fun b o hb e => (hs'.2 b hb).trans e) hC1 hC2 (.inr hC3) hC4 hC5, rfl, q⟩⟩
end

/-! ### the forms one uses -/
section
variable {K : PySem.W.Frag} {a : Addr} {xs : List V} {g : TG} {tc : TT} {te : TE} {js : List (Option Nat)} {σ : St} {H : Hp} {Q : VK}
end
end L2

/-! more rules of mine -/
namespace L2
open PySem PySem.Spec PyProof.Rows

/-! ### a block's names by one look -/
def compOk (osc : Scope) (ON : List Str) (sc : Scope) (Nc : List Str) (js : List (Option Nat)) : Bool :=
  decide (sc.kind = .function) && sc.names.all (fun y => decide (y.2 ≠ .cell) && (decide (y.2 ≠ .local) || decide (sc.names.lookup y.1 = some .local)) && (decide (y.2 ≠ .free) || decide (osc.names.lookup y.1 = some .cell) || decide (osc.names.lookup y.1 = some .free))) &&
    decide (js.length = Nc.length) && (js.zip Nc).all (fun p => match p.1 with
      | none => true
      | some j => decide (ON[j]? = some p.2) && decide (sc.names.lookup p.2 = some .free))
theorem CompNames.of {X : Cx} {sc : Scope} {Nc : List Str} {js : List (Option Nat)} (h : compOk X.env.scope X.N sc Nc js = true) : CompNames X sc Nc js := by
  unfold compOk at h
  simp only [Bool.and_eq_true, List.all_eq_true, Bool.or_eq_true, decide_eq_true_eq] at h
  obtain ⟨⟨⟨h1, h2⟩, h3⟩, h4⟩ := h
  refine ⟨h1, fun y hy => (h2 y hy).1.1, fun y hy e => ?_, fun y hy e => ?_, h3, fun i j x e1 e2 => ?_⟩
  · rcases (h2 y hy).1.2 with z | z
    · exact absurd e z
    · exact z
  · rcases (h2 y hy).2 with (z | z) | z
    · exact absurd e z
    · exact .inl z
    · exact .inr z
  · have hm : (some j, x) ∈ js.zip Nc := by
      refine List.mem_of_getElem? (i := i) ?_
      rw [List.getElem?_zip_eq_some]
      exact ⟨e1, e2⟩
    have := h4 _ hm
    simpa using this

/-! ### // by a great divisor -/
def CDivL (_ j : Int) : Prop := 0 < j ∧ j.natAbs.log2 < 9000
theorem CDivL.small {i j : Int} (h : 0 < j) (h2 : j < 1073741824) : CDivL i j := by
  refine ⟨h, ?_⟩
  have e : j.natAbs.log2 < 30 := (Nat.log2_lt (by omega)).mpr (by have : (2 : Nat) ^ 30 = 1073741824 := by decide
                                                                  omega)
  omega
theorem CDivL.pow {i : Int} {k : Nat} (h : k < 9000) : CDivL i (2 ^ k) := by
  have e : (2 : Int) ^ k = ((2 ^ k : Nat) : Int) := by simp
  have p : 0 < 2 ^ k := Nat.pow_pos (by decide)
  refine ⟨by rw [e]; omega, ?_⟩
  rw [e, Int.natAbs_natCast]
  refine (Nat.log2_lt (by omega)).mpr ?_
  exact Nat.pow_lt_pow_right (by decide) h
section
variable {X : Cx}
theorem op_fdivL : OpR X (binaryOp .FloorDiv) (rI CDivL fun i j => .int (i / j)) := opI fun i j _ _ _ _ _ hc q => by
  have h1 : (0 : Int) < j := hc.1
  exact floordiv_int (by omega) (by rw [Int.fdiv_eq_ediv_of_nonneg i (by omega)]; exact q) (.inl (PyProof.noPylong_of_log2 hc.2))

/-! ### isinstance of one class -/

/-! ### sum of a list of ints -/

/-! ### == and != of data -/
end

/-! ### tests, as they come -/
theorem iteD {c A B : Prop} [Decidable c] (h1 : c → A) (h2 : ¬ c → B) : if decide c = true then A else B := by
  by_cases h : c
  · rw [decide_eq_true h]; exact iteT (h1 h)
  · rw [decide_eq_false h]; exact iteF (h2 h)
theorem iteV {i j : Int} {A B : Prop} (h1 : i = j → A) (h2 : ¬ i = j → B) : if decide (V.int i = V.int j) = true then A else B :=
  iteD (fun h => h1 (V.int.inj h)) (fun h => h2 fun e => h (by rw [e]))
end L2

namespace L2
open PySem
theorem bt_len : bootBuiltins "len" = some (.builtin "len") := by decide +kernel
theorem bt_isinstance : bootBuiltins "isinstance" = some (.builtin "isinstance") := by decide +kernel
theorem bt_all : bootBuiltins "all" = some (.builtin "all") := by decide +kernel
theorem bt_int : bootBuiltins "int" = some (.type "int") := by decide +kernel
theorem bt_list : bootBuiltins "list" = some (.type "list") := by decide +kernel
theorem bt_str : bootBuiltins "str" = some (.type "str") := by decide +kernel
theorem bt_enumerate : bootBuiltins "enumerate" = some (.type "enumerate") := by decide +kernel
end L2

/-! ### the script's ints have bounded bits -/
namespace L2
open PySem PySem.W PySem.Spec PyProof.Rows
theorem weight_ints : ∀ (ns : List Int) (n : Int), n ∈ ns → WData.weight (.int n) ≤ WData.weightAll (ns.map WData.int)
  | [], _, h => by cases h
  | m :: r, n, h => by
    have e : WData.weightAll ((m :: r).map WData.int) = WData.weight (.int m) + WData.weightAll (r.map WData.int) + 1 := by simp [WData.weightAll] <;> omega
    rcases List.mem_cons.mp h with rfl | h
    · omega
    · have := weight_ints r n h
      omega
theorem bits_of_lay {ns : List Int} (h : WData.layableAll [WData.list (ns.map WData.int)] = true) : ∀ n ∈ ns, Builtin.Int.intBits n ≤ 2 ^ 20 := by
  intro n hn
  have h1 : WData.layable (WData.list (ns.map WData.int)) = true := by simpa [WData.layableAll] using h
  have h2 : WData.weight (WData.list (ns.map WData.int)) ≤ 2 ^ 20 := of_decide_eq_true (Bool.and_eq_true_iff.mp h1).2
  have h3 := weight_ints ns n hn
  have h4 : WData.weightAll (ns.map WData.int) ≤ WData.weight (WData.list (ns.map WData.int)) := by simp [WData.weight] <;> omega
  have h5 : Builtin.Int.intBits n ≤ WData.weight (.int n) := by simp [WData.weight, Builtin.Int.intBits] <;> omega
  omega
/-- the goal behind k_head from the law's promise; the ints' bits are bounded too -/
theorem walk_ofB {l : PySem.W.OpenLaw} {n k : Nat} {q : Program} {loose : List Str} {XP : (Str → Option Value) → Heap → Prop} {YP : World → Heap → Prop} {d : DefRec} {K : Params → PySem.W.Frag} {CX : World → CXT} {sp : World → Sp} {x : Str}
    (hn : l.most = some n) (hn2 : n ≤ sizeLine) (hdf : d.params.defaults = []) (hr : Room k callerA)
    (hY : ∀ (w : World) (h : Heap), YP w h → (K w.params).In h)
    (F : ∀ (w : World) (mg : Str → Option Value) (fa : Addr) (h : Heap), (K w.params).In h → h.Ns mainGlobals mg → mg d.name = some (.ref fa) →
      ∃ fd : FuncData, (∀ (s : Shared) (u : Value), BindsTo s fd ⟨[u], []⟩ [(x, u)]) ∧
        ∀ base : Heap, (K w.params).In base → base.Ns mainGlobals mg → FnOk l.prog w (K w.params) mg base (CX w) k fa fd [x] (sp w))
    (hsp : ∀ (w : World) (H : Hp) (a : Addr) (ns : List Int), ns.length ≤ n → (∀ z ∈ ns, Builtin.Int.intBits z ≤ 2 ^ 20) → Only H → SqL (K w.params) H a (ns.map V.int) → sp w [.ref a] H (fun v _ => v = .bl true) fun _ _ _ => False)
    (hCX : ∀ (w : World) (H : Hp) (s : Shared) (e : Value) (s' : Shared), CX w [] H s (fun _ _ _ => False) e s' → False) :
    PySem.W.WalkO q loose XP YP l.row.toRowW d [] (fun f vs => PySem.call f vs) := by
  intro w s₀ s₁ mg mb G Y fa o pm cd doc dV kV ho hd hcd hD hmg hg args vals as hpre hlay hrd hwl hlo
  obtain rfl : dV = .none := Dflts.none hD hdf
  obtain rfl : kV = .none := Dflts.noKw hD
  obtain ⟨a, vs, ns, rfl, rfl, hobj, hints, hlen⟩ := Att.script_of hn hpre hwl
  have KX := hY w _ Y
  obtain ⟨fd, hb, hF⟩ := F w mg fa _ KX G.T.g hmg
  refine enter_call (codeAny_mono (law_call KX G.T.g G.T.b G.T.builtins G.T.nolimit hg hobj hints (Nat.le_trans hlen hn2) hr hF hb (fun H hO hS => hsp w H a ns hlen (bits_of_lay hlay) hO hS) fun H e s' => hCX w H s₁ e s') fun r s' hq => ?_)
  obtain ⟨rfl, h2, h3, h4⟩ := hq
  exact ⟨.inl ⟨.bool true, .bool true, [], rfl, fun _ => rfl, .bool true, Att.post_true l _, fun _ => ⟨List.Pairwise.nil, fun _ hm => (nomatch hm)⟩⟩, h2, h3, h4⟩

def CMulB (i j : Int) : Prop := CMul i j ∨ (Builtin.Int.intBits i ≤ 2 ^ 20 ∧ Builtin.Int.intBits j ≤ 2 ^ 20)
theorem op_mulB {X : Cx} : OpR X (binaryOp .Mult) (rI CMulB fun i j => .int (i * j)) := opI fun _ _ _ _ _ _ _ hc q => mul_int q (by
  rcases hc with hc | hc
  · exact hc.ok
  · exact IntMulOk.of_bits hc.1 hc.2)
end L2

set_option linter.all false
/-! MORE OF MY OWN: heaps by letters, a new object, a change; rules read so -/
set_option linter.all false
namespace L2
open PySem PySem.Spec PyProof.Rows

/-- p is new, and holds o -/
structure New (H H' : Hp) (p : Addr) (o : HO) : Prop where
  free : H p = none
  eq : H' = upd H p o
/-- what stood at p, o, is o' now -/
structure Chg (H H' : Hp) (p : Addr) (o o' : HO) : Prop where
  was : H p = some o
  eq : H' = upd H p o'
/-- no tuple has changed -/
def TSame (H H' : Hp) : Prop := ∀ b xs, H b = some (.tup xs) → H' b = some (.tup xs)
section
variable {H H' H'' : Hp} {p q : Addr} {o o' x y : HO}
theorem New.at (n : New H H' p o) : H' p = some o := by rw [n.eq, upd_same]
theorem New.ne (n : New H H' p o) (h : H q = some x) : q ≠ p := ne_of_none h n.free
theorem New.old (n : New H H' p o) (h : H q = some x) : H' q = some x := by rw [n.eq, upd_ne (n.ne h)]; exact h
theorem New.same (n : New H H' p o) : Same H H' := fun _ _ h => n.old h
theorem New.free' (n : New H H' p o) (h : H' q = none) : H q = none := n.same.free h
theorem New.ts (n : New H H' p o) : TSame H H' := fun _ _ h => n.old h
theorem Chg.at (n : Chg H H' p o o') : H' p = some o' := by rw [n.eq, upd_same]
theorem Chg.old (n : Chg H H' p o o') (e : q ≠ p) (h : H q = some x) : H' q = some x := by rw [n.eq, upd_ne e]; exact h
theorem Chg.ts {xs : List V} {o' : HO} (n : Chg H H' p (.lst xs) o') : TSame H H' := fun b ys h => n.old (ne_of h n.was (by intro z; cases z)) h
theorem Same.old (s : Same H H') (h : H q = some x) : H' q = some x := s _ _ h
theorem Same.ts (s : Same H H') : TSame H H' := fun _ _ h => s _ _ h
theorem Same.new (s : Same H H') (n : New H' H'' p o) : Same H H'' := s.trans n.same
/-- what was not there is written -/
theorem Same.chg (s : Same H H') (h : H p = none) (n : Chg H' H'' p o o') : Same H H'' := fun _ _ e => n.old (ne_of_none e h) (s _ _ e)
theorem Same.upd (s : Same H H') (h : H p = none) : Same H (upd H' p o) := fun _ _ e => by rw [upd_ne (ne_of_none e h)]; exact s _ _ e
theorem TSame.trans (a : TSame H H') (b : TSame H' H'') : TSame H H'' := fun c o h => b c o (a c o h)
end

section
variable {X : Cx} {e : Expr} {es : List Expr} {t t' : TE} {ta : TA} {pos : Pos}
theorem OpR.weak {f : Value → Value → Sem Value} {r r' : R2} (h : OpR X f r) (m : ∀ x y H Q, r' x y H Q → r x y H Q) : OpR X f r' := fun pins s σ H x y v u Q I rx ry q => h pins s σ H x y v u Q I rx ry (m x y H Q q)
theorem CallR.weak {f : Value} {r r' : List V → Hp → VK → Prop} (h : CallR X f r) (m : ∀ xs H Q, r' xs H Q → r xs H Q) : CallR X f r' := fun pins s σ H xs us Q I rx q => h pins s σ H xs us Q I rx (m xs H Q q)
theorem SlR.weak {r r' : V → Option Int → Option Int → Hp → VK → Prop} (h : SlR X r) (m : ∀ x l u H Q, r' x l u H Q → r x l u H Q) : SlR X r' :=
  fun pins s σ H x v vl vu lo hi sl Q I rx hs pl pu q => h pins s σ H x v vl vu lo hi sl Q I rx hs pl pu (m x lo hi H Q q)
theorem MtR.weak {id : String} {r r' : V → List V → Hp → VK → Prop} (h : MtR X id r) (m : ∀ x xs H Q, r' x xs H Q → r x xs H Q) : MtR X id r' := fun pins s σ H v xs u us Q I rx rs q => h pins s σ H v xs u us Q I rx rs (m v xs H Q q)

/-! ### new lists and tuples -/
def tTupN (t : TA) : TE := fun σ H Q => t σ H fun xs H1 => xs.length ≤ sizeLine ∧ ∀ p H2, New H1 H2 p (.tup xs) → Q (.ref p) H2
def tLstN (t : TA) : TE := fun σ H Q => t σ H fun xs H1 => xs.length ≤ sizeLine ∧ ∀ p H2, New H1 H2 p (.lst xs) → Q (.ref p) H2
theorem news_eq {H : Hp} {o : HO} {Q : VK} : (∀ p H2, New H H2 p o → Q (.ref p) H2) = ∀ p, H p = none → Q (.ref p) (upd H p o) :=
  propext ⟨fun h p hp => h p _ ⟨hp, rfl⟩, fun h p H2 n => by rw [n.eq]; exact h p n.free⟩
theorem tTupN_eq : tTupN ta = tTup ta := by funext σ H Q; unfold tTupN tTup; simp only [news_eq]
theorem tLstN_eq : tLstN ta = tLst ta := by funext σ H Q; unfold tLstN tLst; simp only [news_eq]
theorem pe_tupN {x1} (h : PA X es ta) : PE X (.Tuple es x1 pos) (tTupN ta) := by rw [tTupN_eq]; exact pe_tup h
theorem pe_lstN (h : PA X es ta) : PE X (.List es pos) (tLstN ta) := by rw [tLstN_eq]; exact pe_lst h
def rSlLN (K : PySem.W.Frag) : V → Option Int → Option Int → Hp → VK → Prop := fun x lo hi H Q => ∃ a xs, x = .ref a ∧ SqL K H a xs ∧ ∀ p H2, New H H2 p (.lst (cutV xs lo hi)) → Q (.ref p) H2
theorem sl_listN : SlR X (rSlLN X.K) := sl_list.weak fun x l u H Q ⟨a, xs, h1, h2, h3⟩ => ⟨a, xs, h1, h2, by rw [news_eq] at h3; exact h3⟩
def rCatN : R2 := fun x y H Q => ∃ l b xs zs, x = .ref l ∧ y = .ref b ∧ H l = some (.lst xs) ∧ H b = some (.lst zs) ∧ xs.length + zs.length ≤ sizeLine ∧ ∀ p H2, New H H2 p (.lst (xs ++ zs)) → Q (.ref p) H2
theorem op_catN : OpR X (binaryOp .Add) rCatN := op_cat.weak fun x y H Q ⟨l, b, xs, zs, h1, h2, h3, h4, h5, h6⟩ => ⟨l, b, xs, zs, h1, h2, h3, h4, h5, by rw [news_eq] at h6; exact h6⟩
theorem call_list_ofN : CallR X (.type "list") (fun xs H Q => ∃ p ys, xs = [.ref p] ∧ (SqL X.K H p ys ∨ SqT X.K H p ys) ∧ ∀ l H2, New H H2 l (.lst ys) → Q (.ref l) H2) :=
  call_list_of.weak fun xs H Q ⟨p, ys, h1, h2, h3⟩ => ⟨p, ys, h1, h2, by rw [news_eq] at h3; exact h3⟩
/-! ### changes -/
def rAppendN : V → List V → Hp → VK → Prop := fun x vs H Q => ∃ l xs y, x = .ref l ∧ vs = [y] ∧ H l = some (.lst xs) ∧ xs.length < sizeLine ∧ ∀ H2, Chg H H2 l (.lst xs) (.lst (xs ++ [y])) → Q .non H2
theorem mt_appendN : MtR X "list.append" rAppendN := MtR.weak mt_append fun x vs H Q ⟨l, xs, y, h1, h2, h3, h4, h5⟩ => ⟨l, xs, y, h1, h2, h3, h4, h5 _ ⟨h3, rfl⟩⟩
end
section
variable {X : Cx} {e o i value : Expr} {to te td ty tv : TE} {pos pos' : Pos}
/-- o.f = e -/
def sFldN (K : PySem.W.Frag) (ta tv : TE) (f : Str) : TS := fun D σ H => tv σ H fun y H1 => ta σ H1 fun x H2 => ∃ a C dx fs, x = .ref a ∧ H2 a = some (.ins C dx fs) ∧ Cls K C ∧ NoAttr K C f ∧ fs.length < 1000 ∧
  ∀ H3, Chg H2 H3 a (.ins C dx fs) (.ins C dx (putF f y fs)) → D.nx σ H3
theorem sFldN_eq {K : PySem.W.Frag} {f : Str} : sFldN K to tv f = sFld K to tv f := by
  funext D σ H
  unfold sFldN sFld
  have c : ∀ (x y : V) (H2 : Hp), (∃ a C dx fs, x = V.ref a ∧ H2 a = some (.ins C dx fs) ∧ Cls K C ∧ NoAttr K C f ∧ fs.length < 1000 ∧ ∀ H3, Chg H2 H3 a (.ins C dx fs) (.ins C dx (putF f y fs)) → D.nx σ H3) =
      (∃ a C dx fs, x = V.ref a ∧ H2 a = some (.ins C dx fs) ∧ Cls K C ∧ NoAttr K C f ∧ fs.length < 1000 ∧ D.nx σ (upd H2 a (.ins C dx (putF f y fs)))) := by
    intro x y H2
    apply propext
    constructor
    · rintro ⟨a, C, dx, fs, h1, h2, h3, h4, h5, h6⟩
      exact ⟨a, C, dx, fs, h1, h2, h3, h4, h5, h6 _ ⟨h2, rfl⟩⟩
    · rintro ⟨a, C, dx, fs, h1, h2, h3, h4, h5, h6⟩
      exact ⟨a, C, dx, fs, h1, h2, h3, h4, h5, fun H3 n => by rw [n.eq]; exact h6⟩
  simp only [c]
theorem ps_fldN {f : Str} (ha : PE X o to) (hv : PE X value tv) (hs : swapsWith value (some (.Attribute o f pos')) pos.line X.env = pure false) : PS X (.Assign [.Attribute o f pos'] value pos) (sFldN X.K to tv f) := by
  rw [sFldN_eq]
  exact ps_fld ha hv hs
end

/-! ### blocks: what is made, item by item -/
/-- what a source yields: n items, whatever else is made meanwhile -/
structure Yields (J : It) (n : Nat) (P : Nat → V → Hp → Prop) (H : Hp) : Prop where
  go : ∀ i H1, Same H H1 → i < n → J.go i H1
  yld : ∀ i H1 x H2, i < n → Same H H1 → J.yld i H1 x H2 → Same H1 H2 ∧ P i x H2
  stop : ∀ i H1, Same H H1 → n ≤ i → J.stop i H1
section
variable {K : PySem.W.Frag} {a : Addr} {xs : List V} {g : TG} {tc : TT} {te : TE} {js : List (Option Nat)} {σ : St} {H : Hp} {Q : VK} {J : It} {n : Nat} {P : Nat → V → Hp → Prop}
theorem comp_G (hy : Yields J n P H) (hn : n ≤ 1000000) (S : St → Prop) (st : Nat → St) (hS0 : S (compSt js σ)) (hS : ∀ i, i < n → S (st i))
    (hg : ∀ i x σ' H1 Z, i < n → S σ' → P i x H1 → Z (st i) H1 → g x σ' H1 Z)
    (R : Nat → List V → Hp → Prop) (stab : ∀ i acc H1 H2, TSame H1 H2 → R i acc H1 → R i acc H2) (h0 : R 0 [] H)
    (step : ∀ i acc H1, i < n → Same H H1 → acc.length ≤ i → R i acc H1 → ∀ (Y : VK) (N : Hp → Prop), (∀ v H2, Same H1 H2 → R (i + 1) (acc ++ [v]) H2 → Y v H2) → (∀ H2, Same H1 H2 → R (i + 1) acc H2 → N H2) →
      tc (st i) H1 (fun ok H4 => if ok = true then te (st i) H4 Y else N H4))
    (fin : ∀ D acc H', Same H H' → H D = none → H' D = some (.lst acc) → acc.length ≤ n → R n acc H' → Q (.ref D) H') : tCompB J g tc te js σ H Q := by
  intro D fD
  refine ⟨fun i m σ' H' => m = n - i ∧ i ≤ n ∧ S σ' ∧ Same H H' ∧ ∃ acc, H' D = some (.lst acc) ∧ acc.length ≤ i ∧ R i acc H', ⟨n, by simp, Nat.zero_le _, hS0, (Same.refl H).upd fD, [], upd_same, Nat.le_refl _, ?_⟩, ?_⟩
  · exact stab 0 [] H _ (fun b ys e => by rw [upd_ne (ne_of_none e fD)]; exact e) h0
  rintro i m σ' H' ⟨rfl, hi, s1, sm, acc, eD, la, r⟩
  by_cases hlt : i < n
  · refine .inr ⟨hy.go i H' sm hlt, fun σ3 H3 => S σ3 ∧ Same H H3 ∧ ∃ acc, H3 D = some (.lst acc) ∧ acc.length ≤ i + 1 ∧ R (i + 1) acc H3, fun σ3 H3 ⟨p1, p2, p3⟩ => ⟨n - (i + 1), by omega, rfl, hlt, p1, p2, p3⟩, fun x H2 y => ?_⟩
    obtain ⟨sm2, px⟩ := hy.yld i H' x H2 hlt sm y
    refine hg i x σ' H2 _ hlt s1 px ?_
    refine step i acc H2 hlt (sm.trans sm2) la (stab _ _ _ _ sm2.ts r) _ _ (fun v H3 sm3 r3 => ?_) (fun H3 sm3 r3 => ?_)
    · have eD3 : H3 D = some (.lst acc) := sm3 _ _ (sm2 _ _ eD)
      refine ⟨acc, eD3, ?_, hS i hlt, ((sm.trans sm2).trans sm3).upd fD, acc ++ [v], upd_same, by rw [List.length_append]; simp; omega, ?_⟩
      · have : acc.length < 1000000 := by omega
        exact Nat.lt_of_lt_of_le this (by decide)
      · exact stab _ _ _ _ (fun b ys e => by rw [upd_ne (ne_of e eD3 (by intro z; cases z))]; exact e) r3
    · exact ⟨hS i hlt, (sm.trans sm2).trans sm3, acc, sm3 _ _ (sm2 _ _ eD), by omega, r3⟩
  · have e : i = n := by omega
    subst e
    exact .inl ⟨hy.stop _ H' sm (Nat.le_refl _), fin D acc H' sm fD eD la r⟩
/-- no test: item i has the property p i -/
theorem comp_M (hy : Yields J n P H) (hn : n ≤ 1000000) (S : St → Prop) (st : Nat → St) (hS0 : S (compSt js σ)) (hS : ∀ i, i < n → S (st i))
    (hg : ∀ i x σ' H1 Z, i < n → S σ' → P i x H1 → Z (st i) H1 → g x σ' H1 Z)
    (p : Nat → V → Hp → Prop) (stab : ∀ i v H1 H2, TSame H1 H2 → p i v H1 → p i v H2)
    (step : ∀ i H1, i < n → Same H H1 → ∀ Y : VK, (∀ v H2, Same H1 H2 → p i v H2 → Y v H2) → te (st i) H1 Y)
    (fin : ∀ D acc H', Same H H' → H D = none → H' D = some (.lst acc) → acc.length = n → (∀ i v, acc[i]? = some v → p i v H') → Q (.ref D) H') : tCompB J g tNoIf te js σ H Q := by
  refine comp_G hy hn S st hS0 hS hg (fun i acc H' => acc.length = i ∧ ∀ j v, acc[j]? = some v → p j v H') (fun i acc H1 H2 t ⟨r1, r2⟩ => ⟨r1, fun j v e => stab _ _ _ _ t (r2 j v e)⟩) ⟨rfl, fun j v e => by simp at e⟩ (fun i acc H1 hi sm la r Y N kY kN => ?_) (fun D acc H' sm f e la r => fin D acc H' sm f e r.1 r.2)
  unfold tNoIf
  refine iteT ?_
  obtain ⟨r1, r2⟩ := r
  refine step i H1 hi sm Y fun v H2 sm2 q => kY v H2 sm2 ⟨by simp [r1], fun j u e => ?_⟩
  rw [List.getElem?_append] at e
  split at e
  · exact stab _ _ _ _ sm2.ts (r2 j u e)
  · rename_i hj
    have hj' : j = acc.length := by
      have : j - acc.length < 1 := by
        have := (List.getElem?_eq_some_iff.mp e).1
        simpa using this
      omega
    subst hj'
    simp at e
    subst e
    rw [r1]
    exact q
/-- .. an item by no heap: the list is known -/
theorem comp_F (hy : Yields J n P H) (hn : n ≤ 1000000) (S : St → Prop) (st : Nat → St) (hS0 : S (compSt js σ)) (hS : ∀ i, i < n → S (st i))
    (hg : ∀ i x σ' H1 Z, i < n → S σ' → P i x H1 → Z (st i) H1 → g x σ' H1 Z)
    (f : Nat → V) (step : ∀ i H1, i < n → Same H H1 → ∀ Y : VK, (∀ H2, Same H1 H2 → Y (f i) H2) → te (st i) H1 Y)
    (fin : ∀ D H', Same H H' → H D = none → H' D = some (.lst ((List.range n).map f)) → Q (.ref D) H') : tCompB J g tNoIf te js σ H Q := by
  refine comp_M hy hn S st hS0 hS hg (fun i v _ => i < n → v = f i) (fun _ _ _ _ _ h => h) (fun i H1 hi sm Y k => step i H1 hi sm Y fun H2 s2 => k _ _ s2 fun _ => rfl) (fun D acc H' sm fr e la r => fin D H' sm fr ?_)
  rw [e]
  congr 2
  refine List.ext_getElem? fun i => ?_
  by_cases hi : i < n
  · have h1 : i < acc.length := by omega
    rw [List.getElem?_map, List.getElem?_range hi, List.getElem?_eq_getElem h1]
    have := r i acc[i] (List.getElem?_eq_getElem h1) hi
    rw [this]; rfl
  · rw [List.getElem?_eq_none_iff.mpr (by omega), List.getElem?_eq_none_iff.mpr (by simp; omega)]
end
/-- the slot of a block's one name -/
def stN (js : List (Option Nat)) (σ : St) (f : Nat → Option V) : Nat → St := fun i => (compSt js σ).set 0 (f i)
def SN (js : List (Option Nat)) (σ : St) : St → Prop := fun σ' => ∃ u, σ' = (compSt js σ).set 0 u
theorem SN0 {o : Option Nat} {js : List (Option Nat)} {σ : St} : SN (o :: js) σ (compSt (o :: js) σ) := ⟨(match o with | some j => (σ[j]?).getD none | none => none), rfl⟩
theorem gN_list {js : List (Option Nat)} {σ : St} {xs : List V} : ∀ i x σ' H1 (Z : St → Hp → Prop), i < xs.length → SN js σ σ' → xs[i]? = some x → Z (stN js σ (fun i => xs[i]?) i) H1 → gName 0 x σ' H1 Z := by
  rintro i x σ' H1 Z _ ⟨u, rfl⟩ e z
  unfold gName
  rw [List.set_set]
  have z' : Z ((compSt js σ).set 0 (xs[i]?)) H1 := z
  rw [e] at z'
  exact z'
end L2
/-! ### small things -/
namespace L2
open PySem PySem.Spec PyProof.Rows
theorem sz {n : Nat} (h : n ≤ 1000000) : n < sizeLine := Nat.lt_of_le_of_lt h (by decide)
theorem szl {n : Nat} (h : n ≤ 1000000) : n ≤ sizeLine := Nat.le_trans h (by decide)
theorem cut63 {xs : List V} : cutV xs none (some 63) = xs.take 63 := by
  unfold cutV
  have e1 : HT.sIx xs.length 0 none = 0 := rfl
  rw [e1, List.drop_zero, Nat.sub_zero]
  by_cases h : xs.length ≤ 63
  · rw [List.take_of_length_le h]
    refine List.take_of_length_le ?_
    unfold HT.sIx
    simp
    omega
  · congr 1
    unfold HT.sIx
    simp
    omega
theorem atI_map {α : Type} {ns : List α} {f : α → V} {i : Int} {x : α} (h : atI ns i = some x) : atI (ns.map f) i = some (f x) := by
  unfold atI at h ⊢
  rw [List.length_map]
  cases e : ixN ns.length i with
  | none => rw [e] at h; cases h
  | some j =>
    rw [e] at h
    show (ns.map f)[j]? = _
    rw [List.getElem?_map, show ns[j]? = some x from h]; rfl
theorem atI_lt {α : Type} {xs : List α} {i : Int} (h0 : 0 ≤ i) (h1 : i < xs.length) : ∃ x, atI xs i = some x ∧ xs[i.toNat]? = some x := by
  have hj : i.toNat < xs.length := by omega
  refine ⟨xs[i.toNat], ?_, List.getElem?_eq_getElem hj⟩
  unfold atI ixN
  rw [if_pos h0, if_pos h1]
  exact List.getElem?_eq_getElem hj
end L2
/-! ### a cut: what holds behind a statement, an expression, a test -/
namespace L2
open PySem PySem.Spec PyProof.Rows
section
variable {X : Cx} {e : Expr} {st : Stmt}
@[irreducible] def tCut (t : TS) : TS := fun D σ H => ∃ J : St → Hp → Prop, t { D with nx := J } σ H ∧ ∀ σ' H', J σ' H' → D.nx σ' H'
theorem ps_cut {t : TS} (h : PS X st t) : PS X st (tCut t) := by
  intro pins s σ H D I c
  unfold tCut at c
  obtain ⟨J, q, m⟩ := c
  refine thn (h pins s σ H _ I q) fun f s' z => ?_
  cases f with
  | next => obtain ⟨σ', H', I', j⟩ := z; exact ⟨σ', H', I', m _ _ j⟩
  | brk => exact z
  | cont => exact z
  | ret u => exact z
@[irreducible] def tCutE (t : TE) : TE := fun σ H Q => ∃ J : VK, t σ H J ∧ ∀ v H', J v H' → Q v H'
theorem pe_cut {t : TE} (h : PE X e t) : PE X e (tCutE t) := by
  intro pins s σ H Q I c
  unfold tCutE at c
  obtain ⟨J, q, m⟩ := c
  exact thn (h pins s σ H _ I q) fun u s' ⟨v, H', I', r, j⟩ => ⟨v, H', I', r, m _ _ j⟩
@[irreducible] def tCutT (t : TT) : TT := fun σ H Q => ∃ J : Bool → Hp → Prop, t σ H J ∧ ∀ v H', J v H' → Q v H'
theorem pt_cut {t : TT} (h : PT X e t) : PT X e (tCutT t) := by
  intro pins s σ H Q I c
  unfold tCutT at c
  obtain ⟨J, q, m⟩ := c
  exact thn (h pins s σ H _ I q) fun u s' ⟨H', I', j⟩ => ⟨H', I', m _ _ j⟩
theorem cutS {t : TS} {D : Ends} {σ : St} {H : Hp} (J : St → Hp → Prop) (h1 : t { D with nx := J } σ H) (h2 : ∀ σ' H', J σ' H' → D.nx σ' H') : tCut t D σ H := by
  unfold tCut; exact ⟨J, h1, h2⟩
theorem cutE {t : TE} {Q : VK} {σ : St} {H : Hp} (J : VK) (h1 : t σ H J) (h2 : ∀ v H', J v H' → Q v H') : tCutE t σ H Q := by
  unfold tCutE; exact ⟨J, h1, h2⟩
theorem cutT {t : TT} {Q : Bool → Hp → Prop} {σ : St} {H : Hp} (J : Bool → Hp → Prop) (h1 : t σ H J) (h2 : ∀ v H', J v H' → Q v H') : tCutT t σ H Q := by
  unfold tCutT; exact ⟨J, h1, h2⟩
end
end L2
namespace L2
open PySem
theorem CMulB.r {i j : Int} (h1 : -(2 ^ 64) < j) (h2 : j < 2 ^ 64) : CMulB i j := .inl (.inr ⟨h1, h2⟩)
theorem CMulB.l {i j : Int} (h1 : -(2 ^ 64) < i) (h2 : i < 2 ^ 64) : CMulB i j := .inl (.inl ⟨h1, h2⟩)
theorem CMulB.b {i j : Int} (h1 : Builtin.Int.intBits i ≤ 2 ^ 20) (h2 : Builtin.Int.intBits j ≤ 2 ^ 20) : CMulB i j := .inr ⟨h1, h2⟩
theorem CPow.of {i j : Int} (h1 : 0 ≤ j) (h2 : j ≤ 1000000) (h3 : i.natAbs < 2 ^ 64) : CPow i j := ⟨h1, h2, h3⟩
end L2
namespace L2
open PySem
theorem CDivL.pow1 {i n : Int} (h : n < 9000) : CDivL i (1 * 2 ^ n.toNat) := by
  rw [Int.one_mul]
  exact CDivL.pow (by omega)
theorem take63_cut {ns : List Int} : cutV (ns.map V.int) none (some 63) = (ns.take 63).map V.int := by rw [cut63]; simp
theorem bits_of_lt {x : Int} (h : x.natAbs < 2 ^ 200) : Builtin.Int.intBits x ≤ 2 ^ 20 := by
  unfold Builtin.Int.intBits
  by_cases e : x.natAbs = 0
  · rw [if_pos (by have : x = 0 := by omega
                   subst this; rfl)]
    decide
  · have := (Nat.log2_lt e).mpr h
    split <;> omega
end L2
namespace L2
theorem iteDT {c A B : Prop} [Decidable c] (hc : c) (h : A) : if decide c = true then A else B := by
  rw [decide_eq_true hc]
  exact iteT h
end L2

set_option linter.all false
/-! ### zip and enumerate of lists, walked by a pair of names; sum; max, min of a list -/
namespace L2
open PySem PySem.Spec PyProof.Rows
section
variable {X : Cx} {pins : List (Addr × Obj)} {σ : St} {H : Hp} {s : Shared} {h' : Heap}
/-- records of ours have turned -/
theorem Inv.turnedL {t' : Nat} {fp : List Addr} (I : Inv X pins σ H s) (k : ∀ b o, b ∉ fp → s.heap.get? b = some o → h'.get? b = some o) (hf : ∀ b ∈ fp, FpOk X pins H b) : Inv X pins σ H { s with heap := h', toks := t' } := by
  have nit : ∀ b u, H b = some u → b ∉ fp := fun b u e z => by rw [(hf b z).1] at e; cases e
  refine I.step (g' := s.gens) (d' := s.drawn) (ch := fp) (fun b hb => ?_) (fun b o _ _ hc e _ => k b o hc e) (fun b o _ _ hc e _ => ⟨o.slots, k b o hc e⟩) (fun _ _ _ _ n => n)
    (fun b o hc e => ⟨o, k b o hc e⟩) (fun _ _ e => e) (fun _ _ _ e => e) (fun b ps e => ⟨#[], by rw [e]; simp⟩) (fun m hm => ?_) (fun b u e => ?_) I.bare
  · obtain ⟨f0, f1, f2, f3, f4, f5⟩ := hf b hb
    exact ⟨f3, f1, f4, f5⟩
  · obtain ⟨o, es, ep, ho, r⟩ := hm
    exact ⟨o, es, ep, k _ o (fun z => (hf _ z).2.1 rfl) ho, r⟩
  · refine (I.hok b u e).stay (fun c v hc q => k c v ?_ q) (fun _ q => q) fun _ _ q => q
    rcases hc with z | z
    · rw [z]; exact nit b u e
    · exact nit c _ z
/-- .. and a new object is tracked -/
theorem Inv.turnedN {t' : Nat} {fp : List Addr} {a : Addr} {o : HO} (I : Inv X pins σ H s) (k : ∀ b o, b ∉ fp → s.heap.get? b = some o → h'.get? b = some o) (hf : ∀ b ∈ fp, FpOk X pins H b) (hp : s.heap.objs.size ≤ a)
    (new : ObjOk X.prog X.w (upd H a o) h' a o) : Inv X pins σ (upd H a o) { s with heap := h', toks := t' } := by
  have hn : H a = none := I.hok.fresh hp
  have nit : ∀ b u, H b = some u → b ∉ fp := fun b u e z => by rw [(hf b z).1] at e; cases e
  refine I.step (g' := s.gens) (d' := s.drawn) (ch := fp) (fun b hb => ?_) (fun b o _ _ hc e _ => k b o hc e) (fun b o _ _ hc e _ => ⟨o.slots, k b o hc e⟩)
    (fun b o _ e n => by rw [upd_ne (Nat.ne_of_lt (Nat.lt_of_lt_of_le (Heap.lt_size e) hp))]; exact n)
    (fun b o hc e => ⟨o, k b o hc e⟩) (fun b xs e => by rw [upd_ne (ne_of_none e hn)]; exact e) (fun b o u e => by rw [upd_ne (ne_of_none e hn)]; exact e)
    (fun b ps e => ⟨#[], by rw [upd_ne (ne_of_none e hn), e]; simp⟩) (fun m hm => ?_) (fun b u e => ?_) I.bare
  · obtain ⟨f0, f1, f2, f3, f4, f5⟩ := hf b hb
    exact ⟨f3, f1, f4, f5⟩
  · obtain ⟨o, es, ep, ho, r⟩ := hm
    exact ⟨o, es, ep, k _ o (fun z => (hf _ z).2.1 rfl) ho, r⟩
  · by_cases hb : b = a
    · subst hb
      rw [upd_same] at e
      cases e
      exact new
    · rw [upd_ne hb] at e
      refine (I.hok b u e).stay (fun c v hc q => k c v ?_ q) (fun c q => by rw [upd_ne (ne_of_none q hn)]; exact q) fun c xs q => by rw [upd_ne (ne_of_none q hn)]; exact q
      rcases hc with z | z
      · rw [z]; exact nit b u e
      · exact nit c _ z
end
/-- places and items of the list at a; each pair a new tuple -/
def Ite (K : PySem.W.Frag) (a : Addr) : It :=
  ⟨fun i H => ∃ xs x, SqL K H a xs ∧ xs[i]? = some x,
   fun i H v H' => ∃ p, v = .ref p ∧ H p = none ∧ ∀ xs x, SqL K H a xs → xs[i]? = some x → H' = upd H p (.tup [.int (i : Int), x]),
   fun i H => ∃ xs, SqL K H a xs ∧ xs.length ≤ i⟩
theorem turn_enum {P : Program} {w : World} {K : PySem.W.Frag} {elts : List Expr} {x1} {pos : Pos} (e it a : Addr) (hne : e ≠ it) :
    Turn P w K (.Tuple elts x1 pos) (Ite K a) [e, it] e (fun i h => (∃ old, IsEnum h e it i old) ∧ h.IsListIter it a i) where
  mem := by simp
  obj := fun i h st c hc => by
    obtain ⟨⟨old, h1⟩, ⟨o4, h4, c4, d4⟩⟩ := st
    have hc : c = e ∨ c = it := by simpa using hc
    rcases hc with rfl | rfl
    · exact ⟨_, h1, fun v z => by cases z⟩
    · exact ⟨_, h4, fun v z => by rw [d4] at z; cases z⟩
  keep := fun i h h' st k => by
    obtain ⟨⟨old, h1⟩, h4⟩ := st
    exact ⟨⟨old, k e (by simp) _ h1⟩, h4.at fun o q => k it (by simp) o q⟩
  item := by
    intro X hP hw hK hc i pins s σ H E I hf st hg
    subst hP hw hK
    obtain ⟨xs, x, hq1, hx⟩ := hg
    obtain ⟨its, rv, p, hz⟩ := I.list hq1
    obtain ⟨u, hu, ru⟩ := rv.get hx
    obtain ⟨⟨old, h1⟩, h4⟩ := st
    refine wpAny_pyNext_enum_item h1 h4 p.isList (x := u) (by simpa using hu) hne fun h' a1 a3 a5 a6 a7 => ?_
    refine ⟨_, rfl, wpAny_letOwnedTupleGo_enum (s := { s with heap := h', toks := s.toks + 1 }) a1 fun h'' b1 b2 => ?_⟩
    have hzne : s.heap.objs.size ≠ e := Nat.ne_of_gt (Heap.lt_size h1)
    have k : ∀ c o, c ∉ [e, it] → s.heap.get? c = some o → h''.get? c = some o := fun c o hc q => by
      simp at hc
      exact (b2.2 c hc.1).trans (a7 c o hc.1 hc.2 q)
    have hT : h''.get? s.heap.objs.size = some { cls := .type "tuple", data := .seq #[.int i s.toks, u] } := (b2.2 _ hzne).trans a5
    have I1 : Inv X pins σ (upd H s.heap.objs.size (.tup [.int (i : Int), x])) { s with heap := h'', toks := s.toks + 1 } := I.turnedN (t' := s.toks + 1) k hf (Nat.le_refl _)
      ⟨Nat.le_of_ble_eq_true rfl, [.int i s.toks, u], .cons ⟨_, rfl⟩ (.cons ru .nil), ⟨_, hT, rfl, _, rfl⟩⟩
    have hn : H s.heap.objs.size = none := I.hok.fresh (Nat.le_refl _)
    refine ⟨.ref s.heap.objs.size, _, I1, rfl, ⟨_, rfl, hn, fun xs' x' q1 e1 => ?_⟩, ⟨⟨u, by have := b1; simpa using this⟩, a3.at fun o q => (b2.2 _ (Ne.symm hne)).trans q⟩, fun c hc => ?_⟩
    · rw [I.list_inj q1 hq1] at e1
      rw [hx] at e1
      cases e1
      rfl
    · have hlt : c < s.heap.objs.size := by
        have hc : c = e ∨ c = it := by simpa using hc
        obtain ⟨o4, h4, _⟩ := h4
        rcases hc with rfl | rfl
        · exact Heap.lt_size h1
        · exact Heap.lt_size h4
      rw [upd_ne (Nat.ne_of_lt hlt)]
      exact (hf c hc).1
  done := by
    intro X hP hw hK hc i pins s σ H E I hf st hg
    subst hP hw hK
    obtain ⟨xs, hq1, hx⟩ := hg
    obtain ⟨its, rv, p, hz⟩ := I.list hq1
    have l1 := rv.length
    obtain ⟨⟨old, h1⟩, h4⟩ := st
    refine wpAny_pyNext_enum_end (I.ok.hd hc) h1 h4 p.isList (by simp; omega) fun h' k => ⟨rfl, I.turnedL (t' := s.toks) (fun b o hb q => ?_) hf⟩
    simp at hb
    exact k b o hb.2 q
  self := fun _ i s _ _ st h => by
    obtain ⟨⟨old, h1⟩, h4⟩ := st
    exact wpAny_pyIter_enum h1 h
end L2
namespace L2
open PySem PySem.Spec PyProof.Rows
section
variable {X : Cx}
def iEnum (K : PySem.W.Frag) (ta : TA) : TI := fun σ H R => ta σ H fun vs H1 => ∃ a xs, vs = [.ref a] ∧ SqL K H1 a xs ∧ R (Ite K a) H1
theorem pi_enum {elts : List Expr} {x1} {tpos : Pos} {a : Expr} {ta : TA} {p pos : Pos} (hg : Gl X "enumerate") (hm : X.mg "enumerate" = none) (ha : PA X [a] ta) (hs : starEach [a] X.env = [(false, eval a X.env)] := by rfl) :
    PI X (.Tuple elts x1 tpos) (.Call (.Name "enumerate" p) [a] [] pos) (iEnum X.K ta) := by
  intro pins s σ H R I h
  refine Call_ (ld_blt I hg hm bt_enumerate (PyProof.Rows.callWith_type1 (thn (ha pos pins s σ H _ I h) fun us s1 ⟨vs, H1, I1, r1, q1⟩ => ?_) hs rfl))
  obtain ⟨a, xs, e, qa, q⟩ := q1
  subst e
  obtain ⟨u, rfl, ru⟩ := vals1 r1
  cases ru
  obtain ⟨its, r1, p1, _⟩ := I1.list qa
  refine call_enumerate_list p1.isList fun h' g1 g2 g3 g4 => wpAny_pyIter_enum g1 ?_
  refine ⟨_, [s1.heap.objs.size + 1, s1.heap.objs.size], _, _, H1, rfl, I1.kept (t' := s1.toks) g4, turn_enum _ _ a (Nat.succ_ne_self _), ⟨⟨_, g1⟩, g2⟩, fun c hc => ?_, q⟩
  have hc : s1.heap.objs.size ≤ c := by
    have hc : c = s1.heap.objs.size + 1 ∨ c = s1.heap.objs.size := by simpa using hc
    rcases hc with rfl | rfl
    · exact Nat.le_add_right _ _
    · exact Nat.le_refl _
  exact I1.fpOk hc (I1.hok.fresh hc)
end
end L2
namespace L2
open PySem PySem.Spec PyProof.Rows
/-- what a pair of names is given -/
def PP (f g : Nat → Option V) : Nat → V → Hp → Prop := fun i v H => ∃ p x y, v = .ref p ∧ H p = some (.tup [x, y]) ∧ f i = some x ∧ g i = some y
section
variable {K : PySem.W.Frag} {a b : Addr} {xs ys : List V} {H : Hp} {js : List (Option Nat)} {σ : St}
theorem yields_enum (h1 : SqL K H a xs) : Yields (Ite K a) xs.length (PP (fun i => some (.int (i : Nat))) (fun i => xs[i]?)) H where
  go := fun i H1 s hi => ⟨xs, xs[i]'(by omega), s.seq h1, by rw [List.getElem?_eq_getElem]⟩
  yld := fun i H1 x H2 hi s y => by
    obtain ⟨p, rfl, hn, k⟩ := y
    have e := k xs (xs[i]'(by omega)) (s.seq h1) (by rw [List.getElem?_eq_getElem])
    subst e
    exact ⟨fun c o q => by rw [upd_ne (ne_of_none q hn)]; exact q, p, _, _, rfl, upd_same, rfl, List.getElem?_eq_getElem (by omega)⟩
  stop := fun i H1 s hi => ⟨xs, s.seq h1, hi⟩
/-- a for over what yields -/
theorem for_Y {J : It} {n : Nat} {P : Nat → V → Hp → Prop} {H0 : Hp} {g : TG} {tb : TS} {D : Ends} (hy : Yields J n P H0) (Pv : Nat → St → Hp → Prop) (h0 : Pv 0 σ H) (hsm : ∀ i σ H, Pv i σ H → Same H0 H)
    (hs : ∀ i x σ H H', i < n → Pv i σ H → Same H H' → P i x H' → g x σ H' fun σ2 H2 => tb { D with nx := Pv (i + 1), ct := Pv (i + 1), bk := D.nx } σ2 H2) (hd : ∀ σ H, Pv n σ H → D.nx σ H) :
    ∃ W : Nat → Nat → St → Hp → Prop, (∃ m, W 0 m σ H) ∧ ∀ i m σ H, W i m σ H →
      (J.stop i H ∧ D.nx σ H) ∨ (J.go i H ∧ ∃ N : St → Hp → Prop, (∀ σ' H', N σ' H' → ∃ m', m' < m ∧ W (i + 1) m' σ' H') ∧ ∀ x H', J.yld i H x H' → g x σ H' fun σ2 H2 => tb { D with nx := N, ct := N, bk := D.nx } σ2 H2) := by
  refine ⟨fun i m σ H => m = n - i ∧ i ≤ n ∧ Pv i σ H, ⟨n, by simp, Nat.zero_le _, h0⟩, ?_⟩
  rintro i m σ H ⟨rfl, hi, p⟩
  by_cases hlt : i < n
  · refine .inr ⟨hy.go i H (hsm _ _ _ p) hlt, Pv (i + 1), fun σ' H' p' => ⟨n - (i + 1), by omega, rfl, hlt, p'⟩, fun x H' y => ?_⟩
    obtain ⟨s2, px⟩ := hy.yld i H x H' hlt (hsm _ _ _ p) y
    exact hs i x σ H H' hlt p s2 px
  · have e : i = n := by omega
    subst e
    exact .inl ⟨hy.stop _ H (hsm _ _ _ p) (Nat.le_refl _), hd σ H p⟩
end
end L2
namespace L2
end L2
namespace L2
open PySem PySem.Spec PyProof.Rows
theorem pg_pair {X : Cx} {K : PySem.W.Frag} {x y : Str} {px py pos : Pos} {k} {i j : Nat} (hK : X.K = K) (hc : X.calm = true) (h1 : PG X (.Name x px) (gName i)) (h2 : PG X (.Name y py) (gName j)) :
    PG X (.Tuple [.Name x px, .Name y py] k pos) (gTup K 2 (gCons (gName i) (gCons (gName j) gNil))) := by
  subst hK
  exact pg_tup hc (pgs_cons h1 (pgs_cons h2 pgs_nil))
end L2

set_option linter.all false
/-! ### max of a list of ints, with a default -/
namespace L2
open PySem PySem.Spec PyProof.Rows
section
variable {prog : Program} {w : World} {A : Around} {R : Result → Shared → Prop} {I : Addr} {fp wr : List Addr} {n : Nat} {P : Nat → Value → Prop} {St : Nat → Heap → Prop}
end
end L2
namespace L2
open PySem PySem.Spec PyProof.Rows
section
variable {prog : Program} {w : World} {A : Around} {E : Value → Shared → Prop} {s : Shared} {l : Addr} {xs : Array (Int × Tok)} {d : Value}
end
section
variable {X : Cx}
end
end L2
/-! ### texts: join, a slice; dict displays, copies, == -/
namespace L2
open PySem PySem.Spec PyProof.Rows
section
variable {X : Cx}
/-- the text between two places -/
def strCut (z : Str) (lo hi : Option Int) : Str :=
  if ((Builtin.Str.strSliceIndices lo hi 1 z.length).length == z.length) = true then z else ⟨((Builtin.Str.strSliceIndices lo hi 1 z.length).filterMap (z.cps[·]?)).toArray⟩
def rSlS : V → Option Int → Option Int → Hp → VK → Prop := fun x lo hi H Q => ∃ z, x = .str z ∧ z.length ≤ sizeLine ∧ Q (.str (strCut z lo hi)) H
theorem part_of {v : Value} {o : Option Int} (h : IsPart v o) : ∃ l : Option (Int × Tok), v = partValue l ∧ l.map (·.1) = o := by
  cases h with
  | none => exact ⟨none, rfl, rfl⟩
  | int i t => exact ⟨some (i, t), rfl, rfl⟩
theorem sl_str : SlR X rSlS := by
  intro pins s σ H x v vl vu lo hi sl Q I rx hs pl pu h
  obtain ⟨z, rfl, hz, q⟩ := h
  obtain ⟨t, rfl⟩ := rx
  obtain ⟨l, rfl, rfl⟩ := part_of pl
  obtain ⟨u, rfl, rfl⟩ := part_of pu
  refine ⟨"str", _, F.slot_str_getitem.lookup, typeIs_str _ _ _, wpAny_getItem_str_slice (l := l) (u := u) (st := none) hs rfl ?_⟩
  unfold sliceMade
  unfold strCut at q
  have e : slicePicked z l u none = Builtin.Str.strSliceIndices (l.map (·.1)) (u.map (·.1)) 1 z.length := rfl
  rw [e]
  simp only [Option.map_none, Option.getD_none, beq_self_eq_true, Bool.true_and]
  split
  · rename_i hc
    rw [if_pos hc] at q
    exact ⟨.str z, H, I, ⟨t, rfl⟩, q⟩
  · rename_i hc
    rw [if_neg hc] at q
    refine ⟨?_, .str _, H, I.tok _, ⟨_, rfl⟩, q⟩
    have h1 := PyProof.Rows.indices_len_le (l.map (·.1)) (u.map (·.1)) z.length
    have h2 := List.length_filterMap_le (fun x => z.cps[x]?) (Builtin.Str.strSliceIndices (l.map (·.1)) (u.map (·.1)) 1 z.length)
    show ((Builtin.Str.strSliceIndices (l.map (·.1)) (u.map (·.1)) 1 z.length).filterMap (z.cps[·]?)).toArray.size ≤ _
    rw [List.size_toArray]
    omega
end
end L2

namespace L2
open PySem PySem.Spec PyProof.Rows
section
variable {X : Cx}
end
end L2
namespace L2
open PySem PySem.Spec PyProof.Rows
end L2

set_option linter.all false
/-! ### rows of gates, as the document has them -/
namespace L2
open PySem PySem.Spec PyProof.Rows
end L2

set_option linter.all false
/-! ### the rules once more, the fragment by its own letter -/
namespace L2
open PySem PySem.Spec PyProof.Rows
section
variable {X : Cx} {K : PySem.W.Frag}
theorem ix_listK (hK : X.K = K) : IxR X (rIxL K) := by subst hK; exact ix_list
theorem ix_tupK (hK : X.K = K) : IxR X (rIxT K) := by subst hK; exact ix_tup
theorem sl_listK (hK : X.K = K) : SlR X (rSlLN K) := by subst hK; exact sl_listN
def rLen (K : PySem.W.Frag) : List V → Hp → VK → Prop := fun xs H Q => ∃ x n, xs = [x] ∧ LenV K x H n ∧ Q (.int n) H
theorem call_lenK (hK : X.K = K) : CallR X (.builtin "len") (rLen K) := by subst hK; exact call_len
def rLstOf (K : PySem.W.Frag) : List V → Hp → VK → Prop := fun xs H Q => ∃ p ys, xs = [.ref p] ∧ (SqL K H p ys ∨ SqT K H p ys) ∧ ∀ l H2, New H H2 l (.lst ys) → Q (.ref l) H2
theorem call_list_ofK (hK : X.K = K) : CallR X (.type "list") (rLstOf K) := by subst hK; exact call_list_ofN
theorem pi_listK {tg l : Expr} {tl : TE} (hK : X.K = K) (hl : PE X l tl) : PI X tg l (iList K tl) := by subst hK; exact pi_list hl
theorem pi_enumK {elts : List Expr} {x1} {tpos : Pos} {a : Expr} {ta : TA} {p pos : Pos} (hK : X.K = K) (hg : Gl X "enumerate") (hm : X.mg "enumerate" = none) (ha : PA X [a] ta) (hs : starEach [a] X.env = [(false, eval a X.env)] := by rfl) :
    PI X (.Tuple elts x1 tpos) (.Call (.Name "enumerate" p) [a] [] pos) (iEnum K ta) := by subst hK; exact pi_enum hg hm ha hs
theorem pe_bm0K {o : Expr} {to : TE} {name : Str} {apos cpos : Pos} {T id : String} {r : V → List V → Hp → VK → Prop} (hK : X.K = K) (pa : PlainAttrs T) (slot : Slot T name id) (hty : typeOf (.builtin id) = pure (.type "method_descriptor")) (hm : MtR X id r) (ho : PE X o to)
    (hbase : attributeBase o name X.env (eval o X.env) = eval o X.env := by rfl) (hline : (apos.endLine == cpos.line) = true := by rfl) : PE X (.Call (.Attribute o name apos) [] [] cpos) (tBM0 K T r to) := by subst hK; exact pe_bm0 pa slot hty hm ho hbase hline
theorem pe_bmK {o e : Expr} {es : List Expr} {to : TE} {t : TA} {name : Str} {apos cpos : Pos} {T id : String} {r : V → List V → Hp → VK → Prop} (hK : X.K = K) (pa : PlainAttrs T) (slot : Slot T name id) (hty : typeOf (.builtin id) = pure (.type "method_descriptor")) (hm : MtR X id r) (ho : PE X o to) (ha : PA X (e :: es) t)
    (hbase : attributeBase o name X.env (eval o X.env) = eval o X.env := by rfl)
    (hfew : ((backTo cpos (starEach (e :: es) X.env)).all (fun x => !x.1) && (backToKw cpos (keywordEach [] X.env)).all (fun x => x.1.isSome)
      && decide ((e :: es).length + ([] : List Keyword).length + (if ([] : List Keyword).isEmpty then 0 else 1) < 30)) = true := by rfl)
    (hline : (apos.endLine == cpos.line) = true := by rfl) (hs : starEach (e :: es) X.env = (false, eval e X.env) :: starEach es X.env := by rfl) (hplain : (backTo cpos (starEach es X.env)).any (·.1) = false := by rfl) :
    PE X (.Call (.Attribute o name apos) (e :: es) [] cpos) (tBM K T r to t) := by subst hK; exact pe_bm pa slot hty hm ho ha hbase hfew hline hs hplain
theorem pe_fldK {e : Expr} {f : Str} {ta : TE} {pos : Pos} (hK : X.K = K) (he : PE X e ta) (hb : attributeBase e f X.env (eval e X.env) = eval e X.env) : PE X (.Attribute e f pos) (tFld K ta f) := by subst hK; exact pe_fld he hb
theorem ps_fldK {o value : Expr} {to tv : TE} {f : Str} {pos pos' : Pos} (hK : X.K = K) (ha : PE X o to) (hv : PE X value tv) (hs : swapsWith value (some (.Attribute o f pos')) pos.line X.env = pure false) : PS X (.Assign [.Attribute o f pos'] value pos) (sFldN K to tv f) := by subst hK; exact ps_fldN ha hv hs
end
end L2
namespace L2
open PySem
end L2
namespace L2
open PySem
def abc : Str := "abcdefghijklmnopqrstuvwxyz"
theorem abc_len : abc.cps.toList.length = 26 := by decide +kernel
theorem abc_ok : (abc.cps.toList.all fun c => decide (c < 0x110000)) = true := by decide +kernel
theorem letters_at {i : Int} (h0 : 0 ≤ i) (h1 : i < 26) : ∃ c, atI abc.cps.toList i = some c ∧ PyData.strOk ⟨#[c]⟩ = true ∧ (⟨#[c]⟩ : Str).length ≤ 100 := by
  obtain ⟨c, e1, e2⟩ := atI_lt (xs := abc.cps.toList) h0 (by rw [abc_len]; exact h1)
  refine ⟨c, e1, ?_, ?_⟩
  · have := List.all_eq_true.mp abc_ok c (List.mem_of_getElem? e2)
    unfold PyData.strOk
    simpa using this
  · show (#[c] : Array Nat).size ≤ 100
    simp
end L2
namespace L2
open PySem
end L2
namespace L2
end L2

set_option linter.all false
set_option maxRecDepth 100000
/-! ### insert at the front; an instance made; reversed(range(n)) -/
namespace L2
open PySem PySem.Spec PyProof.Rows
section
variable {X : Cx}
end
/-- a new instance x of C, its dict dx -/
structure NewI (H H' : Hp) (x dx C : Addr) : Prop where
  fx : H x = none
  fd : H dx = none
  ne : dx ≠ x
  eq : H' = upd (upd H dx (.own x)) x (.ins C dx [])
section
variable {H H' : Hp} {x dx C q : Addr} {o : HO}
theorem NewI.at (n : NewI H H' x dx C) : H' x = some (.ins C dx []) := by rw [n.eq, upd_same]
theorem NewI.old (n : NewI H H' x dx C) (h : H q = some o) : H' q = some o := by rw [n.eq, upd_ne (ne_of_none h n.fx), upd_ne (ne_of_none h n.fd)]; exact h
def tMakeN (C : Addr) (sp : Sp) (dvs : List V) (E : XK) (t : TA) : TE := fun σ H Q => t σ H fun vs H1 => ∀ x dx H2, NewI H1 H2 x dx C → sp (.ref x :: (vs ++ dvs)) H2 (fun v H3 => v = .non ∧ Q (.ref x) H3) E
theorem tMakeN_eq {C : Addr} {sp : Sp} {dvs : List V} {E : XK} {t : TA} : tMakeN C sp dvs E t = tMake C sp dvs E t := by
  funext σ H Q
  unfold tMakeN tMake
  have c : ∀ (vs : List V) (H1 : Hp), (∀ x dx H2, NewI H1 H2 x dx C → sp (.ref x :: (vs ++ dvs)) H2 (fun v H3 => v = .non ∧ Q (.ref x) H3) E) =
      (∀ x dx, H1 x = none → H1 dx = none → dx ≠ x → sp (.ref x :: (vs ++ dvs)) (upd (upd H1 dx (.own x)) x (.ins C dx [])) (fun v H2 => v = .non ∧ Q (.ref x) H2) E) := by
    intro vs H1
    exact propext ⟨fun h x dx h1 h2 h3 => h x dx _ ⟨h1, h2, h3, rfl⟩, fun h x dx H2 n => by rw [n.eq]; exact h x dx n.fx n.fd n.ne⟩
  simp only [c]
end
section
variable {X : Cx} {CX : CXT} {k : Nat} {f C : Addr} {fd : FuncData} {ps : List Str} {sp : Sp} {ds : List Value} {dvs : List V} {E : XK} {x : Str} {e : Expr} {es : List Expr} {t : TA} {p pos : Pos}
theorem pe_make0N (M : Mk X.K C f) (F : FnOk X.prog X.w X.K X.mg X.base CX k f fd ps sp) (hr : Room (k + 1) X.A) (hg : Gl X x) (hm : X.mg x = some (.ref C)) (hb : Binds X.K fd ps ds) (hd : Vals dvs ds) (hx : Passes CX X E)
    (hdb : (x == ("__debug__" : Str)) = false := by decide) : PE X (.Call (.Name x p) [] [] pos) (tMakeN C sp dvs E tNil) := by rw [tMakeN_eq]; exact pe_make0 M F hr hg hm hb hd hx hdb
end
end L2
namespace L2
open PySem PySem.Spec PyProof.Rows
section
variable {prog : Program} {w : World} {A : Around} {E : Value → Shared → Prop} {s : Shared}
end
section
variable {X : Cx}
end
end L2

set_option linter.all false
set_option maxRecDepth 100000
/-! ### blocks of new objects; != of lists of dicts -/
namespace L2
open PySem PySem.Spec PyProof.Rows
section
variable {K : PySem.W.Frag} {a : Addr} {xs : List V} {g : TG} {te : TE} {js : List (Option Nat)} {σ : St} {H : Hp} {Q : VK} {J : It} {n : Nat} {P : Nat → V → Hp → Prop}
end
section
variable {X : Cx} {K : PySem.W.Frag}
section
open PySem.SeqAt MeetsSeq MeetsSeq2 MeetsSeq3
open AutoSeq1 (wpAny_loadPart')
variable {prog : Program} {w : World}
end
end
end L2
/-! ### max and min of a tuple; tuples joined; targets of three names -/
namespace L2
open PySem PySem.Spec PyProof.Rows
section
variable {prog : Program} {w : World} {A : Around} {E : Value → Shared → Prop} {s : Shared} {l : Addr} {xs : Array (Int × Tok)}
end
section
variable {X : Cx} {K : PySem.W.Frag}
end
end L2
namespace L2
open PySem PySem.Spec PyProof.Rows
end L2
namespace L2
open PySem PySem.Spec PyProof.Rows
end L2

set_option linter.all false
set_option maxRecDepth 100000
/-! ### the readings step by step, each by its own rule (quick to find) -/
namespace L2
open PySem
section
variable {K : PySem.W.Frag} {σ : St} {H : Hp} {Q : VK} {t ta tb to td ty : TE} {tr : TA} {x y v : V} {a p l b : Addr} {xs ys zs : List V} {i j : Int} {R : It → Hp → Prop}
theorem q_var {n : Nat} (h : σ[n]? = some (some v)) (k : Q v H) : tVar n σ H Q := ⟨v, h, k⟩
def bl2 (x : V) (H : Hp) (Q : Bool → Hp → Prop) : Prop := ∃ c, x = .bl c ∧ Q c H
theorem q_test {Q : Bool → Hp → Prop} (k : t σ H fun x H1 => bl2 x H1 Q) : tTest t σ H Q := k
theorem q_b {Q : Bool → Hp → Prop} (k : t σ H fun x H1 => bl2 x H1 Q) : tB t σ H Q := k
theorem q_bl2 {Q : Bool → Hp → Prop} {c : Bool} (k : Q c H) : bl2 (.bl c) H Q := ⟨c, rfl, k⟩
def and2 (tb : TE) (σ : St) (x : V) (H : Hp) (Q : VK) : Prop := ∃ c, x = .bl c ∧ if c = true then tb σ H Q else Q (.bl false) H
theorem q_andV (k : ta σ H fun x H1 => and2 tb σ x H1 Q) : tAndV ta tb σ H Q := k
theorem q_and2 {c : Bool} (k : if c = true then tb σ H Q else Q (.bl false) H) : and2 tb σ (.bl c) H Q := ⟨c, rfl, k⟩
def or2 (tb : TE) (σ : St) (x : V) (H : Hp) (Q : VK) : Prop := ∃ c, x = .bl c ∧ if c = true then Q (.bl true) H else tb σ H Q
theorem q_orV (k : ta σ H fun x H1 => or2 tb σ x H1 Q) : tOrV ta tb σ H Q := k
theorem q_or2 {c : Bool} (k : if c = true then Q (.bl true) H else tb σ H Q) : or2 tb σ (.bl c) H Q := ⟨c, rfl, k⟩
def part2 (x : V) (H : Hp) (Q : Option Int → Hp → Prop) : Prop := ∃ i, x = .int i ∧ Q (some i) H
theorem q_part {Q : Option Int → Hp → Prop} (k : t σ H fun x H1 => part2 x H1 Q) : tPart t σ H Q := k
theorem q_part2 {Q : Option Int → Hp → Prop} (k : Q (some i) H) : part2 (.int i) H Q := ⟨i, rfl, k⟩
theorem q_i0 {g : Int → Int → V} (k : Q (g i j) H) : rI0 g (.int i) (.int j) H Q := ⟨i, j, rfl, rfl, k⟩
theorem q_i {C : Int → Int → Prop} {g : Int → Int → V} (h : C i j) (k : Q (g i j) H) : rI C g (.int i) (.int j) H Q := ⟨i, j, rfl, rfl, h, k⟩
theorem q_u {g : Int → V} (k : Q (g i) H) : rU g (.int i) H Q := ⟨i, rfl, k⟩
theorem q_eq (h : scal x y = true) (k : Q (.bl (decide (x = y))) H) : rEq x y H Q := ⟨h, k⟩
theorem q_ne (h : scal x y = true) (k : Q (.bl (!decide (x = y))) H) : rNe x y H Q := ⟨h, k⟩
theorem q_ixL (h : SqL K H p xs) (e : atI xs i = some v) (k : Q v H) : rIxL K (.ref p) (.int i) H Q := ⟨p, xs, i, v, rfl, rfl, h, e, k⟩
theorem q_ixT (h : SqT K H p xs) (e : atI xs i = some v) (k : Q v H) : rIxT K (.ref p) (.int i) H Q := ⟨p, xs, i, v, rfl, rfl, h, e, k⟩
theorem q_lenL (h : SqL K H p xs) (k : Q (.int xs.length) H) : rLen K [.ref p] H Q := ⟨_, _, rfl, .inl ⟨_, h, rfl⟩, k⟩
theorem q_lstOf (h : SqL K H p ys ∨ SqT K H p ys) (k : ∀ l H2, New H H2 l (.lst ys) → Q (.ref l) H2) : rLstOf K [.ref p] H Q := ⟨_, _, rfl, h, k⟩
def tup2 (xs : List V) (H : Hp) (Q : VK) : Prop := xs.length ≤ sizeLine ∧ ∀ p H2, New H H2 p (.tup xs) → Q (.ref p) H2
theorem q_tupN (k : tr σ H fun xs H1 => tup2 xs H1 Q) : tTupN tr σ H Q := k
theorem q_tup2 (h : xs.length ≤ sizeLine) (k : ∀ p H2, New H H2 p (.tup xs) → Q (.ref p) H2) : tup2 xs H Q := ⟨h, k⟩
def lst2 (xs : List V) (H : Hp) (Q : VK) : Prop := xs.length ≤ sizeLine ∧ ∀ p H2, New H H2 p (.lst xs) → Q (.ref p) H2
theorem q_lstN (k : tr σ H fun xs H1 => lst2 xs H1 Q) : tLstN tr σ H Q := k
theorem q_lst2 (h : xs.length ≤ sizeLine) (k : ∀ p H2, New H H2 p (.lst xs) → Q (.ref p) H2) : lst2 xs H Q := ⟨h, k⟩
def bm2 (K : PySem.W.Frag) (T : String) (r : V → List V → Hp → VK → Prop) (tr : TA) (σ : St) (x : V) (H : Hp) (Q : VK) : Prop := tyV K T x H ∧ tr σ H fun xs H2 => r x xs H2 Q
theorem q_bm {T : String} {r : V → List V → Hp → VK → Prop} (k : to σ H fun x H1 => bm2 K T r tr σ x H1 Q) : tBM K T r to tr σ H Q := k
theorem q_bm2 {r : V → List V → Hp → VK → Prop} (h : SqL K H p xs) (k : tr σ H fun xs H2 => r (.ref p) xs H2 Q) : bm2 K "list" r tr σ (.ref p) H Q := ⟨.inl ⟨rfl, _, h⟩, k⟩
def bm0 (K : PySem.W.Frag) (T : String) (r : V → List V → Hp → VK → Prop) (x : V) (H : Hp) (Q : VK) : Prop := tyV K T x H ∧ r x [] H Q
theorem q_bmn {T : String} {r : V → List V → Hp → VK → Prop} (k : to σ H fun x H1 => bm0 K T r x H1 Q) : tBM0 K T r to σ H Q := k
theorem q_bm0 {r : V → List V → Hp → VK → Prop} (h : SqL K H p xs) (k : r (.ref p) [] H Q) : bm0 K "list" r (.ref p) H Q := ⟨.inl ⟨rfl, _, h⟩, k⟩
theorem q_app (h : H l = some (.lst xs)) (s : xs.length < sizeLine) (k : ∀ H2, Chg H H2 l (.lst xs) (.lst (xs ++ [y])) → Q .non H2) : rAppendN (.ref l) [y] H Q := ⟨l, xs, y, rfl, rfl, h, s, k⟩
theorem q_cat (h1 : H l = some (.lst xs)) (h2 : H b = some (.lst zs)) (s : xs.length + zs.length ≤ sizeLine) (k : ∀ p H2, New H H2 p (.lst (xs ++ zs)) → Q (.ref p) H2) : rCatN (.ref l) (.ref b) H Q := ⟨l, b, xs, zs, rfl, rfl, h1, h2, s, k⟩
theorem q_slL {lo hi : Option Int} (h : SqL K H a xs) (k : ∀ p H2, New H H2 p (.lst (cutV xs lo hi)) → Q (.ref p) H2) : rSlLN K (.ref a) lo hi H Q := ⟨a, xs, rfl, h, k⟩
def fld2 (K : PySem.W.Frag) (f : Str) (x : V) (H : Hp) (Q : VK) : Prop := ∃ a C dx fs v, x = .ref a ∧ H a = some (.ins C dx fs) ∧ Cls K C ∧ NoAttr K C f ∧ fs.lookup f = some v ∧ Q v H
theorem q_fld {f : Str} (k : ta σ H fun x H1 => fld2 K f x H1 Q) : tFld K ta f σ H Q := k
theorem q_fld2 {f : Str} {C dx : Addr} {fs : List (Str × V)} (h : H a = some (.ins C dx fs)) (c : Cls K C) (n : NoAttr K C f) (e : fs.lookup f = some v) (k : Q v H) : fld2 K f (.ref a) H Q := ⟨a, C, dx, fs, v, rfl, h, c, n, e, k⟩
def meth2 (C : Addr) (m : Str) (sp : Sp) (dvs : List V) (E : XK) (tr : TA) (σ : St) (x : V) (H : Hp) (Q : VK) : Prop := ∃ a dx fs, x = .ref a ∧ H a = some (.ins C dx fs) ∧ fs.lookup m = none ∧ tr σ H fun vs H2 => sp (x :: (vs ++ dvs)) H2 Q E
theorem q_meth {C : Addr} {m : Str} {sp : Sp} {dvs : List V} {E : XK} (k : ta σ H fun x H1 => meth2 C m sp dvs E tr σ x H1 Q) : tMeth C m sp dvs E ta tr σ H Q := k
theorem q_meth2 {C dx : Addr} {fs : List (Str × V)} {m : Str} {sp : Sp} {dvs : List V} {E : XK} (h : H a = some (.ins C dx fs)) (e : fs.lookup m = none) (k : tr σ H fun vs H2 => sp (.ref a :: (vs ++ dvs)) H2 Q E) : meth2 C m sp dvs E tr σ (.ref a) H Q := ⟨a, dx, fs, rfl, h, e, k⟩
def il2 (K : PySem.W.Frag) (x : V) (H : Hp) (R : It → Hp → Prop) : Prop := ∃ a, x = .ref a ∧ (∃ xs, SqL K H a xs) ∧ R (Itl K a) H
theorem q_il (k : t σ H fun x H1 => il2 K x H1 R) : iList K t σ H R := k
theorem q_il2 (h : SqL K H a xs) (k : R (Itl K a) H) : il2 K (.ref a) H R := ⟨a, rfl, ⟨xs, h⟩, k⟩
def ir1 (vs : List V) (H : Hp) (R : It → Hp → Prop) : Prop := ∃ j : Int, vs = [.int j] ∧ -(2 ^ 62) ≤ j ∧ j < 2 ^ 62 ∧ R (Itr 0 j.toNat) H
theorem q_rng (k : tr σ H fun vs H1 => ir1 vs H1 R) : iRng1 tr σ H R := k
theorem q_ir1 (h1 : -(2 ^ 62) ≤ j) (h2 : j < 2 ^ 62) (k : R (Itr 0 j.toNat) H) : ir1 [.int j] H R := ⟨j, rfl, h1, h2, k⟩
def ie2 (K : PySem.W.Frag) (vs : List V) (H : Hp) (R : It → Hp → Prop) : Prop := ∃ a xs, vs = [.ref a] ∧ SqL K H a xs ∧ R (Ite K a) H
theorem q_enum (k : tr σ H fun vs H1 => ie2 K vs H1 R) : iEnum K tr σ H R := k
theorem q_ie2 (h : SqL K H a xs) (k : R (Ite K a) H) : ie2 K [.ref a] H R := ⟨a, xs, rfl, h, k⟩
end
theorem iteNTr {A B : Prop} (h : B) : if (!true) = true then A else B := h
theorem iteNFa {A B : Prop} (h : A) : if (!false) = true then A else B := h
end L2
namespace L2
open PySem PySem.Spec PyProof.Rows
section
variable {K : PySem.W.Frag} {σ : St} {H : Hp} {Q : VK} {x v : V} {a p : Addr} {xs : List V}
end
end L2
namespace L2
open PySem
/-! the wrappers, opened one by one -/
section
variable {K : PySem.W.Frag} {σ : St} {H : Hp} {Q : VK} {t ta tb tc to td ty tv te : TE} {tr : TA} {x y v : V} {xs : List V} {D : Ends} {s u : TS} {c c2 : TT} {g : TG} {R : It → Hp → Prop} {wi : TI} {n : Nat}
theorem w_op {r : R2} (k : ta σ H fun x H1 => tb σ H1 fun y H2 => r x y H2 Q) : tOp r ta tb σ H Q := k
theorem w_un {r : V → Hp → VK → Prop} (k : ta σ H fun x H1 => r x H1 Q) : tUn r ta σ H Q := k
theorem w_c (k : Q v H) : tC v σ H Q := k
theorem w_cons {Q : List V → Hp → Prop} (k : ta σ H fun x H1 => tr σ H1 fun xs H2 => Q (x :: xs) H2) : tCons ta tr σ H Q := k
theorem w_nil {Q : List V → Hp → Prop} (k : Q [] H) : tNil σ H Q := k
theorem w_seq (k : s { D with nx := u D } σ H) : tSeq s u D σ H := k
theorem w_next (k : D.nx σ H) : tNext D σ H := k
theorem w_drop (k : te σ H fun _ H1 => D.nx σ H1) : tDrop te D σ H := k
theorem w_ret (k : te σ H D.rt) : tRet te D σ H := k
theorem w_ifS (k : c σ H fun b H1 => if b = true then s D σ H1 else u D σ H1) : tIfS c s u D σ H := k
theorem w_asg (k : te σ H fun x H1 => g x σ H1 D.nx) : tAsg te g D σ H := k
theorem w_name {Q : St → Hp → Prop} (k : Q (σ.set n (some v)) H) : gName n v σ H Q := k
theorem w_not {Q : Bool → Hp → Prop} (k : c σ H fun b H1 => Q (!b) H1) : tNot c σ H Q := k
theorem w_and {Q : Bool → Hp → Prop} (k : c σ H fun b H1 => if b = true then c2 σ H1 Q else Q false H1) : tAnd c c2 σ H Q := k
theorem w_or {Q : Bool → Hp → Prop} (k : c σ H fun b H1 => if b = true then Q true H1 else c2 σ H1 Q) : tOr c c2 σ H Q := k
theorem w_cb {r : List V → Hp → VK → Prop} (k : tr σ H fun vs H1 => r vs H1 Q) : tCB r tr σ H Q := k
theorem w_call {sp : Sp} {dvs : List V} {E : XK} (k : tr σ H fun vs H1 => sp (vs ++ dvs) H1 Q E) : tCall sp dvs E tr σ H Q := k
theorem w_sl {r : V → Option Int → Option Int → Hp → VK → Prop} {tl th : TO} (k : te σ H fun x H1 => tl σ H1 fun l H2 => th σ H2 fun u H3 => r x l u H3 Q) : tSl r te tl th σ H Q := k
theorem w_noPart {Q : Option Int → Hp → Prop} (k : Q none H) : tNoPart σ H Q := k
theorem w_comp {js : List (Option Nat)} (k : wi σ H fun J H1 => tCompB J g c te js σ H1 Q) : tComp wi g c te js σ H Q := k
theorem w_if (k : c σ H fun b H1 => if b = true then ta σ H1 Q else tb σ H1 Q) : tIf c ta tb σ H Q := k
def for2 (g : TG) (s : TS) (D : Ends) (σ : St) (J : It) (H1 : Hp) : Prop := ∃ W : Nat → Nat → St → Hp → Prop, (∃ m, W 0 m σ H1) ∧ ∀ i m σ H, W i m σ H →
    (J.stop i H ∧ D.nx σ H) ∨ (J.go i H ∧ ∃ N : St → Hp → Prop, (∀ σ' H', N σ' H' → ∃ m', m' < m ∧ W (i + 1) m' σ' H') ∧ ∀ x H', J.yld i H x H' → g x σ H' fun σ2 H2 => s { D with nx := N, ct := N, bk := D.nx } σ2 H2)
theorem w_for (k : wi σ H (for2 g s D σ)) : tFor wi g s D σ H := k
def sfld2 (K : PySem.W.Frag) (f : Str) (D : Ends) (σ : St) (x y : V) (H : Hp) : Prop := ∃ a C dx fs, x = .ref a ∧ H a = some (.ins C dx fs) ∧ Cls K C ∧ NoAttr K C f ∧ fs.length < 1000 ∧ ∀ H3, Chg H H3 a (.ins C dx fs) (.ins C dx (putF f y fs)) → D.nx σ H3
theorem w_sfld {f : Str} (k : tv σ H fun y H1 => to σ H1 fun x H2 => sfld2 K f D σ x y H2) : sFldN K to tv f D σ H := k
theorem q_sfld2 {f : Str} {a C dx : Addr} {fs : List (Str × V)} (h : H a = some (.ins C dx fs)) (hc : Cls K C) (hn : NoAttr K C f) (hl : fs.length < 1000) (k : ∀ H3, Chg H H3 a (.ins C dx fs) (.ins C dx (putF f y fs)) → D.nx σ H3) : sfld2 K f D σ (.ref a) y H := ⟨a, C, dx, fs, rfl, h, hc, hn, hl, k⟩
theorem w_make {C : Addr} {sp : Sp} {dvs : List V} {E : XK} (k : tr σ H fun vs H1 => ∀ x dx H2, NewI H1 H2 x dx C → sp (.ref x :: (vs ++ dvs)) H2 (fun v H3 => v = .non ∧ Q (.ref x) H3) E) : tMakeN C sp dvs E tr σ H Q := k
end
end L2

set_option linter.all false
set_option maxRecDepth 100000
/-! raise and try: an exception of one's own class is raised in a def, and caught by its caller -/
namespace L2
open PySem PySem.Spec PyProof.Rows

section
variable {P : Program} {w : World} {H H' : Hp} {h h' : Heap} {a : Addr} {o : HO}
theorem ObjOk.there (x : ObjOk P w H h a o) : ∃ u, h.get? a = some u := by
  cases o with
  | lst xs => obtain ⟨_, _, _, _, e⟩ := x; exact ⟨_, e⟩
  | tup xs => obtain ⟨_, _, _, ob, e, _⟩ := x; exact ⟨_, e⟩
  | dK kvs => obtain ⟨_, _, _, _, ob, _, _, e, _⟩ := x; exact ⟨_, e⟩
  | dT kvs => obtain ⟨_, _, _, _, ob, _, _, e, _⟩ := x; exact ⟨_, e⟩
  | set S n => obtain ⟨ob, _, _, _, e, _⟩ := x; exact ⟨_, e⟩
  | ins C dx fs => obtain ⟨_, _, _, e, _⟩ := x; exact ⟨_, e⟩
  | own y => exact x
  | xd fs => obtain ⟨_, ⟨_, _, _, e, _⟩, _⟩ := x; exact ⟨_, e⟩
  | rng lo hi => obtain ⟨_, _, _, e⟩ := x; exact ⟨_, e⟩
  | frz ob u => obtain ⟨e, _⟩ := x; exact ⟨_, e⟩
  | tbl ps => exact ⟨_, (show h.get? a = some _ from x)⟩
  | met f y => exact ⟨_, (show h.get? a = some _ from x)⟩
  | ext φ => obtain ⟨_, e, _⟩ := x; exact e
/-- one more thing is tracked -/
theorem HOk.more (x : HOk P w H h) (k : ∀ b u, h.get? b = some u → h'.get? b = some u) (hn : H a = none) (new : ObjOk P w (upd H a o) h' a o) : HOk P w (upd H a o) h' := fun b u e => by
  by_cases hb : b = a
  · subst hb
    have e' : some o = some u := upd_same.symm.trans e
    cases e'
    exact new
  · rw [upd_ne hb] at e
    exact (x b u e).stay (fun c v _ q => k c v q) (fun c q => (upd_ne (ne_of_none q hn)).trans q) fun c xs q => (upd_ne (ne_of_none q hn)).trans q
theorem Un.more {fs : List Addr} {h1 : Heap} (u : Un fs [] H H' h h1) (hn : H' a = none) (nw : h.get? a = none) : Un fs [] H (upd H' a o) h h1 where
  keep := u.keep
  slot := u.slot
  free := fun b ob q n hx => (upd_ne (fun z => by rw [z, nw] at q; cases q)).trans (u.free b ob q n hx)
  there := u.there
  tups := fun b xs q => (upd_ne (ne_of_none (u.tups b xs q) hn)).trans (u.tups b xs q)
  frzs := fun b ob v q => (upd_ne (ne_of_none (u.frzs b ob v q) hn)).trans (u.frzs b ob v q)
  tbls := fun b ps q => let ⟨m, e⟩ := u.tbls b ps q; ⟨m, (upd_ne (ne_of_none e hn)).trans e⟩
/-- an exception has passed: what lies in B stays, the frames up to slots -/
theorem Un.over {fs : List Addr} {h1 h2 B : Heap} (u : Un fs [] H H' h h1) (s1 : B.StaysIn h1) (s2 : B.StaysIn h2) (inB : ∀ b o, h.get? b = some o → b ∉ fs → ∃ o', B.get? b = some o')
    (sl : ∀ b o, h1.get? b = some o → b ∈ fs → ∃ q, h2.get? b = some { o with slots := q }) (fr : ∀ b ∈ fs, H b = none) : Un fs [] H H' h h2 where
  keep := fun b ob q n hb hx => by
    obtain ⟨o', e⟩ := inB b ob q hb
    have e1 := (s1 b o' e).symm.trans (u.keep b ob q n hb hx)
    cases e1
    exact s2 b _ e
  slot := fun b ob q n hb hx => by
    obtain ⟨l1, e1⟩ := u.slot b ob q n hb hx
    obtain ⟨l2, e2⟩ := sl b _ e1 hb
    exact ⟨l2, e2⟩
  free := u.free
  there := fun b ob q hx => by
    by_cases hb : b ∈ fs
    · obtain ⟨l1, e1⟩ := u.slot b ob q (fr b hb) hb hx
      obtain ⟨l2, e2⟩ := sl b _ e1 hb
      exact ⟨_, e2⟩
    · obtain ⟨o', e⟩ := inB b ob q hb
      exact ⟨o', s2 b o' e⟩
  tups := u.tups
  frzs := u.frzs
  tbls := u.tbls
end

/-- an exception behind a call: it flies; all else lies as behind a call -/
def CX1 (P : Program) (w : World) : CXT := fun outer H s E e s' => ∃ (ea : Addr) (cls a0 : Value) (B : Heap) (H' : Hp),
  e = .ref ea ∧ s'.os = s.os ∧ AllBare s'.gens ∧ Un (frs outer) [] H H' s.heap s'.heap ∧ HOk P w H' B ∧ Heap.FlyingW B outer ea cls a0 s'.heap ∧
  (∀ b o, s.heap.get? b = some o → b ∉ frs outer → ∃ o', B.get? b = some o') ∧ E cls none H'

/-- frames change in their slots alone -/
theorem slots_over {B h1 h2 : Heap} {l : List Env} (F : h1.FunFrames B l) (up : h1.UpToSlots h2) : ∀ b o, h1.get? b = some o → b ∈ frs l → ∃ q, h2.get? b = some { o with slots := q } := fun b o e hb => by
  obtain ⟨_, o', e', nf⟩ := F.mem hb
  have z := e.symm.trans e'
  cases z
  exact up b _ e' nf

/-- an exception that is made in this body leaves it -/
def Leaves (X : Cx) (E : XK) : Prop := ∀ (pins : List (Addr × Obj)) (σ : St) (H : Hp) (s : Shared) (h' : Heap) (e : Addr) (cls : Value) (args : List Value), Inv X pins σ H s → Heap.MadeExcOf s.heap h' e cls args → E cls none H →
  X.xe (.ref e) { s with heap := h' }

section
variable {P : Program} {w : World} {K : PySem.W.Frag} {mg : Str → Option Value} {base : Heap} {N : List Str} {qual : Str} {scope : Scope} {f : Addr} {cd : Value} {A : Around} {outer : List Env} {s : Shared} {H : Hp} {E : XK}
theorem leaves1 : Leaves (cxOf (CX1 P w) P w K mg base N qual scope f cd A outer s H E) E := by
  intro pins σ H1 s1 h' e cls args I hm hE
  have fr : s1.heap.FunFrames (PySem.W.hideAll s1.heap (frs (envOfC qual scope s.heap.objs.size f cd :: outer))) (envOfC qual scope s.heap.objs.size f cd :: outer) :=
    PySem.W.funFrames_hide I.stack fun env he a ha => List.mem_filterMap.mpr ⟨env, he, ha⟩
  have st : (PySem.W.hideAll s1.heap (frs (envOfC qual scope s.heap.objs.size f cd :: outer))).StaysIn s1.heap := fun b o q => PySem.W.of_hideAll _ q
  have hid : ∀ b o, s1.heap.get? b = some o → b ∉ frs (envOfC qual scope s.heap.objs.size f cd :: outer) → (PySem.W.hideAll s1.heap (frs (envOfC qual scope s.heap.objs.size f cd :: outer))).get? b = some o := fun b o q n => PySem.W.hideAll_get _ q n
  have inB : ∀ b o, s.heap.get? b = some o → b ∉ frs outer → ∃ o', (PySem.W.hideAll s1.heap (frs (envOfC qual scope s.heap.objs.size f cd :: outer))).get? b = some o' := fun b o q hb => by
    obtain ⟨o', e'⟩ := I.base.there b o q (fun z => nomatch z)
    refine ⟨o', hid b o' e' fun z => ?_⟩
    rcases List.mem_cons.mp (I.stkSub b z) with z | z
    · exact absurd (Nat.lt_of_lt_of_le (Heap.lt_size q) I.ok.above) (by rw [z]; exact Nat.lt_irrefl _)
    · exact hb z
  have hok : HOk P w H1 (PySem.W.hideAll s1.heap (frs (envOfC qual scope s.heap.objs.size f cd :: outer))) := fun a o ea => by
    refine (I.hok a o ea).stay (fun b u hb q => hid b u q fun z => ?_) (fun _ q => q) fun _ _ q => q
    have n := I.stkFree b z
    rcases hb with rfl | hb
    · rw [ea] at n; cases n
    · rw [hb] at n; cases n
  refine wpAny_leaves_madeW (s := { s1 with heap := h' }) I.ok.frames rfl st fr hm fun h2 t x1 x2 x3 x4 => ?_
  refine ⟨e, cls, .ref t, _, H1, rfl, I.os, I.bare, ?_, hok, x1, inB, hE⟩
  refine Un.over (B := PySem.W.hideAll s1.heap (frs (envOfC qual scope s.heap.objs.size f cd :: outer))) I.base st x1.1 inB (fun b o q hb => ?_) (fun b hb => I.ok.frf b hb)
  obtain ⟨_, o', e', nf⟩ := I.funs.mem hb
  have z := q.symm.trans e'
  cases z
  exact x4 b _ (hm.keeps b _ e') nf
/-- an exception of a callee passes this body -/
theorem passes1 {E' : XK} (hE : ∀ c o H, E' c o H → E c o H) : Passes (CX1 P w) (cxOf (CX1 P w) P w K mg base N qual scope f cd A outer s H E) E' := by
  rintro pins σ H1 s1 e s' I ⟨ea, cls, a0, B, H', rfl, os, bare, un, hok, fl, inB, hE'⟩
  have J : Inv (cxOf (CX1 P w) P w K mg base N qual scope f cd A outer s H E) pins σ H' s' := I.call' (ch := []) os un (hok.kept fl.1) bare fun b z => nomatch z
  refine wpAny_leaves_onW I.ok.frames rfl fl fun h2 x1 x2 => ?_
  have inB' : ∀ b o, s.heap.get? b = some o → b ∉ frs outer → ∃ o', B.get? b = some o' := fun b o q hb => by
    obtain ⟨o', e'⟩ := I.base.there b o q (fun z => nomatch z)
    refine inB b o' e' fun z => ?_
    rcases List.mem_cons.mp (I.stkSub b z) with z | z
    · exact absurd (Nat.lt_of_lt_of_le (Heap.lt_size q) I.ok.above) (by rw [z]; exact Nat.lt_irrefl _)
    · exact hb z
  exact ⟨ea, cls, a0, B, H', rfl, J.os, J.bare, Un.over (B := B) J.base fl.1 x1.1 inB' (slots_over fl.2.2.1.2.2 x2) (fun b hb => I.ok.frf b hb), hok, x1, inB', hE _ _ _ hE'⟩
end

/-! ### raise -/
/-- the object of an exception class of one's own -/
theorem exc_obj {K : PySem.W.Frag} {h : Heap} {C : Addr} {bmB : List Value} {newId : String} (X : K.In h) (q : PySem.W.excIn K C bmB newId = true) :
    ∃ bm N nm qn bs hdct sn sub ab col dd k0 k1 k2 k3 k5 mN, h.get? C = some (excClassObj nm qn C N bs bm hdct sn sub ab col dd k0 k1 k2 k3 k5 newId) ∧ h.Ns N mN ∧ mN "__init__" = none ∧ OwnTail h bmB bm := by
  unfold PySem.W.excIn at q
  split at q
  · rename_i d1 c1 l1 hl
    split at q
    · rename_i C1 b1 v0 v1 v2 v3 nid v5 em es
      simp only [Bool.and_eq_true, beq_iff_eq, Bool.not_eq_true'] at q
      obtain ⟨⟨⟨⟨⟨y1, y2⟩, y3⟩, y4⟩, y5⟩, y6⟩ := q
      subst y1 y2
      obtain ⟨f1, f2, f3, f4, f5, f6, f7, f8, f9, f10, f11⟩ := c1
      dsimp only at em y3 y5 y6
      subst em y3
      have e6 : l1 = #[v0, v1, v2, v3, some (.builtin nid), v5] := by
        obtain ⟨l⟩ := l1
        simp only at es
        exact congrArg Array.mk es
      subst e6
      exact ⟨b1, f4, f1, f5, f2, f6, f7, f8, f9, f10, d1, v0, v1, v2, v3, v5, _, X _ _ hl, .of_isNs (PySem.W.isNs_of_in X y5), PySem.W.nsMap_none_of_in X y5 y6, PySem.W.tail_of_in X y4⟩
    · cases q
  · cases q

abbrev veM : List Value := [.type "ValueError", .type "Exception", .type "BaseException", .type "object"]
def tRaise (E : XK) (C : Addr) (t : TA) : TS := fun _ σ H => t σ H fun vs H1 => vs.length ≤ sizeLine ∧ E (.ref C) none H1
section
variable {X : Cx} {E : XK} {C : Addr} {x : Str} {e : Expr} {es : List Expr} {t : TA} {np cpos pos : Pos}
/-- raise C(e, ..), C a class of one's own under ValueError -/
theorem ps_raise (hl : Leaves X E) (hc : X.calm = true) (hg : Gl X x) (hm : X.mg x = some (.ref C)) (hx : PySem.W.excIn X.K C veM "ValueError.__new__" = true) (ha : PA X (e :: es) t) (hdb : (x == ("__debug__" : Str)) = false := by decide)
    (he : starEach (e :: es) X.env = (false, eval e X.env) :: starEach es X.env := by rfl) (hpl : (backTo cpos (starEach es X.env)).any (·.1) = false := by rfl) :
    PS X (.Raise (some (.Call (.Name x np) (e :: es) [] cpos)) none pos) (tRaise E C t) := by
  intro pins s σ H D I h
  obtain ⟨tl, N, nm, q, bs, hdct, sn, sub, ab, col, dd, k0, k1, k2, k3, k5, mN, hC, hN, hni, T⟩ := exc_obj I.ok.mod.kin hx
  refine wpAny_Raise_call_subT (C := C) (nm := nm) (q := q) (N := N) (bs := bs) (bm := tl) (hdct := hdct) (sn := sn) (sub := sub) (ab := ab) (col := col) (dd := dd) (k0 := k0) (k1 := k1) (k2 := k2) (k3 := k3) (k5 := k5) PySem.F.excBase_ValueError
    (mN := mN) (T.hasType PySem.F.excBase_ValueError.hasBase) (I.ok.hd hc) (by rw [he]; show (false || (backTo cpos (starEach es X.env)).any (·.1)) = false; rw [hpl]; rfl) hni (ld_glob I hg hm ⟨rfl, ?_⟩ hdb)
  have ha' := ha cpos pins s σ H _ I h
  rw [he] at ha' ⊢
  exact Calls.evalArgs_plain (wpAny_mono ha' (fun us s1 ⟨vs, H1, I1, r, z, q1⟩ => ⟨rfl, by rw [← r.length]; exact z, I1.bk _ _ hC, hN.keeps I1.bk, T.keeps I1.bk, fun h' e hm' => hl pins σ H1 s1 h' e _ _ I1 hm' q1⟩) fun _ _ y => y)
end

/-! ### texts with values -/
/-- the parts of a text: the length so far, then any text -/
abbrev TJ := St → Hp → Nat → (Hp → Prop) → Prop
def PJ (X : Cx) (es : List Expr) (t : TJ) : Prop := ∀ (pins : List (Addr × Obj)) (s : Shared) (σ : St) (H : Hp) (out : Str) (Q : Hp → Prop), Inv X pins σ H s → t σ H out.length Q →
  wpAny (model X.prog X.w) X.A (joinParts out (evalEach es X.env)) (fun u s' => ∃ x tk H', u = .str x tk ∧ Inv X pins σ H' s' ∧ Q H') X.xe s
section
variable {X : Cx} {e : Expr} {es : List Expr} {t : TJ} {te : TE} {pos : Pos}
theorem pj_nil : PJ X [] (fun _ H n Q => n ≤ sizeLine ∧ Q H) := fun _ s _ H out _ I h => joinParts_nil ⟨out, s.toks, H, rfl, I.tok _, h.2⟩ h.1
theorem pj_str {y : Str} {j : Nat} (h : PJ X es t) : PJ X (.Constant (.str y) j pos :: es) (fun σ H n Q => n + y.length ≤ sizeLine ∧ t σ H (n + y.length) Q) := by
  intro pins s σ H out Q I q
  refine joinParts_cons (Calls.Constant_str ⟨by rw [strLen_append]; exact q.1, ?_⟩)
  exact h pins _ σ H _ Q (I.tok _) (by rw [strLen_append]; exact q.2)
def tFst (t : TJ) : TE := fun σ H Q => t σ H 0 fun H1 => ∀ x, Q (.str x) H1
theorem pe_fstr {e₁ e₂ : Expr} (h : PJ X (e₁ :: e₂ :: es) t) : PE X (.JoinedStr (e₁ :: e₂ :: es) pos) (tFst t) := fun pins s σ H Q I q =>
  JoinedStr_many (wpAny_mono (h pins s σ H Str.empty _ I q) (fun u s1 ⟨x, tk, H1, e1, I1, q1⟩ => ⟨.str x, H1, I1, ⟨tk, e1⟩, q1 x⟩) fun _ _ z => z)
end

/-! ### a call that may raise -/
def PX (X : Cx) (CX : CXT) (e : Expr) (t : XK → TE) : Prop := ∀ (pins : List (Addr × Obj)) (s : Shared) (σ : St) (H : Hp) (Q : VK) (E : XK), Inv X pins σ H s → t E σ H Q →
  wpAny (model X.prog X.w) X.A (eval e X.env) (EP X pins σ Q) (fun ev s' => ∃ H1 s1, Inv X pins σ H1 s1 ∧ CX X.stack H1 s1 E ev s') s
section
variable {X : Cx} {CX : CXT} {k : Nat} {f C : Addr} {fd : FuncData} {ps : List Str} {sp : Sp} {dvs : List V} {ds : List Value} {E : XK} {x m : Str} {p pos apos : Pos} {e o : Expr} {es : List Expr} {ta : TE} {t : TA}
theorem run_fnX {pins : List (Addr × Obj)} {σ : St} {H : Hp} {s : Shared} {Q : VK} {us : List Value} {vs : List V} (F : FnOk X.prog X.w X.K X.mg X.base CX k f fd ps sp) (hr : Room k X.A) (hb : Binds X.K fd ps ds) (hd : Vals dvs ds)
    (I : Inv X pins σ H s) (r : Vals vs us) (h : sp (vs ++ dvs) H Q E) : wpAny (model X.prog X.w) X.A (call (.ref f) us) (EP X pins σ Q) (fun ev s' => ∃ H1 s1, Inv X pins σ H1 s1 ∧ CX X.stack H1 s1 E ev s') s := by
  have r2 : Vals (vs ++ dvs) (us ++ ds) := r.append hd
  have hl : (us ++ ds).length = ps.length := r2.length.symm.trans (F.len _ _ _ _ h)
  refine wpAny_call (codeAny_mono (F.run X.A X.stack s H ⟨us, []⟩ (us ++ ds) (vs ++ dvs) Q E hr I.env0 (hb s us I.kIn hl) r2 h) fun rr s' hq => ?_)
  rcases rr with ev | (fl | fl | fl | fl)
  · exact ⟨H, s, I, hq⟩
  · exact False.elim hq
  · exact False.elim hq
  · exact False.elim hq
  · exact I.after hq
theorem px_call (F : FnOk X.prog X.w X.K X.mg X.base CX k f fd ps sp) (hr : Room k X.A) (hg : Gl X x) (hm : X.mg x = some (.ref f)) (hk : PySem.W.keepIn X.K (.ref f) = true) (hb : Binds X.K fd ps ds) (hd : Vals dvs ds)
    (ha : PA X.nox (e :: es) t) (hdb : (x == ("__debug__" : Str)) = false := by decide) (he : starEach (e :: es) X.env = (false, eval e X.env) :: starEach es X.env := by rfl) (hpl : (backTo pos (starEach es X.env)).any (·.1) = false := by rfl) :
    PX X CX (.Call (.Name x p) (e :: es) [] pos) (fun E => tCall sp dvs E t) := by
  intro pins s σ H Q E I h
  refine wpAny_Call_Name_kw (ld_glob I hg hm ?_ hdb)
  refine PySem.W.callWith_K (h₀ := X.base) I.ok.mod.kin hk (wpAny_mono (ha pos pins s σ H _ (I.wish _) h) (fun us s1 ⟨vs, H1, I1, r, q⟩ => ⟨I1.unwish.kIn, ?_⟩) fun _ _ z => False.elim z) he hpl
  exact run_fnX F hr hb hd I1.unwish r q
end

/-! ### try -/
/-- a caught exception, known by its class -/
def excO (ea : Addr) (cls : Value) : HO := .ext fun h => ∃ o, h.get? ea = some o ∧ o.cls = cls
theorem excO_ok {P : Program} {w : World} {H : Hp} {h : Heap} {ea : Addr} {cls : Value} (e : ∃ o, h.get? ea = some o ∧ o.cls = cls) : ObjOk P w H h ea (excO ea cls) :=
  let ⟨o, h1, _⟩ := e
  ⟨e, ⟨o, h1⟩, fun _ _ ⟨o, h1, h2⟩ k => ⟨o, k o h1, h2⟩⟩
section
variable {X : Cx} {pins : List (Addr × Obj)} {σ : St} {H : Hp} {s : Shared}
/-- behind the suite the name is gone -/
theorem goes_ok {M : Model} {A : Around} {E : Value → Shared → Prop} {i : Nat} {x : Str} {pos : Pos} {Q : Unit → Shared → Prop} (I : Inv X pins σ H s) (hN : X.N.Nodup) (hi : X.N[i]? = some x) (hk : X.env.scope.names.lookup x = some .local)
    (h : ∀ s', Inv X pins (σ.set i none) H s' → Q () s') : wpAny M A (do bindName X.env x .none; unbindBehindTheSuite X.env x pos) Q E s := by
  obtain ⟨m, hn, hl⟩ := id I.loc
  refine wpAny_nameGoes_keeps hk hn (by rw [I.ok.kind]; rfl) fun h' v hn' hs => ?_
  have lt : ∀ b o, X.s₀.heap.get? b = some o → b ≠ X.env.locals := fun b o e => Nat.ne_of_lt (Nat.lt_of_lt_of_le (Heap.lt_size e) I.ok.above)
  refine h _ ⟨I.ok, I.os, I.bare, ⟨fun b o e n hb hx => (hs.2 b (lt b o e)).trans (I.base.keep b o e n hb hx), fun b o e n hb hx => ?_, I.base.free, fun b o e hx => ?_, I.base.tups, I.base.frzs, I.base.tbls⟩, ⟨_, hn', fun j y v' e1 e2 e3 => ?_⟩,
    fun y c e => ?_, I.free, I.freeC, fun p hp => ?_, fun b ob e => ?_, by simpa using I.len⟩
  · obtain ⟨q, e1⟩ := I.base.slot b o e n hb hx
    exact ⟨q, (hs.2 b (lt b o e)).trans e1⟩
  · obtain ⟨o', e1⟩ := I.base.there b o e hx
    exact ⟨o', (hs.2 b (lt b o e)).trans e1⟩
  · have hj : j ≠ i := fun z => by
      subst z
      have hiσ : j < σ.length := by rw [I.len]; exact (List.getElem?_eq_some_iff.mp hi).1
      rw [List.getElem?_set_self hiσ] at e2
      cases e2
    rw [List.getElem?_set_ne (Ne.symm hj)] at e2
    obtain ⟨u, r, q⟩ := hl j y v' e1 e2 e3
    refine ⟨u, r, ?_⟩
    rcases q with ⟨k, e⟩ | ⟨k, c, e, z⟩
    · have : y ≠ x := fun e => hj (nodup_ix hN e1 (e ▸ hi))
      exact .inl ⟨k, by simp [this, e]⟩
    · exact .inr ⟨k, c, e, z.sameBut hs (I.cne y c e)⟩
  · obtain ⟨u, z⟩ := I.cell y c e
    exact ⟨u, z.sameBut hs (I.cne y c e)⟩
  · obtain ⟨e, n, ne, nf, d⟩ := I.pin p hp
    exact ⟨(hs.2 p.1 ne).trans e, n, ne, nf, d⟩
  · refine (I.hok b ob e).stay (fun c u hc q => (hs.2 c fun z => ?_).trans q) (fun _ q => q) fun _ _ q => q
    have nf := I.free
    rw [← z] at nf
    rcases hc with rfl | hc
    · rw [nf] at e; cases e
    · rw [nf] at hc; cases hc
/-- within an except suite -/
abbrev Cx.suite (X : Cx) (ea : Addr) : Cx := { X with A := X.A.mark (some (.ref ea)), calm := false, xe := fun _ _ => False }
theorem Inv.suite (I : Inv X pins σ H s) (ea : Addr) : Inv (X.suite ea) pins σ H s :=
  ⟨⟨I.ok.mod, I.ok.kind, I.ok.glob, I.ok.blt, I.ok.above, I.ok.inj, I.ok.has, I.ok.cab, (fun z => nomatch z), I.ok.frames, I.ok.stk, I.ok.exf, I.ok.bs, I.ok.bsz, I.ok.noex, I.ok.exfs, I.ok.funs, I.ok.frf⟩, I.os, I.bare, I.base, I.loc, I.cell, I.free, I.freeC, I.pin, I.hok, I.len⟩
theorem Inv.unsuite {ea : Addr} (ok : X.Ok) (I : Inv (X.suite ea) pins σ H s) : Inv X pins σ H s := ⟨ok, I.os, I.bare, I.base, I.loc, I.cell, I.free, I.freeC, I.pin, I.hok, I.len⟩
end

end L2
namespace L2
open PySem PySem.Spec PyProof.Rows
section
variable {P : Program} {w : World} {K : PySem.W.Frag} {mg : Str → Option Value} {base : Heap}
/-- a def that may raise -/
theorem Fun.ok1 {x qual : Str} {st : Stmt} {f : Addr} {fd : FuncData} {N ps : List Str} {k : Nat} {sp : Sp} (F : Fun K x qual st f fd) (S : FnScope N ps (defScope st)) (len : ∀ vs H Q E, sp vs H Q E → vs.length = ps.length)
    (hbody : ∀ (cdv : Value) (A : Around) (outer : List Env) (s : Shared) (H : Hp) (vs : List V) (Q : VK) (E : XK), Room k (A.deeper (envOfC qual (defScope st) s.heap.objs.size f cdv)) → sp vs H Q E →
      ∃ t, PSs (cxOf (CX1 P w) P w K mg base N qual (defScope st) f cdv A outer s H E) (defBody st) t ∧ t { nx := fun _ H' => Q .non H', rt := Q } (start N vs) H) : FnOk P w K mg base (CX1 P w) (k + 1) f fd ps sp := by
  obtain ⟨oc, od, kV, doc, pm, an, cdv, ct, osl, rfl, lk, hcd⟩ := F.ex
  exact fn_of lk hcd S len fun A outer s H vs Q E hr hsp => hbody cdv A outer s H vs Q E hr hsp
end

/-! ### isinstance of an exception -/
/-- what is asked of an exception's class -/
structure ExcK (K : PySem.W.Frag) (C : Addr) : Prop where
  ga : PySem.W.findIn K (.ref C) "__getattribute__" = some (some (.builtin "BaseException.__getattribute__"))
  gt : PySem.W.findIn K (.ref C) "__getattr__" = some none
  gc : PySem.W.findIn K (.ref C) "__class__" = some (some (.builtin "object.__class__"))
  go : PySem.W.mroIn K C (.type "object") = some true
  gb : PySem.W.mroIn K C (.type "BaseException") = some true
  cl : PySem.W.isClsIn K C = true
section
open PySem.W
variable {prog : Program} {w : World} {A : Around} {E : Value → Shared → Prop} {s : Shared} {K : PySem.W.Frag} {x C : Addr} {o : Obj}
theorem xc_get {R : Result → Shared → Prop} {tp : Value} (X : K.In s.heap) (k : ExcK K C) (hx : s.heap.get? x = some o) (hc : o.cls = .ref C) (h : R (.ok (.ret (.ref C))) s) :
    codeAny (model prog w) A (.call (.builtin "getset_descriptor.__get__") ⟨[.builtin "object.__class__", .ref x, tp], []⟩) R s := by
  obtain ⟨hh, g, dr, t, os⟩ := s
  have Ty : PySem.W.Looks (model prog w) hh (typeOf (.ref x)) (.ref C) := by rw [← hc]; exact (PySem.W.Looks.ld hx).andThen .now
  have Mo := PySem.W.looks_mroIn (M := model prog w) X k.go
  refine codeAny_call_builtin KF.slot_gs.plain KF.entry_gs (PySem.W.KF.slot_gs.check _ _ _ _ _ _ _ _ KF.type_class (KF.args_gs _ _ _) ?_)
  (unfold Builtin.«getset_descriptor.__get__» Builtin.Getset_descriptor.descrGet; rw [PySem.W.dga_obj])
  refine wpAny_bind (wpAny_pure ?_)
  (unfold Builtin.Getset_descriptor.descrGetter Builtin.Getset_descriptor.descrCheckInstance Builtin.Getset_descriptor.descrNameAndClass isInstance; simp only [KF.owner_class])
  repeat lk
  refine ⟨Code.quiet_builtin _ (by decide +kernel), codeAny_builtin PySem.W.KF.entry_class ?_⟩
  (unfold Builtin.«object.__class__» shownTypeOf; repeat lk)
  exact h
theorem xc_check {Q : Unit → Shared → Prop} {nameV : Value} (X : K.In s.heap) (k : ExcK K C) (hx : s.heap.get? x = some o) (hc : o.cls = .ref C) (h : Q () s) : wpAny (model prog w) A (checkBuiltinCall "BaseException.__getattribute__" ⟨[.ref x, nameV], []⟩) Q E s := by
  obtain ⟨hh, g, dr, t, os⟩ := s
  have Ty : PySem.W.Looks (model prog w) hh (typeOf (.ref x)) (.ref C) := by rw [← hc]; exact (PySem.W.Looks.ld hx).andThen .now
  have Mb := PySem.W.looks_mroIn (M := model prog w) X k.gb
  have kd : builtinKind "BaseException.__getattribute__" = some .slot := by decide +kernel
  have sp : splitId "BaseException.__getattribute__" = some ("BaseException", "__getattribute__") := by decide +kernel
  have ar := F.args_bexc_ga (.ref x) nameV
  simp only [checkBuiltinCall, kd, sp]
  unfold isInstance
  repeat (first | lk | wp_step)
  exact h
theorem xc_entry {Q : Fin → Shared → Prop} {tk : Tok} (X : K.In s.heap) (k : ExcK K C) (hx : s.heap.get? x = some o) (hc : o.cls = .ref C) (h : Q (.done (.ret (.ref C))) s) : wpAny (model prog w) A (Builtin.«object.__getattribute__» ⟨[.ref x, .str "__class__" tk], []⟩) Q E s := by
  have f5 := F.typeOf_object_class
  have f6 := F.slot_gs_get.lookup
  have f7 := F.slot_gs_set.lookup
  obtain ⟨hh, g, dr, t, os⟩ := s
  have hT5 : (⟨hh, g, dr, t, os⟩ : Shared).TypeIs (.builtin "object.__class__") "getset_descriptor" := F.typeOf_object_class
  have Ty : PySem.W.Looks (model prog w) hh (typeOf (.ref x)) (.ref C) := by rw [← hc]; exact (PySem.W.Looks.ld hx).andThen .now
  have Lc := PySem.W.looks_findIn (M := model prog w) X k.gc
  repeat (any_goals (first | assumption | with_reducible refine Looks.at Ty ?_ | with_reducible refine Looks.at Lc ?_ | wp_step))
  refine xc_get X k hx hc ?_
  repeat (any_goals (first | assumption | wp_step))
theorem xc_attr {Q : Option Value → Shared → Prop} (X : K.In s.heap) (k : ExcK K C) (hx : s.heap.get? x = some o) (hc : o.cls = .ref C) (h : Q (some (.ref C)) { s with toks := s.toks + 1 }) : wpAny (model prog w) A (getAttr? (.ref x) "__class__") Q E s := by
  obtain ⟨hh, g, dr, t, os⟩ := s
  have Ty : PySem.W.Looks (model prog w) hh (typeOf (.ref x)) (.ref C) := by rw [← hc]; exact (PySem.W.Looks.ld hx).andThen .now
  have La := PySem.W.looks_findIn (M := model prog w) X k.ga
  have Lt := PySem.W.looks_findIn (M := model prog w) X k.gt
  have f3 := F.attr_ValueError.ga.bind (.ref x)
  unfold getAttr? getAttrBy? getAttrBy
  refine wpAny_bind (wpAny_mkText (wpAny_bind (wpAny_attempt (wpAny_holding (wpAny_bind (Ty.at (wpAny_bind (La.at ?_))))))))
  dsimp only
  have nq : (Value.builtin "BaseException.__getattribute__" == Value.builtin "object.__getattribute__") = false := by decide +kernel
  rw [if_neg (by rw [nq]; simp)]
  unfold getAttrByItsOwn hookBefore
  refine wpAny_bind (Lt.at ?_)
  refine wpAny_bind (wpAny_attempt (wpAny_holding ?_))
  unfold callGetattribute boundAndCalled
  rw [if_neg (by decide), f3]
  refine wpAny_bind (wpAny_pure (wpAny_call (codeAny_call_builtin F.attr_ValueError.ga.plain F.entry_bexc_ga (xc_check (s := ⟨hh, g, dr, t + 1, os⟩) X k hx hc (xc_entry (s := ⟨hh, g, dr, t + 1, os⟩) X k hx hc ?_)))))
  exact wpAny_pure (wpAny_pure h)
theorem kitx_exc (k : ExcK K C) : PySem.W.KitX K (.ref x) (.ref C) (fun h => ∃ o, h.get? x = some o ∧ o.cls = .ref C) where
  ty := fun M h _ p => by
    obtain ⟨o, h1, h2⟩ := p
    exact h2 ▸ (PySem.W.Looks.ld h1).andThen .now
  it := fun M h X _ => by
    have z0 := k.cl
    unfold PySem.W.isClsIn PySem.W.clsIn at z0
    split at z0
    · rename_i c1 d1 cd1 sl1 ho
      intro A' Q' E' s' kk q
      unfold isType loadHead
      exact wpAny_bind (wpAny_loadPart (kk _ _ (X _ _ ho)) (wpAny_pure q))
    · cases z0
  ne := fun h tp dd its n sl X htp => by
    have z0 := k.cl
    refine Bool.eq_false_iff.mpr fun q => ?_
    have e : C = tp := Value.ref.inj (beq_iff_eq.mp q)
    subst e
    unfold PySem.W.isClsIn PySem.W.clsIn at z0
    split at z0
    · rename_i c1 d1 cd1 sl1 ho
      have z := (X _ _ ho).symm.trans htp
      cases z
    · cases z0
  ca := fun X p h => let ⟨o, h1, h2⟩ := p; xc_attr X k h1 h2 h
end
section
variable {X : Cx} {K : PySem.W.Frag}
theorem refs_vals : ∀ {cs : List Addr} {us : List Value}, Vals (cs.map V.ref) us → us = cs.map Value.ref
  | [], _, .nil => rfl
  | c :: cs, _, .cons r t => by
    cases r
    rw [refs_vals t]
    rfl
def rIsxT (K : PySem.W.Frag) : List V → Hp → VK → Prop := fun xs H Q => ∃ ea C tp, ∃ cs : List Addr, ∃ b, xs = [.ref ea, .ref tp] ∧ H ea = some (excO ea (.ref C)) ∧ ExcK K C ∧ H tp = some (.tup (cs.map V.ref)) ∧ PySem.W.kitAny K (.ref C) (cs.map Value.ref) = some b ∧ Q (.bl b) H
def rIsx1 (K : PySem.W.Frag) : List V → Hp → VK → Prop := fun xs H Q => ∃ ea C v b, xs = [.ref ea, v] ∧ H ea = some (excO ea (.ref C)) ∧ ExcK K C ∧ ((∃ D, v = .ref D ∧ PySem.W.kitOne K (.ref C) (.ref D) = some b) ∨ (∃ T, v = .ty T ∧ PySem.W.kitOne K (.ref C) (.type T) = some b)) ∧ Q (.bl b) H
theorem call_isxT (hK : X.K = K) : CallR X (.builtin "isinstance") (rIsxT K) := by
  subst hK
  intro pins s σ H xs us Q I r h
  obtain ⟨ea, C, tp, cs, b, rfl, e1, k, e2, e3, q⟩ := h
  obtain ⟨u, c, rfl, ru, rc⟩ := vals2 r
  cases ru
  cases rc
  obtain ⟨_, its, rv, ot, h1, h2, n, h3⟩ := I.hok _ _ e2
  have hp := (I.hok _ _ e1).1
  cases refs_vals rv
  obtain ⟨oc, od, oda, osl⟩ := ot
  dsimp only at h2 h3
  subst h2 h3
  exact PySem.W.kia_tup (kitx_exc k) I.kIn hp h1 e3 (fun z => nomatch z) fun tk => ⟨.bl b, H, I.tok _, rfl, q⟩
theorem call_isx1 (hK : X.K = K) : CallR X (.builtin "isinstance") (rIsx1 K) := by
  subst hK
  intro pins s σ H xs us Q I r h
  obtain ⟨ea, C, v, b, rfl, e1, k, e3, q⟩ := h
  obtain ⟨u, c, rfl, ru, rc⟩ := vals2 r
  cases ru
  have hp := (I.hok _ _ e1).1
  rcases e3 with ⟨D, rfl, e3⟩ | ⟨T, rfl, e3⟩
  · cases rc
    exact PySem.W.kia_one (kitx_exc k) I.kIn hp e3 (fun z => nomatch z) fun tk => ⟨.bl b, H, I.tok _, rfl, q⟩
  · cases rc
    exact PySem.W.kia_one (kitx_exc k) I.kIn hp e3 (fun z => nomatch z) fun tk => ⟨.bl b, H, I.tok _, rfl, q⟩
theorem bt_ValueError : bootBuiltins "ValueError" = some (.type "ValueError") := by decide +kernel
end
end L2

set_option linter.all false
set_option maxRecDepth 100000
/-! functions as values: lambdas; the law's heap with the tables that they are written into -/
namespace L2
open PySem PySem.Spec PyProof.Rows

end L2
namespace L2
open PySem PySem.Spec PyProof.Rows
/-! ### a code object, a lambda, a cell: each known by its own object -/
section
variable {P : Program} {w : World} {H : Hp} {h : Heap} {p c : Addr} {qual : Str} {params : Arguments} {body : Expr} {scope : Scope} {cl : List (Str × Addr)} {v : V}
end


end L2
/-! ### max(.., key=f): f's keys are ints -/
namespace L2
open PySem PySem.Spec PyProof.Rows
section
variable {prog : Program} {w : World} {A : Around} {R : Result → Shared → Prop} {I S l q : Addr} {n : Nat} {Pv : Nat → Value → Prop} {kf : Nat → Int} {J : Shared → Prop}
end
end L2
/-! ### a lambda is made: its code object is laid in the table of the code that runs, once -/
namespace L2
open PySem PySem.Spec PyProof.Rows
section
variable {X : Cx} {pins : List (Addr × Obj)} {σ : St} {H : Hp} {s : Shared}
end
end L2
namespace L2
open PySem PySem.Spec PyProof.Rows
section
variable {X : Cx} {pins : List (Addr × Obj)} {σ : St} {H : Hp} {s : Shared}
end
end L2
namespace L2
open PySem PySem.W PySem.Spec PyProof.Rows
end L2
namespace L2
open PySem PySem.Spec PyProof.Rows
end L2

set_option linter.all false
set_option maxRecDepth 100000
/-! functions handed over: a local name that holds one is called; a lambda as an argument; pop, extend, copy by changes -/
namespace L2
open PySem PySem.Spec PyProof.Rows
section
variable {X : Cx}
def rPopN : V → List V → Hp → VK → Prop := fun x vs H Q => ∃ l xs y, x = .ref l ∧ vs = [] ∧ H l = some (.lst (xs ++ [y])) ∧ ∀ H2, Chg H H2 l (.lst (xs ++ [y])) (.lst xs) → Q y H2
theorem mt_popN : MtR X "list.pop" rPopN := MtR.weak mt_pop fun x vs H Q ⟨l, xs, y, h1, h2, h3, h4⟩ => ⟨l, xs ++ [y], y, h1, h2, h3, by simp, by rw [List.dropLast_concat]; exact h4 _ ⟨h3, rfl⟩⟩
end
section
variable {K : PySem.W.Frag} {H : Hp} {Q : VK} {l b a : Addr} {xs zs : List V} {y : V} {kvs : List (Key × V)}
theorem q_pop (h : H l = some (.lst (xs ++ [y]))) (k : ∀ H2, Chg H H2 l (.lst (xs ++ [y])) (.lst xs) → Q y H2) : rPopN (.ref l) [] H Q := ⟨l, xs, y, rfl, rfl, h, k⟩
end

/-! ### a function value -/
section
variable {P : Program} {w : World} {K : PySem.W.Frag} {mg : Str → Option Value} {base : Heap} {k : Nat} {p : Addr} {sp : Sp} {H H1 : Hp}
end

/-! ### a thing known by its very object, for a while -/

end L2
namespace L2
open PySem PySem.Spec PyProof.Rows
end L2

set_option linter.all false
set_option maxRecDepth 100000
/-! texts: comparison, the signs of a text, all(..), int of a text, str of a text; constants of the module -/
namespace L2
open PySem PySem.Spec PyProof.Rows
section
variable {X : Cx}
def rLeS : R2 := fun x y H Q => ∃ i j, x = .str i ∧ y = .str j ∧ Q (.bl (!decide (j.cps.toList < i.cps.toList))) H
theorem op_le_str : OpR X (compareOp .LtE) rLeS := by
  intro pins s σ H x y v u Q I rx ry h
  obtain ⟨i, j, rfl, rfl, q⟩ := h
  obtain ⟨t, rfl⟩ := rx
  obtain ⟨t', rfl⟩ := ry
  exact PySem.P.le_str ⟨.bl _, H, I, rfl, q⟩
/-- the signs of a text -/
def Its (z : Str) : It := ⟨fun i _ => i < z.cps.size, fun i H x H' => H' = H ∧ ∃ c, z.cps[i]? = some c ∧ x = .str ⟨#[c]⟩, fun i _ => z.cps.size ≤ i⟩
theorem turn_str {P : Program} {w : World} {K : PySem.W.Frag} {tg : Expr} (z : Str) (t : Tok) (it : Addr) : Turn P w K tg (Its z) [it] it (fun i h => h.IsStrIter it "str_ascii_iterator" z t i) where
  mem := by simp
  obj := fun i h st b hb => by
    have e : b = it := by simpa using hb
    subst e
    obtain ⟨o, e, c, d⟩ := st
    exact ⟨o, e, fun v z => by rw [d] at z; cases z⟩
  keep := fun i h h' st k => let ⟨o, ho, r⟩ := st; ⟨o, k it (by simp) o ho, r⟩
  item := by
    intro X hP hw hK hc i pins s σ H E I hf st hg
    subst hP hw hK
    have hg : i < z.cps.size := hg
    obtain ⟨f0, f1, f2, f3, f4, f5⟩ := hf it (by simp)
    refine wpAny_pyNext_ascii_item st (c := z.cps[i]) (by simp [hg]) fun h' st' sb => ?_
    have I1 : Inv X pins σ H { s with heap := h', toks := s.toks + 1 } := I.turned (t' := s.toks + 1) (fun b o hb e => (sb.2 b hb).trans e) f0 f1 f3 f4 f5
    obtain ⟨o, e, c, d⟩ := id st'
    exact ⟨_, rfl, go_of (s := { s with heap := h', toks := s.toks + 1 }) e c d (by decide) ⟨.str ⟨#[z.cps[i]]⟩, H, I1, ⟨_, rfl⟩, ⟨rfl, z.cps[i], by simp [hg], rfl⟩, st', fun b hb => (hf b hb).1⟩⟩
  done := by
    intro X hP hw hK hc i pins s σ H E I hf st hg
    subst hP hw hK
    have hg : z.cps.size ≤ i := hg
    obtain ⟨f0, f1, f2, f3, f4, f5⟩ := hf it (by simp)
    exact wpAny_pyNext_ascii_end (I.ok.hd hc) st (by simp [hg]) fun h' eb => ⟨rfl, I.turned (t' := s.toks) (fun b o hb e => eb b o hb e) f0 f1 f3 f4 f5⟩
  self := fun _ _ _ _ _ st h => wpAny_pyIter_striter_ascii st h
def is2 (x : V) (H : Hp) (R : It → Hp → Prop) : Prop := ∃ z : Str, x = .str z ∧ z.cps.all (· < 128) = true ∧ R (Its z) H
def iStr (tl : TE) : TI := fun σ H R => tl σ H fun x H1 => is2 x H1 R
theorem pi_str {tg l : Expr} {tl : TE} (hl : PE X l tl) : PI X tg l (iStr tl) := by
  intro pins s σ H R I h
  refine thn (hl pins s σ H _ I h) fun v s1 ⟨x, H1, I1, r1, q1⟩ => ?_
  obtain ⟨z, e, ha, q⟩ := q1
  subst e
  obtain ⟨t, rfl⟩ := r1
  refine wpAny_pyIter_ascii ha ?_
  refine ⟨s1.heap.objs.size, [s1.heap.objs.size], _, _, H1, rfl, I1.kept (t' := s1.toks) fun b o e => Heap.get?_push_of_some _ e, turn_str z t _, ⟨_, Heap.get?_push_size _ rfl, rfl, rfl⟩, fun b hb => ?_, q⟩
  have e : b = s1.heap.objs.size := by simpa using hb
  subst e
  exact I1.fpOk (Nat.le_refl _) (I1.hok.fresh (Nat.le_refl _))
theorem yields_str {z : Str} {H : Hp} : Yields (Its z) z.cps.size (fun i x _ => ∃ c, z.cps[i]? = some c ∧ x = .str ⟨#[c]⟩) H where
  go := fun i H1 s hi => hi
  yld := fun i H1 x H2 hi s y => by
    obtain ⟨e, y⟩ := y
    subst e
    exact ⟨Same.refl _, y⟩
  stop := fun i H1 s hi => hi
/-- all of a list of truths -/
def rAll (K : PySem.W.Frag) : List V → Hp → VK → Prop := fun xs H Q => ∃ a, ∃ bs : List Bool, xs = [.ref a] ∧ SqL K H a (bs.map V.bl) ∧ Q (.bl (bs.all id)) H
theorem call_all (hc : X.calm = true) : CallR X (.builtin "all") (rAll X.K) := by
  intro pins s σ H xs us Q I r h
  obtain ⟨a, bs, rfl, hq, q⟩ := h
  obtain ⟨u, rfl, ru⟩ := vals1 r
  cases ru
  obtain ⟨its, rv, p, hz⟩ := I.list hq
  have hl := p.isList
  have hlt : a < s.heap.objs.size := by obtain ⟨_, e, _⟩ := id hl; exact Heap.lt_size e
  have hlen : its.toArray.size = bs.length := by
    have := rv.length
    rw [List.length_map] at this
    simp [this]
  refine call_all_walk (wpAny_pyIter_list hl ?_)
  refine ⟨s.heap.objs.size, _, _, _, _, _, fun i => bs.getD i false, rfl, Walks.list (A := X.A.in1) (I.ok.hd hc) _ a (Nat.ne_of_lt hlt) its.toArray, ⟨⟨_, Heap.get?_push_size _ rfl, rfl, rfl⟩, hl.push _⟩, ?_, fun h' tk hk => ?_⟩
  · intro i v s' Q' E' hv hQ'
    have hv : its.toArray[i]? = some v := hv
    have hv2 : its[i]? = some v := by simpa using hv
    have hi : i < bs.length := by
      have := (List.getElem?_eq_some_iff.mp hv2).1
      have := rv.length
      rw [List.length_map] at this
      omega
    obtain ⟨u, hu, ru⟩ := rv.get (i := i) (x := .bl bs[i]) (by simp [hi])
    rw [hu] at hv2
    cases hv2
    cases ru
    refine wpAny_truthy_bool ?_
    have hQ' : Q' (bs.getD i false) s' := hQ'
    have : bs.getD i false = bs[i] := by simp [List.getD_eq_getElem?_getD, hi]
    rw [this] at hQ'
    exact hQ'
  · rw [hlen]
    have e : (List.range bs.length).all (fun i => bs.getD i false) = bs.all id := by
      rw [Bool.eq_iff_iff, List.all_eq_true, List.all_eq_true]
      constructor
      · intro h b hb
        obtain ⟨i, hi, e⟩ := List.getElem_of_mem hb
        have := h i (List.mem_range.mpr hi)
        simp [List.getD_eq_getElem?_getD, hi, e] at this
        simpa using this
      · intro h i hi
        have hi := List.mem_range.mp hi
        have := h bs[i] (List.getElem_mem hi)
        simpa [List.getD_eq_getElem?_getD, hi] using this
    rw [e]
    refine ⟨.bl _, H, I.kept fun b o e => hk b o ?_ (Heap.get?_push_of_some _ e), rfl, q⟩
    have hlb := Heap.lt_size e
    intro z
    have z : b = s.heap.objs.size := by simpa using z
    rw [z] at hlb
    exact absurd hlb (Nat.lt_irrefl _)
theorem call_allK {K : PySem.W.Frag} (hK : X.K = K) (hc : X.calm = true) : CallR X (.builtin "all") (rAll K) := by subst hK; exact call_all hc
theorem q_all {K : PySem.W.Frag} {H : Hp} {Q : VK} {a : Addr} {bs : List Bool} (h : SqL K H a (bs.map V.bl)) (k : Q (.bl (bs.all id)) H) : rAll K [.ref a] H Q := ⟨a, bs, rfl, h, k⟩
/-- int of a text that writes one -/
def rIntS : List V → Hp → VK → Prop := fun xs H Q => ∃ x n, xs = [.str x] ∧ PySem.intText? x = some n ∧ x.length ≤ 640 ∧ Q (.int n) H
theorem call_int_str : CallR X (.type "int") rIntS := by
  intro pins s σ H xs us Q I r h
  obtain ⟨x, n, rfl, hn, hl, q⟩ := h
  obtain ⟨u, rfl, t, rfl⟩ := vals1 r
  exact PySem.W.KIN.call_text hn hl ⟨.int n, H, I.tok _, ⟨_, rfl⟩, q⟩
theorem call_str_str : CallR X (.type "str") (fun xs H Q => ∃ x, xs = [.str x] ∧ Q (.str x) H) := by
  intro pins s σ H xs us Q I r h
  obtain ⟨x, rfl, q⟩ := h
  obtain ⟨u, rfl, t, rfl⟩ := vals1 r
  exact PySem.P.str_of_str ⟨.str x, H, I, ⟨_, rfl⟩, q⟩
/-- str of an int or of a text -/
theorem call_str_any : CallR X (.type "str") (fun xs H Q => (∃ x, xs = [.str x] ∧ Q (.str x) H) ∨ ∃ i : Int, xs = [.int i] ∧ i.natAbs.log2 < 1920 ∧ Q (.str (toString i)) H) := by
  intro pins s σ H xs us Q I r h
  rcases h with h | h
  · exact call_str_str pins s σ H xs us Q I r h
  · exact call_str_int pins s σ H xs us Q I r h
end
/-! ### constants of the module -/
/-- an int, or a text -/
theorem pe_globC {X : Cx} {x : Str} {v : V} {pos : Pos} (h : ∃ u, X.mg x = some u ∧ RelV v u) (hg : Gl X x) (hd : (x == ("__debug__" : Str)) = false := by decide) : PE X (.Name x pos) (tC v) := by
  obtain ⟨u, hm, r⟩ := h
  exact pe_glob hg hm r hd
/-- a dict of texts by texts -/
def GD (w : World) (K : PySem.W.Frag) (mg : Str → Option Value) (x : Str) (kvs : List (Str × Str)) : Prop :=
  ∃ a, mg x = some (.ref a) ∧ (a == sysModules) = false ∧ ∃ vs : List (Str × Value), (∀ k, RelO ((kvs.lookup k).map V.str) (valueAt vs k)) ∧ ∀ (P : Program) (h : Heap), K.In h → h.DictOf (strKind P w) a vs
def gg2 (kvs : List (Str × Str)) (y : V) (H : Hp) (Q : VK) : Prop := ∃ k v, y = .str k ∧ kvs.lookup k = some v ∧ Q (.str v) H
def tGGet (kvs : List (Str × Str)) (ty : TE) : TE := fun σ H Q => ty σ H fun y H1 => gg2 kvs y H1 Q
theorem pe_gget {X : Cx} {x : Str} {kvs : List (Str × Str)} {i : Expr} {ty : TE} {p pos : Pos} (G : GD X.w X.K X.mg x kvs) (hg : Gl X x) (hi : PE X i ty) (hs : NoSl i) (hdb : (x == ("__debug__" : Str)) = false := by decide) : PE X (.Subscript (.Name x p) i pos) (tGGet kvs ty) := by
  intro pins s σ H Q I h
  obtain ⟨a, hm, _, vs, rel, dd⟩ := G
  refine subD_of PySem.F.slot_dict_getitem.lookup hs (ld_glob I hg hm (thn (hi pins s σ H _ I h) fun iv s2 ⟨y, H2, I2, ry, k, v, ex, l, q2⟩ => ?_) hdb)
  subst ex
  obtain ⟨t, rfl⟩ := ry
  have d2 := dd X.prog s2.heap I2.kIn
  obtain ⟨w', hw, rw'⟩ := RelO.some_of (v := .str v) (o := valueAt vs k) (by have := rel k; rw [l] at this; exact this)
  exact ⟨d2.typeIs, wpAny_getItem_of (knd := strKind X.prog X.w) (k := k) (by show Value.isStrOf k (.str k t) = true; simp [Value.isStrOf]) d2.mapOf hw ⟨.str v, H2, I2.tok _, rw', q2⟩⟩
def gi2 (kvs : List (Str × Str)) (y : V) (H : Hp) (Q : VK) : Prop := ∃ k, y = .str k ∧ Q (.bl (kvs.lookup k).isSome) H
def tGIn (kvs : List (Str × Str)) (ty : TE) : TE := fun σ H Q => ty σ H fun y H1 => gi2 kvs y H1 Q
theorem pc_gin {X : Cx} {x : Str} {kvs : List (Str × Str)} {i : Expr} {ty : TE} {p : Pos} (G : GD X.w X.K X.mg x kvs) (hg : Gl X x) (hi : PE X i ty) (hdb : (x == ("__debug__" : Str)) = false := by decide) : PC X .In i (.Name x p) (tGIn kvs ty) := by
  intro pins s σ H Q I h
  obtain ⟨a, hm, hsy, vs, rel, dd⟩ := G
  refine thn (hi pins s σ H _ I h) fun iv s1 ⟨y, H1, I1, ry, k, ex, q1⟩ => ld_glob I1 hg hm ?_ hdb
  subst ex
  obtain ⟨t, rfl⟩ := ry
  have d2 := dd X.prog s1.heap I1.kIn
  refine wpAny_in_of (knd := strKind X.prog X.w) (k := k) (by show Value.isStrOf k (.str k t) = true; simp [Value.isStrOf]) hsy d2.mapOf ?_
  rw [← (rel k).isSome_eq]
  refine ⟨.bl _, H1, I1.tok _, rfl, ?_⟩
  have e : ((kvs.lookup k).map V.str).isSome = (kvs.lookup k).isSome := by cases kvs.lookup k <;> rfl
  rw [e]
  exact q1
end L2
namespace L2
open PySem PySem.Spec PyProof.Rows
/-- two pairs -/
theorem gd_mk {w : World} {K : PySem.W.Frag} {mg : Str → Option Value} {x : Str} {a : Addr} {k1 k2 v1 v2 : Str} {t1 t2 t3 t4 : Tok} {ep : Nat} (hm : mg x = some (.ref a))
    (hl : K.lookup a = some { cls := .type "dict", data := .dict #[⟨PyData.keyHash w.params k1, .str k1 t1, .str v1 t2⟩, ⟨PyData.keyHash w.params k2, .str k2 t3, .str v2 t4⟩] ep }) (hs : (a == sysModules) = false) (hne : (k1 == k2) = false) : GD w K mg x [(k1, v1), (k2, v2)] := by
  have hne' : k1 ≠ k2 := by simpa using hne
  refine ⟨a, hm, hs, [(k1, .str v1 t2), (k2, .str v2 t4)], fun k => ?_, fun P h kin => ?_⟩
  · unfold valueAt
    rw [List.lookup_cons, List.find?_cons]
    by_cases h1 : k = k1
    · subst h1
      simp [RelO, RelV]
    · have h1' : (k == k1) = false := by simpa using h1
      have h1'' : ¬ k1 = k := fun z => h1 z.symm
      simp only [h1', h1'', decide_false]
      rw [List.lookup_cons, List.find?_cons]
      by_cases h2 : k = k2
      · subst h2
        simp [RelO, RelV]
      · have h2' : (k == k2) = false := by simpa using h2
        have h2'' : ¬ k2 = k := fun z => h2 z.symm
        simp [h2', h2'', RelO]
  · refine ⟨_, _, ep, kin a _ hl, ⟨rfl, rfl, rfl⟩, rfl, ?_, ?_, ?_⟩
    · intro e he
      have he : e = ⟨PyData.keyHash w.params k1, .str k1 t1, .str v1 t2⟩ ∨ e = ⟨PyData.keyHash w.params k2, .str k2 t3, .str v2 t4⟩ := by simpa using he
      rcases he with rfl | rfl
      · exact ⟨k1, by show Value.isStrOf k1 (.str k1 t1) = true; simp [Value.isStrOf], rfl⟩
      · exact ⟨k2, by show Value.isStrOf k2 (.str k2 t3) = true; simp [Value.isStrOf], rfl⟩
    · exact .cons (by show Value.isStrOf k1 (.str k1 t1) = true; simp [Value.isStrOf]) rfl (.cons (by show Value.isStrOf k2 (.str k2 t3) = true; simp [Value.isStrOf]) rfl .nil)
    · simp [hne']
end L2
namespace L2
open PySem PySem.Spec PyProof.Rows
@[irreducible] def rAddS : R2 := fun x y H Q => ∃ i j, x = .str i ∧ y = .str j ∧ i.length + j.length ≤ sizeLine ∧ Q (.str (i ++ j)) H
theorem op_addS {X : Cx} : OpR X (binaryOp .Add) rAddS := by unfold rAddS; exact op_add_str
theorem q_addS0 {x y : Str} {Q : VK} {H : Hp} (h : x.length + y.length ≤ sizeLine) (k : Q (.str (x ++ y)) H) : rAddS (.str x) (.str y) H Q := by unfold rAddS; exact ⟨x, y, rfl, rfl, h, k⟩
end L2
namespace L2
open PySem PySem.Spec PyProof.Rows
end L2

set_option linter.all false
set_option maxRecDepth 100000
/-! texts with a text's repr; exceptions that pass a loop; try around a call whose value is dropped -/
namespace L2
open PySem PySem.Spec PyProof.Rows
section
variable {X : Cx} {e : Expr} {es : List Expr} {t : TJ} {te : TE} {pos : Pos}
theorem pj_repr (he : PE X e te) (h : PJ X es t) : PJ X (.FormattedValue e 114 none pos :: es) (fun σ H n Q => te σ H fun v H1 => ∃ x : Str, v = .str x ∧ (∀ c ∈ x.cps.toList, c < 16 ^ 8) ∧ n + (10 * x.length + 2) ≤ sizeLine ∧ ∀ m, m ≤ n + (10 * x.length + 2) → t σ H1 m Q) := by
  intro pins s σ H out Q I q
  refine joinParts_cons (wpAny_FormattedValue_repr (thn (he pins s σ H _ I q) fun v s1 ⟨x, H1, I1, r, y, e1, hc, z, q1⟩ => ?_))
  subst e1
  obtain ⟨tk, rfl⟩ := r
  have hl := PySem.StrLaws.reprText_len y hc
  have hl2 : (PySem.reprText y).length ≤ sizeLine := by omega
  refine pyReprObj_str (formatField_str (fun t' tk' => ⟨by rw [strLen_append]; omega, ?_⟩) hl2) hl2
  exact h pins _ σ H1 _ Q ((I1.tok _).tok _) (by rw [strLen_append]; exact q1 _ (by omega))
end
section
variable {CX : CXT} {P : Program} {w : World} {K : PySem.W.Frag} {mg : Str → Option Value} {base : Heap} {N : List Str} {qual : Str} {scope : Scope} {f : Addr} {cd : Value} {A : Around} {outer : List Env} {s : Shared} {H : Hp} {E : XK}
theorem own1 : PassesOwn (model (cxOf CX P w K mg base N qual scope f cd A outer s H E).prog (cxOf CX P w K mg base N qual scope f cd A outer s H E).w) (cxOf CX P w K mg base N qual scope f cd A outer s H E).A (cxOf CX P w K mg base N qual scope f cd A outer s H E).env (cxOf CX P w K mg base N qual scope f cd A outer s H E).xe := PassesOwn.leaving
end
/-- try: <a call> except C as e: y = e -/
def tTryE (K : PySem.W.Frag) (c : Value) (tc : XK → TE) (ie iy : Nat) : TS := fun D σ H =>
  tc (fun cls _ H' => PySem.W.exmOne K cls c = some true ∧ ∀ ea, H' ea = none → D.nx (((σ.set ie (some (.ref ea))).set iy (some (.ref ea))).set ie none) (upd H' ea (excO ea cls))) σ H fun _ H1 => D.nx σ H1
theorem ps_tryE {X : Cx} {y en cn : Str} {iy ie : Nat} {c : Expr} {tc : XK → TE} {C : Addr} {py pe np spos apos hpos pos : Pos} (hN : X.N.Nodup) (hiy : X.N[iy]? = some y) (hy : Loc X.env.scope y)
    (hie : X.N[ie]? = some en) (hen : X.env.scope.names.lookup en = some .local) (hst : X.stack = X.env :: X.outer ∧ X.env.frame = some X.env.locals) (hfn : ∀ x, X.fn x = true) (hg : Gl X cn) (hm : X.mg cn = some (.ref C)) (hc : PX X (CX1 X.prog X.w) c tc)
    (hs : swapsWith c none spos.line X.env = pure false := by rfl) (hs2 : swapsWith (.Name en pe) (some (.Name y py)) apos.line X.env = pure false := by rfl) (hdb : (cn == ("__debug__" : Str)) = false := by decide)
    (hd2 : (en == ("__debug__" : Str)) = false := by decide) (hd3 : (en == ("__classdict__" : Str)) = false := by decide) :
    PS X (.Try [.Expr c spos] [.ExceptHandler (some (.Name cn np)) (some en) [.Assign [.Name y py] (.Name en pe) apos] hpos] [] [] pos) (tTryE X.K (.ref C) tc ie iy) := by
  intro pins s σ H D I h
  refine wpAny_Try_except (wpAny_execs_cons (wpAny_Expr_any (wpAny_mono (hc pins s σ H _ _ I h) (fun v s1 ⟨u, H1, I1, r1, q1⟩ => ?_) (fun ev s1 hx => ?_)) I.quiet hs))
  · exact wpAny_execs_nil (wpAny_execs_nil ⟨_, H1, I1, q1⟩)
  obtain ⟨H1, s0, I0, ea, cls, a0, B, H', rfl, os, bare, un, hok, fl, inB, hexm, hk⟩ := hx
  have hfr : X.A.frames = some (X.env :: X.outer) := I.ok.frames.trans (by rw [hst.1])
  rw [hst.1] at fl
  refine wpAny_looks_onW hfr hst.2 fl fun h4 held4 sm4 => ?_
  refine wpAny_landsW held4 fun h5 fl5 sm5 => ?_
  have He : H' ea = none := by
    cases q : H' ea with
    | none => rfl
    | some o =>
      obtain ⟨u, e⟩ := (hok ea o q).there
      exact absurd (fl.2.1.symm.trans e) (by simp)
  have new : s0.heap.get? ea = none := by
    cases q : s0.heap.get? ea with
    | none => rfl
    | some o =>
      by_cases hb : ea ∈ frs X.stack
      · rw [hst.1] at hb
        obtain ⟨_, o', e', nf⟩ := fl.2.2.1.mem hb
        obtain ⟨oe, vs, e1, _, hd, _⟩ := fl.first
        have z := e'.symm.trans e1
        cases z
        exact absurd hd (nf vs)
      · obtain ⟨o', e⟩ := inB ea o q hb
        exact absurd (fl.2.1.symm.trans e) (by simp)
  -- the state as behind a call, the exception tracked
  have land : ∀ (h6 : Heap) (t' : Nat), B.StaysIn h6 → s1.heap.UpToSlots h6 → (∃ o, h6.get? ea = some o ∧ o.cls = cls) → Inv X pins σ (upd H' ea (excO ea cls)) { s1 with heap := h6, toks := t' } := fun h6 t' st up ex => by
    have hs0 : (X.env :: X.outer) = X.stack := hst.1.symm
    have u6 : Un (frs X.stack) [] H1 H' s0.heap h6 := un.over (B := B) fl.1 st inB (by rw [← hs0]; exact slots_over fl.2.2.1 up) I0.stkFree
    exact I0.call' (ch := []) (s' := { s1 with heap := h6, toks := t' }) os (u6.more He new) (hok.more st He (excO_ok ex)) bare fun b z => nomatch z
  have J5 := land h5 s1.toks fl5.1 (sm4.trans sm5) fl5.there
  refine wpAny_handleBy_cons (codeAny_handlers_test (ld_glob (J5.suite ea) hg hm ?_ hdb)) (by intro q; cases q)
  obtain ⟨ob, hob, hcl⟩ := fl5.there
  have LT : PySem.W.Looks (model X.prog X.w) h5 (typeOf (.ref ea)) cls := by
    subst hcl
    exact (PySem.W.Looks.ld hob).andThen .now
  refine (PySem.W.exm_one (K := X.K) J5.kIn LT hexm).here ?_
  refine codeAny_handlers_suite_as ?_
  refine lands_againW fl5 fun h6 fl6 sm6 => ?_
  have J6 := land h6 s1.toks fl6.1 ((sm4.trans sm5).trans sm6) fl6.there
  refine store_ok (X := X.suite ea) (J6.suite ea) hN hie (.inl hen) (v := .ref ea) rfl (fun s7 I7 => ?_) (.inl (hfn en))
  have hiσ : ie < σ.length := by rw [I.len]; exact (List.getElem?_eq_some_iff.mp hie).1
  refine wpAny_mono (pss_one (ps_set (X := X.suite ea) (i := iy) (te := tVar ie) hN hiy hy (pe_var (X := X.suite ea) hie (.inl hen) hd2 hd3) hs2 (.inl (hfn y))) pins s7 _ _ { nx := fun σ' H2 => σ' = (σ.set ie (some (.ref ea))).set iy (some (.ref ea)) ∧ H2 = upd H' ea (excO ea cls), rt := fun _ _ => False } I7
    ⟨.ref ea, List.getElem?_set_self hiσ, rfl, rfl⟩) (fun f s8 q8 => ?_) fun _ _ z => False.elim z
  cases f with
  | next =>
    obtain ⟨σ8, H8, I8, e1, e2⟩ := q8
    subst e1 e2
    exact goes_ok (I8.unsuite I.ok) hN hie hen fun s9 I9 => ⟨_, _, I9, hk ea He⟩
  | brk => obtain ⟨_, _, _, z⟩ := q8; exact False.elim z
  | cont => obtain ⟨_, _, _, z⟩ := q8; exact False.elim z
  | ret u => obtain ⟨_, _, _, _, _, z⟩ := q8; exact False.elim z
end L2

set_option maxHeartbeats 0
namespace My
open PySem L2
local macro_rules | `(tactic| walk_at "hk") => `(tactic| first
  | with_reducible assumption
  | exact New.at (by with_reducible assumption)
  | exact Chg.at (by with_reducible assumption)
  | exact NewI.at (by with_reducible assumption)
  | (refine NewI.old (by with_reducible assumption) ?_; walk_at "hk")
  | (refine New.old (by with_reducible assumption) ?_; walk_at "hk")
  | (refine Same.old (by with_reducible assumption) ?_; walk_at "hk")
  | (refine Chg.old (by with_reducible assumption) ?_ ?_; (focus walk_at "ne"); walk_at "hk"))
local macro_rules | `(tactic| walk_at "ne") => `(tactic| first
  | with_reducible assumption
  | (apply Ne.symm; with_reducible assumption)
  | exact New.ne (by with_reducible assumption) (by walk_at "hk")
  | exact (New.ne (by with_reducible assumption) (by walk_at "hk")).symm
  | exact ne_of (by walk_at "hk") (by walk_at "hk") (by intro z; cases z))
local macro_rules | `(tactic| walk_at "ts") => `(tactic| first
  | with_reducible assumption
  | exact TSame.refl _
  | exact New.ts (by with_reducible assumption)
  | exact Same.ts (by with_reducible assumption)
  | exact Chg.ts (by with_reducible assumption)
  | (refine TSame.trans ?_ (New.ts (by with_reducible assumption)); walk_at "ts")
  | (refine TSame.trans ?_ (Same.ts (by with_reducible assumption)); walk_at "ts")
  | (refine TSame.trans ?_ (Chg.ts (by with_reducible assumption)); walk_at "ts"))
local macro_rules | `(tactic| walk_at "sm") => `(tactic| first
  | with_reducible assumption
  | exact Same.refl _
  | exact New.same (by with_reducible assumption)
  | (refine Same.new ?_ (by with_reducible assumption); walk_at "sm")
  | (refine Same.chg ?_ ?_ (by with_reducible assumption); (focus walk_at "sm"); walk_at "fr")
  | (refine Same.trans ?_ (by with_reducible assumption); walk_at "sm"))
local macro_rules | `(tactic| walk_at "fr") => `(tactic| first
  | with_reducible assumption
  | exact New.free (by with_reducible assumption)
  | (refine Same.free ?_ (New.free (by with_reducible assumption)); walk_at "sm")
  | (refine Same.free ?_ (by with_reducible assumption); walk_at "sm"))
local macro_rules | `(tactic| walk_at "szp") => `(tactic| first
  | exact Nat.le_of_ble_eq_true rfl
  | (refine sz ?_; first | omega | (simp only [List.length_append, List.length_map, List.length_cons, List.length_nil, List.length_range, List.length_singleton] at *; omega))
  | (refine szl ?_; first | omega | (simp only [List.length_append, List.length_map, List.length_cons, List.length_nil, List.length_range, List.length_singleton] at *; omega)))
local macro_rules | `(tactic| walk_at "sd") => `(tactic| first
  | exact CDivL.small (by decide) (by decide)
  | exact CDivL.small (by omega) (by omega)
  | exact CMulB.r (by decide) (by decide)
  | exact CMulB.l (by decide) (by decide)
  | exact CMulB.l (by omega) (by omega)
  | exact CMulB.r (by omega) (by omega)
  | exact CPow.of (by decide) (by decide) (by decide)
  | exact CPow.of (by omega) (by omega) (by decide)
  | exact CDivL.pow1 (by omega)
  | exact CMulB.b (by with_reducible assumption) (by with_reducible assumption)
  | (with_reducible show (0 : Int) < _; first | decide | omega))
local macro_rules | `(tactic| walk_at "ln") => `(tactic| first
  | omega
  | (simp only [List.length_append, List.length_map, List.length_cons, List.length_nil, List.length_range, List.length_singleton]; omega))
local macro_rules | `(tactic| walk_at "w1") => `(tactic| first
  | (with_reducible apply w_seq)
  | (with_reducible apply w_asg)
  | (with_reducible apply w_op)
  | (with_reducible apply w_cons)
  | (with_reducible apply w_nil)
  | (with_reducible apply w_c)
  | (with_reducible apply w_name)
  | (with_reducible apply w_call)
  | (with_reducible apply w_drop)
  | (with_reducible apply w_ifS)
  | (with_reducible apply w_ret)
  | (with_reducible apply w_cb)
  | (with_reducible apply w_not)
  | (with_reducible apply w_or)
  | (with_reducible apply w_and)
  | (with_reducible apply w_next)
  | (with_reducible apply w_un)
  | (with_reducible apply w_sl)
  | (with_reducible apply w_noPart)
  | (with_reducible apply w_for)
  | (with_reducible apply w_comp)
  | (with_reducible apply w_if)
  | (with_reducible apply w_retN)
  | (with_reducible apply w_sfld)
  | (with_reducible apply w_dput)
  | (with_reducible apply w_make)
  | (with_reducible apply w_noIf)
  | (with_reducible apply w_zip)
  | (with_reducible apply w_down)
  | (with_reducible apply w_sub)
  | (with_reducible apply w_din)
  | (with_reducible apply w_dnotin))
local macro_rules | `(tactic| walk_at "q1") => `(tactic| first
  | (walk_at "w1")
  | ((with_reducible apply q_var); (focus exact rfl))
  | ((with_reducible apply q_i0))
  | ((with_reducible apply q_i); (focus first | (walk_at "sd") | (walk_at "ln")))
  | ((with_reducible apply q_eq); (focus exact rfl))
  | ((with_reducible apply q_ne); (focus exact rfl))
  | (with_reducible apply q_test)
  | (with_reducible apply q_b)
  | (with_reducible apply q_bl2)
  | (with_reducible refine iteT ?_)
  | (with_reducible refine iteF ?_)
  | (with_reducible refine iteNTr ?_)
  | (with_reducible refine iteNFa ?_)
  | ((with_reducible apply iteNS); (focus exact rfl))
  | ((with_reducible apply iteDT); (focus exact rfl))
  | ((with_reducible apply iteDF); (focus decide))
  | ((with_reducible apply iteNot); (focus decide))
  | ((with_reducible apply q_ixT); (focus exact SqT.of (by walk_at "hk")); (focus exact rfl))
  | ((with_reducible apply q_ixL); (focus exact SqL.of (by walk_at "hk")); (focus exact rfl))
  | ((with_reducible apply q_lenL); (focus exact SqL.of (by walk_at "hk")))
  | ((with_reducible apply q_lenT); (focus exact SqT.of (by walk_at "hk")))
  | ((with_reducible apply q_isi); (focus first | exact TyOf.int _ | exact TyOf.bl _ | exact TyOf.str _ | exact TyOf.tup (by walk_at "hk") | exact TyOf.lst (by walk_at "hk")); (focus first | exact kit_same _ _ | exact kit_int_bool _))
  | ((with_reducible apply q_in); (focus first | exact .inr (SqT.of (by walk_at "hk")) | exact .inl (SqL.of (by walk_at "hk"))); (focus exact rfl); (focus exact rfl); (focus first | exact (show _ = true from rfl) | exact (show _ = false from rfl)))
  | ((with_reducible apply q_slT); (focus exact SqT.of (by walk_at "hk")); (focus exact fun z => (nomatch z.1)))
  | ((with_reducible apply q_tupOf); (focus exact SqL.of (by walk_at "hk")))
  | (with_reducible apply q_tupN)
  | ((with_reducible apply q_tup2); (focus exact Nat.le_of_ble_eq_true rfl))
  | (with_reducible apply q_lstN)
  | ((with_reducible apply q_lst2); (focus exact Nat.le_of_ble_eq_true rfl))
  | (with_reducible apply q_bm)
  | ((with_reducible apply q_bm2); (focus exact SqL.of (by walk_at "hk")))
  | ((with_reducible apply q_app); (focus walk_at "hk"); (focus walk_at "szp"))
  | (with_reducible apply q_fld)
  | ((with_reducible apply q_fld2); (focus walk_at "hk"); (focus with_reducible assumption); (focus with_reducible assumption); (focus exact rfl))
  | (with_reducible apply q_meth)
  | ((with_reducible apply q_meth2); (focus walk_at "hk"); (focus exact rfl))
  | (with_reducible apply q_andV)
  | (with_reducible apply q_and2)
  | (with_reducible apply q_orV)
  | (with_reducible apply q_or2)
  | (with_reducible apply q_notV)
  | (with_reducible apply q_not2)
  | (with_reducible apply q_u)
  | (with_reducible apply q_part)
  | (with_reducible apply q_part2)
  | ((with_reducible apply q_lstOf); (focus first | exact .inl (SqL.of (by walk_at "hk")) | exact .inr (SqT.of (by walk_at "hk")) | exact .inl (by with_reducible assumption)))
  | ((with_reducible apply q_cat); (focus walk_at "hk"); (focus walk_at "hk"); (focus walk_at "szp"))
  | ((with_reducible apply q_slL); (focus first | exact SqL.of (by walk_at "hk") | with_reducible assumption))
  | (with_reducible apply q_bmn)
  | (with_reducible apply q_dput2)
  | ((with_reducible apply q_sfld2); (focus walk_at "hk"); (focus with_reducible assumption); (focus with_reducible assumption); (focus exact Nat.le_of_ble_eq_true rfl))
  | ((with_reducible apply q_iz2); (focus exact SqL.of (by walk_at "hk")); (focus exact SqL.of (by walk_at "hk")))
  | ((with_reducible apply q_bm0); (focus exact SqL.of (by walk_at "hk")))
  | (with_reducible apply q_dget)
  | (with_reducible apply q_il)
  | ((with_reducible apply q_il2); (focus first | exact SqL.of (by walk_at "hk") | with_reducible assumption))
  | (with_reducible apply q_it)
  | ((with_reducible apply q_it2); (focus exact SqT.of (by walk_at "hk")))
  | (with_reducible apply q_rng)
  | ((with_reducible apply q_ir1); (focus walk_at "ln"); (focus walk_at "ln"))
  | (with_reducible apply q_rng2)
  | ((with_reducible apply q_ir2); (focus walk_at "ln"); (focus walk_at "ln"); (focus walk_at "ln"); (focus walk_at "ln"))
  | (with_reducible apply q_enum)
  | ((with_reducible apply q_ie2); (focus exact SqL.of (by walk_at "hk")))
  | ((with_reducible apply iteVT); (focus omega))
  | ((with_reducible apply iteVF); (focus omega))
  | ((with_reducible apply iteDT); (focus omega))
  | ((with_reducible apply iteDF); (focus omega))
  | ((with_reducible apply iteNS); (focus first | omega | exact congrArg V.int (by omega)))
  | ((with_reducible apply iteNot); (focus omega))
  | refine And.intro rfl ?_
  | exact rfl)
local macro_rules | `(tactic| walk_at "r1") => `(tactic| first
  | (walk_at "q1")
  | ((fail_if_success (with_reducible apply q_ixL)); (fail_if_success (with_reducible apply q_ixT)); (fail_if_success (with_reducible apply q_dget2)); (fail_if_success (with_reducible apply q_i)); (fail_if_success intro _); (walk_at "r3")))
local macro_rules | `(tactic| walk_at "r3") => `(tactic| first
  | refine ⟨_, rfl, ?_⟩
  | refine ⟨_, _, rfl, ?_⟩
  | refine ⟨_, _, _, _, rfl, (by walk_at "hk"), (by with_reducible assumption), (by with_reducible assumption), (Nat.le_of_ble_eq_true rfl), ?_⟩
  | refine And.intro (by walk_at "hk") ?_
  | refine And.intro (by walk_at "szp") ?_
  | refine And.intro (by walk_at "ln") ?_)
local macro_rules | `(tactic| walk_at "rd") => `(tactic| repeat walk_at "r1")

def top (i : Nat) : Stmt := PySem.Challenge.pw_dotpress_k38_texts_that_write_none.main.body.getD i (.Pass ⟨0, 0, 0, 0⟩)
abbrev s_OpenSum_init : Stmt := inClass (top 14) 0
abbrev s_OpenSum_turn : Stmt := inClass (top 14) 1
abbrev s_OpenSum_take_piece : Stmt := inClass (top 14) 2
abbrev s_OpenSum_end_product : Stmt := inClass (top 14) 3
abbrev s_OpenSum_whole : Stmt := inClass (top 14) 4
abbrev s_read : Stmt := top 15
abbrev s_begin_piece : Stmt := top 16
abbrev s_end_piece : Stmt := top 17
abbrev s_leaf_of : Stmt := top 18
abbrev s_is_name : Stmt := top 19
abbrev s_is_written_number : Stmt := top 20
abbrev s_words_of : Stmt := top 21
abbrev s_go_together : Stmt := top 22
abbrev s_is_letter : Stmt := top 23
abbrev s_is_figure : Stmt := top 24
abbrev s_law_mixed : Stmt := top 26
abbrev s_law_names : Stmt := top 27
abbrev s_law_leaf : Stmt := top 28
abbrev s_law_in : Stmt := top 29
abbrev s_law_joined : Stmt := top 30
abbrev s_law_written : Stmt := top 31
abbrev s_law_bad : Stmt := top 32
abbrev s_law_refused : Stmt := top 33
abbrev s_law_ : Stmt := top 34
theorem sc_OpenSum_init : FnScope ["self"] ["self"] (defScope s_OpenSum_init) := ⟨rfl, rfl, rfl, by decide +kernel, rfl, by decide +kernel, by decide +kernel⟩
theorem sc_OpenSum_turn : FnScope ["self"] ["self"] (defScope s_OpenSum_turn) := ⟨rfl, rfl, rfl, by decide +kernel, rfl, by decide +kernel, by decide +kernel⟩
theorem sc_OpenSum_take_piece : FnScope ["self", "piece", "sign"] ["self", "piece"] (defScope s_OpenSum_take_piece) := ⟨rfl, rfl, rfl, by decide +kernel, rfl, by decide +kernel, by decide +kernel⟩
theorem sc_OpenSum_end_product : FnScope ["self", "kind"] ["self", "kind"] (defScope s_OpenSum_end_product) := ⟨rfl, rfl, rfl, by decide +kernel, rfl, by decide +kernel, by decide +kernel⟩
theorem sc_OpenSum_whole : FnScope ["self"] ["self"] (defScope s_OpenSum_whole) := ⟨rfl, rfl, rfl, by decide +kernel, rfl, by decide +kernel, by decide +kernel⟩
theorem sc_read : FnScope ["text", "sums", "awaited", "word"] ["text"] (defScope s_read) := ⟨rfl, rfl, rfl, by decide +kernel, rfl, by decide +kernel, by decide +kernel⟩
theorem sc_begin_piece : FnScope ["sums", "word"] ["sums", "word"] (defScope s_begin_piece) := ⟨rfl, rfl, rfl, by decide +kernel, rfl, by decide +kernel, by decide +kernel⟩
theorem sc_end_piece : FnScope ["sums", "word", "closed"] ["sums", "word"] (defScope s_end_piece) := ⟨rfl, rfl, rfl, by decide +kernel, rfl, by decide +kernel, by decide +kernel⟩
theorem sc_leaf_of : FnScope ["word"] ["word"] (defScope s_leaf_of) := ⟨rfl, rfl, rfl, by decide +kernel, rfl, by decide +kernel, by decide +kernel⟩
theorem sc_is_name : FnScope ["word"] ["word"] (defScope s_is_name) := ⟨rfl, rfl, rfl, by decide +kernel, rfl, by decide +kernel, by decide +kernel⟩
theorem sc_is_written_number : FnScope ["word", "most_figures"] ["word", "most_figures"] (defScope s_is_written_number) := ⟨rfl, rfl, rfl, by decide +kernel, rfl, by decide +kernel, by decide +kernel⟩
theorem sc_words_of : FnScope ["text", "words", "place", "end"] ["text"] (defScope s_words_of) := ⟨rfl, rfl, rfl, by decide +kernel, rfl, by decide +kernel, by decide +kernel⟩
theorem sc_go_together : FnScope ["first", "second"] ["first", "second"] (defScope s_go_together) := ⟨rfl, rfl, rfl, by decide +kernel, rfl, by decide +kernel, by decide +kernel⟩
theorem sc_is_letter : FnScope ["sign"] ["sign"] (defScope s_is_letter) := ⟨rfl, rfl, rfl, by decide +kernel, rfl, by decide +kernel, by decide +kernel⟩
theorem sc_is_figure : FnScope ["sign"] ["sign"] (defScope s_is_figure) := ⟨rfl, rfl, rfl, by decide +kernel, rfl, by decide +kernel, by decide +kernel⟩
theorem sc_law_mixed : FnScope ["_law_cell", "_law_k", "_law_number"] ["_law_cell", "_law_k"] (defScope s_law_mixed) := ⟨rfl, rfl, rfl, by decide +kernel, rfl, by decide +kernel, by decide +kernel⟩
theorem sc_law_names : FnScope ["_law_cell", "_law_letters", "_law_mixed_here", "_law_size", "_law_place", "_law_names_here", "_law_k", "_law_name", "_law_j", "_law_at"] ["_law_cell"] (defScope s_law_names) := ⟨rfl, rfl, rfl, by decide +kernel, rfl, by decide +kernel, by decide +kernel⟩
theorem sc_law_leaf : FnScope ["_law_mixed_here", "_law_names_here"] ["_law_mixed_here", "_law_names_here"] (defScope s_law_leaf) := ⟨rfl, rfl, rfl, by decide +kernel, rfl, by decide +kernel, by decide +kernel⟩
theorem sc_law_in : FnScope ["_law_part", "_law_rank"] ["_law_part", "_law_rank"] (defScope s_law_in) := ⟨rfl, rfl, rfl, by decide +kernel, rfl, by decide +kernel, by decide +kernel⟩
theorem sc_law_joined : FnScope ["_law_way", "_law_one", "_law_other", "_law_word"] ["_law_way", "_law_one", "_law_other"] (defScope s_law_joined) := ⟨rfl, rfl, rfl, by decide +kernel, rfl, by decide +kernel, by decide +kernel⟩
theorem sc_law_written : FnScope ["_law_cells", "_law_names_here", "_law_spoilt", "_law_most", "_law_left", "_law_row", "_law_parts", "_law_k", "_law_cell", "_law_mixed_here", "_law_way", "_law_part", "_law_other", "_law_leaf_here", "_law_text"] ["_law_cells", "_law_names_here", "_law_spoilt", "_law_most"] (defScope s_law_written) := ⟨rfl, rfl, rfl, by decide +kernel, rfl, by decide +kernel, by decide +kernel⟩
theorem sc_law_bad : FnScope ["_law_some"] [] (defScope s_law_bad) := ⟨rfl, rfl, rfl, by decide +kernel, rfl, by decide +kernel, by decide +kernel⟩
theorem sc_law_refused : FnScope ["_law_text", "_law_fault", "e"] ["_law_text"] (defScope s_law_refused) := ⟨rfl, rfl, rfl, by decide +kernel, rfl, by decide +kernel, by decide +kernel⟩
theorem sc_law_ : FnScope ["_law_script", "_law_cells", "_law_first", "_law_bad_here", "_law_last", "_law_part", "_law_done", "_law_behind", "_law_ahead"] ["_law_script"] (defScope s_law_) := ⟨rfl, rfl, rfl, by decide +kernel, rfl, by decide +kernel, by decide +kernel⟩
structure Adr where
  C_OpenSum : Addr
  C_PressError : Addr
  C_TooFew : Addr
  C_TooMany : Addr
  C_TooWide : Addr
  C_NoFormula : Addr
  C_NoName : Addr
  C_NoLine : Addr
  C_NoCircuit : Addr
  C_OutOfWidth : Addr
  f_OpenSum_init : Addr
  d_OpenSum_init : FuncData
  f_OpenSum_turn : Addr
  d_OpenSum_turn : FuncData
  f_OpenSum_take_piece : Addr
  d_OpenSum_take_piece : FuncData
  f_OpenSum_end_product : Addr
  d_OpenSum_end_product : FuncData
  f_OpenSum_whole : Addr
  d_OpenSum_whole : FuncData
  f_read : Addr
  d_read : FuncData
  f_begin_piece : Addr
  d_begin_piece : FuncData
  f_end_piece : Addr
  d_end_piece : FuncData
  f_leaf_of : Addr
  d_leaf_of : FuncData
  f_is_name : Addr
  d_is_name : FuncData
  f_is_written_number : Addr
  d_is_written_number : FuncData
  f_words_of : Addr
  d_words_of : FuncData
  f_go_together : Addr
  d_go_together : FuncData
  f_is_letter : Addr
  d_is_letter : FuncData
  f_is_figure : Addr
  d_is_figure : FuncData
  f_law_mixed : Addr
  d_law_mixed : FuncData
  f_law_names : Addr
  d_law_names : FuncData
  f_law_leaf : Addr
  d_law_leaf : FuncData
  f_law_in : Addr
  d_law_in : FuncData
  f_law_joined : Addr
  d_law_joined : FuncData
  f_law_written : Addr
  d_law_written : FuncData
  f_law_bad : Addr
  d_law_bad : FuncData
  f_law_refused : Addr
  d_law_refused : FuncData
  f_law_ : Addr
  d_law_ : FuncData
structure Txt (w : World) (K : PySem.W.Frag) (mg : Str → Option Value) (t : Adr) : Prop where
  F_OpenSum_init : Fun K "__init__" "OpenSum.__init__" s_OpenSum_init t.f_OpenSum_init t.d_OpenSum_init
  b_OpenSum_init : Binds K t.d_OpenSum_init ["self"] []
  F_OpenSum_turn : Fun K "turn" "OpenSum.turn" s_OpenSum_turn t.f_OpenSum_turn t.d_OpenSum_turn
  b_OpenSum_turn : Binds K t.d_OpenSum_turn ["self"] []
  M_OpenSum_turn : Meth K t.C_OpenSum "turn" t.f_OpenSum_turn
  F_OpenSum_take_piece : Fun K "take_piece" "OpenSum.take_piece" s_OpenSum_take_piece t.f_OpenSum_take_piece t.d_OpenSum_take_piece
  b_OpenSum_take_piece : Binds K t.d_OpenSum_take_piece ["self", "piece"] []
  M_OpenSum_take_piece : Meth K t.C_OpenSum "take_piece" t.f_OpenSum_take_piece
  F_OpenSum_end_product : Fun K "end_product" "OpenSum.end_product" s_OpenSum_end_product t.f_OpenSum_end_product t.d_OpenSum_end_product
  b_OpenSum_end_product : Binds K t.d_OpenSum_end_product ["self", "kind"] []
  M_OpenSum_end_product : Meth K t.C_OpenSum "end_product" t.f_OpenSum_end_product
  F_OpenSum_whole : Fun K "whole" "OpenSum.whole" s_OpenSum_whole t.f_OpenSum_whole t.d_OpenSum_whole
  b_OpenSum_whole : Binds K t.d_OpenSum_whole ["self"] []
  M_OpenSum_whole : Meth K t.C_OpenSum "whole" t.f_OpenSum_whole
  F_read : Fun K "read" "read" s_read t.f_read t.d_read
  b_read : Binds K t.d_read ["text"] []
  m_read : mg "read" = some (.ref t.f_read)
  F_begin_piece : Fun K "begin_piece" "begin_piece" s_begin_piece t.f_begin_piece t.d_begin_piece
  b_begin_piece : Binds K t.d_begin_piece ["sums", "word"] []
  m_begin_piece : mg "begin_piece" = some (.ref t.f_begin_piece)
  F_end_piece : Fun K "end_piece" "end_piece" s_end_piece t.f_end_piece t.d_end_piece
  b_end_piece : Binds K t.d_end_piece ["sums", "word"] []
  m_end_piece : mg "end_piece" = some (.ref t.f_end_piece)
  F_leaf_of : Fun K "leaf_of" "leaf_of" s_leaf_of t.f_leaf_of t.d_leaf_of
  b_leaf_of : Binds K t.d_leaf_of ["word"] []
  m_leaf_of : mg "leaf_of" = some (.ref t.f_leaf_of)
  F_is_name : Fun K "is_name" "is_name" s_is_name t.f_is_name t.d_is_name
  b_is_name : Binds K t.d_is_name ["word"] []
  m_is_name : mg "is_name" = some (.ref t.f_is_name)
  F_is_written_number : Fun K "is_written_number" "is_written_number" s_is_written_number t.f_is_written_number t.d_is_written_number
  b_is_written_number : Binds K t.d_is_written_number ["word", "most_figures"] []
  m_is_written_number : mg "is_written_number" = some (.ref t.f_is_written_number)
  F_words_of : Fun K "words_of" "words_of" s_words_of t.f_words_of t.d_words_of
  b_words_of : Binds K t.d_words_of ["text"] []
  m_words_of : mg "words_of" = some (.ref t.f_words_of)
  F_go_together : Fun K "go_together" "go_together" s_go_together t.f_go_together t.d_go_together
  b_go_together : Binds K t.d_go_together ["first", "second"] []
  m_go_together : mg "go_together" = some (.ref t.f_go_together)
  F_is_letter : Fun K "is_letter" "is_letter" s_is_letter t.f_is_letter t.d_is_letter
  b_is_letter : Binds K t.d_is_letter ["sign"] []
  m_is_letter : mg "is_letter" = some (.ref t.f_is_letter)
  F_is_figure : Fun K "is_figure" "is_figure" s_is_figure t.f_is_figure t.d_is_figure
  b_is_figure : Binds K t.d_is_figure ["sign"] []
  m_is_figure : mg "is_figure" = some (.ref t.f_is_figure)
  F_law_mixed : Fun K "_law_mixed" "_law_mixed" s_law_mixed t.f_law_mixed t.d_law_mixed
  b_law_mixed : Binds K t.d_law_mixed ["_law_cell", "_law_k"] []
  m_law_mixed : mg "_law_mixed" = some (.ref t.f_law_mixed)
  F_law_names : Fun K "_law_names" "_law_names" s_law_names t.f_law_names t.d_law_names
  b_law_names : Binds K t.d_law_names ["_law_cell"] []
  m_law_names : mg "_law_names" = some (.ref t.f_law_names)
  F_law_leaf : Fun K "_law_leaf" "_law_leaf" s_law_leaf t.f_law_leaf t.d_law_leaf
  b_law_leaf : Binds K t.d_law_leaf ["_law_mixed_here", "_law_names_here"] []
  m_law_leaf : mg "_law_leaf" = some (.ref t.f_law_leaf)
  F_law_in : Fun K "_law_in" "_law_in" s_law_in t.f_law_in t.d_law_in
  b_law_in : Binds K t.d_law_in ["_law_part", "_law_rank"] []
  m_law_in : mg "_law_in" = some (.ref t.f_law_in)
  F_law_joined : Fun K "_law_joined" "_law_joined" s_law_joined t.f_law_joined t.d_law_joined
  b_law_joined : Binds K t.d_law_joined ["_law_way", "_law_one", "_law_other"] []
  m_law_joined : mg "_law_joined" = some (.ref t.f_law_joined)
  F_law_written : Fun K "_law_written" "_law_written" s_law_written t.f_law_written t.d_law_written
  b_law_written : Binds K t.d_law_written ["_law_cells", "_law_names_here", "_law_spoilt", "_law_most"] []
  m_law_written : mg "_law_written" = some (.ref t.f_law_written)
  F_law_bad : Fun K "_law_bad" "_law_bad" s_law_bad t.f_law_bad t.d_law_bad
  b_law_bad : Binds K t.d_law_bad [] []
  m_law_bad : mg "_law_bad" = some (.ref t.f_law_bad)
  F_law_refused : Fun K "_law_refused" "_law_refused" s_law_refused t.f_law_refused t.d_law_refused
  b_law_refused : Binds K t.d_law_refused ["_law_text"] []
  m_law_refused : mg "_law_refused" = some (.ref t.f_law_refused)
  F_law_ : Fun K "law" "law" s_law_ t.f_law_ t.d_law_
  b_law_ : Binds K t.d_law_ ["_law_script"] []
  m_law_ : mg "law" = some (.ref t.f_law_)
  cl_OpenSum : Cls K t.C_OpenSum
  mC_OpenSum : mg "OpenSum" = some (.ref t.C_OpenSum)
  K_OpenSum : Mk K t.C_OpenSum t.f_OpenSum_init
  n_OpenSum_total : NoAttr K t.C_OpenSum "total"
  n_OpenSum_kind : NoAttr K t.C_OpenSum "kind"
  n_OpenSum_product : NoAttr K t.C_OpenSum "product"
  n_OpenSum_turns : NoAttr K t.C_OpenSum "turns"
  mC_PressError : mg "PressError" = some (.ref t.C_PressError)
  mC_TooFew : mg "TooFew" = some (.ref t.C_TooFew)
  mC_TooMany : mg "TooMany" = some (.ref t.C_TooMany)
  mC_TooWide : mg "TooWide" = some (.ref t.C_TooWide)
  mC_NoFormula : mg "NoFormula" = some (.ref t.C_NoFormula)
  mC_NoName : mg "NoName" = some (.ref t.C_NoName)
  mC_NoLine : mg "NoLine" = some (.ref t.C_NoLine)
  mC_NoCircuit : mg "NoCircuit" = some (.ref t.C_NoCircuit)
  mC_OutOfWidth : mg "OutOfWidth" = some (.ref t.C_OutOfWidth)
  x_NoFormula : PySem.W.excIn K t.C_NoFormula veM "ValueError.__new__" = true
  exm_nof : PySem.W.exmOne K (.ref t.C_NoFormula) (.ref t.C_NoFormula) = some true
  kany_nof : PySem.W.kitAny K (.ref t.C_NoFormula) [.ref t.C_TooFew, .ref t.C_TooMany, .ref t.C_TooWide, .ref t.C_NoName, .ref t.C_NoLine, .ref t.C_NoCircuit, .ref t.C_OutOfWidth] = some false
  kone_nof : PySem.W.kitOne K (.ref t.C_NoFormula) (.ref t.C_PressError) = some true
  kval_nof : PySem.W.kitOne K (.ref t.C_NoFormula) (.type "ValueError") = some true
  ga_nof : PySem.W.findIn K (.ref t.C_NoFormula) "__getattribute__" = some (some (.builtin "BaseException.__getattribute__"))
  gt_nof : PySem.W.findIn K (.ref t.C_NoFormula) "__getattr__" = some none
  gc_nof : PySem.W.findIn K (.ref t.C_NoFormula) "__class__" = some (some (.builtin "object.__class__"))
  go_nof : PySem.W.mroIn K t.C_NoFormula (.type "object") = some true
  gb_nof : PySem.W.mroIn K t.C_NoFormula (.type "BaseException") = some true
  gl_nof : PySem.W.isClsIn K t.C_NoFormula = true
  g_MOST_LETTERS : ∃ u, mg "MOST_LETTERS" = some u ∧ RelV (.int 6) u
  g_GREATEST_NUMBER : ∃ u, mg "GREATEST_NUMBER" = some u ∧ RelV (.int 1000000000000) u
  gd_SUM_KINDS : GD w K mg "SUM_KINDS" [("+", "plus"), ("-", "less")]
  nb_ValueError : mg "ValueError" = none
  nb_all : mg "all" = none
  nb_enumerate : mg "enumerate" = none
  nb_int : mg "int" = none
  nb_isinstance : mg "isinstance" = none
  nb_len : mg "len" = none
  nb_list : mg "list" = none
  nb_range : mg "range" = none
  nb_str : mg "str" = none
section
variable {P : Program} {w : World} {K : PySem.W.Frag} {mg : Str → Option Value} {base : Heap} {t : Adr}
/-! products of great numbers -/
def CMulD (i j : Int) : Prop := Builtin.Int.intBits i ≤ 2 ^ 20 + 100 ∧ Builtin.Int.intBits j ≤ 2 ^ 20 + 100
theorem mulD_ok {a b : Int} (ha : Builtin.Int.intBits a ≤ 2 ^ 20 + 100) (hb : Builtin.Int.intBits b ≤ 2 ^ 20 + 100) : IntMulOk a b := by
  have e : (2 : Nat) ^ 20 = 1048576 := by decide
  have h : Builtin.Int.intTooBig (Builtin.Int.intBits a + Builtin.Int.intBits b) = false := by
    unfold Builtin.Int.intTooBig bitsLine
    exact decide_eq_false (by omega)
  unfold IntMulOk
  rw [h]
  simp
theorem op_mulD {X : Cx} : OpR X (binaryOp .Mult) (rI CMulD fun i j => .int (i * j)) := opI fun _ _ _ _ _ _ _ hc q => PyProof.Rows.mul_int q (mulD_ok hc.1 hc.2)

def Bd (z : Int) : Prop := Builtin.Int.intBits z ≤ 2 ^ 20
def BdD (z : Int) : Prop := Builtin.Int.intBits z ≤ 2 ^ 20 + 100
def sp_law_mixed : Sp := fun vs H Q _ => ∃ c k : Int, vs = [.int c, .int k] ∧ BdD c ∧ 0 ≤ k ∧ k ≤ 100000 ∧ ∀ i : Int, 0 ≤ i → i < 2 ^ 100 → Q (.int i) H
theorem ok_law_mixed (T : Txt w K mg t) : FnOk P w K mg base CX0 1 t.f_law_mixed t.d_law_mixed ["_law_cell", "_law_k"] (sp_law_mixed) := by
  refine T.F_law_mixed.ok sc_law_mixed (fun vs H Q E h => ?_) (fun cdv A outer s H vs Q E hr h => ?_)
  · obtain ⟨c, k, rfl, _⟩ := h
    rfl
  obtain ⟨c, kk, rfl, hb, h1, h2, k⟩ := h
  refine ⟨_, (pss_cons (ps_if (pt_cmpR op_ge (pv 0) (pe_op op_pow pe_int pe_int) (nomark _)) (pss_one (ps_ret (pe_op op_mod (pe_op op_fdivL (pe_op op_sub (pv 0) (pe_op op_pow pe_int pe_int)) (pe_op op_shl pe_int (pe_op op_mulB pe_int (pe_op op_mod (pv 1) pe_int)))) (pe_op op_shl pe_int pe_int)))) pss_nil)
        (pss_cons (ps_set (i := 2) sc_law_mixed.nd rfl (Or.inl rfl) (pe_op op_mod (pe_op op_mulB (pe_op op_add (pe_op op_add (pe_op op_add (pe_op op_mulD (pv 0) (pv 0)) (pe_op op_mulB pe_int (pv 0))) (pe_op op_mulB pe_int (pv 1))) pe_int) pe_int) pe_int))
        (pss_one (ps_ret (pe_op op_mod (pe_op op_add (pe_op op_mulB (pv 2) (pv 2)) pe_int) pe_int))))), ?_⟩
  walk_at "rd"
  refine iteD (fun h => ?_) (fun h => ?_)
  · walk_at "rd"
    refine k _ ?_ ?_
    · exact Int.emod_nonneg _ (by decide)
    · exact Int.emod_lt_of_pos _ (by decide)
  · walk_at "rd"
    refine q_i ⟨hb, hb⟩ ?_
    walk_at "rd"
    refine k _ ?_ ?_
    · exact Int.emod_nonneg _ (by decide)
    · exact Int.lt_trans (Int.emod_lt_of_pos _ (by decide)) (by decide)

/-! texts as lists of signs; words; the reader's states -/
abbrev S (l : List Nat) : Str := ⟨l.toArray⟩
theorem S_len (l : List Nat) : (S l).length = l.length := by simp [S, Str.length]
theorem S_add (a b : List Nat) : S a ++ S b = S (a ++ b) := by
  show (⟨a.toArray ++ b.toArray⟩ : Str) = _
  simp [S]
theorem S_inj {a b : List Nat} (h : S a = S b) : a = b := by
  have := congrArg (fun s : Str => s.cps.toList) h
  simpa [S] using this
def isL (c : Nat) : Bool := decide (97 ≤ c) && decide (c ≤ 122)
def isD (c : Nat) : Bool := decide (48 ≤ c) && decide (c ≤ 57)
def tog (a b : Nat) : Bool := (isL a && isL b) || (isD a && isD b)
def tokF : Nat → List Nat → List (List Nat)
  | 0, _ => []
  | _, [] => []
  | n + 1, c :: r => (c :: r.takeWhile (tog c)) :: tokF n (r.drop (r.takeWhile (tog c)).length)
def tok (l : List Nat) : List (List Nat) := tokF l.length l
theorem tokF_more : ∀ (n m : Nat) (l : List Nat), l.length ≤ n → l.length ≤ m → tokF n l = tokF m l
  | 0, m, l, h1, h2 => by
    have : l = [] := List.eq_nil_of_length_eq_zero (by omega)
    subst this
    cases m <;> rfl
  | n + 1, 0, l, h1, h2 => by
    have : l = [] := List.eq_nil_of_length_eq_zero (by omega)
    subst this
    rfl
  | n + 1, m + 1, [], _, _ => rfl
  | n + 1, m + 1, c :: r, h1, h2 => by
    simp only [tokF]
    congr 1
    have hd : (r.drop (r.takeWhile (tog c)).length).length ≤ r.length := by simp
    simp only [List.length_cons] at h1 h2
    exact tokF_more n m _ (by omega) (by omega)
theorem tok_cons (c : Nat) (r : List Nat) : tok (c :: r) = (c :: r.takeWhile (tog c)) :: tok (r.drop (r.takeWhile (tog c)).length) := by
  unfold tok
  simp only [List.length_cons, tokF]
  congr 1
  have hd : (r.drop (r.takeWhile (tog c)).length).length ≤ r.length := by simp
  exact tokF_more _ _ _ hd (Nat.le_refl _)
theorem tok_nil : tok [] = [] := rfl
def GT (w : List Nat) : Prop := ∃ c e, w = c :: e ∧ (∀ d ∈ e, tog c d = true)
def hd0 : List Nat → Nat
  | c :: _ => c
  | [] => 0
def Sep : List (List Nat) → Prop
  | a :: b :: r => tog (hd0 a) (hd0 b) = false ∧ Sep (b :: r)
  | _ => True
theorem Sep.tail {a : List Nat} {r : List (List Nat)} (h : Sep (a :: r)) : Sep r := by
  cases r with
  | nil => trivial
  | cons b r => exact h.2
theorem tog_l {c d : Nat} (h : (isL c || isD c) = false) : tog c d = false := by
  rw [Bool.or_eq_false_iff] at h
  unfold tog
  rw [h.1, h.2]; simp
theorem tog_r {c d : Nat} (h : (isL d || isD d) = false) : tog c d = false := by
  rw [Bool.or_eq_false_iff] at h
  unfold tog
  rw [h.1, h.2]; simp
theorem sep_sign {g : Nat} (hg : (isL g || isD g) = false) {us : List (List Nat)} (hu : Sep us) : ∀ {ts : List (List Nat)}, Sep ts → Sep (ts ++ [g] :: us)
  | [], _ => by
    cases us with
    | nil => trivial
    | cons b r => exact ⟨tog_l hg, hu⟩
  | [a], _ => ⟨tog_r hg, sep_sign hg hu (ts := []) trivial⟩
  | a :: b :: r, h => ⟨h.1, sep_sign hg hu (ts := b :: r) h.2⟩
theorem takeWhile_all {p : Nat → Bool} : ∀ {e r : List Nat}, (∀ d ∈ e, p d = true) → (∀ d q, r = d :: q → p d = false) → (e ++ r).takeWhile p = e
  | [], [], _, _ => rfl
  | [], d :: q, _, h => by simp [h d q rfl]
  | d :: e, r, h1, h2 => by
    rw [List.cons_append, List.takeWhile_cons, if_pos (h1 d (List.mem_cons_self ..)), takeWhile_all (fun x hx => h1 x (List.mem_cons_of_mem _ hx)) h2]
theorem tok_flat : ∀ {ts : List (List Nat)}, (∀ w ∈ ts, GT w) → Sep ts → tok ts.flatten = ts
  | [], _, _ => rfl
  | w :: r, hg, hs => by
    obtain ⟨c, e, rfl, he⟩ := hg w (List.mem_cons_self ..)
    have ht : (e ++ r.flatten).takeWhile (tog c) = e := takeWhile_all he fun d q hq => by
      cases r with
      | nil => cases hq
      | cons b r =>
        obtain ⟨c', e', rfl, _⟩ := hg b (List.mem_cons_of_mem _ (List.mem_cons_self ..))
        have : c' = d := by simp at hq; exact hq.1
        subst this
        exact hs.1
    rw [List.flatten_cons, List.cons_append, tok_cons, ht, List.drop_left' rfl, tok_flat (fun w hw => hg w (List.mem_cons_of_mem _ hw)) hs.tail]
/-! the reader's states: how many brackets are open, and whether a piece is awaited -/
def valD (w : List Nat) : Nat := w.foldl (fun a c => a * 10 + (c - 48)) 0
def nmB (l : List Nat) : Bool := decide (0 < l.length) && decide (l.length ≤ 6) && l.all isL
def wrN (l : List Nat) (m : Int) : Bool := decide (0 < l.length) && decide ((l.length : Int) ≤ m) && l.all isD && (decide (l = [48]) || !decide (l.head? = some 48))
def leafB (w : List Nat) : Bool := nmB w || (wrN w 13 && decide (valD w ≤ 1000000000000))
def step (n : Nat) (aw : Bool) (w : List Nat) : Option (Nat × Bool) :=
  if aw = true then
    if w = [45] then some (n, true)
    else if w = [40] then some (n + 1, true)
    else if leafB w = true then some (n, false) else none
  else if w = [42] then some (n, true)
  else if w = [43] then some (n, true)
  else if w = [45] then some (n, true)
  else if w = [41] then (match n with | 0 => none | m + 1 => some (m, false))
  else none
def run : List (List Nat) → Nat × Bool → Option (Nat × Bool)
  | [], x => some x
  | w :: r, x => (step x.1 x.2 w).bind (run r)
theorem run_cons {w : List Nat} {r : List (List Nat)} {n n' : Nat} {a a' : Bool} (h : step n a w = some (n', a')) : run (w :: r) (n, a) = run r (n', a') := by
  show (step n a w).bind (run r) = _
  rw [h]; rfl
def Rd (ts : List (List Nat)) : Prop := ∀ n rest, run (ts ++ rest) (n, true) = run rest (n, false)
def Stops (ts : List (List Nat)) : Prop := ∀ n rest, run (ts ++ rest) (n, true) = none
theorem step_count {n n' : Nat} {a a' : Bool} {w : List Nat} (h : step n a w = some (n', a')) : n' + (if w = [41] then 1 else 0) = n + (if w = [40] then 1 else 0) := by
  unfold step at h
  split at h
  · split at h
    · rename_i e; subst e; cases h; rfl
    · split at h
      · rename_i e; subst e; cases h; rfl
      · split at h
        · rename_i e1 e2 e3
          have e4 : w ≠ [41] := fun z => by subst z; exact absurd e3 (by decide)
          cases h
          rw [if_neg e4, if_neg e2]
        · cases h
  · split at h
    · rename_i e; subst e; cases h; rfl
    · split at h
      · rename_i e; subst e; cases h; rfl
      · split at h
        · rename_i e; subst e; cases h; rfl
        · split at h
          · rename_i e
            subst e
            cases n with
            | zero => cases h
            | succ m => cases h; rfl
          · cases h
theorem run_count : ∀ {ts : List (List Nat)} {n n' : Nat} {a a' : Bool}, run ts (n, a) = some (n', a') → n' + ts.count [41] = n + ts.count [40]
  | [], n, n', a, a', h => by
    have h : some (n, a) = some (n', a') := h
    cases h
    rfl
  | w :: r, n, n', a, a', h => by
    have h : (step n a w).bind (run r) = some (n', a') := h
    cases hs : step n a w with
    | none => rw [hs] at h; cases h
    | some x =>
      obtain ⟨n1, a1⟩ := x
      rw [hs] at h
      have h1 := step_count hs
      have h2 := run_count (ts := r) (n := n1) (a := a1) h
      rw [List.count_cons, List.count_cons]
      simp only [beq_iff_eq]
      omega
def asc (l : List Nat) : Prop := ∀ c ∈ l, c < 128
/-- c of its leaves are spoilt -/
def Cl (c : Nat) (ts : List (List Nat)) : Prop := (c = 0 → Rd ts ∧ ts.count [40] = ts.count [41]) ∧ (c = 1 → Stops ts ∨ ts.count [40] ≠ ts.count [41])
structure Wt (c : Nat) (ts : List (List Nat)) : Prop where
  gt : ∀ w ∈ ts, GT w
  sep : Sep ts
  asc : asc ts.flatten
  cl : Cl c ts
theorem gt1 (c : Nat) : GT [c] := ⟨c, [], rfl, fun d h => by cases h⟩
theorem cnt_held (ts : List (List Nat)) : ([40] :: (ts ++ [[41]])).count [40] = ts.count [40] + 1 ∧ ([40] :: (ts ++ [[41]])).count [41] = ts.count [41] + 1 := by
  constructor <;> simp [List.count_cons, List.count_append]
theorem Cl.held {c : Nat} {ts : List (List Nat)} (h : Cl c ts) : Cl c ([40] :: (ts ++ [[41]])) := by
  obtain ⟨e1, e2⟩ := cnt_held ts
  have hs : ∀ n rest, run ([40] :: (ts ++ [[41]]) ++ rest) (n, true) = run (ts ++ ([[41]] ++ rest)) (n + 1, true) := fun n rest => by
    rw [List.cons_append, List.append_assoc]
    exact run_cons rfl
  refine ⟨fun hc => ?_, fun hc => ?_⟩
  · obtain ⟨h1, h2⟩ := h.1 hc
    refine ⟨fun n rest => ?_, by omega⟩
    rw [hs, h1]
    exact run_cons rfl
  · rcases h.2 hc with h1 | h1
    · exact .inl fun n rest => by rw [hs, h1]
    · exact .inr (by omega)
theorem Wt.held {c : Nat} {ts : List (List Nat)} (h : Wt c ts) : Wt c ([40] :: (ts ++ [[41]])) := by
  refine ⟨fun w hw => ?_, ?_, fun d hd => ?_, h.cl.held⟩
  · rcases List.mem_cons.mp hw with z | z
    · rw [z]; exact gt1 _
    · rcases List.mem_append.mp z with z | z
      · exact h.gt w z
      · rw [List.mem_singleton.mp z]; exact gt1 _
  · exact sep_sign (g := 40) rfl (sep_sign (g := 41) (us := []) rfl trivial h.sep) (ts := []) trivial
  · have : d = 40 ∨ d ∈ ts.flatten ∨ d = 41 := by simpa using hd
    rcases this with z | z | z
    · omega
    · exact h.asc d z
    · omega
theorem Wt.turned {c : Nat} {ts : List (List Nat)} (h : Wt c ts) : Wt c ([45] :: ts) := by
  have hs : ∀ n rest, run ([45] :: ts ++ rest) (n, true) = run (ts ++ rest) (n, true) := fun n rest => by
    rw [List.cons_append]
    exact run_cons rfl
  have e1 : ([45] :: ts).count [40] = ts.count [40] := by simp [List.count_cons]
  have e2 : ([45] :: ts).count [41] = ts.count [41] := by simp [List.count_cons]
  refine ⟨fun w hw => ?_, sep_sign (g := 45) rfl h.sep (ts := []) trivial, fun d hd => ?_, fun hc => ?_, fun hc => ?_⟩
  · rcases List.mem_cons.mp hw with z | z
    · rw [z]; exact gt1 _
    · exact h.gt w z
  · rcases List.mem_cons.mp (show d ∈ 45 :: ts.flatten from hd) with z | z
    · omega
    · exact h.asc d z
  · obtain ⟨h1, h2⟩ := h.cl.1 hc
    exact ⟨fun n rest => by rw [hs, h1], by omega⟩
  · rcases h.cl.2 hc with h1 | h1
    · exact .inl fun n rest => by rw [hs, h1]
    · exact .inr (by omega)
def isOp (c0 : Nat) : Prop := c0 = 42 ∨ c0 = 43 ∨ c0 = 45
theorem Wt.join {a b : Nat} {ts us : List (List Nat)} {c0 : Nat} (h : Wt a ts) (h2 : Wt b us) (ho : isOp c0) : Wt (a + b) (ts ++ [c0] :: us) := by
  have hc0 : (isL c0 || isD c0) = false := by rcases ho with rfl | rfl | rfl <;> rfl
  have hs : ∀ n rest, run ([c0] :: us ++ rest) (n, false) = run (us ++ rest) (n, true) := fun n rest => by
    rw [List.cons_append]
    refine run_cons ?_
    rcases ho with rfl | rfl | rfl <;> rfl
  have e : ∀ c, c ≠ c0 → (ts ++ [c0] :: us).count [c] = ts.count [c] + us.count [c] := fun c hc => by
    rw [List.count_append, List.count_cons, if_neg (by simpa using fun z => hc z.symm), Nat.add_zero]
  have e1 := e 40 (by rcases ho with rfl | rfl | rfl <;> decide)
  have e2 := e 41 (by rcases ho with rfl | rfl | rfl <;> decide)
  refine ⟨fun w hw => ?_, sep_sign (g := c0) hc0 h2.sep h.sep, fun d hd => ?_, fun hc => ?_, fun hc => ?_⟩
  · rcases List.mem_append.mp hw with z | z
    · exact h.gt w z
    · rcases List.mem_cons.mp z with z | z
      · rw [z]; exact gt1 _
      · exact h2.gt w z
  · have : d ∈ ts.flatten ∨ d = c0 ∨ d ∈ us.flatten := by
      rw [List.flatten_append] at hd
      rcases List.mem_append.mp hd with z | z
      · exact .inl z
      · exact .inr (List.mem_cons.mp z)
    rcases this with z | z | z
    · exact h.asc d z
    · rw [z]; rcases ho with rfl | rfl | rfl <;> decide
    · exact h2.asc d z
  · obtain ⟨g1, g2⟩ := h.cl.1 (by omega)
    obtain ⟨g3, g4⟩ := h2.cl.1 (by omega)
    exact ⟨fun n rest => by rw [List.append_assoc, g1, hs, g3], by omega⟩
  · have : (a = 0 ∧ b = 1) ∨ (a = 1 ∧ b = 0) := by omega
    rcases this with ⟨ha, hb⟩ | ⟨ha, hb⟩
    · obtain ⟨g1, g2⟩ := h.cl.1 ha
      rcases h2.cl.2 hb with g3 | g3
      · exact .inl fun n rest => by rw [List.append_assoc, g1, hs, g3]
      · exact .inr (by omega)
    · obtain ⟨g1, g2⟩ := h2.cl.1 hb
      rcases h.cl.2 ha with g3 | g3
      · exact .inl fun n rest => by rw [List.append_assoc, g3]
      · exact .inr (by omega)
/-- the reader refuses it -/
def Ref (l : List Nat) : Prop := run (tok l) (0, true) ≠ some (0, false)
theorem Wt.ref {ts : List (List Nat)} (h : Wt 1 ts) : Ref ts.flatten := by
  unfold Ref
  rw [tok_flat h.gt h.sep]
  intro z
  rcases h.cl.2 rfl with g | g
  · have := g 0 []
    rw [List.append_nil, z] at this
    cases this
  · have := run_count z
    omega
theorem ref_nil : Ref [] := fun z => by cases z
theorem gt_of {l : List Nat} (h1 : 0 < l.length) (h : l.all isL = true ∨ l.all isD = true) : GT l := by
  cases l with
  | nil => simp at h1
  | cons c e =>
    refine ⟨c, e, rfl, fun d hd => ?_⟩
    unfold tog
    rcases h with h | h
    · rw [List.all_cons, Bool.and_eq_true] at h
      rw [h.1, List.all_eq_true.mp h.2 d hd]; rfl
    · rw [List.all_cons, Bool.and_eq_true] at h
      rw [h.1, List.all_eq_true.mp h.2 d hd]; simp
theorem asc_of {l : List Nat} (h : l.all isL = true ∨ l.all isD = true) : asc l := fun c hc => by
  rcases h with h | h
  · have := List.all_eq_true.mp h c hc
    unfold isL at this
    rw [Bool.and_eq_true, decide_eq_true_eq, decide_eq_true_eq] at this
    omega
  · have := List.all_eq_true.mp h c hc
    unfold isD at this
    rw [Bool.and_eq_true, decide_eq_true_eq, decide_eq_true_eq] at this
    omega
theorem wt_leaf {w : List Nat} (h1 : 0 < w.length) (h : w.all isL = true ∨ w.all isD = true) (hf : leafB w = true) : Wt 0 [w] := by
  have n1 : w ≠ [45] := fun z => by subst z; rcases h with h | h <;> exact absurd h (by decide)
  have n2 : w ≠ [40] := fun z => by subst z; rcases h with h | h <;> exact absurd h (by decide)
  have n3 : w ≠ [41] := fun z => by subst z; rcases h with h | h <;> exact absurd h (by decide)
  refine ⟨fun x hx => by rw [List.mem_singleton.mp hx]; exact gt_of h1 h, trivial, by rw [List.flatten_singleton]; exact asc_of h, fun _ => ⟨fun n rest => ?_, ?_⟩, fun z => by cases z⟩
  · rw [List.singleton_append]
    refine run_cons ?_
    unfold step
    rw [if_pos rfl, if_neg n1, if_neg n2, if_pos hf]
  · simp [List.count_cons, n2, n3]

/-! the twenty texts that are no piece, by their words -/
def bads : List (List (List Nat)) := [[[48, 49]], [[48, 48]], [[49], [97]], [[97], [49]], [[65]], [[97], [66]], [[97, 98, 99, 100, 101, 102, 103]], [[49, 48, 48, 48, 48, 48, 48, 48, 48, 48, 48, 48, 49]], [[57, 57, 57, 57, 57, 57, 57, 57, 57, 57, 57, 57, 57, 57]], [[40], [41]],
  [[40], [97]], [[97], [41]], [[97], [32], [98]], [[32], [97]], [[97], [32]], [[43], [97]], [[42], [97]], [[97], [40], [98], [41]], [[40], [97], [41], [98]], [[49], [95], [48]]]
def gtB : List Nat → Bool
  | c :: e => e.all (tog c)
  | [] => false
theorem gt_ofB {w : List Nat} (h : gtB w = true) : GT w := by
  cases w with
  | nil => cases h
  | cons c e => exact ⟨c, e, rfl, fun d hd => List.all_eq_true.mp h d hd⟩
def sepB : List (List Nat) → Bool
  | a :: b :: r => !tog (hd0 a) (hd0 b) && sepB (b :: r)
  | _ => true
theorem sep_ofB : ∀ {ts : List (List Nat)}, sepB ts = true → Sep ts
  | [], _ => trivial
  | [a], _ => trivial
  | a :: b :: r, h => by
    unfold sepB at h
    rw [Bool.and_eq_true] at h
    exact ⟨by simpa using h.1, sep_ofB h.2⟩
theorem bads_form : (bads.all fun ts => ts.all gtB && sepB ts && ts.flatten.all (fun c => decide (c < 128)) && decide (ts.flatten.length ≤ 14)) = true := by decide
theorem bads_cl : ∀ ts ∈ bads, Stops ts ∨ ts.count [40] ≠ ts.count [41] := by
  intro ts h
  unfold bads at h
  simp only [List.mem_cons, List.not_mem_nil, or_false] at h
  rcases h with rfl | rfl | rfl | rfl | rfl | rfl | rfl | rfl | rfl | rfl | rfl | rfl | rfl | rfl | rfl | rfl | rfl | rfl | rfl | rfl
  all_goals first
    | exact .inr (by decide)
    | exact .inl fun n rest => rfl
theorem bads_ok {ts : List (List Nat)} (h : ts ∈ bads) : Wt 1 ts ∧ ts.flatten.length ≤ 14 := by
  have h1 := List.all_eq_true.mp bads_form ts h
  rw [Bool.and_eq_true, Bool.and_eq_true, Bool.and_eq_true] at h1
  obtain ⟨⟨⟨a, b⟩, c⟩, d⟩ := h1
  exact ⟨⟨fun w hw => gt_ofB (List.all_eq_true.mp a w hw), sep_ofB b, fun x hx => of_decide_eq_true (List.all_eq_true.mp c x hx), fun z => (by cases z), fun _ => bads_cl ts h⟩, of_decide_eq_true d⟩

theorem lt1 {c d : Nat} : ([c] < [d]) ↔ c < d := by
  constructor
  · intro h
    rcases List.cons_lt_cons_iff.mp h with h | ⟨_, h⟩
    · exact h
    · exact absurd h (List.lt_irrefl _)
  · intro h
    exact List.cons_lt_cons_iff.mpr (.inl h)
theorem leS {a b : Nat} : (!decide ([b] < [a])) = decide (a ≤ b) := by
  by_cases h : a ≤ b
  · have : ¬ [b] < [a] := fun z => by have := lt1.mp z; omega
    rw [decide_eq_true h, decide_eq_false this]; rfl
  · have : [b] < [a] := lt1.mpr (by omega)
    rw [decide_eq_false h, decide_eq_true this]; rfl
theorem leA {c : Nat} {x : Str} {a : Nat} (hx : x.cps.toList = [a]) : (!decide ((⟨#[c]⟩ : Str).cps.toList < x.cps.toList)) = decide (a ≤ c) := by
  rw [hx]; exact leS
theorem leZ {c : Nat} {x : Str} {a : Nat} (hx : x.cps.toList = [a]) : (!decide (x.cps.toList < (⟨#[c]⟩ : Str).cps.toList)) = decide (c ≤ a) := by
  rw [hx]; exact leS
def sp_isl : Sp := fun vs H Q _ => ∃ c : Nat, vs = [.str ⟨#[c]⟩] ∧ Q (.bl (isL c)) H
theorem ok_is_letter (T : Txt w K mg t) : FnOk P w K mg base CX0 1 t.f_is_letter t.d_is_letter ["sign"] (sp_isl) := by
  refine T.F_is_letter.ok sc_is_letter (fun vs H Q E h => ?_) (fun cdv A outer s H vs Q E hr h => ?_)
  · obtain ⟨_, rfl, _⟩ := h
    rfl
  obtain ⟨c, rfl, k⟩ := h
  refine ⟨_, (pss_one (ps_ret (pe_chain op_le_str op_le_str pe_str (pv 0) pe_str))), ?_⟩
  walk_at "rd"
  refine ⟨_, _, rfl, rfl, _, rfl, ?_⟩
  rw [leA (a := 97) (by decide +kernel)]
  refine ite2 (fun h => ?_) (fun h => ?_)
  · walk_at "rd"
    refine ⟨_, _, rfl, rfl, ?_⟩
    rw [leZ (a := 122) (by decide +kernel)]
    unfold isL at k
    rw [h] at k
    simpa using k
  · unfold isL at k
    rw [show decide (97 ≤ c) = false by simpa using h] at k
    exact k
def sp_isd : Sp := fun vs H Q _ => ∃ c : Nat, vs = [.str ⟨#[c]⟩] ∧ Q (.bl (isD c)) H
theorem ok_is_figure (T : Txt w K mg t) : FnOk P w K mg base CX0 1 t.f_is_figure t.d_is_figure ["sign"] (sp_isd) := by
  refine T.F_is_figure.ok sc_is_figure (fun vs H Q E h => ?_) (fun cdv A outer s H vs Q E hr h => ?_)
  · obtain ⟨_, rfl, _⟩ := h
    rfl
  obtain ⟨c, rfl, k⟩ := h
  refine ⟨_, (pss_one (ps_ret (pe_chain op_le_str op_le_str pe_str (pv 0) pe_str))), ?_⟩
  walk_at "rd"
  refine ⟨_, _, rfl, rfl, _, rfl, ?_⟩
  rw [leA (a := 48) (by decide +kernel)]
  refine ite2 (fun h => ?_) (fun h => ?_)
  · walk_at "rd"
    refine ⟨_, _, rfl, rfl, ?_⟩
    rw [leZ (a := 57) (by decide +kernel)]
    unfold isD at k
    rw [h] at k
    simpa using k
  · unfold isD at k
    rw [show decide (48 ≤ c) = false by simpa using h] at k
    exact k
def sp_tog : Sp := fun vs H Q _ => ∃ a b : Nat, vs = [.str ⟨#[a]⟩, .str ⟨#[b]⟩] ∧ Q (.bl (tog a b)) H
theorem ok_go_together (T : Txt w K mg t) : FnOk P w K mg base CX0 2 t.f_go_together t.d_go_together ["first", "second"] (sp_tog) := by
  refine T.F_go_together.ok sc_go_together (fun vs H Q E h => ?_) (fun cdv A outer s H vs Q E hr h => ?_)
  · obtain ⟨_, _, rfl, _⟩ := h
    rfl
  obtain ⟨a, b, rfl, k⟩ := h
  refine ⟨_, (pss_one (ps_ret (pe_or (pe_and (pe_call (ok_is_letter T) (hr.mono (by decide)) rfl T.m_is_letter T.F_is_letter.kp T.b_is_letter .nil pass0 (pa_cons (pv 0) pa_nil)) (pe_one (pe_call (ok_is_letter T) (hr.mono (by decide)) rfl T.m_is_letter T.F_is_letter.kp T.b_is_letter .nil pass0 (pa_cons (pv 1) pa_nil)))) (pe_one (pe_and (pe_call (ok_is_figure T) (hr.mono (by decide)) rfl T.m_is_figure T.F_is_figure.kp T.b_is_figure .nil pass0 (pa_cons (pv 0) pa_nil)) (pe_one (pe_call (ok_is_figure T) (hr.mono (by decide)) rfl T.m_is_figure T.F_is_figure.kp T.b_is_figure .nil pass0 (pa_cons (pv 1) pa_nil)))))))), ?_⟩
  unfold tog at k
  walk_at "rd"
  cases h1 : isL a
  · rw [h1] at k
    walk_at "rd"
    cases h3 : isD a
    · rw [h3] at k
      walk_at "rd"
      exact k
    · rw [h3] at k
      walk_at "rd"
      cases h4 : isD b
      all_goals
        rw [h4] at k
        walk_at "rd"
        simpa using k
  · rw [h1] at k
    walk_at "rd"
    cases h2 : isL b
    · rw [h2] at k
      walk_at "rd"
      cases h3 : isD a
      · rw [h3] at k
        walk_at "rd"
        exact k
      · rw [h3] at k
        walk_at "rd"
        cases h4 : isD b
        all_goals
          rw [h4] at k
          walk_at "rd"
          simpa using k
    · rw [h2] at k
      walk_at "rd"
      simpa using k
theorem strCut_S {l : List Nat} {a b : Nat} (h1 : a ≤ b) (h2 : b ≤ l.length) : strCut (S l) (some (a : Int)) (some (b : Int)) = S ((l.drop a).take (b - a)) := by
  have hl : (S l).length = l.length := S_len l
  unfold strCut
  rw [hl, PySem.StrLaws.strSliceIndices_plain h1 h2]
  have hp := PySem.StrLaws.sliced_plain (S l) h1 (by rw [hl]; exact h2)
  rw [hl, PySem.StrLaws.strSliceIndices_plain h1 h2] at hp
  rw [hp]
  by_cases h : b - a = l.length
  · have ha : a = 0 := by omega
    have hb : b = l.length := by omega
    subst ha hb
    simp [S]
  · rw [if_neg (by simpa using h)]
theorem take_all {p : Nat → Bool} {l : List Nat} {n : Nat} (h1 : ∀ i d, i < n → l[i]? = some d → p d = true) (h2 : ∀ d, l[n]? = some d → p d = false) : l.takeWhile p = l.take n := by
  have := takeWhile_all (p := p) (e := l.take n) (r := l.drop n) (fun d hd => ?_) (fun d q e => h2 d ?_)
  · rw [List.take_append_drop] at this
    exact this
  · obtain ⟨i, hi, e⟩ := List.getElem_of_mem hd
    rw [List.length_take] at hi
    refine h1 i d (by omega) ?_
    rw [List.getElem_take] at e
    rw [List.getElem?_eq_getElem (by omega), e]
  · have := congrArg List.head? e
    rw [List.head?_drop] at this
    exact this
def sp_words_of : Sp := fun vs H Q _ => ∃ l : List Nat, vs = [.str (S l)] ∧ l.length ≤ 100000 ∧ ∀ r H', Same H H' → H r = none → H' r = some (.lst ((tok l).map fun w => V.str (S w))) → Q (.ref r) H'
theorem ok_words_of (T : Txt w K mg t) : FnOk P w K mg base CX0 3 t.f_words_of t.d_words_of ["text"] (sp_words_of) := by
  refine T.F_words_of.ok sc_words_of (fun vs H Q E h => ?_) (fun cdv A outer s H vs Q E hr h => ?_)
  · obtain ⟨_, rfl, _⟩ := h
    rfl
  obtain ⟨l, rfl, hl, k⟩ := h
  refine ⟨_, (pss_cons (ps_set (i := 1) sc_words_of.nd rfl (Or.inl rfl) (pe_lstN pa_nil))
        (pss_cons (ps_set (i := 2) sc_words_of.nd rfl (Or.inl rfl) pe_int)
        (pss_cons (ps_while PassesOwn.never (pt_cmpR op_lt (pv 2) (pe_callB call_len_str (by rfl) T.nb_len bt_len (pa_cons (pv 0) pa_nil)) (nomark _)) (pss_cons (ps_set (i := 3) sc_words_of.nd rfl (Or.inl rfl) (pe_op op_add (pv 2) pe_int))
        (pss_cons (ps_while PassesOwn.never (pt_cut (PW.pt (pw_and (pt_cmpR op_lt (pv 3) (pe_callB call_len_str (by rfl) T.nb_len bt_len (pa_cons (pv 0) pa_nil)) (nomark _)) (pw_and1 (pt_val (pe_call (ok_go_together T) (hr.mono (by decide)) rfl T.m_go_together T.F_go_together.kp T.b_go_together .nil pass0 (pa_cons (pe_ix ix_str (pv 0) (pv 2) (fun _ _ => rfl)) (pa_cons (pe_ix ix_str (pv 0) (pv 3) (fun _ _ => rfl)) pa_nil)))))))) (pss_one (ps_set (i := 3) sc_words_of.nd rfl (Or.inl rfl) (pe_op op_add (pv 3) pe_int))))
        (pss_cons (ps_expr (pe_bmK (K := K) rfl PySem.F.plainAttrs_list PySem.F.slot_list_append PySem.F.type_list_append mt_appendN (pv 1) (pa_cons (pe_slice sl_str (pv 0) (po_some (pv 2)) (po_some (pv 3))) pa_nil)))
        (pss_one (ps_set (i := 2) sc_words_of.nd rfl (Or.inl rfl) (pv 3)))))))
        (pss_one (ps_ret (pv 1)))))), ?_⟩
  have hz : (S l).length ≤ sizeLine := by rw [S_len]; exact szl (by omega)
  have hz2 : (S l).length = l.length := S_len l
  have hc : (S l).cps.toList = l := by simp [S]
  walk_at "rd"
  intro lw H1 n1
  walk_at "rd"
  refine ⟨fun m σ H3 => ∃ u3, ∃ ws : List (List Nat), ∃ pl : Nat, σ = [some (.str (S l)), some (.ref lw), some (.int (pl : Int)), u3] ∧ Same H H3 ∧ H3 lw = some (.lst (ws.map fun w => V.str (S w))) ∧ ws ++ tok (l.drop pl) = tok l ∧ pl ≤ l.length ∧ ws.length ≤ pl ∧ m = l.length - pl, ⟨_, _, [], 0, rfl, n1.same, n1.at, by simp, Nat.zero_le _, Nat.le_refl _, rfl⟩, ?_⟩
  rintro m σ H3 ⟨u3, ws, pl, rfl, sm, ew, hws, hpl, hwl, rfl⟩
  walk_at "rd"
  rw [hz2]
  refine ite2 (fun hpos => ?_) (fun hneg => ?_)
  · have hpos := of_decide_eq_true hpos
    have hlt : pl < l.length := by omega
    refine ⟨_, fun _ _ h => h, ?_⟩
    have hat : atI l (pl : Int) = some l[pl] := atI_nat (List.getElem?_eq_getElem hlt)
    have hat' : atI (S l).cps.toList (pl : Int) = some l[pl] := by rw [hc]; exact hat
    walk_at "rd"
    refine ⟨fun m σ H4 => ∃ e : Nat, σ = [some (.str (S l)), some (.ref lw), some (.int (pl : Int)), some (.int (e : Int))] ∧ H4 = H3 ∧ pl + 1 ≤ e ∧ e ≤ l.length ∧ (∀ i d, i < e - (pl + 1) → (l.drop (pl + 1))[i]? = some d → tog l[pl] d = true) ∧ m = l.length - e, ⟨_, pl + 1, rfl, rfl, Nat.le_refl _, by omega, fun i d h => absurd h (by omega), rfl⟩, ?_⟩
    rintro m σ H4 ⟨e, rfl, rfl, he1, he2, hall, rfl⟩
    refine cutT (fun b H' => H4 = H' ∧ (b = true → e < l.length ∧ ∀ d, l[e]? = some d → tog l[pl] d = true) ∧ (b = false → ∀ d, l[e]? = some d → tog l[pl] d = false)) ?_ ?_
    · walk_at "rd"
      rw [hz2]
      refine iteD (fun h => ?_) (fun h => ?_)
      · have hlt2 : e < l.length := by omega
        have hat2 : atI (S l).cps.toList (e : Int) = some l[e] := by rw [hc]; exact atI_nat (List.getElem?_eq_getElem hlt2)
        walk_at "rd"
        refine ⟨_, _, _, rfl, rfl, hz, hat', ?_⟩
        walk_at "rd"
        refine ⟨_, _, _, rfl, rfl, hz, hat2, ?_⟩
        walk_at "rd"
        first
          | exact ⟨fun hb => ⟨hlt2, fun d hd => by rw [List.getElem?_eq_getElem hlt2] at hd; cases hd; exact hb⟩, fun hb d hd => by rw [List.getElem?_eq_getElem hlt2] at hd; cases hd; exact hb⟩
          | exact ⟨rfl, fun hb => ⟨hlt2, fun d hd => by rw [List.getElem?_eq_getElem hlt2] at hd; cases hd; exact hb⟩, fun hb d hd => by rw [List.getElem?_eq_getElem hlt2] at hd; cases hd; exact hb⟩
      · have hge : l.length ≤ e := by omega
        walk_at "rd"
        first
          | exact ⟨fun hb => (by cases hb), fun _ d hd => (by rw [List.getElem?_eq_none hge] at hd; cases hd)⟩
          | exact ⟨rfl, fun hb => (by cases hb), fun _ d hd => (by rw [List.getElem?_eq_none hge] at hd; cases hd)⟩
    rintro b H' ⟨rfl, hb1, hb2⟩
    cases b with
    | true =>
      obtain ⟨h1, h2⟩ := hb1 rfl
      refine iteT ⟨_, fun _ _ h => h, ?_⟩
      walk_at "rd"
      refine ⟨l.length - (e + 1), by omega, e + 1, rfl, rfl, by omega, by omega, fun i d hi hd => ?_, rfl⟩
      by_cases hie : i < e - (pl + 1)
      · exact hall i d hie hd
      · have : i = e - (pl + 1) := by omega
        subst this
        rw [List.getElem?_drop, show pl + 1 + (e - (pl + 1)) = e by omega] at hd
        exact h2 d hd
    | false =>
      refine iteF ?_
      have htk : (l.drop (pl + 1)).takeWhile (tog l[pl]) = (l.drop (pl + 1)).take (e - (pl + 1)) := take_all hall fun d hd => by
        rw [List.getElem?_drop, show pl + 1 + (e - (pl + 1)) = e by omega] at hd
        exact hb2 rfl d hd
      have hdr : l.drop pl = l[pl] :: l.drop (pl + 1) := List.drop_eq_getElem_cons hlt
      have htok : tok (l.drop pl) = (l.drop pl).take (e - pl) :: tok (l.drop e) := by
        rw [hdr, tok_cons, htk]
        congr 1
        · rw [show e - pl = (e - (pl + 1)) + 1 by omega, List.take_succ_cons]
        · rw [List.length_take, List.length_drop, show min (e - (pl + 1)) (l.length - (pl + 1)) = e - (pl + 1) by omega, List.drop_drop, show pl + 1 + (e - (pl + 1)) = e by omega]
      walk_at "rd"
      intro H5 c5
      rw [strCut_S (by omega) he2] at c5
      walk_at "rd"
      refine ⟨l.length - e, by omega, _, ws ++ [(l.drop pl).take (e - pl)], e, rfl, sm.chg n1.free c5, by rw [c5.at]; simp, ?_, he2, by simp; omega, rfl⟩
      rw [List.append_assoc, List.singleton_append, ← htok, hws]
  · have hneg : ¬ ((pl : Int) < (l.length : Int)) := fun z => hneg (decide_eq_true z)
    have hd0 : l.drop pl = [] := List.drop_eq_nil_of_le (by omega)
    rw [hd0, tok_nil, List.append_nil] at hws
    walk_at "rd"
    refine k lw H3 sm n1.free ?_
    rw [ew, hws]
theorem asc_all {l : List Nat} (h : asc l) : (S l).cps.all (· < 128) = true := by
  show (l.toArray.all fun x => decide (x < 128)) = true
  rw [List.all_toArray, List.all_eq_true]
  exact fun c hc => decide_eq_true (h c hc)
theorem atS {l : List Nat} {i c : Nat} (h : (S l).cps[i]? = some c) : l[i]? = some c := by simpa [S] using h
theorem gN_str {js : List (Option Nat)} {σ : St} {l : List Nat} : ∀ i x σ' H1 (Z : St → Hp → Prop), i < l.length → SN js σ σ' → (∃ c, (S l).cps[i]? = some c ∧ x = V.str ⟨#[c]⟩) → Z (stN js σ (fun (i : Nat) => (l[i]?).map fun c => V.str ⟨#[c]⟩) i) H1 → gName 0 x σ' H1 Z := by
  rintro i x σ' H1 Z hi hs ⟨c, hc, rfl⟩ hz
  have := gN_list (js := js) (σ := σ) (xs := l.map fun c => V.str ⟨#[c]⟩) i (.str ⟨#[c]⟩) σ' H1 Z (by simpa using hi) hs (by rw [List.getElem?_map, atS hc]; rfl) (by
    have e : (fun (i : Nat) => (l.map fun c => V.str ⟨#[c]⟩)[i]?) = fun (i : Nat) => (l[i]?).map fun c => V.str ⟨#[c]⟩ := by funext i; rw [List.getElem?_map]
    rw [e]; exact hz)
  exact this
theorem all_map (l : List Nat) (p : Nat → Bool) : (l.map p).all id = l.all p := by simp [List.all_map]
def sp_is_name : Sp := fun vs H Q _ => ∃ l : List Nat, vs = [.str (S l)] ∧ l.length ≤ 100000 ∧ asc l ∧ ∀ H', Same H H' → Q (.bl (nmB l)) H'
theorem rng_map {l : List Nat} {f : Nat → Bool} : (List.range l.length).map (fun i => V.bl (f (l.getD i 0))) = (l.map f).map V.bl := by
  refine List.ext_getElem? fun i => ?_
  by_cases hi : i < l.length
  · simp [List.getElem?_range, hi, List.getD_eq_getElem?_getD]
  · simp [hi]
theorem yieldsS {l : List Nat} {H : Hp} : Yields (Its (S l)) l.length (fun i x _ => ∃ c, (S l).cps[i]? = some c ∧ x = .str ⟨#[c]⟩) H := by
  have h : (S l).cps.size = l.length := by simp [S]
  have := yields_str (z := S l) (H := H)
  rw [h] at this
  exact this
theorem ok_is_name (T : Txt w K mg t) : FnOk P w K mg base CX0 2 t.f_is_name t.d_is_name ["word"] (sp_is_name) := by
  refine T.F_is_name.ok sc_is_name (fun vs H Q E h => ?_) (fun cdv A outer s H vs Q E hr h => ?_)
  · obtain ⟨_, rfl, _⟩ := h
    rfl
  obtain ⟨l, rfl, hl, ha, k⟩ := h
  refine ⟨_, (pss_one (ps_ret (pe_and (pe_chain op_lt op_le pe_int (pe_callB call_len_str (by rfl) T.nb_len bt_len (pa_cons (pv 0) pa_nil)) (pe_globC T.g_MOST_LETTERS (by rfl))) (pe_one (pe_callB (call_allK (K := K) rfl rfl) (by rfl) T.nb_all bt_all (pa_cons (pe_comp (CompNames.of (Nc := ["sign"]) (js := [none]) (by kernel_rfl)) (pi_str (pv 0)) (fun _ _ _ _ _ => (pg_name (i := 0) (show List.Nodup (["sign"] : List Str) from by decide +kernel) rfl (Or.inl rfl))) (fun _ _ _ _ _ => pifs_nil) (fun _ _ _ _ _ => (pe_call (ok_is_letter T) (hr.mono (by decide)) rfl T.m_is_letter T.F_is_letter.kp T.b_is_letter .nil pass0 (pa_cons (pv 0) pa_nil))) rfl) pa_nil)))))), ?_⟩
  unfold nmB at k
  have hz : (S l).length ≤ sizeLine := by rw [S_len]; exact szl (by omega)
  have hz2 : (S l).length = l.length := S_len l
  have hasc := asc_all ha
  walk_at "rd"
  rw [hz2]
  refine iteD (fun h1 => ?_) (fun h1 => ?_)
  · walk_at "rd"
    refine iteD (fun h2 => ?_) (fun h2 => ?_)
    · walk_at "rd"
      refine comp_F yieldsS (by omega) (SN _ _) (stN _ _ _) SN0 (fun i _ => ⟨_, rfl⟩) gN_str (fun i => .bl (isL (l.getD i 0))) ?_ ?_
      · intro i H1 hi sm Y kY
        have e : l.getD i 0 = l[i] := by simp [List.getD_eq_getElem?_getD, hi]
        rw [e] at kY
        simp only [stN, List.getElem?_eq_getElem hi, Option.map_some]
        walk_at "rd"
        exact kY H1 (Same.refl _)
      intro l1 H1 sm1 f1 e1
      rw [rng_map] at e1
      walk_at "rd"
      refine q_all (SqL.of e1) ?_
      rw [all_map]
      have := k H1 sm1
      rw [decide_eq_true (by omega : 0 < l.length), decide_eq_true (by omega : l.length ≤ 6)] at this
      exact this
    · walk_at "rd"
      have := k H (Same.refl _)
      rw [decide_eq_false (by omega : ¬ l.length ≤ 6)] at this
      simpa using this
  · walk_at "rd"
    have := k H (Same.refl _)
    rw [decide_eq_false (by omega : ¬ 0 < l.length)] at this
    exact this
def sp_is_wn : Sp := fun vs H Q _ => ∃ l : List Nat, ∃ m : Int, vs = [.str (S l), .int m] ∧ l.length ≤ 100000 ∧ asc l ∧ ∀ H', Same H H' → Q (.bl (wrN l m)) H'
theorem S0 : (Str.ofString "0") = S [48] := by decide +kernel
theorem S_eq0 {l : List Nat} : decide (V.str (S l) = V.str (Str.ofString "0")) = decide (l = [48]) := by
  by_cases h : l = [48]
  · rw [decide_eq_true h, h, S0]; simp
  · rw [decide_eq_false h]
    refine decide_eq_false fun z => h ?_
    have z : S l = Str.ofString "0" := by injection z
    rw [S0] at z
    exact S_inj z
theorem ok_is_written_number (T : Txt w K mg t) : FnOk P w K mg base CX0 2 t.f_is_written_number t.d_is_written_number ["word", "most_figures"] (sp_is_wn) := by
  refine T.F_is_written_number.ok sc_is_written_number (fun vs H Q E h => ?_) (fun cdv A outer s H vs Q E hr h => ?_)
  · obtain ⟨_, _, rfl, _⟩ := h
    rfl
  obtain ⟨l, m, rfl, hl, ha, k⟩ := h
  refine ⟨_, (pss_cons (ps_if (PW.pt (pw_or (pt_not (pt_chain op_lt op_le pe_int (pe_callB call_len_str (by rfl) T.nb_len bt_len (pa_cons (pv 0) pa_nil)) (pv 1))) (pw_or1 (pt_not (pt_val (pe_callB (call_allK (K := K) rfl rfl) (by rfl) T.nb_all bt_all (pa_cons (pe_comp (CompNames.of (Nc := ["sign"]) (js := [none]) (by kernel_rfl)) (pi_str (pv 0)) (fun _ _ _ _ _ => (pg_name (i := 0) (show List.Nodup (["sign"] : List Str) from by decide +kernel) rfl (Or.inl rfl))) (fun _ _ _ _ _ => pifs_nil) (fun _ _ _ _ _ => (pe_call (ok_is_figure T) (hr.mono (by decide)) rfl T.m_is_figure T.F_is_figure.kp T.b_is_figure .nil pass0 (pa_cons (pv 0) pa_nil))) rfl) pa_nil))))))) (pss_one (ps_ret pe_bl)) pss_nil)
        (pss_one (ps_ret (pe_or (pe_cmpR op_eq (pv 0) pe_str (nomark _)) (pe_one (pe_cmpR op_ne (pe_ix ix_str (pv 0) pe_int (fun _ _ => rfl)) pe_str (nomark _))))))), ?_⟩
  have hz : (S l).length ≤ sizeLine := by rw [S_len]; exact szl (by omega)
  have hz2 : (S l).length = l.length := S_len l
  have hasc := asc_all ha
  have hc : (S l).cps.toList = l := by simp [S]
  unfold wrN at k
  walk_at "rd"
  rw [hz2]
  refine iteD (fun h1 => ?_) (fun h1 => ?_)
  · walk_at "rd"
    rw [decide_eq_true (by omega : 0 < l.length)] at k
    by_cases h2 : (l.length : Int) ≤ m
    · rw [decide_eq_true h2] at k ⊢
      walk_at "rd"
      refine comp_F yieldsS (by omega) (SN _ _) (stN _ _ _) SN0 (fun i _ => ⟨_, rfl⟩) gN_str (fun i => .bl (isD (l.getD i 0))) ?_ ?_
      · intro i H1 hi sm Y kY
        have e : l.getD i 0 = l[i] := by simp [List.getD_eq_getElem?_getD, hi]
        rw [e] at kY
        simp only [stN, List.getElem?_eq_getElem hi, Option.map_some]
        walk_at "rd"
        exact kY H1 (Same.refl _)
      intro l1 H1 sm1 f1 e1
      rw [rng_map] at e1
      walk_at "rd"
      refine q_all (SqL.of e1) ?_
      rw [all_map]
      have k := k H1 sm1
      cases hd : l.all isD
      · rw [hd] at k
        walk_at "rd"
        simpa using k
      · rw [hd] at k
        walk_at "rd"
        rw [S_eq0]
        by_cases h3 : l = [48]
        · rw [decide_eq_true h3] at k ⊢
          walk_at "rd"
          simpa using k
        · rw [decide_eq_false h3] at k ⊢
          have hl0 : 0 < l.length := by omega
          have hat : atI (S l).cps.toList 0 = some l[0] := by rw [hc]; exact atI_nat (List.getElem?_eq_getElem hl0)
          walk_at "rd"
          refine ⟨_, _, _, rfl, rfl, hz, hat, ?_⟩
          walk_at "rd"
          have e5 : decide (V.str ⟨#[l[0]]⟩ = V.str (Str.ofString "0")) = decide (l.head? = some 48) := by
            have e6 : (⟨#[l[0]]⟩ : Str) = S [l[0]] := rfl
            rw [e6, S_eq0]
            have e7 : l.head? = some l[0] := by cases l with | nil => simp at hl0 | cons a b => rfl
            rw [e7]
            by_cases h : l[0] = 48
            · rw [decide_eq_true (by rw [h]), decide_eq_true (by rw [h])]
            · rw [decide_eq_false (by simpa using h), decide_eq_false (by simpa using h)]
          rw [e5]
          simpa using k
    · rw [decide_eq_false h2] at k ⊢
      walk_at "rd"
      have := k H (Same.refl _)
      simpa using this
  · walk_at "rd"
    rw [decide_eq_false (by omega : ¬ 0 < l.length)] at k
    have := k H (Same.refl _)
    simpa using this
theorem isD_in {l : List Nat} (h : l.all isD = true) : PySem.NumText.AllDigits l := fun c hc => by
  have := List.all_eq_true.mp h c hc
  unfold isD at this
  rw [Bool.and_eq_true, decide_eq_true_eq, decide_eq_true_eq] at this
  exact this
theorem asc16 {l : List Nat} (h : asc l) : ∀ c ∈ (S l).cps.toList, c < 16 ^ 8 := fun c hc => by
  have hc : c ∈ l := by simpa [S] using hc
  have := h c hc
  have e : (16 : Nat) ^ 8 = 4294967296 := by decide
  omega
theorem szl8 {n : Nat} (h : n ≤ 2000000) : n ≤ sizeLine := Nat.le_trans h (Nat.le_of_ble_eq_true rfl)
def sp_leaf_of (CF : Addr) : Sp := fun vs H Q E => ∃ l : List Nat, vs = [.str (S l)] ∧ l.length ≤ 100000 ∧ asc l ∧ (leafB l = true → ∀ p H', Same H H' → Q (.ref p) H') ∧ (leafB l = false → ∀ H', Same H H' → E (.ref CF) none H')
theorem ok_leaf_of (T : Txt w K mg t) : FnOk P w K mg base (CX1 P w) 3 t.f_leaf_of t.d_leaf_of ["word"] (sp_leaf_of t.C_NoFormula) := by
  refine T.F_leaf_of.ok1 sc_leaf_of (fun vs H Q E h => ?_) (fun cdv A outer s H vs Q E hr h => ?_)
  · obtain ⟨_, rfl, _⟩ := h
    rfl
  obtain ⟨l, rfl, hl, ha, k1, k2⟩ := h
  refine ⟨_, (pss_cons (ps_if (pt_val (pe_call (ok_is_name T) (hr.mono (by decide)) rfl T.m_is_name T.F_is_name.kp T.b_is_name .nil pass0 (pa_cons (pv 0) pa_nil))) (pss_one (ps_ret (pe_tupN (pa_cons pe_str (pa_cons (pv 0) pa_nil))))) pss_nil)
        (pss_cons (ps_if (PW.pt (pw_and (pt_val (pe_call (ok_is_written_number T) (hr.mono (by decide)) rfl T.m_is_written_number T.F_is_written_number.kp T.b_is_written_number .nil pass0 (pa_cons (pv 0) (pa_cons (pe_callB call_len_str (by rfl) T.nb_len bt_len (pa_cons (pe_callTy call_str_int (by rfl) T.nb_str bt_str (pa_cons (pe_globC T.g_GREATEST_NUMBER (by rfl)) pa_nil)) pa_nil)) pa_nil)))) (pw_and1 (pt_cmpR op_le (pe_callTy call_int_str (by rfl) T.nb_int bt_int (pa_cons (pv 0) pa_nil)) (pe_globC T.g_GREATEST_NUMBER (by rfl)) (nomark _))))) (pss_one (ps_ret (pe_tupN (pa_cons pe_str (pa_cons (pe_callTy call_int_str (by rfl) T.nb_int bt_int (pa_cons (pv 0) pa_nil)) pa_nil))))) pss_nil)
        (pss_one (ps_raise (E := E) leaves1 rfl (by rfl) T.mC_NoFormula T.x_NoFormula (pa_cons (pe_fstr (pj_repr (pv 0) (pj_str pj_nil))) pa_nil))))), ?_⟩
  have h16 := asc16 ha
  have hz2 : (S l).length = l.length := S_len l
  have e32 : (Str.ofString " stands where a piece is awaited").length = 32 := by decide +kernel
  walk_at "rd"
  intro H1 sm1
  cases h1 : nmB l
  · walk_at "rd"
    have hlen : (Str.ofString (toString (1000000000000 : Int))).length = 13 := by decide +kernel
    intro H2 sm2
    rw [hlen]
    cases h2 : wrN l ((13 : Nat) : Int)
    · have hf : leafB l = false := by unfold leafB; rw [h1, show wrN l 13 = false from h2]; rfl
      walk_at "rd"
      exact ⟨szl8 (by omega), fun m hm => ⟨szl8 (by omega), szl8 (by omega), fun x => ⟨Nat.le_of_ble_eq_true rfl, k2 hf H2 (sm1.trans sm2)⟩⟩⟩
    · have hw := h2
      unfold wrN at hw
      rw [Bool.and_eq_true, Bool.and_eq_true, Bool.and_eq_true, decide_eq_true_eq, decide_eq_true_eq] at hw
      obtain ⟨⟨⟨a1, a2⟩, a3⟩, _⟩ := hw
      have hit : PySem.intText? (S l) = some ((valD l : Nat) : Int) := by
        have hc : (S l).cps.toList = l := by simp [S]
        have := PySem.intText_digits (x := S l) (by rw [hc]; exact isD_in a3) (by rw [hc]; intro z; rw [z] at a1; simp at a1) (by rw [S_len]; omega)
        rw [hc] at this
        exact this
      have hl640 : (S l).length ≤ 640 := by rw [S_len]; omega
      have hf : leafB l = decide (valD l ≤ 1000000000000) := by unfold leafB; rw [h1, show wrN l 13 = true from h2]; rfl
      walk_at "rd"
      refine ⟨_, _, rfl, hit, hl640, ?_⟩
      walk_at "rd"
      refine iteD (fun h => ?_) (fun h => ?_)
      · walk_at "rd"
        refine ⟨_, _, rfl, hit, hl640, ?_⟩
        walk_at "rd"
        intro p H3 n3
        exact k1 (hf.trans (decide_eq_true (by omega))) _ H3 ((sm1.trans sm2).new n3)
      · walk_at "rd"
        exact fun m hm => ⟨szl8 (by omega), szl8 (by omega), fun x => ⟨Nat.le_of_ble_eq_true rfl, k2 (hf.trans (decide_eq_false (by omega))) H2 (sm1.trans sm2)⟩⟩
  · have hf : leafB l = true := by unfold leafB; rw [h1]; rfl
    walk_at "rd"
    intro p H2 n2
    exact k1 hf _ H2 (sm1.new n2)

/-! loops with an opaque rest -/
theorem for_listQ {K : PySem.W.Frag} {a : Addr} {xs : List V} {g : TG} {tb : TS} {D : Ends} {σ : St} {H : Hp} (Pv : Nat → St → Hp → Prop) (h0 : Pv 0 σ H) (hl : ∀ i σ H, i ≤ xs.length → Pv i σ H → SqL K H a xs)
    (hs : ∀ (nx : St → Hp → Prop) (rt : VK) (bk : St → Hp → Prop) i x σ H, (∀ σ' H', Pv (i + 1) σ' H' → nx σ' H') → xs[i]? = some x → Pv i σ H → g x σ H fun σ2 H2 => tb ⟨nx, rt, bk, nx⟩ σ2 H2) (hd : ∀ σ H, Pv xs.length σ H → D.nx σ H) :
    ∃ W : Nat → Nat → St → Hp → Prop, (∃ m, W 0 m σ H) ∧ ∀ i m σ H, W i m σ H →
      ((Itl K a).stop i H ∧ D.nx σ H) ∨ ((Itl K a).go i H ∧ ∃ N : St → Hp → Prop, (∀ σ' H', N σ' H' → ∃ m', m' < m ∧ W (i + 1) m' σ' H') ∧ ∀ x H', (Itl K a).yld i H x H' → g x σ H' fun σ2 H2 => tb { D with nx := N, ct := N, bk := D.nx } σ2 H2) :=
  for_list Pv h0 hl (fun i x σ H e p => hs _ _ _ i x σ H (fun _ _ h => h) e p) hd
theorem for_rangeQ {lo : Int} {n : Nat} {g : TG} {tb : TS} {D : Ends} {σ : St} {H : Hp} (Pv : Nat → St → Hp → Prop) (h0 : Pv 0 σ H)
    (hs : ∀ (nx : St → Hp → Prop) (rt : VK) (bk : St → Hp → Prop) i σ H, (∀ σ' H', Pv (i + 1) σ' H' → nx σ' H') → i < n → Pv i σ H → g (.int (lo + i)) σ H fun σ2 H2 => tb ⟨nx, rt, bk, nx⟩ σ2 H2) (hd : ∀ σ H, Pv n σ H → D.nx σ H) :
    ∃ W : Nat → Nat → St → Hp → Prop, (∃ m, W 0 m σ H) ∧ ∀ i m σ H, W i m σ H →
      ((Itr lo n).stop i H ∧ D.nx σ H) ∨ ((Itr lo n).go i H ∧ ∃ N : St → Hp → Prop, (∀ σ' H', N σ' H' → ∃ m', m' < m ∧ W (i + 1) m' σ' H') ∧ ∀ x H', (Itr lo n).yld i H x H' → g x σ H' fun σ2 H2 => tb { D with nx := N, ct := N, bk := D.nx } σ2 H2) :=
  for_range Pv h0 (fun i σ H hi p => hs _ _ _ i σ H (fun _ _ h => h) hi p) hd
theorem for_YQ {σ : St} {H : Hp} {J : It} {n : Nat} {P : Nat → V → Hp → Prop} {H0 : Hp} {g : TG} {tb : TS} {D : Ends} (hy : Yields J n P H0) (Pv : Nat → St → Hp → Prop) (h0 : Pv 0 σ H) (hsm : ∀ i σ H, Pv i σ H → Same H0 H)
    (hs : ∀ (nx : St → Hp → Prop) (rt : VK) (bk : St → Hp → Prop) i x σ H H', (∀ σ' H', Pv (i + 1) σ' H' → nx σ' H') → i < n → Pv i σ H → Same H H' → P i x H' → g x σ H' fun σ2 H2 => tb ⟨nx, rt, bk, nx⟩ σ2 H2) (hd : ∀ σ H, Pv n σ H → D.nx σ H) :
    ∃ W : Nat → Nat → St → Hp → Prop, (∃ m, W 0 m σ H) ∧ ∀ i m σ H, W i m σ H →
      (J.stop i H ∧ D.nx σ H) ∨ (J.go i H ∧ ∃ N : St → Hp → Prop, (∀ σ' H', N σ' H' → ∃ m', m' < m ∧ W (i + 1) m' σ' H') ∧ ∀ x H', J.yld i H x H' → g x σ H' fun σ2 H2 => tb { D with nx := N, ct := N, bk := D.nx } σ2 H2) :=
  for_Y hy Pv h0 hsm (fun i x σ H H' hi p s px => hs _ _ _ i x σ H H' (fun _ _ h => h) hi p s px) hd

/-- none, or an object -/
def NR (v : V) : Prop := v = .non ∨ ∃ p, v = .ref p
def osF (vt vk vp : V) (n : Nat) : List (Str × V) := [("total", vt), ("kind", vk), ("product", vp), ("turns", .int (n : Int))]
/-- an open sum: only what is none, and how often it has turned -/
def OsV (C : Addr) (H : Hp) (x : Addr) (n : Nat) : Prop := ∃ dx vt vk vp m, H x = some (.ins C dx (osF vt vk vp m)) ∧ NR vt ∧ NR vp ∧ m ≤ n
theorem OsV.same {C : Addr} {H H' : Hp} {x : Addr} {n : Nat} (h : OsV C H x n) (sm : Same H H') : OsV C H' x n := let ⟨dx, vt, vk, vp, m, h1, h2⟩ := h; ⟨dx, vt, vk, vp, m, sm.old h1, h2⟩
theorem OsV.more {C : Addr} {H : Hp} {x : Addr} {n m : Nat} (h : OsV C H x n) (hm : n ≤ m) : OsV C H x m := let ⟨dx, vt, vk, vp, m, h1, h2, h3, h4⟩ := h; ⟨dx, vt, vk, vp, m, h1, h2, h3, Nat.le_trans h4 hm⟩
theorem OsV.there {C : Addr} {H : Hp} {x : Addr} {n : Nat} (h : OsV C H x n) : ∃ dx fs, H x = some (.ins C dx fs) := let ⟨dx, vt, vk, vp, m, h1, _⟩ := h; ⟨dx, _, h1⟩
def Bt0 (x : Addr) (H H' : Hp) : Prop := ∀ b o, b ≠ x → H b = some o → H' b = some o
def sp_os_init (C : Addr) : Sp := fun vs H Q _ => ∃ x dx, vs = [.ref x] ∧ H x = some (.ins C dx []) ∧ ∀ H', Bt0 x H H' → OsV C H' x 0 → Q .non H'
theorem ok_OpenSum_init (T : Txt w K mg t) : FnOk P w K mg base CX0 1 t.f_OpenSum_init t.d_OpenSum_init ["self"] (sp_os_init t.C_OpenSum) := by
  refine T.F_OpenSum_init.ok sc_OpenSum_init (fun vs H Q E h => ?_) (fun cdv A outer s H vs Q E hr h => ?_)
  · obtain ⟨_, _, rfl, _⟩ := h
    rfl
  obtain ⟨x, dx, rfl, hx, k⟩ := h
  refine ⟨_, (pss_cons (ps_fldK (K := K) rfl (pv 0) pe_non rfl)
        (pss_cons (ps_fldK (K := K) rfl (pv 0) pe_non rfl)
        (pss_cons (ps_fldK (K := K) rfl (pv 0) pe_non rfl)
        (pss_one (ps_fldK (K := K) rfl (pv 0) pe_int rfl))))), ?_⟩
  have cl := T.cl_OpenSum
  have n1 := T.n_OpenSum_total
  have n2 := T.n_OpenSum_kind
  have n3 := T.n_OpenSum_product
  have n4 := T.n_OpenSum_turns
  walk_at "rd"
  intro H1 c1
  walk_at "rd"
  intro H2 c2
  walk_at "rd"
  intro H3 c3
  walk_at "rd"
  intro H4 c4
  walk_at "rd"
  exact k H4 (fun b o hb e => c4.old hb (c3.old hb (c2.old hb (c1.old hb e)))) ⟨dx, _, _, _, 0, c4.at, .inl rfl, .inl rfl, Nat.le_refl _⟩
def sp_os_turn (C : Addr) : Sp := fun vs H Q _ => ∃ x n, vs = [.ref x] ∧ OsV C H x n ∧ ∀ H', Bt0 x H H' → OsV C H' x (n + 1) → Q .non H'
theorem ok_OpenSum_turn (T : Txt w K mg t) : FnOk P w K mg base CX0 1 t.f_OpenSum_turn t.d_OpenSum_turn ["self"] (sp_os_turn t.C_OpenSum) := by
  refine T.F_OpenSum_turn.ok sc_OpenSum_turn (fun vs H Q E h => ?_) (fun cdv A outer s H vs Q E hr h => ?_)
  · obtain ⟨_, _, rfl, _⟩ := h
    rfl
  obtain ⟨x, n, rfl, hO, k⟩ := h
  refine ⟨_, (pss_one (ps_fldK (K := K) rfl (pv 0) (pe_op op_add (pe_fldK (K := K) rfl (pv 0) rfl) pe_int) rfl)), ?_⟩
  have cl := T.cl_OpenSum
  have n4 := T.n_OpenSum_turns
  obtain ⟨dx, vt, vk, vp, m, hx, ht, hp, hm⟩ := hO
  walk_at "rd"
  intro H1 c1
  walk_at "rd"
  exact k H1 (fun b o hb e => c1.old hb e) ⟨dx, vt, vk, vp, m + 1, c1.at, ht, hp, by omega⟩
def sp_os_whole (C : Addr) : Sp := fun vs H Q _ => ∃ x n, vs = [.ref x] ∧ OsV C H x n ∧ ∀ v H', Same H H' → NR v → Q v H'
theorem ok_OpenSum_whole (T : Txt w K mg t) : FnOk P w K mg base CX0 1 t.f_OpenSum_whole t.d_OpenSum_whole ["self"] (sp_os_whole t.C_OpenSum) := by
  refine T.F_OpenSum_whole.ok sc_OpenSum_whole (fun vs H Q E h => ?_) (fun cdv A outer s H vs Q E hr h => ?_)
  · obtain ⟨_, _, rfl, _⟩ := h
    rfl
  obtain ⟨x, n, rfl, hO, k⟩ := h
  refine ⟨_, (pss_one (ps_ret (pe_cut (pe_ifExp (pt_cmpR op_isN (pe_fldK (K := K) rfl (pv 0) rfl) pe_non (nomark _)) (pe_fldK (K := K) rfl (pv 0) rfl) (pe_tupN (pa_cons (pe_fldK (K := K) rfl (pv 0) rfl) (pa_cons (pe_fldK (K := K) rfl (pv 0) rfl) (pa_cons (pe_fldK (K := K) rfl (pv 0) rfl) pa_nil)))))))), ?_⟩
  have cl := T.cl_OpenSum
  have n1 := T.n_OpenSum_total
  have n2 := T.n_OpenSum_kind
  have n3 := T.n_OpenSum_product
  obtain ⟨dx, vt, vk, vp, m, hx, ht, hp, hm⟩ := hO
  rcases ht with rfl | ⟨pa, rfl⟩
  · walk_at "rd"
    refine cutE (fun v H' => H' = H ∧ v = vp) ?_ ?_
    · walk_at "rd"
    · rintro v H' ⟨rfl, rfl⟩
      exact k _ _ (Same.refl _) hp
  · walk_at "rd"
    refine cutE (fun v H' => Same H H' ∧ NR v) ?_ ?_
    · walk_at "rd"
      refine ⟨x, _, dx, _, _, rfl, hx, cl, n2, rfl, ?_⟩
      walk_at "rd"
      intro q H1 n5
      exact ⟨n5.same, .inr ⟨_, rfl⟩⟩
    · rintro v H' ⟨sm, hv⟩
      exact k _ _ sm hv
def sp_os_take (C : Addr) : Sp := fun vs H Q _ => ∃ x v n, vs = [.ref x, v] ∧ OsV C H x n ∧ NR v ∧ n ≤ 100000 ∧ ∀ H', Bt0 x H H' → OsV C H' x n → Q .non H'
theorem ok_OpenSum_take_piece (T : Txt w K mg t) : FnOk P w K mg base CX0 1 t.f_OpenSum_take_piece t.d_OpenSum_take_piece ["self", "piece"] (sp_os_take t.C_OpenSum) := by
  refine T.F_OpenSum_take_piece.ok sc_OpenSum_take_piece (fun vs H Q E h => ?_) (fun cdv A outer s H vs Q E hr h => ?_)
  · obtain ⟨_, _, _, rfl, _⟩ := h
    rfl
  obtain ⟨x, v, n, rfl, hO, hv, htn, k⟩ := h
  refine ⟨_, (pss_cons (ps_for PassesOwn.never rfl (pi_range1 rfl T.nb_range (pa_cons (pe_fldK (K := K) rfl (pv 0) rfl) pa_nil)) (pg_name (i := 2) sc_OpenSum_take_piece.nd rfl (Or.inl rfl)) (pss_one (ps_set (i := 1) sc_OpenSum_take_piece.nd rfl (Or.inl rfl) (pe_tupN (pa_cons pe_str (pa_cons (pv 1) pa_nil))))))
        (pss_cons (ps_fldK (K := K) rfl (pv 0) pe_int rfl)
        (pss_one (ps_fldK (K := K) rfl (pv 0) (pe_cut (pe_ifExp (pt_cmpR op_isN (pe_fldK (K := K) rfl (pv 0) rfl) pe_non (nomark _)) (pv 1) (pe_tupN (pa_cons pe_str (pa_cons (pe_fldK (K := K) rfl (pv 0) rfl) (pa_cons (pv 1) pa_nil)))))) rfl)))), ?_⟩
  have cl := T.cl_OpenSum
  have n3 := T.n_OpenSum_product
  have n4 := T.n_OpenSum_turns
  obtain ⟨dx, vt, vk, vp, turns, hx, ht, hp, hm⟩ := hO
  walk_at "rd"
  rw [Int.toNat_natCast]
  refine for_rangeQ (lo := 0) (n := turns) (fun i σ H1 => ∃ v u2, σ = [some (.ref x), some v, u2] ∧ Same H H1 ∧ NR v) ⟨v, _, rfl, Same.refl _, hv⟩ ?_ ?_
  · rintro nx0 rt0 bk0 i σ H1 hnx0 hi ⟨v1, u2, rfl, sm1, hv1⟩
    walk_at "rd"
    intro q H2 n2
    exact hnx0 _ _ ⟨.ref q, _, rfl, sm1.new n2, .inr ⟨_, rfl⟩⟩
  rintro σ H1 ⟨v1, u2, rfl, sm1, hv1⟩
  have hx1 := sm1.old hx
  walk_at "rd"
  intro H2 c2
  have hx2 : H2 x = some (.ins t.C_OpenSum dx (osF vt vk vp 0)) := c2.at
  have hb2 : Bt0 x H1 H2 := fun b o hb e => c2.old hb e
  clear c2 hx1
  walk_at "rd"
  refine cutE (fun v' H' => Same H2 H' ∧ NR v') ?_ ?_
  · rcases hp with rfl | ⟨pp, rfl⟩
    · walk_at "rd"
      first | exact hv1 | exact ⟨Same.refl _, hv1⟩
    · walk_at "rd"
      refine ⟨x, _, dx, _, _, rfl, hx2, cl, n3, rfl, ?_⟩
      walk_at "rd"
      intro q H5 n5
      exact ⟨n5.same, .inr ⟨_, rfl⟩⟩
  rintro v' H3 ⟨sm3, hv3⟩
  have hx3 := sm3.old hx2
  walk_at "rd"
  intro H4 c4
  walk_at "rd"
  exact k H4 (fun b u hb e => c4.old hb (sm3.old (hb2 b u hb (sm1.old e)))) ⟨dx, vt, vk, v', 0, c4.at, ht, hv3, Nat.zero_le _⟩
def sp_os_end (C : Addr) : Sp := fun vs H Q _ => ∃ x n, ∃ o : Str, vs = [.ref x, .str o] ∧ OsV C H x n ∧ ∀ H', Bt0 x H H' → OsV C H' x n → Q .non H'
theorem ok_OpenSum_end_product (T : Txt w K mg t) : FnOk P w K mg base CX0 2 t.f_OpenSum_end_product t.d_OpenSum_end_product ["self", "kind"] (sp_os_end t.C_OpenSum) := by
  refine T.F_OpenSum_end_product.ok sc_OpenSum_end_product (fun vs H Q E h => ?_) (fun cdv A outer s H vs Q E hr h => ?_)
  · obtain ⟨_, _, _, rfl, _⟩ := h
    rfl
  obtain ⟨x, n, o, rfl, hO, k⟩ := h
  refine ⟨_, (pss_cons (ps_fldK (K := K) rfl (pv 0) (pe_meth0 (pv 0) T.cl_OpenSum T.M_OpenSum_whole (ok_OpenSum_whole T) (hr.mono (by decide)) T.b_OpenSum_whole .nil pass0) rfl)
        (pss_cons (ps_fldK (K := K) rfl (pv 0) (pv 1) rfl)
        (pss_one (ps_fldK (K := K) rfl (pv 0) pe_non rfl)))), ?_⟩
  have cl := T.cl_OpenSum
  have n1 := T.n_OpenSum_total
  have n2 := T.n_OpenSum_kind
  have n3 := T.n_OpenSum_product
  obtain ⟨dx, vt, vk, vp, m, hx, ht, hp, hm⟩ := hO
  walk_at "rd"
  refine ⟨x, n, rfl, ⟨dx, vt, vk, vp, m, hx, ht, hp, hm⟩, fun v1 H1 sm1 hv1 => ?_⟩
  have hx1 := sm1.old hx
  walk_at "rd"
  intro H2 c2
  have hx2 : H2 x = some (.ins t.C_OpenSum dx (osF v1 vk vp m)) := c2.at
  walk_at "rd"
  intro H3 c3
  have hx3 : H3 x = some (.ins t.C_OpenSum dx (osF v1 (.str o) vp m)) := c3.at
  walk_at "rd"
  intro H4 c4
  walk_at "rd"
  exact k H4 (fun b u hb e => c4.old hb (c3.old hb (c2.old hb (sm1.old e)))) ⟨dx, v1, .str o, .non, m, c4.at, hv1, .inl rfl, hm⟩

structure AO (C : Addr) (H : Hp) (ls : Addr) (n : Nat) (xs : List Addr) : Prop where
  hl : H ls = some (.lst (xs.map V.ref))
  os : ∀ x ∈ xs, OsV C H x n
def Fr2 (ls : Addr) (xs : List Addr) (H H' : Hp) : Prop := ∀ b o, b ≠ ls → b ∉ xs → H b = some o → H' b = some o
theorem AO.same {C ls : Addr} {H H' : Hp} {n : Nat} {xs : List Addr} (A : AO C H ls n xs) (s : Same H H') : AO C H' ls n xs := ⟨s.old A.hl, fun x hx => (A.os x hx).same s⟩
/-- one of them has changed -/
theorem AO.one {C ls x : Addr} {H H' : Hp} {n m : Nat} {xs : List Addr} (A : AO C H ls n xs) (hx : x ∈ xs) (b : Bt0 x H H') (h : OsV C H' x m) (hnm : n ≤ m) : AO C H' ls m xs ∧ Fr2 ls xs H H' := by
  obtain ⟨dx, fs, ex⟩ := (A.os x hx).there
  have nls : ls ≠ x := ne_of A.hl ex (by intro z; cases z)
  refine ⟨⟨b ls _ nls A.hl, fun y hy => ?_⟩, fun c o _ h2 e => b c o (fun z => h2 (z ▸ hx)) e⟩
  by_cases hyx : y = x
  · rw [hyx]; exact h
  · obtain ⟨dy, vt, vk, vp, k, h1, h2, h3, h4⟩ := A.os y hy
    exact ⟨dy, vt, vk, vp, k, b _ _ hyx h1, h2, h3, Nat.le_trans h4 hnm⟩
def NewOr (H : Hp) (xs xs' : List Addr) : Prop := ∀ q ∈ xs', q ∈ xs ∨ H q = none
theorem NewOr.refl {H : Hp} {xs : List Addr} : NewOr H xs xs := fun _ h => .inl h
theorem ref_last {xs : List Addr} {x : Addr} : atI ((xs ++ [x]).map V.ref) (-1) = some (.ref x) := by
  rw [List.map_append]
  exact atI_last _ _
theorem Sm : (Str.ofString "-") = S [45] := by decide +kernel
theorem Sb : (Str.ofString "(") = S [40] := by decide +kernel
theorem Sst : (Str.ofString "*") = S [42] := by decide +kernel
theorem Scl : (Str.ofString ")") = S [41] := by decide +kernel
theorem Spl : (Str.ofString "+") = S [43] := by decide +kernel
theorem S_eq {l k : List Nat} {x : Str} (hx : x = S k) : decide (V.str (S l) = V.str x) = decide (l = k) := by
  subst hx
  by_cases h : l = k
  · rw [decide_eq_true h, h]; simp
  · rw [decide_eq_false h]
    refine decide_eq_false fun z => h ?_
    have z : S l = S k := by injection z
    exact S_inj z
def sp_begin (C CF : Addr) : Sp := fun vs H Q E => ∃ ls n, ∃ xs : List Addr, ∃ x : Addr, ∃ l : List Nat, vs = [.ref ls, .str (S l)] ∧ AO C H ls n (xs ++ [x]) ∧ n ≤ 10000 ∧ xs.length ≤ 10000 ∧ l.length ≤ 10000 ∧ asc l ∧
  (∀ d aw, step xs.length true l = some (d, aw) → ∀ H' xs', Fr2 ls (xs ++ [x]) H H' → AO C H' ls (n + 1) xs' → xs'.length = d + 1 → NewOr H (xs ++ [x]) xs' → Q (.bl aw) H') ∧ (step xs.length true l = none → ∀ H', Same H H' → E (.ref CF) none H')
theorem ok_begin_piece (T : Txt w K mg t) : FnOk P w K mg base (CX1 P w) 4 t.f_begin_piece t.d_begin_piece ["sums", "word"] (sp_begin t.C_OpenSum t.C_NoFormula) := by
  refine T.F_begin_piece.ok1 sc_begin_piece (fun vs H Q E h => ?_) (fun cdv A outer s H vs Q E hr h => ?_)
  · obtain ⟨_, _, _, _, _, rfl, _⟩ := h
    rfl
  obtain ⟨ls, n, xs, x, l, rfl, A, hn, hpl, hll, hasc, k1, k2⟩ := h
  refine ⟨_, (pss_cons (ps_if (pt_cmpR op_eq (pv 1) pe_str (nomark _)) (pss_cons (ps_expr (pe_meth0 (pe_ix (ix_listK (K := K) rfl) (pv 0) (pe_un un_neg pe_int) (fun _ _ => rfl)) T.cl_OpenSum T.M_OpenSum_turn (ok_OpenSum_turn T) (hr.mono (by decide)) T.b_OpenSum_turn .nil pass0))
        (pss_one (ps_ret pe_bl))) pss_nil)
        (pss_cons (ps_if (pt_cmpR op_eq (pv 1) pe_str (nomark _)) (pss_cons (ps_expr (pe_bmK (K := K) rfl PySem.F.plainAttrs_list PySem.F.slot_list_append PySem.F.type_list_append mt_appendN (pv 0) (pa_cons (pe_make0N T.K_OpenSum (ok_OpenSum_init T) (hr.mono (by decide)) rfl T.mC_OpenSum T.b_OpenSum_init .nil pass0) pa_nil)))
        (pss_one (ps_ret pe_bl))) pss_nil)
        (pss_cons (ps_expr (pe_meth (pe_ix (ix_listK (K := K) rfl) (pv 0) (pe_un un_neg pe_int) (fun _ _ => rfl)) T.cl_OpenSum T.M_OpenSum_take_piece (ok_OpenSum_take_piece T) (hr.mono (by decide)) T.b_OpenSum_take_piece .nil pass0 (pa_cons (pe_call (ok_leaf_of T) (hr.mono (by decide)) rfl T.m_leaf_of T.F_leaf_of.kp T.b_leaf_of .nil (passes1 fun _ _ _ h => h) (pa_cons (pv 1) pa_nil)) pa_nil)))
        (pss_one (ps_ret pe_bl))))), ?_⟩
  have hO := A.os x (by simp)
  obtain ⟨dx, vt, vk, vp, m0, hx, _⟩ := id hO
  have hl := A.hl
  have hxm : x ∈ xs ++ [x] := by simp
  have hlx : (xs ++ [x]).length = xs.length + 1 := by simp
  unfold step at k1 k2
  rw [if_pos rfl] at k1 k2
  walk_at "rd"
  rw [S_eq Sm]
  by_cases h1 : l = [45]
  · rw [decide_eq_true h1]
    rw [if_pos h1] at k1
    walk_at "rd"
    refine q_ixL (SqL.of hl) ref_last ?_
    walk_at "rd"
    refine ⟨x, n, rfl, hO, fun H1 b1 h1 => ?_⟩
    obtain ⟨A1, f1⟩ := A.one hxm b1 h1 (by omega)
    walk_at "rd"
    exact k1 _ _ rfl H1 _ f1 A1 hlx .refl
  · rw [decide_eq_false h1]
    rw [if_neg h1] at k1 k2
    walk_at "rd"
    rw [S_eq Sb]
    by_cases h2 : l = [40]
    · rw [decide_eq_true h2]
      rw [if_pos h2] at k1
      walk_at "rd"
      intro x2 dx2 H1 n1
      walk_at "rd"
      refine ⟨x2, dx2, rfl, n1.at, fun H2 b2 e2 => ?_⟩
      have nls : ls ≠ x2 := ne_of_none hl n1.fx
      have hl2 : H2 ls = some (.lst ((xs ++ [x]).map V.ref)) := b2 ls _ nls (n1.old hl)
      have hlen : ((xs ++ [x]).map V.ref).length ≤ 10001 := by simp; omega
      refine ⟨rfl, ?_⟩
      walk_at "rd"
      intro H3 c3
      walk_at "rd"
      have fr : ∀ b o, b ≠ ls → H b = some o → H3 b = some o := fun b o hb e => c3.old hb (b2 b o (ne_of_none e n1.fx) (n1.old e))
      refine k1 _ _ rfl H3 (xs ++ [x] ++ [x2]) (fun b o hb _ e => fr b o hb e) ⟨by rw [c3.at]; simp, fun q hq => ?_⟩ (by simp) fun q hq => ?_
      · rcases List.mem_append.mp hq with z | z
        · obtain ⟨dy, vt, vk, vp, k, g1, g2, g3, g4⟩ := A.os q z
          exact ⟨dy, vt, vk, vp, k, fr _ _ (ne_of g1 hl (by intro z; cases z)) g1, g2, g3, by omega⟩
        · rw [List.mem_singleton.mp z]
          obtain ⟨dy, vt, vk, vp, k, g1, g2, g3, g4⟩ := e2
          exact ⟨dy, vt, vk, vp, k, c3.old nls.symm g1, g2, g3, by omega⟩
      · rcases List.mem_append.mp hq with z | z
        · exact .inl z
        · rw [List.mem_singleton.mp z]; exact .inr n1.fx
    · rw [decide_eq_false h2]
      rw [if_neg h2] at k1 k2
      walk_at "rd"
      refine q_ixL (SqL.of hl) ref_last ?_
      walk_at "rd"
      refine ⟨fun hf p H1 sm1 => ?_, fun hf H1 sm1 => ?_⟩
      · rw [if_pos hf] at k1
        walk_at "rd"
        refine ⟨x, .ref p, n, rfl, hO.same sm1, .inr ⟨_, rfl⟩, by omega, fun H2 b2 h2 => ?_⟩
        obtain ⟨A2, f2⟩ := (A.same sm1).one hxm b2 (h2.more (Nat.le_succ n)) (Nat.le_succ n)
        walk_at "rd"
        exact k1 _ _ rfl H2 _ (fun b o h1 h2 e => f2 b o h1 h2 (sm1.old e)) A2 hlx .refl
      · rw [if_neg (by rw [hf]; simp)] at k2
        exact k2 rfl H1 sm1
theorem opL {l : List Nat} : ([(Str.ofString "+", Str.ofString "plus"), (Str.ofString "-", Str.ofString "less")] : List (Str × Str)).lookup (S l) = if l = [43] then some (Str.ofString "plus") else if l = [45] then some (Str.ofString "less") else none := by
  rw [List.lookup_cons, Spl]
  by_cases h1 : l = [43]
  · subst h1; simp
  · have e1 : (S l == S [43]) = false := by simpa using fun z => h1 (S_inj z)
    rw [e1, if_neg h1, List.lookup_cons, Sm]
    by_cases h2 : l = [45]
    · subst h2; simp
    · have e2 : (S l == S [45]) = false := by simpa using fun z => h2 (S_inj z)
      rw [e2, if_neg h2]; rfl
def sp_end (C CF : Addr) : Sp := fun vs H Q E => ∃ ls n, ∃ xs : List Addr, ∃ x : Addr, ∃ l : List Nat, vs = [.ref ls, .str (S l)] ∧ AO C H ls n (xs ++ [x]) ∧ n ≤ 10000 ∧ xs.length ≤ 10000 ∧ l.length ≤ 10000 ∧ asc l ∧
  (∀ d aw, step xs.length false l = some (d, aw) → ∀ H' xs', Fr2 ls (xs ++ [x]) H H' → AO C H' ls (n + 1) xs' → xs'.length = d + 1 → NewOr H (xs ++ [x]) xs' → Q (.bl aw) H') ∧ (step xs.length false l = none → ∀ H', Same H H' → E (.ref CF) none H')
theorem ok_end_piece (T : Txt w K mg t) : FnOk P w K mg base (CX1 P w) 3 t.f_end_piece t.d_end_piece ["sums", "word"] (sp_end t.C_OpenSum t.C_NoFormula) := by
  refine T.F_end_piece.ok1 sc_end_piece (fun vs H Q E h => ?_) (fun cdv A outer s H vs Q E hr h => ?_)
  · obtain ⟨_, _, _, _, _, rfl, _⟩ := h
    rfl
  obtain ⟨ls, n, xs, x, l, rfl, A, hn, hpl, hll, hasc, k1, k2⟩ := h
  refine ⟨_, (pss_cons (ps_if (pt_cmpR op_eq (pv 1) pe_str (nomark _)) (pss_one (ps_ret pe_bl)) pss_nil)
        (pss_cons (ps_if (pt_cmp (pc_gin T.gd_SUM_KINDS (by rfl) (pv 1))) (pss_cons (ps_expr (pe_meth (pe_ix (ix_listK (K := K) rfl) (pv 0) (pe_un un_neg pe_int) (fun _ _ => rfl)) T.cl_OpenSum T.M_OpenSum_end_product (ok_OpenSum_end_product T) (hr.mono (by decide)) T.b_OpenSum_end_product .nil pass0 (pa_cons (pe_gget T.gd_SUM_KINDS (by rfl) (pv 1) (fun _ _ => rfl)) pa_nil)))
        (pss_one (ps_ret pe_bl))) pss_nil)
        (pss_cons (ps_if (PW.pt (pw_and (pt_cmpR op_eq (pv 1) pe_str (nomark _)) (pw_and1 (pt_cmpR op_gt (pe_callB (call_lenK (K := K) rfl) (by rfl) T.nb_len bt_len (pa_cons (pv 0) pa_nil)) pe_int (nomark _))))) (pss_cons (ps_set (i := 2) sc_end_piece.nd rfl (Or.inl rfl) (pe_bm0K (K := K) rfl PySem.F.plainAttrs_list PySem.F.slot_list_pop PySem.F.type_list_pop mt_popN (pv 0)))
        (pss_cons (ps_expr (pe_meth (pe_ix (ix_listK (K := K) rfl) (pv 0) (pe_un un_neg pe_int) (fun _ _ => rfl)) T.cl_OpenSum T.M_OpenSum_take_piece (ok_OpenSum_take_piece T) (hr.mono (by decide)) T.b_OpenSum_take_piece .nil pass0 (pa_cons (pe_meth0 (pv 2) T.cl_OpenSum T.M_OpenSum_whole (ok_OpenSum_whole T) (hr.mono (by decide)) T.b_OpenSum_whole .nil pass0) pa_nil)))
        (pss_one (ps_ret pe_bl)))) pss_nil)
        (pss_one (ps_raise (E := E) leaves1 rfl (by rfl) T.mC_NoFormula T.x_NoFormula (pa_cons (pe_fstr (pj_repr (pv 1) (pj_str pj_nil))) pa_nil)))))), ?_⟩
  have hO := A.os x (by simp)
  obtain ⟨dx, vt, vk, vp, m0, hx, _⟩ := id hO
  have hl := A.hl
  have hxm : x ∈ xs ++ [x] := by simp
  have hlx : (xs ++ [x]).length = xs.length + 1 := by simp
  have h16 := asc16 hasc
  have hz2 : (S l).length = l.length := S_len l
  have e22 : (Str.ofString " stands behind a piece").length = 22 := by decide +kernel
  unfold step at k1 k2
  rw [if_neg (by simp)] at k1 k2
  walk_at "rd"
  rw [S_eq Sst]
  by_cases h1 : l = [42]
  · rw [decide_eq_true h1]
    rw [if_pos h1] at k1
    walk_at "rd"
    exact k1 _ _ rfl H (xs ++ [x]) (fun b o _ _ e => e) ⟨A.hl, fun q hq => (A.os q hq).more (Nat.le_succ n)⟩ hlx .refl
  · rw [decide_eq_false h1]
    rw [if_neg h1] at k1 k2
    walk_at "rd"
    rw [opL]
    by_cases ho : l = [43] ∨ l = [45]
    · obtain ⟨o, hlk⟩ : ∃ o, ([(Str.ofString "+", Str.ofString "plus"), (Str.ofString "-", Str.ofString "less")] : List (Str × Str)).lookup (S l) = some o := by
        rw [opL]
        rcases ho with h | h <;> rw [h]
        · exact ⟨_, rfl⟩
        · exact ⟨_, rfl⟩
      have k3 : ∀ H' xs', Fr2 ls (xs ++ [x]) H H' → AO t.C_OpenSum H' ls (n + 1) xs' → xs'.length = xs.length + 1 → NewOr H (xs ++ [x]) xs' → Q (.bl true) H' := by
        rcases ho with h | h
        · rw [if_pos h] at k1
          exact k1 _ _ rfl
        · rw [if_neg (by rw [h]; decide), if_pos h] at k1
          exact k1 _ _ rfl
      rw [← opL, hlk]
      refine iteT ?_
      walk_at "rd"
      refine q_ixL (SqL.of hl) ref_last ?_
      walk_at "rd"
      refine ⟨_, _, rfl, hlk, ?_⟩
      walk_at "rd"
      refine ⟨x, n, o, rfl, hO, fun H1 b1 h1 => ?_⟩
      obtain ⟨A1, f1⟩ := A.one hxm b1 (h1.more (Nat.le_succ n)) (Nat.le_succ n)
      walk_at "rd"
      exact k3 H1 _ f1 A1 hlx .refl
    · have ho1 : l ≠ [43] := fun z => ho (.inl z)
      have ho2 : l ≠ [45] := fun z => ho (.inr z)
      rw [if_neg ho1, if_neg ho2] at k1 k2
      rw [if_neg ho1, if_neg ho2]
      refine iteF ?_
      walk_at "rd"
      rw [S_eq Scl]
      by_cases h3 : l = [41]
      · rw [decide_eq_true h3]
        rw [if_pos h3] at k1 k2
        rcases List.eq_nil_or_concat xs with hxs | ⟨ys, y, hxs⟩
        · subst hxs
          have hl0 : H ls = some (.lst [V.ref x]) := hl
          walk_at "rd"
          exact fun m hm => ⟨szl8 (by omega), szl8 (by omega), fun x => ⟨Nat.le_of_ble_eq_true rfl, k2 rfl H (Same.refl _)⟩⟩
        · rw [List.concat_eq_append] at hxs
          subst hxs
          have hln : ((((ys ++ [y]).map V.ref) ++ [V.ref x]).length : Int) = ys.length + 2 := by simp only [List.length_append, List.length_map, List.length_singleton]; omega
          have hl' : H ls = some (.lst (((ys ++ [y]).map V.ref) ++ [V.ref x])) := by rw [hl]; simp
          have k3 := k1 ys.length false (by rw [List.length_append]; rfl)
          clear k1 k2
          walk_at "rd"
          refine q_pop hl' fun H1 c1 => ?_
          have old : ∀ q n, OsV t.C_OpenSum H q n → OsV t.C_OpenSum H1 q n := fun q n hq => by
            obtain ⟨dy, vt, vk, vp, k, g1, g2, g3, g4⟩ := hq
            exact ⟨dy, vt, vk, vp, k, c1.old (ne_of g1 hl (by intro z; cases z)) g1, g2, g3, g4⟩
          have A1 : AO t.C_OpenSum H1 ls n (ys ++ [y]) := ⟨c1.at, fun q hq => old q n (A.os q (List.mem_append.mpr (.inl hq)))⟩
          have hO1 := old x n hO
          obtain ⟨dx1, vt1, vk1, vp1, m1, hx1, _⟩ := id hO1
          have hO3 := A1.os y (by simp)
          obtain ⟨dx3, vt3, vk3, vp3, m3, hx3, _⟩ := id hO3
          walk_at "rd"
          refine q_ixL (SqL.of c1.at) ref_last ?_
          walk_at "rd"
          refine ⟨x, n, rfl, hO1, fun v H2 sm2 hv2 => ?_⟩
          walk_at "rd"
          refine ⟨y, v, n, rfl, hO3.same sm2, hv2, by omega, fun H3 b3 h3 => ?_⟩
          obtain ⟨A3, f3⟩ := (A1.same sm2).one (by simp) b3 (h3.more (Nat.le_succ n)) (Nat.le_succ n)
          walk_at "rd"
          exact k3 H3 _ (fun b o h1 h2 e => f3 b o h1 (fun hq => h2 (List.mem_append.mpr (.inl hq))) (sm2.old (c1.old h1 e))) A3 (by simp) fun q hq => .inl (List.mem_append.mpr (.inl hq))
      · rw [decide_eq_false h3]
        rw [if_neg h3] at k2
        walk_at "rd"
        exact fun m hm => ⟨szl8 (by omega), szl8 (by omega), fun x => ⟨Nat.le_of_ble_eq_true rfl, k2 rfl H (Same.refl _)⟩⟩
theorem tokF_sub : ∀ (n : Nat) (l w : List Nat), w ∈ tokF n l → (∀ c ∈ w, c ∈ l) ∧ w.length ≤ l.length
  | 0, l, w, h => by cases l <;> simp [tokF] at h
  | n + 1, [], w, h => by simp [tokF] at h
  | n + 1, c :: r, w, h => by
    simp only [tokF] at h
    rcases List.mem_cons.mp h with z | z
    · subst z
      have hp := List.takeWhile_prefix (l := r) (tog c)
      refine ⟨fun d hd => ?_, by simp; exact hp.length_le⟩
      rcases List.mem_cons.mp hd with q | q
      · subst q; simp
      · exact List.mem_cons_of_mem _ (hp.subset q)
    · obtain ⟨h1, h2⟩ := tokF_sub n _ w z
      refine ⟨fun d hd => List.mem_cons_of_mem _ (List.mem_of_mem_drop (h1 d hd)), ?_⟩
      rw [List.length_drop] at h2
      simp
      omega
theorem tok_sub {l w : List Nat} (h : w ∈ tok l) : (∀ c ∈ w, c ∈ l) ∧ w.length ≤ l.length := tokF_sub _ _ _ h
theorem tokF_len : ∀ (n : Nat) (l : List Nat), (tokF n l).length ≤ l.length
  | 0, l => by cases l <;> simp [tokF]
  | n + 1, [] => by simp [tokF]
  | n + 1, c :: r => by
    have := tokF_len n (r.drop (r.takeWhile (tog c)).length)
    rw [List.length_drop] at this
    simp only [tokF, List.length_cons]
    omega
theorem step_len {n n' : Nat} {a a' : Bool} {w : List Nat} (h : step n a w = some (n', a')) : n' ≤ n + 1 := by
  have := step_count h
  split at this <;> split at this <;> omega
def sp_read (CF : Addr) : Sp := fun vs H _ E => ∃ l : List Nat, vs = [.str (S l)] ∧ l.length ≤ 9000 ∧ asc l ∧ Ref l ∧ ∀ H', Same H H' → E (.ref CF) none H'
theorem ok_read (T : Txt w K mg t) : FnOk P w K mg base (CX1 P w) 5 t.f_read t.d_read ["text"] (sp_read t.C_NoFormula) := by
  refine T.F_read.ok1 sc_read (fun vs H Q E h => ?_) (fun cdv A outer s H vs Q E hr h => ?_)
  · obtain ⟨_, rfl, _⟩ := h
    rfl
  obtain ⟨l, rfl, hl, hasc, hrun, k⟩ := h
  refine ⟨_, (pss_cons (ps_set (i := 1) sc_read.nd rfl (Or.inl rfl) (pe_lstN (pa_cons (pe_make0N T.K_OpenSum (ok_OpenSum_init T) (hr.mono (by decide)) rfl T.mC_OpenSum T.b_OpenSum_init .nil pass0) pa_nil)))
        (pss_cons (ps_set (i := 2) sc_read.nd rfl (Or.inl rfl) pe_bl)
        (pss_cons (ps_for own1 rfl (pi_listK (K := K) rfl (pe_call (ok_words_of T) (hr.mono (by decide)) rfl T.m_words_of T.F_words_of.kp T.b_words_of .nil pass0 (pa_cons (pv 0) pa_nil))) (pg_name (i := 3) sc_read.nd rfl (Or.inl rfl)) (pss_one (ps_set (i := 2) sc_read.nd rfl (Or.inl rfl) (pe_cut (pe_ifExp (pt_val (pv 2)) (pe_call (ok_begin_piece T) (hr.mono (by decide)) rfl T.m_begin_piece T.F_begin_piece.kp T.b_begin_piece .nil (passes1 fun _ _ _ h => h) (pa_cons (pv 1) (pa_cons (pv 3) pa_nil))) (pe_call (ok_end_piece T) (hr.mono (by decide)) rfl T.m_end_piece T.F_end_piece.kp T.b_end_piece .nil (passes1 fun _ _ _ h => h) (pa_cons (pv 1) (pa_cons (pv 3) pa_nil))))))))
        (pss_cons (ps_if (PW.pt (pw_or (pt_val (pv 2)) (pw_or1 (pt_cmpR op_gt (pe_callB (call_lenK (K := K) rfl) (by rfl) T.nb_len bt_len (pa_cons (pv 1) pa_nil)) pe_int (nomark _))))) (pss_one (ps_raise (E := E) leaves1 rfl (by rfl) T.mC_NoFormula T.x_NoFormula (pa_cons pe_str pa_nil))) pss_nil)
        (pss_one (ps_ret (pe_meth0 (pe_ix (ix_listK (K := K) rfl) (pv 1) pe_int (fun _ _ => rfl)) T.cl_OpenSum T.M_OpenSum_whole (ok_OpenSum_whole T) (hr.mono (by decide)) T.b_OpenSum_whole .nil pass0))))))), ?_⟩
  unfold Ref at hrun
  walk_at "rd"
  intro x dx H1 n1
  walk_at "rd"
  refine ⟨x, dx, rfl, n1.at, fun H2 b2 e2 => ?_⟩
  refine ⟨rfl, ?_⟩
  have sm2 : Same H H2 := fun b o e => b2 b o (ne_of_none e n1.fx) (n1.old e)
  walk_at "rd"
  intro ls H3 n3
  have fls : H ls = none := sm2.free n3.free
  have A3 : AO t.C_OpenSum H3 ls 0 [x] := ⟨n3.at, fun q hq => by
    rw [List.mem_singleton.mp hq]
    exact e2.same n3.same⟩
  have hx3 := A3.os x (by simp)
  obtain ⟨dx0, fs0, ex0⟩ := hx3.there
  walk_at "rd"
  intro lw H4 sm4 f4 e4
  have hlen : (tok l).length ≤ 9000 := Nat.le_trans (tokF_len _ _) hl
  walk_at "rd"
  refine for_listQ (K := K) (a := lw) (xs := (tok l).map fun w => V.str (S w)) (fun i σ H5 => ∃ aw u3, ∃ d : Nat, ∃ xs : List Addr, σ = [some (.str (S l)), some (.ref ls), some (.bl aw), u3] ∧ Same H H5 ∧ H5 lw = some (.lst ((tok l).map fun w => V.str (S w))) ∧ AO t.C_OpenSum H5 ls i xs ∧ (∀ q ∈ xs, H q = none) ∧ (∀ q ∈ xs, q ≠ lw) ∧ xs.length = d + 1 ∧ d ≤ i ∧ run ((tok l).drop i) (d, aw) ≠ some (0, false))
    ⟨true, _, 0, [x], rfl, (sm2.new n3).trans sm4, e4, A3.same sm4, fun q hq => (by rw [List.mem_singleton.mp hq]; exact n1.fx), fun q hq => (by rw [List.mem_singleton.mp hq]; exact ne_of_none ex0 f4), rfl, Nat.le_refl _, hrun⟩
    (fun i σ H5 _ h => (by obtain ⟨_, _, _, _, _, _, e, _⟩ := h; exact SqL.of e)) ?_ ?_
  · rintro nx0 rt0 bk0 i y σ H5 hnx0 hi ⟨aw, u3, d, xs, rfl, sm5, e5, A5, hnew, hnl, hxl, hdi, hr⟩
    rw [List.getElem?_map] at hi
    obtain ⟨w1, ew, rfl⟩ : ∃ w, (tok l)[i]? = some w ∧ V.str (S w) = y := by
      cases h : (tok l)[i]? with
      | none => rw [h] at hi; cases hi
      | some p => rw [h] at hi; cases hi; exact ⟨p, rfl, rfl⟩
    obtain ⟨hwc, hwl⟩ := tok_sub (List.mem_of_getElem? ew)
    have hwa : asc w1 := fun c hc => hasc c (hwc c hc)
    have hlt := (List.getElem?_eq_some_iff.mp ew).1
    rw [List.drop_eq_getElem_cons hlt, (List.getElem?_eq_some_iff.mp ew).2] at hr
    have hrA : (step d aw w1).bind (run ((tok l).drop (i + 1))) ≠ some (0, false) := hr
    clear hr
    obtain ⟨ys, q, rfl⟩ : ∃ ys q, xs = ys ++ [q] := by
      rcases List.eq_nil_or_concat xs with z | ⟨a, b, z⟩
      · subst z; simp at hxl
      · exact ⟨a, b, by simpa using z⟩
    have hyl : ys.length = d := by simp at hxl; exact hxl
    have nlw : lw ≠ ls := fun z => by
      have := sm4.old n3.at
      rw [← z, e4] at this
      have h1 : (tok l).map (fun w => V.str (S w)) = [V.ref x] := by
        have := Option.some.inj this
        injection this
      have := congrArg (fun z => z[0]?) h1
      cases ht : tok l with
      | nil => rw [ht] at this; simp at this
      | cons a b => rw [ht] at this; simp at this
    walk_at "rd"
    refine cutE (fun v H' => ∃ d' aw', v = .bl aw' ∧ step d aw w1 = some (d', aw') ∧ ∃ xs', Fr2 ls (ys ++ [q]) H5 H' ∧ AO t.C_OpenSum H' ls (i + 1) xs' ∧ xs'.length = d' + 1 ∧ NewOr H5 (ys ++ [q]) xs') ?_ ?_
    · cases aw with
      | true =>
        walk_at "rd"
        exact ⟨ls, i, ys, q, w1, rfl, A5, by omega, by omega, by omega, hwa, fun d' aw' hs H' xs' fr A' e' no => ⟨d', aw', rfl, by rw [← hyl]; exact hs, xs', fr, A', e', no⟩, fun _ H' sm => k H' (sm5.trans sm)⟩
      | false =>
        walk_at "rd"
        exact ⟨ls, i, ys, q, w1, rfl, A5, by omega, by omega, by omega, hwa, fun d' aw' hs H' xs' fr A' e' no => ⟨d', aw', rfl, by rw [← hyl]; exact hs, xs', fr, A', e', no⟩, fun _ H' sm => k H' (sm5.trans sm)⟩
    rintro v H' ⟨d', aw', rfl, hs, xs', fr, A', exl, hno⟩
    have hsl := step_len hs
    rw [hs] at hrA
    walk_at "rd"
    refine hnx0 _ _ ⟨aw', _, d', xs', rfl, fun b o e => fr b o (fun z => by rw [z, fls] at e; cases e) (fun hq => by have := hnew b hq; rw [e] at this; cases this) (sm5.old e), fr lw _ nlw (fun hq => hnl lw hq rfl) e5, A', fun q hq => ?_, fun q hq => ?_, exl, by omega, hrA⟩
    · rcases hno q hq with h1 | h
      · exact hnew q h1
      · exact sm5.free h
    · rcases hno q hq with h1 | h
      · exact hnl q h1
      · intro z
        rw [z, e5] at h
        cases h
  rintro σ H5 ⟨aw, u3, d, xs, rfl, sm5, e5, A5, hnew, hnl, hxl, hdi, hr⟩
  rw [List.length_map] at hr hdi
  rw [List.drop_length] at hr
  have hr : some (d, aw) ≠ some (0, false) := hr
  have hl5 := A5.hl
  have hml : (xs.map V.ref).length = d + 1 := by rw [List.length_map]; exact hxl
  cases aw with
  | true =>
    walk_at "rd"
    exact k H5 sm5
  | false =>
    have hd : d ≠ 0 := fun z => hr (by rw [z])
    walk_at "rd"
    exact k H5 sm5
def sp_law_refused : Sp := fun vs H Q _ => ∃ l : List Nat, vs = [.str (S l)] ∧ l.length ≤ 9000 ∧ asc l ∧ Ref l ∧ ∀ H', Same H H' → Q (.bl true) H'
theorem ok_law_refused (T : Txt w K mg t) : FnOk P w K mg base CX0 6 t.f_law_refused t.d_law_refused ["_law_text"] (sp_law_refused) := by
  refine T.F_law_refused.ok sc_law_refused (fun vs H Q E h => ?_) (fun cdv A outer s H vs Q E hr h => ?_)
  · obtain ⟨_, rfl, _⟩ := h
    rfl
  obtain ⟨l, rfl, hl, hasc, hrun, k⟩ := h
  refine ⟨_, (pss_cons (ps_set (i := 1) sc_law_refused.nd rfl (Or.inl rfl) pe_non)
        (pss_cons (ps_cut (ps_tryE (iy := 1) (ie := 2) sc_law_refused.nd rfl (Or.inl rfl) rfl rfl ⟨rfl, rfl⟩ (fun _ => rfl) (by rfl) T.mC_NoFormula (px_call (ok_read T) (hr.mono (by decide)) rfl T.m_read T.F_read.kp T.b_read .nil (pa_cons (pv 0) pa_nil))))
        (pss_cons (ps_if (pt_val (pe_callB (call_isxT (K := K) rfl) (by rfl) T.nb_isinstance bt_isinstance (pa_cons (pv 1) (pa_cons (pe_tupN (pa_cons (pe_glob (v := .ref t.C_TooFew) (by rfl) T.mC_TooFew rfl) (pa_cons (pe_glob (v := .ref t.C_TooMany) (by rfl) T.mC_TooMany rfl) (pa_cons (pe_glob (v := .ref t.C_TooWide) (by rfl) T.mC_TooWide rfl) (pa_cons (pe_glob (v := .ref t.C_NoName) (by rfl) T.mC_NoName rfl) (pa_cons (pe_glob (v := .ref t.C_NoLine) (by rfl) T.mC_NoLine rfl) (pa_cons (pe_glob (v := .ref t.C_NoCircuit) (by rfl) T.mC_NoCircuit rfl) (pa_cons (pe_glob (v := .ref t.C_OutOfWidth) (by rfl) T.mC_OutOfWidth rfl) pa_nil)))))))) pa_nil)))) (pss_one (ps_ret pe_bl)) pss_nil)
        (pss_one (ps_ret (pe_and (pe_callB (call_isx1 (K := K) rfl) (by rfl) T.nb_isinstance bt_isinstance (pa_cons (pv 1) (pa_cons (pe_glob (v := .ref t.C_PressError) (by rfl) T.mC_PressError rfl) pa_nil))) (pe_one (pe_callB (call_isx1 (K := K) rfl) (by rfl) T.nb_isinstance bt_isinstance (pa_cons (pv 1) (pa_cons (pe_bltn (v := .ty "ValueError") (by rfl) T.nb_ValueError bt_ValueError rfl) pa_nil)))))))))), ?_⟩
  have ek : ExcK K t.C_NoFormula := ⟨T.ga_nof, T.gt_nof, T.gc_nof, T.go_nof, T.gb_nof, T.gl_nof⟩
  walk_at "rd"
  refine cutS (fun σ' H' => ∃ ea, σ' = [some (.str (S l)), some (.ref ea), none] ∧ Same H H' ∧ H' ea = some (excO ea (.ref t.C_NoFormula))) ?_ ?_
  · unfold tTryE
    walk_at "rd"
    exact fun H' sm => ⟨T.exm_nof, fun ea he => ⟨ea, rfl, fun b o e => (upd_ne (ne_of_none (sm.old e) he)).trans (sm.old e), upd_same⟩⟩
  rintro σ' H' ⟨ea, rfl, sm, eea⟩
  walk_at "rd"
  intro p H2 n2
  refine ⟨ea, t.C_NoFormula, p, [t.C_TooFew, t.C_TooMany, t.C_TooWide, t.C_NoName, t.C_NoLine, t.C_NoCircuit, t.C_OutOfWidth], false, rfl, n2.old eea, ek, n2.at, T.kany_nof, ?_⟩
  walk_at "rd"
  refine ⟨ea, t.C_NoFormula, .ref t.C_PressError, true, rfl, n2.old eea, ek, .inl ⟨_, rfl, T.kone_nof⟩, ?_⟩
  walk_at "rd"
  refine ⟨ea, t.C_NoFormula, .ty "ValueError", true, rfl, n2.old eea, ek, .inr ⟨_, rfl, T.kval_nof⟩, ?_⟩
  walk_at "rd"
  exact k H2 (sm.new n2)

/-! figures -/
def figs (n : Nat) : List Nat := (Nat.toDigits 10 n).map Char.toNat
theorem figs_str (n : Nat) : Str.ofString (toString ((n : Nat) : Int)) = S (figs n) := by
  have h := PySem.W.KIN.signs_num n
  have e : (Str.ofString (toString ((n : Nat) : Int))) = ⟨(Str.ofString (toString ((n : Nat) : Int))).cps.toList.toArray⟩ := by simp
  rw [e, h]
  rfl
theorem figs_val (n : Nat) : valD (figs n) = n := PySem.W.KIN.val_back n
theorem figs_step {n : Nat} (h : ¬ n < 10) : figs n = figs (n / 10) ++ figs (n % 10) := by
  have hm : n % 10 < 10 := Nat.mod_lt n (by decide)
  have t : Nat.toDigits 10 (n / 10) ++ Nat.toDigits 10 (n % 10) = Nat.toDigits 10 (10 * (n / 10) + n % 10) := Nat.toDigits_append_toDigits (by decide) (by omega) hm
  rw [Nat.div_add_mod] at t
  unfold figs
  rw [← t, List.map_append]
theorem figs_small : ∀ n : Nat, n < 10 → figs n = [48 + n] := by decide
theorem figs_len : ∀ (k n : Nat), n < 10 ^ (k + 1) → (figs n).length ≤ k + 1
  | 0, n, h => by rw [figs_small n (by simpa using h)]; simp
  | k + 1, n, h => by
    by_cases hn : n < 10
    · rw [figs_small n hn]; simp
    · rw [figs_step hn, List.length_append, figs_small (n % 10) (Nat.mod_lt n (by decide))]
      have := figs_len k (n / 10) (by rw [Nat.pow_succ] at h; omega)
      simp
      omega
theorem figs_all (n : Nat) : (figs n).all isD = true := by
  induction n using Nat.strongRecOn with
  | ind n ih =>
    by_cases hn : n < 10
    · rw [figs_small n hn]
      simp [isD]
      omega
    · rw [figs_step hn, List.all_append, ih (n / 10) (by omega), ih (n % 10) (by omega)]
      rfl
theorem figs_head (n : Nat) : figs n ≠ [] ∧ (0 < n → (figs n).head? ≠ some 48) := by
  induction n using Nat.strongRecOn with
  | ind n ih =>
    by_cases hn : n < 10
    · rw [figs_small n hn]
      refine ⟨by simp, fun h => ?_⟩
      simp
      omega
    · rw [figs_step hn]
      obtain ⟨h1, h2⟩ := ih (n / 10) (by omega)
      refine ⟨by simp [h1], fun _ => ?_⟩
      obtain ⟨a, q, e⟩ := List.exists_cons_of_ne_nil h1
      have h3 := h2 (by omega)
      rw [e] at h3 ⊢
      simpa using h3
theorem leaf_fig {n : Nat} (h : n ≤ 1000000000000) : leafB (figs n) = true := by
  obtain ⟨h1, h2⟩ := figs_head n
  have hl := figs_len 12 n (by omega)
  have hp : 0 < (figs n).length := List.length_pos_iff.mpr h1
  have hw : wrN (figs n) 13 = true := by
    unfold wrN
    rw [decide_eq_true hp, decide_eq_true (by omega : ((figs n).length : Int) ≤ 13), figs_all n]
    by_cases hn : n = 0
    · subst hn; rw [decide_eq_true (figs_small 0 (by decide))]; rfl
    · rw [decide_eq_false (h2 (by omega))]; simp
  unfold leafB
  rw [hw, figs_val, decide_eq_true h]
  simp
theorem leaf_nm {l : List Nat} (h1 : 0 < l.length) (h2 : l.length ≤ 6) (h3 : l.all isL = true) : leafB l = true := by
  unfold leafB nmB
  rw [decide_eq_true h1, decide_eq_true h2, h3]
  rfl

def NmOk (x : Str) : Prop := ∃ l : List Nat, x = S l ∧ 0 < l.length ∧ l.length ≤ 6 ∧ l.all isL = true

theorem abc_isL : abc.cps.toList.all isL = true := by decide +kernel
theorem letL {i : Int} {c : Nat} (h0 : 0 ≤ i) (h1 : i < 26) (h : atI abc.cps.toList i = some c) : isL c = true := by
  obtain ⟨d, e1, e2⟩ := atI_lt (xs := abc.cps.toList) h0 (by rw [abc_len]; exact h1)
  rw [e1] at h
  have hd : d = c := by simpa using h
  rw [← hd]
  exact List.all_eq_true.mp abc_isL d (List.mem_of_getElem? e2)
theorem q_addS {x y : Str} {a b : List Nat} {Q : VK} {H : Hp} (hx : x = S a) (hy : y = S b) (h : a.length + b.length ≤ 100000) (k : Q (.str (S (a ++ b))) H) : rAddS (.str x) (.str y) H Q :=
  q_addS0 (by rw [hx, hy, S_len, S_len]; exact szl (by omega)) (by rw [hx, hy, S_add]; exact k)
theorem Semp : (Str.ofString "") = S [] := by decide +kernel
def sp_law_names : Sp := fun vs H Q _ => ∃ c : Int, vs = [.int c] ∧ BdD c ∧ ∀ l H', ∀ xs : List Str, Same H H' → H l = none → H' l = some (.lst (xs.map V.str)) → xs.length = 5 → (∀ x ∈ xs, NmOk x) → Q (.ref l) H'
theorem ok_law_names (T : Txt w K mg t) : FnOk P w K mg base CX0 2 t.f_law_names t.d_law_names ["_law_cell"] (sp_law_names) := by
  refine T.F_law_names.ok sc_law_names (fun vs H Q E h => ?_) (fun cdv A outer s H vs Q E hr h => ?_)
  · obtain ⟨_, rfl, _⟩ := h
    rfl
  obtain ⟨c, rfl, hb, k⟩ := h
  refine ⟨_, (pss_cons (ps_set (i := 1) sc_law_names.nd rfl (Or.inl rfl) pe_str)
        (pss_cons (ps_set (i := 2) sc_law_names.nd rfl (Or.inl rfl) (pe_call (ok_law_mixed T) (hr.mono (by decide)) rfl T.m_law_mixed T.F_law_mixed.kp T.b_law_mixed .nil pass0 (pa_cons (pv 0) (pa_cons pe_int pa_nil))))
        (pss_cons (ps_set (i := 3) sc_law_names.nd rfl (Or.inl rfl) (pe_op op_add pe_int (pe_op op_mod (pv 2) pe_int)))
        (pss_cons (ps_set (i := 4) sc_law_names.nd rfl (Or.inl rfl) (pe_op op_mod (pe_op op_fdivL (pv 2) pe_int) (pv 3)))
        (pss_cons (ps_set (i := 5) sc_law_names.nd rfl (Or.inl rfl) (pe_lstN pa_nil))
        (pss_cons (ps_for PassesOwn.never rfl (pi_range1 rfl T.nb_range (pa_cons pe_int pa_nil)) (pg_name (i := 6) sc_law_names.nd rfl (Or.inl rfl)) (pss_cons (ps_set (i := 7) sc_law_names.nd rfl (Or.inl rfl) pe_str)
        (pss_cons (ps_for PassesOwn.never rfl (pi_range1 rfl T.nb_range (pa_cons (pv 3) pa_nil)) (pg_name (i := 8) sc_law_names.nd rfl (Or.inl rfl)) (pss_cons (ps_set (i := 9) sc_law_names.nd rfl (Or.inl rfl) (pe_op op_add (pe_op op_add (pe_op op_fdivL (pv 2) pe_int) (pe_op op_mulB (pv 8) (pv 8))) (pe_op op_mulB (pe_callTy call_int1 (by rfl) T.nb_int bt_int (pa_cons (pe_cmpR op_eq (pv 8) (pv 4) (nomark _)) pa_nil)) (pv 6))))
        (pss_one (ps_set (i := 7) sc_law_names.nd rfl (Or.inl rfl) (pe_op op_addS (pv 7) (pe_ix ix_str (pv 1) (pe_op op_mod (pv 9) pe_int) (fun _ _ => rfl)))))))
        (pss_one (ps_expr (pe_bmK (K := K) rfl PySem.F.plainAttrs_list PySem.F.slot_list_append PySem.F.type_list_append mt_appendN (pv 5) (pa_cons (pv 7) pa_nil)))))))
        (pss_one (ps_ret (pv 5))))))))), ?_⟩
  walk_at "rd"
  intro m m0 m1
  walk_at "rd"
  intro l H1 n1
  walk_at "rd"
  refine for_rangeQ (lo := 0) (n := 5) (fun i σ H2 => ∃ u6 u7 u8 u9, ∃ xs : List Str, σ = [some (.int c), some (.str abc), some (.int m), some (.int (1 + m % 6)), some (.int (m / 6 % (1 + m % 6))), some (.ref l), u6, u7, u8, u9] ∧ Same H H2 ∧ H2 l = some (.lst (xs.map V.str)) ∧ xs.length = i ∧ ∀ x ∈ xs, NmOk x)
    ⟨_, _, _, _, [], rfl, n1.same, n1.at, rfl, fun x h => (by cases h)⟩ ?_ ?_
  · rintro nx0 rt0 bk0 i σ H2 hnx0 hi ⟨u6, u7, u8, u9, xs, rfl, sm, el, hxl, hnm⟩
    walk_at "rd"
    refine for_rangeQ (lo := 0) (fun j σ H3 => ∃ u8 u9, ∃ z : List Nat, σ = [some (.int c), some (.str abc), some (.int m), some (.int (1 + m % 6)), some (.int (m / 6 % (1 + m % 6))), some (.ref l), some (.int (0 + (i : Int))), some (.str (S z)), u8, u9] ∧ H3 = H2 ∧ z.length = j ∧ z.all isL = true)
      ⟨_, _, [], by rw [← Semp]; rfl, rfl, rfl, rfl⟩ ?_ ?_
    · rintro nx1 rt1 bk1 j σ H3 hnx1 hj ⟨u8, u9, z, rfl, rfl, hz, hza⟩
      have hj6 : j < 6 := by omega
      walk_at "rd"
      refine .inr ⟨_, rfl, ?_⟩
      walk_at "rd"
      generalize (m / 36 + (0 + (j : Int)) * (0 + (j : Int)) + _ : Int) = at_
      obtain ⟨ch, ec, o1, o2⟩ := letters_at (i := at_ % 26) (by omega) (by omega)
      have hch := letL (by omega) (by omega) ec
      refine ⟨_, _, ch, rfl, rfl, by decide +kernel, ec, ?_⟩
      refine q_addS rfl (b := [ch]) rfl ?_ ?_
      · simp only [List.length_cons, List.length_nil]; omega
      walk_at "rd"
      refine hnx1 _ _ ⟨_, _, z ++ [ch], rfl, rfl, by simp [hz], ?_⟩
      rw [List.all_append, hza]
      simp [hch]
    rintro σ H3 ⟨u8, u9, z, rfl, rfl, hz, hza⟩
    walk_at "rd"
    intro H4 c4
    refine hnx0 _ _ ⟨_, _, _, _, xs ++ [S z], rfl, sm.chg n1.free c4, by rw [c4.at]; simp, by simp [hxl], fun x hx => ?_⟩
    rcases List.mem_append.mp hx with q | q
    · exact hnm x q
    · rw [List.mem_singleton.mp q]
      exact ⟨z, rfl, by omega, by omega, hza⟩
  rintro σ H2 ⟨u6, u7, u8, u9, xs, rfl, sm, el, hxl, hnm⟩
  walk_at "rd"
  exact k l H2 xs sm n1.free el hxl hnm
/-- a leaf of the law's: a name or a number -/
def LV (H : Hp) (v : V) : Prop := ∃ p, v = .ref p ∧ ((∃ x, NmOk x ∧ H p = some (.tup [.str "name", .str x])) ∨ ∃ n : Nat, n ≤ 1000000000000 ∧ H p = some (.tup [.str "number", .int (n : Int)]))
def sp_law_leaf : Sp := fun vs H Q _ => ∃ m : Int, ∃ l, ∃ xs : List Str, vs = [.int m, .ref l] ∧ 0 ≤ m ∧ m < 2 ^ 100 ∧ H l = some (.lst (xs.map V.str)) ∧ xs.length = 5 ∧ (∀ x ∈ xs, NmOk x) ∧ ∀ v H', Same H H' → LV H' v → Q v H'
theorem ok_law_leaf (T : Txt w K mg t) : FnOk P w K mg base CX0 1 t.f_law_leaf t.d_law_leaf ["_law_mixed_here", "_law_names_here"] (sp_law_leaf) := by
  refine T.F_law_leaf.ok sc_law_leaf (fun vs H Q E h => ?_) (fun cdv A outer s H vs Q E hr h => ?_)
  · obtain ⟨_, _, _, rfl, _⟩ := h
    rfl
  obtain ⟨m, l, xs, rfl, m0, m1, hl, hxl, hnm, k⟩ := h
  refine ⟨_, (pss_cons (ps_if (pt_cmpR op_gt (pe_op op_mod (pv 0) pe_int) pe_int (nomark _)) (pss_one (ps_ret (pe_tupN (pa_cons pe_str (pa_cons (pe_ix (ix_listK (K := K) rfl) (pv 1) (pe_op op_mod (pe_op op_fdivL (pv 0) pe_int) (pe_callB (call_lenK (K := K) rfl) (by rfl) T.nb_len bt_len (pa_cons (pv 1) pa_nil))) (fun _ _ => rfl)) pa_nil))))) pss_nil)
        (pss_cons (ps_if (pt_cmpR op_eq (pe_op op_mod (pe_op op_fdivL (pv 0) pe_int) pe_int) pe_int (nomark _)) (pss_one (ps_ret (pe_tupN (pa_cons pe_str (pa_cons (pe_op op_mod (pe_op op_mulB (pv 0) (pv 0)) (pe_op op_add (pe_op op_pow pe_int pe_int) pe_int)) pa_nil))))) pss_nil)
        (pss_one (ps_ret (pe_tupN (pa_cons pe_str (pa_cons (pe_op op_mod (pe_op op_fdivL (pv 0) pe_int) pe_int) pa_nil))))))), ?_⟩
  have hbm : Builtin.Int.intBits m ≤ 2 ^ 20 := bits_of_lt (by omega)
  have hml : (xs.map V.str).length = 5 := by rw [List.length_map]; exact hxl
  walk_at "rd"
  refine iteD (fun h => ?_) (fun h => ?_)
  · walk_at "rd"
    rw [hml]
    obtain ⟨x, ex, ex2⟩ := atI_lt (xs := xs) (i := m / 3 % 5) (by omega) (by omega)
    walk_at "rd"
    refine q_ixL (SqL.of hl) (atI_map ex) ?_
    walk_at "rd"
    intro p H1 n1
    exact k _ H1 n1.same ⟨p, rfl, .inl ⟨x, hnm x (List.mem_of_getElem? ex2), n1.at⟩⟩
  · walk_at "rd"
    refine iteV (fun h => ?_) (fun h => ?_)
    · walk_at "rd"
      intro p H1 n1
      have h1 := Int.emod_nonneg (m * m) (show (1000000000001 : Int) ≠ 0 by decide)
      have h2 := Int.emod_lt_of_pos (m * m) (show (0 : Int) < 1000000000001 by decide)
      have e2 : (10 : Int) ^ (12 : Int).toNat + 1 = 1000000000001 := by decide
      have e := n1.at
      rw [e2] at e
      generalize m * m % 1000000000001 = z at h1 h2 e
      obtain ⟨n, rfl⟩ := Int.eq_ofNat_of_zero_le h1
      exact k _ H1 n1.same ⟨p, rfl, .inr ⟨n, by omega, e⟩⟩
    · walk_at "rd"
      intro p H1 n1
      have e := n1.at
      have h1 : 0 ≤ m / 12 % 20 := by omega
      have h2 : m / 12 % 20 < 20 := by omega
      generalize m / 12 % 20 = z at h1 h2 e
      obtain ⟨n, rfl⟩ := Int.eq_ofNat_of_zero_le h1
      exact k _ H1 n1.same ⟨p, rfl, .inr ⟨n, by omega, e⟩⟩
/-- a part: its text by words -/
def PV3 (H : Hp) (v : V) (ts : List (List Nat)) : Prop := ∃ p vf, ∃ r : Int, v = .ref p ∧ H p = some (.tup [.str (S ts.flatten), vf, .int r])
theorem PV3.mono {H H' : Hp} {v : V} {ts : List (List Nat)} (s : TSame H H') (h : PV3 H v ts) : PV3 H' v ts := let ⟨p, vf, r, e, h1⟩ := h; ⟨p, vf, r, e, s _ _ h1⟩
def sp_law_in : Sp := fun vs H Q _ => ∃ v ts, ∃ c : Nat, ∃ rk : Int, vs = [v, .int rk] ∧ PV3 H v ts ∧ Wt c ts ∧ ts.flatten.length ≤ 5000 ∧ ∀ v' H' ts', Same H H' → PV3 H' v' ts' → Wt c ts' → ts'.flatten.length ≤ ts.flatten.length + 2 → Q v' H'
theorem ok_law_in (T : Txt w K mg t) : FnOk P w K mg base CX0 1 t.f_law_in t.d_law_in ["_law_part", "_law_rank"] (sp_law_in) := by
  refine T.F_law_in.ok sc_law_in (fun vs H Q E h => ?_) (fun cdv A outer s H vs Q E hr h => ?_)
  · obtain ⟨_, _, _, _, rfl, _⟩ := h
    rfl
  obtain ⟨v, ts, c, rk, rfl, hv, hW, hl, k⟩ := h
  refine ⟨_, (pss_cons (ps_if (pt_cmpR op_lt (pe_ix (ix_tupK (K := K) rfl) (pv 0) pe_int (fun _ _ => rfl)) (pv 1) (nomark _)) (pss_one (ps_ret (pe_tupN (pa_cons (pe_op op_addS (pe_op op_addS pe_str (pe_ix (ix_tupK (K := K) rfl) (pv 0) pe_int (fun _ _ => rfl))) pe_str) (pa_cons (pe_ix (ix_tupK (K := K) rfl) (pv 0) pe_int (fun _ _ => rfl)) (pa_cons pe_int pa_nil)))))) pss_nil)
        (pss_one (ps_ret (pv 0)))), ?_⟩
  obtain ⟨p, vf, r, rfl, hp⟩ := hv
  have hSl : (S ts.flatten).length = ts.flatten.length := S_len _
  walk_at "rd"
  refine iteD (fun h => ?_) (fun h => ?_)
  · walk_at "rd"
    refine q_addS Sb rfl ?_ ?_
    · simp only [List.length_append, List.length_cons, List.length_nil]; omega
    walk_at "rd"
    refine q_addS rfl Scl ?_ ?_
    · simp only [List.length_append, List.length_cons, List.length_nil]; omega
    walk_at "rd"
    intro q H1 n1
    refine k _ H1 ([40] :: (ts ++ [[41]])) n1.same ⟨q, vf, 2, rfl, ?_⟩ hW.held (by simp)
    rw [n1.at]
    simp
  · walk_at "rd"
    exact k _ H ts (Same.refl _) ⟨p, vf, r, rfl, hp⟩ hW (by omega)
theorem len_join (ts us : List (List Nat)) (c : Nat) : (ts ++ [c] :: us).flatten.length = ts.flatten.length + us.flatten.length + 1 := by
  rw [List.flatten_append, List.flatten_cons, List.length_append, List.length_append, List.length_singleton]
  omega
def sp_law_joined : Sp := fun vs H Q _ => ∃ va vb ts us, ∃ a b : Nat, ∃ m : Int, vs = [.int m, va, vb] ∧ PV3 H va ts ∧ Wt a ts ∧ PV3 H vb us ∧ Wt b us ∧ ts.flatten.length + us.flatten.length ≤ 4000 ∧
  ∀ v' H' ts', Same H H' → PV3 H' v' ts' → Wt (a + b) ts' → ts'.flatten.length ≤ ts.flatten.length + us.flatten.length + 5 → Q v' H'
theorem ok_law_joined (T : Txt w K mg t) : FnOk P w K mg base CX0 2 t.f_law_joined t.d_law_joined ["_law_way", "_law_one", "_law_other"] (sp_law_joined) := by
  refine T.F_law_joined.ok sc_law_joined (fun vs H Q E h => ?_) (fun cdv A outer s H vs Q E hr h => ?_)
  · obtain ⟨_, _, _, _, _, _, _, rfl, _⟩ := h
    rfl
  obtain ⟨va, vb, ts, us, ca, cb, m, rfl, ha, hWa, hb, hWb, hl, k⟩ := h
  refine ⟨_, (pss_cons (ps_if (pt_cmpR op_eq (pe_op op_mod (pv 0) pe_int) pe_int (nomark _)) (pss_cons (ps_set (i := 1) sc_law_joined.nd rfl (Or.inl rfl) (pe_call (ok_law_in T) (hr.mono (by decide)) rfl T.m_law_in T.F_law_in.kp T.b_law_in .nil pass0 (pa_cons (pv 1) (pa_cons pe_int pa_nil))))
        (pss_cons (ps_set (i := 2) sc_law_joined.nd rfl (Or.inl rfl) (pe_call (ok_law_in T) (hr.mono (by decide)) rfl T.m_law_in T.F_law_in.kp T.b_law_in .nil pass0 (pa_cons (pv 2) (pa_cons pe_int pa_nil))))
        (pss_one (ps_ret (pe_tupN (pa_cons (pe_op op_addS (pe_op op_addS (pe_ix (ix_tupK (K := K) rfl) (pv 1) pe_int (fun _ _ => rfl)) pe_str) (pe_ix (ix_tupK (K := K) rfl) (pv 2) pe_int (fun _ _ => rfl))) (pa_cons (pe_tupN (pa_cons pe_str (pa_cons (pe_ix (ix_tupK (K := K) rfl) (pv 1) pe_int (fun _ _ => rfl)) (pa_cons (pe_ix (ix_tupK (K := K) rfl) (pv 2) pe_int (fun _ _ => rfl)) pa_nil)))) (pa_cons pe_int pa_nil)))))))) pss_nil)
        (pss_cons (ps_set (i := 2) sc_law_joined.nd rfl (Or.inl rfl) (pe_call (ok_law_in T) (hr.mono (by decide)) rfl T.m_law_in T.F_law_in.kp T.b_law_in .nil pass0 (pa_cons (pv 2) (pa_cons pe_int pa_nil))))
        (pss_cons (ps_set (i := 3) sc_law_joined.nd rfl (Or.inl rfl) (pe_ix (ix_listK (K := K) rfl) (pe_lstN (pa_cons pe_str (pa_cons pe_str pa_nil))) (pe_op op_mod (pv 0) pe_int) (fun _ _ => rfl)))
        (pss_one (ps_ret (pe_tupN (pa_cons (pe_op op_addS (pe_op op_addS (pe_ix (ix_tupK (K := K) rfl) (pv 1) pe_int (fun _ _ => rfl)) (pe_ix (ix_listK (K := K) rfl) (pe_lstN (pa_cons pe_str (pa_cons pe_str pa_nil))) (pe_op op_mod (pv 0) pe_int) (fun _ _ => rfl))) (pe_ix (ix_tupK (K := K) rfl) (pv 2) pe_int (fun _ _ => rfl))) (pa_cons (pe_tupN (pa_cons (pv 3) (pa_cons (pe_ix (ix_tupK (K := K) rfl) (pv 1) pe_int (fun _ _ => rfl)) (pa_cons (pe_ix (ix_tupK (K := K) rfl) (pv 2) pe_int (fun _ _ => rfl)) pa_nil)))) (pa_cons pe_int pa_nil))))))))), ?_⟩
  walk_at "rd"
  refine iteV (fun h => ?_) (fun h => ?_)
  · walk_at "rd"
    refine ⟨va, ts, ca, 1, rfl, ha, hWa, by omega, fun v1 H1 ts1 sm1 hv1 hW1 hl1 => ?_⟩
    walk_at "rd"
    refine ⟨vb, us, cb, 2, rfl, hb.mono sm1.ts, hWb, by omega, fun v2 H2 ts2 sm2 hv2 hW2 hl2 => ?_⟩
    have hv1 := hv1.mono sm2.ts
    obtain ⟨p1, w1, r1, rfl, hp1⟩ := hv1
    obtain ⟨p2, w2, r2, rfl, hp2⟩ := hv2
    walk_at "rd"
    refine q_addS rfl Sst ?_ ?_
    · simp only [List.length_append, List.length_cons, List.length_nil]; omega
    walk_at "rd"
    refine q_addS rfl rfl ?_ ?_
    · simp only [List.length_append, List.length_cons, List.length_nil]; omega
    walk_at "rd"
    intro q H3 n3
    walk_at "rd"
    intro q2 H4 n4
    have sm : Same H H4 := ((sm1.trans sm2).new n3).new n4
    refine k _ H4 (ts1 ++ [42] :: ts2) sm ⟨q2, .ref q, 1, rfl, ?_⟩ (hW1.join hW2 (.inl rfl)) (by rw [len_join]; omega)
    rw [n4.at]
    simp
  · walk_at "rd"
    refine ⟨vb, us, cb, 1, rfl, hb, hWb, by omega, fun v2 H2 ts2 sm2 hv2 hW2 hl2 => ?_⟩
    have ha2 := ha.mono sm2.ts
    obtain ⟨p1, w1, r1, rfl, hp1⟩ := ha2
    obtain ⟨p2, w2, r2, rfl, hp2⟩ := hv2
    walk_at "rd"
    intro l3 H3 n3
    obtain ⟨o, c0, x0, e1, e2, e3, e4⟩ : ∃ o : Str, ∃ c0 : Nat, ∃ x0 : Str, atI [V.str "plus", .str "less"] (m % 3) = some (.str o) ∧ atI [V.str "+", .str "-"] (m % 3) = some (.str x0) ∧ x0 = S [c0] ∧ isOp c0 := by
      have h : m % 3 = 0 ∨ m % 3 = 1 := by omega
      rcases h with h | h <;> rw [h]
      · exact ⟨_, 43, _, rfl, rfl, Spl, .inr (.inl rfl)⟩
      · exact ⟨_, 45, _, rfl, rfl, Sm, .inr (.inr rfl)⟩
    walk_at "rd"
    refine q_ixL (SqL.of n3.at) e1 ?_
    have hp13 := n3.old hp1
    have hp23 := n3.old hp2
    walk_at "rd"
    intro l4 H4 n4
    have hp14 := n4.old hp13
    have hp24 := n4.old hp23
    walk_at "rd"
    refine q_ixL (SqL.of n4.at) e2 ?_
    refine q_addS rfl e3 ?_ ?_
    · simp only [List.length_append, List.length_cons, List.length_nil]; omega
    walk_at "rd"
    refine q_addS rfl rfl ?_ ?_
    · simp only [List.length_append, List.length_cons, List.length_nil]; omega
    walk_at "rd"
    intro q H5 n5
    walk_at "rd"
    intro q2 H6 n6
    have sm : Same H H6 := (((sm2.new n3).new n4).new n5).new n6
    refine k _ H6 (ts ++ [c0] :: ts2) sm ⟨q2, .ref q, 0, rfl, ?_⟩ (hWa.join hW2 e4) (by rw [len_join]; omega)
    rw [n6.at]
    simp
def sp_law_bad : Sp := fun vs H Q _ => vs = [] ∧ ∀ l H', Same H H' → H l = none → H' l = some (.lst (bads.map fun ts => V.str (S ts.flatten))) → Q (.ref l) H'
theorem badsV : ([.str (Str.ofString "01"), .str (Str.ofString "00"), .str (Str.ofString "1a"), .str (Str.ofString "a1"), .str (Str.ofString "A"), .str (Str.ofString "aB"), .str (Str.ofString "abcdefg"), .str (Str.ofString "1000000000001"), .str (Str.ofString "99999999999999"), .str (Str.ofString "()")] : List V) ++ [.str (Str.ofString "(a"), .str (Str.ofString "a)"), .str (Str.ofString "a b"), .str (Str.ofString " a"), .str (Str.ofString "a "), .str (Str.ofString "+a"), .str (Str.ofString "*a"), .str (Str.ofString "a(b)"), .str (Str.ofString "(a)b"), .str (Str.ofString "1_0")] = bads.map fun ts => V.str (S ts.flatten) := by
  rw [show Str.ofString "01" = S [48, 49] by decide +kernel, show Str.ofString "00" = S [48, 48] by decide +kernel, show Str.ofString "1a" = S [49, 97] by decide +kernel, show Str.ofString "a1" = S [97, 49] by decide +kernel, show Str.ofString "A" = S [65] by decide +kernel,
    show Str.ofString "aB" = S [97, 66] by decide +kernel, show Str.ofString "abcdefg" = S [97, 98, 99, 100, 101, 102, 103] by decide +kernel, show Str.ofString "1000000000001" = S [49, 48, 48, 48, 48, 48, 48, 48, 48, 48, 48, 48, 49] by decide +kernel, show Str.ofString "99999999999999" = S [57, 57, 57, 57, 57, 57, 57, 57, 57, 57, 57, 57, 57, 57] by decide +kernel, show Str.ofString "()" = S [40, 41] by decide +kernel,
    show Str.ofString "(a" = S [40, 97] by decide +kernel, show Str.ofString "a)" = S [97, 41] by decide +kernel, show Str.ofString "a b" = S [97, 32, 98] by decide +kernel, show Str.ofString " a" = S [32, 97] by decide +kernel, show Str.ofString "a " = S [97, 32] by decide +kernel,
    show Str.ofString "+a" = S [43, 97] by decide +kernel, show Str.ofString "*a" = S [42, 97] by decide +kernel, show Str.ofString "a(b)" = S [97, 40, 98, 41] by decide +kernel, show Str.ofString "(a)b" = S [40, 97, 41, 98] by decide +kernel, show Str.ofString "1_0" = S [49, 95, 48] by decide +kernel]
  rfl
theorem ok_law_bad (T : Txt w K mg t) : FnOk P w K mg base CX0 1 t.f_law_bad t.d_law_bad [] (sp_law_bad) := by
  refine T.F_law_bad.ok sc_law_bad (fun vs H Q E h => ?_) (fun cdv A outer s H vs Q E hr h => ?_)
  · obtain ⟨rfl, _⟩ := h
    rfl
  obtain ⟨rfl, k⟩ := h
  refine ⟨_, (pss_cons (ps_set (i := 0) sc_law_bad.nd rfl (Or.inl rfl) (pe_lstN (pa_cons pe_str (pa_cons pe_str (pa_cons pe_str (pa_cons pe_str (pa_cons pe_str (pa_cons pe_str (pa_cons pe_str (pa_cons pe_str (pa_cons pe_str (pa_cons pe_str pa_nil))))))))))))
        (pss_one (ps_ret (pe_op op_catN (pv 0) (pe_lstN (pa_cons pe_str (pa_cons pe_str (pa_cons pe_str (pa_cons pe_str (pa_cons pe_str (pa_cons pe_str (pa_cons pe_str (pa_cons pe_str (pa_cons pe_str (pa_cons pe_str pa_nil))))))))))))))), ?_⟩
  walk_at "rd"
  intro l1 H1 n1
  walk_at "rd"
  intro l2 H2 n2
  walk_at "rd"
  intro l3 H3 n3
  refine k l3 H3 ((n1.same.new n2).new n3) (n1.free' (n2.free' n3.free)) ?_
  rw [n3.at]
  exact congrArg (fun z => some (HO.lst z)) badsV

structure Pt where
  ts : List (List Nat)
  c : Nat
  v : V
def wct (es : List Pt) : Nat := (es.map fun e => e.c).sum
def wln (es : List Pt) : Nat := (es.map fun e => e.ts.flatten.length).sum
theorem wct_app (a b : List Pt) : wct (a ++ b) = wct a + wct b := by simp [wct]
theorem wct_one (p : Pt) : wct [p] = p.c := by simp [wct]
theorem wln_app (a b : List Pt) : wln (a ++ b) = wln a + wln b := by simp [wln]
theorem wln_one (p : Pt) : wln [p] = p.ts.flatten.length := by simp [wln]
abbrev RW (H : Hp) (es : List Pt) : Prop := ∀ e ∈ es, PV3 H e.v e.ts ∧ Wt e.c e.ts
theorem RW.mono {H H' : Hp} {es : List Pt} (h : RW H es) (s : TSame H H') : RW H' es := fun e he => ⟨(h e he).1.mono s, (h e he).2⟩
theorem RW.snoc {H : Hp} {es : List Pt} {e : Pt} (h : RW H es) (h1 : PV3 H e.v e.ts) (h2 : Wt e.c e.ts) : RW H (es ++ [e]) := fun p hp => by
  rcases List.mem_append.mp hp with z | z
  · exact h p z
  · rw [List.mem_singleton.mp z]; exact ⟨h1, h2⟩
theorem last1 {α : Type} {l : List α} (h : 0 < l.length) : ∃ a b, l = a ++ [b] := by
  rcases List.eq_nil_or_concat l with z | ⟨a, b, z⟩
  · subst z; simp at h
  · exact ⟨a, b, by simpa using z⟩
theorem last2 {α : Type} {l : List α} (h : 1 < l.length) : ∃ a b c, l = a ++ [b] ++ [c] := by
  obtain ⟨a, c, rfl⟩ := last1 (l := l) (by omega)
  rw [List.length_append] at h
  obtain ⟨a, b, rfl⟩ := last1 (l := a) (by simp at h; omega)
  exact ⟨a, b, c, rfl⟩
abbrev vls (es : List Pt) : List V := es.map Pt.v
abbrev bls (lf : List (List (List Nat))) : List V := lf.map fun ts => V.str (S ts.flatten)
theorem wt0 : Wt 0 [[48]] := wt_leaf (by decide) (.inr (by decide)) (by decide)
def BdsOk (lf : List (List (List Nat))) : Prop := ∀ ts ∈ lf, Wt 1 ts ∧ ts.flatten.length ≤ 14
theorem leaf_wt {H : Hp} {v : V} (h : LV H v) : ∃ p, v = .ref p ∧ ((∃ l, H p = some (.tup [.str "name", .str (S l)]) ∧ l.length ≤ 14 ∧ Wt 0 [l]) ∨ ∃ n : Nat, n ≤ 1000000000000 ∧ H p = some (.tup [.str "number", .int (n : Int)]) ∧ (figs n).length ≤ 14 ∧ Wt 0 [figs n]) := by
  obtain ⟨p, rfl, ⟨x, ⟨l, rfl, h1, h2, h3⟩, hp⟩ | ⟨n, hn, hp⟩⟩ := h
  · exact ⟨p, rfl, .inl ⟨l, hp, by omega, wt_leaf h1 (.inl h3) (leaf_nm h1 h2 h3)⟩⟩
  · exact ⟨p, rfl, .inr ⟨n, hn, hp, Nat.le_trans (figs_len 12 n (by omega)) (by decide), wt_leaf (List.length_pos_iff.mpr (figs_head n).1) (.inr (figs_all n)) (leaf_fig hn)⟩⟩
theorem log_small {n : Nat} (hn : n ≤ 1000000000000) : (n : Int).natAbs.log2 < 1920 := by
  rw [Int.natAbs_natCast]
  by_cases hn0 : n = 0
  · subst hn0; decide
  · have : n.log2 < 60 := (Nat.log2_lt hn0).mpr (Nat.lt_of_le_of_lt hn (by decide))
    omega
def sp_law_written : Sp := fun vs H Q _ => ∃ a lnm lsp, ∃ ns : List Int, ∃ xs : List Str, ∃ bs : List (List (List Nat)), vs = [.ref a, .ref lnm, .ref lsp, .int 25] ∧ H a = some (.lst (ns.map V.int)) ∧ ns.length ≤ 63 ∧ (∀ z ∈ ns, Bd z) ∧ H lnm = some (.lst (xs.map V.str)) ∧ xs.length = 5 ∧ (∀ x ∈ xs, NmOk x) ∧
  H lsp = some (.lst (bls bs)) ∧ bs.length ≤ 1 ∧ BdsOk bs ∧ ∀ q v H' ts c, ∀ b : Bool, Same H H' → H' q = some (.tup [v, .bl b]) → PV3 H' v ts → Wt c ts → (b = true → c = 1) → (bs = [] → c = 0) → ts.flatten.length ≤ 600 → Q (.ref q) H'
theorem ok_law_written (T : Txt w K mg t) : FnOk P w K mg base CX0 3 t.f_law_written t.d_law_written ["_law_cells", "_law_names_here", "_law_spoilt", "_law_most"] (sp_law_written) := by
  refine T.F_law_written.ok sc_law_written (fun vs H Q E h => ?_) (fun cdv A outer s H vs Q E hr h => ?_)
  · obtain ⟨_, _, _, _, _, _, rfl, _⟩ := h
    rfl
  obtain ⟨a, lnm, lsp, ns, xs, bs, rfl, ha, hnl, hbs, hln, hxl, hnm, hsp, hbl, hbok, k⟩ := h
  refine ⟨_, (pss_cons (ps_set (i := 4) sc_law_written.nd rfl (Or.inl rfl) (pe_callTy (call_list_ofK (K := K) rfl) (by rfl) T.nb_list bt_list (pa_cons (pv 2) pa_nil)))
        (pss_cons (ps_set (i := 5) sc_law_written.nd rfl (Or.inl rfl) (pe_lstN pa_nil))
        (pss_cons (ps_set (i := 6) sc_law_written.nd rfl (Or.inl rfl) pe_int)
        (pss_cons (ps_for PassesOwn.never rfl (pi_enumK (K := K) rfl rfl T.nb_enumerate (pa_cons (pv 0) pa_nil)) (by refine pg_pair (K := K) (i := 7) (j := 8) ?_ ?_ ?_ ?_; (exact rfl); (exact rfl); (exact (pg_name (i := 7) sc_law_written.nd rfl (Or.inl rfl))); (exact (pg_name (i := 8) sc_law_written.nd rfl (Or.inl rfl)))) (pss_cons (ps_set (i := 9) sc_law_written.nd rfl (Or.inl rfl) (pe_call (ok_law_mixed T) (hr.mono (by decide)) rfl T.m_law_mixed T.F_law_mixed.kp T.b_law_mixed .nil pass0 (pa_cons (pv 8) (pa_cons (pv 7) pa_nil))))
        (pss_cons (ps_set (i := 10) sc_law_written.nd rfl (Or.inl rfl) (pe_op op_mod (pv 9) pe_int))
        (pss_one (ps_if (pt_cut (PW.pt (pw_and (pt_cmpR op_eq (pv 10) pe_int (nomark _)) (pw_and (pt_cmpR op_gt (pe_callB (call_lenK (K := K) rfl) (by rfl) T.nb_len bt_len (pa_cons (pv 5) pa_nil)) pe_int (nomark _)) (pw_and1 (pt_cmpR op_lt (pv 6) (pv 3) (nomark _))))))) (pss_cons (ps_set (i := 11) sc_law_written.nd rfl (Or.inl rfl) (pe_call (ok_law_in T) (hr.mono (by decide)) rfl T.m_law_in T.F_law_in.kp T.b_law_in .nil pass0 (pa_cons (pe_bm0K (K := K) rfl PySem.F.plainAttrs_list PySem.F.slot_list_pop PySem.F.type_list_pop mt_popN (pv 5)) (pa_cons pe_int pa_nil))))
        (pss_cons (ps_expr (pe_bmK (K := K) rfl PySem.F.plainAttrs_list PySem.F.slot_list_append PySem.F.type_list_append mt_appendN (pv 5) (pa_cons (pe_tupN (pa_cons (pe_op op_addS pe_str (pe_ix (ix_tupK (K := K) rfl) (pv 11) pe_int (fun _ _ => rfl))) (pa_cons (pe_tupN (pa_cons pe_str (pa_cons (pe_ix (ix_tupK (K := K) rfl) (pv 11) pe_int (fun _ _ => rfl)) pa_nil))) (pa_cons pe_int pa_nil)))) pa_nil)))
        (pss_one (ps_set (i := 6) sc_law_written.nd rfl (Or.inl rfl) (pe_op op_add (pv 6) pe_int))))) (pss_one (ps_if (pt_cut (PW.pt (pw_and (pt_cmpR op_eq (pv 10) pe_int (nomark _)) (pw_and (pt_cmpR op_gt (pe_callB (call_lenK (K := K) rfl) (by rfl) T.nb_len bt_len (pa_cons (pv 5) pa_nil)) pe_int (nomark _)) (pw_and1 (pt_cmpR op_lt (pv 6) (pv 3) (nomark _))))))) (pss_cons (ps_expr (pe_bmK (K := K) rfl PySem.F.plainAttrs_list PySem.F.slot_list_append PySem.F.type_list_append mt_appendN (pv 5) (pa_cons (pe_call (ok_law_in T) (hr.mono (by decide)) rfl T.m_law_in T.F_law_in.kp T.b_law_in .nil pass0 (pa_cons (pe_bm0K (K := K) rfl PySem.F.plainAttrs_list PySem.F.slot_list_pop PySem.F.type_list_pop mt_popN (pv 5)) (pa_cons pe_int pa_nil))) pa_nil)))
        (pss_one (ps_set (i := 6) sc_law_written.nd rfl (Or.inl rfl) (pe_op op_add (pv 6) pe_int)))) (pss_one (ps_if (pt_cut (PW.pt (pw_and (pt_cmpR op_gt (pv 10) pe_int (nomark _)) (pw_and1 (pt_cmpR op_gt (pe_callB (call_lenK (K := K) rfl) (by rfl) T.nb_len bt_len (pa_cons (pv 5) pa_nil)) pe_int (nomark _)))))) (pss_cons (ps_set (i := 12) sc_law_written.nd rfl (Or.inl rfl) (pe_bm0K (K := K) rfl PySem.F.plainAttrs_list PySem.F.slot_list_pop PySem.F.type_list_pop mt_popN (pv 5)))
        (pss_one (ps_expr (pe_bmK (K := K) rfl PySem.F.plainAttrs_list PySem.F.slot_list_append PySem.F.type_list_append mt_appendN (pv 5) (pa_cons (pe_call (ok_law_joined T) (hr.mono (by decide)) rfl T.m_law_joined T.F_law_joined.kp T.b_law_joined .nil pass0 (pa_cons (pv 10) (pa_cons (pe_bm0K (K := K) rfl PySem.F.plainAttrs_list PySem.F.slot_list_pop PySem.F.type_list_pop mt_popN (pv 5)) (pa_cons (pv 12) pa_nil)))) pa_nil))))) (pss_one (ps_if (pt_cmpR op_le (pe_op op_add (pv 6) pe_int) (pv 3) (nomark _)) (pss_cons (ps_set (i := 13) sc_law_written.nd rfl (Or.inl rfl) (pe_call (ok_law_leaf T) (hr.mono (by decide)) rfl T.m_law_leaf T.F_law_leaf.kp T.b_law_leaf .nil pass0 (pa_cons (pe_op op_fdivL (pv 9) pe_int) (pa_cons (pv 1) pa_nil))))
        (pss_cons (ps_cut (ps_set (i := 14) sc_law_written.nd rfl (Or.inl rfl) (pe_callTy call_str_any (by rfl) T.nb_str bt_str (pa_cons (pe_ix (ix_tupK (K := K) rfl) (pv 13) pe_int (fun _ _ => rfl)) pa_nil))))
        (pss_cons (ps_cut (ps_if (pt_cut (PW.pt (pw_and (pt_cmpR op_eq (pe_op op_mod (pe_op op_fdivL (pv 9) pe_int) pe_int) pe_int (nomark _)) (pw_and1 (pt_cmpR op_gt (pe_callB (call_lenK (K := K) rfl) (by rfl) T.nb_len bt_len (pa_cons (pv 4) pa_nil)) pe_int (nomark _)))))) (pss_one (ps_set (i := 14) sc_law_written.nd rfl (Or.inl rfl) (pe_bm0K (K := K) rfl PySem.F.plainAttrs_list PySem.F.slot_list_pop PySem.F.type_list_pop mt_popN (pv 4)))) pss_nil))
        (pss_cons (ps_expr (pe_bmK (K := K) rfl PySem.F.plainAttrs_list PySem.F.slot_list_append PySem.F.type_list_append mt_appendN (pv 5) (pa_cons (pe_tupN (pa_cons (pv 14) (pa_cons (pv 13) (pa_cons pe_int pa_nil)))) pa_nil)))
        (pss_one (ps_set (i := 6) sc_law_written.nd rfl (Or.inl rfl) (pe_op op_add (pv 6) pe_int))))))) pss_nil)))))))))))
        (pss_cons (ps_cut (ps_if (pt_cmpR op_eq (pe_callB (call_lenK (K := K) rfl) (by rfl) T.nb_len bt_len (pa_cons (pv 5) pa_nil)) pe_int (nomark _)) (pss_one (ps_expr (pe_bmK (K := K) rfl PySem.F.plainAttrs_list PySem.F.slot_list_append PySem.F.type_list_append mt_appendN (pv 5) (pa_cons (pe_tupN (pa_cons pe_str (pa_cons (pe_tupN (pa_cons pe_str (pa_cons pe_int pa_nil))) (pa_cons pe_int pa_nil)))) pa_nil)))) pss_nil))
        (pss_cons (ps_while PassesOwn.never (pt_cmpR op_gt (pe_callB (call_lenK (K := K) rfl) (by rfl) T.nb_len bt_len (pa_cons (pv 5) pa_nil)) pe_int (nomark _)) (pss_cons (ps_set (i := 12) sc_law_written.nd rfl (Or.inl rfl) (pe_bm0K (K := K) rfl PySem.F.plainAttrs_list PySem.F.slot_list_pop PySem.F.type_list_pop mt_popN (pv 5)))
        (pss_one (ps_expr (pe_bmK (K := K) rfl PySem.F.plainAttrs_list PySem.F.slot_list_append PySem.F.type_list_append mt_appendN (pv 5) (pa_cons (pe_call (ok_law_joined T) (hr.mono (by decide)) rfl T.m_law_joined T.F_law_joined.kp T.b_law_joined .nil pass0 (pa_cons (pe_op op_add (pe_callB (call_lenK (K := K) rfl) (by rfl) T.nb_len bt_len (pa_cons (pv 5) pa_nil)) (pv 6)) (pa_cons (pe_bm0K (K := K) rfl PySem.F.plainAttrs_list PySem.F.slot_list_pop PySem.F.type_list_pop mt_popN (pv 5)) (pa_cons (pv 12) pa_nil)))) pa_nil))))))
        (pss_one (ps_ret (pe_tupN (pa_cons (pe_ix (ix_listK (K := K) rfl) (pv 5) pe_int (fun _ _ => rfl)) (pa_cons (pe_cmpR op_lt (pe_callB (call_lenK (K := K) rfl) (by rfl) T.nb_len bt_len (pa_cons (pv 4) pa_nil)) (pe_callB (call_lenK (K := K) rfl) (by rfl) T.nb_len bt_len (pa_cons (pv 2) pa_nil)) (nomark _)) pa_nil))))))))))), ?_⟩
  have hns : (ns.map V.int).length = ns.length := List.length_map ..
  have hbm : (bls bs).length = bs.length := List.length_map ..
  walk_at "rd"
  intro ll H0 n0
  have ha0 := n0.old ha
  walk_at "rd"
  intro lr H1 n1
  have fr : H lr = none := n0.free' n1.free
  have nlr : ll ≠ lr := n1.ne n0.at
  walk_at "rd"
  refine for_YQ (yields_enum (SqL.of (K := K) ha)) (fun i σ H2 => ∃ u7 u8 u9 u10 u11 u12 u13 u14, ∃ es : List Pt, ∃ lf : List (List (List Nat)), ∃ np : Int, σ = [some (.ref a), some (.ref lnm), some (.ref lsp), some (.int 25), some (.ref ll), some (.ref lr), some (.int np), u7, u8, u9, u10, u11, u12, u13, u14] ∧ Same H H2 ∧ H2 lr = some (.lst (vls es)) ∧ H2 ll = some (.lst (bls lf)) ∧ RW H2 es ∧ BdsOk lf ∧ wct es + lf.length = bs.length ∧ 1 + (es.length : Int) ≤ np ∧ np ≤ 25 ∧ (wln es : Int) + 5 * (es.length : Int) ≤ 20 * np)
    ⟨_, _, _, _, _, _, _, _, [], bs, 1, rfl, n0.same.new n1, n1.at, n1.old n0.at, fun p h => (by cases h), hbok, Nat.zero_add _, by decide, by decide, by decide⟩ (fun i σ H2 h => (by obtain ⟨_, _, _, _, _, _, _, _, _, _, _, _, s, _⟩ := h; exact s)) ?_ ?_
  · rintro nx0 rt0 bk0 i y σ H2 H3 hnx0 hi ⟨u7, u8, u9, u10, u11, u12, u13, u14, es, lf, np, rfl, sm2, er, el, hrs, hlf, hct, hnp, hnp2, hln2⟩ s3 ⟨pp, x1, y1, rfl, e, g1, g2⟩
    refine ⟨_, _, rfl, SqT.of e, rfl, _, _, rfl, _, _, rfl, rfl, ?_⟩
    cases g1
    have g2 : (ns.map V.int)[i]? = some y1 := g2
    rw [List.getElem?_map] at g2
    obtain ⟨z, ez, rfl⟩ : ∃ z, ns[i]? = some z ∧ V.int z = y1 := by
      cases h : ns[i]? with
      | none => rw [h] at g2; cases g2
      | some p => rw [h] at g2; cases g2; exact ⟨p, rfl, rfl⟩
    have hbz : BdD z := Nat.le_trans (hbs z (List.mem_of_getElem? ez)) (Nat.le_add_right _ _)
    have er3 := s3.old er
    have el3 := s3.old el
    have hrs3 := hrs.mono s3.ts
    have sm3 := sm2.trans s3
    have hl3 := sm3.old hln
    have hrl : (vls es).length = es.length := List.length_map ..
    have hil : i < 63 := by rw [hns] at hi; omega
    walk_at "rd"
    intro m m0 m1
    walk_at "rd"
    refine cutT (fun b H' => H3 = H' ∧ (b = true → 0 < es.length ∧ np < 25)) ?_ ?_
    · walk_at "rd"
      refine iteV (fun h1 => ?_) (fun h1 => ?_)
      · walk_at "rd"
        refine iteD (fun h2 => ?_) (fun h2 => ?_)
        · walk_at "rd"
          exact fun h3 => ⟨by omega, of_decide_eq_true h3⟩
        · walk_at "rd"
          first | exact fun z => (by cases z) | exact ⟨rfl, fun z => (by cases z)⟩
      · walk_at "rd"
        first | exact fun z => (by cases z) | exact ⟨rfl, fun z => (by cases z)⟩
    rintro b H' ⟨rfl, hb1⟩
    cases b with
    | true =>
      obtain ⟨h1, h2⟩ := hb1 rfl
      obtain ⟨es', p, rfl⟩ := last1 h1
      have er' : H3 lr = some (.lst (vls es' ++ [p.v])) := by rw [er3]; simp [vls]
      rw [List.length_append, List.length_singleton] at hnp
      rw [wct_app, wct_one] at hct
      rw [List.length_append, wln_app, wln_one, List.length_singleton] at hln2
      have hp := hrs3 p (by simp)
      have hl1 : (vls es').length ≤ 29 := by rw [List.length_map]; omega
      walk_at "rd"
      refine q_pop er' fun H4 c4 => ?_
      walk_at "rd"
      refine ⟨p.v, p.ts, p.c, 2, rfl, hp.1.mono c4.ts, hp.2, by omega, fun v5 H5 ts5 sm5 hv5 hW5 hl5 => ?_⟩
      have er5 := sm5.old c4.at
      have el5 := sm5.old (c4.old nlr el3)
      obtain ⟨p5, w5, r5, rfl, hp5⟩ := hv5
      walk_at "rd"
      refine q_addS Sm rfl ?_ ?_
      · simp only [List.length_append, List.length_cons, List.length_nil]; omega
      walk_at "rd"
      intro q6 H6 n6
      walk_at "rd"
      intro q7 H7 n7
      walk_at "rd"
      intro H8 c8
      walk_at "rd"
      have er7 := n7.old (n6.old er5)
      have el7 := n7.old (n6.old el5)
      have n7l : q7 ≠ lr := (n7.ne (n6.old er5)).symm
      have ts8 : TSame H3 H8 := (((c4.ts.trans sm5.ts).trans n6.ts).trans n7.ts).trans c8.ts
      refine hnx0 _ _ ⟨_, _, _, _, _, _, _, _, es' ++ [⟨[45] :: ts5, p.c, .ref q7⟩], lf, np + 1, rfl, (((sm3.chg fr c4).trans sm5).new n6 |>.new n7).chg fr c8, by rw [c8.at]; simp [vls], c8.old nlr el7, RW.snoc (e := ⟨[45] :: ts5, p.c, .ref q7⟩) (fun y hy => (hrs3.mono ts8) y (by simp [hy])) ⟨q7, .ref q6, 2, rfl, c8.old n7l n7.at⟩ hW5.turned, hlf, by rw [wct_app, wct_one]; exact hct, ?_, by omega, ?_⟩
      · rw [List.length_append, List.length_singleton]
        omega
      · rw [List.length_append, wln_app, wln_one, List.length_singleton]
        simp only [List.flatten_cons, List.length_append, List.length_singleton]
        omega
    | false =>
      walk_at "rd"
      refine cutT (fun b H' => H3 = H' ∧ (b = true → 0 < es.length ∧ np < 25)) ?_ ?_
      · walk_at "rd"
        refine iteV (fun h1 => ?_) (fun h1 => ?_)
        · walk_at "rd"
          refine iteD (fun h2 => ?_) (fun h2 => ?_)
          · walk_at "rd"
            exact fun h3 => ⟨by omega, of_decide_eq_true h3⟩
          · walk_at "rd"
            first | exact fun z => (by cases z) | exact ⟨rfl, fun z => (by cases z)⟩
        · walk_at "rd"
          first | exact fun z => (by cases z) | exact ⟨rfl, fun z => (by cases z)⟩
      rintro b H' ⟨rfl, hb1⟩
      cases b with
      | true =>
        obtain ⟨h1, h2⟩ := hb1 rfl
        obtain ⟨es', p, rfl⟩ := last1 h1
        have er' : H3 lr = some (.lst (vls es' ++ [p.v])) := by rw [er3]; simp [vls]
        rw [List.length_append, List.length_singleton] at hnp
        rw [wct_app, wct_one] at hct
        rw [List.length_append, wln_app, wln_one, List.length_singleton] at hln2
        have hp := hrs3 p (by simp)
        have hl1 : (vls es').length ≤ 29 := by rw [List.length_map]; omega
        walk_at "rd"
        refine q_pop er' fun H4 c4 => ?_
        walk_at "rd"
        refine ⟨p.v, p.ts, p.c, 3, rfl, hp.1.mono c4.ts, hp.2, by omega, fun v5 H5 ts5 sm5 hv5 hW5 hl5 => ?_⟩
        have er5 := sm5.old c4.at
        have el5 := sm5.old (c4.old nlr el3)
        walk_at "rd"
        intro H8 c8
        walk_at "rd"
        have ts8 : TSame H3 H8 := (c4.ts.trans sm5.ts).trans c8.ts
        refine hnx0 _ _ ⟨_, _, _, _, _, _, _, _, es' ++ [⟨ts5, p.c, v5⟩], lf, np + 1, rfl, ((sm3.chg fr c4).trans sm5).chg fr c8, by rw [c8.at]; simp [vls], c8.old nlr el5, RW.snoc (fun y hy => (hrs3.mono ts8) y (by simp [hy])) (hv5.mono c8.ts) hW5, hlf, by rw [wct_app, wct_one]; exact hct, ?_, by omega, ?_⟩
        · rw [List.length_append, List.length_singleton]
          omega
        · rw [List.length_append, wln_app, wln_one, List.length_singleton]
          simp only
          omega
      | false =>
        walk_at "rd"
        refine cutT (fun b H' => H3 = H' ∧ (b = true → 1 < es.length)) ?_ ?_
        · walk_at "rd"
          refine iteD (fun h1 => ?_) (fun h1 => ?_)
          · walk_at "rd"
            exact fun h2 => by have := of_decide_eq_true h2; omega
          · walk_at "rd"
            first | exact fun z => (by cases z) | exact ⟨rfl, fun z => (by cases z)⟩
        rintro b H' ⟨rfl, hb2⟩
        cases b with
        | true =>
          have h1 := hb2 rfl
          obtain ⟨es', p, q, rfl⟩ := last2 h1
          have er' : H3 lr = some (.lst ((vls es' ++ [p.v]) ++ [q.v])) := by rw [er3]; simp [vls]
          rw [List.length_append, List.length_append, List.length_singleton, List.length_singleton] at hnp
          rw [wct_app, wct_app, wct_one, wct_one] at hct
          rw [List.length_append, List.length_append, wln_app, wln_app, wln_one, wln_one, List.length_singleton, List.length_singleton] at hln2
          have hp := hrs3 p (by simp)
          have hq := hrs3 q (by simp)
          have hl1 : (vls es').length ≤ 29 := by rw [List.length_map]; omega
          walk_at "rd"
          refine q_pop er' fun H4 c4 => ?_
          walk_at "rd"
          refine q_pop c4.at fun H5 c5 => ?_
          have ts5 : TSame H3 H5 := c4.ts.trans c5.ts
          walk_at "rd"
          refine ⟨p.v, q.v, p.ts, q.ts, p.c, q.c, _, rfl, hp.1.mono ts5, hp.2, hq.1.mono ts5, hq.2, by omega, fun v H6 ts6 sm6 hv6 hW6 hl6 => ?_⟩
          have er6 := sm6.old c5.at
          have el6 := sm6.old (c5.old nlr (c4.old nlr el3))
          walk_at "rd"
          intro H7 c7
          have ts7 : TSame H3 H7 := (ts5.trans sm6.ts).trans c7.ts
          refine hnx0 _ _ ⟨_, _, _, _, _, _, _, _, es' ++ [⟨ts6, p.c + q.c, v⟩], lf, np, rfl, (((sm3.chg fr c4).chg fr c5).trans sm6).chg fr c7, by rw [c7.at]; simp [vls], c7.old nlr el6, RW.snoc (fun y hy => (hrs3.mono ts7) y (by simp [hy])) (hv6.mono c7.ts) hW6, hlf, by rw [wct_app, wct_one]; simp only; omega, ?_, by omega, ?_⟩
          · rw [List.length_append, List.length_singleton]
            omega
          · rw [List.length_append, wln_app, wln_one, List.length_singleton]
            simp only
            omega
        | false =>
          walk_at "rd"
          refine iteD (fun h1 => ?_) (fun h1 => ?_)
          · have hl1 : (vls es).length ≤ 29 := by rw [List.length_map]; omega
            walk_at "rd"
            refine ⟨_, lnm, xs, rfl, by omega, by omega, hl3, hxl, hnm, fun v H4 sm4 hv4 => ?_⟩
            have er4 := sm4.old er3
            have el4 := sm4.old el3
            have hrs4 := hrs3.mono sm4.ts
            have sm4' := sm3.trans sm4
            have hlfl : lf.length ≤ 1 := by omega
            have hlm : (bls lf).length = lf.length := List.length_map ..
            obtain ⟨p4, rfl, hcase⟩ := leaf_wt hv4
            walk_at "rd"
            refine cutS (fun σ' H' => H4 = H' ∧ ∃ tl : List Nat, σ' = [some (.ref a), some (.ref lnm), some (.ref lsp), some (.int 25), some (.ref ll), some (.ref lr), some (.int np), some (.int (i : Int)), some (.int z), some (.int m), some (.int (m % 8)), u11, u12, some (.ref p4), some (.str (S tl))] ∧ tl.length ≤ 14 ∧ Wt 0 [tl]) ?_ ?_
            · rcases hcase with ⟨l, hp4, hll, hW⟩ | ⟨n, hn, hp4, hll, hW⟩
              · walk_at "rd"
                refine .inl ⟨_, rfl, ?_⟩
                walk_at "rd"
                exact hW
              · walk_at "rd"
                refine .inr ⟨_, rfl, log_small hn, ?_⟩
                rw [figs_str]
                walk_at "rd"
                exact hW
            rintro σ' H' ⟨rfl, tl, rfl, htl, hWtl⟩
            clear hcase
            walk_at "rd"
            refine cutS (fun σ' H5 => ∃ lf' ts c, σ' = [some (.ref a), some (.ref lnm), some (.ref lsp), some (.int 25), some (.ref ll), some (.ref lr), some (.int np), some (.int (i : Int)), some (.int z), some (.int m), some (.int (m % 8)), u11, u12, some (.ref p4), some (.str (S ts.flatten))] ∧ Same H H5 ∧ TSame H4 H5 ∧ H5 lr = some (.lst (vls es)) ∧ H5 ll = some (.lst (bls lf')) ∧ BdsOk lf' ∧ c + lf'.length = lf.length ∧ Wt c ts ∧ ts.flatten.length ≤ 14) ?_ ?_
            · walk_at "rd"
              refine cutT (fun b H' => H4 = H' ∧ (b = true → 0 < lf.length)) ?_ ?_
              · walk_at "rd"
                refine iteV (fun h1 => ?_) (fun h1 => ?_)
                · walk_at "rd"
                  exact fun h2 => by have := of_decide_eq_true h2; omega
                · walk_at "rd"
                  first | exact fun z => (by cases z) | exact ⟨rfl, fun z => (by cases z)⟩
              rintro b H' ⟨rfl, hb3⟩
              cases b with
              | true =>
                obtain ⟨lf', ts, rfl⟩ := last1 (hb3 rfl)
                have el' : H4 ll = some (.lst (bls lf' ++ [V.str (S ts.flatten)])) := by rw [el4]; simp [bls]
                obtain ⟨hW, hlt⟩ := hlf ts (by simp)
                have hl2 : (bls lf').length ≤ 29 := by rw [List.length_map]; rw [List.length_append] at hlfl; omega
                walk_at "rd"
                refine q_pop el' fun H5 c5 => ?_
                walk_at "rd"
                exact ⟨lf', ts, 1, rfl, sm4'.chg n0.free c5, c5.ts, c5.old nlr.symm er4, c5.at, fun x hx => hlf x (List.mem_append.mpr (.inl hx)), by rw [List.length_append, List.length_singleton]; omega, hW, hlt⟩
              | false =>
                walk_at "rd"
                exact ⟨lf, [tl], 0, by simp, sm4', fun _ _ h => h, er4, el4, hlf, Nat.zero_add _, hWtl, by simpa using htl⟩
            rintro σ' H5 ⟨lf', ts, c, rfl, sm5, ts5, er5, el5, hlf5, hc5, hW5, hlt5⟩
            walk_at "rd"
            intro q6 H6 n6
            have er6 := n6.old er5
            walk_at "rd"
            intro H7 c7
            walk_at "rd"
            have n6l : q6 ≠ lr := (n6.ne er5).symm
            refine hnx0 _ _ ⟨_, _, _, _, _, _, _, _, es ++ [⟨ts, c, .ref q6⟩], lf', np + 2, rfl, (sm5.new n6).chg fr c7, by rw [c7.at]; simp [vls], c7.old nlr (n6.old el5), RW.snoc (hrs4.mono ((ts5.trans n6.ts).trans c7.ts)) ⟨q6, _, 2, rfl, c7.old n6l n6.at⟩ hW5, hlf5, by rw [wct_app, wct_one]; simp only; omega, ?_, by omega, ?_⟩
            · rw [List.length_append, List.length_singleton]
              omega
            · rw [List.length_append, wln_app, wln_one, List.length_singleton]
              simp only
              omega
          · walk_at "rd"
            exact hnx0 _ _ ⟨_, _, _, _, _, _, _, _, es, lf, np, rfl, sm3, er3, el3, hrs3, hlf, hct, hnp, hnp2, hln2⟩
  rintro σ H2 ⟨u7, u8, u9, u10, u11, u12, u13, u14, es, lf, np, rfl, sm2, er, el, hrs, hlf, hct, hnp, hnp2, hln2⟩
  have hrl : (vls es).length = es.length := List.length_map ..
  walk_at "rd"
  refine cutS (fun σ' H' => ∃ es : List Pt, σ' = [some (.ref a), some (.ref lnm), some (.ref lsp), some (.int 25), some (.ref ll), some (.ref lr), some (.int np), u7, u8, u9, u10, u11, u12, u13, u14] ∧ Same H H' ∧ H' lr = some (.lst (vls es)) ∧ H' ll = some (.lst (bls lf)) ∧ RW H' es ∧ wct es + lf.length = bs.length ∧ 0 < es.length ∧ es.length ≤ 24 ∧ wln es + 5 * es.length ≤ 500) ?_ ?_
  · walk_at "rd"
    refine iteV (fun h1 => ?_) (fun h1 => ?_)
    · have h0 : es = [] := List.eq_nil_of_length_eq_zero (by omega)
      subst h0
      walk_at "rd"
      intro q3 H3 n3
      walk_at "rd"
      intro q4 H4 n4
      walk_at "rd"
      intro H5 c5
      have er3 := n3.old er
      have n4l : q4 ≠ lr := (n4.ne er3).symm
      refine ⟨[⟨[[48]], 0, .ref q4⟩], rfl, ((sm2.new n3).new n4).chg fr c5, c5.at, c5.old nlr (n4.old (n3.old el)), fun p hp => ?_, hct, by simp, by simp, by rw [wln_one]; exact Nat.le_of_ble_eq_true rfl⟩
      rw [List.mem_singleton.mp hp]
      exact ⟨⟨q4, .ref q3, 2, rfl, c5.old n4l n4.at⟩, wt0⟩
    · walk_at "rd"
      first | exact ⟨es, rfl, sm2, er, el, hrs, hct, by omega, by omega, by omega⟩ | skip
  clear hrs er hrl hnp hln2 hct sm2 el
  rintro σ' H3 ⟨es, rfl, sm3, er, el, hrs, hct, hr0, hr1, hr2⟩
  walk_at "rd"
  refine ⟨fun m σ H4 => ∃ u12, ∃ es : List Pt, σ = [some (.ref a), some (.ref lnm), some (.ref lsp), some (.int 25), some (.ref ll), some (.ref lr), some (.int np), u7, u8, u9, u10, u11, u12, u13, u14] ∧ Same H H4 ∧ H4 lr = some (.lst (vls es)) ∧ H4 ll = some (.lst (bls lf)) ∧ RW H4 es ∧ wct es + lf.length = bs.length ∧ 0 < es.length ∧ es.length ≤ 24 ∧ wln es + 5 * es.length ≤ 500 ∧ m = es.length, ⟨_, _, es, rfl, sm3, er, el, hrs, hct, hr0, hr1, hr2, rfl⟩, ?_⟩
  rintro m σ H4 ⟨u12, es, rfl, sm4, er4, el4, hrs4, hct, hr0, hr1, hr2, rfl⟩
  have hrl : (vls es).length = es.length := List.length_map ..
  walk_at "rd"
  refine ite2 (fun hpos => ?_) (fun hneg => ?_)
  · have hpos := of_decide_eq_true hpos
    rw [hrl] at hpos
    refine ⟨_, fun _ _ h => h, ?_⟩
    obtain ⟨es', p, q, rfl⟩ := last2 (l := es) (by omega)
    have er' : H4 lr = some (.lst ((vls es' ++ [p.v]) ++ [q.v])) := by rw [er4]; simp [vls]
    rw [wct_app, wct_app, wct_one, wct_one] at hct
    rw [List.length_append, List.length_append, List.length_singleton, List.length_singleton] at hr1
    rw [List.length_append, List.length_append, wln_app, wln_app, wln_one, wln_one, List.length_singleton, List.length_singleton] at hr2
    have hp := hrs4 p (by simp)
    have hq := hrs4 q (by simp)
    have hl1 : (vls es').length ≤ 29 := by rw [List.length_map]; omega
    walk_at "rd"
    refine q_pop er' fun H5 c5 => ?_
    walk_at "rd"
    refine q_pop c5.at fun H6 c6 => ?_
    have ts6 : TSame H4 H6 := c5.ts.trans c6.ts
    walk_at "rd"
    refine ⟨p.v, q.v, p.ts, q.ts, p.c, q.c, _, rfl, hp.1.mono ts6, hp.2, hq.1.mono ts6, hq.2, by omega, fun v H7 ts7 sm7 hv7 hW7 hl7 => ?_⟩
    have er7 := sm7.old c6.at
    have el7 := sm7.old (c6.old nlr (c5.old nlr el4))
    walk_at "rd"
    intro H8 c8
    have ts8 : TSame H4 H8 := (ts6.trans sm7.ts).trans c8.ts
    refine ⟨_, ?_, _, es' ++ [⟨ts7, p.c + q.c, v⟩], rfl, (((sm4.chg fr c5).chg fr c6).trans sm7).chg fr c8, by rw [c8.at]; simp [vls], c8.old nlr el7, RW.snoc (fun y hy => (hrs4.mono ts8) y (by simp [hy])) (hv7.mono c8.ts) hW7, by rw [wct_app, wct_one]; simp only; omega, by simp, ?_, ?_, rfl⟩
    · simp
    · rw [List.length_append, List.length_singleton]
      omega
    · rw [List.length_append, wln_app, wln_one, List.length_singleton]
      simp only
      omega
  · have hneg : ¬ (1 : Int) < ((vls es).length : Int) := fun z => hneg (decide_eq_true z)
    rw [hrl] at hneg
    obtain ⟨y, rfl⟩ : ∃ y, es = [y] := by
      have h1 : es.length = 1 := by omega
      match es, h1 with
      | [y], _ => exact ⟨y, rfl⟩
    have hy := hrs4 y (by simp)
    have er5 : H4 lr = some (.lst [y.v]) := er4
    rw [wct_one] at hct
    rw [wln_one] at hr2
    have hsp4 := sm4.old hsp
    have hlm : (bls lf).length = lf.length := List.length_map ..
    walk_at "rd"
    intro q5 H5 n5
    refine k q5 y.v H5 y.ts y.c _ (sm4.new n5) n5.at (hy.1.mono n5.ts) hy.2 (fun hb => ?_) (fun hb => ?_) (by rw [List.length_singleton] at hr2; omega)
    · have := of_decide_eq_true hb
      omega
    · subst hb
      simp at hct
      exact hct.1

def sp_law (K : PySem.W.Frag) : Sp := fun vs H Q _ => ∃ a, ∃ ns : List Int, vs = [.ref a] ∧ SqL K H a (ns.map V.int) ∧ ns.length ≤ 63 ∧ (∀ z ∈ ns, Builtin.Int.intBits z ≤ 2 ^ 20) ∧ ∀ H', Q (.bl true) H'
theorem ok_law_ (T : Txt w K mg t) : FnOk P w K mg base CX0 7 t.f_law_ t.d_law_ ["_law_script"] (My.sp_law K) := by
  refine T.F_law_.ok sc_law_ (fun vs H Q E h => ?_) (fun cdv A outer s H vs Q E hr h => ?_)
  · obtain ⟨_, _, rfl, _⟩ := h
    rfl
  obtain ⟨a, ns, rfl, hS, hl, hbits, k⟩ := h
  refine ⟨_, (pss_cons (ps_set (i := 1) sc_law_.nd rfl (Or.inl rfl) (pe_slice (sl_listK (K := K) rfl) (pv 0) po_none (po_some pe_int)))
        (pss_cons (ps_set (i := 2) sc_law_.nd rfl (Or.inl rfl) pe_int)
        (pss_cons (ps_cut (ps_if (pt_cmpR op_gt (pe_callB (call_lenK (K := K) rfl) (by rfl) T.nb_len bt_len (pa_cons (pv 1) pa_nil)) pe_int (nomark _)) (pss_one (ps_set (i := 2) sc_law_.nd rfl (Or.inl rfl) (pe_ix (ix_listK (K := K) rfl) (pv 1) pe_int (fun _ _ => rfl)))) pss_nil))
        (pss_cons (ps_set (i := 3) sc_law_.nd rfl (Or.inl rfl) (pe_call0 (ok_law_bad T) (hr.mono (by decide)) rfl T.m_law_bad T.F_law_bad.kp T.b_law_bad .nil pass0))
        (pss_cons (ps_set (i := 4) sc_law_.nd rfl (Or.inl rfl) (pe_op op_mod (pe_call (ok_law_mixed T) (hr.mono (by decide)) rfl T.m_law_mixed T.F_law_mixed.kp T.b_law_mixed .nil pass0 (pa_cons (pv 2) (pa_cons pe_int pa_nil))) (pe_callB (call_lenK (K := K) rfl) (by rfl) T.nb_len bt_len (pa_cons (pv 3) pa_nil))))
        (pss_cons (ps_if (pt_cut (PW.pt (pw_or (pt_not (pt_val (pe_call (ok_law_refused T) (hr.mono (by decide)) rfl T.m_law_refused T.F_law_refused.kp T.b_law_refused .nil pass0 (pa_cons pe_str pa_nil)))) (pw_or1 (pt_not (pt_val (pe_call (ok_law_refused T) (hr.mono (by decide)) rfl T.m_law_refused T.F_law_refused.kp T.b_law_refused .nil pass0 (pa_cons (pe_ix (ix_listK (K := K) rfl) (pv 3) (pv 4) (fun _ _ => rfl)) pa_nil)))))))) (pss_one (ps_ret pe_bl)) pss_nil)
        (pss_cons (ps_asg (pe_call (ok_law_written T) (hr.mono (by decide)) rfl T.m_law_written T.F_law_written.kp T.b_law_written .nil pass0 (pa_cons (pv 1) (pa_cons (pe_call (ok_law_names T) (hr.mono (by decide)) rfl T.m_law_names T.F_law_names.kp T.b_law_names .nil pass0 (pa_cons (pv 2) pa_nil)) (pa_cons (pe_lstN (pa_cons (pe_ix (ix_listK (K := K) rfl) (pv 3) (pv 4) (fun _ _ => rfl)) pa_nil)) (pa_cons pe_int pa_nil))))) (by refine pg_pair (K := K) (i := 5) (j := 6) ?_ ?_ ?_ ?_; (exact rfl); (exact rfl); (exact (pg_name (i := 5) sc_law_.nd rfl (Or.inl rfl))); (exact (pg_name (i := 6) sc_law_.nd rfl (Or.inl rfl)))))
        (pss_cons (ps_if (pt_cut (PW.pt (pw_and (pt_val (pv 6)) (pw_and1 (pt_not (pt_val (pe_call (ok_law_refused T) (hr.mono (by decide)) rfl T.m_law_refused T.F_law_refused.kp T.b_law_refused .nil pass0 (pa_cons (pe_ix (ix_tupK (K := K) rfl) (pv 5) pe_int (fun _ _ => rfl)) pa_nil)))))))) (pss_one (ps_ret pe_bl)) pss_nil)
        (pss_cons (ps_asg (pe_call (ok_law_written T) (hr.mono (by decide)) rfl T.m_law_written T.F_law_written.kp T.b_law_written .nil pass0 (pa_cons (pv 1) (pa_cons (pe_call (ok_law_names T) (hr.mono (by decide)) rfl T.m_law_names T.F_law_names.kp T.b_law_names .nil pass0 (pa_cons (pv 2) pa_nil)) (pa_cons (pe_lstN pa_nil) (pa_cons pe_int pa_nil))))) (by refine pg_pair (K := K) (i := 5) (j := 6) ?_ ?_ ?_ ?_; (exact rfl); (exact rfl); (exact (pg_name (i := 5) sc_law_.nd rfl (Or.inl rfl))); (exact (pg_name (i := 6) sc_law_.nd rfl (Or.inl rfl)))))
        (pss_cons (ps_set (i := 7) sc_law_.nd rfl (Or.inl rfl) (pe_call (ok_law_joined T) (hr.mono (by decide)) rfl T.m_law_joined T.F_law_joined.kp T.b_law_joined .nil pass0 (pa_cons (pe_op op_mod (pv 2) pe_int) (pa_cons (pv 5) (pa_cons (pe_tupN (pa_cons (pe_ix (ix_listK (K := K) rfl) (pv 3) (pv 4) (fun _ _ => rfl)) (pa_cons (pe_tupN (pa_cons pe_str (pa_cons pe_int pa_nil))) (pa_cons pe_int pa_nil)))) pa_nil)))))
        (pss_cons (ps_set (i := 8) sc_law_.nd rfl (Or.inl rfl) (pe_call (ok_law_joined T) (hr.mono (by decide)) rfl T.m_law_joined T.F_law_joined.kp T.b_law_joined .nil pass0 (pa_cons (pe_op op_mod (pe_op op_fdivL (pv 2) pe_int) pe_int) (pa_cons (pe_tupN (pa_cons (pe_ix (ix_listK (K := K) rfl) (pv 3) (pv 4) (fun _ _ => rfl)) (pa_cons (pe_tupN (pa_cons pe_str (pa_cons pe_int pa_nil))) (pa_cons pe_int pa_nil)))) (pa_cons (pv 5) pa_nil)))))
        (pss_one (ps_ret (pe_and (pe_call (ok_law_refused T) (hr.mono (by decide)) rfl T.m_law_refused T.F_law_refused.kp T.b_law_refused .nil pass0 (pa_cons (pe_ix (ix_tupK (K := K) rfl) (pv 7) pe_int (fun _ _ => rfl)) pa_nil)) (pe_one (pe_call (ok_law_refused T) (hr.mono (by decide)) rfl T.m_law_refused T.F_law_refused.kp T.b_law_refused .nil pass0 (pa_cons (pe_ix (ix_tupK (K := K) rfl) (pv 8) pe_int (fun _ _ => rfl)) pa_nil))))))))))))))))), ?_⟩
  walk_at "rd"
  intro lc H1 n1
  have e1 := n1.at
  rw [take63_cut] at e1
  have hcl : (ns.take 63).length ≤ 63 := by simp; omega
  have hcb : ∀ z ∈ ns.take 63, Bd z := fun z hz => hbits z (List.mem_of_mem_take hz)
  generalize ns.take 63 = cs at e1 hcl hcb
  have hlm : (cs.map V.int).length = cs.length := List.length_map ..
  walk_at "rd"
  refine cutS (fun σ' H' => ∃ z : Int, σ' = [some (.ref a), some (.ref lc), some (.int z), none, none, none, none, none, none] ∧ H1 = H' ∧ Bd z) ?_ ?_
  · walk_at "rd"
    refine iteD (fun h => ?_) (fun h => ?_)
    · obtain ⟨z, ez, ez2⟩ := atI_lt (xs := cs) (i := 0) (by omega) (by omega)
      walk_at "rd"
      refine q_ixL (SqL.of e1) (atI_map ez) ?_
      walk_at "rd"
      first | exact hcb z (List.mem_of_getElem? ez2) | exact ⟨z, rfl, rfl, hcb z (List.mem_of_getElem? ez2)⟩
    · walk_at "rd"
      first | exact ⟨1, rfl, rfl, (by decide : Builtin.Int.intBits 1 ≤ 2 ^ 20)⟩ | exact (by decide : Builtin.Int.intBits 1 ≤ 2 ^ 20)
  rintro σ' H' ⟨z, rfl, rfl, hz⟩
  have hzd : BdD z := Nat.le_trans hz (Nat.le_add_right _ _)
  walk_at "rd"
  intro lb H2 sm2 f2 e2
  have hbl : (bads.map fun ts => V.str (S ts.flatten)).length = 20 := by rw [List.length_map]; rfl
  have hE : (Str.ofString "") = S [] := Semp
  walk_at "rd"
  intro m m0 m1
  walk_at "rd"
  rw [hbl]
  obtain ⟨bd, eb, eb2⟩ := atI_lt (xs := bads) (i := m % ((20 : Nat) : Int)) (by omega) (by show m % ((20 : Nat) : Int) < ((20 : Nat) : Int); omega)
  have ebV : atI (bads.map fun ts => V.str (S ts.flatten)) (m % ((20 : Nat) : Int)) = some (V.str (S bd.flatten)) := atI_map eb
  obtain ⟨hWb, hlb⟩ := bads_ok (List.mem_of_getElem? eb2)
  clear eb eb2 m0 m1
  walk_at "rd"
  refine cutT (fun b H' => b = false ∧ Same H2 H') ?_ ?_
  · walk_at "rd"
    refine ⟨show asc [] from fun c hc => (by cases hc), show Ref [] from ref_nil, fun H3 sm3 => ?_⟩
    have e23 := sm3.old e2
    walk_at "rd"
    refine q_ixL (SqL.of e23) ebV ?_
    walk_at "rd"
    refine ⟨hWb.asc, hWb.ref, fun H4 sm4 => ?_⟩
    walk_at "rd"
    exact sm3.trans sm4
  rintro b H3 ⟨rfl, sm3⟩
  have e13 := sm3.old (sm2.old e1)
  have e23 := sm3.old e2
  walk_at "rd"
  intro l4 H4 xs sm4 f4 e4 hxl hnm
  have e24 := sm4.old e23
  walk_at "rd"
  refine q_ixL (SqL.of e24) ebV ?_
  walk_at "rd"
  intro l5 H5 n5
  walk_at "rd"
  refine ⟨lc, l4, l5, cs, xs, [bd], rfl, n5.old (sm4.old e13), hcl, hcb, n5.old e4, hxl, hnm, n5.at, Nat.le_refl _, fun x hx => (by rw [List.mem_singleton.mp hx]; exact ⟨hWb, hlb⟩), fun q6 v6 H6 ts6 c6 b6 sm6 e6 hv6 hW6 hb6 _ hl6 => ?_⟩
  have e26 := sm6.old (n5.old e24)
  have e16 := sm6.old (n5.old (sm4.old e13))
  obtain ⟨p6, vf6, r6, rfl, hp6⟩ := hv6
  walk_at "rd"
  refine ⟨_, _, rfl, SqT.of e6, rfl, _, _, rfl, _, _, rfl, rfl, ?_⟩
  walk_at "rd"
  refine cutT (fun b H' => b = false ∧ Same H6 H') ?_ ?_
  · cases b6 with
    | true =>
      have hc6 := hb6 rfl
      subst hc6
      walk_at "rd"
      refine ⟨hW6.asc, hW6.ref, fun H7 sm7 => ?_⟩
      walk_at "rd"
      try exact sm7
    | false =>
      walk_at "rd"
      first | done | exact Same.refl _ | exact ⟨rfl, Same.refl _⟩
  clear e6 hp6 hW6 hb6 hl6
  rintro b H7 ⟨rfl, sm7⟩
  have e17 := sm7.old e16
  have e27 := sm7.old e26
  clear e16 e26 e13 e23 e24
  walk_at "rd"
  intro l8 H8 xs8 sm8 f8 e8 hxl8 hnm8
  walk_at "rd"
  intro l9 H9 n9
  walk_at "rd"
  refine ⟨lc, l8, l9, cs, xs8, [], rfl, n9.old (sm8.old e17), hcl, hcb, n9.old e8, hxl8, hnm8, n9.at, Nat.zero_le _, fun x hx => (by cases hx), fun q10 v10 H10 ts10 c10 b10 sm10 e10 hv10 hW10 _ hc10 hl10 => ?_⟩
  have hc0 := hc10 rfl
  subst hc0
  have e210 := sm10.old (n9.old (sm8.old e27))
  have hv := hv10
  obtain ⟨p10, vf10, r10, rfl, hp10⟩ := hv10
  walk_at "rd"
  refine ⟨_, _, rfl, SqT.of e10, rfl, _, _, rfl, _, _, rfl, rfl, ?_⟩
  walk_at "rd"
  refine q_ixL (SqL.of e210) ebV ?_
  walk_at "rd"
  intro q11 H11 n11
  walk_at "rd"
  intro q12 H12 n12
  have ts12 : TSame H10 H12 := n11.ts.trans n12.ts
  walk_at "rd"
  refine ⟨.ref p10, .ref q12, ts10, bd, 0, 1, _, rfl, hv.mono ts12, hW10, ⟨q12, .ref q11, 2, rfl, n12.at⟩, hWb, by omega, fun v13 H13 ts13 sm13 hv13 hW13 hl13 => ?_⟩
  have e213 := sm13.old (n12.old (n11.old e210))
  have hv2 := (hv.mono ts12).mono sm13.ts
  clear e210 hp10 e10
  walk_at "rd"
  refine q_ixL (SqL.of e213) ebV ?_
  walk_at "rd"
  intro q14 H14 n14
  walk_at "rd"
  intro q15 H15 n15
  have ts15 : TSame H13 H15 := n14.ts.trans n15.ts
  walk_at "rd"
  refine ⟨.ref q15, .ref p10, bd, ts10, 1, 0, _, rfl, ⟨q15, .ref q14, 2, rfl, n15.at⟩, hWb, hv2.mono ts15, hW10, by omega, fun v16 H16 ts16 sm16 hv16 hW16 hl16 => ?_⟩
  have hv13 := (hv13.mono ts15).mono sm16.ts
  obtain ⟨p13, vf13, r13, rfl, hp13⟩ := hv13
  obtain ⟨p16, vf16, r16, rfl, hp16⟩ := hv16
  have hW13 : Wt 1 ts13 := hW13
  have hW16 : Wt 1 ts16 := hW16
  walk_at "rd"
  refine ⟨hW13.asc, hW13.ref, fun H17 sm17 => ?_⟩
  have hp17 := sm17.old hp16
  walk_at "rd"
  refine ⟨hW16.asc, hW16.ref, fun H18 sm18 => ?_⟩
  walk_at "rd"
  exact k _

end
theorem us_1 {us : List Value} (hl : us.length = 1) : ∃ a0, us = [a0] := match us, hl with | [a0], _ => ⟨a0, rfl⟩
theorem us_2 {us : List Value} (hl : us.length = 2) : ∃ a0 a1, us = [a0, a1] := match us, hl with | [a0, a1], _ => ⟨a0, a1, rfl⟩
theorem us_3 {us : List Value} (hl : us.length = 3) : ∃ a0 a1 a2, us = [a0, a1, a2] := match us, hl with | [a0, a1, a2], _ => ⟨a0, a1, a2, rfl⟩
theorem us_4 {us : List Value} (hl : us.length = 4) : ∃ a0 a1 a2 a3, us = [a0, a1, a2, a3] := match us, hl with | [a0, a1, a2, a3], _ => ⟨a0, a1, a2, a3, rfl⟩
theorem all_mk {l : PySem.W.OpenLaw} {w : World} {K : PySem.W.Frag} {h : Heap} {mg : Str → Option Value} {fa C_OpenSum C_PressError C_TooFew C_TooMany C_TooWide C_NoFormula C_NoName C_NoLine C_NoCircuit C_OutOfWidth f_OpenSum_init f_OpenSum_turn f_OpenSum_take_piece f_OpenSum_end_product f_OpenSum_whole f_read f_begin_piece f_end_piece f_leaf_of f_is_name f_is_written_number f_words_of f_go_together f_is_letter f_is_figure f_law_mixed f_law_names f_law_leaf f_law_in f_law_joined f_law_written f_law_bad f_law_refused f_law_ : Addr} (X : K.In h) (G : h.Ns mainGlobals mg) (hfa : mg "law" = some (.ref fa))
    {od0 an0 : Option Addr} {sl0 : Array (Option Value)} {oc0 kV0 dc0 pm0 cd0 ct0 : Value}
    {od1 an1 : Option Addr} {sl1 : Array (Option Value)} {oc1 kV1 dc1 pm1 cd1 ct1 : Value}
    {od2 an2 : Option Addr} {sl2 : Array (Option Value)} {oc2 kV2 dc2 pm2 cd2 ct2 : Value}
    {od3 an3 : Option Addr} {sl3 : Array (Option Value)} {oc3 kV3 dc3 pm3 cd3 ct3 : Value}
    {od4 an4 : Option Addr} {sl4 : Array (Option Value)} {oc4 kV4 dc4 pm4 cd4 ct4 : Value}
    {od5 an5 : Option Addr} {sl5 : Array (Option Value)} {oc5 kV5 dc5 pm5 cd5 ct5 : Value}
    {od6 an6 : Option Addr} {sl6 : Array (Option Value)} {oc6 kV6 dc6 pm6 cd6 ct6 : Value}
    {od7 an7 : Option Addr} {sl7 : Array (Option Value)} {oc7 kV7 dc7 pm7 cd7 ct7 : Value}
    {od8 an8 : Option Addr} {sl8 : Array (Option Value)} {oc8 kV8 dc8 pm8 cd8 ct8 : Value}
    {od9 an9 : Option Addr} {sl9 : Array (Option Value)} {oc9 kV9 dc9 pm9 cd9 ct9 : Value}
    {od10 an10 : Option Addr} {sl10 : Array (Option Value)} {oc10 kV10 dc10 pm10 cd10 ct10 : Value}
    {od11 an11 : Option Addr} {sl11 : Array (Option Value)} {oc11 kV11 dc11 pm11 cd11 ct11 : Value}
    {od12 an12 : Option Addr} {sl12 : Array (Option Value)} {oc12 kV12 dc12 pm12 cd12 ct12 : Value}
    {od13 an13 : Option Addr} {sl13 : Array (Option Value)} {oc13 kV13 dc13 pm13 cd13 ct13 : Value}
    {od14 an14 : Option Addr} {sl14 : Array (Option Value)} {oc14 kV14 dc14 pm14 cd14 ct14 : Value}
    {od15 an15 : Option Addr} {sl15 : Array (Option Value)} {oc15 kV15 dc15 pm15 cd15 ct15 : Value}
    {od16 an16 : Option Addr} {sl16 : Array (Option Value)} {oc16 kV16 dc16 pm16 cd16 ct16 : Value}
    {od17 an17 : Option Addr} {sl17 : Array (Option Value)} {oc17 kV17 dc17 pm17 cd17 ct17 : Value}
    {od18 an18 : Option Addr} {sl18 : Array (Option Value)} {oc18 kV18 dc18 pm18 cd18 ct18 : Value}
    {od19 an19 : Option Addr} {sl19 : Array (Option Value)} {oc19 kV19 dc19 pm19 cd19 ct19 : Value}
    {od20 an20 : Option Addr} {sl20 : Array (Option Value)} {oc20 kV20 dc20 pm20 cd20 ct20 : Value}
    {od21 an21 : Option Addr} {sl21 : Array (Option Value)} {oc21 kV21 dc21 pm21 cd21 ct21 : Value}
    {od22 an22 : Option Addr} {sl22 : Array (Option Value)} {oc22 kV22 dc22 pm22 cd22 ct22 : Value}
    {od23 an23 : Option Addr} {sl23 : Array (Option Value)} {oc23 kV23 dc23 pm23 cd23 ct23 : Value}
    (aC_OpenSum : PySem.W.nsIn K mainGlobals "OpenSum" = some (some (.ref C_OpenSum)))
    (aC_PressError : PySem.W.nsIn K mainGlobals "PressError" = some (some (.ref C_PressError)))
    (aC_TooFew : PySem.W.nsIn K mainGlobals "TooFew" = some (some (.ref C_TooFew)))
    (aC_TooMany : PySem.W.nsIn K mainGlobals "TooMany" = some (some (.ref C_TooMany)))
    (aC_TooWide : PySem.W.nsIn K mainGlobals "TooWide" = some (some (.ref C_TooWide)))
    (aC_NoFormula : PySem.W.nsIn K mainGlobals "NoFormula" = some (some (.ref C_NoFormula)))
    (aC_NoName : PySem.W.nsIn K mainGlobals "NoName" = some (some (.ref C_NoName)))
    (aC_NoLine : PySem.W.nsIn K mainGlobals "NoLine" = some (some (.ref C_NoLine)))
    (aC_NoCircuit : PySem.W.nsIn K mainGlobals "NoCircuit" = some (some (.ref C_NoCircuit)))
    (aC_OutOfWidth : PySem.W.nsIn K mainGlobals "OutOfWidth" = some (some (.ref C_OutOfWidth)))
    (a0 : PySem.W.findIn K (.ref C_OpenSum) "__init__" = some (some (.ref f_OpenSum_init))) (i0 : PySem.W.isFn K (.ref f_OpenSum_init) = true)
    (l0 : K.lookup f_OpenSum_init = some ⟨oc0, od0, .func (PySem.W.fnOf "__init__" "OpenSum.__init__" (defArgs s_OpenSum_init) (defBody s_OpenSum_init) (defScope s_OpenSum_init) .none kV0 dc0 pm0 an0 cd0 ct0), sl0⟩) (c0 : PySem.W.codeIn K cd0 "OpenSum.__init__" = true) (k0 : PySem.W.keepIn K (.ref f_OpenSum_init) = true)
    (a1 : PySem.W.findIn K (.ref C_OpenSum) "turn" = some (some (.ref f_OpenSum_turn))) (i1 : PySem.W.isFn K (.ref f_OpenSum_turn) = true)
    (l1 : K.lookup f_OpenSum_turn = some ⟨oc1, od1, .func (PySem.W.fnOf "turn" "OpenSum.turn" (defArgs s_OpenSum_turn) (defBody s_OpenSum_turn) (defScope s_OpenSum_turn) .none kV1 dc1 pm1 an1 cd1 ct1), sl1⟩) (c1 : PySem.W.codeIn K cd1 "OpenSum.turn" = true) (k1 : PySem.W.keepIn K (.ref f_OpenSum_turn) = true)
    (a2 : PySem.W.findIn K (.ref C_OpenSum) "take_piece" = some (some (.ref f_OpenSum_take_piece))) (i2 : PySem.W.isFn K (.ref f_OpenSum_take_piece) = true)
    (l2 : K.lookup f_OpenSum_take_piece = some ⟨oc2, od2, .func (PySem.W.fnOf "take_piece" "OpenSum.take_piece" (defArgs s_OpenSum_take_piece) (defBody s_OpenSum_take_piece) (defScope s_OpenSum_take_piece) .none kV2 dc2 pm2 an2 cd2 ct2), sl2⟩) (c2 : PySem.W.codeIn K cd2 "OpenSum.take_piece" = true) (k2 : PySem.W.keepIn K (.ref f_OpenSum_take_piece) = true)
    (a3 : PySem.W.findIn K (.ref C_OpenSum) "end_product" = some (some (.ref f_OpenSum_end_product))) (i3 : PySem.W.isFn K (.ref f_OpenSum_end_product) = true)
    (l3 : K.lookup f_OpenSum_end_product = some ⟨oc3, od3, .func (PySem.W.fnOf "end_product" "OpenSum.end_product" (defArgs s_OpenSum_end_product) (defBody s_OpenSum_end_product) (defScope s_OpenSum_end_product) .none kV3 dc3 pm3 an3 cd3 ct3), sl3⟩) (c3 : PySem.W.codeIn K cd3 "OpenSum.end_product" = true) (k3 : PySem.W.keepIn K (.ref f_OpenSum_end_product) = true)
    (a4 : PySem.W.findIn K (.ref C_OpenSum) "whole" = some (some (.ref f_OpenSum_whole))) (i4 : PySem.W.isFn K (.ref f_OpenSum_whole) = true)
    (l4 : K.lookup f_OpenSum_whole = some ⟨oc4, od4, .func (PySem.W.fnOf "whole" "OpenSum.whole" (defArgs s_OpenSum_whole) (defBody s_OpenSum_whole) (defScope s_OpenSum_whole) .none kV4 dc4 pm4 an4 cd4 ct4), sl4⟩) (c4 : PySem.W.codeIn K cd4 "OpenSum.whole" = true) (k4 : PySem.W.keepIn K (.ref f_OpenSum_whole) = true)
    (a5 : PySem.W.nsIn K mainGlobals "read" = some (some (.ref f_read)))
    (l5 : K.lookup f_read = some ⟨oc5, od5, .func (PySem.W.fnOf "read" "read" (defArgs s_read) (defBody s_read) (defScope s_read) .none kV5 dc5 pm5 an5 cd5 ct5), sl5⟩) (c5 : PySem.W.codeIn K cd5 "read" = true) (k5 : PySem.W.keepIn K (.ref f_read) = true)
    (a6 : PySem.W.nsIn K mainGlobals "begin_piece" = some (some (.ref f_begin_piece)))
    (l6 : K.lookup f_begin_piece = some ⟨oc6, od6, .func (PySem.W.fnOf "begin_piece" "begin_piece" (defArgs s_begin_piece) (defBody s_begin_piece) (defScope s_begin_piece) .none kV6 dc6 pm6 an6 cd6 ct6), sl6⟩) (c6 : PySem.W.codeIn K cd6 "begin_piece" = true) (k6 : PySem.W.keepIn K (.ref f_begin_piece) = true)
    (a7 : PySem.W.nsIn K mainGlobals "end_piece" = some (some (.ref f_end_piece)))
    (l7 : K.lookup f_end_piece = some ⟨oc7, od7, .func (PySem.W.fnOf "end_piece" "end_piece" (defArgs s_end_piece) (defBody s_end_piece) (defScope s_end_piece) .none kV7 dc7 pm7 an7 cd7 ct7), sl7⟩) (c7 : PySem.W.codeIn K cd7 "end_piece" = true) (k7 : PySem.W.keepIn K (.ref f_end_piece) = true)
    (a8 : PySem.W.nsIn K mainGlobals "leaf_of" = some (some (.ref f_leaf_of)))
    (l8 : K.lookup f_leaf_of = some ⟨oc8, od8, .func (PySem.W.fnOf "leaf_of" "leaf_of" (defArgs s_leaf_of) (defBody s_leaf_of) (defScope s_leaf_of) .none kV8 dc8 pm8 an8 cd8 ct8), sl8⟩) (c8 : PySem.W.codeIn K cd8 "leaf_of" = true) (k8 : PySem.W.keepIn K (.ref f_leaf_of) = true)
    (a9 : PySem.W.nsIn K mainGlobals "is_name" = some (some (.ref f_is_name)))
    (l9 : K.lookup f_is_name = some ⟨oc9, od9, .func (PySem.W.fnOf "is_name" "is_name" (defArgs s_is_name) (defBody s_is_name) (defScope s_is_name) .none kV9 dc9 pm9 an9 cd9 ct9), sl9⟩) (c9 : PySem.W.codeIn K cd9 "is_name" = true) (k9 : PySem.W.keepIn K (.ref f_is_name) = true)
    (a10 : PySem.W.nsIn K mainGlobals "is_written_number" = some (some (.ref f_is_written_number)))
    (l10 : K.lookup f_is_written_number = some ⟨oc10, od10, .func (PySem.W.fnOf "is_written_number" "is_written_number" (defArgs s_is_written_number) (defBody s_is_written_number) (defScope s_is_written_number) .none kV10 dc10 pm10 an10 cd10 ct10), sl10⟩) (c10 : PySem.W.codeIn K cd10 "is_written_number" = true) (k10 : PySem.W.keepIn K (.ref f_is_written_number) = true)
    (a11 : PySem.W.nsIn K mainGlobals "words_of" = some (some (.ref f_words_of)))
    (l11 : K.lookup f_words_of = some ⟨oc11, od11, .func (PySem.W.fnOf "words_of" "words_of" (defArgs s_words_of) (defBody s_words_of) (defScope s_words_of) .none kV11 dc11 pm11 an11 cd11 ct11), sl11⟩) (c11 : PySem.W.codeIn K cd11 "words_of" = true) (k11 : PySem.W.keepIn K (.ref f_words_of) = true)
    (a12 : PySem.W.nsIn K mainGlobals "go_together" = some (some (.ref f_go_together)))
    (l12 : K.lookup f_go_together = some ⟨oc12, od12, .func (PySem.W.fnOf "go_together" "go_together" (defArgs s_go_together) (defBody s_go_together) (defScope s_go_together) .none kV12 dc12 pm12 an12 cd12 ct12), sl12⟩) (c12 : PySem.W.codeIn K cd12 "go_together" = true) (k12 : PySem.W.keepIn K (.ref f_go_together) = true)
    (a13 : PySem.W.nsIn K mainGlobals "is_letter" = some (some (.ref f_is_letter)))
    (l13 : K.lookup f_is_letter = some ⟨oc13, od13, .func (PySem.W.fnOf "is_letter" "is_letter" (defArgs s_is_letter) (defBody s_is_letter) (defScope s_is_letter) .none kV13 dc13 pm13 an13 cd13 ct13), sl13⟩) (c13 : PySem.W.codeIn K cd13 "is_letter" = true) (k13 : PySem.W.keepIn K (.ref f_is_letter) = true)
    (a14 : PySem.W.nsIn K mainGlobals "is_figure" = some (some (.ref f_is_figure)))
    (l14 : K.lookup f_is_figure = some ⟨oc14, od14, .func (PySem.W.fnOf "is_figure" "is_figure" (defArgs s_is_figure) (defBody s_is_figure) (defScope s_is_figure) .none kV14 dc14 pm14 an14 cd14 ct14), sl14⟩) (c14 : PySem.W.codeIn K cd14 "is_figure" = true) (k14 : PySem.W.keepIn K (.ref f_is_figure) = true)
    (a15 : PySem.W.nsIn K mainGlobals "_law_mixed" = some (some (.ref f_law_mixed)))
    (l15 : K.lookup f_law_mixed = some ⟨oc15, od15, .func (PySem.W.fnOf "_law_mixed" "_law_mixed" (defArgs s_law_mixed) (defBody s_law_mixed) (defScope s_law_mixed) .none kV15 dc15 pm15 an15 cd15 ct15), sl15⟩) (c15 : PySem.W.codeIn K cd15 "_law_mixed" = true) (k15 : PySem.W.keepIn K (.ref f_law_mixed) = true)
    (a16 : PySem.W.nsIn K mainGlobals "_law_names" = some (some (.ref f_law_names)))
    (l16 : K.lookup f_law_names = some ⟨oc16, od16, .func (PySem.W.fnOf "_law_names" "_law_names" (defArgs s_law_names) (defBody s_law_names) (defScope s_law_names) .none kV16 dc16 pm16 an16 cd16 ct16), sl16⟩) (c16 : PySem.W.codeIn K cd16 "_law_names" = true) (k16 : PySem.W.keepIn K (.ref f_law_names) = true)
    (a17 : PySem.W.nsIn K mainGlobals "_law_leaf" = some (some (.ref f_law_leaf)))
    (l17 : K.lookup f_law_leaf = some ⟨oc17, od17, .func (PySem.W.fnOf "_law_leaf" "_law_leaf" (defArgs s_law_leaf) (defBody s_law_leaf) (defScope s_law_leaf) .none kV17 dc17 pm17 an17 cd17 ct17), sl17⟩) (c17 : PySem.W.codeIn K cd17 "_law_leaf" = true) (k17 : PySem.W.keepIn K (.ref f_law_leaf) = true)
    (a18 : PySem.W.nsIn K mainGlobals "_law_in" = some (some (.ref f_law_in)))
    (l18 : K.lookup f_law_in = some ⟨oc18, od18, .func (PySem.W.fnOf "_law_in" "_law_in" (defArgs s_law_in) (defBody s_law_in) (defScope s_law_in) .none kV18 dc18 pm18 an18 cd18 ct18), sl18⟩) (c18 : PySem.W.codeIn K cd18 "_law_in" = true) (k18 : PySem.W.keepIn K (.ref f_law_in) = true)
    (a19 : PySem.W.nsIn K mainGlobals "_law_joined" = some (some (.ref f_law_joined)))
    (l19 : K.lookup f_law_joined = some ⟨oc19, od19, .func (PySem.W.fnOf "_law_joined" "_law_joined" (defArgs s_law_joined) (defBody s_law_joined) (defScope s_law_joined) .none kV19 dc19 pm19 an19 cd19 ct19), sl19⟩) (c19 : PySem.W.codeIn K cd19 "_law_joined" = true) (k19 : PySem.W.keepIn K (.ref f_law_joined) = true)
    (a20 : PySem.W.nsIn K mainGlobals "_law_written" = some (some (.ref f_law_written)))
    (l20 : K.lookup f_law_written = some ⟨oc20, od20, .func (PySem.W.fnOf "_law_written" "_law_written" (defArgs s_law_written) (defBody s_law_written) (defScope s_law_written) .none kV20 dc20 pm20 an20 cd20 ct20), sl20⟩) (c20 : PySem.W.codeIn K cd20 "_law_written" = true) (k20 : PySem.W.keepIn K (.ref f_law_written) = true)
    (a21 : PySem.W.nsIn K mainGlobals "_law_bad" = some (some (.ref f_law_bad)))
    (l21 : K.lookup f_law_bad = some ⟨oc21, od21, .func (PySem.W.fnOf "_law_bad" "_law_bad" (defArgs s_law_bad) (defBody s_law_bad) (defScope s_law_bad) .none kV21 dc21 pm21 an21 cd21 ct21), sl21⟩) (c21 : PySem.W.codeIn K cd21 "_law_bad" = true) (k21 : PySem.W.keepIn K (.ref f_law_bad) = true)
    (a22 : PySem.W.nsIn K mainGlobals "_law_refused" = some (some (.ref f_law_refused)))
    (l22 : K.lookup f_law_refused = some ⟨oc22, od22, .func (PySem.W.fnOf "_law_refused" "_law_refused" (defArgs s_law_refused) (defBody s_law_refused) (defScope s_law_refused) .none kV22 dc22 pm22 an22 cd22 ct22), sl22⟩) (c22 : PySem.W.codeIn K cd22 "_law_refused" = true) (k22 : PySem.W.keepIn K (.ref f_law_refused) = true)
    (a23 : PySem.W.nsIn K mainGlobals "law" = some (some (.ref f_law_)))
    (l23 : K.lookup f_law_ = some ⟨oc23, od23, .func (PySem.W.fnOf "law" "law" (defArgs s_law_) (defBody s_law_) (defScope s_law_) .none kV23 dc23 pm23 an23 cd23 ct23), sl23⟩) (c23 : PySem.W.codeIn K cd23 "law" = true) (k23 : PySem.W.keepIn K (.ref f_law_) = true)
    (pg_OpenSum : PySem.W.plainGet K C_OpenSum Str.empty = true) (hd_OpenSum : PySem.W.hasDictIn K C_OpenSum = true) (po_OpenSum : PySem.W.plainOver K C_OpenSum = true) (sa_OpenSum : PySem.W.findIn K (.ref C_OpenSum) "__setattr__" = some (some (.builtin "object.__setattr__"))) (kc_OpenSum : PySem.W.keepIn K (.ref C_OpenSum) = true)
    (mk_OpenSum : PySem.W.makesIn K C_OpenSum = true)
    (n_OpenSum_total : PySem.W.findIn K (.ref C_OpenSum) "total" = some none)
    (n_OpenSum_kind : PySem.W.findIn K (.ref C_OpenSum) "kind" = some none)
    (n_OpenSum_product : PySem.W.findIn K (.ref C_OpenSum) "product" = some none)
    (n_OpenSum_turns : PySem.W.findIn K (.ref C_OpenSum) "turns" = some none)
    (fa_x_NoFormula : PySem.W.excIn K C_NoFormula veM "ValueError.__new__" = true)
    (fa_exm_nof : PySem.W.exmOne K (.ref C_NoFormula) (.ref C_NoFormula) = some true)
    (fa_kany_nof : PySem.W.kitAny K (.ref C_NoFormula) [.ref C_TooFew, .ref C_TooMany, .ref C_TooWide, .ref C_NoName, .ref C_NoLine, .ref C_NoCircuit, .ref C_OutOfWidth] = some false)
    (fa_kone_nof : PySem.W.kitOne K (.ref C_NoFormula) (.ref C_PressError) = some true)
    (fa_kval_nof : PySem.W.kitOne K (.ref C_NoFormula) (.type "ValueError") = some true)
    (fa_ga_nof : PySem.W.findIn K (.ref C_NoFormula) "__getattribute__" = some (some (.builtin "BaseException.__getattribute__")))
    (fa_gt_nof : PySem.W.findIn K (.ref C_NoFormula) "__getattr__" = some none)
    (fa_gc_nof : PySem.W.findIn K (.ref C_NoFormula) "__class__" = some (some (.builtin "object.__class__")))
    (fa_go_nof : PySem.W.mroIn K C_NoFormula (.type "object") = some true)
    (fa_gb_nof : PySem.W.mroIn K C_NoFormula (.type "BaseException") = some true)
    (fa_gl_nof : PySem.W.isClsIn K C_NoFormula = true)
    {tk_MOST_LETTERS : Tok} (ga_MOST_LETTERS : PySem.W.nsIn K mainGlobals "MOST_LETTERS" = some (some (.int 6 tk_MOST_LETTERS)))
    {tk_GREATEST_NUMBER : Tok} (ga_GREATEST_NUMBER : PySem.W.nsIn K mainGlobals "GREATEST_NUMBER" = some (some (.int 1000000000000 tk_GREATEST_NUMBER)))
    {ga_SUM_KINDS_a : Addr} {ga_SUM_KINDS_k0 ga_SUM_KINDS_v0 ga_SUM_KINDS_k1 ga_SUM_KINDS_v1 : Tok} {ga_SUM_KINDS_e : Nat} (gb_SUM_KINDS : PySem.W.nsIn K mainGlobals "SUM_KINDS" = some (some (.ref ga_SUM_KINDS_a))) (gc_SUM_KINDS : K.lookup ga_SUM_KINDS_a = some { cls := .type "dict", data := .dict #[⟨PyData.keyHash w.params "+", .str "+" ga_SUM_KINDS_k0, .str "plus" ga_SUM_KINDS_v0⟩, ⟨PyData.keyHash w.params "-", .str "-" ga_SUM_KINDS_k1, .str "less" ga_SUM_KINDS_v1⟩] ga_SUM_KINDS_e }) (ge_SUM_KINDS : (ga_SUM_KINDS_a == sysModules) = false)
    (z_ValueError : PySem.W.nsIn K mainGlobals "ValueError" = some none)
    (z_all : PySem.W.nsIn K mainGlobals "all" = some none)
    (z_enumerate : PySem.W.nsIn K mainGlobals "enumerate" = some none)
    (z_int : PySem.W.nsIn K mainGlobals "int" = some none)
    (z_isinstance : PySem.W.nsIn K mainGlobals "isinstance" = some none)
    (z_len : PySem.W.nsIn K mainGlobals "len" = some none)
    (z_list : PySem.W.nsIn K mainGlobals "list" = some none)
    (z_range : PySem.W.nsIn K mainGlobals "range" = some none)
    (z_str : PySem.W.nsIn K mainGlobals "str" = some none) :
    ∃ fd : FuncData, (∀ (s : Shared) (v : Value), BindsTo s fd ⟨[v], []⟩ [("_law_script", v)]) ∧ ∀ base : Heap, K.In base → base.Ns mainGlobals mg → FnOk l.prog w K mg base CX0 7 fa fd ["_law_script"] (sp_law K) := by
  have e := hfa.symm.trans (PySem.W.mg_of X G a23)
  cases e
  have F0 := fun_mk (st := s_OpenSum_init) l0 c0 k0
  have b0 := F0.binds (ps := ["self"]) fun _ _ _ _ _ _ us hl => (by obtain ⟨_, rfl⟩ := us_1 hl; rfl)
  have F1 := fun_mk (st := s_OpenSum_turn) l1 c1 k1
  have b1 := F1.binds (ps := ["self"]) fun _ _ _ _ _ _ us hl => (by obtain ⟨_, rfl⟩ := us_1 hl; rfl)
  have F2 := fun_mk (st := s_OpenSum_take_piece) l2 c2 k2
  have b2 := F2.binds (ps := ["self", "piece"]) fun _ _ _ _ _ _ us hl => (by obtain ⟨_, _, rfl⟩ := us_2 hl; rfl)
  have F3 := fun_mk (st := s_OpenSum_end_product) l3 c3 k3
  have b3 := F3.binds (ps := ["self", "kind"]) fun _ _ _ _ _ _ us hl => (by obtain ⟨_, _, rfl⟩ := us_2 hl; rfl)
  have F4 := fun_mk (st := s_OpenSum_whole) l4 c4 k4
  have b4 := F4.binds (ps := ["self"]) fun _ _ _ _ _ _ us hl => (by obtain ⟨_, rfl⟩ := us_1 hl; rfl)
  have F5 := fun_mk (st := s_read) l5 c5 k5
  have b5 := F5.binds (ps := ["text"]) fun _ _ _ _ _ _ us hl => (by obtain ⟨_, rfl⟩ := us_1 hl; rfl)
  have F6 := fun_mk (st := s_begin_piece) l6 c6 k6
  have b6 := F6.binds (ps := ["sums", "word"]) fun _ _ _ _ _ _ us hl => (by obtain ⟨_, _, rfl⟩ := us_2 hl; rfl)
  have F7 := fun_mk (st := s_end_piece) l7 c7 k7
  have b7 := F7.binds (ps := ["sums", "word"]) fun _ _ _ _ _ _ us hl => (by obtain ⟨_, _, rfl⟩ := us_2 hl; rfl)
  have F8 := fun_mk (st := s_leaf_of) l8 c8 k8
  have b8 := F8.binds (ps := ["word"]) fun _ _ _ _ _ _ us hl => (by obtain ⟨_, rfl⟩ := us_1 hl; rfl)
  have F9 := fun_mk (st := s_is_name) l9 c9 k9
  have b9 := F9.binds (ps := ["word"]) fun _ _ _ _ _ _ us hl => (by obtain ⟨_, rfl⟩ := us_1 hl; rfl)
  have F10 := fun_mk (st := s_is_written_number) l10 c10 k10
  have b10 := F10.binds (ps := ["word", "most_figures"]) fun _ _ _ _ _ _ us hl => (by obtain ⟨_, _, rfl⟩ := us_2 hl; rfl)
  have F11 := fun_mk (st := s_words_of) l11 c11 k11
  have b11 := F11.binds (ps := ["text"]) fun _ _ _ _ _ _ us hl => (by obtain ⟨_, rfl⟩ := us_1 hl; rfl)
  have F12 := fun_mk (st := s_go_together) l12 c12 k12
  have b12 := F12.binds (ps := ["first", "second"]) fun _ _ _ _ _ _ us hl => (by obtain ⟨_, _, rfl⟩ := us_2 hl; rfl)
  have F13 := fun_mk (st := s_is_letter) l13 c13 k13
  have b13 := F13.binds (ps := ["sign"]) fun _ _ _ _ _ _ us hl => (by obtain ⟨_, rfl⟩ := us_1 hl; rfl)
  have F14 := fun_mk (st := s_is_figure) l14 c14 k14
  have b14 := F14.binds (ps := ["sign"]) fun _ _ _ _ _ _ us hl => (by obtain ⟨_, rfl⟩ := us_1 hl; rfl)
  have F15 := fun_mk (st := s_law_mixed) l15 c15 k15
  have b15 := F15.binds (ps := ["_law_cell", "_law_k"]) fun _ _ _ _ _ _ us hl => (by obtain ⟨_, _, rfl⟩ := us_2 hl; rfl)
  have F16 := fun_mk (st := s_law_names) l16 c16 k16
  have b16 := F16.binds (ps := ["_law_cell"]) fun _ _ _ _ _ _ us hl => (by obtain ⟨_, rfl⟩ := us_1 hl; rfl)
  have F17 := fun_mk (st := s_law_leaf) l17 c17 k17
  have b17 := F17.binds (ps := ["_law_mixed_here", "_law_names_here"]) fun _ _ _ _ _ _ us hl => (by obtain ⟨_, _, rfl⟩ := us_2 hl; rfl)
  have F18 := fun_mk (st := s_law_in) l18 c18 k18
  have b18 := F18.binds (ps := ["_law_part", "_law_rank"]) fun _ _ _ _ _ _ us hl => (by obtain ⟨_, _, rfl⟩ := us_2 hl; rfl)
  have F19 := fun_mk (st := s_law_joined) l19 c19 k19
  have b19 := F19.binds (ps := ["_law_way", "_law_one", "_law_other"]) fun _ _ _ _ _ _ us hl => (by obtain ⟨_, _, _, rfl⟩ := us_3 hl; rfl)
  have F20 := fun_mk (st := s_law_written) l20 c20 k20
  have b20 := F20.binds (ps := ["_law_cells", "_law_names_here", "_law_spoilt", "_law_most"]) fun _ _ _ _ _ _ us hl => (by obtain ⟨_, _, _, _, rfl⟩ := us_4 hl; rfl)
  have F21 := fun_mk (st := s_law_bad) l21 c21 k21
  have b21 := F21.binds (ps := []) fun _ _ _ _ _ _ us hl => match us, hl with | [], _ => rfl
  have F22 := fun_mk (st := s_law_refused) l22 c22 k22
  have b22 := F22.binds (ps := ["_law_text"]) fun _ _ _ _ _ _ us hl => (by obtain ⟨_, rfl⟩ := us_1 hl; rfl)
  have F23 := fun_mk (st := s_law_) l23 c23 k23
  have b23 := F23.binds (ps := ["_law_script"]) fun _ _ _ _ _ _ us hl => (by obtain ⟨_, rfl⟩ := us_1 hl; rfl)
  have T : Txt w K mg ⟨C_OpenSum, C_PressError, C_TooFew, C_TooMany, C_TooWide, C_NoFormula, C_NoName, C_NoLine, C_NoCircuit, C_OutOfWidth, f_OpenSum_init, _, f_OpenSum_turn, _, f_OpenSum_take_piece, _, f_OpenSum_end_product, _, f_OpenSum_whole, _, f_read, _, f_begin_piece, _, f_end_piece, _, f_leaf_of, _, f_is_name, _, f_is_written_number, _, f_words_of, _, f_go_together, _, f_is_letter, _, f_is_figure, _, f_law_mixed, _, f_law_names, _, f_law_leaf, _, f_law_in, _, f_law_joined, _, f_law_written, _, f_law_bad, _, f_law_refused, _, fa, _⟩ := ⟨F0, b0, F1, b1, ⟨a1, i1, k1⟩, F2, b2, ⟨a2, i2, k2⟩, F3, b3, ⟨a3, i3, k3⟩, F4, b4, ⟨a4, i4, k4⟩, F5, b5, PySem.W.mg_of X G a5, F6, b6, PySem.W.mg_of X G a6, F7, b7, PySem.W.mg_of X G a7, F8, b8, PySem.W.mg_of X G a8, F9, b9, PySem.W.mg_of X G a9, F10, b10, PySem.W.mg_of X G a10, F11, b11, PySem.W.mg_of X G a11, F12, b12, PySem.W.mg_of X G a12, F13, b13, PySem.W.mg_of X G a13, F14, b14, PySem.W.mg_of X G a14, F15, b15, PySem.W.mg_of X G a15, F16, b16, PySem.W.mg_of X G a16, F17, b17, PySem.W.mg_of X G a17, F18, b18, PySem.W.mg_of X G a18, F19, b19, PySem.W.mg_of X G a19, F20, b20, PySem.W.mg_of X G a20, F21, b21, PySem.W.mg_of X G a21, F22, b22, PySem.W.mg_of X G a22, F23, b23, PySem.W.mg_of X G a23, ⟨pg_OpenSum, hd_OpenSum, po_OpenSum, sa_OpenSum⟩, PySem.W.mg_of X G aC_OpenSum, ⟨mk_OpenSum, a0, i0, kc_OpenSum⟩, n_OpenSum_total, n_OpenSum_kind, n_OpenSum_product, n_OpenSum_turns, PySem.W.mg_of X G aC_PressError, PySem.W.mg_of X G aC_TooFew, PySem.W.mg_of X G aC_TooMany, PySem.W.mg_of X G aC_TooWide, PySem.W.mg_of X G aC_NoFormula, PySem.W.mg_of X G aC_NoName, PySem.W.mg_of X G aC_NoLine, PySem.W.mg_of X G aC_NoCircuit, PySem.W.mg_of X G aC_OutOfWidth, fa_x_NoFormula, fa_exm_nof, fa_kany_nof, fa_kone_nof, fa_kval_nof, fa_ga_nof, fa_gt_nof, fa_gc_nof, fa_go_nof, fa_gb_nof, fa_gl_nof, ⟨_, PySem.W.mg_of X G ga_MOST_LETTERS, ⟨_, rfl⟩⟩, ⟨_, PySem.W.mg_of X G ga_GREATEST_NUMBER, ⟨_, rfl⟩⟩, gd_mk (PySem.W.mg_of X G gb_SUM_KINDS) gc_SUM_KINDS ge_SUM_KINDS (by decide +kernel), PySem.W.mg_none_of X G z_ValueError, PySem.W.mg_none_of X G z_all, PySem.W.mg_none_of X G z_enumerate, PySem.W.mg_none_of X G z_int, PySem.W.mg_none_of X G z_isinstance, PySem.W.mg_none_of X G z_len, PySem.W.mg_none_of X G z_list, PySem.W.mg_none_of X G z_range, PySem.W.mg_none_of X G z_str⟩
  exact ⟨_, fun s v => .of_eq rfl, fun base _ _ => ok_law_ T⟩
theorem walk {l : PySem.W.OpenLaw} {q : Program} {loose : List Str} {XP : (Str → Option Value) → Heap → Prop} {YP : World → Heap → Prop} {d : DefRec} {K : Params → PySem.W.Frag} (hn : l.most = some 63) (hdf : d.params.defaults = [])
    (hY : ∀ (w : World) (h : Heap), YP w h → (K w.params).In h)
    (F : ∀ (w : World) (mg : Str → Option Value) (fa : Addr) (h : Heap), (K w.params).In h → h.Ns mainGlobals mg → mg d.name = some (.ref fa) →
      ∃ fd : FuncData, (∀ (s : Shared) (u : Value), BindsTo s fd ⟨[u], []⟩ [("_law_script", u)]) ∧ ∀ base : Heap, (K w.params).In base → base.Ns mainGlobals mg → FnOk l.prog w (K w.params) mg base CX0 7 fa fd ["_law_script"] (sp_law (K w.params))) :
    PySem.W.WalkO q loose XP YP l.row.toRowW d [] (fun f vs => PySem.call f vs) :=
  L2.walk_ofB (n := 63) (k := 7) (x := "_law_script") (CX := fun _ => CX0) (sp := fun w => sp_law (K w.params)) hn (by decide) hdf ⟨rfl, by decide, by decide⟩ hY F (fun _ _ a ns hl hb _ hS => ⟨a, ns, rfl, hS, hl, hb, fun _ => rfl⟩) fun _ _ _ _ _ z => z
end My
open PySem PySem.W PyProof.Rows
set_option maxRecDepth 100000 in
set_option maxHeartbeats 0 in
theorem PySem.Challenge.cw_dotpress_k38_texts_that_write_none_holds : PySem.Challenge.rw_dotpress_k38_texts_that_write_none.Holds := by
  w_on; o_law; k_head; (case hw => w_witness2)
  k_fill
  refine My.walk (l := PySem.Challenge.rw_dotpress_k38_texts_that_write_none) rfl rfl (fun w h Y => PySem.W.kIn_of Y) ?F
  case F =>
    intro w mg fa h KX G hmg
    refine' My.all_mk KX G hmg ?aC_OpenSum ?aC_PressError ?aC_TooFew ?aC_TooMany ?aC_TooWide ?aC_NoFormula ?aC_NoName ?aC_NoLine ?aC_NoCircuit ?aC_OutOfWidth ?a0 ?i0 ?l0 ?c0 ?k0 ?a1 ?i1 ?l1 ?c1 ?k1 ?a2 ?i2 ?l2 ?c2 ?k2 ?a3 ?i3 ?l3 ?c3 ?k3 ?a4 ?i4 ?l4 ?c4 ?k4 ?a5 ?l5 ?c5 ?k5 ?a6 ?l6 ?c6 ?k6 ?a7 ?l7 ?c7 ?k7 ?a8 ?l8 ?c8 ?k8 ?a9 ?l9 ?c9 ?k9 ?a10 ?l10 ?c10 ?k10 ?a11 ?l11 ?c11 ?k11 ?a12 ?l12 ?c12 ?k12 ?a13 ?l13 ?c13 ?k13 ?a14 ?l14 ?c14 ?k14 ?a15 ?l15 ?c15 ?k15 ?a16 ?l16 ?c16 ?k16 ?a17 ?l17 ?c17 ?k17 ?a18 ?l18 ?c18 ?k18 ?a19 ?l19 ?c19 ?k19 ?a20 ?l20 ?c20 ?k20 ?a21 ?l21 ?c21 ?k21 ?a22 ?l22 ?c22 ?k22 ?a23 ?l23 ?c23 ?k23 ?pg_OpenSum ?hd_OpenSum ?po_OpenSum ?sa_OpenSum ?kc_OpenSum ?mk_OpenSum ?n_OpenSum_total ?n_OpenSum_kind ?n_OpenSum_product ?n_OpenSum_turns ?fa_x_NoFormula ?fa_exm_nof ?fa_kany_nof ?fa_kone_nof ?fa_kval_nof ?fa_ga_nof ?fa_gt_nof ?fa_gc_nof ?fa_go_nof ?fa_gb_nof ?fa_gl_nof ?ga_MOST_LETTERS ?ga_GREATEST_NUMBER ?gb_SUM_KINDS ?gc_SUM_KINDS ?ge_SUM_KINDS ?z_ValueError ?z_all ?z_enumerate ?z_int ?z_isinstance ?z_len ?z_list ?z_range ?z_str
    (case aC_OpenSum => k_is)
    (case aC_PressError => k_is)
    (case aC_TooFew => k_is)
    (case aC_TooMany => k_is)
    (case aC_TooWide => k_is)
    (case aC_NoFormula => k_is)
    (case aC_NoName => k_is)
    (case aC_NoLine => k_is)
    (case aC_NoCircuit => k_is)
    (case aC_OutOfWidth => k_is)
    (case a0 => k_is)
    (case i0 => k_is)
    (case l0 => k_is)
    (case c0 => k_is)
    (case k0 => k_is)
    (case a1 => k_is)
    (case i1 => k_is)
    (case l1 => k_is)
    (case c1 => k_is)
    (case k1 => k_is)
    (case a2 => k_is)
    (case i2 => k_is)
    (case l2 => k_is)
    (case c2 => k_is)
    (case k2 => k_is)
    (case a3 => k_is)
    (case i3 => k_is)
    (case l3 => k_is)
    (case c3 => k_is)
    (case k3 => k_is)
    (case a4 => k_is)
    (case i4 => k_is)
    (case l4 => k_is)
    (case c4 => k_is)
    (case k4 => k_is)
    (case a5 => k_is)
    (case l5 => k_is)
    (case c5 => k_is)
    (case k5 => k_is)
    (case a6 => k_is)
    (case l6 => k_is)
    (case c6 => k_is)
    (case k6 => k_is)
    (case a7 => k_is)
    (case l7 => k_is)
    (case c7 => k_is)
    (case k7 => k_is)
    (case a8 => k_is)
    (case l8 => k_is)
    (case c8 => k_is)
    (case k8 => k_is)
    (case a9 => k_is)
    (case l9 => k_is)
    (case c9 => k_is)
    (case k9 => k_is)
    (case a10 => k_is)
    (case l10 => k_is)
    (case c10 => k_is)
    (case k10 => k_is)
    (case a11 => k_is)
    (case l11 => k_is)
    (case c11 => k_is)
    (case k11 => k_is)
    (case a12 => k_is)
    (case l12 => k_is)
    (case c12 => k_is)
    (case k12 => k_is)
    (case a13 => k_is)
    (case l13 => k_is)
    (case c13 => k_is)
    (case k13 => k_is)
    (case a14 => k_is)
    (case l14 => k_is)
    (case c14 => k_is)
    (case k14 => k_is)
    (case a15 => k_is)
    (case l15 => k_is)
    (case c15 => k_is)
    (case k15 => k_is)
    (case a16 => k_is)
    (case l16 => k_is)
    (case c16 => k_is)
    (case k16 => k_is)
    (case a17 => k_is)
    (case l17 => k_is)
    (case c17 => k_is)
    (case k17 => k_is)
    (case a18 => k_is)
    (case l18 => k_is)
    (case c18 => k_is)
    (case k18 => k_is)
    (case a19 => k_is)
    (case l19 => k_is)
    (case c19 => k_is)
    (case k19 => k_is)
    (case a20 => k_is)
    (case l20 => k_is)
    (case c20 => k_is)
    (case k20 => k_is)
    (case a21 => k_is)
    (case l21 => k_is)
    (case c21 => k_is)
    (case k21 => k_is)
    (case a22 => k_is)
    (case l22 => k_is)
    (case c22 => k_is)
    (case k22 => k_is)
    (case a23 => k_is)
    (case l23 => k_is)
    (case c23 => k_is)
    (case k23 => k_is)
    (case pg_OpenSum => k_is)
    (case hd_OpenSum => k_is)
    (case po_OpenSum => k_is)
    (case sa_OpenSum => k_is)
    (case kc_OpenSum => k_is)
    (case mk_OpenSum => k_is)
    (case n_OpenSum_total => k_is)
    (case n_OpenSum_kind => k_is)
    (case n_OpenSum_product => k_is)
    (case n_OpenSum_turns => k_is)
    (case fa_x_NoFormula => first | k_is | kit_is | kts_exm | k_exc)
    (case fa_exm_nof => first | k_is | kit_is | kts_exm | k_exc)
    (case fa_kany_nof => first | k_is | kit_is | kts_exm | k_exc)
    (case fa_kone_nof => first | k_is | kit_is | kts_exm | k_exc)
    (case fa_kval_nof => first | k_is | kit_is | kts_exm | k_exc)
    (case fa_ga_nof => first | k_is | kit_is | kts_exm | k_exc)
    (case fa_gt_nof => first | k_is | kit_is | kts_exm | k_exc)
    (case fa_gc_nof => first | k_is | kit_is | kts_exm | k_exc)
    (case fa_go_nof => first | k_is | kit_is | kts_exm | k_exc)
    (case fa_gb_nof => first | k_is | kit_is | kts_exm | k_exc)
    (case fa_gl_nof => first | k_is | kit_is | kts_exm | k_exc)
    (case ga_MOST_LETTERS => k_is)
    (case ga_GREATEST_NUMBER => k_is)
    (case gb_SUM_KINDS => k_is)
    (case gc_SUM_KINDS => k_is)
    (case ge_SUM_KINDS => exact rfl)
    (case z_ValueError => k_is)
    (case z_all => k_is)
    (case z_enumerate => k_is)
    (case z_int => k_is)
    (case z_isinstance => k_is)
    (case z_len => k_is)
    (case z_list => k_is)
    (case z_range => k_is)
    (case z_str => k_is)

